import PyProof.Rows.All
import Wide.All
import OpenK.AllK
import Wide.FinOn
import KE.KStateDown
import HandS.ForExc
import HandS.IsInst
import HandS.Wide
import HandS.Evl
import KE.KExcIs
import HandS.ExcInit
import HandS.ExcField
import HandS.ExcValue
import HandS.HeadHook2
import HandS.HeadEnd
import HandS.Head2
import HandS.ExcOwn
import HandS.Defaults
import KE.GoesMore
import HandS.Base
import HandS.Call
import HandS.List
import HandS.Iter
import HandS.Comp
import HandS.TupMul
import HandS.Walk
import HandS.Zip
import HandS.Gcd
import HandS.Style
import HandS.Conv
import HandS.TupAny
import HandS.Flt
import HandS.Head3
import PySem.Challenge.RW_sparedproducts_k63_whole_cut_outs_and_an
set_option Elab.async false
set_option linter.all false
set_option maxRecDepth 100000
set_option maxHeartbeats 0
set_option exponentiation.threshold 20000
namespace Dz
open PySem PySem.Spec PyProof.Rows L2
def tyD : PyData → String
  | .none => "NoneType"
  | .bool _ => "bool"
  | .int _ => "int"
  | .str _ => "str"
  | .list _ => "list"
  | .tuple _ => "tuple"
  | .dict _ => "dict"
def isaB (t c : String) : Bool := t == c || (t == "bool" && c == "int")
theorem kit_bi {K : PySem.W.Frag} (d : PyData) {c : String} (hc : c = "int" ∨ c = "bool" ∨ c = "list" ∨ c = "tuple") : PySem.W.kitOne K (.type (tyD d)) (.type c) = some (isaB (tyD d) c) := by
  rcases hc with rfl | rfl | rfl | rfl <;> cases d <;> kernel_rfl
/-- a tuple or a list of classes -/
theorem kit_lt {K : PySem.W.Frag} (d : PyData) : PySem.W.kitAny K (.type (tyD d)) [.type "list", .type "tuple"] = some (isaB (tyD d) "list" || isaB (tyD d) "tuple") := by
  unfold PySem.W.kitAny
  rw [kit_bi d (.inr (.inr (.inl rfl)))]
  unfold PySem.W.kitAny
  rw [kit_bi d (.inr (.inr (.inr rfl)))]
  unfold PySem.W.kitAny
  cases d <;> rfl
mutual
theorem dp_same {K : PySem.W.Frag} {H H' : Hp} (s : Same H H') : ∀ (d : PyData) (v : V), Dp K H v d → Dp K H' v d
  | .none, _, h => by cases h; exact .non
  | .bool b, _, h => by cases h; exact .bl b
  | .int i, _, h => by cases h; exact .int i
  | .str x, _, h => by cases h; exact .str x
  | .list ds, _, h => by
    cases h with
    | lst hs ha => exact .lst (Evl.ex_l s hs) (dp_sameAll s ds _ ha)
  | .tuple ds, _, h => by
    cases h with
    | tup hs ha => exact .tup (Evl.ex_t s hs) (dp_sameAll s ds _ ha)
  | .dict _, _, h => by cases h
theorem dp_sameAll {K : PySem.W.Frag} {H H' : Hp} (s : Same H H') : ∀ (ds : List PyData) (vs : List V), DpAll K H vs ds → DpAll K H' vs ds
  | [], _, h => by cases h; exact .nil
  | d :: ds, _, h => by
    cases h with
    | cons h1 h2 => exact .cons (dp_same s d _ h1) (dp_sameAll s ds _ h2)
end
section
variable {K : PySem.W.Frag} {H : Hp} {v : V} {d : PyData}
theorem ty_dp (h : Dp K H v d) : TyX K H v (.type (tyD d)) := by
  cases h with
  | non => exact .base .non
  | bl b => exact .base (.bl b)
  | int i => exact .base (.int i)
  | str x => exact .base (.str x)
  | lst hs _ =>
    rcases hs with (hs | ⟨o, hs⟩) | ⟨o, its, n, hk, hc, _⟩
    · exact .base (.lst hs)
    · exact .base (.frz hs)
    · exact .kList hk hc
  | tup hs _ =>
    rcases hs with (hs | ⟨o, hs⟩) | ⟨o, its, n, hk, hc, _⟩
    · exact .base (.tup hs)
    · exact .fTuple hs
    · exact .kTuple hk hc
/-- isinstance(v, c): what is asked -/
theorem rd_isi {c : String} {Q : VK} (h : Dp K H v d) (hc : c = "int" ∨ c = "bool" ∨ c = "list" ∨ c = "tuple") (q : Q (.bl (isaB (tyD d) c)) H) : rIsi K [v, .ty c] H Q :=
  ⟨v, .ty c, _, _, _, rfl, .ty c, ty_dp h, kit_bi d hc, q⟩
theorem rd_lt {p : Addr} {Q : VK} (h : Dp K H v d) (hp : H p = some (.tup [.ty "list", .ty "tuple"])) (q : Q (.bl (isaB (tyD d) "list" || isaB (tyD d) "tuple")) H) : rIsiT K [v, .ref p] H Q :=
  ⟨v, p, _, _, [.type "list", .type "tuple"], _, rfl, hp, .cons (.ty _) (.cons (.ty _) .nil), ty_dp h, kit_lt d, q⟩
end
/-- whole numbers, texts, None, couples of these .. -/
def Fine (d : PyData) : Prop := SeqAt.shaped d = true
theorem ifT {b : Bool} {A B : Prop} (h : b = true) (k : A) : if b = true then A else B := by
  rw [if_pos h]
  exact k
theorem ifF {b : Bool} {A B : Prop} (h : b = false) (k : B) : if b = true then A else B := by
  rw [if_neg (by rw [h]; exact Bool.false_ne_true)]
  exact k
theorem same_new {H : Hp} {a : Addr} {o : HO} (h : H a = none) : Same H (upd H a o) := fun b u e => by
  rw [upd_ne (ne_of_none e h)]
  exact e
/-- the limits of is_whole -/
def Lim : V → Option Int → Prop
  | .non, o => o = none
  | .int i, o => o = some i
  | _, _ => False
def wholeD : PyData → Option Int → Option Int → Bool
  | .int i, l, h => l.all (fun z => decide (z ≤ i)) && h.all (fun z => decide (i ≤ z))
  | _, _, _ => false
def ratioD : PyData → Bool
  | .tuple [.int t, .int b] => decide (1 ≤ b) && (Nat.gcd t.natAbs b.natAbs == 1)
  | _ => false
theorem dec1 (g : Nat) : decide (V.int (g : Int) = V.int 1) = (g == 1) := by
  by_cases z : g = 1
  · rw [z]
    rfl
  · rw [decide_eq_false fun q => z (by have := V.int.inj q; omega), beq_eq_false_iff_ne.mpr z]
/-- top and bottom in lowest terms -/
def divi (t b : Int) : Int := if b < 0 then -((Nat.gcd t.natAbs b.natAbs : Nat) : Int) else ((Nat.gcd t.natAbs b.natAbs : Nat) : Int)
def lowT (t b : Int) : Int := t.fdiv (divi t b)
def lowB (t b : Int) : Int := b.fdiv (divi t b)
/-- small enough for every deed: below a thousand bits and some -/
def Sm (i : Int) : Prop := i.natAbs < 2 ^ 1000
def Sm4 (i : Int) : Prop := i.natAbs < 2 ^ 4000
theorem divi_ne {t b : Int} (h : b ≠ 0) : divi t b ≠ 0 := by
  have h1 : 0 < Nat.gcd t.natAbs b.natAbs := Nat.gcd_pos_of_pos_right _ (by omega)
  unfold divi
  split <;> omega
theorem divi_abs {t b : Int} : (divi t b).natAbs = Nat.gcd t.natAbs b.natAbs := by
  unfold divi
  split <;> omega
theorem divi_le {t b : Int} (h : b ≠ 0) : (divi t b).natAbs ≤ b.natAbs := by
  rw [divi_abs]
  exact Nat.gcd_le_right _ (by omega)
/-- // by a wide number that is not 0 -/
def CDivZ (_ j : Int) : Prop := j ≠ 0 ∧ j.natAbs.log2 < 9000
theorem op_fdivZ {X : Cx} : OpR X (binaryOp .FloorDiv) (rI CDivZ fun i j => .int (i.fdiv j)) := opI fun _ _ _ _ _ _ _ hc q => floordiv_int hc.1 q (.inl (PyProof.noPylong_of_log2 hc.2))
theorem log_of {i : Int} {n : Nat} (h0 : 0 < n) (h : i.natAbs < 2 ^ n) : i.natAbs.log2 < n := PySem.Flt.log2_lt_of h0 h
end Dz
namespace Dz
open PySem PySem.Spec PyProof.Rows L2
theorem dp_tup {K : PySem.W.Frag} {H : Hp} {v : V} {ds : List PyData} (h : Dp K H v (.tuple ds)) : ∃ a xs, v = .ref a ∧ SqT K H a xs ∧ DpAll K H xs ds := by
  cases h with
  | tup hs ha => exact ⟨_, _, rfl, hs, ha⟩
theorem dpAll_cons {K : PySem.W.Frag} {H : Hp} {xs : List V} {d : PyData} {ds : List PyData} (h : DpAll K H xs (d :: ds)) : ∃ x r, xs = x :: r ∧ Dp K H x d ∧ DpAll K H r ds := by
  cases h with
  | cons h1 h2 => exact ⟨_, _, rfl, h1, h2⟩
theorem dpAll_nil {K : PySem.W.Frag} {H : Hp} {xs : List V} (h : DpAll K H xs []) : xs = [] := by
  cases h
  rfl
theorem dp_int {K : PySem.W.Frag} {H : Hp} {v : V} {i : Int} (h : Dp K H v (.int i)) : v = .int i := by
  cases h
  rfl
theorem dp_two {K : PySem.W.Frag} {H : Hp} {v : V} {t b : Int} (h : Dp K H v (.tuple [.int t, .int b])) : ∃ a, v = .ref a ∧ SqT K H a [.int t, .int b] := by
  obtain ⟨a, xs, e, hs, ha⟩ := dp_tup h
  obtain ⟨u, r, rfl, hu, hr⟩ := dpAll_cons ha
  obtain ⟨u2, r2, rfl, hu2, hr2⟩ := dpAll_cons hr
  have e3 := dpAll_nil hr2
  subst e3
  rw [dp_int hu, dp_int hu2] at hs
  exact ⟨a, e, hs⟩
theorem dp_of2 {K : PySem.W.Frag} {H : Hp} {a : Addr} {t b : Int} (hs : SqT K H a [.int t, .int b]) : Dp K H (.ref a) (.tuple [.int t, .int b]) := .tup hs (.cons (.int t) (.cons (.int b) .nil))
end Dz
set_option maxHeartbeats 2000000
set_option exponentiation.threshold 20000
namespace Mt
open PySem PySem.Spec L2 Dz
theorem divi_dvd_t {t b : Int} : divi t b ∣ t := by
  have h : ((Nat.gcd t.natAbs b.natAbs : Nat) : Int) ∣ t := Int.ofNat_dvd_left.mpr (Nat.gcd_dvd_left ..)
  unfold divi
  split
  · exact Int.neg_dvd.mpr h
  · exact h
theorem divi_dvd_b {t b : Int} : divi t b ∣ b := by
  have h : ((Nat.gcd t.natAbs b.natAbs : Nat) : Int) ∣ b := Int.ofNat_dvd_left.mpr (Nat.gcd_dvd_right ..)
  unfold divi
  split
  · exact Int.neg_dvd.mpr h
  · exact h
theorem lowT_abs {t b : Int} : (lowT t b).natAbs = t.natAbs / Nat.gcd t.natAbs b.natAbs := by
  unfold lowT
  rw [Int.fdiv_eq_ediv_of_dvd divi_dvd_t, Int.natAbs_ediv_of_dvd divi_dvd_t, divi_abs]
theorem lowB_abs {t b : Int} : (lowB t b).natAbs = b.natAbs / Nat.gcd t.natAbs b.natAbs := by
  unfold lowB
  rw [Int.fdiv_eq_ediv_of_dvd divi_dvd_b, Int.natAbs_ediv_of_dvd divi_dvd_b, divi_abs]
theorem lowB_pos {t b : Int} (h : b ≠ 0) : 1 ≤ lowB t b := by
  have e : lowB t b * divi t b = b := by
    unfold lowB
    rw [Int.fdiv_eq_ediv_of_dvd divi_dvd_b]
    exact Int.ediv_mul_cancel divi_dvd_b
  have g : 0 < Nat.gcd t.natAbs b.natAbs := Nat.gcd_pos_of_pos_right _ (by omega)
  by_cases h0 : b < 0
  · have d : divi t b < 0 := by unfold divi; rw [if_pos h0]; omega
    refine Classical.byContradiction fun z => ?_
    have z2 : 0 ≤ lowB t b * divi t b := Int.mul_nonneg_of_nonpos_of_nonpos (by omega) (by omega)
    omega
  · have d : 0 < divi t b := by unfold divi; rw [if_neg h0]; omega
    refine Classical.byContradiction fun z => ?_
    have z2 : lowB t b * divi t b ≤ 0 := Int.mul_nonpos_of_nonpos_of_nonneg (by omega) (by omega)
    omega
theorem low_gcd {t b : Int} (h : b ≠ 0) : Nat.gcd (lowT t b).natAbs (lowB t b).natAbs = 1 := by
  rw [lowT_abs, lowB_abs]
  exact Nat.gcd_div_gcd_div_gcd_of_pos_right (by omega)
/-- a couple in lowest terms is a ratio -/
def Low (t b : Int) : Prop := 1 ≤ b ∧ Nat.gcd t.natAbs b.natAbs = 1
theorem low_low {t b : Int} (h : b ≠ 0) : Low (lowT t b) (lowB t b) := ⟨lowB_pos h, low_gcd h⟩
theorem ratioD_low {t b : Int} (h : Low t b) : ratioD (.tuple [.int t, .int b]) = true := by
  show (decide (1 ≤ b) && (Nat.gcd t.natAbs b.natAbs == 1)) = true
  rw [decide_eq_true h.1, h.2]
  rfl
theorem lowT_le {t b : Int} : (lowT t b).natAbs ≤ t.natAbs := by
  rw [lowT_abs]
  exact Nat.div_le_self ..
theorem lowB_le {t b : Int} : (lowB t b).natAbs ≤ b.natAbs := by
  rw [lowB_abs]
  exact Nat.div_le_self ..
/-- a drawn fraction -/
structure Frac (t b : Int) : Prop where
  low : Low t b
  t1 : t.natAbs ≤ 1000000000
  b1 : b ≤ 12
theorem frac_low {t b : Int} (h1 : t.natAbs ≤ 1000000000) (h2 : 1 ≤ b) (h3 : b ≤ 12) : Frac (lowT t b) (lowB t b) := by
  refine ⟨low_low (by omega), Nat.le_trans lowT_le h1, ?_⟩
  have := lowB_le (t := t) (b := b)
  omega
theorem pow64 : (2 : Nat) ^ 64 ≤ 2 ^ 1000 := Nat.pow_le_pow_right (by decide) (by decide)
theorem sm_of {i : Int} (h : i.natAbs < 2 ^ 64) : Sm i := Nat.lt_of_lt_of_le h pow64
theorem sm4_of64 {i : Int} (h : i.natAbs < 2 ^ 64) : Sm4 i := Nat.lt_of_lt_of_le h (Nat.pow_le_pow_right (by decide) (by decide))
theorem Frac.smT {t b : Int} (h : Frac t b) : Sm t := sm_of (by have := h.t1; omega)
theorem Frac.smB {t b : Int} (h : Frac t b) : Sm b := sm_of (by have := h.b1; have := h.low.1; omega)
theorem Frac.ne {t b : Int} (h : Frac t b) : b ≠ 0 := by have := h.low.1; omega
theorem mul_lt64 {i j : Int} (hi : i.natAbs ≤ 2 ^ 31) (hj : j.natAbs ≤ 2 ^ 31) : (i * j).natAbs ≤ 2 ^ 62 := by
  rw [Int.natAbs_mul]
  exact Nat.le_trans (Nat.mul_le_mul hi hj) (by decide)
theorem Frac.a31 {t b : Int} (h : Frac t b) : t.natAbs ≤ 2 ^ 31 := by have := h.t1; omega
theorem Frac.b31 {t b : Int} (h : Frac t b) : b.natAbs ≤ 2 ^ 31 := by have := h.b1; have := h.low.1; omega
theorem half {x y : Nat} (hy : 0 < y) (h : y ≤ x) : 2 * (x % y) ≤ x := by
  have h1 := Nat.mod_lt x hy
  have h2 := Nat.div_add_mod x y
  have h3 : 1 ≤ x / y := Nat.div_pos h hy
  have h4 : y * 1 ≤ y * (x / y) := Nat.mul_le_mul_left y h3
  omega
theorem step_lt {x y n : Nat} (hy : 0 < y) (h : y ≤ x) (hl : x * y < 2 ^ (n + 1)) : y * (x % y) < 2 ^ n := by
  have h1 := half hy h
  have h2 : y * (2 * (x % y)) ≤ y * x := Nat.mul_le_mul_left y h1
  have e : y * (2 * (x % y)) = 2 * (y * (x % y)) := by
    rw [← Nat.mul_assoc, Nat.mul_comm y 2, Nat.mul_assoc]
  rw [e, Nat.mul_comm y x] at h2
  rw [Nat.pow_succ] at hl
  omega
theorem gcd_step (x y : Nat) : Nat.gcd y (x % y) = Nat.gcd x y := by
  rw [Nat.gcd_comm x y, Nat.gcd_rec y x, Nat.gcd_comm]
theorem undo {i j r p : Int} (h0 : 0 ≤ i) (h1 : i < p) (h : j * r % p = 1) : i * r % p * j % p = i := by
  have e : i * r % p * j % p = i * r * j % p := by
    rw [Int.mul_emod (i * r % p) j p, Int.emod_emod_of_dvd _ (Int.dvd_refl p), ← Int.mul_emod]
  have e2 : i * r * j = i * (j * r) := by
    rw [Int.mul_assoc, Int.mul_comm r j]
  rw [e, e2, Int.mul_emod, h, Int.mul_one, Int.emod_emod_of_dvd _ (Int.dvd_refl p), Int.emod_eq_of_lt h0 h1]
theorem undo0 {a b r p : Int} (h : b % p * r % p = 1) : (a % p * r % p * b - a) % p = 0 := by
  have e : a % p * r % p * b % p = a % p := by
    rw [Int.mul_emod (a % p * r % p) b p, Int.emod_emod_of_dvd _ (Int.dvd_refl p), ← Int.mul_emod]
    have e2 : a % p * r * b % p = a % p * (b % p * r) % p := by
      rw [Int.mul_assoc, Int.mul_emod (a % p) (r * b) p, Int.mul_comm r b, Int.mul_emod b r p, Int.mul_emod (a % p) (b % p * r) p, Int.mul_emod (b % p) r p]
      rw [Int.emod_emod_of_dvd b (Int.dvd_refl p)]
    rw [e2, Int.mul_emod, h, Int.mul_one, Int.emod_emod_of_dvd _ (Int.dvd_refl p), Int.emod_emod_of_dvd _ (Int.dvd_refl p)]
  rw [Int.sub_emod, e, Int.sub_self, Int.zero_emod]
end Mt
namespace Kx
open PySem PySem.Spec PyProof.Rows L2
/-- what is asked of an error class at C, a child of the class at P -/
structure Er (K : PySem.W.Frag) (P C : Addr) : Prop where
  ox : OexC K C
  mro : ∃ cd, PySem.W.clsIn K C = some cd ∧ cd.mro = .ref C :: .ref P :: PySem.HandSPX.veTail
  ga : PySem.W.findIn K (.ref C) "__getattribute__" = some (some (.builtin "BaseException.__getattribute__"))
  gg : PySem.W.findIn K (.ref C) "__getattr__" = some none
  hd : PySem.W.hasDictIn K C = true
  ca : PySem.W.findIn K (.ref C) "__class__" = some (some (.builtin "object.__class__"))
/-- what is asked of object.__class__ -/
structure Gt (K : PySem.W.Frag) : Prop where
  hn : PySem.W.specialIn K (.builtin "object.__class__") "__get__" = some (some (.builtin "getset_descriptor.__get__"))
  ht : PySem.W.takesIn K (.builtin "object.__class__") = some true
section
variable {K : PySem.W.Frag} {P C D : Addr}
theorem Er.xf (e : Er K P C) : XfC K C := ⟨e.ga, e.gg, e.ox.exC, e.hd⟩
theorem Er.mroIn (e : Er K P C) (b : Value) : PySem.W.mroIn K C b = some ((Value.ref C :: .ref P :: PySem.HandSPX.veTail).contains b) := by
  obtain ⟨cd, h1, h2⟩ := e.mro
  unfold PySem.W.mroIn
  rw [h1, Option.bind_some, h2]
  rfl
theorem Er.kit (e : Er K P C) (g : Gt K) {x : Addr} {ox : Obj} {od : Option Obj} : PySem.W.KitX K (.ref x) (.ref C) (fun h => PySem.W.InstAt h x ox C od) :=
  PySem.W.kitx_exc (by obtain ⟨cd, h1, _⟩ := e.mro; rw [h1]; rfl) e.ga e.gg e.ox.exC e.ca g.hn g.ht (by rw [e.mroIn]; rfl)
/-- isinstance of an instance of C against the class at D -/
theorem Er.one (e : Er K P C) (d : Er K P D) (hP : D ≠ P) : PySem.W.kitOne K (.ref C) (.ref D) = some (decide (C = D)) := by
  unfold PySem.W.kitOne
  by_cases h : C = D
  · subst h
    rw [if_pos (beq_self_eq_true _), decide_eq_true rfl]
  · have hb : (Value.ref C == Value.ref D) = false := beq_eq_false_iff_ne.mpr fun z => h (Value.ref.inj z)
    rw [if_neg (by rw [hb]; exact Bool.false_ne_true), decide_eq_false h]
    unfold PySem.W.kitCls
    obtain ⟨cd, h1, _⟩ := d.mro
    have z : ((PySem.W.clsIn K D).isSome && PySem.W.typeIn K (.ref D) == some (.type "type")) = true := by rw [h1, d.ox.tyC]; rfl
    show (if ((PySem.W.clsIn K D).isSome && PySem.W.typeIn K (.ref D) == some (.type "type")) = true then PySem.W.subIn K (.ref C) (.ref D) else none) = some false
    rw [if_pos z]
    show PySem.W.mroIn K C (.ref D) = some false
    rw [e.mroIn]
    have h2 : (Value.ref D == Value.ref C) = false := beq_eq_false_iff_ne.mpr fun z => h (Value.ref.inj z).symm
    have h3 : (Value.ref D == Value.ref P) = false := beq_eq_false_iff_ne.mpr fun z => hP (Value.ref.inj z)
    rw [List.contains_cons, List.contains_cons, h2, h3]
    rfl
/-- .. against their parent -/
theorem Er.up (e : Er K P C) (hP : (PySem.W.clsIn K P).isSome = true ∧ PySem.W.typeIn K (.ref P) = some (.type "type")) (h : C ≠ P) : PySem.W.kitOne K (.ref C) (.ref P) = some true := by
  unfold PySem.W.kitOne
  have hb : (Value.ref C == Value.ref P) = false := beq_eq_false_iff_ne.mpr fun z => h (Value.ref.inj z)
  rw [if_neg (by rw [hb]; exact Bool.false_ne_true)]
  have z : ((PySem.W.clsIn K P).isSome && PySem.W.typeIn K (.ref P) == some (.type "type")) = true := by rw [hP.1, hP.2]; rfl
  show (if ((PySem.W.clsIn K P).isSome && PySem.W.typeIn K (.ref P) == some (.type "type")) = true then PySem.W.subIn K (.ref C) (.ref P) else none) = some true
  rw [if_pos z]
  show PySem.W.mroIn K C (.ref P) = some true
  rw [e.mroIn, List.contains_cons, List.contains_cons, beq_self_eq_true, Bool.true_or, Bool.or_true]
theorem Er.ve (e : Er K P C) : PySem.W.kitOne K (.ref C) (.type "ValueError") = some true := by
  unfold PySem.W.kitOne
  rw [if_neg (by rw [show (Value.ref C == Value.type "ValueError") = false from rfl]; exact Bool.false_ne_true)]
  show (if PySem.W.kitMeta "ValueError" = true then PySem.W.subIn K (.ref C) (.type "ValueError") else none) = some true
  rw [if_pos (by decide +kernel)]
  show PySem.W.mroIn K C (.type "ValueError") = some true
  rw [e.mroIn]
  rfl
end
/-- at a an exception of the class at C whose fields are fs -/
def ExAt (H : Hp) (a C : Addr) (fs : List (Str × V)) : Prop := (fs = [] ∧ H a = some (exo a C none)) ∨ ∃ d, H a = some (exo a C (some d)) ∧ H d = some (exd d fs)
theorem ExAt.same {H H' : Hp} {a C : Addr} {fs : List (Str × V)} (s : Same H H') (e : ExAt H a C fs) : ExAt H' a C fs := by
  rcases e with ⟨h, e⟩ | ⟨d, e1, e2⟩
  · exact .inl ⟨h, s _ _ e⟩
  · exact .inr ⟨d, s _ _ e1, s _ _ e2⟩
section
variable {X : Cx} {P C : Addr} {pins : List (Addr × Obj)} {σ : L2.St} {H : Hp} {s : Shared}
theorem ExAt.inst {a : Addr} {fs : List (Str × V)} (I : Inv X pins σ H s) (e : ExAt H a C fs) :
    ∃ (ox : Obj) (od : Option Obj), PySem.W.InstAt s.heap a ox C od ∧ ∀ n v, fs.lookup n = some v → ∃ (o : Obj) (u : Value), od = some o ∧ PySem.W.lookIn n o = some (some u) ∧ RelV v u := by
  rcases e with ⟨rfl, e⟩ | ⟨d, e1, e2⟩
  · obtain ⟨t1, ho⟩ := exo_at I.hok e
    exact ⟨_, none, ⟨ho, rfl, rfl, trivial⟩, fun n v h => nomatch h⟩
  · obtain ⟨t1, ho⟩ := exo_at I.hok e1
    obtain ⟨mA, hns, rel⟩ := exd_at I.hok e2
    obtain ⟨od, hod, hl⟩ := lookIn_ns hns
    refine ⟨_, some od, ⟨ho, rfl, rfl, hod⟩, fun n v h => ?_⟩
    obtain ⟨u, hu, ru⟩ := RelO.some_of (v := v) (o := mA n) (by rw [← h]; exact rel n)
    exact ⟨od, u, rfl, by rw [hl, hu], ru⟩
/-- isinstance(e, c), e such an exception -/
def rIsX (K : PySem.W.Frag) (P : Addr) : List V → Hp → VK → Prop := fun xs H Q => ∃ (a C : Addr) (fs : List (Str × V)) (c : V) (cv : Value) (b : Bool), xs = [.ref a, c] ∧ ExAt H a C fs ∧ Er K P C ∧ ClsW c cv ∧ PySem.W.kitOne K (.ref C) cv = some b ∧ Q (.bl b) H
where ClsW : V → Value → Prop
  | .ty n, u => u = .type n
  | .ref C, u => u = .ref C
  | _, _ => False
theorem call_isX (g : Gt X.K) : CallR X (.builtin "isinstance") (rIsX X.K P) := by
  intro pins s σ H xs us Q I r h
  obtain ⟨a, C, fs, c, cv, b, rfl, ea, er, hc, e, q⟩ := h
  obtain ⟨u1, u2, rfl, r1, r2⟩ := vals2 r
  cases (show u1 = Value.ref a from r1)
  have e2 : u2 = cv := by
    cases c with
    | ty n => exact (show u2 = Value.type n from r2).trans (show cv = Value.type n from hc).symm
    | ref D => exact (show u2 = Value.ref D from r2).trans (show cv = Value.ref D from hc).symm
    | _ => exact False.elim hc
  subst e2
  obtain ⟨ox, od, J, _⟩ := ea.inst I
  exact PySem.W.kia_one (er.kit g) I.kIn J e (fun z => nomatch z) fun tk => ⟨.bl b, H, I.tok tk, rfl, q⟩
/-- e.f, e such an exception -/
def tXv (K : PySem.W.Frag) (P : Addr) (f : Str) (te : TE) : TE := fun σ H Q => te σ H fun x H1 => ∃ (a C : Addr) (fs : List (Str × V)) (v : V), x = .ref a ∧ ExAt H1 a C fs ∧ Er K P C ∧ PySem.W.findIn K (.ref C) f = some none ∧ fs.lookup f = some v ∧ Q v H1
theorem pe_xv {e : Expr} {te : TE} {f : Str} {pos : Pos} (he : PE X e te) (hb : attributeBase e f X.env (eval e X.env) = eval e X.env := by rfl) : PE X (.Attribute e f pos) (tXv X.K P f te) := by
  refine ⟨fun pins s σ H Q I h => attr_of hb (thn (he.run pins s σ H _ I h) fun u s1 hh => ?_)⟩
  obtain ⟨x, H1, I1, rx, a, C, fs, v, ex, ea, er, hno, hl, q⟩ := hh
  subst ex
  cases (show u = Value.ref a from rx)
  obtain ⟨ox, od, J, hv⟩ := ea.inst I1
  obtain ⟨o, u, rfl, hu, ru⟩ := hv f v hl
  exact PySem.HandSPX.exc_get I1.kIn J er.ga er.gg er.ox.exC (PySem.W.findObj_own er.hd hno rfl hu) (handed_of ru) ⟨v, H1, I1.tok _, ru, q⟩
/-- C(), no __init__ of its own -/
theorem pe_bare {x : Str} {p pos : Pos} (q : PySem.W.excIn X.K C PySem.HandSPX.veTail "ValueError.__new__" = true) (gC : X.mg x = some (.ref C)) (kC : PySem.W.keepIn X.K (.ref C) = true) (hg : Gl X x) (hdb : (x == ("__debug__" : Str)) = false := by decide) :
    PE X (.Call (.Name x p) [] [] pos) (fun _ H Q => ∀ a, H a = none → Q (.ref a) (upd H a (exo a C none))) := by
  refine ⟨fun pins s σ H Q I h => wpAny_Call_Name_kw (ld_glob I hg gC (PySem.W.callWith_K0 I.kIn kC ?_) hdb)⟩
  show wpAny _ _ (call (.ref C) []) _ _ _
  obtain ⟨bm, N, nm, qn, bs, hdct, sn, sub, ab, col, dd, k0, k1, k2, k3, k5, mN, hC, hN, hni, T⟩ := exc_obj I.kIn q
  refine wpAny_call_exc_subT PySem.F.excBase_ValueError T hC hN hni (fun h' a hm => ?_) (Nat.zero_le _)
  have hn : H a = none := I.hok.gone hm.new
  obtain ⟨t, ht, _, _⟩ := hm.there
  exact ⟨.ref a, _, I.laidN hm.keeps hm.new hn (exo_ok ht), rfl, h a hn⟩
end
end Kx
namespace Ky
open PySem PySem.Spec PyProof.Rows L2 Kx
/-- __init__ of the class at C keeps what it is handed, under names fl gives -/
def spIn (C : Addr) (n : Nat) (fl : List V → List (Str × V)) : Sp := fun vs H Q _ => ∃ (a : Addr) (xs : List V), vs = .ref a :: xs ∧ xs.length = n ∧ H a = some (exo a C none) ∧
  ∀ (d : Addr) (H' : Hp), H d = none → (∀ b o, b ≠ a → H b = some o → H' b = some o) → H' a = some (exo a C (some d)) → H' d = some (exd d (fl xs)) → Q .non H'
def fl1 (f : Str) : List V → List (Str × V)
  | [x] => [(f, x)]
  | _ => []
def fl2 (f g : Str) : List V → List (Str × V)
  | [x, y] => [(g, y), (f, x)]
  | _ => []
section
variable {X : Cx} {K : PySem.W.Frag} {P C : Addr}
/-- the reading of: self.f = (slot 1) -/
theorem rd1 {f : Str} {Q : VK} {E : XK} {vs : List V} {H : Hp} {N : List Str} (hN : N.length = 2) (er : Er K P C) (n1 : PySem.W.findIn K (.ref C) f = some none) (h : spIn C 1 (fl1 f) vs H Q E) :
    tOst K f (tVar 0) (tVar 1) { nx := fun _ H' => Q .non H', rt := Q } (start N vs) H := by
  obtain ⟨a, xs, rfl, hl, ha, k⟩ := h
  match xs, hl, k with
  | [x], _, k =>
    refine ⟨x, rfl, .ref a, rfl, a, C, rfl, er.ox, n1, .inl ⟨ha, fun d hd hne => ?_⟩⟩
    refine k d _ hd (fun b o hb e => ?_) upd_same ?_
    · rw [upd_ne hb, upd_ne (ne_of_none e hd)]
      exact e
    · rw [upd_ne hne, upd_same]
      rfl
/-- .. self.f = (slot 1); self.g = (slot 2) -/
theorem rd2 {f g : Str} {Q : VK} {E : XK} {vs : List V} {H : Hp} {N : List Str} (hN : N.length = 3) (er : Er K P C) (n1 : PySem.W.findIn K (.ref C) f = some none) (n2 : PySem.W.findIn K (.ref C) g = some none) (h : spIn C 2 (fl2 f g) vs H Q E) :
    tSeq (tOst K f (tVar 0) (tVar 1)) (tOst K g (tVar 0) (tVar 2)) { nx := fun _ H' => Q .non H', rt := Q } (start N vs) H := by
  obtain ⟨a, xs, rfl, hl, ha, k⟩ := h
  match xs, hl, k with
  | [x, y], _, k =>
    refine ⟨x, rfl, .ref a, rfl, a, C, rfl, er.ox, n1, .inl ⟨ha, fun d hd hne => ?_⟩⟩
    refine ⟨y, rfl, .ref a, rfl, a, C, rfl, er.ox, n2, .inr ⟨d, [(f, x)], upd_same, by rw [upd_ne hne, upd_same], by show 1 ≤ 900; decide, ?_⟩⟩
    refine k d _ hd (fun b o hb e => ?_) ?_ upd_same
    · rw [upd_ne (ne_of_none e hd), upd_ne hb, upd_ne (ne_of_none e hd)]
      exact e
    · rw [upd_ne hne.symm, upd_same]
/-- C(e, ..) as a value -/
def tMkV (C : Addr) (sp : Sp) (ta : TA) : TE := fun σ H Q => ta σ H fun vs H1 => ∀ a, H1 a = none → sp (.ref a :: vs) (upd H1 a (exo a C none)) (fun v H2 => v = .non ∧ Q (.ref a) H2) (fun _ _ _ => False)
theorem pe_oex {CX : CXT} {x : Str} {fI : Addr} {k : Nat} {fd : FuncData} {ps : List Str} {sp : Sp} {e : Expr} {es : List Expr} {ta : TA} {p pos : Pos} (T : OexC X.K C) (iC : PySem.W.findIn X.K (.ref C) "__init__" = some (some (.ref fI))) (tI : PySem.W.typeIn X.K (.ref fI) = some (.type "function"))
    (F1 : FnOk X.prog X.w X.K X.mg X.base CX k fI fd ps sp) (hr : Room (k + 1) X.A) (hb : L2.Binds X.K fd ps []) (hx : Passes CX X (fun _ _ _ => False)) (hg : Gl X x) (hm : X.mg x = some (.ref C)) (ha : PA X (e :: es) ta) (hps : ps.length ≤ 100)
    (hdb : (x == ("__debug__" : Str)) = false := by decide) (he : starEach (e :: es) X.env = (false, eval e X.env) :: starEach es X.env := by rfl) (hpl : (backTo pos (starEach es X.env)).any (·.1) = false := by rfl) :
    PE X (.Call (.Name x p) (e :: es) [] pos) (tMkV C sp ta) := by
  refine ⟨fun pins s σ H Q I h => wpAny_Call_Name_kw (ld_glob I hg hm (PySem.W.callWith_K (h₀ := X.base) I.ok.mod.kin T.kC (thn (ha.run pos pins s σ H _ I h) fun us s1 ⟨vs, H1, I1, r1, q1⟩ => ⟨I1.kIn, ?_⟩) he hpl) hdb)⟩
  obtain ⟨nm, q, N, bs, bm, sn, sub, ab, col, dd, k0, k1, k2, k3, k5, hC, hbm⟩ := T.cls
  show wpAny _ _ (call (.ref C) us) _ _ _
  obtain ⟨hp, g, dr, tk, os⟩ := s1
  have hn : H1 (hp.objs.size + 1) = none := I1.hok.fresh (Nat.le_succ _)
  have hq := q1 (hp.objs.size + 1) hn
  have I2 : Inv X pins σ (upd H1 (hp.objs.size + 1) (exo (hp.objs.size + 1) C none)) ⟨(hp.push (PySem.W.kdv_tup us)).push (PySem.HandSPX.excO C hp.objs.size), g, dr, tk, os⟩ :=
    I1.laid (t' := tk) (a := hp.objs.size + 1) (fun b o e => Heap.get?_push_of_some _ (Heap.get?_push_of_some _ e)) (Nat.le_succ _) (exo_ok (t1 := hp.objs.size) (by heap_get))
  have r2 : Vals (V.ref (hp.objs.size + 1) :: vs) (Value.ref (hp.objs.size + 1) :: us) := .cons rfl r1
  have hl : (Value.ref (hp.objs.size + 1) :: us).length = ps.length := by
    rw [← r2.length]
    exact F1.len _ _ _ _ hq
  have hus : us.length ≤ sizeLine := by
    rw [List.length_cons] at hl
    rw [sizeLine_eq]
    omega
  have hb2 := hb ⟨(hp.push (PySem.W.kdv_tup us)).push (PySem.HandSPX.excO C hp.objs.size), g, dr, tk, os⟩ (Value.ref (hp.objs.size + 1) :: us) I2.kIn (by rw [List.append_nil]; exact hl)
  rw [List.append_nil] at hb2
  refine wpAny_call (PySem.HandSPX.call_own F.excBase_ValueError (fun Y => PySem.HandSPX.refsVE_contains Y bm hbm) (I1.kIn _ _ hC) (PySem.W.looks_findIn I1.kIn iC) (fun self => PySem.W.bind_fn I1.kIn self tI) hus ?_)
  refine codeAny_mono (F1.run _ X.stack _ _ ⟨Value.ref (hp.objs.size + 1) :: us, []⟩ _ _ _ (fun _ _ _ => False) (hr.make C us []) (I2.env0.make C us []) hb2 r2 hq) fun r s' hq' => ?_
  cases r with
  | error er => exact hx pins σ _ _ er s' I2 hq'
  | ok fl =>
    cases fl with
    | ret u =>
      obtain ⟨v, H', I3, rv, ev, q3⟩ := I2.after hq'
      subst ev
      exact ⟨rv, .ref (hp.objs.size + 1), H', I3, rfl, q3⟩
    | next => exact False.elim hq'
    | brk => exact False.elim hq'
    | cont => exact False.elim hq'
end
end Ky
namespace Re
open PySem PySem.Spec PyProof.Rows L2 Kx Ky
section
variable {X : Cx} {C : Addr}
theorem pmk_bare {x : Str} {p pos : Pos} (q : PySem.W.excIn X.K C PySem.HandSPX.veTail "ValueError.__new__" = true) (gC : X.mg x = some (.ref C)) (kC : PySem.W.keepIn X.K (.ref C) = true) (r : Raises X (.ref C)) (hg : Gl X x) (hdb : (x == ("__debug__" : Str)) = false := by decide) :
    PMk X (.Call (.Name x p) [] [] pos) (fun _ H Q => Q (.ref C) none H) := by
  intro pins s σ H Q I h
  refine wpAny_Call_Name_kw (ld_glob I hg gC (PySem.W.callWith_K0 I.kIn kC ?_) hdb)
  show wpAny _ _ (call (.ref C) []) _ _ _
  obtain ⟨bm, N, nm, qn, bs, hdct, sn, sub, ab, col, dd, k0, k1, k2, k3, k5, mN, hC, hN, hni, T⟩ := exc_obj I.kIn q
  exact wpAny_call_exc_subT PySem.F.excBase_ValueError T hC hN hni (fun h' e hm => mk_of I hm r h (I.hok.gone hm.new)) (Nat.zero_le _)
end
/-- what the held exception is: of the class at C; its dict, where it has one, holds fs -/
def Hd (H : Hp) (cls : Value) (d : Option Addr) (C : Addr) : Prop := cls = .ref C ∧ (d = none ∨ ∃ dd fs, d = some dd ∧ H dd = some (.xd fs))
/-- isinstance(e, c), e the exception that a suite holds -/
def rIsS (K : PySem.W.Frag) (P a : Addr) (cls : Value) (d : Option Addr) : List V → Hp → VK → Prop := fun xs H Q => ∃ (C : Addr) (c : V) (cv : Value) (b : Bool), xs = [.ref a, c] ∧ Hd H cls d C ∧ Er K P C ∧ rIsX.ClsW c cv ∧ PySem.W.kitOne K (.ref C) cv = some b ∧ Q (.bl b) H
theorem call_isS {X : Cx} {P a : Addr} {oe : Obj} {cls : Value} {d : Option Addr} {pn : List (Addr × Obj)} (g : Gt X.K) (hz : Zc cls d oe) (hf : ∃ vs, oe.data = .fields vs) : CallR (X.suite a ((a, oe) :: pn)) (.builtin "isinstance") (rIsS X.K P a cls d) := by
  intro pins s σ H xs us Q I r h
  obtain ⟨C, c, cv, b, rfl, ⟨rfl, hd⟩, er, hc, e, q⟩ := h
  obtain ⟨u1, u2, rfl, r1, r2⟩ := vals2 r
  cases (show u1 = Value.ref a from r1)
  have e2 : u2 = cv := by
    cases c with
    | ty n => exact (show u2 = Value.type n from r2).trans (show cv = Value.type n from hc).symm
    | ref D => exact (show u2 = Value.ref D from r2).trans (show cv = Value.ref D from hc).symm
    | _ => exact False.elim hc
  subst e2
  obtain ⟨ho, _⟩ := I.pin (a, oe) (List.mem_append_left _ (List.mem_cons_self ..))
  obtain ⟨vs, hv⟩ := hf
  have no : PySem.W.notCls oe = true := by unfold PySem.W.notCls; rw [hv] <;> rfl
  have fin : ∀ od, PySem.W.InstAt s.heap a oe C od → wpAny (model X.prog X.w) (X.suite a ((a, oe) :: pn)).A (call (.builtin "isinstance") [.ref a, u2]) (EP (X.suite a ((a, oe) :: pn)) pins σ Q) (X.suite a ((a, oe) :: pn)).xe s := fun od J =>
    PySem.W.kia_one (er.kit g) I.kIn J e (fun z => nomatch z) fun tk => ⟨.bl b, H, I.tok tk, rfl, q⟩
  rcases hd with rfl | ⟨dd, fs, rfl, hd⟩
  · exact fin none ⟨ho, hz.1, no, by rw [hz.2]; trivial⟩
  · obtain ⟨mA, hns, rel⟩ := (show ObjOk X.prog X.w H s.heap dd (.xd fs) from I.hok dd _ hd)
    obtain ⟨od, hod, _⟩ := lookIn_ns hns
    exact fin (some od) ⟨ho, hz.1, no, by rw [hz.2]; exact hod⟩
end Re
namespace Re
open PySem PySem.Spec PyProof.Rows L2 Kx Ky
theorem same_in {H H' : Hp} {a : Addr} {o : HO} (h : H a = none) (k : ∀ b u, b ≠ a → (upd H a o) b = some u → H' b = some u) : Same H H' := fun b u e =>
  k b u (ne_of_none e h) (by rw [upd_ne (ne_of_none e h)]; exact e)
theorem same_gone {H H' : Hp} {a d : Addr} {o o2 : HO} (ha : H a = none) (hd : H d = none) (k : ∀ b u, b ≠ a → (upd H a o) b = some u → H' b = some u) : Same H (upd (del H' a) d o2) := fun b u e => by
  rw [upd_ne (ne_of_none e hd), del_ne (ne_of_none e ha)]
  exact same_in ha k b u e
/-- what is asked where an error with one field is raised -/
theorem rd_mk1 {C : Addr} {f : Str} {v : V} {H : Hp} {Q : XK} (k : ∀ d H', Same H H' → H' d = some (.xd [(f, v)]) → Q (.ref C) (some d) H') :
    [v].length ≤ 1000 ∧ ∀ a, H a = none → spIn C 1 (fl1 f) (.ref a :: ([v] ++ [])) (upd H a (exo a C none))
      (fun v' H2 => v' = .non ∧ ∃ (d : Addr) (fs : List (Str × V)), H2 a = some (exo a C (some d)) ∧ H2 d = some (exd d fs) ∧ H d = none ∧ Q (.ref C) (some d) (upd (del H2 a) d (.xd fs))) (fun _ _ _ => False) := by
  refine ⟨by show 1 ≤ 1000; decide, fun a ha => ⟨a, [v], rfl, rfl, upd_same, fun q H1 hq kq e1 e2 => ⟨rfl, q, _, e1, e2, ?_, ?_⟩⟩⟩
  · have hqa : q ≠ a := fun z => by
      rw [z, upd_same] at hq
      cases hq
    rw [upd_ne hqa] at hq
    exact hq
  · have hqa : q ≠ a := fun z => by
      rw [z, upd_same] at hq
      cases hq
    rw [upd_ne hqa] at hq
    exact k q _ (same_gone ha hq kq) upd_same
end Re
namespace Rm
open PySem PySem.Spec PyProof.Rows L2
/-- nothing gets out -/
theorem passN {X : Cx} : Passes (L2.CX X.prog X.w) X E0 := by
  intro a b c d e f I h
  obtain ⟨_, _, _, _, _, _, _, _, _, _, _, _, no⟩ := h
  exact no.elim
section
variable {X : Cx} {CT : CXT} {n : Nat} {g C : Addr} {fd : FuncData} {ps : List Str} {sp : Sp} {E : L2.St → XK} {m x : Str} {p pos ap : Pos} {e o : Expr} {es : List Expr} {ta : TE} {t : TA}
def tMT (C : Addr) (m : Str) (sp : Sp) (E : L2.St → XK) (ta : TE) (t : TA) : TE := fun σ H Q =>
  ta σ H fun x H1 => ∃ a dx fs, x = .ref a ∧ H1 a = some (.ins C dx fs) ∧ fs.lookup m = none ∧
    t σ H1 fun vs H2 => sp (x :: vs) H2 Q (E σ)
/-- o.m(..) within a try -/
theorem pe_methT {pl : Sem Bool} (ho : PE X o ta) (c : Cls X.K C) (M : Meth X.K C m g)
    (F : FnOk X.prog X.w X.K X.mg X.base CT n g fd ps sp) (hr : Room n X.A) (B : L2.Binds X.K fd ps [])
    (hx : ∀ σ, PassesAt CT X σ (E σ)) (ha : PA X (e :: es) t)
    (h1 : starEach (e :: es) X.env = (false, eval e X.env) :: starEach es X.env := by rfl)
    (h2 : (backTo pos (starEach es X.env)).any (·.1) = false := by rfl)
    (h3 : eval (.Call (.Attribute o m ap) (e :: es) [] pos) X.env = (eval o X.env >>= fun ov => standAt ap.atName >>= fun _ => holding [ov] (getMethod ov m pl) >>= fun fo => callWith pos fo.1 fo.2 (backTo pos (starEach (e :: es) X.env)) (backToKw pos (keywordEach [] X.env))) := by rfl) :
    PE X (.Call (.Attribute o m ap) (e :: es) [] pos) (tMT C m sp E ta t) := by
  constructor
  intro pins s σ H Q I h
  refine PySem.W.methodCall_KW (pl := pl) (thn (ho.run pins s σ H _ I h) ?_) h3
  rintro u s1 ⟨y, H1, I1, ry, a, dx, fs, ey, ea, l, q⟩
  subst ey
  cases (show u = Value.ref a from ry)
  refine getmeth_ok I1 ea c M l (PySem.W.callWith_K (first := [.ref a]) (h₀ := X.base) I.ok.mod.kin M.kp (thn (ha.run pos pins s1 σ H1 _ I1 q) ?_) h1 h2)
  rintro us s2 ⟨vs, H2, I2, r, q2⟩
  exact ⟨I2.kIn, run_fnS (us := .ref a :: us) (vs := .ref a :: vs) F hr B (hx σ) I2 (.cons rfl r) q2⟩
def tMkT (C : Addr) (sp : Sp) (E : L2.St → XK) (t : TA) : TE := fun σ H Q =>
  t σ H fun vs H1 => ∀ x dx, H1 x = none → H1 dx = none → dx ≠ x →
    sp (.ref x :: vs) (upd (upd H1 dx (.own x)) x (.ins C dx [])) (fun v H2 => v = .non ∧ Q (.ref x) H2) (E σ)
/-- C(..) within a try -/
theorem pe_makeT (M : Mk X.K C g) (F : FnOk X.prog X.w X.K X.mg X.base CT n g fd ps sp) (hr : Room (n + 1) X.A) (hg : Gl X x) (hm : X.mg x = some (.ref C)) (B : L2.Binds X.K fd ps [])
    (hx : ∀ σ, PassesAt CT X σ (E σ)) (ha : PA X (e :: es) t) (hdb : (x == ("__debug__" : Str)) = false := by decide)
    (h1 : starEach (e :: es) X.env = (false, eval e X.env) :: starEach es X.env := by rfl)
    (h2 : (backTo pos (starEach es X.env)).any (·.1) = false := by rfl) :
    PE X (.Call (.Name x p) (e :: es) [] pos) (tMkT C sp E t) := by
  constructor
  intro pins s0 σ H0 Q I0 h0
  refine wpAny_Call_Name_kw (ld_glob I0 hg hm (PySem.W.callWith_K (h₀ := X.base) I0.ok.mod.kin M.kp (thn (ha.run pos pins s0 σ H0 _ I0 h0) ?_) h1 h2) hdb)
  rintro us s ⟨vs, H, I, r, h⟩
  refine ⟨I.kIn, ?_⟩
  show wpAny _ _ (call (.ref C) us) _ _ _
  have q := h (s.heap.objs.size + 1) s.heap.objs.size (I.hok.fresh (Nat.le_succ _)) (I.hok.fresh (Nat.le_refl _)) (Nat.ne_of_lt (Nat.lt_succ_self _))
  have I2 := Inv.made (C := C) I
  have r2 : Vals (V.ref (s.heap.objs.size + 1) :: vs) (Value.ref (s.heap.objs.size + 1) :: us) := .cons rfl r
  have hl : (Value.ref (s.heap.objs.size + 1) :: us).length = ps.length := by
    rw [← r2.length]
    exact F.len _ _ _ _ q
  have b2 := B _ (Value.ref (s.heap.objs.size + 1) :: us) I2.kIn (by rw [List.append_nil]; exact hl)
  rw [List.append_nil] at b2
  have run := F.run _ X.stack _ _ ⟨Value.ref (s.heap.objs.size + 1) :: us, []⟩ _ _ _ (E σ) (hr.make C us []) (I2.env0.make C us []) b2 r2 q
  refine wpAny_call (make_map (f := g) I.kIn M.makes M.init (beq_iff_eq.mp M.fn) (codeAny_mono run ?_))
  intro z s' hz
  cases z with
  | error er => exact hx σ pins _ _ er s' I2 hz
  | ok fl =>
    cases fl with
    | ret u =>
      obtain ⟨v, H', I3, rv, ev, q3⟩ := I2.after hz
      subst ev
      exact ⟨rv, V.ref (s.heap.objs.size + 1), H', I3, rfl, q3⟩
    | _ => exact False.elim hz
end
end Rm
namespace Kf
open PySem PySem.Spec PyProof.Rows L2 Kx
def erB (K : PySem.W.Frag) (P C : Addr) : Bool :=
  (match K.lookup C with
    | some ⟨.type t, _, .cls cd, sl⟩ => (match sl.toList with
      | [_, _, _, _, some (.builtin n), _] => t == "type" && (cd.mro == (Value.ref C :: .ref P :: PySem.HandSPX.veTail) && (n == "ValueError.__new__" && (!cd.hasDel && cd.hasDict)))
      | _ => false)
    | _ => false) &&
  (He.eqO (PySem.W.findIn K (.ref C) "__setattr__") (some (some (.builtin "object.__setattr__"))) &&
  (He.eqO (PySem.W.findIn K (.ref C) "__getattribute__") (some (some (.builtin "BaseException.__getattribute__"))) &&
  (He.eqO (PySem.W.findIn K (.ref C) "__getattr__") (some none) &&
  (He.eqO (PySem.W.findIn K (.ref C) "__class__") (some (some (.builtin "object.__class__"))) &&
  (decide (PySem.W.typeIn K (.ref C) = some (.type "type")) && PySem.W.keepIn K (.ref C))))))
theorem erB_ok {K : PySem.W.Frag} {P C : Addr} (h : erB K P C = true) : Er K P C := by
  obtain ⟨h1, h⟩ := He.ba h
  obtain ⟨h2, h⟩ := He.ba h
  obtain ⟨h3, h⟩ := He.ba h
  obtain ⟨h4, h⟩ := He.ba h
  obtain ⟨h5, h⟩ := He.ba h
  obtain ⟨h6, h7⟩ := He.ba h
  cases e : K.lookup C with
  | none =>
    rw [e] at h1
    cases h1
  | some o =>
    obtain ⟨oc, od, dt, sl⟩ := o
    rw [e] at h1
    cases oc with
    | type t =>
      cases dt with
      | cls cd =>
        obtain ⟨sl⟩ := sl
        match sl, h1, e with
        | [k0, k1, k2, k3, some (.builtin n), k5], h1, e =>
          obtain ⟨g1, g⟩ := He.ba (show (t == "type" && (cd.mro == (Value.ref C :: .ref P :: PySem.HandSPX.veTail) && (n == "ValueError.__new__" && (!cd.hasDel && cd.hasDict)))) = true from h1)
          obtain ⟨g2, g⟩ := He.ba g
          obtain ⟨g3, g⟩ := He.ba g
          obtain ⟨g4, g5⟩ := He.ba g
          obtain ⟨nm, bs, mro, ns, qn, hd, sn, sub, ab, col, del⟩ := cd
          have e1 : t = "type" := eq_of_beq g1
          have e2 : mro = Value.ref C :: .ref P :: PySem.HandSPX.veTail := beq_iff_eq.mp g2
          have e3 : n = "ValueError.__new__" := eq_of_beq g3
          have e4 : del = false := by
            cases del with
            | false => rfl
            | true => cases g4
          have e5 : hd = true := g5
          subst e1 e2 e3 e4 e5
          have hcl : PySem.W.clsIn K C = some { name := nm, bases := bs, mro := Value.ref C :: .ref P :: PySem.HandSPX.veTail, ns := ns, qualname := qn, hasDict := true, slotNames := sn, subclasses := sub, abstract := ab, collection := col, hasDel := false } := by
            unfold PySem.W.clsIn
            rw [e] <;> rfl
          have hsub : PySem.W.subIn K (.ref C) (.type "BaseException") = some true := by
            show PySem.W.mroIn K C (.type "BaseException") = some true
            unfold PySem.W.mroIn
            rw [hcl]
            rfl
          exact ⟨⟨⟨nm, qn, ns, bs, .ref P :: PySem.HandSPX.veTail, sn, sub, ab, col, od, k0, k1, k2, k3, k5, e, rfl⟩, He.eqO_ok h2, hsub, of_decide_eq_true h6, h7⟩, ⟨_, hcl, rfl⟩, He.eqO_ok h3, He.eqO_ok h4, by unfold PySem.W.hasDictIn; rw [hcl]; rfl, He.eqO_ok h5⟩
      | _ => cases h1
    | _ => cases dt <;> cases h1
/-- the hook: a check of the written part, and the defs -/
def hookX (n : Nat) (ck : PySem.W.Frag → Bool) (fn : List He.DefD) : PySem.W.Hook where
  α := Bool × He.AlD
  obs := fun s => (ck (He.frG s.heap.get? (He.asD s.heap.get? n)), He.obsD [] fn (He.frG s.heap.get? (He.asD s.heap.get? n)))
  val := fun _ => (true, He.valD fn)
  says := fun _ h => ∃ K : PySem.W.Frag, K.In h ∧ ck K = true ∧ He.SaysD [] fn K
  of := fun _ _ e => ⟨_, He.frG_in, (Prod.mk.inj e).1, (Prod.mk.inj e).2⟩
  keeps := fun _ _ _ ⟨K, hK, c⟩ k => ⟨K, PySem.W.Frag.In.keeps hK k, c⟩
def obX (n : Nat) (ck : PySem.W.Frag → Bool) (fn : List He.DefD) (g : Addr → Option Obj) : Bool × He.AlD := (ck (He.frG g (He.asD g n)), He.obsD [] fn (He.frG g (He.asD g n)))
theorem obX_eq {n : Nat} {ck : PySem.W.Frag → Bool} {fn : List He.DefD} {g : Addr → Option Obj} {s : Shared} (h : ∀ a, g a = s.heap.get? a) : obX n ck fn g = (hookX n ck fn).obs s := by
  have e : g = s.heap.get? := funext h
  rw [e] <;> rfl
end Kf
namespace Kq
open PySem PySem.Spec PyProof.Rows L2
def top (i : Nat) : Stmt := PySem.Challenge.pw_sparedproducts_k63_whole_cut_outs_and_an.main.body.getD i (.Pass ⟨0, 0, 0, 0⟩)
abbrev FnP (K : PySem.W.Frag) (x : Str) (st : Stmt) (f : Addr) (fd : FuncData) : Prop := FunD K x x (defArgs st) (defBody st) (defScope st) [] [] f fd
abbrev sHand : Stmt := top 40
abbrev sMixed : Stmt := top 41
abbrev sTake : Stmt := top 42
/-- a hand at a: its cells at c -/
structure HandAt (H : Hp) (a c : Addr) (cs : List Int) (p g t : Int) : Prop where
  l : H a = some (.lst [.ref c, .int p, .int g, .int t])
  c : H c = some (.lst (cs.map V.int))
  n : ∀ z ∈ cs, 0 ≤ z
  le : cs.length ≤ 63
  p0 : 0 ≤ p
  p1 : p ≤ cs.length
  g0 : 0 ≤ g
  t0 : 0 ≤ t
  t1 : t < 2147483648
theorem HandAt.ne {H : Hp} {a c : Addr} {cs : List Int} {p g t : Int} (h : HandAt H a c cs p g t) : c ≠ a := fun z => by
  have e := h.l
  rw [← z, h.c] at e
  have e2 := HO.lst.inj (Option.some.inj e)
  cases cs with
  | nil => cases e2
  | cons y ys => cases e2
theorem HandAt.same {H H' : Hp} {a c : Addr} {cs : List Int} {p g t : Int} (s : Same H H') (h : HandAt H a c cs p g t) : HandAt H' a c cs p g t :=
  ⟨s _ _ h.l, s _ _ h.c, h.n, h.le, h.p0, h.p1, h.g0, h.t0, h.t1⟩
def spHand (K : PySem.W.Frag) : Sp := fun vs H Q _ => ∃ (s : Addr) (ns : List Int), vs = [.ref s] ∧ SqL K H s (ns.map V.int) ∧ ns.length ≤ 63 ∧
  ∀ (a c : Addr) (cs : List Int) (t : Int) (H' : Hp), Same H H' → HandAt H' a c cs 0 0 t → Q (.ref a) H'
def spMixed : Sp := fun vs H Q _ => ∃ n t : Int, vs = [.int n, .int t] ∧ 0 ≤ n ∧ n < 2 ^ 40 ∧ 0 ≤ t ∧ t < 2 ^ 40 ∧ ∀ r : Int, 0 ≤ r → Q (.int r) H
/-- all but the hand's own list is as it was -/
def But (a : Addr) (H H' : Hp) : Prop := ∀ b o, b ≠ a → H b = some o → H' b = some o
def spTake : Sp := fun vs H Q _ => ∃ (a c : Addr) (cs : List Int) (p g t m : Int), vs = [.ref a, .int m] ∧ HandAt H a c cs p g t ∧ 0 < m ∧ m < 2 ^ 64 ∧
  ∀ (r p' g' t' : Int) (H' : Hp), 0 ≤ r → r < m → But a H H' → HandAt H' a c cs p' g' t' → Q (.int r) H'
/-- the names of the module -/
structure Tx (mg : Str → Option Value) (fM : Addr) : Prop where
  len : mg "len" = none
  int : mg "int" = none
  abs : mg "abs" = none
  mixed : mg "_law_mixed" = some (.ref fM)
section
variable {P : Program} {w : World} {K : PySem.W.Frag} {mg : Str → Option Value} {base : Heap} {f fM : Addr} {fd fdM : FuncData}
theorem scH : FnScope ["_law_script", "_law_total", "_law_cells", "_law_cell"] ["_law_script"] (defScope sHand) := ⟨rfl, rfl, rfl, by decide +kernel, rfl, by decide +kernel, by decide +kernel⟩
theorem scM : FnScope ["_law_number_here", "_law_turn", "_law_once", "_law_twice"] ["_law_number_here", "_law_turn"] (defScope sMixed) := ⟨rfl, rfl, rfl, by decide +kernel, rfl, by decide +kernel, by decide +kernel⟩
theorem scT : FnScope ["_law_hand_here", "_law_many", "_law_cell", "_law_rest"] ["_law_hand_here", "_law_many"] (defScope sTake) := ⟨rfl, rfl, rfl, by decide +kernel, rfl, by decide +kernel, by decide +kernel⟩
theorem ok_hand (F : FnP K "_law_hand" sHand f fd) (T : Tx mg fM) : FnOk P w K mg base CX0 1 f fd ["_law_script"] (spHand K) := by
  refine F.ok scH (fun vs H Q E h => ?_) (fun cdv A outer s H vs Q E hr h => ?_)
  · obtain ⟨a, ns, rfl, _⟩ := h
    rfl
  · obtain ⟨a, ns, rfl, hS, hlen, k⟩ := h
    refine ⟨_, PSs.nox (pss_cons (ps_set (i := 1) scH.nd rfl (Or.inl rfl) (pe_op op_add (pe_callB call_len (by rfl) T.len PySem.boot_len (pa_cons (pv 0) pa_nil)) pe_int))
      (pss_cons (ps_set (i := 2) scH.nd rfl (Or.inl rfl) (pe_lst pa_nil))
      (pss_cons (ps_for PassesOwn.never rfl (pi_list (pv 0)) (pg_name (i := 3) scH.nd rfl (Or.inl rfl))
        (pss_cons (ps_set (i := 1) scH.nd rfl (Or.inl rfl) (pe_op op_mod (pe_callTy call_int1 (by rfl) T.int PyProof.Rows.boot_int (pa_cons (pe_op op_add (pe_op op_mul (pv 1) pe_int) (pe_callTy call_int1 (by rfl) T.int PyProof.Rows.boot_int (pa_cons (pv 3) pa_nil))) pa_nil)) pe_int))
        (pss_one (ps_expr (pe_bm PySem.F.plainAttrs_list PySem.F.slot_list_append PySem.F.type_list_append mt_append (pv 2) (pa_cons (pe_callB call_abs (by rfl) T.abs (by decide +kernel) (pa_cons (pe_callTy call_int1 (by rfl) T.int PyProof.Rows.boot_int (pa_cons (pv 3) pa_nil)) pa_nil)) pa_nil))))))
      (pss_one (ps_ret (pe_lst (pa_cons (pv 2) (pa_cons pe_int (pa_cons pe_int (pa_cons (pv 1) pa_nil)))))))))), ?_⟩
    have hn2 : (ns.map V.int).length ≤ 63 := by rw [List.length_map]; exact hlen
    refine ⟨_, rfl, _, _, rfl, Or.inl ⟨_, hS, rfl⟩, _, _, rfl, rfl, Nat.zero_le _, fun c hc => ?_⟩
    have s0 : Same H (upd H c (.lst [])) := fun b o e => by
      rw [upd_ne (ne_of_none e hc)]
      exact e
    refine ⟨_, rfl, a, rfl, ⟨_, s0.seq hS⟩, for_list (K := K) (a := a) (xs := ns.map V.int) (fun i σ H2 => ∃ (cs : List Int) (t : Int) (v : Option V), σ = [some (.ref a), some (.int t), some (.ref c), v] ∧ Same H H2 ∧ H2 c = some (.lst (cs.map V.int)) ∧ (∀ z ∈ cs, 0 ≤ z) ∧ cs.length = i ∧ 0 ≤ t ∧ t < 2147483648)
      ⟨[], _, none, rfl, s0, upd_same, (fun z hz => nomatch hz), rfl, by omega, by omega⟩ (fun i σ H2 _ ⟨_, _, _, _, s2, _⟩ => s2.seq hS) ?_ ?_⟩
    · rintro i y σ H2 hi ⟨cs, t, v, rfl, s2, h2, hz, hk, t0, t1⟩
      obtain ⟨z, rfl⟩ : ∃ z, y = V.int z := by
        rw [List.getElem?_map] at hi
        cases e : ns[i]? with
        | none =>
          rw [e] at hi
          cases hi
        | some z =>
          rw [e] at hi
          exact ⟨z, (Option.some.inj hi).symm⟩
      have hil : i < (ns.map V.int).length := (List.getElem?_eq_some_iff.mp hi).1
      refine ⟨_, rfl, _, _, rfl, rfl, .inr ⟨by decide, by decide⟩, _, rfl, .inl ⟨_, rfl, _, _, rfl, rfl, .inl ⟨_, rfl, _, _, rfl, rfl, (by show (0 : Int) < 2147483563; decide), ?_⟩⟩⟩
      refine ⟨_, rfl, .inl ⟨rfl, _, SqL.of h2⟩, _, rfl, .inl ⟨_, rfl, _, rfl, c, _, _, rfl, rfl, h2, ?_, ?_⟩⟩
      · rw [List.length_map]
        exact small1000 (by omega)
      · refine ⟨cs ++ [if z < 0 then -z else z], _, _, rfl, ?_, ?_, ?_, ?_, ?_, ?_⟩
        · intro b o e
          by_cases hb : b = c
          · rw [hb, hc] at e
            cases e
          · rw [upd_ne hb]
            exact s2 b o e
        · rw [upd_same, List.map_append]
          rfl
        · intro x hx
          rcases List.mem_append.mp hx with hx | hx
          · exact hz x hx
          · rw [List.mem_singleton.mp hx]
            split <;> omega
        · rw [List.length_append, hk]
          rfl
        · exact Int.emod_nonneg _ (by decide)
        · exact Int.lt_trans (Int.emod_lt_of_pos _ (by decide)) (by decide)
    · rintro σ H2 ⟨cs, t, v, rfl, s2, h2, hz, hk, t0, t1⟩
      refine ⟨_, rfl, _, rfl, (by show 4 ≤ sizeLine; decide), fun p hp => ?_⟩
      have hcp : c ≠ p := ne_of_none h2 hp
      refine k p c cs t _ (fun b o e => ?_) ⟨upd_same, by rw [upd_ne hcp]; exact h2, hz, by omega, by omega, by omega, by omega, t0, t1⟩
      rw [upd_ne (ne_of_none (s2 b o e) hp)]
      exact s2 b o e
theorem ok_mixed (F : FnP K "_law_mixed" sMixed f fd) (T : Tx mg fM) : FnOk P w K mg base CX0 1 f fd ["_law_number_here", "_law_turn"] spMixed := by
  refine F.ok scM (fun vs H Q E h => ?_) (fun cdv A outer s H vs Q E hr h => ?_)
  · obtain ⟨n, t, rfl, _⟩ := h
    rfl
  · obtain ⟨n, t, rfl, n0, n1, t0, t1, k⟩ := h
    refine ⟨_, PSs.nox (pss_cons (ps_set (i := 2) scM.nd rfl (Or.inl rfl) (pe_op op_mod (pe_callTy call_int1 (by rfl) T.int PyProof.Rows.boot_int (pa_cons (pe_op op_add (pe_op op_add (pe_op op_mul (pv 0) pe_int) (pe_op op_mul (pv 1) pe_int)) pe_int) pa_nil)) pe_int))
      (pss_cons (ps_set (i := 3) scM.nd rfl (Or.inl rfl) (pe_op op_mod (pe_callTy call_int1 (by rfl) T.int PyProof.Rows.boot_int (pa_cons (pe_op op_add (pe_op op_add (pe_op op_mul (pv 2) (pv 2)) (pe_op op_mul (pv 1) pe_int)) (pe_op op_fdiv (pv 2) pe_int)) pa_nil)) pe_int))
      (pss_one (ps_ret (pe_op op_fdiv (pe_callTy call_int1 (by rfl) T.int PyProof.Rows.boot_int (pa_cons (pe_op op_mod (pe_callTy call_int1 (by rfl) T.int PyProof.Rows.boot_int (pa_cons (pe_op op_add (pe_op op_mul (pv 3) pe_int) (pe_op op_fdiv (pv 2) pe_int)) pa_nil)) pe_int) pa_nil)) pe_int))))), ?_⟩
    -- once
    refine ⟨_, rfl, _, _, rfl, rfl, .inr ⟨by decide, by decide⟩, _, rfl, _, _, rfl, rfl, .inr ⟨by decide, by decide⟩, _, _, rfl, rfl, _, _, rfl, rfl, .inl ⟨_, rfl, _, _, rfl, rfl, (by show (0 : Int) < 2147483399; decide), ?_⟩⟩
    generalize ho : (n * 39373 + t * 6151 + 50021) % 2147483399 = o
    have o0 : 0 ≤ o := by rw [← ho]; exact Int.emod_nonneg _ (by decide)
    have o1 : o < 2147483399 := by rw [← ho]; exact Int.emod_lt_of_pos _ (by decide)
    refine ⟨_, rfl, _, rfl, _, _, rfl, rfl, .inl ⟨by omega, by omega⟩, _, rfl, _, _, rfl, rfl, .inr ⟨by decide, by decide⟩, _, _, rfl, rfl, _, rfl, _, _, rfl, rfl, ⟨by decide, by decide⟩, _, _, rfl, rfl, .inl ⟨_, rfl, _, _, rfl, rfl, (by show (0 : Int) < 2147483629; decide), ?_⟩⟩
    generalize ht : (o * o + t * 81071 + o / 137) % 2147483629 = u
    have u0 : 0 ≤ u := by rw [← ht]; exact Int.emod_nonneg _ (by decide)
    refine ⟨_, rfl, _, _, rfl, rfl, .inr ⟨by decide, by decide⟩, _, rfl, _, _, rfl, rfl, ⟨by decide, by decide⟩, _, _, rfl, rfl, .inl ⟨_, rfl, _, _, rfl, rfl, (by show (0 : Int) < 2147483587; decide), .inl ⟨_, rfl, _, _, rfl, rfl, ⟨by decide, by decide⟩, ?_⟩⟩⟩
    exact k _ (Int.ediv_nonneg (Int.emod_nonneg _ (by decide)) (by decide))
theorem iteT' {b : Bool} {A B : Prop} (h : b = true) (k : A) : if b = true then A else B := by
  rw [if_pos h]
  exact k
theorem iteF' {b : Bool} {A B : Prop} (h : b = false) (k : B) : if b = true then A else B := by
  rw [if_neg (by rw [h]; exact Bool.false_ne_true)]
  exact k
theorem in_rest {x m : Int} (h : 0 < m) : 0 ≤ x % m ∧ x % m < m := ⟨Int.emod_nonneg _ (by omega), Int.emod_lt_of_pos _ h⟩
theorem div_ok {x m : Int} (h : 0 < m) (h2 : m < 2 ^ 64) : CDivW x m := wide_div (b := 64) h (by omega) (by decide) (by decide)
theorem ten18 : (10 : Int) ^ (18 : Int).toNat = 1000000000000000000 := by decide
theorem ok_take (F : FnP K "_law_take" sTake f fd) (FM : FnP K "_law_mixed" sMixed fM fdM) (T : Tx mg fM) : FnOk P w K mg base CX0 2 f fd ["_law_hand_here", "_law_many"] spTake := by
  have GM : FnOk P w K mg base CX0 1 fM fdM ["_law_number_here", "_law_turn"] spMixed := ok_mixed FM T
  have bM : Binds K fdM ["_law_number_here", "_law_turn"] [] := FM.bindsN fun _ _ _ _ _ _ us hl => match us, hl with | [_, _], _ => rfl
  refine F.ok scT (fun vs H Q E h => ?_) (fun cdv A outer s H vs Q E hr h => ?_)
  · obtain ⟨a, c, cs, p, g, t, m, rfl, _⟩ := h
    rfl
  · obtain ⟨a, c, cs, p, g, t, m, rfl, hh, m0, m1, k⟩ := h
    refine ⟨_, PSs.nox (Evl.pss_cut (ps_if (PW.pt (pw_and (pt_cmpR op_eq (pe_ix ix_list (pv 0) pe_int (fun _ _ => rfl)) pe_int (nomark _)) (pw_and1 (pt_cmpR op_lt (pe_ix ix_list (pv 0) pe_int (fun _ _ => rfl)) (pe_callB call_len (by rfl) T.len PySem.boot_len (pa_cons (pe_ix ix_list (pv 0) pe_int (fun _ _ => rfl)) pa_nil)) (nomark _)))))
        (pss_cons (ps_set (i := 2) scT.nd rfl (Or.inl rfl) (pe_ix ix_list (pe_ix ix_list (pv 0) pe_int (fun _ _ => rfl)) (pe_ix ix_list (pv 0) pe_int (fun _ _ => rfl)) (fun _ _ => rfl)))
        (pss_cons (ps_asg (pe_op op_add (pe_ix ix_list (pv 0) pe_int (fun _ _ => rfl)) pe_int) (pg_sub (pv 0) pe_int set_list))
        (pss_cons (ps_if (pt_cmpR op_lt (pv 2) (pe_op op_pow pe_int pe_int) (nomark _)) (pss_one (ps_ret (pe_op op_mod (pe_callTy call_int1 (by rfl) T.int PyProof.Rows.boot_int (pa_cons (pe_call GM hr rfl T.mixed FM.kp bM .nil pass0 (pa_cons (pe_op op_mod (pe_callTy call_int1 (by rfl) T.int PyProof.Rows.boot_int (pa_cons (pv 2) pa_nil)) pe_int) (pa_cons (pe_ix ix_list (pv 0) pe_int (fun _ _ => rfl)) pa_nil))) pa_nil)) (pv 1)))) pss_nil)
        (pss_one (ps_asg (pv 2) (pg_sub (pv 0) pe_int set_list)))))) pss_nil)
      (pss_cons (ps_if (pt_cmpR op_gt (pe_ix ix_list (pv 0) pe_int (fun _ _ => rfl)) pe_int (nomark _))
        (pss_cons (ps_set (i := 3) scT.nd rfl (Or.inl rfl) (pe_ix ix_list (pv 0) pe_int (fun _ _ => rfl)))
        (pss_cons (ps_asg (pe_op op_fdivW (pe_callTy call_int1 (by rfl) T.int PyProof.Rows.boot_int (pa_cons (pv 3) pa_nil)) (pv 1)) (pg_sub (pv 0) pe_int set_list))
        (pss_one (ps_ret (pe_op op_mod (pe_callTy call_int1 (by rfl) T.int PyProof.Rows.boot_int (pa_cons (pv 3) pa_nil)) (pv 1)))))) pss_nil)
      (pss_cons (ps_asg (pe_op op_mod (pe_callTy call_int1 (by rfl) T.int PyProof.Rows.boot_int (pa_cons (pe_op op_add (pe_ix ix_list (pv 0) pe_int (fun _ _ => rfl)) pe_int) pa_nil)) pe_int) (pg_sub (pv 0) pe_int set_list))
      (pss_one (ps_ret (pe_op op_mod (pe_callTy call_int1 (by rfl) T.int PyProof.Rows.boot_int (pa_cons (pe_call GM hr rfl T.mixed FM.kp bM .nil pass0 (pa_cons (pe_ix ix_list (pv 0) pe_int (fun _ _ => rfl)) (pa_cons (pe_ix ix_list (pv 0) pe_int (fun _ _ => rfl)) pa_nil))) pa_nil)) (pv 1))))))), ?_⟩
    have gm : ∀ x : Int, 0 ≤ x % m ∧ x % m < m := fun x => in_rest m0
    have h63 : (cs.map V.int).length ≤ 63 := by rw [List.length_map]; exact hh.le
    refine ⟨fun σ' H' => ∃ (p' g' : Int) (v : Option V), σ' = [some (.ref a), some (.int m), v, none] ∧ But a H H' ∧ HandAt H' a c cs p' g' t, ?_, ?_⟩
    · refine ⟨_, rfl, _, _, _, _, rfl, rfl, SqL.of hh.l, rfl, rfl, _, rfl, ?_⟩
      by_cases hg : g = 0
      · subst hg
        refine iteT' (decide_eq_true rfl) ?_
        refine ⟨_, rfl, _, _, _, _, rfl, rfl, SqL.of hh.l, rfl, _, rfl, _, _, _, _, rfl, rfl, SqL.of hh.l, rfl, _, _, rfl, Or.inl ⟨_, SqL.of hh.c, rfl⟩, _, _, rfl, rfl, _, rfl, ?_⟩
        rw [List.length_map]
        by_cases hp : p < (cs.length : Int)
        · refine iteT' (decide_eq_true hp) ?_
          obtain ⟨j, rfl⟩ : ∃ j : Nat, p = (j : Int) := ⟨p.toNat, by have := hh.p0; omega⟩
          have hj : j < cs.length := by omega
          have hv : (cs.map V.int)[j]? = some (.int cs[j]) := by rw [List.getElem?_map, List.getElem?_eq_getElem hj]; rfl
          have hz : 0 ≤ cs[j] := hh.n _ (List.getElem_mem hj)
          have hca : c ≠ a := hh.ne
          refine ⟨_, rfl, _, _, _, _, rfl, rfl, SqL.of hh.l, rfl, _, rfl, _, _, _, _, rfl, rfl, SqL.of hh.l, rfl, _, _, _, _, rfl, rfl, SqL.of hh.c, atI_nat hv, ?_⟩
          refine ⟨_, rfl, _, _, _, _, rfl, rfl, SqL.of hh.l, rfl, _, _, rfl, rfl, _, rfl, _, _, _, _, rfl, rfl, hh.l, rfl, ?_⟩
          have hh2 : HandAt (upd H a (.lst [.ref c, .int ((j : Int) + 1), .int 0, .int t])) a c cs ((j : Int) + 1) 0 t := ⟨upd_same, by rw [upd_ne hca]; exact hh.c, hh.n, hh.le, by omega, by omega, by omega, hh.t0, hh.t1⟩
          have b2 : But a H (upd H a (.lst [.ref c, .int ((j : Int) + 1), .int 0, .int t])) := fun b o hb e => by rw [upd_ne hb]; exact e
          refine ⟨_, rfl, _, _, rfl, rfl, ⟨by decide, by decide, by decide⟩, _, _, rfl, rfl, _, rfl, ?_⟩
          rw [ten18]
          by_cases hl : cs[j] < 1000000000000000000
          · refine iteT' (decide_eq_true hl) ?_
            have r0 : 0 ≤ cs[j] % 2147483399 := Int.emod_nonneg _ (by decide)
            have r1 : cs[j] % 2147483399 < 2147483399 := Int.emod_lt_of_pos _ (by decide)
            have := hh.le
            refine ⟨_, rfl, .inl ⟨_, rfl, _, _, rfl, rfl, (by show (0 : Int) < 2147483399; decide), _, rfl, _, _, _, _, rfl, rfl, SqL.of hh2.l, rfl, _, _, rfl, r0, by omega, by omega, by omega, fun r hr0 => .inl ⟨_, rfl, _, rfl, _, _, rfl, rfl, m0, ?_⟩⟩⟩
            exact k _ _ _ _ _ (gm r).1 (gm r).2 b2 hh2
          · refine iteF' (decide_eq_false hl) ?_
            refine ⟨_, rfl, _, rfl, _, _, _, _, rfl, rfl, hh2.l, rfl, (j : Int) + 1, cs[j], _, rfl, fun b o hb e => ?_, ?_⟩
            · rw [upd_ne hb]
              exact b2 b o hb e
            · exact ⟨upd_same, by rw [upd_ne hca]; exact hh2.c, hh2.n, hh2.le, hh2.p0, hh2.p1, hz, hh2.t0, hh2.t1⟩
        · refine iteF' (decide_eq_false hp) ?_
          exact ⟨_, _, _, rfl, fun _ _ _ e => e, hh⟩
      · refine iteF' (decide_eq_false fun z => hg (V.int.inj z)) ?_
        exact ⟨_, _, _, rfl, fun _ _ _ e => e, hh⟩
    · rintro σ' H' ⟨p', g', v, rfl, b1, h1⟩
      have hca : c ≠ a := h1.ne
      refine ⟨_, rfl, _, _, _, _, rfl, rfl, SqL.of h1.l, rfl, _, _, rfl, rfl, _, rfl, ?_⟩
      by_cases hg : 0 < g'
      · refine iteT' (decide_eq_true hg) ?_
        refine ⟨_, rfl, _, _, _, _, rfl, rfl, SqL.of h1.l, rfl, _, rfl, .inl ⟨_, rfl, _, rfl, _, _, rfl, rfl, div_ok m0 m1, _, rfl, _, _, _, _, rfl, rfl, h1.l, rfl, ?_⟩⟩
        refine ⟨_, rfl, .inl ⟨_, rfl, _, rfl, _, _, rfl, rfl, m0, ?_⟩⟩
        refine k _ p' (g' / m) t _ (gm g').1 (gm g').2 (fun b o hb e => ?_) ⟨upd_same, by rw [upd_ne hca]; exact h1.c, h1.n, h1.le, h1.p0, h1.p1, Int.ediv_nonneg (by omega) (by omega), h1.t0, h1.t1⟩
        rw [upd_ne hb]
        exact b1 b o hb e
      · refine iteF' (decide_eq_false hg) ?_
        have r0 : 0 ≤ (t + 1) % 2147483549 := Int.emod_nonneg _ (by decide)
        have r1 : (t + 1) % 2147483549 < 2147483549 := Int.emod_lt_of_pos _ (by decide)
        refine ⟨_, rfl, _, _, _, _, rfl, rfl, SqL.of h1.l, rfl, _, _, rfl, rfl, .inl ⟨_, rfl, _, _, rfl, rfl, (by show (0 : Int) < 2147483549; decide), _, rfl, _, _, _, _, rfl, rfl, h1.l, rfl, ?_⟩⟩
        have h2 : HandAt (upd H' a (.lst [.ref c, .int p', .int g', .int ((t + 1) % 2147483549)])) a c cs p' g' ((t + 1) % 2147483549) := ⟨upd_same, by rw [upd_ne hca]; exact h1.c, h1.n, h1.le, h1.p0, h1.p1, h1.g0, r0, by omega⟩
        have := h1.le
        have := h1.p1
        refine ⟨_, rfl, _, _, _, _, rfl, rfl, SqL.of h2.l, rfl, _, rfl, _, _, _, _, rfl, rfl, SqL.of h2.l, rfl, _, _, rfl, r0, by omega, h1.p0, by omega, fun r hr0 => .inl ⟨_, rfl, _, rfl, _, _, rfl, rfl, m0, ?_⟩⟩
        refine k _ _ _ _ _ (gm r).1 (gm r).2 (fun b o hb e => ?_) h2
        rw [upd_ne hb]
        exact b1 b o hb e
end
end Kq
namespace Gn
open PySem PySem.Spec PyProof.Rows L2
open Sem (wp)
open AutoSeq1 (wpAny_loadPart')
theorem new_enumT (l : Addr) (xs : Array Value) (n : Nat) (dct : Option Addr) (sl : Array (Option Value)) :
    Meets (Builtin.«enumerate.__new__» ⟨[.type "enumerate", .ref l], []⟩) fun _ R s =>
      (s.heap.get? l = some { cls := .type "tuple", dict := dct, data := .seq xs n, slots := sl }) ∧
      R (.ok (.ret (.ref (s.heap.objs.size + 1)))) { s with heap := Heap.push (s.heap.push { cls := .type "tuple_iterator", data := .fields #[.ref l, .int 0 0] }) { cls := .type "enumerate", data := .fields #[.none, .bool false, .ref s.heap.objs.size, rawInt 0, .none, .none] } } :=
  .of_wp fun prog w A R s h => by
    obtain ⟨hp, g, d, tk, os⟩ := s
    obtain ⟨hl, h⟩ := h
    have sub := sub_enumerate
    have hT : Heap.IsTuple (Shared.heap ⟨hp, g, d, tk, os⟩) l xs := ⟨_, hl, rfl, n, rfl⟩
    have hz : (hp.push { cls := .type "tuple_iterator", data := .fields #[.ref l, .int 0 0] }).objs.size = hp.objs.size + 1 := Heap.size_push ..
    wp_walk using wpAny_loadPart' hl
    refine wpAny_stack_any fun st => wpAny_pure ?_
    split
    · rename_i c _ _ _ _ _
      cases (c == Value.type "enumerate")
      all_goals
        wp_walk using wpAny_loadPart' hl, wpAny_pyIter_tuple hT
        exact ⟨_, rfl, by rw [hz]; exact h⟩
    · wp_walk using wpAny_loadPart' hl, wpAny_pyIter_tuple hT
      exact ⟨_, rfl, by rw [hz]; exact h⟩
theorem call_enumT {prog : Program} {w : World} {A : Around} {E : Value → Shared → Prop} {s : Shared} {l : Addr} {xs : Array Value} {Q : Value → Shared → Prop} (hT : s.heap.IsTuple l xs)
    (h : ∀ h', IsEnum h' (s.heap.objs.size + 1) s.heap.objs.size 0 .none → h'.IsTupleIter s.heap.objs.size l 0 →
      (∀ b o, s.heap.get? b = some o → h'.get? b = some o) → Q (.ref (s.heap.objs.size + 1)) { s with heap := h' }) :
    wpAny (model prog w) A (call (.type "enumerate") [.ref l]) Q E s := by
  obtain ⟨⟨c, dct, dt, sl⟩, hl, hc, n, hd⟩ := hT
  simp only at hc hd
  subst hc hd
  refine callType_new F.called_enumerate (by decide) (F.typeCall_enumerate_1 _) (F.newCall_enumerate_1 _) (fun obj => F.args_object_init_2 obj _) F.entry_enumerate_new (new_enumT l xs n dct sl) ⟨hl, ?_⟩
  have hz : (s.heap.push { cls := .type "tuple_iterator", data := .fields #[.ref l, .int 0 0] }).objs.size = s.heap.objs.size + 1 := Heap.size_push ..
  have he : IsEnum ((s.heap.push { cls := .type "tuple_iterator", data := .fields #[.ref l, .int 0 0] }).push { cls := .type "enumerate", data := .fields #[.none, .bool false, .ref s.heap.objs.size, rawInt 0, .none, .none] }) (s.heap.objs.size + 1) s.heap.objs.size 0 .none := by
    have q := Heap.get?_push_size (s.heap.push { cls := .type "tuple_iterator", data := .fields #[.ref l, .int 0 0] }) (o := { cls := .type "enumerate", data := .fields #[.none, .bool false, .ref s.heap.objs.size, rawInt 0, .none, .none] }) rfl
    rw [hz] at q
    exact q
  refine ⟨⟨_, he, rfl⟩, h _ he ?_ ?_⟩
  · exact ⟨_, Heap.get?_push_of_some _ (Heap.get?_push_size _ rfl), rfl, rfl⟩
  · exact fun b o x => Heap.get?_push_of_some _ (Heap.get?_push_of_some _ x)
/-- the tuple at a, each item in a new pair with its place -/
def IteT (K : PySem.W.Frag) (a : Addr) : It where
  go := fun i H => ∃ (xs : List V) (x : V), SqT K H a xs ∧ xs[i]? = some x
  yld := fun i H v H' => ∃ T x, v = .ref T ∧ H T = none ∧ H' = upd H T (.tup [.int (i : Nat), x]) ∧ ∀ xs, SqT K H a xs → xs[i]? = some x
  stop := fun i H => ∃ xs : List V, SqT K H a xs ∧ xs.length = i
theorem turn_enumT {P : Program} {w : World} {K : PySem.W.Frag} {elts : List Expr} {kk : Nat} {tpos : Pos} (a e it : Addr) :
    Turn P w K (.Tuple elts kk tpos) (IteT K a) [e, it] e (fun i h => (∃ old, IsEnum h e it ((i : Nat) : Int) old) ∧ h.IsTupleIter it a i ∧ (e ≠ it ∧ e ≠ a ∧ a ≠ it)) := by
  have two : ∀ b, b ∈ [e, it] → b = e ∨ b = it := fun b hb => by simpa using hb
  refine ⟨by simp, fun i h st b hb => ?_, fun i h h' st k => ?_, ?_, ?_, fun A i s Q E st h => ?_⟩
  · obtain ⟨⟨old, he⟩, ⟨o, ho, hc, hd⟩, _⟩ := st
    rcases two b hb with rfl | rfl
    · exact ⟨_, he, fun v q => nomatch q⟩
    · exact ⟨o, ho, fun v q => by rw [hd] at q; cases q⟩
  · obtain ⟨⟨old, he⟩, hi, n⟩ := st
    exact ⟨⟨old, k e (by simp) _ he⟩, hi.at (fun o q => k it (by simp) o q), n⟩
  · intro X hP hw hK hc i pins s σ H E I hf st hg
    subst hP hw hK
    obtain ⟨⟨old, he⟩, hit, n1, n2, n3⟩ := st
    obtain ⟨xs, x, hq, hx⟩ := hg
    obtain ⟨its, rv, p, hz⟩ := I.tuple hq
    obtain ⟨u, hu, ru⟩ := rv.get hx
    have el := Heap.lt_size he
    have il : it < s.heap.objs.size := by
      obtain ⟨_, q, _⟩ := hit
      exact Heap.lt_size q
    have lt : i < its.toArray.size := by
      obtain ⟨z, _⟩ := List.getElem?_eq_some_iff.mp hu
      rw [List.size_toArray]
      exact z
    refine wpAny_pyNext_enum_itemD (Draws.tuple (A := X.A.in1) (I.ok.hd hc) it a n3 its.toArray) he ⟨hit, p⟩ lt n1 (by simp [n1, n2]) fun x' h' tk hx' ho st' hT hsz hk => ?_
    have ex : x' = u := by
      have q : its.toArray[i]? = some u := by rw [List.getElem?_toArray]; exact hu
      rw [q] at hx'
      exact (Option.some.inj hx').symm
    subst ex
    refine ⟨_, rfl, wpAny_letOwnedTupleGo_enum (s := { s with heap := h', toks := tk + 1 }) ho fun h2 he2 sb => ?_⟩
    have hT2 := (sb.2 _ (Nat.ne_of_gt el)).trans hT
    have ok : ObjOk X.prog X.w (upd H s.heap.objs.size (.tup [.int (i : Nat), x])) h2 s.heap.objs.size (.tup [.int (i : Nat), x]) :=
      ⟨by show 2 ≤ sizeLine; decide, [.int i tk, x'], .cons ⟨_, rfl⟩ (.cons ru .nil), _, hT2, rfl, _, rfl⟩
    have I2 : Inv X pins σ (upd H s.heap.objs.size (.tup [.int (i : Nat), x])) { s with heap := h2, toks := tk + 1 } := by
      refine I.turnedNew (ch := [e, it]) (fun b ob hb q => ?_) hf (Nat.le_refl _) ok
      have b1 : b ≠ e := fun z => hb (by simp [z])
      have b2 : b ≠ it := fun z => hb (by simp [z])
      exact (sb.2 b b1).trans (hk b ob b1 b2 q)
    refine ⟨.ref s.heap.objs.size, _, I2, rfl, ⟨_, x, rfl, I.hok.fresh (Nat.le_refl _), rfl, fun ys hy => ?_⟩, ⟨⟨x', ?_⟩, st'.1.at fun o q => (sb.2 it (Ne.symm n1)).trans q, n1, n2, n3⟩, fun b hb => ?_⟩
    · rw [I.tuple_inj hy hq]
      exact hx
    · rw [show ((i + 1 : Nat) : Int) = (i : Int) + 1 by omega]
      exact he2
    · rw [upd_ne (Nat.ne_of_lt (by rcases two b hb with z | z <;> rw [z] <;> assumption))]
      exact (hf b hb).1
  · intro X hP hw hK hc i pins s σ H E I hf st hg
    subst hP hw hK
    obtain ⟨⟨old, he⟩, hit, n1, n2, n3⟩ := st
    obtain ⟨xs, hq, hx⟩ := hg
    obtain ⟨its, rv, p, hz⟩ := I.tuple hq
    obtain ⟨f0, f1, f2, f3, f4, f5⟩ := hf it (by simp)
    have ei : i = its.toArray.size := by
      rw [List.size_toArray, ← rv.length]
      exact hx.symm
    subst ei
    exact wpAny_pyNext_enum_endD (Draws.tuple (A := X.A.in1) (I.ok.hd hc) it a n3 its.toArray) he ⟨hit, p⟩ fun h' eb => ⟨rfl, I.turned (t' := s.toks) (fun b o hb q => eb b o hb q) f0 f1 f3 f4 f5⟩
  · obtain ⟨⟨_, he⟩, _⟩ := st
    exact wpAny_pyIter_enum he h
def iEnumT (K : PySem.W.Frag) (ta : TA) : TI := fun σ H R => ta σ H fun vs H1 => ∃ a xs, vs = [.ref a] ∧ ((SqL K H1 a xs ∧ R (Ite K a) H1) ∨ (SqT K H1 a xs ∧ R (IteT K a) H1))
/-- for (i, x) in enumerate(a list or a tuple) -/
theorem pi_enumA {X : Cx} {e : Expr} {ta : TA} {p pos tpos : Pos} {elts : List Expr} {kk : Nat} (hg : Gl X "enumerate") (hm : X.mg "enumerate" = none) (ha : PA X [e] ta) (hs : starEach [e] X.env = [(false, eval e X.env)] := by rfl) :
    PI X (.Tuple elts kk tpos) (.Call (.Name "enumerate" p) [e] [] pos) (iEnumT X.K ta) := by
  constructor
  intro pins s σ H R I h
  refine Call_ (ld_blt I hg hm boot_enumerate (PyProof.Rows.callWith_type1 (thn (ha.run pos pins s σ H _ I h) ?_) hs rfl))
  rintro us s1 ⟨vs, H1, I1, r1, a, xs, ex, q1⟩
  subst ex
  obtain ⟨u, rfl, ru⟩ : ∃ u, us = [u] ∧ RelV (.ref a) u := by
    cases r1 with
    | cons r rr =>
      cases rr
      exact ⟨_, rfl, r⟩
  cases (show u = Value.ref a from ru)
  have fresh : ∀ b, b ∈ [s1.heap.objs.size + 1, s1.heap.objs.size] → FpOk X pins H1 b := fun b hb => by
    have z : b = s1.heap.objs.size + 1 ∨ b = s1.heap.objs.size := by simpa using hb
    have le : s1.heap.objs.size ≤ b := by omega
    exact I1.fpOk le (I1.hok.fresh le)
  rcases q1 with ⟨hq, q⟩ | ⟨hq, q⟩
  · obtain ⟨its, rv, p', _⟩ := I1.list hq
    refine call_enumerate_list p'.isList fun h' he hit hsz hk => wpAny_pyIter_enum he ?_
    exact ⟨s1.heap.objs.size + 1, [s1.heap.objs.size + 1, s1.heap.objs.size], _, _, H1, rfl, I1.kept (t' := s1.toks) hk, turn_enum a (s1.heap.objs.size + 1) s1.heap.objs.size, ⟨⟨.none, he⟩, hit, Nat.succ_ne_self _⟩, fresh, q⟩
  · obtain ⟨its, rv, p', _⟩ := I1.tuple hq
    have al : a < s1.heap.objs.size := by
      obtain ⟨o, ho, _⟩ := id p'
      exact Heap.lt_size ho
    refine call_enumT p' fun h' he hit hk => wpAny_pyIter_enum he ?_
    exact ⟨s1.heap.objs.size + 1, [s1.heap.objs.size + 1, s1.heap.objs.size], _, _, H1, rfl, I1.kept (t' := s1.toks) hk, turn_enumT a (s1.heap.objs.size + 1) s1.heap.objs.size, ⟨⟨.none, he⟩, hit, Nat.succ_ne_self _, Nat.ne_of_gt (Nat.lt_succ_of_lt al), Nat.ne_of_lt al⟩, fresh, q⟩
theorem walk_enumT {K : PySem.W.Frag} {a : Addr} {xs : List V} : Walk (IteT K a) xs.length (fun H => SqT K H a xs) (YPair (fun i => some (.int (i : Nat))) (fun i => xs[i]?)) := by
  constructor
  · intro i H hi q
    exact ⟨xs, xs[i], q, by simp [hi]⟩
  · intro H q
    exact ⟨xs, q, rfl⟩
  · rintro i H v H' hi q ⟨T, x, h1, h2, h3, h4⟩
    exact ⟨T, _, x, h1, h2, h3, rfl, h4 xs q⟩
theorem walk_zipT {K : PySem.W.Frag} {a b : Addr} {xs ys : List V} (hn : xs.length = ys.length) : Walk (RZ.ItzT K a b) xs.length (fun H => SqT K H a xs ∧ SqT K H b ys) (YPair (fun i => xs[i]?) (fun i => ys[i]?)) := by
  constructor
  · rintro i H hi ⟨q1, q2⟩
    have h2 : i < ys.length := by omega
    exact ⟨xs, ys, xs[i], ys[i], q1, q2, by simp [hi], by simp [h2]⟩
  · rintro H ⟨q1, q2⟩
    exact ⟨xs, ys, q1, q2, .inl (Nat.le_refl _)⟩
  · rintro i H v H' hi ⟨q1, q2⟩ ⟨T, x, y, h1, h2, h3, h4, h5⟩
    exact ⟨T, x, y, h1, h2, h3, h4 xs q1, h5 ys q2⟩
theorem mul_same (l : Addr) (items : Array Value) (n : Nat) (sl : Array (Option Value)) (dd : Option Addr) (u : Tok) :
    Meets (Builtin.«tuple.__mul__» ⟨[.ref l, .int 1 u], []⟩) fun _ R s => (s.heap.get? l = some { cls := .type "tuple", dict := dd, data := .seq items n, slots := sl }) ∧ R (.ok (.ret (.ref l))) s :=
  .of_wp fun prog w A R s h => by
    obtain ⟨hp, g, d, tk, os⟩ := s
    obtain ⟨hl, h⟩ := h
    have f1 := AutoSeq1.idx_int
    have c0 : (decide ((1 : Int) < -(2 ^ 63)) || decide ((1 : Int) ≥ 2 ^ 63)) = false := by decide
    have c1 : (items.isEmpty || (1 : Int) == 1) = true := by simp
    wp_walk using wpAny_loadPart' hl
    repeat (first
      | (refine wpAny_ite_false (decide_eq_false (by rw [c0]; exact Bool.false_ne_true)) ?_; wp_walk using wpAny_loadPart' hl)
      | (refine wpAny_ite_true (decide_eq_true c1) ?_; wp_walk using wpAny_loadPart' hl))
    exact ⟨_, rfl, h⟩
/-- a tuple times 1: the tuple itself -/
def rRep1 (K : PySem.W.Frag) : R2 := fun x y H Q => ∃ l xs, x = .ref l ∧ y = .int 1 ∧ SqT K H l xs ∧ Q (.ref l) H
theorem op_rep1 {X : Cx} : OpR X (binaryOp .Mult) (rRep1 X.K) := by
  intro pins s σ H x y v u Q I rx ry h
  obtain ⟨l, xs, rfl, rfl, hT, q⟩ := h
  cases rx
  obtain ⟨t, rfl⟩ := ry
  obtain ⟨its, r, ⟨⟨cls, dd, data, sl⟩, ho, hc, n, hd⟩, hs⟩ := I.tuple hT
  simp only at hc hd
  subst hc hd
  refine wpAny_binaryOp_repeat_ref (T := "tuple") (U := "int") (by decide) ⟨_, ho, rfl⟩ (fun s' => typeIs_int s' 1 t) noFill_tuple_mul F.fills_int_mul F.slot_int_rmul repeat_tuple F.slot_int_index.lookup ?_
  refine call_meets F.slot_int_rmul (typeIs_int s 1 t) F.entry_int_rmul (F.args_int_rmul_2 _ _) (int_rmul_tuple 1 t l its.toArray n dd sl) ⟨ho, rfl, ⟨_, ho, rfl⟩, ?_⟩
  exact call_meets F.slot_tuple_mul ⟨_, ho, rfl⟩ F.entry_tuple_mul (F.args_tuple_mul_2 _ _) (mul_same l its.toArray n sl dd t) ⟨ho, .ref l, H, I, rfl, q⟩
end Gn
set_option exponentiation.threshold 20000

namespace Ra
open PySem PySem.Spec PyProof.Rows L2 Dz
def top (i : Nat) : Stmt := PySem.Challenge.pw_sparedproducts_k63_whole_cut_outs_and_an.main.body.getD i (.Pass ⟨0, 0, 0, 0⟩)
abbrev FnP (K : PySem.W.Frag) (x : Str) (st : Stmt) (dvs : List V) (f : Addr) (fd : FuncData) : Prop := FunD K x x (defArgs st) (defBody st) (defScope st) dvs [] f fd
/-- the names of the module that stand for built-in things -/
structure Bn (mg : Str → Option Value) : Prop where
  len : mg "len" = none
  int : mg "int" = none
  abs : mg "abs" = none
  isinstance : mg "isinstance" = none
  bool : mg "bool" = none
  tuple : mg "tuple" = none
  list : mg "list" = none
  range : mg "range" = none
  zip : mg "zip" = none
  enumerate : mg "enumerate" = none
  min : mg "min" = none
  max : mg "max" = none
  sum : mg "sum" = none
  all : mg "all" = none
  ve : mg "ValueError" = none
  gcd : mg "gcd" = some (.builtin "math.gcd")
def spWhole (K : PySem.W.Frag) : Sp := fun vs H Q _ => ∃ (x lo hi : V) (d : PyData) (l h : Option Int), vs = [x, lo, hi] ∧ Dp K H x d ∧ Lim lo l ∧ Lim hi h ∧ Q (.bl (wholeD d l h)) H
def spSeq (K : PySem.W.Frag) : Sp := fun vs H Q _ => ∃ (x : V) (d : PyData), vs = [x] ∧ Dp K H x d ∧ ∀ H', Same H H' → Q (.bl (isaB (tyD d) "list" || isaB (tyD d) "tuple")) H'
def spGcd : Sp := fun vs H Q _ => ∃ a b : Int, vs = [.int a, .int b] ∧ Q (.int ((Nat.gcd a.natAbs b.natAbs : Nat) : Int)) H
def spRatio (K : PySem.W.Frag) : Sp := fun vs H Q _ => ∃ (x : V) (d : PyData), vs = [x] ∧ Dp K H x d ∧ Q (.bl (ratioD d)) H
/-- top over bottom in lowest terms, as a new couple -/
def spLow : Sp := fun vs H Q _ => ∃ t b : Int, vs = [.int t, .int b] ∧ b ≠ 0 ∧ Sm4 b ∧ ∀ p, H p = none → Q (.ref p) (upd H p (.tup [.int (lowT t b), .int (lowB t b)]))
/-- a deed of two ratios -/
def spDeed (K : PySem.W.Frag) (ft fb : Int → Int → Int → Int → Int) : Sp := fun vs H Q _ => ∃ (x y : Addr) (a b c d : Int), vs = [.ref x, .ref y] ∧ SqT K H x [.int a, .int b] ∧ SqT K H y [.int c, .int d] ∧ Sm a ∧ Sm b ∧ Sm c ∧ Sm d ∧ b ≠ 0 ∧ d ≠ 0 ∧
  ∀ p, H p = none → Q (.ref p) (upd H p (.tup [.int (lowT (ft a b c d) (fb a b c d)), .int (lowB (ft a b c d) (fb a b c d))]))
def plusT (a b c d : Int) : Int := a * d + c * b
def minusT (a b c d : Int) : Int := a * d - c * b
def timesT (a _ c _ : Int) : Int := a * c
def bothB (_ b _ d : Int) : Int := b * d
def cmpR (a b c d : Int) : Int := if a * d = c * b then 0 else if a * d < c * b then -1 else 1
def spCmp (K : PySem.W.Frag) : Sp := fun vs H Q _ => ∃ (x y : Addr) (a b c d : Int), vs = [.ref x, .ref y] ∧ SqT K H x [.int a, .int b] ∧ SqT K H y [.int c, .int d] ∧ Sm a ∧ Sm b ∧ Sm c ∧ Sm d ∧ Q (.int (cmpR a b c d)) H
theorem sm_mul {i j : Int} (a : Sm i) (b : Sm j) : CMulW i j := wide_mul a b (by decide) (by decide) (by decide)
theorem sm_prod {i j : Int} (a : Sm i) (b : Sm j) : (i * j).natAbs < 2 ^ 2000 := wide_lt a b
theorem sm4_of {i : Int} (a : i.natAbs < 2 ^ 2000) : Sm4 i := Nat.lt_of_lt_of_le a (Nat.pow_le_pow_right (by decide) (by decide))
theorem bothB_ne {b d : Int} (hb : b ≠ 0) (hd : d ≠ 0) : b * d ≠ 0 := Int.mul_ne_zero hb hd
section
variable {P : Program} {w : World} {K : PySem.W.Frag} {mg : Str → Option Value} {base : Heap} {f fL fW : Addr} {fd fdL fdW : FuncData}
theorem sc_is_whole : FnScope ["thing", "low", "high"] ["thing", "low", "high"] (defScope (top 10)) := ⟨rfl, rfl, rfl, by decide +kernel, rfl, by decide +kernel, by decide +kernel⟩
theorem ok_is_whole (F : FnP K "is_whole" (top 10) [.non, .non] f fd) (tx : Bn mg) : FnOk P w K mg base CX0 1 f fd ["thing", "low", "high"] (spWhole K) := by
  refine F.ok sc_is_whole (fun vs H Q E h => ?_) (fun cdv A outer s H vs Q E hr h => ?_)
  · obtain ⟨x, lo, hi, d, l, h, rfl, _⟩ := h; rfl
  · obtain ⟨x, lo, hi, d, l, u, rfl, hd, hl, hu, k⟩ := h
    refine ⟨_, PSs.nox (pss_cons (ps_if (PW.pt (pw_or (pt_not (pt_val (pe_callB call_isi (by rfl) tx.isinstance PyProof.Rows.boot_isinstance (pa_cons (pv 0) (pa_cons (pe_bltn (v := .ty "int") (by rfl) tx.int (by decide +kernel) rfl) pa_nil))))) (pw_or1 (pt_val (pe_callB call_isi (by rfl) tx.isinstance PyProof.Rows.boot_isinstance (pa_cons (pv 0) (pa_cons (pe_bltn (v := .ty "bool") (by rfl) tx.bool (by decide +kernel) rfl) pa_nil))))))) (pss_one (ps_ret pe_bl)) pss_nil)
      (pss_one (ps_ret (pe_and (pe_or (pe_cmpR op_isN (pv 1) pe_non (by rfl)) (pe_one (pe_cmpR op_ge (pv 0) (pv 1) (by rfl)))) (pe_one (pe_or (pe_cmpR op_isN (pv 2) pe_non (by rfl)) (pe_one (pe_cmpR op_le (pv 0) (pv 2) (by rfl))))))))), ?_⟩
    refine ⟨_, rfl, _, _, _, _, _, rfl, .ty _, ty_dp hd, kit_bi d (.inl rfl), _, rfl, ?_⟩
    cases d with
    | int i =>
      cases hd
      refine ifF rfl ⟨_, rfl, _, _, _, _, _, rfl, .ty _, ty_dp (.int i), kit_bi (.int i) (.inr (.inl rfl)), _, rfl, ifF rfl ?_⟩
      cases lo with
      | non =>
        have el : l = none := hl
        subst el
        refine ⟨_, rfl, rfl, _, rfl, ifT (decide_eq_true rfl) ⟨_, rfl, ifT rfl ?_⟩⟩
        cases hi with
        | non =>
          have eu : u = none := hu
          subst eu
          exact ⟨_, rfl, rfl, _, rfl, ifT (decide_eq_true rfl) k⟩
        | int z =>
          have eu : u = some z := hu
          subst eu
          exact ⟨_, rfl, rfl, _, rfl, ifF (decide_eq_false fun z => nomatch z) ⟨_, rfl, _, rfl, _, _, rfl, rfl, k⟩⟩
        | _ => exact hu.elim
      | int y =>
        have el : l = some y := hl
        subst el
        refine ⟨_, rfl, rfl, _, rfl, ifF (decide_eq_false fun z => nomatch z) ⟨_, rfl, _, rfl, _, _, rfl, rfl, _, rfl, ?_⟩⟩
        by_cases hy : y ≤ i
        · refine ifT (decide_eq_true hy) ?_
          have e1 : ((some y).all fun z => decide (z ≤ i)) = true := decide_eq_true hy
          have k2 : Q (.bl (u.all fun z => decide (i ≤ z))) H := by
            have k3 : Q (.bl (((some y).all fun z => decide (z ≤ i)) && (u.all fun z => decide (i ≤ z)))) H := k
            rw [e1, Bool.true_and] at k3
            exact k3
          cases hi with
          | non =>
            have eu : u = none := hu
            subst eu
            exact ⟨_, rfl, rfl, _, rfl, ifT (decide_eq_true rfl) k2⟩
          | int z =>
            have eu : u = some z := hu
            subst eu
            exact ⟨_, rfl, rfl, _, rfl, ifF (decide_eq_false fun z => nomatch z) ⟨_, rfl, _, rfl, _, _, rfl, rfl, k2⟩⟩
          | _ => exact hu.elim
        · refine ifF (decide_eq_false hy) ?_
          have e1 : ((some y).all fun z => decide (z ≤ i)) = false := decide_eq_false hy
          have k3 : Q (.bl (((some y).all fun z => decide (z ≤ i)) && (u.all fun z => decide (i ≤ z)))) H := k
          rw [e1, Bool.false_and] at k3
          exact k3
      | _ => exact hl.elim
    | bool b =>
      cases hd
      refine ifF rfl ⟨_, rfl, _, _, _, _, _, rfl, .ty _, ty_dp (.bl b), kit_bi (.bool b) (.inr (.inl rfl)), _, rfl, ifT rfl ?_⟩
      exact k
    | dict _ => cases hd
    | _ => exact ifT rfl k
theorem sc_is_sequence : FnScope ["thing"] ["thing"] (defScope (top 11)) := ⟨rfl, rfl, rfl, by decide +kernel, rfl, by decide +kernel, by decide +kernel⟩
theorem ok_is_sequence (F : FnP K "is_sequence" (top 11) [] f fd) (tx : Bn mg) : FnOk P w K mg base CX0 1 f fd ["thing"] (spSeq K) := by
  refine F.ok sc_is_sequence (fun vs H Q E h => ?_) (fun cdv A outer s H vs Q E hr h => ?_)
  · obtain ⟨x, d, rfl, _⟩ := h; rfl
  · obtain ⟨x, d, rfl, hd, k⟩ := h
    refine ⟨_, PSs.nox (pss_one (ps_ret (pe_callB call_isiT (by rfl) tx.isinstance PyProof.Rows.boot_isinstance (pa_cons (pv 0) (pa_cons (pe_tup (pa_cons (pe_bltn (v := .ty "list") (by rfl) tx.list (by decide +kernel) rfl) (pa_cons (pe_bltn (v := .ty "tuple") (by rfl) tx.tuple (by decide +kernel) rfl) pa_nil))) pa_nil))))), ?_⟩
    exact ⟨_, rfl, by show 2 ≤ sizeLine; decide, fun p hp => ⟨_, p, _, _, _, _, rfl, upd_same, .cons (.ty _) (.cons (.ty _) .nil), ty_dp (dp_same (same_new hp) _ _ hd), kit_lt d, k _ (same_new hp)⟩⟩
theorem binds_whole (FW : FnP K "is_whole" (top 10) [.non, .non] fW fdW) : (∃ ds, Vals [.non, .non] ds ∧ L2.Binds K fdW ["thing", "low", "high"] ds) ∧ (∃ ds, Vals [.non] ds ∧ L2.Binds K fdW ["thing", "low", "high"] ds) ∧ L2.Binds K fdW ["thing", "low", "high"] [] := by
  refine ⟨FW.binds1 1 0 (by simp) rfl fun T kV doc pm an cdv ct us its h1 h2 => ?_, FW.binds1 2 1 (by simp) rfl fun T kV doc pm an cdv ct us its h1 h2 => ?_, ?_⟩
  · match us, its, h1, h2 with
    | [_], [_, _], _, _ => exact ⟨_, rfl, rfl⟩
  · match us, its, h1, h2 with
    | [_, _], [_, _], _, _ => exact ⟨_, rfl, by kernel_rfl⟩
  · obtain ⟨ds, r, b⟩ := FW.binds1 (ps := ["thing", "low", "high"]) 3 2 (by simp) rfl fun T kV doc pm an cdv ct us its h1 h2 => by
      match us, its, h1, h2 with
      | [_, _, _], [_, _], _, _ => exact ⟨_, rfl, by kernel_rfl⟩
    cases r
    exact b
theorem sc_is_ratio : FnScope ["thing", "top", "bottom"] ["thing"] (defScope (top 12)) := ⟨rfl, rfl, rfl, by decide +kernel, rfl, by decide +kernel, by decide +kernel⟩
theorem ok_is_ratio (F : FnP K "is_ratio" (top 12) [] f fd) (tx : Bn mg) (FW : FnP K "is_whole" (top 10) [.non, .non] fW fdW) (mW : mg "is_whole" = some (.ref fW)) : FnOk P w K mg base CX0 2 f fd ["thing"] (spRatio K) := by
  have GW : FnOk P w K mg base CX0 1 fW fdW ["thing", "low", "high"] (spWhole K) := ok_is_whole FW tx
  obtain ⟨⟨ds1, dW1, bW1⟩, ⟨ds2, dW2, bW2⟩, _⟩ := binds_whole FW
  refine F.ok sc_is_ratio (fun vs H Q E h => ?_) (fun cdv A outer s H vs Q E hr h => ?_)
  · obtain ⟨x, d, rfl, _⟩ := h; rfl
  · obtain ⟨x, d, rfl, hd, k⟩ := h
    refine ⟨_, PSs.nox (pss_cons (ps_if (PW.pt (pw_or (pt_not (pt_val (pe_callB call_isi (by rfl) tx.isinstance PyProof.Rows.boot_isinstance (pa_cons (pv 0) (pa_cons (pe_bltn (v := .ty "tuple") (by rfl) tx.tuple (by decide +kernel) rfl) pa_nil))))) (pw_or1 (pt_cmpR op_ne (pe_callB call_len_seq (by rfl) tx.len PySem.boot_len (pa_cons (pv 0) pa_nil)) pe_int (by rfl))))) (pss_one (ps_ret pe_bl)) pss_nil)
      (pss_cons (ps_asg (pv 0) (pg_tup rfl (pgs_cons (pg_name (i := 1) sc_is_ratio.nd rfl (Or.inl rfl)) (pgs_cons (pg_name (i := 2) sc_is_ratio.nd rfl (Or.inl rfl)) pgs_nil))))
      (pss_one (ps_ret (pe_and (pe_call GW hr (by rfl) mW FW.kp bW1 dW1 pass0 (pa_cons (pv 1) pa_nil)) (pe_and (pe_call GW hr (by rfl) mW FW.kp bW2 dW2 pass0 (pa_cons (pv 2) (pa_cons pe_int pa_nil))) (pe_one (pe_cmpR op_eq (pe_callBfun cr_gcd (by rfl) tx.gcd (pa_cons (pv 1) (pa_cons (pv 2) pa_nil))) pe_int (by rfl))))))))), ?_⟩
    refine ⟨_, rfl, _, _, _, _, _, rfl, .ty _, ty_dp hd, kit_bi d (.inr (.inr (.inr rfl))), _, rfl, ?_⟩
    cases d with
    | tuple ds =>
      cases hd with
      | @tup a xs _ hs ha =>
        refine ifF rfl ⟨_, rfl, a, xs, rfl, .inr hs, rfl, _, rfl, ?_⟩
        have hlen : xs.length = ds.length := by
          have go : ∀ {xs : List V} {ds : List PyData}, DpAll K H xs ds → xs.length = ds.length := by
            intro xs ds h
            induction ds generalizing xs with
            | nil => cases h; rfl
            | cons d ds ih =>
              cases h with
              | cons h1 h2 => rw [List.length_cons, List.length_cons, ih h2]
          exact go ha
        match xs, ds, ha, hlen with
        | [], [], _, _ => exact ifT rfl k
        | [_], [d0], _, _ =>
          have e : ratioD (.tuple [d0]) = false := by cases d0 <;> rfl
          rw [e] at k
          exact ifT rfl k
        | _ :: _ :: _ :: r, d0 :: d1 :: d2 :: r2, _, _ =>
          refine ifT ?_ ?_
          · have z : ¬ ((((r.length + 1 + 1 + 1 : Nat)) : Int) = 2) := by omega
            show (!decide (V.int ((r.length + 1 + 1 + 1 : Nat) : Int) = V.int 2)) = true
            rw [decide_eq_false fun e => z (V.int.inj e)]
            rfl
          · have e : ratioD (.tuple (d0 :: d1 :: d2 :: r2)) = false := by cases d0 <;> first | rfl | (cases d1 <;> rfl)
            rw [e] at k
            exact k
        | [x, y], [dx, dy], .cons hx (.cons hy .nil), _ =>
          refine ifF rfl ?_
          refine ⟨_, rfl, a, [x, y], rfl, hs, rfl, x, [y], rfl, y, [], rfl, rfl, ?_⟩
          refine ⟨_, rfl, x, .non, .non, dx, none, none, rfl, hx, rfl, rfl, _, rfl, ?_⟩
          cases dx with
          | int i =>
            cases hx
            refine ifT rfl ?_
            refine ⟨_, rfl, y, .int 1, .non, dy, some 1, none, rfl, hy, rfl, rfl, _, rfl, ?_⟩
            cases dy with
            | int j =>
              cases hy
              by_cases h1 : 1 ≤ j
              · refine ifT (by show (decide ((1 : Int) ≤ j) && true) = true; rw [decide_eq_true h1]; rfl) ?_
                refine ⟨_, rfl, _, rfl, _, _, rfl, rfl, ?_⟩
                have k2 : Q (.bl (decide (1 ≤ j) && (Nat.gcd i.natAbs j.natAbs == 1))) H := k
                rw [decide_eq_true h1, Bool.true_and, ← dec1] at k2
                exact k2
              · refine ifF (by show (decide ((1 : Int) ≤ j) && true) = false; rw [decide_eq_false h1]; rfl) ?_
                have k2 : Q (.bl (decide (1 ≤ j) && (Nat.gcd i.natAbs j.natAbs == 1))) H := k
                rw [decide_eq_false h1, Bool.false_and] at k2
                have e : wholeD (.int j) (some 1) none = false := by
                  show (decide ((1 : Int) ≤ j) && true) = false
                  rw [decide_eq_false h1]
                  rfl
                first
                  | exact k2
                  | (rw [e]; exact k2)
            | dict _ => cases hy
            | _ => exact ifF rfl k
          | dict _ => cases hx
          | _ => exact ifF rfl k
    | dict _ => cases hd
    | _ => exact ifT rfl k
theorem sc_low : FnScope ["top", "bottom", "divisor"] ["top", "bottom"] (defScope (top 13)) := ⟨rfl, rfl, rfl, by decide +kernel, rfl, by decide +kernel, by decide +kernel⟩
theorem ok_low (F : FnP K "in_lowest_terms" (top 13) [] f fd) (tx : Bn mg) : FnOk P w K mg base CX0 1 f fd ["top", "bottom"] spLow := by
  refine F.ok sc_low (fun vs H Q E h => ?_) (fun cdv A outer s H vs Q E hr h => ?_)
  · obtain ⟨a, b, rfl, _⟩ := h; rfl
  · obtain ⟨t, b, rfl, hb, sb, k⟩ := h
    have hz : CDivZ 0 (divi t b) := ⟨divi_ne hb, log_of (by decide) (Nat.lt_of_le_of_lt (divi_le hb) (Nat.lt_of_lt_of_le sb (Nat.pow_le_pow_right (by decide) (by decide : 4000 ≤ 9000))))⟩
    refine ⟨_, PSs.nox (pss_cons (ps_set (i := 2) sc_low.nd rfl (Or.inl rfl) (pe_callBfun cr_gcd (by rfl) tx.gcd (pa_cons (pv 0) (pa_cons (pv 1) pa_nil))))
      (pss_cons (ps_if (pt_cmpR op_lt (pv 1) pe_int (by rfl)) (pss_one (ps_set (i := 2) sc_low.nd rfl (Or.inl rfl) (pe_un un_neg (pv 2)))) pss_nil)
      (pss_one (ps_ret (pe_tup (pa_cons (pe_op op_fdivZ (pv 0) (pv 2)) (pa_cons (pe_op op_fdivZ (pv 1) (pv 2)) pa_nil))))))), ?_⟩
    refine ⟨_, rfl, _, rfl, _, _, rfl, ?_⟩
    refine ⟨_, rfl, _, _, rfl, rfl, _, rfl, ?_⟩
    have fin : ∀ g : Int, g = divi t b → CDivZ 0 g ∧ ∀ p, H p = none → Q (.ref p) (upd H p (.tup [.int (t.fdiv g), .int (b.fdiv g)])) := fun g e => by
      subst e
      exact ⟨hz, k⟩
    by_cases h0 : b < 0
    · obtain ⟨z, k2⟩ := fin (-((Nat.gcd t.natAbs b.natAbs : Nat) : Int)) (by unfold divi; rw [if_pos h0])
      refine ifT (decide_eq_true h0) ?_
      exact ⟨_, rfl, _, rfl, _, rfl, _, rfl, _, _, rfl, rfl, z, _, rfl, _, rfl, _, _, rfl, rfl, z, by show 2 ≤ sizeLine; decide, fun p hp => k2 p hp⟩
    · obtain ⟨z, k2⟩ := fin ((Nat.gcd t.natAbs b.natAbs : Nat) : Int) (by unfold divi; rw [if_neg h0])
      refine ifF (decide_eq_false h0) ?_
      exact ⟨_, rfl, _, rfl, _, _, rfl, rfl, z, _, rfl, _, rfl, _, _, rfl, rfl, z, by show 2 ≤ sizeLine; decide, fun p hp => k2 p hp⟩
end
end Ra
set_option exponentiation.threshold 20000

namespace Rb
open PySem PySem.Spec PyProof.Rows L2 Dz Ra Kx Ky Re
/-- an error class without an __init__ of its own: where it stands, what may be asked of it -/
structure Eb (K : PySem.W.Frag) (mg : Str → Option Value) (P : Addr) (x : Str) (C : Addr) : Prop where
  er : Er K P C
  m : mg x = some (.ref C)
  q : PySem.W.excIn K C PySem.HandSPX.veTail "ValueError.__new__" = true
/-- one with one field f -/
structure Ei (P : Program) (w : World) (K : PySem.W.Frag) (mg : Str → Option Value) (base : Heap) (gP : Addr) (x f : Str) (C : Addr) : Prop where
  er : Er K gP C
  m : mg x = some (.ref C)
  no : PySem.W.findIn K (.ref C) f = some none
  ini : ∃ (fI : Addr) (fd : FuncData), PySem.W.findIn K (.ref C) "__init__" = some (some (.ref fI)) ∧ PySem.W.typeIn K (.ref fI) = some (.type "function") ∧ FnOk P w K mg base CX0 1 fI fd ["self", f] (spIn C 1 (fl1 f)) ∧ L2.Binds K fd ["self", f] []
theorem Eb.raises {K : PySem.W.Frag} {mg : Str → Option Value} {P C : Addr} {x : Str} (e : Eb K mg P x C) {X : Cx} (hK : X.K = K) : Raises X (.ref C) := raises_own (by rw [hK]; exact e.er.ox.exC) (by rw [hK]; exact e.er.ox.tyC)
def spOver (K : PySem.W.Frag) (cD : Addr) : Sp := fun vs H Q E => ∃ (x y : Addr) (a b c d : Int), vs = [.ref x, .ref y] ∧ SqT K H x [.int a, .int b] ∧ SqT K H y [.int c, .int d] ∧ Sm a ∧ Sm b ∧ Sm c ∧ Sm d ∧ b ≠ 0 ∧ d ≠ 0 ∧
  (c = 0 → E (.ref cD) none H) ∧ (c ≠ 0 → ∀ p, H p = none → Q (.ref p) (upd H p (.tup [.int (lowT (a * d) (b * c)), .int (lowB (a * d) (b * c))])))
def spMake (K : PySem.W.Frag) (cR : Addr) : Sp := fun vs H Q E => ∃ (x y : V) (dx dy : PyData), vs = [x, y] ∧ Dp K H x dx ∧ Dp K H y dy ∧ (∀ b, dy = .int b → Sm4 b) ∧
  (wholeD dx none none = false → ∀ d H', Same H H' → H' d = some (.xd [("what", .str "top")]) → E (.ref cR) (some d) H') ∧
  (wholeD dx none none = true → (wholeD dy none none = false ∨ dy = .int 0) → ∀ d H', Same H H' → H' d = some (.xd [("what", .str "bottom")]) → E (.ref cR) (some d) H') ∧
  (∀ t b, dx = .int t → dy = .int b → b ≠ 0 → ∀ p, H p = none → Q (.ref p) (upd H p (.tup [.int (lowT t b), .int (lowB t b)])))
def Six (p : Int) : Prop := p = 2 ∨ p = 3 ∨ p = 5 ∨ p = 7 ∨ p = 11 ∨ p = 13
/-- the rest that undoes n by p -/
def spUndone (cD : Addr) : Sp := fun vs H Q E => ∃ n p : Int, vs = [.int n, .int p] ∧ Six p ∧ 0 ≤ n ∧ n < p ∧ (n = 0 → E (.ref cD) none H) ∧ (n ≠ 0 → ∀ r, 1 ≤ r → r < p → n * r % p = 1 → Q (.int r) H)
theorem six_undone {p n : Int} (h : Six p) (h0 : 0 ≤ n) (h1 : n < p) (h2 : n ≠ 0) : ∃ r : Nat, 1 ≤ r ∧ (r : Int) < p ∧ n * r % p = 1 := by
  have go : ∀ q : Nat, (q = 2 ∨ q = 3 ∨ q = 5 ∨ q = 7 ∨ q = 11 ∨ q = 13) → ∀ m : Nat, m < q → m ≠ 0 → ∃ r : Nat, r < 14 ∧ 1 ≤ r ∧ r < q ∧ m * r % q = 1 := by
    intro q hq
    rcases hq with rfl | rfl | rfl | rfl | rfl | rfl <;> decide
  obtain ⟨q, rfl⟩ : ∃ q : Nat, p = (q : Int) := ⟨p.toNat, by rcases h with h | h | h | h | h | h <;> omega⟩
  obtain ⟨m, rfl⟩ : ∃ m : Nat, n = (m : Int) := ⟨n.toNat, by omega⟩
  obtain ⟨r, _, r1, r2, r3⟩ := go q (by rcases h with h | h | h | h | h | h <;> omega) m (by omega) (by omega)
  refine ⟨r, r1, by omega, ?_⟩
  have e : ((m * r % q : Nat) : Int) = ((1 : Nat) : Int) := congrArg _ r3
  rw [Int.natCast_emod, Int.natCast_mul] at e
  exact e
section
variable {P : Program} {w : World} {K : PySem.W.Frag} {mg : Str → Option Value} {base : Heap} {f fL fW cD cR gP : Addr} {fd fdL fdW : FuncData}
end
end Rb
set_option exponentiation.threshold 20000

namespace Rc
open PySem PySem.Spec PyProof.Rows L2 Dz Ra Kx Ky Re Rb
abbrev FnM (K : PySem.W.Frag) (m : Str) (st : Stmt) (f : Addr) (fd : FuncData) : Prop := FunD K m ("Figures." ++ m) (defArgs st) (defBody st) (defScope st) [] [] f fd
def Off (p : Int) : Prop := p = 0 ∨ Six p
theorem off_pos {p : Int} (h : Off p) (h0 : p ≠ 0) : 0 < p ∧ p ≤ 13 := by
  rcases h with h | h | h | h | h | h | h <;> omega
theorem off_le {p : Int} (h : Off p) : 0 ≤ p ∧ p ≤ 13 := by
  rcases h with h | h | h | h | h | h | h <;> omega
def offV : List V := [.int 0, .int 2, .int 3, .int 5, .int 7, .int 11, .int 13]
theorem off_in {p : Int} (h : Off p) : inV (.int p) offV = true := by
  rcases h with rfl | h
  · rfl
  · rcases h with rfl | rfl | rfl | rfl | rfl | rfl <;> rfl
theorem off_no {p : Int} (h : ¬ Off p) : inV (.int p) offV = false := by
  cases e : inV (.int p) offV with
  | false => rfl
  | true =>
    exfalso
    apply h
    have e2 : (decide ((0 : Int) = p) || (decide ((2 : Int) = p) || (decide ((3 : Int) = p) || (decide ((5 : Int) = p) || (decide ((7 : Int) = p) || (decide ((11 : Int) = p) || (decide ((13 : Int) = p) || false))))))) = true := by
      first
        | exact e
        | (unfold inV offV at e; simp only [List.any_cons, List.any_nil, eqV] at e ⊢; simpa using e)
    simp only [Bool.or_eq_true, decide_eq_true_eq, Bool.false_eq_true, or_false] at e2
    unfold Off Six
    omega
/-- the attributes of a Figures, in the order of __init__ -/
def flds (p : Int) (z o : V) : List (Str × V) := putF "one" o (putF "zero" z (putF "prime" (.int p) []))
theorem n1 : ¬ (("prime" : Str) = "zero") := by decide +kernel
theorem n2 : ¬ (("prime" : Str) = "one") := by decide +kernel
theorem n3 : ¬ (("zero" : Str) = "one") := by decide +kernel
theorem fl_prime {p : Int} {z o : V} : (flds p z o).lookup ("prime" : Str) = some (.int p) := by
  unfold flds
  rw [lookup_putF, if_neg n2, lookup_putF, if_neg n1, lookup_putF, if_pos rfl]
theorem fl_zero {p : Int} {z o : V} : (flds p z o).lookup ("zero" : Str) = some z := by
  unfold flds
  rw [lookup_putF, if_neg n3, lookup_putF, if_pos rfl]
theorem fl_one {p : Int} {z o : V} : (flds p z o).lookup ("one" : Str) = some o := by
  unfold flds
  rw [lookup_putF, if_pos rfl]
theorem fl_no {p : Int} {z o : V} {m : Str} (h1 : ¬ m = "prime") (h2 : ¬ m = "zero") (h3 : ¬ m = "one") : (flds p z o).lookup m = none := by
  unfold flds
  rw [lookup_putF, if_neg h3, lookup_putF, if_neg h2, lookup_putF, if_neg h1]
  rfl
def ZeroOne (H : Hp) (p : Int) (z o : V) : Prop := (p = 0 ∧ ∃ za oa, z = .ref za ∧ o = .ref oa ∧ H za = some (.tup [.int 0, .int 1]) ∧ H oa = some (.tup [.int 1, .int 1])) ∨ (p ≠ 0 ∧ z = .int 0 ∧ o = .int 1)
/-- a Figures of the prime p at a -/
def FigAt (C : Addr) (H : Hp) (a : Addr) (p : Int) : Prop := Off p ∧ ∃ dx z o, H a = some (.ins C dx (flds p z o)) ∧ ZeroOne H p z o
theorem FigAt.same {C : Addr} {H H' : Hp} {a : Addr} {p : Int} (s : Same H H') (h : FigAt C H a p) : FigAt C H' a p := by
  obtain ⟨op, dx, z, o, ha, hz⟩ := h
  refine ⟨op, dx, z, o, s _ _ ha, ?_⟩
  rcases hz with ⟨e, za, oa, e1, e2, h1, h2⟩ | hz
  · exact .inl ⟨e, za, oa, e1, e2, s _ _ h1, s _ _ h2⟩
  · exact .inr hz
/-- what is asked of the class Figures -/
structure Fg (K : PySem.W.Frag) (C : Addr) : Prop where
  cl : Cls K C
  nP : NoAttr K C "prime"
  nZ : NoAttr K C "zero"
  nO : NoAttr K C "one"
  ca : PySem.W.findIn K (.ref C) "__class__" = some (some (.builtin "object.__class__"))
  hn : PySem.W.specialIn K (.builtin "object.__class__") "__get__" = some (some (.builtin "getset_descriptor.__get__"))
  ht : PySem.W.takesIn K (.builtin "object.__class__") = some true
  hm : PySem.W.mroIn K C (.type "object") = some true
  me : PySem.W.kitOne K (.ref C) (.ref C) = some true
def spInit (K : PySem.W.Frag) (C cF : Addr) : Sp := fun vs H Q E => ∃ (a dx : Addr) (x : V) (d : PyData), vs = [.ref a, x] ∧ H a = some (.ins C dx []) ∧ Dp K H x d ∧
  ((∀ p, d = .int p → ¬ Off p) → ∀ d' H', Same H H' → H' d' = some (.xd [("prime", x)]) → E (.ref cF) (some d') H') ∧
  (∀ p, d = .int p → Off p → ∀ H', (∀ b o, b ≠ a → H b = some o → H' b = some o) → FigAt C H' a p → Q .non H')
/-- numbers below a bound that every deed takes -/
def Lo (i : Int) : Prop := -(2 ^ 60) < i ∧ i < 2 ^ 60
theorem Lo.wide {i : Int} (h : Lo i) : -(2 ^ 64) < i ∧ i < 2 ^ 64 := by
  obtain ⟨h1, h2⟩ := h
  omega
theorem lo13 {i : Int} (h0 : 0 ≤ i) (h1 : i < 14) : Lo i := ⟨by omega, by omega⟩
/-- two numbers of the figures handed in: couples of the prime 0, ints else -/
def Two (K : PySem.W.Frag) (H : Hp) (p : Int) (x y : V) (k0 : Int → Int → Int → Int → Prop) (k1 : Int → Int → Prop) : Prop :=
  (p = 0 → ∃ xa ya a b c d, x = .ref xa ∧ y = .ref ya ∧ SqT K H xa [.int a, .int b] ∧ SqT K H ya [.int c, .int d] ∧ Sm a ∧ Sm b ∧ Sm c ∧ Sm d ∧ b ≠ 0 ∧ d ≠ 0 ∧ k0 a b c d) ∧
  (p ≠ 0 → ∃ i j, x = .int i ∧ y = .int j ∧ Lo i ∧ Lo j ∧ k1 i j)
def newLow (Q : VK) (H : Hp) (t b : Int) : Prop := ∀ q, H q = none → Q (.ref q) (upd H q (.tup [.int (lowT t b), .int (lowB t b)]))
def spTwo (K : PySem.W.Frag) (C : Addr) (ft fb : Int → Int → Int → Int → Int) (g : Int → Int → Int) : Sp := fun vs H Q _ => ∃ (s : Addr) (x y : V) (p : Int), vs = [.ref s, x, y] ∧ FigAt C H s p ∧
  Two K H p x y (fun a b c d => newLow Q H (ft a b c d) (fb a b c d)) (fun i j => Q (.int (g i j % p)) H)
def cmpI (i j : Int) : Int := if i = j then 0 else if i < j then -1 else 1
def spCmpF (K : PySem.W.Frag) (C : Addr) : Sp := fun vs H Q _ => ∃ (s : Addr) (x y : V) (p : Int), vs = [.ref s, x, y] ∧ FigAt C H s p ∧
  Two K H p x y (fun a b c d => Q (.int (cmpR a b c d)) H) (fun i j => Q (.int (cmpI i j)) H)
def spOverF (K : PySem.W.Frag) (C cD : Addr) : Sp := fun vs H Q E => ∃ (s : Addr) (x y : V) (p : Int), vs = [.ref s, x, y] ∧ FigAt C H s p ∧
  Two K H p x y (fun a b c d => (c = 0 → E (.ref cD) none H) ∧ (c ≠ 0 → newLow Q H (a * d) (b * c))) (fun i j => 0 ≤ j ∧ j < p ∧ (j = 0 → E (.ref cD) none H) ∧ (j ≠ 0 → ∀ r, 1 ≤ r → r < p → j * r % p = 1 → Q (.int (i * r % p)) H))
def spNeg (K : PySem.W.Frag) (C : Addr) : Sp := fun vs H Q _ => ∃ (s : Addr) (x : V) (p : Int), vs = [.ref s, x] ∧ FigAt C H s p ∧
  (p = 0 → ∃ xa a b, x = .ref xa ∧ SqT K H xa [.int a, .int b] ∧ ∀ q, H q = none → Q (.ref q) (upd H q (.tup [.int (-a), .int b]))) ∧ (p ≠ 0 → ∃ i, x = .int i ∧ Q (.int (-i % p)) H)
def spWhl (C : Addr) : Sp := fun vs H Q _ => ∃ (s : Addr) (i p : Int), vs = [.ref s, .int i] ∧ FigAt C H s p ∧
  (p = 0 → ∀ q, H q = none → Q (.ref q) (upd H q (.tup [.int i, .int 1]))) ∧ (p ≠ 0 → Q (.int (i % p)) H)
def spNumOf (K : PySem.W.Frag) (C cN : Addr) : Sp := fun vs H Q E => ∃ (s xa : Addr) (a b p : Int), vs = [.ref s, .ref xa] ∧ FigAt C H s p ∧ SqT K H xa [.int a, .int b] ∧
  (p = 0 → Q (.ref xa) H) ∧ (p ≠ 0 → b % p = 0 → E (.ref cN) none H) ∧ (p ≠ 0 → b % p ≠ 0 → ∀ r, 1 ≤ r → r < p → b % p * r % p = 1 → Q (.int (a % p * r % p)) H)
def numD (p : Int) (d : PyData) : Bool := if p = 0 then ratioD d else wholeD d (some 0) (some (p - 1))
def spIsNum (K : PySem.W.Frag) (C : Addr) : Sp := fun vs H Q _ => ∃ (s : Addr) (x : V) (d : PyData) (p : Int), vs = [.ref s, x] ∧ FigAt C H s p ∧ Dp K H x d ∧ Q (.bl (numD p d)) H
def spAll (C : Addr) : Sp := fun vs H Q _ => ∃ (s : Addr) (p : Int), vs = [.ref s] ∧ FigAt C H s p ∧ ∀ q, H q = none → Q (.ref q) (upd H q (.tup (rgV 0 p)))
def spEqF (C : Addr) : Sp := fun vs H Q _ => ∃ (a b : Addr) (p q : Int), vs = [.ref a, .ref b] ∧ FigAt C H a p ∧ FigAt C H b q ∧ Q (.bl (decide (p = q))) H
section
variable {P : Program} {w : World} {K : PySem.W.Frag} {mg : Str → Option Value} {base : Heap} {C cD cN cF gP f f2 fO oA : Addr} {fd fd2 fdO : FuncData}
theorem sc_is_number : FnScope ["self", "thing"] ["self", "thing"] (defScope (inClass (top 38) 10)) := ⟨rfl, rfl, rfl, by decide +kernel, rfl, by decide +kernel, by decide +kernel⟩
theorem ok_is_number (F : FnM K "is_number" (inClass (top 38) 10) f fd) (fg : Fg K C) {f1 : Addr} {fd1 : FuncData} (G1 : FnOk P w K mg base CX0 2 f1 fd1 ["thing"] (spRatio K)) (m1 : mg "is_ratio" = some (.ref f1)) (kp1 : PySem.W.keepIn K (.ref f1) = true) (b1 : L2.Binds K fd1 ["thing"] []) {f2 : Addr} {fd2 : FuncData} (G2 : FnOk P w K mg base CX0 1 f2 fd2 ["thing", "low", "high"] (spWhole K)) (m2 : mg "is_whole" = some (.ref f2)) (kp2 : PySem.W.keepIn K (.ref f2) = true) (b2 : L2.Binds K fd2 ["thing", "low", "high"] []) : FnOk P w K mg base CX0 3 f fd ["self", "thing"] (spIsNum K C) := by
  refine F.ok sc_is_number (fun vs H Q E h => ?_) (fun cdv A outer s0 H vs Q E hr h => ?_)
  · obtain ⟨s, x, d, p, rfl, _⟩ := h; rfl
  · obtain ⟨s, x, d, p, rfl, ⟨op, dx, z, o, ha, hz⟩, hd, k⟩ := h
    have hr1 : Room 2 _ := hr
    have hr2 : Room 1 _ := hr.mono (by decide)
    refine ⟨_, PSs.nox (pss_cons (ps_if (pt_cmpR op_eq (pe_fld (pv 0) rfl) pe_int (by rfl)) (pss_one (ps_ret (pe_call G1 hr1 (by rfl) m1 kp1 b1 .nil pass0 (pa_cons (pv 1) pa_nil)))) pss_nil)
      (pss_one (ps_ret (pe_call G2 hr2 (by rfl) m2 kp2 b2 .nil pass0 (pa_cons (pv 1) (pa_cons pe_int (pa_cons (pe_op op_sub (pe_fld (pv 0) rfl) pe_int) pa_nil))))))), ?_⟩
    refine ⟨_, rfl, s, C, dx, _, _, rfl, ha, fg.cl, fg.nP, fl_prime, rfl, _, rfl, ?_⟩
    by_cases hp : p = 0
    · subst hp
      have e : numD 0 d = ratioD d := if_pos rfl
      rw [e] at k
      exact ifT (decide_eq_true rfl) ⟨_, rfl, x, d, rfl, hd, k⟩
    · refine ifF (decide_eq_false fun z => hp (V.int.inj z)) ?_
      have e : numD p d = wholeD d (some 0) (some (p - 1)) := if_neg hp
      rw [e] at k
      exact ⟨_, rfl, _, rfl, s, C, dx, _, _, rfl, ha, fg.cl, fg.nP, fl_prime, _, _, rfl, rfl, x, .int 0, .int (p - 1), d, some 0, some (p - 1), rfl, hd, rfl, rfl, k⟩
theorem sc_eq : FnScope ["self", "other"] ["self", "other"] (defScope (inClass (top 38) 1)) := ⟨rfl, rfl, rfl, by decide +kernel, rfl, by decide +kernel, by decide +kernel⟩
theorem ok_eq (F : FnM K "__eq__" (inClass (top 38) 1) f fd) (fg : Fg K C) (tx : Bn mg) (mC : mg "Figures" = some (.ref C)) : FnOk P w K mg base CX0 1 f fd ["self", "other"] (spEqF C) := by
  refine F.ok sc_eq (fun vs H Q E h => ?_) (fun cdv A outer s0 H vs Q E hr h => ?_)
  · obtain ⟨a, b, p, q, rfl, _⟩ := h; rfl
  · obtain ⟨a, b, p, q, rfl, ⟨op, dx, z, o, ha, hz⟩, ⟨op2, dy, z2, o2, hb, hz2⟩, k⟩ := h
    refine ⟨_, PSs.nox (pss_one (ps_ret (pe_and (pe_callB call_isi (by rfl) tx.isinstance PyProof.Rows.boot_isinstance (pa_cons (pv 1) (pa_cons (pe_glob (v := .ref C) (by rfl) mC rfl) pa_nil))) (pe_one (pe_cmpR op_eq (pe_fld (pv 0) rfl) (pe_fld (pv 1) rfl) (by rfl)))))), ?_⟩
    refine ⟨_, rfl, _, _, _, _, _, rfl, .own C, .base (.ins hb fg.cl fg.ca fg.hn fg.ht fg.hm), fg.me, _, rfl, ifT rfl ?_⟩
    refine ⟨_, rfl, a, C, dx, _, _, rfl, ha, fg.cl, fg.nP, fl_prime, _, rfl, b, C, dy, _, _, rfl, hb, fg.cl, fg.nP, fl_prime, rfl, ?_⟩
    have e : decide (V.int p = V.int q) = decide (p = q) := by
      by_cases h : p = q
      · rw [decide_eq_true h, decide_eq_true (congrArg V.int h)]
      · rw [decide_eq_false h, decide_eq_false fun z => h (V.int.inj z)]
    rw [e]
    exact k
theorem sc_finit : FnScope ["self", "prime"] ["self", "prime"] (defScope (inClass (top 38) 0)) := ⟨rfl, rfl, rfl, by decide +kernel, rfl, by decide +kernel, by decide +kernel⟩
theorem ok_finit (F : FnM K "__init__" (inClass (top 38) 0) f fd) (fg : Fg K C) {f1 : Addr} {fd1 : FuncData} {ds1 : List Value} (G1 : FnOk P w K mg base CX0 1 f1 fd1 ["thing", "low", "high"] (spWhole K)) (m1 : mg "is_whole" = some (.ref f1)) (kp1 : PySem.W.keepIn K (.ref f1) = true) (b1 : L2.Binds K fd1 ["thing", "low", "high"] ds1) (d1 : Vals [.non, .non] ds1) (mO : mg "OFFERED" = some (.ref oA)) (hO : ∀ H, SqT K H oA offV) (eF : Ei P w K mg base gP "BadFigures" "prime" cF) : FnOk P w K mg base (L2.CX P w) 3 f fd ["self", "prime"] (spInit K C cF) := by
  obtain ⟨eFfI, eFfd, eFiC, eFtI, eFG, eFb⟩ := eF.ini
  refine F.ok sc_finit (fun vs H Q E h => ?_) (fun cdv A outer s0 H vs Q E hr h => ?_)
  · obtain ⟨a, dx, x, d, rfl, _⟩ := h; rfl
  · obtain ⟨a, dx, x, d, rfl, ha, hd, kE, kQ⟩ := h
    have hr1 : Room 1 _ := hr.mono (by decide)
    have hr2 : Room 2 _ := hr
    refine ⟨_, (pss_cons (ps_if (PW.pt (pw_or (pt_not (pt_val (pe_call G1 hr1 (by rfl) m1 kp1 b1 d1 pass0 (pa_cons (pv 1) pa_nil)))) (pw_or1 (pt_cmpR op_notIn_seq (pv 1) (pe_glob (v := .ref oA) (by rfl) mO rfl) (by rfl))))) (pss_one (ps_raise rfl (takes_of rfl rfl rfl rfl) (pmk_oex eF.er.ox eFiC eFtI eFG hr2 eFb .nil pass0 (by rfl) eF.m (pa_cons (pv 1) pa_nil)))) pss_nil)
      (pss_cons (ps_fld (pv 0) (pv 1) rfl)
      (pss_cons (ps_fld (pv 0) (pe_ifExp (pt_cmpR op_eq (pv 1) pe_int (by rfl)) (pe_tup (pa_cons pe_int (pa_cons pe_int pa_nil))) pe_int) rfl)
      (pss_one (ps_fld (pv 0) (pe_ifExp (pt_cmpR op_eq (pv 1) pe_int (by rfl)) (pe_tup (pa_cons pe_int (pa_cons pe_int pa_nil))) pe_int) rfl))))), ?_⟩
    refine ⟨_, rfl, x, .non, .non, d, none, none, rfl, hd, rfl, rfl, _, rfl, ?_⟩
    cases d with
    | int p =>
      cases hd
      refine ifF rfl ⟨_, rfl, oA, offV, rfl, .inr (hO _), rfl, rfl, _, rfl, ?_⟩
      by_cases hp : Off p
      · refine ifF (by show (!inV (.int p) offV) = false; rw [off_in hp]; rfl) ?_
        refine ⟨_, rfl, _, rfl, a, C, dx, [], rfl, ha, fg.cl, fg.nP, by show 0 < 1000; decide, ?_⟩
        have l1 : ∀ {v : V}, (putF "prime" v []).length < 1000 := fun {v} => by show 1 < 1000; decide
        have l2 : ∀ {v z : V}, (putF "zero" z (putF "prime" v [])).length < 1000 := fun {v z} => Nat.lt_of_le_of_lt (length_putF _ _ _) (by show 2 < 1000; decide)
        by_cases h0 : p = 0
        · subst h0
          refine ⟨_, rfl, rfl, _, rfl, ifT (decide_eq_true rfl) ⟨by show 2 ≤ sizeLine; decide, fun z hz => ?_⟩⟩
          have hza : z ≠ a := fun e => by
            rw [e, upd_same] at hz
            cases hz
          have hz0 : H z = none := by
            rw [upd_ne hza] at hz
            exact hz
          refine ⟨_, rfl, a, C, dx, _, rfl, (by rw [upd_ne hza.symm, upd_same]), fg.cl, fg.nZ, l1, ?_⟩
          refine ⟨_, rfl, rfl, _, rfl, ifT (decide_eq_true rfl) ⟨by show 2 ≤ sizeLine; decide, fun q hq => ?_⟩⟩
          have hqa : q ≠ a := fun e => by
            rw [e, upd_same] at hq
            cases hq
          have hqz : q ≠ z := fun e => by
            rw [e, upd_ne hza, upd_same] at hq
            cases hq
          have hq0 : H q = none := by
            rw [upd_ne hqa, upd_ne hqz, upd_ne hqa] at hq
            exact hq
          refine ⟨_, rfl, a, C, dx, _, rfl, (by rw [upd_ne hqa.symm, upd_same]), fg.cl, fg.nO, l2, ?_⟩
          refine kQ 0 rfl hp _ (fun b o hb e => ?_) ⟨hp, dx, .ref z, .ref q, upd_same, .inl ⟨rfl, z, q, rfl, rfl, ?_, ?_⟩⟩
          · rw [upd_ne hb, upd_ne (ne_of_none e hq0), upd_ne hb, upd_ne (ne_of_none e hz0), upd_ne hb]
            exact e
          · rw [upd_ne hza, upd_ne hqz.symm, upd_ne hza, upd_same]
          · rw [upd_ne hqa, upd_same]
        · refine ⟨_, rfl, rfl, _, rfl, ifF (decide_eq_false fun z => h0 (V.int.inj z)) ?_⟩
          refine ⟨_, rfl, a, C, dx, _, rfl, upd_same, fg.cl, fg.nZ, l1, ?_⟩
          refine ⟨_, rfl, rfl, _, rfl, ifF (decide_eq_false fun z => h0 (V.int.inj z)) ?_⟩
          refine ⟨_, rfl, a, C, dx, _, rfl, upd_same, fg.cl, fg.nO, l2, ?_⟩
          refine kQ p rfl hp _ (fun b o hb e => ?_) ⟨hp, dx, .int 0, .int 1, upd_same, .inr ⟨h0, rfl, rfl⟩⟩
          rw [upd_ne hb, upd_ne hb, upd_ne hb]
          exact e
      · refine ifT (by show (!inV (.int p) offV) = true; rw [off_no hp]; rfl) ?_
        exact ⟨_, rfl, rd_mk1 fun d' H' s e => kE (fun q h => by cases h; exact hp) d' H' s e⟩
    | dict _ => cases hd
    | _ => exact ifT rfl (ifT rfl ⟨_, rfl, rd_mk1 fun d' H' s e => kE (fun q h => by cases h) d' H' s e⟩)
end
end Rc
set_option exponentiation.threshold 20000

namespace Rd
open PySem PySem.Spec PyProof.Rows L2 Dz Ra Mt
open Kq (HandAt But spTake)
def spGcdL : Sp := fun vs H Q _ => ∃ a b : Int, vs = [.int a, .int b] ∧ Sm4 a ∧ Sm4 b ∧ Q (.int ((Nat.gcd a.natAbs b.natAbs : Nat) : Int)) H
def spLowL : Sp := fun vs H Q _ => ∃ t b : Int, vs = [.int t, .int b] ∧ b ≠ 0 ∧ Sm4 t ∧ Sm4 b ∧ ∀ p, H p = none → Q (.ref p) (upd H p (.tup [.int (lowT t b), .int (lowB t b)]))
/-- a draw: a whole number between lo and hi -/
def spDraw (lo hi : Int) : Sp := fun vs H Q _ => ∃ (a c : Addr) (cs : List Int) (p g t : Int), vs = [.ref a] ∧ HandAt H a c cs p g t ∧
  ∀ (r p' g' t' : Int) (H' : Hp), lo ≤ r → r ≤ hi → But a H H' → HandAt H' a c cs p' g' t' → Q (.int r) H'
def spFrac : Sp := fun vs H Q _ => ∃ (a c : Addr) (cs : List Int) (p g t : Int), vs = [.ref a] ∧ HandAt H a c cs p g t ∧
  ∀ (q : Addr) (x y p' g' t' : Int) (H' : Hp), Frac x y → H' q = some (.tup [.int x, .int y]) → But a H H' → HandAt H' a c cs p' g' t' → Q (.ref q) H'
def spDrawn : Sp := fun vs H Q _ => ∃ (a c : Addr) (cs : List Int) (p g t m : Int), vs = [.ref a, .int m] ∧ HandAt H a c cs p g t ∧ 0 ≤ m ∧ m ≤ 13 ∧
  (m = 0 → ∀ (q : Addr) (x y p' g' t' : Int) (H' : Hp), Frac x y → H' q = some (.tup [.int x, .int y]) → But a H H' → HandAt H' a c cs p' g' t' → Q (.ref q) H') ∧
  (m ≠ 0 → ∀ (r p' g' t' : Int) (H' : Hp), 0 ≤ r → r < m → But a H H' → HandAt H' a c cs p' g' t' → Q (.int r) H')
def spWholeL (K : PySem.W.Frag) : Sp := fun vs H Q _ => ∃ (x : V) (d : PyData), vs = [x] ∧ Dp K H x d ∧ Q (.bl (wholeD d none none)) H
def sgn (n : Int) : Int := if n < 0 then -1 else if 0 < n then 1 else 0
def spSign : Sp := fun vs H Q _ => ∃ n : Int, vs = [.int n] ∧ Q (.int (sgn n)) H
/-- an int, or a couple of ints -/
def Numb (d : PyData) : Prop := (∃ i, d = .int i) ∨ ∃ t b, d = .tuple [.int t, .int b]
def spSame (K : PySem.W.Frag) : Sp := fun vs H Q _ => ∃ (x y : V) (d : PyData), vs = [x, y] ∧ Dp K H x d ∧ Dp K H y d ∧ Numb d ∧ Q (.bl true) H
theorem numb_sh {d : PyData} (h : Numb d) : SeqAt.shaped d = true ∧ PyData.eqv d d = true := by
  rcases h with ⟨i, rfl⟩ | ⟨t, b, rfl⟩
  · exact ⟨by rfl, by show (i == i) = true; exact beq_self_eq_true i⟩
  · exact ⟨by rfl, by show ((t == t) && ((b == b) && true)) = true; rw [beq_self_eq_true, beq_self_eq_true]; rfl⟩
theorem But.trans {a : Addr} {H H1 H2 : Hp} (x : But a H H1) (y : But a H1 H2) : But a H H2 := fun b o hb e => y b o hb (x b o hb e)
theorem But.new {a p : Addr} {H : Hp} {o : HO} (h : H p = none) : But a H (upd H p o) := fun b u _ e => by
  rw [upd_ne (ne_of_none e h)]
  exact e
theorem ten9 : (10 : Int) ^ (9 : Int).toNat = 1000000000 := by decide
theorem ten8 : (10 : Int) ^ (8 : Int).toNat = 100000000 := by decide
section
variable {P : Program} {w : World} {K : PySem.W.Frag} {mg : Str → Option Value} {base : Heap} {f : Addr} {fd : FuncData}
theorem sc__law_gcd : FnScope ["_law_one", "_law_other", "_law_a", "_law_b", "_law_k", "_law_rest"] ["_law_one", "_law_other"] (defScope (top 43)) := ⟨rfl, rfl, rfl, by decide +kernel, rfl, by decide +kernel, by decide +kernel⟩
theorem ok__law_gcd (F : FnP K "_law_gcd" (top 43) [] f fd) (tx : Bn mg) : FnOk P w K mg base CX0 1 f fd ["_law_one", "_law_other"] spGcdL := by
  refine F.ok sc__law_gcd (fun vs H Q E h => ?_) (fun cdv A outer s H vs Q E hr h => ?_)
  · obtain ⟨a, b, rfl, _⟩ := h; rfl
  · obtain ⟨a, b, rfl, sa, sb, k⟩ := h
    refine ⟨_, PSs.nox (pss_cons (ps_set (i := 2) sc__law_gcd.nd rfl (Or.inl rfl) (pe_callB call_abs (by rfl) tx.abs (by decide +kernel) (pa_cons (pv 0) pa_nil)))
      (pss_cons (ps_set (i := 3) sc__law_gcd.nd rfl (Or.inl rfl) (pe_callB call_abs (by rfl) tx.abs (by decide +kernel) (pa_cons (pv 1) pa_nil)))
      (pss_cons (ps_for PassesOwn.never rfl (pi_range1 (by rfl) tx.range (pa_cons pe_int pa_nil)) (pg_name (i := 4) sc__law_gcd.nd rfl (Or.inl rfl)) (pss_cons (ps_if (pt_cmpR op_eq (pv 3) pe_int (by rfl)) (pss_one (ps_ret (pv 2))) pss_nil)
      (pss_cons (ps_set (i := 5) sc__law_gcd.nd rfl (Or.inl rfl) (pe_op op_mod (pe_callTy call_int1 (by rfl) tx.int PyProof.Rows.boot_int (pa_cons (pv 2) pa_nil)) (pv 3)))
      (pss_cons (ps_set (i := 2) sc__law_gcd.nd rfl (Or.inl rfl) (pv 3))
      (pss_one (ps_set (i := 3) sc__law_gcd.nd rfl (Or.inl rfl) (pv 5)))))))
      (pss_one (ps_ret pe_int))))), ?_⟩
    refine ⟨_, rfl, a, rfl, _, rfl, b, rfl, ?_⟩
    have ea : (if a < 0 then -a else a) = ((a.natAbs : Nat) : Int) := by split <;> omega
    have eb : (if b < 0 then -b else b) = ((b.natAbs : Nat) : Int) := by split <;> omega
    have bound : a.natAbs * b.natAbs < 2 ^ 8000 := by
      have := Nat.mul_lt_mul'' sa sb
      rw [← Nat.pow_add] at this
      exact this
    refine ⟨60000, rfl, by decide, by decide, for_range (n := 60000) (fun i σ H2 => H2 = H ∧ ∃ (x y : Nat) (u v : Option V), σ = [some (.int a), some (.int b), some (.int x), some (.int y), u, v] ∧ Nat.gcd x y = Nat.gcd a.natAbs b.natAbs ∧ ((i = 0 ∧ x * y < 2 ^ 8000) ∨ (y ≤ x ∧ i ≤ 8001 ∧ x * y < 2 ^ (8001 - i)))) ?_ ?_ ?_⟩
    · refine ⟨rfl, a.natAbs, b.natAbs, none, none, ?_, rfl, .inl ⟨rfl, bound⟩⟩
      show [some (V.int a), some (V.int b), some (V.int (if a < 0 then -a else a)), some (V.int (if b < 0 then -b else b)), none, none] = _
      rw [ea, eb]
    · rintro i σ H2 hi ⟨rfl, x, y, u, v, rfl, hg, hb⟩
      refine ⟨_, rfl, rfl, _, rfl, ?_⟩
      by_cases hy : y = 0
      · subst hy
        refine ifT (decide_eq_true rfl) ⟨_, rfl, ?_⟩
        rw [Nat.gcd_zero_right] at hg
        rw [← hg] at k
        exact k
      · refine ifF (decide_eq_false fun z => hy (by have := V.int.inj z; omega)) ?_
        refine ⟨_, rfl, .inl ⟨_, rfl, _, rfl, _, _, rfl, rfl, by omega, _, rfl, _, rfl, rfl, y, x % y, _, _, rfl, ?_, ?_⟩⟩
        · rw [gcd_step]
          exact hg
        · have hm : x % y < y := Nat.mod_lt x (by omega)
          refine .inr ⟨Nat.le_of_lt hm, ?_, ?_⟩
          · rcases hb with ⟨rfl, _⟩ | ⟨_, h1, h2⟩
            · omega
            · refine Classical.byContradiction fun z => ?_
              have e : 8001 - i = 0 := by omega
              rw [e] at h2
              have hx : 0 < x := by omega
              have := Nat.mul_pos hx (show 0 < y by omega)
              omega
          · rcases hb with ⟨rfl, h1⟩ | ⟨h0, h1, h2⟩
            · show y * (x % y) < 2 ^ 8000
              refine Nat.lt_of_le_of_lt ?_ h1
              rw [Nat.mul_comm x y]
              exact Nat.mul_le_mul_left y (Nat.mod_le x y)
            · by_cases hz : i = 8001
              · subst hz
                have hx : 0 < x := by omega
                have := Nat.mul_pos hx (show 0 < y by omega)
                have h3 : x * y < 1 := h2
                omega
              · have e : 8001 - i = (8001 - (i + 1)) + 1 := by omega
                rw [e] at h2
                exact step_lt (by omega) h0 h2
    · rintro σ H2 ⟨rfl, x, y, u, v, rfl, hg, hb⟩
      exfalso
      rcases hb with ⟨h, _⟩ | ⟨_, h, _⟩ <;> omega
theorem sc__law_ratio : FnScope ["_law_top", "_law_bottom", "_law_common"] ["_law_top", "_law_bottom"] (defScope (top 44)) := ⟨rfl, rfl, rfl, by decide +kernel, rfl, by decide +kernel, by decide +kernel⟩
theorem ok__law_ratio (F : FnP K "_law_ratio" (top 44) [] f fd) {fG : Addr} {fdG : FuncData} (GG : FnOk P w K mg base CX0 1 fG fdG ["_law_one", "_law_other"] spGcdL) (mG : mg "_law_gcd" = some (.ref fG)) (kpG : PySem.W.keepIn K (.ref fG) = true) (bG : L2.Binds K fdG ["_law_one", "_law_other"] []) : FnOk P w K mg base CX0 2 f fd ["_law_top", "_law_bottom"] spLowL := by
  refine F.ok sc__law_ratio (fun vs H Q E h => ?_) (fun cdv A outer s H vs Q E hr h => ?_)
  · obtain ⟨a, b, rfl, _⟩ := h; rfl
  · obtain ⟨t, b, rfl, hb, st, sb, k⟩ := h
    have hrG : Room 1 _ := hr
    have hz : CDivZ 0 (divi t b) := ⟨divi_ne hb, log_of (by decide) (Nat.lt_of_le_of_lt (divi_le hb) (Nat.lt_of_lt_of_le sb (Nat.pow_le_pow_right (by decide) (by decide : 4000 ≤ 9000))))⟩
    refine ⟨_, PSs.nox (pss_cons (ps_set (i := 2) sc__law_ratio.nd rfl (Or.inl rfl) (pe_call GG hrG (by rfl) mG kpG bG .nil pass0 (pa_cons (pv 0) (pa_cons (pv 1) pa_nil))))
      (pss_cons (ps_if (pt_cmpR op_lt (pv 1) pe_int (by rfl)) (pss_one (ps_set (i := 2) sc__law_ratio.nd rfl (Or.inl rfl) (pe_un un_neg (pv 2)))) pss_nil)
      (pss_one (ps_ret (pe_tup (pa_cons (pe_op op_fdivZ (pv 0) (pv 2)) (pa_cons (pe_op op_fdivZ (pv 1) (pv 2)) pa_nil))))))), ?_⟩
    refine ⟨_, rfl, _, rfl, _, _, rfl, st, sb, ?_⟩
    refine ⟨_, rfl, _, _, rfl, rfl, _, rfl, ?_⟩
    have fin : ∀ g : Int, g = divi t b → CDivZ 0 g ∧ ∀ p, H p = none → Q (.ref p) (upd H p (.tup [.int (t.fdiv g), .int (b.fdiv g)])) := fun g e => by
      subst e
      exact ⟨hz, k⟩
    by_cases h0 : b < 0
    · obtain ⟨z, k2⟩ := fin (-((Nat.gcd t.natAbs b.natAbs : Nat) : Int)) (by unfold divi; rw [if_pos h0])
      refine ifT (decide_eq_true h0) ?_
      exact ⟨_, rfl, _, rfl, _, rfl, _, rfl, _, _, rfl, rfl, z, _, rfl, _, rfl, _, _, rfl, rfl, z, by show 2 ≤ sizeLine; decide, fun p hp => k2 p hp⟩
    · obtain ⟨z, k2⟩ := fin ((Nat.gcd t.natAbs b.natAbs : Nat) : Int) (by unfold divi; rw [if_neg h0])
      refine ifF (decide_eq_false h0) ?_
      exact ⟨_, rfl, _, rfl, _, _, rfl, rfl, z, _, rfl, _, rfl, _, _, rfl, rfl, z, by show 2 ≤ sizeLine; decide, fun p hp => k2 p hp⟩
theorem sc__law_whole : FnScope ["_law_thing"] ["_law_thing"] (defScope (top 55)) := ⟨rfl, rfl, rfl, by decide +kernel, rfl, by decide +kernel, by decide +kernel⟩
theorem ok__law_whole (F : FnP K "_law_whole" (top 55) [] f fd) (tx : Bn mg) : FnOk P w K mg base CX0 1 f fd ["_law_thing"] (spWholeL K) := by
  refine F.ok sc__law_whole (fun vs H Q E h => ?_) (fun cdv A outer s H vs Q E hr h => ?_)
  · obtain ⟨x, d, rfl, _⟩ := h; rfl
  · obtain ⟨x, d, rfl, hd, k⟩ := h
    refine ⟨_, PSs.nox (pss_one (ps_ret (pe_and (pe_callB call_isi (by rfl) tx.isinstance PyProof.Rows.boot_isinstance (pa_cons (pv 0) (pa_cons (pe_bltn (v := .ty "int") (by rfl) tx.int (by decide +kernel) rfl) pa_nil))) (pe_one (pe_not (pe_callB call_isi (by rfl) tx.isinstance PyProof.Rows.boot_isinstance (pa_cons (pv 0) (pa_cons (pe_bltn (v := .ty "bool") (by rfl) tx.bool (by decide +kernel) rfl) pa_nil)))))))), ?_⟩
    refine ⟨_, rfl, _, _, _, _, _, rfl, .ty _, ty_dp hd, kit_bi d (.inl rfl), _, rfl, ?_⟩
    cases d with
    | int i =>
      cases hd
      exact ifT rfl ⟨_, rfl, _, _, _, _, _, rfl, .ty _, ty_dp (.int i), kit_bi (.int i) (.inr (.inl rfl)), _, rfl, k⟩
    | bool b =>
      cases hd
      exact ifT rfl ⟨_, rfl, _, _, _, _, _, rfl, .ty _, ty_dp (.bl b), kit_bi (.bool b) (.inr (.inl rfl)), _, rfl, k⟩
    | dict _ => cases hd
    | _ => exact ifF rfl k
end
end Rd
set_option maxHeartbeats 2000000
namespace Vz
open PySem PySem.Spec PyProof.Rows L2 Dz
structure Mv (G H G' H' : Hp) : Prop where
  gg : Same G G'
  gh : Same G' H'
  nw : ∀ a, H a ≠ none → G' a = G a
  dm : ∀ a, H a ≠ none → H' a ≠ none
theorem some_ne {α : Type} {x : Option α} {o : α} (h : x = some o) : x ≠ none := fun z => by rw [h] at z; cases z
theorem ne_some {α : Type} {x : Option α} (h : x ≠ none) : ∃ o, x = some o := by
  cases x with
  | none => exact absurd rfl h
  | some o => exact ⟨o, rfl⟩
theorem old_none {G H : Hp} {p : Addr} (s : Same G H) (hp : H p = none) : G p = none := by
  cases e : G p with
  | none => rfl
  | some o =>
    rw [s p o e] at hp
    cases hp
section
variable {G H G1 H1 G2 H2 G' H' : Hp}
theorem Mv.refl (s : Same G H) : Mv G H G H := ⟨Same.refl _, s, fun _ _ => rfl, fun _ h => h⟩
theorem Mv.trans (x : Mv G H G1 H1) (y : Mv G1 H1 G2 H2) : Mv G H G2 H2 :=
  ⟨x.gg.trans y.gg, y.gh, fun a h => (y.nw a (x.dm a h)).trans (x.nw a h), fun a h => y.dm a (x.dm a h)⟩
theorem Mv.of (s : Same G H) (t : Same H H') : Mv G H G H' :=
  ⟨Same.refl _, s.trans t, fun _ _ => rfl, fun a h => by
    obtain ⟨o, e⟩ := ne_some h
    exact some_ne (t a o e)⟩
theorem Mv.new {p : Addr} {o : HO} (s : Same G H) (hp : H p = none) : Mv G H (upd G p o) (upd H p o) := by
  have gp := old_none s hp
  refine ⟨same_new gp, fun b u e => ?_, fun a h => ?_, fun a h => ?_⟩
  · by_cases hb : b = p
    · subst hb
      rw [upd_same] at e ⊢
      exact e
    · rw [upd_ne hb] at e ⊢
      exact s b u e
  · rw [upd_ne fun z => h (by rw [z]; exact hp)]
  · rw [upd_ne fun z => h (by rw [z]; exact hp)]
    exact h
/-- a new object that stays out of the view -/
theorem Mv.hid {p : Addr} {o : HO} (s : Same G H) (hp : H p = none) : Mv G H G (upd H p o) := Mv.of s (same_new hp)
/-- an object out of the view changes -/
theorem Mv.put {p : Addr} {o : HO} (s : Same G H) (gp : G p = none) (hp : H p ≠ none) : Mv G H G (upd H p o) := by
  refine ⟨Same.refl _, fun b u e => ?_, fun _ _ => rfl, fun a h => ?_⟩
  · rw [upd_ne (ne_of_none e gp)]
    exact s b u e
  · by_cases ha : a = p
    · rw [ha, upd_same]
      exact fun z => nomatch z
    · rw [upd_ne ha]
      exact h
/-- an object out of the view comes in as it stands -/
theorem Mv.shut {p : Addr} {o : HO} (x : Mv G H G1 H1) (np : H p = none) (g1 : G1 p = none) (hp : H1 p = some o) : Mv G H (upd G1 p o) H1 := by
  refine ⟨x.gg.trans (same_new g1), fun b u e => ?_, fun a h => ?_, x.dm⟩
  · by_cases hb : b = p
    · subst hb
      rw [upd_same] at e
      rw [hp]
      exact e
    · rw [upd_ne hb] at e
      exact x.gh b u e
  · rw [upd_ne fun z => h (by rw [z]; exact np)]
    exact x.nw a h
theorem Mv.no {p : Addr} (x : Mv G H G1 H1) (hp : H p ≠ none) (gp : G p = none) : G1 p = none := (x.nw p hp).trans gp
/-- what a deed keeps that changes only what ex tells -/
def Kp (ex : Addr → Prop) (H H' : Hp) : Prop := ∀ b o, ¬ ex b → H b = some o → H' b = some o
def no1 : Addr → Prop := fun _ => False
theorem Kp.refl {ex : Addr → Prop} : Kp ex H H := fun _ _ _ h => h
theorem Kp.trans {ex : Addr → Prop} (x : Kp ex H H1) (y : Kp ex H1 H2) : Kp ex H H2 := fun b o hb e => y b o hb (x b o hb e)
theorem Kp.same (x : Kp no1 H H1) : Same H H1 := fun b o e => x b o id e
theorem Kp.of {ex : Addr → Prop} (s : Same H H1) : Kp ex H H1 := fun b o _ e => s b o e
end
theorem dpAll_append {K : PySem.W.Frag} {H : Hp} : ∀ {xs ys : List V} {ds es : List PyData}, DpAll K H xs ds → DpAll K H ys es → DpAll K H (xs ++ ys) (ds ++ es)
  | _, _, [], _, h, k => by
    have e := dpAll_nil h
    subst e
    exact k
  | _, _, d :: ds, _, h, k => by
    obtain ⟨x, r, rfl, h1, h2⟩ := dpAll_cons h
    exact .cons h1 (dpAll_append h2 k)
theorem dpAll_len {K : PySem.W.Frag} {H : Hp} : ∀ {xs : List V} {ds : List PyData}, DpAll K H xs ds → xs.length = ds.length
  | _, [], h => by
    have e := dpAll_nil h
    subst e
    rfl
  | _, d :: ds, h => by
    obtain ⟨x, r, rfl, h1, h2⟩ := dpAll_cons h
    rw [List.length_cons, List.length_cons, dpAll_len h2]
theorem dpAll_get {K : PySem.W.Frag} {H : Hp} : ∀ {xs : List V} {ds : List PyData} {i : Nat} {x : V}, DpAll K H xs ds → xs[i]? = some x → ∃ d, ds[i]? = some d ∧ Dp K H x d
  | _, [], i, x, h, e => by
    have z := dpAll_nil h
    subst z
    simp at e
  | _, d :: ds, i, x, h, e => by
    obtain ⟨y, r, rfl, h1, h2⟩ := dpAll_cons h
    cases i with
    | zero =>
      have z : y = x := by simpa using e
      subst z
      exact ⟨d, rfl, h1⟩
    | succ i =>
      obtain ⟨d', e', h'⟩ := dpAll_get (i := i) h2 (by simpa using e)
      exact ⟨d', by simpa using e', h'⟩
theorem dpAll_at {K : PySem.W.Frag} {H : Hp} : ∀ {xs : List V} {ds : List PyData} {i : Nat} {d : PyData}, DpAll K H xs ds → ds[i]? = some d → ∃ x, xs[i]? = some x ∧ Dp K H x d
  | _, [], i, d, h, e => by simp at e
  | _, d0 :: ds, i, d, h, e => by
    obtain ⟨y, r, rfl, h1, h2⟩ := dpAll_cons h
    cases i with
    | zero =>
      have z : d0 = d := by simpa using e
      subst z
      exact ⟨y, rfl, h1⟩
    | succ i =>
      obtain ⟨x, e', h'⟩ := dpAll_at (i := i) h2 (by simpa using e)
      exact ⟨x, by simpa using e', h'⟩
theorem dpAll_drop {K : PySem.W.Frag} {H : Hp} : ∀ {xs : List V} {ds : List PyData} (n : Nat), DpAll K H xs ds → DpAll K H (xs.drop n) (ds.drop n)
  | xs, ds, 0, h => by simpa using h
  | _, [], n + 1, h => by
    have e := dpAll_nil h
    subst e
    exact h
  | _, d :: ds, n + 1, h => by
    obtain ⟨y, r, rfl, h1, h2⟩ := dpAll_cons h
    exact dpAll_drop n h2
theorem dpAll_take {K : PySem.W.Frag} {H : Hp} : ∀ {xs : List V} {ds : List PyData} (n : Nat), DpAll K H xs ds → DpAll K H (xs.take n) (ds.take n)
  | xs, ds, 0, h => by
    rw [List.take_zero, List.take_zero]
    exact .nil
  | _, [], n + 1, h => by
    have e := dpAll_nil h
    subst e
    exact h
  | _, d :: ds, n + 1, h => by
    obtain ⟨y, r, rfl, h1, h2⟩ := dpAll_cons h
    exact .cons h1 (dpAll_take n h2)
theorem dpAll_set {K : PySem.W.Frag} {H : Hp} : ∀ {xs : List V} {ds : List PyData} (n : Nat) {x : V} {d : PyData}, DpAll K H xs ds → Dp K H x d → DpAll K H (xs.set n x) (ds.set n d)
  | _, [], n, x, d, h, k => by
    have e := dpAll_nil h
    subst e
    exact h
  | _, d0 :: ds, 0, x, d, h, k => by
    obtain ⟨y, r, rfl, h1, h2⟩ := dpAll_cons h
    exact .cons k h2
  | _, d0 :: ds, n + 1, x, d, h, k => by
    obtain ⟨y, r, rfl, h1, h2⟩ := dpAll_cons h
    exact .cons h1 (dpAll_set n h2 k)
theorem dp_lst {K : PySem.W.Frag} {H : Hp} {v : V} {ds : List PyData} (h : Dp K H v (.list ds)) : ∃ a xs, v = .ref a ∧ SqL K H a xs ∧ DpAll K H xs ds := by
  cases h with
  | lst hs ha => exact ⟨_, _, rfl, hs, ha⟩
/-- the items of a sequence of data, in a list or in a tuple -/
inductive Sq : PyData → List PyData → Prop
  | lst (ds : List PyData) : Sq (.list ds) ds
  | tup (ds : List PyData) : Sq (.tuple ds) ds
theorem sq_dp {K : PySem.W.Frag} {H : Hp} {v : V} {d : PyData} {ds : List PyData} (q : Sq d ds) (h : Dp K H v d) : ∃ a xs, v = .ref a ∧ (SqL K H a xs ∨ SqT K H a xs) ∧ DpAll K H xs ds := by
  cases q with
  | lst =>
    obtain ⟨a, xs, e, h1, h2⟩ := dp_lst h
    exact ⟨a, xs, e, .inl h1, h2⟩
  | tup =>
    obtain ⟨a, xs, e, h1, h2⟩ := dp_tup h
    exact ⟨a, xs, e, .inr h1, h2⟩
theorem pi_or {X : Cx} {tg it : Expr} {w1 w2 : TI} (h1 : PI X tg it w1) (h2 : PI X tg it w2) : PI X tg it (fun σ H R => w1 σ H R ∨ w2 σ H R) :=
  ⟨fun pins s σ H R I h => h.elim (h1.run pins s σ H R I) (h2.run pins s σ H R I)⟩
theorem op_or {X : Cx} {f : Value → Value → Sem Value} {r1 r2 : R2} (h1 : OpR X f r1) (h2 : OpR X f r2) : OpR X f (fun x y H Q => r1 x y H Q ∨ r2 x y H Q) :=
  fun pins s σ H x y v u Q I rx ry h => h.elim (h1 pins s σ H x y v u Q I rx ry) (h2 pins s σ H x y v u Q I rx ry)
theorem call_or {X : Cx} {f : Value} {r1 r2 : List V → Hp → VK → Prop} (h1 : CallR X f r1) (h2 : CallR X f r2) : CallR X f (fun xs H Q => r1 xs H Q ∨ r2 xs H Q) :=
  fun pins s σ H xs us Q I r h => h.elim (h1 pins s σ H xs us Q I r) (h2 pins s σ H xs us Q I r)
theorem pi_tupK {X : Cx} {K : PySem.W.Frag} {tg l : Expr} {tl : TE} (h : X.K = K) (hl : PE X l tl) : PI X tg l (iTup K tl) := by
  rw [← h]
  exact pi_tup hl
theorem pi_listK {X : Cx} {K : PySem.W.Frag} {tg l : Expr} {tl : TE} (h : X.K = K) (hl : PE X l tl) : PI X tg l (iList K tl) := by
  rw [← h]
  exact pi_list hl
theorem ix_tupK {X : Cx} {K : PySem.W.Frag} (h : X.K = K) : IxR X (rIxT K) := by
  rw [← h]
  exact ix_tup
theorem ix_listK {X : Cx} {K : PySem.W.Frag} (h : X.K = K) : IxR X (rIxL K) := by
  rw [← h]
  exact ix_list
theorem call_tuple_ofK {X : Cx} {K : PySem.W.Frag} (h : X.K = K) : CallR X (.type "tuple") (fun xs H Q => ∃ p ys, xs = [.ref p] ∧ ((SqL K H p ys ∧ ∀ l, H l = none → Q (.ref l) (upd H l (.tup ys))) ∨ (SqT K H p ys ∧ Q (.ref p) H))) := by
  rw [← h]
  exact call_tuple_of
section
variable {K : PySem.W.Frag} {J : It} {n : Nat} {Gd : Hp → Prop} {Y : Nat → Hp → V → Hp → Prop} {g : TG} {tt : TT} {te : TE} {vs : List Nat} {σ : L2.St} {G1 H1 : Hp} {D : Addr} {Qd : Hp → Prop}
/-- what a comprehension's loop asks -/
abbrev LcW (J : It) (g : TG) (tt : TT) (te : TE) (vs : List Nat) (σ : L2.St) (H1 : Hp) (D : Addr) (Qd : Hp → Prop) : Prop :=
  ∃ W : Nat → Nat → Hp → Prop, (∃ m, W 0 m (upd H1 D (.lst []))) ∧ ∀ i m H, W i m H →
      (J.stop i H ∧ Qd H) ∨ (J.go i H ∧ ∃ Nx : Hp → Prop, (∀ H', Nx H' → ∃ m', m' < m ∧ W (i + 1) m' H') ∧ ∀ x H', J.yld i H x H' → g x (wipe σ vs) H' fun σ2 H2 => wipe σ2 vs = wipe σ vs ∧ tt σ2 H2 fun b H3 =>
        if b = true then te σ2 H3 fun y H4 => ∃ acc, H4 D = some (.lst acc) ∧ acc.length < sizeLine ∧ Nx (upd H4 D (.lst (acc ++ [y]))) else Nx H3)
/-- one item made: the result is of R i -/
structure Made (K : PySem.W.Frag) (ex : Addr → Prop) (I : Hp → Prop) (R : PyData → Prop) (G H : Hp) (y : V) (H4 : Hp) : Prop where
  ok : ∃ d G', R d ∧ Mv G H G' H4 ∧ Kp ex H H4 ∧ I H4 ∧ Dp K G' y d
theorem lcV (w : Walk J n Gd Y) (ex : Addr → Prop) (I : Hp → Prop) (R : Nat → PyData → Prop)
    (s1 : Same G1 H1) (hD : H1 D = none) (hx : ¬ ex D) (hn : n ≤ 1000) (i1 : I H1) (hI : ∀ H o, I H → (∀ b u, H1 b = some u → ¬ ex b → H b = some u) → I (upd H D o)) (hGd : ∀ G H, Same G1 G → Same G H → Kp ex H1 H → Gd H)
    (hs : ∀ i x G H H' (k kn : Hp → Prop) (kk : VK), i < n → Mv G1 (upd H1 D (.lst [])) G H → Kp ex H1 H → I H → Y i H x H' → (∀ y H4, Made K ex I (R i) G H y H4 → kk y H4) →
      g x (wipe σ vs) H' fun σ2 H2 => wipe σ2 vs = wipe σ vs ∧ tt σ2 H2 fun b H3 => if b = true then te σ2 H3 kk else kn H3)
    (q : ∀ acc ds G2 H2, H2 D = some (.lst acc) → DpAll K G2 acc ds → ds.length = n → (∀ i d, ds[i]? = some d → R i d) → Mv G1 (upd H1 D (.lst [])) G2 H2 → Kp ex H1 H2 → I H2 → Qd H2) :
    LcW J g tt te vs σ H1 D Qd := by
  have g1D := old_none s1 hD
  have h0D : (upd H1 D (.lst [])) D ≠ none := by
    rw [upd_same]
    exact fun z => nomatch z
  refine lc_it w (fun i H => ∃ acc ds G, H D = some (.lst acc) ∧ DpAll K G acc ds ∧ ds.length = i ∧ i ≤ n ∧ (∀ j d, ds[j]? = some d → R j d) ∧ Mv G1 (upd H1 D (.lst [])) G H ∧ Kp ex H1 H ∧ I H) ?_ ?_ ?_ ?_
  · refine ⟨[], [], G1, upd_same, .nil, rfl, Nat.zero_le _, (fun j d e => by simp at e), Mv.refl (s1.trans (same_new hD)), Kp.of (same_new hD), hI _ _ i1 (fun b u e _ => e)⟩
  · rintro i H hi ⟨acc, ds, G, h1, h2, h3, _, h4, h5, h6, h7⟩
    exact hGd G H h5.gg h5.gh h6
  · rintro i x H H' hi ⟨acc, ds, G, h1, h2, h3, h30, h4, h5, h6, h7⟩ y
    refine hs i x G H H' (fun _ => True) _ _ hi h5 h6 h7 y ?_
    rintro z H4 ⟨⟨d, G', r, m, kp, i4, hd⟩⟩
    have hD4 : H4 D = some (.lst acc) := kp D _ hx h1
    have gD : G D = none := h5.no h0D g1D
    have gD' : G' D = none := m.no (some_ne h1) gD
    have la : acc.length = i := (dpAll_len h2).trans h3
    refine ⟨acc, hD4, Nat.lt_of_le_of_lt (by omega : acc.length ≤ 1000) (by decide), acc ++ [z], ds ++ [d], G', upd_same, dpAll_append (dp_sameAll m.gg _ _ h2) (.cons hd .nil), by rw [List.length_append, h3]; rfl, hi, ?_, ?_, ?_, ?_⟩
    · intro j e hj
      by_cases hjl : j < ds.length
      · rw [List.getElem?_append_left hjl] at hj
        exact h4 j e hj
      · have hjl2 : j = ds.length := by
          have := (List.getElem?_eq_some_iff.mp hj).1
          rw [List.length_append, List.length_singleton] at this
          omega
        subst hjl2
        have e2 : d = e := by simpa using hj
        subst e2
        rw [h3]
        exact r
    · exact (h5.trans m).trans (Mv.put m.gh gD' (some_ne hD4))
    · intro b u hb e
      rw [upd_ne (ne_of_none e hD)]
      exact kp b u hb (h6 b u hb e)
    · exact hI _ _ i4 fun b u e hb => kp b u hb (h6 b u hb e)
  · rintro H ⟨acc, ds, G, h1, h2, h3, _, h4, h5, h6, h7⟩
    exact q acc ds G H h1 h2 h3 h4 h5 h6 h7
/-- the finished list comes into the view -/
theorem shut_lc {acc : List V} {ds : List PyData} {G2 H2 : Hp} (s1 : Same G1 H1) (hD : H1 D = none) (h1 : H2 D = some (.lst acc)) (h2 : DpAll K G2 acc ds) (m : Mv G1 (upd H1 D (.lst [])) G2 H2) :
    Mv G1 H1 (upd G2 D (.lst acc)) H2 ∧ Dp K (upd G2 D (.lst acc)) (.ref D) (.list ds) := by
  have h0D : (upd H1 D (.lst [])) D ≠ none := by
    rw [upd_same]
    exact fun z => nomatch z
  have gD : G2 D = none := m.no h0D (old_none s1 hD)
  exact ⟨Mv.shut ((Mv.hid s1 hD).trans m) hD gD h1, .lst (SqL.of upd_same) (dp_sameAll (same_new gD) _ _ h2)⟩
end
end Vz
set_option maxHeartbeats 2000000
namespace Vp
open PySem PySem.Spec PyProof.Rows L2 Dz Vz
open Kq (HandAt But)
theorem yes {σ : L2.St} {H : Hp} {te : TE} {kk : VK} {kn : Hp → Prop} (h : te σ H kk) : tYes σ H fun b H3 => if b = true then te σ H3 kk else kn H3 := by
  show if true = true then te σ H kk else kn H
  rw [if_pos rfl]
  exact h
/-- what a def answers that draws nothing: the data d -/
def Ret (K : PySem.W.Frag) (G H : Hp) (Q : VK) (d : PyData) : Prop := ∀ (v : V) (G' H' : Hp), Mv G H G' H' → Same H H' → Dp K G' v d → Q v H'
section
variable {K : PySem.W.Frag} {J : It} {n : Nat} {Gd : Hp → Prop} {Y : Nat → Hp → V → Hp → Prop} {g : TG} {tt : TT} {te : TE} {vs : List Nat} {σ : L2.St} {G1 H1 : Hp} {D : Addr} {Qd : Hp → Prop}
theorem lcP (w : Walk J n Gd Y) (R : Nat → PyData → Prop) (s1 : Same G1 H1) (hD : H1 D = none) (hn : n ≤ 1000) (hGd : ∀ G H, Same G1 G → Same G H → Same H1 H → Gd H)
    (hs : ∀ i x G H H' (kn : Hp → Prop) (kk : VK), i < n → Same G1 G → Same G H → Same H1 H → Y i H x H' → (∀ y G' H4 d, R i d → Mv G H G' H4 → Same H H4 → Dp K G' y d → kk y H4) →
      g x (wipe σ vs) H' fun σ2 H2 => wipe σ2 vs = wipe σ vs ∧ tt σ2 H2 fun b H3 => if b = true then te σ2 H3 kk else kn H3)
    (q : ∀ ds G2 H2, ds.length = n → (∀ i d, ds[i]? = some d → R i d) → Mv G1 H1 G2 H2 → Same H1 H2 → Dp K G2 (.ref D) (.list ds) → Qd H2) : LcW J g tt te vs σ H1 D Qd := by
  refine lcV (K := K) w no1 (fun _ => True) R s1 hD id hn trivial (fun _ _ _ _ => trivial) (fun G H a b c => hGd G H a b c.same) (fun i x G H H' k kn kk hi m kp _ y made => ?_) (fun acc ds G2 H2 h1 h2 h3 h4 m kp _ => ?_)
  · exact hs i x G H H' kn kk hi m.gg m.gh kp.same y fun y2 G' H4 d r m4 s4 hd => made y2 H4 ⟨⟨d, G', r, m4, Kp.of s4, trivial, hd⟩⟩
  · obtain ⟨m2, hd⟩ := shut_lc s1 hD h1 h2 m
    exact q ds _ H2 h3 h4 m2 kp.same hd
/-- the list of results, told by a function -/
theorem all_map {ds es : List PyData} {f : PyData → PyData} (h1 : ds.length = es.length) (h2 : ∀ (i : Nat) d, ds[i]? = some d → ∃ e, es[i]? = some e ∧ d = f e) : ds = es.map f := by
  refine List.ext_getElem? fun i => ?_
  rw [List.getElem?_map]
  cases e : ds[i]? with
  | none =>
    have hi : ds.length ≤ i := by simpa using e
    rw [List.getElem?_eq_none (by omega)]
    rfl
  | some d =>
    obtain ⟨c, h3, rfl⟩ := h2 i d e
    rw [h3]
    rfl
def Hd (a c : Addr) (cs : List Int) (H : Hp) : Prop := ∃ p g t, HandAt H a c cs p g t
theorem Hd.some {a c : Addr} {cs : List Int} {H : Hp} (h : Hd a c cs H) : H a ≠ none := by
  obtain ⟨p, g, t, h⟩ := h
  exact some_ne h.l
theorem Hd.same {a c : Addr} {cs : List Int} {H H' : Hp} (h : Hd a c cs H) (s : Same H H') : Hd a c cs H' := by
  obtain ⟨p, g, t, h⟩ := h
  exact ⟨p, g, t, h.same s⟩
theorem Hd.put {a c D : Addr} {cs : List Int} {H : Hp} {o : HO} (h : Hd a c cs H) (n1 : D ≠ a) (n2 : D ≠ c) : Hd a c cs (upd H D o) := by
  obtain ⟨p, g, t, h⟩ := h
  exact ⟨p, g, t, ⟨by rw [upd_ne n1.symm]; exact h.l, by rw [upd_ne n2.symm]; exact h.c, h.n, h.le, h.p0, h.p1, h.g0, h.t0, h.t1⟩⟩
theorem Hd.ne {a c D : Addr} {cs : List Int} {H : Hp} (h : Hd a c cs H) (hD : H D = none) : D ≠ a ∧ D ≠ c := by
  obtain ⟨p, g, t, h⟩ := h
  exact ⟨fun z => (by rw [z, h.l] at hD; cases hD), fun z => (by rw [z, h.c] at hD; cases hD)⟩
def exA (a : Addr) : Addr → Prop := fun b => b = a
theorem kp_but {a : Addr} {H H' : Hp} (h : But a H H') : Kp (exA a) H H' := h
/-- what a def answers that draws: data of R -/
def Dra (K : PySem.W.Frag) (a c : Addr) (cs : List Int) (G H : Hp) (Q : VK) (R : PyData → Prop) : Prop := ∀ (v : V) (d : PyData) (G' H' : Hp), R d → Mv G H G' H' → But a H H' → Hd a c cs H' → Dp K G' v d → Q v H'
/-- the hand stands outside of the view -/
structure Hw (a c : Addr) (cs : List Int) (G H : Hp) : Prop where
  s : Same G H
  h : Hd a c cs H
  n : G a = none
theorem Hw.mv {a c : Addr} {cs : List Int} {G H G' H' : Hp} (w : Hw a c cs G H) (m : Mv G H G' H') (h : Hd a c cs H') : Hw a c cs G' H' := ⟨m.gh, h, m.no w.h.some w.n⟩
theorem Hw.but {a c : Addr} {cs : List Int} {G H H' : Hp} (w : Hw a c cs G H) (b : But a H H') (h : Hd a c cs H') : Mv G H G H' := by
  refine ⟨Same.refl _, fun x o e => b x o (ne_of_none e w.n) (w.s x o e), fun _ _ => rfl, fun x hx => ?_⟩
  by_cases hxa : x = a
  · rw [hxa]
    exact h.some
  · obtain ⟨o, e⟩ := ne_some hx
    exact some_ne (b x o hxa e)
theorem But.trans {a : Addr} {H H1 H2 : Hp} (x : But a H H1) (y : But a H1 H2) : But a H H2 := fun b o hb e => y b o hb (x b o hb e)
theorem But.of {a : Addr} {H H1 : Hp} (x : Same H H1) : But a H H1 := fun b o _ e => x b o e
/-- a comprehension whose steps draw: the list stays out of the view -/
theorem lcH {a c : Addr} {cs : List Int} (w : Walk J n Gd Y) (R : Nat → PyData → Prop) (hw : Hw a c cs G1 H1) (hD : H1 D = none) (hn : n ≤ 1000) (hGd : ∀ G H, Same G1 G → Same G H → But a H1 H → Gd H)
    (hs : ∀ i x G H H' (kn : Hp → Prop) (kk : VK), i < n → Same G1 G → Hw a c cs G H → Y i H x H' → (∀ y G' H4 d, R i d → Mv G H G' H4 → But a H H4 → Hd a c cs H4 → Dp K G' y d → kk y H4) →
      g x (wipe σ vs) H' fun σ2 H2 => wipe σ2 vs = wipe σ vs ∧ tt σ2 H2 fun b H3 => if b = true then te σ2 H3 kk else kn H3)
    (q : ∀ acc ds G2 H2, H2 D = some (.lst acc) → DpAll K G2 acc ds → ds.length = n → (∀ i d, ds[i]? = some d → R i d) → Mv G1 (upd H1 D (.lst [])) G2 H2 → But a H1 H2 → Hw a c cs G2 H2 → G2 D = none → Qd H2) : LcW J g tt te vs σ H1 D Qd := by
  obtain ⟨na, nc⟩ := hw.h.ne hD
  have h0 : Hw a c cs G1 (upd H1 D (.lst [])) := hw.mv (Mv.hid hw.s hD) (hw.h.put na nc)
  have h0D : (upd H1 D (.lst [])) D ≠ none := by
    rw [upd_same]
    exact fun z => nomatch z
  refine lcV (K := K) w (exA a) (Hd a c cs) R hw.s hD na hn hw.h (fun H o h _ => h.put na nc) hGd (fun i x G H H' k kn kk hi m kp hh y made => ?_) (fun acc ds G2 H2 h1 h2 h3 h4 m kp hh => ?_)
  · exact hs i x G H H' kn kk hi m.gg (h0.mv m hh) y fun y2 G' H4 d r m4 s4 hd4 hd => made y2 H4 ⟨⟨d, G', r, m4, s4, hd4, hd⟩⟩
  · exact q acc ds G2 H2 h1 h2 h3 h4 m kp (h0.mv m hh) (m.no h0D (old_none hw.s hD))
end
end Vp
set_option maxHeartbeats 2000000
set_option exponentiation.threshold 20000
namespace Dn
open PySem PySem.Spec L2 Dz Mt Ra Rc
def numT : PyData → Int
  | .tuple [.int t, .int _] => t
  | .int i => i
  | _ => 0
def numB : PyData → Int
  | .tuple [.int _, .int b] => b
  | _ => 1
/-- t over b, of the figures of p -/
def valD (p t b : Int) : PyData := if p = 0 then .tuple [.int (lowT t b), .int (lowB t b)] else .int (t % p)
def plusD (p : Int) (d e : PyData) : PyData := valD p (numT d * numB e + numT e * numB d) (numB d * numB e)
def timesD (p : Int) (d e : PyData) : PyData := valD p (numT d * numT e) (numB d * numB e)
def zeroD (p : Int) : PyData := valD p 0 1
/-- one by one -/
def ldotD (p : Int) (ds es : List PyData) : PyData := (List.zipWith (timesD p) ds es).foldl (plusD p) (zeroD p)
/-- a common bottom -/
def comB (ds : List PyData) : Int := ds.foldl (fun b d => (b * numB d).fdiv ((Nat.gcd b.natAbs (numB d).natAbs : Nat) : Int)) 1
def lineI (p : Int) (ds : List PyData) : List Int := if p = 0 then ds.map fun d => numT d * (comB ds).fdiv (numB d) else ds.map numT
def lineB (p : Int) (ds : List PyData) : Int := if p = 0 then comB ds else 1
def dotI (xs ys : List Int) : Int := (List.zipWith (fun a b => a * b) xs ys).sum
def dotD (p : Int) (ds es : List PyData) : PyData := valD p (dotI (lineI p ds) (lineI p es)) (lineB p ds * lineB p es)
/-- a number of the figures of p -/
def Nu (p : Int) (d : PyData) : Prop := numD p d = true
/-- small -/
def Bd (m : Nat) (d : PyData) : Prop := (numT d).natAbs < 2 ^ m ∧ (numB d).natAbs < 2 ^ m
theorem nu0 {d : PyData} (h : Nu 0 d) : ∃ t b, d = .tuple [.int t, .int b] ∧ Low t b := by
  have h2 : ratioD d = true := by
    unfold Nu numD at h
    rw [if_pos rfl] at h
    exact h
  unfold ratioD at h2
  split at h2
  · rename_i t b
    rw [Bool.and_eq_true] at h2
    exact ⟨t, b, rfl, of_decide_eq_true h2.1, by simpa using h2.2⟩
  · cases h2
theorem nup {p : Int} {d : PyData} (hp : p ≠ 0) (h : Nu p d) : ∃ i, d = .int i ∧ 0 ≤ i ∧ i < p := by
  unfold Nu numD at h
  rw [if_neg hp] at h
  cases d with
  | int i =>
    have h3 : (decide ((0 : Int) ≤ i) && decide (i ≤ p - 1)) = true := h
    rw [Bool.and_eq_true, decide_eq_true_eq, decide_eq_true_eq] at h3
    exact ⟨i, rfl, h3.1, by omega⟩
  | _ => cases h
theorem nuB {p : Int} {d : PyData} (h : Nu p d) : 1 ≤ numB d := by
  by_cases hp : p = 0
  · subst hp
    obtain ⟨t, b, rfl, l⟩ := nu0 h
    exact l.1
  · obtain ⟨i, rfl, _⟩ := nup hp h
    exact Int.le_refl 1
theorem nu_val {p t b : Int} (h : 0 ≤ p) (hb : b ≠ 0) : Nu p (valD p t b) := by
  unfold Nu numD valD
  by_cases hp : p = 0
  · rw [if_pos hp, if_pos hp]
    exact ratioD_low (low_low hb)
  · rw [if_neg hp, if_neg hp]
    have h0 := Int.emod_nonneg t hp
    have h1 := Int.emod_lt_of_pos t (show 0 < p by omega)
    show (decide ((0 : Int) ≤ t % p) && decide (t % p ≤ p - 1)) = true
    rw [decide_eq_true h0, decide_eq_true (show t % p ≤ p - 1 by omega)]
    rfl
theorem low_cross {t b : Int} : lowT t b * b = t * lowB t b := by
  have e1 : lowT t b * divi t b = t := by
    unfold lowT
    rw [Int.fdiv_eq_ediv_of_dvd divi_dvd_t]
    exact Int.ediv_mul_cancel divi_dvd_t
  have e2 : lowB t b * divi t b = b := by
    unfold lowB
    rw [Int.fdiv_eq_ediv_of_dvd divi_dvd_b]
    exact Int.ediv_mul_cancel divi_dvd_b
  calc lowT t b * b = lowT t b * (lowB t b * divi t b) := by rw [e2]
    _ = (lowT t b * divi t b) * lowB t b := by grind
    _ = t * lowB t b := by rw [e1]
theorem low_one {t b t' b' : Int} (h : Low t b) (h' : Low t' b') (e : t * b' = t' * b) : t = t' ∧ b = b' := by
  obtain ⟨p1, g1⟩ := h
  obtain ⟨p2, g2⟩ := h'
  have en : t.natAbs * b'.natAbs = t'.natAbs * b.natAbs := by
    rw [← Int.natAbs_mul, ← Int.natAbs_mul, e]
  have d1 : b.natAbs ∣ b'.natAbs := by
    have c : Nat.Coprime b.natAbs t.natAbs := Nat.Coprime.symm g1
    exact c.dvd_of_dvd_mul_left (by rw [en]; exact Nat.dvd_mul_left ..)
  have d2 : b'.natAbs ∣ b.natAbs := by
    have c : Nat.Coprime b'.natAbs t'.natAbs := Nat.Coprime.symm g2
    exact c.dvd_of_dvd_mul_left (by rw [← en]; exact Nat.dvd_mul_left ..)
  have eb : b = b' := by
    have := Nat.dvd_antisymm d1 d2
    omega
  subst eb
  exact ⟨Int.eq_of_mul_eq_mul_right (by omega) e, rfl⟩
/-- the same ratio, the same lowest terms -/
theorem low_eq {t b t' b' : Int} (hb : b ≠ 0) (hb' : b' ≠ 0) (e : t * b' = t' * b) : lowT t b = lowT t' b' ∧ lowB t b = lowB t' b' := by
  refine low_one (low_low hb) (low_low hb') ?_
  have c1 := low_cross (t := t) (b := b)
  have c2 := low_cross (t := t') (b := b')
  have z : (lowT t b * lowB t' b') * (b * b') = (lowT t' b' * lowB t b) * (b * b') := by
    have a1 : (lowT t b * lowB t' b') * (b * b') = (lowT t b * b) * (lowB t' b' * b') := by grind
    have a2 : (lowT t' b' * lowB t b) * (b * b') = (lowT t' b' * b') * (lowB t b * b) := by grind
    rw [a1, a2, c1, c2]
    grind
  exact Int.eq_of_mul_eq_mul_right (Int.mul_ne_zero hb hb') z
theorem val_eq {p t b t' b' : Int} (hb : b ≠ 0) (hb' : b' ≠ 0) (e : t * b' = t' * b) (ep : p ≠ 0 → t % p = t' % p) : valD p t b = valD p t' b' := by
  unfold valD
  by_cases hp : p = 0
  · rw [if_pos hp, if_pos hp, (low_eq hb hb' e).1, (low_eq hb hb' e).2]
  · rw [if_neg hp, if_neg hp, ep hp]
def prB : List PyData → List PyData → Int
  | d :: ds, e :: es => numB d * numB e * prB ds es
  | _, _ => 1
def suT : List PyData → List PyData → Int
  | d :: ds, e :: es => numT d * numT e * prB ds es + numB d * numB e * suT ds es
  | _, _ => 0
theorem numT_val0 {t b : Int} : numT (valD 0 t b) = lowT t b := by
  unfold valD
  rw [if_pos rfl]
  rfl
theorem numB_val0 {t b : Int} : numB (valD 0 t b) = lowB t b := by
  unfold valD
  rw [if_pos rfl]
  rfl
theorem numT_valp {p t b : Int} (hp : p ≠ 0) : numT (valD p t b) = t % p := by
  unfold valD
  rw [if_neg hp]
  rfl
theorem numB_valp {p t b : Int} (hp : p ≠ 0) : numB (valD p t b) = 1 := by
  unfold valD
  rw [if_neg hp]
  rfl
theorem lowB_ne {t b : Int} (h : b ≠ 0) : lowB t b ≠ 0 := by
  have := lowB_pos (t := t) h
  omega
theorem plus_val0 {t b u v : Int} (hb : b ≠ 0) (hv : v ≠ 0) : plusD 0 (valD 0 t b) (valD 0 u v) = valD 0 (t * v + u * b) (b * v) := by
  unfold plusD
  rw [numT_val0, numB_val0, numT_val0, numB_val0]
  refine val_eq (Int.mul_ne_zero (lowB_ne hb) (lowB_ne hv)) (Int.mul_ne_zero hb hv) ?_ (fun h => absurd rfl h)
  have c1 := low_cross (t := t) (b := b)
  have c2 := low_cross (t := u) (b := v)
  have a1 : (lowT t b * lowB u v + lowT u v * lowB t b) * (b * v) = (lowT t b * b) * (lowB u v * v) + (lowT u v * v) * (lowB t b * b) := by grind
  rw [a1, c1, c2]
  grind
theorem fold0 : ∀ (ds es : List PyData) (t b : Int), b ≠ 0 → (∀ d ∈ ds, numB d ≠ 0) → (∀ e ∈ es, numB e ≠ 0) → (List.zipWith (timesD 0) ds es).foldl (plusD 0) (valD 0 t b) = valD 0 (t * prB ds es + b * suT ds es) (b * prB ds es)
  | [], es, t, b, _, _, _ => by
    show valD 0 t b = valD 0 (t * prB [] es + b * suT [] es) (b * prB [] es)
    have e1 : prB [] es = 1 := by cases es <;> rfl
    have e2 : suT [] es = 0 := by cases es <;> rfl
    rw [e1, e2, Int.mul_one, Int.mul_zero, Int.add_zero, Int.mul_one]
  | d :: ds, [], t, b, _, _, _ => by
    show valD 0 t b = valD 0 (t * 1 + b * 0) (b * 1)
    rw [Int.mul_one, Int.mul_zero, Int.add_zero, Int.mul_one]
  | d :: ds, e :: es, t, b, hb, h1, h2 => by
    have n1 := h1 d (List.mem_cons_self ..)
    have n2 := h2 e (List.mem_cons_self ..)
    show (List.zipWith (timesD 0) ds es).foldl (plusD 0) (plusD 0 (valD 0 t b) (valD 0 (numT d * numT e) (numB d * numB e))) = _
    rw [plus_val0 hb (Int.mul_ne_zero n1 n2), fold0 ds es _ _ (Int.mul_ne_zero hb (Int.mul_ne_zero n1 n2)) (fun d hd => h1 d (List.mem_cons_of_mem _ hd)) (fun d hd => h2 d (List.mem_cons_of_mem _ hd))]
    show _ = valD 0 (t * (numB d * numB e * prB ds es) + b * (numT d * numT e * prB ds es + numB d * numB e * suT ds es)) (b * (numB d * numB e * prB ds es))
    have e1 : (t * (numB d * numB e) + numT d * numT e * b) * prB ds es + b * (numB d * numB e) * suT ds es = t * (numB d * numB e * prB ds es) + b * (numT d * numT e * prB ds es + numB d * numB e * suT ds es) := by grind
    have e2 : b * (numB d * numB e) * prB ds es = b * (numB d * numB e * prB ds es) := by grind
    rw [e1, e2]
theorem prB_ne : ∀ (ds es : List PyData), (∀ d ∈ ds, numB d ≠ 0) → (∀ e ∈ es, numB e ≠ 0) → prB ds es ≠ 0
  | [], es, _, _ => by cases es <;> exact Int.one_ne_zero
  | d :: ds, [], _, _ => Int.one_ne_zero
  | d :: ds, e :: es, h1, h2 => by
    have n1 := h1 d (List.mem_cons_self ..)
    have n2 := h2 e (List.mem_cons_self ..)
    exact Int.mul_ne_zero (Int.mul_ne_zero n1 n2) (prB_ne ds es (fun d hd => h1 d (List.mem_cons_of_mem _ hd)) (fun d hd => h2 d (List.mem_cons_of_mem _ hd)))
theorem fdiv_mul {a b : Int} (h : b ∣ a) : a.fdiv b * b = a := by
  rw [Int.fdiv_eq_ediv_of_dvd h]
  exact Int.ediv_mul_cancel h
theorem sum0 (B C : Int) : ∀ (ds es : List PyData), (∀ d ∈ ds, numB d ∣ B) → (∀ e ∈ es, numB e ∣ C) →
    suT ds es * (B * C) = dotI (ds.map fun d => numT d * B.fdiv (numB d)) (es.map fun d => numT d * C.fdiv (numB d)) * prB ds es
  | [], es, _, _ => by
    have e2 : suT [] es = 0 := by cases es <;> rfl
    rw [e2, Int.zero_mul]
    show 0 = dotI [] _ * _
    unfold dotI
    rw [List.zipWith_nil_left, List.sum_nil, Int.zero_mul]
  | d :: ds, [], _, _ => by
    show 0 * (B * C) = dotI _ [] * 1
    unfold dotI
    rw [List.zipWith_nil_right, List.sum_nil, Int.zero_mul, Int.zero_mul]
  | d :: ds, e :: es, h1, h2 => by
    have ih := sum0 B C ds es (fun d hd => h1 d (List.mem_cons_of_mem _ hd)) (fun d hd => h2 d (List.mem_cons_of_mem _ hd))
    have e1 := fdiv_mul (h1 d (List.mem_cons_self ..))
    have e2 := fdiv_mul (h2 e (List.mem_cons_self ..))
    show (numT d * numT e * prB ds es + numB d * numB e * suT ds es) * (B * C) = (numT d * B.fdiv (numB d) * (numT e * C.fdiv (numB e)) + dotI (ds.map fun d => numT d * B.fdiv (numB d)) (es.map fun d => numT d * C.fdiv (numB d))) * (numB d * numB e * prB ds es)
    generalize dotI (ds.map fun d => numT d * B.fdiv (numB d)) (es.map fun d => numT d * C.fdiv (numB d)) = S at ih ⊢
    have a1 : (numT d * numT e * prB ds es + numB d * numB e * suT ds es) * (B * C) = numT d * numT e * prB ds es * (B * C) + numB d * numB e * (suT ds es * (B * C)) := by grind
    have a2 : (numT d * B.fdiv (numB d) * (numT e * C.fdiv (numB e)) + S) * (numB d * numB e * prB ds es) = numT d * numT e * prB ds es * ((B.fdiv (numB d) * numB d) * (C.fdiv (numB e) * numB e)) + numB d * numB e * (S * prB ds es) := by grind
    rw [a1, a2, ih, e1, e2]
theorem foldp {p : Int} (hp : p ≠ 0) : ∀ (ds es : List PyData) (a : Int), a % p = a → (List.zipWith (timesD p) ds es).foldl (plusD p) (.int a) = .int ((a + dotI (ds.map numT) (es.map numT)) % p)
  | [], es, a, h => by
    show PyData.int a = _
    unfold dotI
    rw [List.map_nil, List.zipWith_nil_left, List.sum_nil, Int.add_zero, h]
  | d :: ds, [], a, h => by
    show PyData.int a = _
    unfold dotI
    rw [List.map_nil, List.zipWith_nil_right, List.sum_nil, Int.add_zero, h]
  | d :: ds, e :: es, a, h => by
    have e1 : plusD p (.int a) (timesD p d e) = .int ((a + numT d * numT e) % p) := by
      unfold plusD timesD
      rw [numT_valp hp, numB_valp hp]
      unfold valD
      rw [if_neg hp]
      show PyData.int ((a * 1 + numT d * numT e % p * 1) % p) = _
      rw [Int.mul_one, Int.mul_one, Int.add_emod_emod]
    show (List.zipWith (timesD p) ds es).foldl (plusD p) (plusD p (.int a) (timesD p d e)) = _
    rw [e1, foldp hp ds es _ (Int.emod_emod_of_dvd _ (Int.dvd_refl p)), Int.emod_add_emod]
    show _ = PyData.int ((a + (numT d * numT e + dotI (ds.map numT) (es.map numT))) % p)
    rw [Int.add_assoc]
def comS (b : Int) (d : PyData) : Int := (b * numB d).fdiv ((Nat.gcd b.natAbs (numB d).natAbs : Nat) : Int)
theorem comB_def (ds : List PyData) : comB ds = ds.foldl comS 1 := rfl
theorem com_step {b : Int} {d : PyData} (hb : 1 ≤ b) (hy : 1 ≤ numB d) : 1 ≤ comS b d ∧ b ∣ comS b d ∧ numB d ∣ comS b d ∧ comS b d ≤ b * numB d := by
  unfold comS
  generalize numB d = y at hy ⊢
  have g0 : 0 < Nat.gcd b.natAbs y.natAbs := Nat.gcd_pos_of_pos_left _ (by omega)
  have d1 : ((Nat.gcd b.natAbs y.natAbs : Nat) : Int) ∣ b := Int.ofNat_dvd_left.mpr (Nat.gcd_dvd_left ..)
  have d2 : ((Nat.gcd b.natAbs y.natAbs : Nat) : Int) ∣ y := Int.ofNat_dvd_left.mpr (Nat.gcd_dvd_right ..)
  generalize hg : ((Nat.gcd b.natAbs y.natAbs : Nat) : Int) = g at d1 d2 ⊢
  have gp : 0 < g := by omega
  obtain ⟨u, rfl⟩ := d1
  obtain ⟨v, rfl⟩ := d2
  have u0 : 1 ≤ u := by
    have : 0 < g * u := by omega
    have := Int.pos_of_mul_pos_right this gp
    omega
  have v0 : 1 ≤ v := by
    have : 0 < g * v := by omega
    have := Int.pos_of_mul_pos_right this gp
    omega
  have e : (g * u * (g * v)).fdiv g = g * u * v := by
    have e1 : g * u * (g * v) = g * (g * u * v) := by grind
    rw [e1, Int.mul_fdiv_cancel_left _ (by omega)]
  rw [e]
  have guv : 0 < g * u * v := Int.mul_pos (by omega) (by omega)
  refine ⟨by omega, ⟨v, rfl⟩, ⟨u, by grind⟩, ?_⟩
  have : g * u * v * 1 ≤ g * u * v * g := Int.mul_le_mul_of_nonneg_left (by omega) (by omega)
  have e3 : g * u * (g * v) = g * u * v * g := by grind
  rw [e3]
  omega
theorem com_fold {m : Nat} : ∀ (ds : List PyData) (b : Int) (k : Nat), 1 ≤ b → b ≤ 2 ^ k → (∀ d ∈ ds, 1 ≤ numB d ∧ numB d ≤ 2 ^ m) → 1 ≤ ds.foldl comS b ∧ b ∣ ds.foldl comS b ∧ (∀ d ∈ ds, numB d ∣ ds.foldl comS b) ∧ ds.foldl comS b ≤ 2 ^ (k + m * ds.length)
  | [], b, k, hb, hk, _ => ⟨hb, Int.dvd_refl b, (fun d hd => (nomatch hd)), hk⟩
  | d :: ds, b, k, hb, hk, h => by
    obtain ⟨y1, y2⟩ := h d (List.mem_cons_self ..)
    obtain ⟨s1, s2, s3, s4⟩ := com_step hb y1
    have s5 : comS b d ≤ 2 ^ (k + m) := by
      refine Int.le_trans s4 ?_
      rw [Int.pow_add]
      exact Int.mul_le_mul hk y2 (by omega) (Int.pow_nonneg (by decide))
    obtain ⟨f1, f2, f3, f4⟩ := com_fold ds (comS b d) (k + m) s1 s5 (fun d hd => h d (List.mem_cons_of_mem _ hd))
    refine ⟨f1, Int.dvd_trans s2 f2, fun e he => ?_, ?_⟩
    · rcases List.mem_cons.mp he with rfl | he
      · exact Int.dvd_trans s3 f2
      · exact f3 e he
    · have e : k + m * (d :: ds).length = k + m + m * ds.length := by
        rw [List.length_cons, Nat.mul_add, Nat.mul_one]
        omega
      rw [e]
      exact f4
theorem bd_le {m : Nat} {d : PyData} (h : Bd m d) : numB d ≤ 2 ^ m := by
  obtain ⟨_, h2⟩ := h
  have e : ((2 ^ m : Nat) : Int) = (2 : Int) ^ m := by norm_cast
  rw [← e]
  omega
theorem com_ok {m : Nat} {ds : List PyData} (h : ∀ d ∈ ds, 1 ≤ numB d ∧ Bd m d) : 1 ≤ comB ds ∧ (∀ d ∈ ds, numB d ∣ comB ds) ∧ comB ds ≤ 2 ^ (m * ds.length) := by
  obtain ⟨h1, _, h3, h4⟩ := com_fold (m := m) ds 1 0 (Int.le_refl 1) (by decide) (fun d hd => ⟨(h d hd).1, bd_le (h d hd).2⟩)
  rw [Nat.zero_add] at h4
  exact ⟨h1, h3, h4⟩
theorem line_ne {m : Nat} {p : Int} {ds : List PyData} (h : ∀ d ∈ ds, Nu p d ∧ Bd m d) : lineB p ds ≠ 0 := by
  unfold lineB
  split
  · have := (com_ok fun d hd => ⟨nuB (h d hd).1, (h d hd).2⟩).1
    omega
  · exact Int.one_ne_zero
theorem dot_eq {m : Nat} {p : Int} {ds es : List PyData} (h1 : ∀ d ∈ ds, Nu p d ∧ Bd m d) (h2 : ∀ e ∈ es, Nu p e ∧ Bd m e) : dotD p ds es = ldotD p ds es := by
  by_cases hp : p = 0
  · subst hp
    obtain ⟨a1, a2, _⟩ := com_ok fun d hd => ⟨nuB (h1 d hd).1, (h1 d hd).2⟩
    obtain ⟨b1, b2, _⟩ := com_ok fun d hd => ⟨nuB (h2 d hd).1, (h2 d hd).2⟩
    have n1 : ∀ d ∈ ds, numB d ≠ 0 := fun d hd => by have := nuB (h1 d hd).1; omega
    have n2 : ∀ d ∈ es, numB d ≠ 0 := fun d hd => by have := nuB (h2 d hd).1; omega
    unfold dotD ldotD zeroD
    rw [fold0 ds es 0 1 Int.one_ne_zero n1 n2, Int.zero_mul, Int.zero_add, Int.one_mul, Int.one_mul]
    unfold lineI lineB
    rw [if_pos rfl, if_pos rfl, if_pos rfl, if_pos rfl]
    refine val_eq (Int.mul_ne_zero (by omega) (by omega)) (prB_ne ds es n1 n2) ?_ (fun h => absurd rfl h)
    rw [sum0 (comB ds) (comB es) ds es a2 b2]
  · unfold dotD ldotD zeroD lineI lineB
    rw [if_neg hp, if_neg hp, if_neg hp, if_neg hp]
    have e : valD p 0 1 = .int (0 % p) := by
      unfold valD
      rw [if_neg hp]
    rw [e, Int.zero_emod, foldp hp ds es 0 (Int.zero_emod p), Int.zero_add]
    unfold valD
    rw [if_neg hp]
end Dn
set_option maxHeartbeats 2000000
set_option exponentiation.threshold 20000
namespace Do
open PySem PySem.Spec L2 Dz Mt Ra Rc Dn
def Nums (p : Int) (m : Nat) (ds : List PyData) : Prop := ∀ d ∈ ds, Nu p d ∧ Bd m d
theorem Nums.tail {p : Int} {m : Nat} {d : PyData} {ds : List PyData} (h : Nums p m (d :: ds)) : Nums p m ds := fun e he => h e (List.mem_cons_of_mem _ he)
theorem Nums.head {p : Int} {m : Nat} {d : PyData} {ds : List PyData} (h : Nums p m (d :: ds)) : Nu p d ∧ Bd m d := h d (List.mem_cons_self ..)
theorem pow_nat {m : Nat} : ((2 ^ m : Nat) : Int) = (2 : Int) ^ m := by norm_cast
theorem com_nat {m : Nat} {ds : List PyData} (h : Nums 0 m ds) : (comB ds).natAbs ≤ 2 ^ (m * ds.length) := by
  obtain ⟨h1, _, h2⟩ := com_ok fun d hd => ⟨nuB (h d hd).1, (h d hd).2⟩
  rw [← pow_nat] at h2
  omega
theorem lineB_bd {m : Nat} {p : Int} {ds : List PyData} (h : Nums p m ds) (hl : ds.length ≤ 5) : (lineB p ds).natAbs ≤ 2 ^ (5 * m) := by
  unfold lineB
  by_cases hp : p = 0
  · subst hp
    rw [if_pos rfl]
    refine Nat.le_trans (com_nat h) (Nat.pow_le_pow_right (by decide) ?_)
    rw [Nat.mul_comm 5 m]
    exact Nat.mul_le_mul_left m hl
  · rw [if_neg hp]
    exact Nat.one_le_two_pow
theorem fdiv_le {a b : Int} (ha : 0 ≤ a) (hb : 1 ≤ b) : (a.fdiv b).natAbs ≤ a.natAbs := by
  rw [Int.fdiv_eq_ediv_of_nonneg _ (by omega)]
  have h1 : a / b ≤ a := Int.ediv_le_self _ ha
  have h2 : 0 ≤ a / b := Int.ediv_nonneg ha (by omega)
  omega
theorem line_bd {m : Nat} {p : Int} {ds : List PyData} (h : Nums p m ds) (hl : ds.length ≤ 5) : ∀ x ∈ lineI p ds, x.natAbs < 2 ^ (6 * m) := by
  intro x hx
  unfold lineI at hx
  by_cases hp : p = 0
  · subst hp
    rw [if_pos rfl] at hx
    obtain ⟨d, hd, rfl⟩ := List.mem_map.mp hx
    obtain ⟨h1, _⟩ := com_ok fun d hd => ⟨nuB (h d hd).1, (h d hd).2⟩
    have c := com_nat h
    have f := fdiv_le (show 0 ≤ comB ds by omega) (nuB (h d hd).1)
    rw [Int.natAbs_mul]
    have e : (2 : Nat) ^ (6 * m) = 2 ^ m * 2 ^ (m * 5) := by
      rw [← Nat.pow_add]
      congr 1
      omega
    rw [e]
    have c5 : (comB ds).natAbs ≤ 2 ^ (m * 5) := Nat.le_trans c (Nat.pow_le_pow_right (by decide) (Nat.mul_le_mul_left m hl))
    exact Nat.mul_lt_mul_of_lt_of_le (h d hd).2.1 (Nat.le_trans f c5) (Nat.two_pow_pos _)
  · rw [if_neg hp] at hx
    obtain ⟨d, hd, rfl⟩ := List.mem_map.mp hx
    exact Nat.lt_of_lt_of_le (h d hd).2.1 (Nat.pow_le_pow_right (by decide) (by omega))
theorem dotI_nat {a b : Nat} : ∀ {xs ys : List Int}, (∀ x ∈ xs, x.natAbs < 2 ^ a) → (∀ y ∈ ys, y.natAbs < 2 ^ b) → (dotI xs ys).natAbs ≤ xs.length * 2 ^ (a + b)
  | [], ys, _, _ => by
    unfold dotI
    rw [List.zipWith_nil_left]
    exact Nat.zero_le _
  | x :: xs, [], _, _ => by
    unfold dotI
    rw [List.zipWith_nil_right]
    exact Nat.zero_le _
  | x :: xs, y :: ys, hx, hy => by
    have ih := dotI_nat (xs := xs) (ys := ys) (fun z hz => hx z (List.mem_cons_of_mem _ hz)) (fun z hz => hy z (List.mem_cons_of_mem _ hz))
    have h1 : (x * y).natAbs ≤ 2 ^ (a + b) := by
      rw [Int.natAbs_mul, Nat.pow_add]
      exact Nat.mul_le_mul (Nat.le_of_lt (hx x (List.mem_cons_self ..))) (Nat.le_of_lt (hy y (List.mem_cons_self ..)))
    show (x * y + dotI xs ys).natAbs ≤ (xs.length + 1) * 2 ^ (a + b)
    rw [Nat.add_mul, Nat.one_mul]
    have := Int.natAbs_add_le (x * y) (dotI xs ys)
    omega
theorem dot_bd {m n : Nat} {p : Int} {ds es : List PyData} (h1 : Nums p m ds) (h2 : Nums p n es) (l1 : ds.length ≤ 5) (l2 : es.length ≤ 5) : (dotI (lineI p ds) (lineI p es)).natAbs < 2 ^ (6 * (m + n) + 3) := by
  have h := dotI_nat (line_bd h1 l1) (line_bd h2 l2)
  have hl : (lineI p ds).length ≤ 5 := by
    unfold lineI
    split <;> rw [List.length_map] <;> exact l1
  have e : (2 : Nat) ^ (6 * (m + n) + 3) = 8 * 2 ^ (6 * m + 6 * n) := by
    rw [Nat.pow_add, Nat.mul_comm, Nat.mul_add]
  rw [e]
  have h3 : (lineI p ds).length * 2 ^ (6 * m + 6 * n) ≤ 5 * 2 ^ (6 * m + 6 * n) := Nat.mul_le_mul_right _ hl
  have h4 : 0 < 2 ^ (6 * m + 6 * n) := Nat.two_pow_pos _
  omega
theorem val_bd {k : Nat} {p t b : Int} (hp : 0 ≤ p ∧ p ≤ 13) (hk : 4 ≤ k) (ht : t.natAbs < 2 ^ k) (hb : b.natAbs < 2 ^ k) : Bd k (valD p t b) := by
  unfold valD
  by_cases h : p = 0
  · rw [if_pos h]
    exact ⟨Nat.lt_of_le_of_lt lowT_le ht, Nat.lt_of_le_of_lt lowB_le hb⟩
  · rw [if_neg h]
    have h0 := Int.emod_nonneg t h
    have h1 := Int.emod_lt_of_pos t (show 0 < p by omega)
    have h2 : (2 : Nat) ^ 4 ≤ 2 ^ k := Nat.pow_le_pow_right (by decide) hk
    refine ⟨?_, ?_⟩
    · show (t % p).natAbs < 2 ^ k
      omega
    · show (1 : Int).natAbs < 2 ^ k
      omega
theorem lineB_pos {m : Nat} {p : Int} {ds : List PyData} (h : Nums p m ds) : lineB p ds ≠ 0 := line_ne h
theorem dotB_bd {m n : Nat} {p : Int} {ds es : List PyData} (h1 : Nums p m ds) (h2 : Nums p n es) (l1 : ds.length ≤ 5) (l2 : es.length ≤ 5) : (lineB p ds * lineB p es).natAbs < 2 ^ (6 * (m + n) + 3) := by
  rw [Int.natAbs_mul]
  have h := Nat.mul_le_mul (lineB_bd h1 l1) (lineB_bd h2 l2)
  rw [← Nat.pow_add] at h
  exact Nat.lt_of_le_of_lt h (Nat.pow_lt_pow_right (by decide) (by omega))
theorem dotD_nu {m n : Nat} {p : Int} {ds es : List PyData} (hp : 0 ≤ p) (h1 : Nums p m ds) (h2 : Nums p n es) : Nu p (dotD p ds es) := nu_val hp (Int.mul_ne_zero (lineB_pos h1) (lineB_pos h2))
theorem dotD_bd {m n : Nat} {p : Int} {ds es : List PyData} (hp : 0 ≤ p ∧ p ≤ 13) (h1 : Nums p m ds) (h2 : Nums p n es) (l1 : ds.length ≤ 5) (l2 : es.length ≤ 5) : Bd (6 * (m + n) + 4) (dotD p ds es) := by
  have k := Nat.pow_le_pow_right (n := 2) (by decide) (show 6 * (m + n) + 3 ≤ 6 * (m + n) + 4 by omega)
  exact val_bd hp (by omega) (Nat.lt_of_lt_of_le (dot_bd h1 h2 l1 l2) k) (Nat.lt_of_lt_of_le (dotB_bd h1 h2 l1 l2) k)
theorem sm_le {i : Int} {k : Nat} (hk : k ≤ 1000) (h : i.natAbs < 2 ^ k) : Sm i := Nat.lt_of_lt_of_le h (Nat.pow_le_pow_right (by decide) hk)
theorem sm4_le {i : Int} {k : Nat} (hk : k ≤ 4000) (h : i.natAbs < 2 ^ k) : Sm4 i := Nat.lt_of_lt_of_le h (Nat.pow_le_pow_right (by decide) hk)
theorem lt_of_le2 {i : Int} {k : Nat} (h : i.natAbs ≤ 2 ^ k) : i.natAbs < 2 ^ (k + 1) := Nat.lt_of_le_of_lt h (Nat.pow_lt_pow_right (by decide) (Nat.lt_succ_self k))
theorem ints_p {p : Int} {m : Nat} (hp : p ≠ 0) : ∀ {ds : List PyData}, Nums p m ds → ds = (lineI p ds).map PyData.int
  | [], _ => by
    unfold lineI
    rw [if_neg hp]
    rfl
  | d :: ds, h => by
    obtain ⟨i, rfl, _⟩ := nup hp h.head.1
    have ih := ints_p hp h.tail
    unfold lineI at ih ⊢
    rw [if_neg hp] at ih ⊢
    show PyData.int i :: ds = PyData.int i :: _
    rw [← ih]
end Do
set_option exponentiation.threshold 20000

namespace Va
open PySem PySem.Spec PyProof.Rows L2 Dz Ra Mt Rc Rd Gn Dn Do Vz Vp
def spBottom (K : PySem.W.Frag) : Sp := fun vs H Q _ => ∃ (G : Hp) (v : V) (ds : List PyData) (m : Nat), vs = [v] ∧ Same G H ∧ Dp K G v (.tuple ds) ∧ Nums 0 m ds ∧ ds.length ≤ 5 ∧ m ≤ 160 ∧ Ret K G H Q (.tuple [.list ((lineI 0 ds).map .int), .int (comB ds)])
def spDotI (K : PySem.W.Frag) : Sp := fun vs H Q _ => ∃ (G : Hp) (x y : V) (dx dy : PyData) (is js : List Int), vs = [x, y] ∧ Same G H ∧ Dp K G x dx ∧ Dp K G y dy ∧
  ((dx = .list (is.map .int) ∧ dy = .list (js.map .int)) ∨ (dx = .tuple (is.map .int) ∧ dy = .tuple (js.map .int))) ∧ is.length = js.length ∧ is.length ≤ 1000 ∧ (∀ i ∈ is, Sm i) ∧ (∀ j ∈ js, Sm j) ∧ ∀ H', Same H H' → Q (.int (dotI is js)) H'
def lineD (p : Int) (ds : List PyData) : PyData := .tuple [if p = 0 then .list ((lineI p ds).map .int) else .tuple ((lineI p ds).map .int), .int (lineB p ds)]
def spLine (K : PySem.W.Frag) (C : Addr) : Sp := fun vs H Q _ => ∃ (G : Hp) (fa : Addr) (v : V) (p : Int) (ds : List PyData) (m : Nat), vs = [.ref fa, v] ∧ Same G H ∧ FigAt C G fa p ∧ Dp K G v (.tuple ds) ∧ Nums p m ds ∧ ds.length ≤ 5 ∧ m ≤ 160 ∧ Ret K G H Q (lineD p ds)
def spLines (K : PySem.W.Frag) (C : Addr) : Sp := fun vs H Q _ => ∃ (G : Hp) (fa : Addr) (x y : V) (p : Int) (ds es : List PyData) (m n : Nat), vs = [.ref fa, x, y] ∧ Same G H ∧ FigAt C G fa p ∧ Dp K G x (lineD p ds) ∧ Dp K G y (lineD p es) ∧ Nums p m ds ∧ Nums p n es ∧ ds.length = es.length ∧ ds.length ≤ 5 ∧ m + n ≤ 160 ∧ Ret K G H Q (dotD p ds es)
def spProducts (K : PySem.W.Frag) (C : Addr) : Sp := fun vs H Q _ => ∃ (G : Hp) (fa : Addr) (x y : V) (p : Int) (ds es : List PyData) (m n : Nat), vs = [.ref fa, x, y] ∧ Same G H ∧ FigAt C G fa p ∧ Dp K G x (.tuple ds) ∧ Dp K G y (.tuple es) ∧ Nums p m ds ∧ Nums p n es ∧ ds.length = es.length ∧ ds.length ≤ 5 ∧ m + n ≤ 160 ∧ Ret K G H Q (dotD p ds es)
def spColumn (K : PySem.W.Frag) (C : Addr) : Sp := fun vs H Q _ => ∃ (G : Hp) (fa : Addr) (x y : V) (p : Int) (T : List (List PyData)) (es : List PyData) (m n : Nat), vs = [.ref fa, x, y] ∧ Same G H ∧ FigAt C G fa p ∧ Dp K G x (.tuple (T.map .tuple)) ∧ Dp K G y (.tuple es) ∧ (∀ r ∈ T, Nums p m r ∧ r.length = es.length) ∧ T.length ≤ 1000 ∧ Nums p n es ∧ es.length ≤ 5 ∧ m + n ≤ 160 ∧ Ret K G H Q (.tuple (T.map fun r => dotD p r es))
/-- many zeros -/
def spZeros (K : PySem.W.Frag) (C : Addr) : Sp := fun vs H Q _ => ∃ (G : Hp) (fa : Addr) (p : Int) (n : Nat), vs = [.ref fa, .int n] ∧ Same G H ∧ FigAt C G fa p ∧ 1 ≤ n ∧ n ≤ 5 ∧ Ret K G H Q (.tuple (List.replicate n (zeroD p)))
theorem comT {m : Nat} {ds : List PyData} (h : Nums 0 m ds) (hl : ds.length ≤ 5) (hm : m ≤ 160) (i : Nat) : 1 ≤ (ds.take i).foldl comS 1 ∧ Sm ((ds.take i).foldl comS 1) := by
  have h2 : Nums 0 m (ds.take i) := fun d hd => h d (List.mem_of_mem_take hd)
  obtain ⟨h1, _⟩ := com_ok fun d hd => ⟨nuB (h2 d hd).1, (h2 d hd).2⟩
  refine ⟨h1, sm_le (k := 801) (by decide) ?_⟩
  have h3 := com_nat h2
  have h4 : (ds.take i).length ≤ 5 := by
    rw [List.length_take]
    omega
  have h5 : m * (ds.take i).length ≤ 800 := Nat.le_trans (Nat.mul_le_mul hm h4) (by decide)
  exact lt_of_le2 (Nat.le_trans h3 (Nat.pow_le_pow_right (by decide) h5))
theorem nums_sm {p : Int} {m : Nat} {ds : List PyData} (h : Nums p m ds) (hm : m ≤ 160) {d : PyData} (hd : d ∈ ds) : Sm (numT d) ∧ Sm (numB d) := ⟨sm_le (by omega) (h d hd).2.1, sm_le (by omega) (h d hd).2.2⟩
theorem dz_of {i j : Int} (h : Sm j) (h0 : j ≠ 0) : CDivZ i j := ⟨h0, log_of (by decide) (Nat.lt_of_lt_of_le h (Nat.pow_le_pow_right (by decide) (by decide : 1000 ≤ 9000)))⟩
theorem gcd_sm {a b : Int} (h : Sm b) (h0 : b ≠ 0) : Sm ((Nat.gcd a.natAbs b.natAbs : Nat) : Int) ∧ ((Nat.gcd a.natAbs b.natAbs : Nat) : Int) ≠ 0 := by
  have h1 := Nat.gcd_le_right a.natAbs (show 0 < b.natAbs by omega)
  have h2 := Nat.gcd_pos_of_pos_right a.natAbs (show 0 < b.natAbs by omega)
  refine ⟨?_, by omega⟩
  unfold Sm at h ⊢
  omega
theorem take_one {ds : List PyData} {i : Nat} {d : PyData} (h : ds[i]? = some d) : (ds.take (i + 1)).foldl comS 1 = comS ((ds.take i).foldl comS 1) d := by
  rw [List.take_add_one, h]
  show (ds.take i ++ [d]).foldl comS 1 = _
  rw [List.foldl_append]
  rfl
theorem line0 {ds : List PyData} : (lineI 0 ds).map PyData.int = ds.map fun e => .int (numT e * (comB ds).fdiv (numB e)) := by
  unfold lineI
  rw [if_pos rfl, List.map_map]
  rfl
theorem zip_get {is js : List Int} {i : Nat} {a b : Int} (h1 : is[i]? = some a) (h2 : js[i]? = some b) : (List.zipWith (fun a b => a * b) is js)[i]? = some (a * b) := by
  rw [List.getElem?_zipWith, h1, h2]
theorem ints_get {K : PySem.W.Frag} {H : Hp} {xs : List V} {is : List Int} {i : Nat} {x : V} (h : DpAll K H xs (is.map .int)) (e : xs[i]? = some x) : ∃ a, is[i]? = some a ∧ x = .int a := by
  obtain ⟨d, hd, hx⟩ := dpAll_get h e
  rw [List.getElem?_map] at hd
  obtain ⟨a, ha, rfl⟩ := Option.map_eq_some_iff.mp hd
  exact ⟨a, ha, dp_int hx⟩
theorem ints_all {K : PySem.W.Frag} {H : Hp} : ∀ {xs : List V} {is : List Int}, DpAll K H xs (is.map .int) → xs = is.map V.int
  | _, [], h => dpAll_nil h
  | _, i :: is, h => by
    obtain ⟨x, r, rfl, h1, h2⟩ := dpAll_cons h
    rw [dp_int h1, ints_all h2]
    rfl
theorem all_int {ds : List PyData} {is js : List Int} (h1 : ds.length = (List.zipWith (fun a b => a * b) is js).length) (h2 : ∀ (i : Nat) d, ds[i]? = some d → ∃ e, (List.zipWith (fun a b => a * b) is js)[i]? = some e ∧ d = .int e) : ds = (List.zipWith (fun a b => a * b) is js).map .int := by
  refine List.ext_getElem? fun i => ?_
  rw [List.getElem?_map]
  cases e : ds[i]? with
  | none =>
    have hi : ds.length ≤ i := by simpa using e
    rw [List.getElem?_eq_none (by omega)]
    rfl
  | some d =>
    obtain ⟨c, h3, rfl⟩ := h2 i d e
    rw [h3]
    rfl
theorem all_mapT {α : Type} {ds : List PyData} {es : List α} {f : α → PyData} (h1 : ds.length = es.length) (h2 : ∀ (i : Nat) d, ds[i]? = some d → ∃ e, es[i]? = some e ∧ d = f e) : ds = es.map f := by
  refine List.ext_getElem? fun i => ?_
  rw [List.getElem?_map]
  cases e : ds[i]? with
  | none =>
    have hi : ds.length ≤ i := by simpa using e
    rw [List.getElem?_eq_none (by omega)]
    rfl
  | some d =>
    obtain ⟨c, h3, rfl⟩ := h2 i d e
    rw [h3]
    rfl
section
variable {P : Program} {w : World} {K : PySem.W.Frag} {mg : Str → Option Value} {base : Heap} {C f : Addr} {fd : FuncData}
theorem sc_over_one_bottom : FnScope ["row", "bottom", "_", "part", "top"] ["row"] (defScope (top 15)) := ⟨rfl, rfl, rfl, by decide +kernel, rfl, by decide +kernel, by decide +kernel⟩
theorem ok_over_one_bottom (F : FnP K "over_one_bottom" (top 15) [] f fd) (tx : Bn mg) : FnOk P w K mg base CX0 1 f fd ["row"] (spBottom K) := by
  refine F.ok sc_over_one_bottom (fun vs H Q E h => ?_) (fun cdv A outer s H vs Q E hr h => ?_)
  · obtain ⟨G, v, ds, m, rfl, _⟩ := h; rfl
  · obtain ⟨G, v, ds, m, rfl, s, hd, hn, hl, hm, k⟩ := h
    obtain ⟨a, xs, rfl, hs, ha⟩ := dp_tup hd
    have hlen := dpAll_len ha
    refine ⟨_, PSs.nox (pss_cons (ps_set (i := 1) sc_over_one_bottom.nd rfl (Or.inr rfl) pe_int)
      (pss_cons (ps_for PassesOwn.never rfl (pi_tup (pv 0)) (pg_tup rfl (pgs_cons (pg_name (i := 2) sc_over_one_bottom.nd rfl (Or.inl rfl)) (pgs_cons (pg_name (i := 3) sc_over_one_bottom.nd rfl (Or.inl rfl)) pgs_nil))) (pss_one (ps_set (i := 1) sc_over_one_bottom.nd rfl (Or.inr rfl) (pe_op op_fdivZ (pe_op op_mulW (pv 1) (pv 3)) (pe_callBfun cr_gcd (by rfl) tx.gcd (pa_cons (pv 1) (pa_cons (pv 3) pa_nil)))))))
      (pss_one (ps_ret (pe_tup (pa_cons (pe_lc (own := [("top", 4), ("part", 3)]) (g := gTup K 2 (gCons (gName 4) (gCons (gName 3) gNil))) (tt := tYes) rfl sc_over_one_bottom.nd (pi_tup (pv 0)) (blkOk_by (own := [("top", 4), ("part", 3)]) (N := ["row", "bottom", "_", "part", "top"]) (sc := defScope (top 15)) (by decide +kernel)) (fun _ _ _ _ _ => (pg_tup rfl (pgs_cons (pg_name (i := 4) sc_over_one_bottom.nd rfl (by first | exact Or.inl rfl | exact Or.inr rfl)) (pgs_cons (pg_name (i := 3) sc_over_one_bottom.nd rfl (by first | exact Or.inl rfl | exact Or.inr rfl)) pgs_nil)))) (fun _ _ _ _ _ => pts_nil) (fun _ _ _ _ _ => (pe_op op_mulW (pv 4) (pe_op op_fdivZ (pv 1) (pv 3))))) (pa_cons (pv 1) pa_nil))))))), ?_⟩
    refine ⟨_, rfl, a, rfl, ⟨xs, Evl.ex_t s hs⟩, for_it walk_tup (fun i σ H2 => H2 = H ∧ ∃ u w, σ = [some (.ref a), some (.int ((ds.take i).foldl comS 1)), u, w, none]) ⟨rfl, none, none, rfl⟩ (fun i σ H2 _ ⟨e, _⟩ => by rw [e]; exact Evl.ex_t s hs) ?_ ?_⟩
    · rintro i x σ H2 H3 hi ⟨rfl, u, w, rfl⟩ ⟨rfl, hx⟩
      obtain ⟨d, hd, hdx⟩ := dpAll_get ha hx
      have hmem := List.mem_of_getElem? hd
      obtain ⟨sT, sB⟩ := nums_sm hn hm hmem
      obtain ⟨t, b, rfl, low⟩ := nu0 (hn d hmem).1
      obtain ⟨q, rfl, hq⟩ := dp_two hdx
      obtain ⟨c1, c2⟩ := comT hn hl hm i
      obtain ⟨g1, g2⟩ := gcd_sm (a := (ds.take i).foldl comS 1) sB (show b ≠ 0 by have := low.1; omega)
      refine ⟨q, [.int t, .int b], rfl, Evl.ex_t s hq, rfl, .int t, [.int b], rfl, .int b, [], rfl, rfl, ?_⟩
      refine ⟨_, rfl, _, rfl, _, _, rfl, rfl, sm_mul c2 sB, _, rfl, _, rfl, _, _, rfl, _, _, rfl, rfl, dz_of g1 g2, rfl, some (.int t), some (.int b), ?_⟩
      rw [take_one hd]
      rfl
    · rintro σ H2 ⟨rfl, u, w, rfl⟩
      have e5 : (ds.take xs.length).foldl comS 1 = comB ds := by rw [hlen, List.take_length]; rfl
      rw [e5]
      refine ⟨_, rfl, a, rfl, ⟨xs, Evl.ex_t s hs⟩, fun D hD => lcP (K := K) walk_tup (fun i d => ∃ e, ds[i]? = some e ∧ d = .int (numT e * (comB ds).fdiv (numB e))) s hD (by omega) (fun G1 H1 g h _ => Evl.ex_t h (Evl.ex_t g hs)) ?_ ?_⟩
      · rintro i x G1 H1 H2 kn kk hi g1 g2 s1 ⟨rfl, hx⟩ made
        obtain ⟨d, hd, hdx⟩ := dpAll_get ha hx
        have hmem := List.mem_of_getElem? hd
        obtain ⟨sT, sB⟩ := nums_sm hn hm hmem
        obtain ⟨t, b, rfl, low⟩ := nu0 (hn d hmem).1
        obtain ⟨q, rfl, hq⟩ := dp_two hdx
        obtain ⟨c1, c2⟩ := comT hn hl hm ds.length
        rw [List.take_length, ← comB_def] at c1 c2
        refine ⟨q, [.int t, .int b], rfl, Evl.ex_t g2 (Evl.ex_t g1 hq), rfl, .int t, [.int b], rfl, .int b, [], rfl, rfl, rfl, yes ?_⟩
        refine ⟨_, rfl, _, rfl, _, rfl, _, _, rfl, rfl, dz_of sB (show b ≠ 0 by have := low.1; omega), _, _, rfl, rfl, sm_mul sT (Nat.lt_of_le_of_lt (fdiv_le (by omega) low.1) c2), ?_⟩
        exact made _ _ _ _ ⟨_, hd, rfl⟩ (Mv.refl g2) (Same.refl _) (.int _)
      · intro es G2 H2 hle hes m2 s2 hd2
        have ee := all_map (f := fun e => .int (numT e * (comB ds).fdiv (numB e))) (hle.trans hlen) hes
        subst ee
        rw [← line0] at hd2
        refine ⟨_, rfl, by show 2 ≤ sizeLine; decide, fun p hp => ?_⟩
        have m3 := Mv.new (o := .tup [.ref D, .int (comB ds)]) m2.gh hp
        exact k _ _ _ (m2.trans m3) (s2.trans (same_new hp)) (.tup (SqT.of upd_same) (.cons (dp_same m3.gg _ _ hd2) (.cons (.int _) .nil)))
theorem sc_summed_wholes : FnScope ["one", "other", "left", "right"] ["one", "other"] (defScope (top 16)) := ⟨rfl, rfl, rfl, by decide +kernel, rfl, by decide +kernel, by decide +kernel⟩
theorem ok_summed_wholes (F : FnP K "summed_wholes" (top 16) [] f fd) (tx : Bn mg) : FnOk P w K mg base CX0 1 f fd ["one", "other"] (spDotI K) := by
  refine F.ok sc_summed_wholes (fun vs H Q E h => ?_) (fun cdv A outer s H vs Q E hr h => ?_)
  · obtain ⟨G, x, y, dx, dy, is, js, rfl, _⟩ := h; rfl
  · obtain ⟨G, x, y, dx, dy, is, js, rfl, s, hx, hy, hxy, hl, hn, hi1, hj1, k⟩ := h
    refine ⟨_, PSs.nox (pss_one (ps_ret (pe_callB (cr_sum rfl) (by rfl) tx.sum (by decide +kernel) (pa_cons (pe_lc (own := [("left", 2), ("right", 3)]) (g := gTup K 2 (gCons (gName 2) (gCons (gName 3) gNil))) (tt := tYes) rfl sc_summed_wholes.nd (RZ.pi_zipA (by rfl) tx.zip (pa_cons (pv 0) (pa_cons (pv 1) pa_nil))) (blkOk_by (own := [("left", 2), ("right", 3)]) (N := ["one", "other", "left", "right"]) (sc := defScope (top 16)) (by decide +kernel)) (fun _ _ _ _ _ => (pg_tup rfl (pgs_cons (pg_name (i := 2) sc_summed_wholes.nd rfl (by first | exact Or.inl rfl | exact Or.inr rfl)) (pgs_cons (pg_name (i := 3) sc_summed_wholes.nd rfl (by first | exact Or.inl rfl | exact Or.inr rfl)) pgs_nil)))) (fun _ _ _ _ _ => pts_nil) (fun _ _ _ _ _ => (pe_op op_mulW (pv 2) (pv 3)))) pa_nil)))), ?_⟩
    rcases hxy with ⟨rfl, rfl⟩ | ⟨rfl, rfl⟩
    · obtain ⟨a, xs, rfl, ha, hxs⟩ := dp_lst hx
      obtain ⟨b, ys, rfl, hb, hys⟩ := dp_lst hy
      have l1 := dpAll_len hxs
      have l2 := dpAll_len hys
      rw [List.length_map] at l1 l2
      refine ⟨_, rfl, _, rfl, a, b, xs, ys, rfl, .inl ⟨Evl.ex_l s ha, Evl.ex_l s hb, fun D hD => lcP (K := K) (walk_zip (n := xs.length) (by omega)) (fun i d => ∃ e, (List.zipWith (fun a b => a * b) is js)[i]? = some e ∧ d = .int e) s hD (by omega) (fun G1 H1 g h _ => ⟨Evl.ex_l h (Evl.ex_l g ha), Evl.ex_l h (Evl.ex_l g hb)⟩) ?_ ?_⟩⟩
      · rintro i z G1 H1 H2 kn kk hi g1 g2 s1 ⟨T, x, y, rfl, hT, rfl, hx, hy⟩ made
        obtain ⟨c, hc, rfl⟩ := ints_get hxs hx
        obtain ⟨d, hd, rfl⟩ := ints_get hys hy
        refine ⟨T, [.int c, .int d], rfl, SqT.of upd_same, rfl, .int c, [.int d], rfl, .int d, [], rfl, rfl, rfl, yes ?_⟩
        refine ⟨_, rfl, _, rfl, _, _, rfl, rfl, sm_mul (hi1 _ (List.mem_of_getElem? hc)) (hj1 _ (List.mem_of_getElem? hd)), ?_⟩
        exact made _ _ _ _ ⟨_, zip_get hc hd, rfl⟩ (Mv.hid g2 hT) (same_new hT) (.int _)
      · intro es G2 H2 hle hes m2 s2 hd2
        have ee := all_int (by rw [hle, List.length_zipWith]; omega) hes
        subst ee
        obtain ⟨q, zs, e, hz, hzs⟩ := dp_lst hd2
        cases e
        rw [ints_all hzs] at hz
        exact ⟨D, _, rfl, Evl.ex_l m2.gh hz, k _ s2⟩
    · obtain ⟨a, xs, rfl, ha, hxs⟩ := dp_tup hx
      obtain ⟨b, ys, rfl, hb, hys⟩ := dp_tup hy
      have l1 := dpAll_len hxs
      have l2 := dpAll_len hys
      rw [List.length_map] at l1 l2
      refine ⟨_, rfl, _, rfl, a, b, xs, ys, rfl, .inr ⟨Evl.ex_t s ha, Evl.ex_t s hb, fun D hD => lcP (K := K) (walk_zipT (by omega)) (fun i d => ∃ e, (List.zipWith (fun a b => a * b) is js)[i]? = some e ∧ d = .int e) s hD (by omega) (fun G1 H1 g h _ => ⟨Evl.ex_t h (Evl.ex_t g ha), Evl.ex_t h (Evl.ex_t g hb)⟩) ?_ ?_⟩⟩
      · rintro i z G1 H1 H2 kn kk hi g1 g2 s1 ⟨T, x, y, rfl, hT, rfl, hx, hy⟩ made
        obtain ⟨c, hc, rfl⟩ := ints_get hxs hx
        obtain ⟨d, hd, rfl⟩ := ints_get hys hy
        refine ⟨T, [.int c, .int d], rfl, SqT.of upd_same, rfl, .int c, [.int d], rfl, .int d, [], rfl, rfl, rfl, yes ?_⟩
        refine ⟨_, rfl, _, rfl, _, _, rfl, rfl, sm_mul (hi1 _ (List.mem_of_getElem? hc)) (hj1 _ (List.mem_of_getElem? hd)), ?_⟩
        exact made _ _ _ _ ⟨_, zip_get hc hd, rfl⟩ (Mv.hid g2 hT) (same_new hT) (.int _)
      · intro es G2 H2 hle hes m2 s2 hd2
        have ee := all_int (by rw [hle, List.length_zipWith]; omega) hes
        subst ee
        obtain ⟨q, zs, e, hz, hzs⟩ := dp_lst hd2
        cases e
        rw [ints_all hzs] at hz
        exact ⟨D, _, rfl, Evl.ex_l m2.gh hz, k _ s2⟩
theorem lineD_dp {G : Hp} {x : V} {p : Int} {ds : List PyData} (h : Dp K G x (lineD p ds)) : ∃ a u, x = .ref a ∧ SqT K G a [u, .int (lineB p ds)] ∧ Dp K G u (if p = 0 then .list ((lineI p ds).map .int) else .tuple ((lineI p ds).map .int)) := by
  obtain ⟨a, xs, e, hs, ha⟩ := dp_tup h
  obtain ⟨u, r, rfl, hu, hr⟩ := dpAll_cons ha
  obtain ⟨u2, r2, rfl, hu2, hr2⟩ := dpAll_cons hr
  have e3 := dpAll_nil hr2
  subst e3
  rw [dp_int hu2] at hs
  exact ⟨a, u, e, hs, hu⟩
theorem nbT {p : Int} (h : p ≠ 0) : (!decide (V.int p = V.int 0)) = true := by
  rw [decide_eq_false fun z => h (V.int.inj z)]
  rfl
theorem nbF : (!decide (V.int 0 = V.int 0)) = false := by
  rw [decide_eq_true rfl]
  rfl
theorem lineB_p {p : Int} {ds : List PyData} (h : p ≠ 0) : lineB p ds = 1 := if_neg h
theorem lineB_0 {ds : List PyData} : lineB 0 ds = comB ds := if_pos rfl
theorem lineI_len {p : Int} {ds : List PyData} : (lineI p ds).length = ds.length := by
  unfold lineI
  split <;> rw [List.length_map]
theorem zero_dp {G : Hp} {p : Int} {z o : V} (h : ZeroOne G p z o) : Dp K G z (zeroD p) := by
  rcases h with ⟨rfl, za, oa, rfl, rfl, h1, h2⟩ | ⟨hp, rfl, rfl⟩
  · exact dp_of2 (SqT.of h1)
  · unfold zeroD valD
    rw [if_neg hp, Int.zero_emod]
    exact .int 0
theorem rep_all {H : Hp} {z : V} {d : PyData} (h : Dp K H z d) : ∀ n : Nat, DpAll K H (List.replicate n [z]).flatten (List.replicate n d)
  | 0 => .nil
  | n + 1 => .cons h (rep_all h n)
theorem sc_whole_line : FnScope ["figures", "row"] ["figures", "row"] (defScope (top 20)) := ⟨rfl, rfl, rfl, by decide +kernel, rfl, by decide +kernel, by decide +kernel⟩
theorem ok_whole_line (F : FnP K "whole_line" (top 20) [] f fd) (fg : Fg K C) {fO : Addr} {fdO : FuncData} (GO : FnOk P w K mg base CX0 1 fO fdO ["row"] (spBottom K)) (mO : mg "over_one_bottom" = some (.ref fO)) (kpO : PySem.W.keepIn K (.ref fO) = true) (bO : L2.Binds K fdO ["row"] []) : FnOk P w K mg base CX0 2 f fd ["figures", "row"] (spLine K C) := by
  refine F.ok sc_whole_line (fun vs H Q E h => ?_) (fun cdv A outer s H vs Q E hr h => ?_)
  · obtain ⟨G, fa, v, p, ds, m, rfl, _⟩ := h; rfl
  · obtain ⟨G, fa, v, p, ds, m, rfl, s, ⟨op, dx, z, o, ha, hz⟩, hd, hn, hl, hm, k⟩ := h
    have hrO : Room 1 _ := hr
    refine ⟨_, PSs.nox (pss_one (ps_ret (pe_ifExp (pt_cmpR op_ne (pe_fld (pv 0) rfl) pe_int (by rfl)) (pe_tup (pa_cons (pv 1) (pa_cons pe_int pa_nil))) (pe_call GO hrO (by rfl) mO kpO bO .nil pass0 (pa_cons (pv 1) pa_nil))))), ?_⟩
    refine ⟨_, rfl, fa, C, dx, _, _, rfl, s _ _ ha, fg.cl, fg.nP, fl_prime, rfl, _, rfl, ?_⟩
    by_cases hp : p = 0
    · subst hp
      refine ifF nbF ⟨_, rfl, G, v, ds, m, rfl, s, hd, hn, hl, hm, fun v' G' H' m' s' hd' => k _ _ _ m' s' ?_⟩
      unfold lineD
      rw [if_pos rfl, lineB_0]
      exact hd'
    · refine ifT (nbT hp) ⟨_, rfl, by show 2 ≤ sizeLine; decide, fun q hq => ?_⟩
      have m3 := Mv.new (o := .tup [v, .int 1]) s hq
      refine k _ _ _ m3 (same_new hq) ?_
      unfold lineD
      rw [if_neg hp, ← ints_p hp hn, lineB_p hp]
      exact .tup (SqT.of upd_same) (.cons (dp_same m3.gg _ _ hd) (.cons (.int _) .nil))
theorem sc_summed_lines : FnScope ["figures", "one", "other", "total"] ["figures", "one", "other"] (defScope (top 21)) := ⟨rfl, rfl, rfl, by decide +kernel, rfl, by decide +kernel, by decide +kernel⟩
theorem ok_summed_lines (F : FnP K "summed_lines" (top 21) [] f fd) (fg : Fg K C) {fW : Addr} {fdW : FuncData} (GW : FnOk P w K mg base CX0 1 fW fdW ["one", "other"] (spDotI K)) (mW : mg "summed_wholes" = some (.ref fW)) (kpW : PySem.W.keepIn K (.ref fW) = true) (bW : L2.Binds K fdW ["one", "other"] []) {fT : Addr} {fdT : FuncData} (GT : FnOk P w K mg base CX0 1 fT fdT ["top", "bottom"] spLow) (mT : mg "in_lowest_terms" = some (.ref fT)) (kpT : PySem.W.keepIn K (.ref fT) = true) (bT : L2.Binds K fdT ["top", "bottom"] []) : FnOk P w K mg base CX0 2 f fd ["figures", "one", "other"] (spLines K C) := by
  refine F.ok sc_summed_lines (fun vs H Q E h => ?_) (fun cdv A outer s H vs Q E hr h => ?_)
  · obtain ⟨G, fa, x, y, p, ds, es, m, n, rfl, _⟩ := h; rfl
  · obtain ⟨G, fa, x, y, p, ds, es, m, n, rfl, s, ⟨op, dx, z, o, ha, hz⟩, hx, hy, hm, hn, hl, hl5, hmn, k⟩ := h
    have hrW : Room 1 _ := hr
    have hrT : Room 1 _ := hr
    obtain ⟨a, u, rfl, hxs, hu⟩ := lineD_dp hx
    obtain ⟨b, u2, rfl, hys, hu2⟩ := lineD_dp hy
    have sm1 : ∀ i ∈ lineI p ds, Sm i := fun i hi => sm_le (k := 6 * m) (by omega) (line_bd hm hl5 i hi)
    have sm2 : ∀ i ∈ lineI p es, Sm i := fun i hi => sm_le (k := 6 * n) (by omega) (line_bd hn (by omega) i hi)
    refine ⟨_, PSs.nox (pss_cons (ps_set (i := 3) sc_summed_lines.nd rfl (Or.inl rfl) (pe_call GW hrW (by rfl) mW kpW bW .nil pass0 (pa_cons (pe_ix ix_tup (pv 1) pe_int (fun _ _ => rfl)) (pa_cons (pe_ix ix_tup (pv 2) pe_int (fun _ _ => rfl)) pa_nil))))
      (pss_cons (ps_if (pt_cmpR op_ne (pe_fld (pv 0) rfl) pe_int (by rfl)) (pss_one (ps_ret (pe_op op_mod (pv 3) (pe_fld (pv 0) rfl)))) pss_nil)
      (pss_one (ps_ret (pe_call GT hrT (by rfl) mT kpT bT .nil pass0 (pa_cons (pv 3) (pa_cons (pe_op op_mulW (pe_ix ix_tup (pv 1) pe_int (fun _ _ => rfl)) (pe_ix ix_tup (pv 2) pe_int (fun _ _ => rfl))) pa_nil))))))), ?_⟩
    refine ⟨_, rfl, _, _, _, _, rfl, rfl, Evl.ex_t s hxs, rfl, _, rfl, _, _, _, _, rfl, rfl, Evl.ex_t s hys, rfl, G, u, u2, _, _, lineI p ds, lineI p es, rfl, s, hu, hu2, ?_, by rw [lineI_len, lineI_len, hl], by rw [lineI_len]; omega, sm1, sm2, fun H' s' => ?_⟩
    · by_cases hp : p = 0
      · rw [if_pos hp, if_pos hp]
        exact .inl ⟨rfl, rfl⟩
      · rw [if_neg hp, if_neg hp]
        exact .inr ⟨rfl, rfl⟩
    have s2 := s.trans s'
    refine ⟨_, rfl, fa, C, dx, _, _, rfl, s2 _ _ ha, fg.cl, fg.nP, fl_prime, rfl, _, rfl, ?_⟩
    by_cases hp : p = 0
    · subst hp
      refine ifF nbF ?_
      refine ⟨_, rfl, _, rfl, _, _, _, _, rfl, rfl, Evl.ex_t s2 hxs, rfl, _, rfl, _, _, _, _, rfl, rfl, Evl.ex_t s2 hys, rfl, _, _, rfl, rfl, sm_mul (sm_le (k := 801) (by decide) (lt_of_le2 (Nat.le_trans (lineB_bd hm hl5) (Nat.pow_le_pow_right (by decide) (by omega))))) (sm_le (k := 801) (by decide) (lt_of_le2 (Nat.le_trans (lineB_bd hn (by omega)) (Nat.pow_le_pow_right (by decide) (by omega))))), ?_⟩
      refine ⟨_, _, rfl, Int.mul_ne_zero (lineB_pos hm) (lineB_pos hn), sm4_le (k := 6 * (m + n) + 3) (by omega) (dotB_bd hm hn hl5 (by omega)), fun q hq => ?_⟩
      have m3 := Mv.new (o := .tup [.int (lowT (dotI (lineI 0 ds) (lineI 0 es)) (lineB 0 ds * lineB 0 es)), .int (lowB (dotI (lineI 0 ds) (lineI 0 es)) (lineB 0 ds * lineB 0 es))]) s2 hq
      exact k _ _ _ ((Mv.of s s').trans m3) (s'.trans (same_new hq)) (dp_of2 (SqT.of upd_same))
    · have p0 : 0 < p := (off_pos op hp).1
      refine ifT (nbT hp) ?_
      refine ⟨_, rfl, _, rfl, fa, C, dx, _, _, rfl, s2 _ _ ha, fg.cl, fg.nP, fl_prime, _, _, rfl, rfl, p0, k _ _ _ (Mv.of s s') s' ?_⟩
      unfold dotD valD
      rw [if_neg hp]
      exact .int _
theorem sc_summed_products : FnScope ["figures", "one", "other"] ["figures", "one", "other"] (defScope (top 19)) := ⟨rfl, rfl, rfl, by decide +kernel, rfl, by decide +kernel, by decide +kernel⟩
theorem ok_summed_products (F : FnP K "summed_products" (top 19) [] f fd) {fL : Addr} {fdL : FuncData} (GL : FnOk P w K mg base CX0 2 fL fdL ["figures", "one", "other"] (spLines K C)) (mL : mg "summed_lines" = some (.ref fL)) (kpL : PySem.W.keepIn K (.ref fL) = true) (bL : L2.Binds K fdL ["figures", "one", "other"] []) {fH : Addr} {fdH : FuncData} (GH : FnOk P w K mg base CX0 2 fH fdH ["figures", "row"] (spLine K C)) (mH : mg "whole_line" = some (.ref fH)) (kpH : PySem.W.keepIn K (.ref fH) = true) (bH : L2.Binds K fdH ["figures", "row"] []) : FnOk P w K mg base CX0 3 f fd ["figures", "one", "other"] (spProducts K C) := by
  refine F.ok sc_summed_products (fun vs H Q E h => ?_) (fun cdv A outer s H vs Q E hr h => ?_)
  · obtain ⟨G, fa, x, y, p, ds, es, m, n, rfl, _⟩ := h; rfl
  · obtain ⟨G, fa, x, y, p, ds, es, m, n, rfl, s, fig, hx, hy, hm, hn, hl, hl5, hmn, k⟩ := h
    have hrL : Room 2 _ := hr
    have hrH : Room 2 _ := hr
    refine ⟨_, PSs.nox (pss_one (ps_ret (pe_call GL hrL (by rfl) mL kpL bL .nil pass0 (pa_cons (pv 0) (pa_cons (pe_call GH hrH (by rfl) mH kpH bH .nil pass0 (pa_cons (pv 0) (pa_cons (pv 1) pa_nil))) (pa_cons (pe_call GH hrH (by rfl) mH kpH bH .nil pass0 (pa_cons (pv 0) (pa_cons (pv 2) pa_nil))) pa_nil)))))), ?_⟩
    refine ⟨_, rfl, _, rfl, _, rfl, G, fa, x, p, ds, m, rfl, s, fig, hx, hm, hl5, by omega, fun v1 G1 H1 m1 s1 d1 => ?_⟩
    refine ⟨_, rfl, _, rfl, G1, fa, y, p, es, n, rfl, m1.gh, fig.same m1.gg, dp_same m1.gg _ _ hy, hn, by omega, by omega, fun v2 G2 H2 m2 s2 d2 => ?_⟩
    have m3 := m1.trans m2
    exact ⟨G2, fa, v1, v2, p, ds, es, m, n, rfl, m2.gh, fig.same m3.gg, dp_same m2.gg _ _ d1, d2, hm, hn, hl, hl5, hmn, fun v3 G3 H3 m4 s4 d4 => k _ _ _ (m3.trans m4) ((s1.trans s2).trans s4) d4⟩
theorem sc_column_led : FnScope ["figures", "table", "column", "line", "row"] ["figures", "table", "column"] (defScope (top 22)) := ⟨rfl, rfl, rfl, by decide +kernel, rfl, by decide +kernel, by decide +kernel⟩
theorem ok_column_led (F : FnP K "column_led" (top 22) [] f fd) (tx : Bn mg) {fL : Addr} {fdL : FuncData} (GL : FnOk P w K mg base CX0 2 fL fdL ["figures", "one", "other"] (spLines K C)) (mL : mg "summed_lines" = some (.ref fL)) (kpL : PySem.W.keepIn K (.ref fL) = true) (bL : L2.Binds K fdL ["figures", "one", "other"] []) {fH : Addr} {fdH : FuncData} (GH : FnOk P w K mg base CX0 2 fH fdH ["figures", "row"] (spLine K C)) (mH : mg "whole_line" = some (.ref fH)) (kpH : PySem.W.keepIn K (.ref fH) = true) (bH : L2.Binds K fdH ["figures", "row"] []) : FnOk P w K mg base CX0 3 f fd ["figures", "table", "column"] (spColumn K C) := by
  refine F.ok sc_column_led (fun vs H Q E h => ?_) (fun cdv A outer s H vs Q E hr h => ?_)
  · obtain ⟨G, fa, x, y, p, T, es, m, n, rfl, _⟩ := h; rfl
  · obtain ⟨G, fa, x, y, p, T, es, m, n, rfl, s, fig, hx, hy, hT, hTl, hn, hl5, hmn, k⟩ := h
    have hrL : Room 2 _ := hr
    have hrH : Room 2 _ := hr
    refine ⟨_, PSs.nox (pss_cons (ps_set (i := 3) sc_column_led.nd rfl (Or.inr rfl) (pe_call GH hrH (by rfl) mH kpH bH .nil pass0 (pa_cons (pv 0) (pa_cons (pv 2) pa_nil))))
      (pss_one (ps_ret (pe_callTy call_tuple_of (by rfl) tx.tuple PyProof.Rows.boot_tuple (pa_cons (pe_lc (own := [("row", 4)]) (g := gName 4) (tt := tYes) rfl sc_column_led.nd (pi_tup (pv 1)) (blkOk_by (own := [("row", 4)]) (N := ["figures", "table", "column", "line", "row"]) (sc := defScope (top 22)) (by decide +kernel)) (fun _ _ _ _ _ => (pg_name (i := 4) sc_column_led.nd rfl (by first | exact Or.inl rfl | exact Or.inr rfl))) (fun _ _ _ _ _ => pts_nil) (fun _ _ _ _ _ => (pe_call GL hrL (by rfl) mL kpL bL .nil pass0 (pa_cons (pv 0) (pa_cons (pe_call GH hrH (by rfl) mH kpH bH .nil pass0 (pa_cons (pv 0) (pa_cons (pv 4) pa_nil))) (pa_cons (pv 3) pa_nil)))))) pa_nil))))), ?_⟩
    refine ⟨_, rfl, _, rfl, G, fa, y, p, es, n, rfl, s, fig, hy, hn, hl5, by omega, fun v1 G1 H1 m1 s1 d1 => ?_⟩
    obtain ⟨a, xs, rfl, hxs, hall⟩ := dp_tup hx
    have hlen := dpAll_len hall
    rw [List.length_map] at hlen
    refine ⟨_, rfl, a, rfl, ⟨xs, Evl.ex_t m1.gh (Evl.ex_t m1.gg hxs)⟩, fun D hD => lcP (K := K) walk_tup (fun i d => ∃ r, T[i]? = some r ∧ d = dotD p r es) m1.gh hD (by omega) (fun G2 H2 g h _ => Evl.ex_t h (Evl.ex_t (m1.gg.trans g) hxs)) ?_ ?_⟩
    · rintro i x G2 H2 H3 kn kk hi g1 g2 s2 ⟨rfl, hx⟩ made
      obtain ⟨d, hd, hdx⟩ := dpAll_get hall hx
      rw [List.getElem?_map] at hd
      obtain ⟨r, hr1, rfl⟩ := Option.map_eq_some_iff.mp hd
      obtain ⟨hrn, hrl⟩ := hT r (List.mem_of_getElem? hr1)
      have gg := m1.gg.trans g1
      refine ⟨rfl, yes ?_⟩
      refine ⟨_, rfl, _, rfl, _, rfl, G2, fa, x, p, r, m, rfl, g2, fig.same gg, dp_same gg _ _ hdx, hrn, by omega, by omega, fun v3 G3 H4 m3 s3 d3 => ?_⟩
      refine ⟨_, rfl, G3, fa, v3, v1, p, r, es, m, n, rfl, m3.gh, fig.same (gg.trans m3.gg), d3, dp_same (g1.trans m3.gg) _ _ d1, hrn, hn, hrl, by omega, hmn, fun v4 G4 H4 m4 s4 d4 => ?_⟩
      exact made _ _ _ _ ⟨r, hr1, rfl⟩ (m3.trans m4) (s3.trans s4) d4
    · intro rs G2 H2 hle hes m2 s2 hd2
      have ee := all_mapT (f := fun r => dotD p r es) (hle.trans hlen) hes
      subst ee
      obtain ⟨q, zs, e, hz, hzs⟩ := dp_lst hd2
      cases e
      refine ⟨D, zs, rfl, .inl ⟨Evl.ex_l m2.gh hz, fun l hl => ?_⟩⟩
      have m3 := Mv.new (o := .tup zs) m2.gh hl
      exact k _ _ _ ((m1.trans m2).trans m3) ((s1.trans s2).trans (same_new hl)) (.tup (SqT.of upd_same) (dp_sameAll m3.gg _ _ hzs))
theorem sc_zero_row : FnScope ["figures", "many"] ["figures", "many"] (defScope (top 18)) := ⟨rfl, rfl, rfl, by decide +kernel, rfl, by decide +kernel, by decide +kernel⟩
theorem ok_zero_row (F : FnP K "zero_row" (top 18) [] f fd) (fg : Fg K C) : FnOk P w K mg base CX0 1 f fd ["figures", "many"] (spZeros K C) := by
  refine F.ok sc_zero_row (fun vs H Q E h => ?_) (fun cdv A outer s H vs Q E hr h => ?_)
  · obtain ⟨G, fa, p, n, rfl, _⟩ := h; rfl
  · obtain ⟨G, fa, p, n, rfl, s, ⟨op, dx, z, o, ha, hz⟩, n1, n5, k⟩ := h
    have hzd : Dp K G z (zeroD p) := zero_dp hz
    refine ⟨_, PSs.nox (pss_one (ps_ret (pe_op (op_or op_rep1 op_repT) (pe_tup (pa_cons (pe_fld (pv 0) rfl) pa_nil)) (pv 1)))), ?_⟩
    refine ⟨_, rfl, fa, C, dx, _, _, rfl, s _ _ ha, fg.cl, fg.nZ, fl_zero, by show 1 ≤ sizeLine; decide, fun q hq => ⟨_, rfl, ?_⟩⟩
    have m1 := Mv.new (o := .tup [z]) s hq
    have hz1 := dp_same m1.gg _ _ hzd
    by_cases h1 : n = 1
    · subst h1
      exact .inl ⟨q, [z], rfl, rfl, SqT.of upd_same, k _ _ _ m1 (same_new hq) (.tup (SqT.of upd_same) (.cons hz1 .nil))⟩
    · refine .inr ⟨q, (n : Int), [z], rfl, rfl, SqT.of upd_same, (fun e => nomatch e), by omega, by omega, by show 1 ≤ 1000; decide, fun l hl => ?_⟩
      have m2 := Mv.new (o := .tup (List.replicate (n : Int).toNat [z]).flatten) m1.gh hl
      exact k _ _ _ (m1.trans m2) ((same_new hq).trans (same_new hl)) (.tup (SqT.of upd_same) (rep_all (dp_same m2.gg _ _ hz1) n))
end
end Va
set_option exponentiation.threshold 20000

namespace Vb
open PySem PySem.Spec PyProof.Rows L2 Dz Ra Mt Kx Ky Re Rb Rc Rd Gn Dn Do Vz Vp Va
/-- an error class with two fields f, g -/
structure Ei2 (P : Program) (w : World) (K : PySem.W.Frag) (mg : Str → Option Value) (base : Heap) (gP : Addr) (x f g : Str) (C : Addr) : Prop where
  er : Er K gP C
  m : mg x = some (.ref C)
  no : PySem.W.findIn K (.ref C) f = some none
  no2 : PySem.W.findIn K (.ref C) g = some none
  ini : ∃ (fI : Addr) (fd : FuncData), PySem.W.findIn K (.ref C) "__init__" = some (some (.ref fI)) ∧ PySem.W.typeIn K (.ref fI) = some (.type "function") ∧ FnOk P w K mg base CX0 1 fI fd ["self", f, g] (spIn C 2 (fl2 f g)) ∧ L2.Binds K fd ["self", f, g] []
theorem rd_mk2 {C : Addr} {f g : Str} {v u : V} {H : Hp} {Q : XK} (k : ∀ d H', Same H H' → H' d = some (.xd [(g, u), (f, v)]) → Q (.ref C) (some d) H') :
    [v, u].length ≤ 1000 ∧ ∀ a, H a = none → spIn C 2 (fl2 f g) (.ref a :: ([v, u] ++ [])) (upd H a (exo a C none))
      (fun v' H2 => v' = .non ∧ ∃ (d : Addr) (fs : List (Str × V)), H2 a = some (exo a C (some d)) ∧ H2 d = some (exd d fs) ∧ H d = none ∧ Q (.ref C) (some d) (upd (del H2 a) d (.xd fs))) (fun _ _ _ => False) := by
  refine ⟨by show 2 ≤ 1000; decide, fun a ha => ⟨a, [v, u], rfl, rfl, upd_same, fun q H1 hq kq e1 e2 => ⟨rfl, q, _, e1, e2, ?_, ?_⟩⟩⟩
  · have hqa : q ≠ a := fun z => by
      rw [z, upd_same] at hq
      cases hq
    rw [upd_ne hqa] at hq
    exact hq
  · have hqa : q ≠ a := fun z => by
      rw [z, upd_same] at hq
      cases hq
    rw [upd_ne hqa] at hq
    exact k q _ (same_gone ha hq kq) upd_same
def seqOf : PyData → Option (List PyData)
  | .list ds => some ds
  | .tuple ds => some ds
  | _ => none
theorem seq_is {K : PySem.W.Frag} {G : Hp} {x : V} {d : PyData} (h : Dp K G x d) : (isaB (tyD d) "list" || isaB (tyD d) "tuple") = (seqOf d).isSome := by
  cases d with
  | dict _ => cases h
  | _ => rfl
theorem seq_sq {d : PyData} {ds : List PyData} (h : seqOf d = some ds) : Sq d ds := by
  cases d with
  | list es =>
    cases h
    exact .lst _
  | tuple es =>
    cases h
    exact .tup _
  | _ => cases h
def fits (n : Nat) : Option Nat → Bool
  | none => decide (1 ≤ n) && decide (n ≤ 5)
  | some k => n == k
def LimN : V → Option Nat → Prop
  | .non, o => o = none
  | .int i, o => ∃ k : Nat, i = (k : Int) ∧ o = some k
  | _, _ => False
def spFits : Sp := fun vs H Q _ => ∃ (n : Nat) (x : V) (o : Option Nat), vs = [.int n, x] ∧ LimN x o ∧ Q (.bl (fits n o)) H
def spAllNum (K : PySem.W.Frag) (C : Addr) : Sp := fun vs H Q _ => ∃ (G : Hp) (fa : Addr) (x : V) (d : PyData) (ds : List PyData) (p : Int), vs = [.ref fa, x] ∧ Same G H ∧ FigAt C G fa p ∧ Dp K G x d ∧ Sq d ds ∧ ds.length ≤ 1000 ∧ ∀ H', Same H H' → Q (.bl (ds.all (numD p))) H'
/-- the first that is no number -/
def badN (p : Int) : List PyData → Nat → Option Nat
  | [], _ => none
  | d :: ds, i => if numD p d then badN p ds (i + 1) else some i
def lettersDue (p : Int) (d : PyData) (m : Nat) : Option Nat :=
  match seqOf d with
  | none => some 0
  | some ds => match badN p (ds.take m) 0 with
    | some i => some i
    | none => if ds.length = m then none else some (min ds.length m)
def xd2 (f g : Str) (v u : V) : HO := .xd [(g, u), (f, v)]
def spLetters (K : PySem.W.Frag) (C cL : Addr) : Sp := fun vs H Q E => ∃ (G : Hp) (fa : Addr) (x : V) (d : PyData) (p : Int) (m : Nat) (w : Str), vs = [.ref fa, x, .int m, .str w] ∧ Same G H ∧ FigAt C G fa p ∧ Dp K G x d ∧ m ≤ 1000 ∧ (∀ ds, seqOf d = some ds → ds.length ≤ 1000) ∧
  (∀ i : Nat, lettersDue p d m = some i → ∀ dd H', Same H H' → H' dd = some (xd2 "what" "index" (.str w) (.int i)) → E (.ref cL) (some dd) H') ∧
  (∀ ds, lettersDue p d m = none → seqOf d = some ds → Ret K G H Q (.tuple ds))
def wideI (p : Int) (r c : Int) : Bool := decide (p ≠ 0) && decide ((if c > r then c else r) > p)
def spWidth (C cP : Addr) : Sp := fun vs H Q E => ∃ (fa : Addr) (p r c : Int), vs = [.ref fa, .int r, .int c] ∧ FigAt C H fa p ∧ (wideI p r c = true → ∀ dd H', Same H H' → H' dd = some (.xd [("what", .str "wide")]) → E (.ref cP) (some dd) H') ∧ (wideI p r c = false → Q .non H)
def sizeDue (p : Int) (r c : PyData) : Option Str :=
  if wholeD r (some 1) (some 5) && wholeD c (some 1) (some 5) then match r, c with
    | .int i, .int j => if wideI p i j then some "wide" else none
    | _, _ => none
  else some "size"
def spSizes (K : PySem.W.Frag) (C cP : Addr) : Sp := fun vs H Q E => ∃ (fa : Addr) (p : Int) (x y : V) (r c : PyData), vs = [.ref fa, x, y] ∧ FigAt C H fa p ∧ Dp K H x r ∧ Dp K H y c ∧
  (∀ s, sizeDue p r c = some s → ∀ dd H', Same H H' → H' dd = some (.xd [("what", .str s)]) → E (.ref cP) (some dd) H') ∧ (sizeDue p r c = none → Q .non H)
def intOf : PyData → Int
  | .int i => i
  | _ => 0
def keptBad (many : Int) : List PyData → Int → Nat → Option Nat
  | [], _, _ => none
  | d :: ds, low, i => if wholeD d (some low) (some (many - 1)) then keptBad many ds (intOf d + 1) (i + 1) else some i
def keptDue (many : Int) (d : PyData) : Option Nat :=
  match seqOf d with
  | none => some 0
  | some [] => some 0
  | some ds => keptBad many ds 0 0
def spKept (K : PySem.W.Frag) (cK : Addr) : Sp := fun vs H Q E => ∃ (G : Hp) (x : V) (d : PyData) (m : Int) (w : Str), vs = [x, .int m, .str w] ∧ Same G H ∧ Dp K G x d ∧ (∀ ds, seqOf d = some ds → ds.length ≤ 1000) ∧
  (∀ i : Nat, keptDue m d = some i → ∀ dd H', Same H H' → H' dd = some (xd2 "what" "index" (.str w) (.int i)) → E (.ref cK) (some dd) H') ∧
  (∀ ds, keptDue m d = none → seqOf d = some ds → Ret K G H Q (.tuple ds))
theorem bools_all {K : PySem.W.Frag} {H : Hp} : ∀ {xs : List V} {bs : List Bool}, DpAll K H xs (bs.map .bool) → xs = bs.map V.bl
  | _, [], h => dpAll_nil h
  | _, i :: is, h => by
    obtain ⟨x, r, rfl, h1, h2⟩ := dpAll_cons h
    have e : x = .bl i := by cases h1; rfl
    rw [e, bools_all h2]
    rfl
theorem cut_take (xs : List V) (m : Nat) : cutV xs none (some (m : Int)) = xs.take m := by
  unfold cutV
  rw [HT.sIx_none, HT.sIx_nat, Nat.sub_zero, List.drop_zero]
  by_cases h : m ≤ xs.length
  · rw [Nat.min_eq_left h]
  · rw [Nat.min_eq_right (by omega), List.take_length, List.take_of_length_le (by omega)]
theorem drop_cons {α : Type} {ds : List α} {i : Nat} {d : α} (h : ds[i]? = some d) : ds.drop i = d :: ds.drop (i + 1) := by
  obtain ⟨hi, e⟩ := List.getElem?_eq_some_iff.mp h
  rw [List.drop_eq_getElem_cons hi, e]
theorem not_true {b : Bool} (h : ¬ b = true) : b = false := by
  cases b with
  | false => rfl
  | true => exact absurd rfl h
section
variable {P : Program} {w : World} {K : PySem.W.Frag} {mg : Str → Option Value} {base : Heap} {C gP cT cL cP cK f : Addr} {fd : FuncData} {t5 : Tok}
theorem sc_fits_count : FnScope ["many", "due"] ["many", "due"] (defScope (top 25)) := ⟨rfl, rfl, rfl, by decide +kernel, rfl, by decide +kernel, by decide +kernel⟩
theorem ok_fits_count (F : FnP K "fits_count" (top 25) [] f fd) (mM : mg "MOST_ROWS" = some (.int 5 t5)) : FnOk P w K mg base CX0 1 f fd ["many", "due"] spFits := by
  refine F.ok sc_fits_count (fun vs H Q E h => ?_) (fun cdv A outer s H vs Q E hr h => ?_)
  · obtain ⟨n, x, o, rfl, _⟩ := h; rfl
  · obtain ⟨n, x, o, rfl, hx, k⟩ := h
    refine ⟨_, PSs.nox (pss_cons (ps_if (pt_cmpR op_isN (pv 1) pe_non (by rfl)) (pss_one (ps_ret (pe_chain op_le op_le pe_int (pv 0) (pe_glob (v := .int 5) (by rfl) mM ⟨_, rfl⟩)))) pss_nil)
      (pss_one (ps_ret (pe_cmpR op_eq (pv 0) (pv 1) (by rfl))))), ?_⟩
    cases x with
    | non =>
      have e : o = none := hx
      subst e
      refine ⟨_, rfl, rfl, _, rfl, ifT (decide_eq_true rfl) ?_⟩
      refine ⟨_, rfl, _, _, rfl, rfl, _, rfl, ?_⟩
      by_cases h1 : (1 : Int) ≤ n
      · refine ifT (decide_eq_true h1) ⟨_, _, rfl, rfl, ?_⟩
        have e : fits n none = decide ((n : Int) ≤ 5) := by
          show (decide (1 ≤ n) && decide (n ≤ 5)) = _
          rw [decide_eq_true (by omega : 1 ≤ n), Bool.true_and]
          exact decide_eq_decide.mpr (by omega)
        rw [e] at k
        exact k
      · refine ifF (decide_eq_false h1) ?_
        have e : fits n none = false := by
          show (decide (1 ≤ n) && decide (n ≤ 5)) = false
          rw [decide_eq_false (by omega : ¬ 1 ≤ n)]
          rfl
        rw [e] at k
        exact k
    | int i =>
      obtain ⟨j, rfl, rfl⟩ := hx
      refine ⟨_, rfl, rfl, _, rfl, ifF (decide_eq_false fun z => nomatch z) ?_⟩
      refine ⟨_, rfl, _, rfl, rfl, ?_⟩
      have e : decide (V.int (n : Int) = V.int (j : Int)) = fits n (some j) := by
        show _ = (n == j)
        by_cases h : n = j
        · rw [h, decide_eq_true rfl, beq_self_eq_true]
        · rw [decide_eq_false fun z => h (by have := V.int.inj z; omega), beq_eq_false_iff_ne.mpr h]
      rw [e]
      exact k
    | _ => exact hx.elim
theorem sc_all_are_numbers : FnScope ["figures", "row", "entry"] ["figures", "row"] (defScope (top 27)) := ⟨rfl, rfl, rfl, by decide +kernel, rfl, by decide +kernel, by decide +kernel⟩
theorem ok_all_are_numbers (F : FnP K "all_are_numbers" (top 27) [] f fd) (tx : Bn mg) (fg : Fg K C) {fI : Addr} {fdI : FuncData} (GI : FnOk P w K mg base CX0 3 fI fdI ["self", "thing"] (spIsNum K C)) (mI : Meth K C "is_number" fI) (bI : L2.Binds K fdI ["self", "thing"] []) : FnOk P w K mg base CX0 4 f fd ["figures", "row"] (spAllNum K C) := by
  refine F.ok sc_all_are_numbers (fun vs H Q E h => ?_) (fun cdv A outer s H vs Q E hr h => ?_)
  · obtain ⟨G, fa, x, d, ds, p, rfl, _⟩ := h; rfl
  · obtain ⟨G, fa, x, d, ds, p, rfl, s, fig, hd, hq, hn, k⟩ := h
    have hrI : Room 3 _ := hr
    obtain ⟨a, xs, rfl, hs, ha⟩ := sq_dp hq hd
    have hlen := dpAll_len ha
    refine ⟨_, PSs.nox (pss_one (ps_ret (pe_callB (cr_all rfl) (by rfl) tx.all (by decide +kernel) (pa_cons (pe_lc (own := [("entry", 2)]) (g := gName 2) (tt := tYes) rfl sc_all_are_numbers.nd (pi_or (pi_list (pv 1)) (pi_tup (pv 1))) (blkOk_by (own := [("entry", 2)]) (N := ["figures", "row", "entry"]) (sc := defScope (top 27)) (by decide +kernel)) (fun _ _ _ _ _ => (pg_name (i := 2) sc_all_are_numbers.nd rfl (by first | exact Or.inl rfl | exact Or.inr rfl))) (fun _ _ _ _ _ => pts_nil) (fun _ _ _ _ _ => (pe_meth (pv 0) fg.cl mI GI hrI bI .nil pass0 (pa_cons (pv 2) pa_nil)))) pa_nil)))), ?_⟩
    rcases hs with hs | hs
    · skip
      refine .inl ⟨_, rfl, a, rfl, ⟨xs, Evl.ex_l s hs⟩, fun D hD => lcP (K := K) walk_list (fun i d => ∃ e, ds[i]? = some e ∧ d = .bool (numD p e)) s hD (by omega) (fun G1 H1 g h _ => Evl.ex_l h (Evl.ex_l g hs)) ?_ ?_⟩
      · rintro i x G1 H1 H2 kn kk hi g1 g2 s1 ⟨rfl, hx⟩ made
        obtain ⟨d, hd, hdx⟩ := dpAll_get ha hx
        obtain ⟨op, dx, z, o, hfa, hz⟩ := fig.same g1
        refine ⟨rfl, yes ?_⟩
        refine ⟨_, rfl, fa, dx, _, rfl, g2 _ _ hfa, fl_no (by decide +kernel) (by decide +kernel) (by decide +kernel), _, rfl, fa, x, d, p, rfl, (fig.same g1).same g2, dp_same (g1.trans g2) _ _ hdx, ?_⟩
        exact made _ _ _ _ ⟨d, hd, rfl⟩ (Mv.refl g2) (Same.refl _) (.bl _)
      · intro es G2 H2 hle hes m2 s2 hd2
        have ee := all_map (f := fun e => .bool (numD p e)) (hle.trans hlen) hes
        have e2 : es = (ds.map (numD p)).map .bool := by rw [ee, List.map_map]; rfl
        rw [e2] at hd2
        obtain ⟨q, zs, e, hz, hzs⟩ := dp_lst hd2
        cases e
        rw [bools_all hzs] at hz
        have e3 : (ds.map (numD p)).all id = ds.all (numD p) := by rw [List.all_map]; rfl
        rw [← e3] at k
        exact ⟨D, _, rfl, Evl.ex_l m2.gh hz, k _ s2⟩
    · skip
      refine .inr ⟨_, rfl, a, rfl, ⟨xs, Evl.ex_t s hs⟩, fun D hD => lcP (K := K) walk_tup (fun i d => ∃ e, ds[i]? = some e ∧ d = .bool (numD p e)) s hD (by omega) (fun G1 H1 g h _ => Evl.ex_t h (Evl.ex_t g hs)) ?_ ?_⟩
      · rintro i x G1 H1 H2 kn kk hi g1 g2 s1 ⟨rfl, hx⟩ made
        obtain ⟨d, hd, hdx⟩ := dpAll_get ha hx
        obtain ⟨op, dx, z, o, hfa, hz⟩ := fig.same g1
        refine ⟨rfl, yes ?_⟩
        refine ⟨_, rfl, fa, dx, _, rfl, g2 _ _ hfa, fl_no (by decide +kernel) (by decide +kernel) (by decide +kernel), _, rfl, fa, x, d, p, rfl, (fig.same g1).same g2, dp_same (g1.trans g2) _ _ hdx, ?_⟩
        exact made _ _ _ _ ⟨d, hd, rfl⟩ (Mv.refl g2) (Same.refl _) (.bl _)
      · intro es G2 H2 hle hes m2 s2 hd2
        have ee := all_map (f := fun e => .bool (numD p e)) (hle.trans hlen) hes
        have e2 : es = (ds.map (numD p)).map .bool := by rw [ee, List.map_map]; rfl
        rw [e2] at hd2
        obtain ⟨q, zs, e, hz, hzs⟩ := dp_lst hd2
        cases e
        rw [bools_all hzs] at hz
        have e3 : (ds.map (numD p)).all id = ds.all (numD p) := by rw [List.all_map]; rfl
        rw [← e3] at k
        exact ⟨D, _, rfl, Evl.ex_l m2.gh hz, k _ s2⟩
theorem sc_check_letters : FnScope ["figures", "numbers", "many", "what", "index", "number"] ["figures", "numbers", "many", "what"] (defScope (top 28)) := ⟨rfl, rfl, rfl, by decide +kernel, rfl, by decide +kernel, by decide +kernel⟩
theorem ok_check_letters (F : FnP K "check_letters" (top 28) [] f fd) (tx : Bn mg) (fg : Fg K C) {fI : Addr} {fdI : FuncData} (GI : FnOk P w K mg base CX0 3 fI fdI ["self", "thing"] (spIsNum K C)) (mI : Meth K C "is_number" fI) (bI : L2.Binds K fdI ["self", "thing"] []) {fS : Addr} {fdS : FuncData} (GS : FnOk P w K mg base CX0 1 fS fdS ["thing"] (spSeq K)) (mS : mg "is_sequence" = some (.ref fS)) (kpS : PySem.W.keepIn K (.ref fS) = true) (bS : L2.Binds K fdS ["thing"] []) (eL : Ei2 P w K mg base gP "BadLetters" "what" "index" cL) : FnOk P w K mg base (L2.CX P w) 4 f fd ["figures", "numbers", "many", "what"] (spLetters K C cL) := by
  obtain ⟨eLfI, eLfd, eLiC, eLtI, eLG, eLb⟩ := eL.ini
  refine F.ok sc_check_letters (fun vs H Q E h => ?_) (fun cdv A outer s H vs Q E hr h => ?_)
  · obtain ⟨G, fa, x, d, p, m, w, rfl, _⟩ := h; rfl
  · obtain ⟨G, fa, x, d0, p, m, w, rfl, sGH, fig, hd, hm, hds, kE, kQ⟩ := h
    have hrI : Room 3 _ := hr
    have hrS : Room 1 _ := hr.mono (by decide)
    have hr2 : Room 2 _ := hr.mono (by decide)
    refine ⟨_, (pss_cons (ps_if (pt_not (pt_val (pe_call GS hrS (by rfl) mS kpS bS .nil pass0 (pa_cons (pv 1) pa_nil)))) (pss_one (ps_raise rfl (takes_of rfl rfl rfl rfl) (pmk_oex eL.er.ox eLiC eLtI eLG hr2 eLb .nil pass0 (by rfl) eL.m (pa_cons (pv 3) (pa_cons pe_int pa_nil))))) pss_nil)
      (pss_cons (ps_for (passes_of rfl) rfl (pi_enumA (by rfl) tx.enumerate (pa_cons (pe_slice (SlR.or sl_list sl_tupA) (pv 1) po_none (po_some (pv 2))) pa_nil)) (pg_tup rfl (pgs_cons (pg_name (i := 4) sc_check_letters.nd rfl (Or.inl rfl)) (pgs_cons (pg_name (i := 5) sc_check_letters.nd rfl (Or.inl rfl)) pgs_nil))) (pss_one (ps_if (pt_not (pt_val (pe_meth (pv 0) fg.cl mI GI hrI bI .nil pass0 (pa_cons (pv 5) pa_nil)))) (pss_one (ps_raise rfl (takes_of rfl rfl rfl rfl) (pmk_oex eL.er.ox eLiC eLtI eLG hr2 eLb .nil pass0 (by rfl) eL.m (pa_cons (pv 3) (pa_cons (pv 4) pa_nil))))) pss_nil)))
      (pss_cons (ps_if (pt_cmpR op_ne (pe_callB call_len_seq (by rfl) tx.len PySem.boot_len (pa_cons (pv 1) pa_nil)) (pv 2) (by rfl)) (pss_one (ps_raise rfl (takes_of rfl rfl rfl rfl) (pmk_oex eL.er.ox eLiC eLtI eLG hr2 eLb .nil pass0 (by rfl) eL.m (pa_cons (pv 3) (pa_cons (pe_callB (call_min2 rfl) (by rfl) tx.min (by decide +kernel) (pa_cons (pe_callB call_len_seq (by rfl) tx.len PySem.boot_len (pa_cons (pv 1) pa_nil)) (pa_cons (pv 2) pa_nil))) pa_nil))))) pss_nil)
      (pss_one (ps_ret (pe_callTy call_tuple_of (by rfl) tx.tuple PyProof.Rows.boot_tuple (pa_cons (pv 1) pa_nil))))))), ?_⟩
    refine ⟨_, rfl, x, d0, rfl, dp_same sGH _ _ hd, fun H1 s1 => ?_⟩
    rw [seq_is hd]
    cases eq : seqOf d0 with
    | none =>
      refine ⟨_, rfl, ifT rfl ?_⟩
      exact ⟨_, rfl, rd_mk2 fun dd H' s e => kE 0 (by unfold lettersDue; rw [eq]) dd H' (s1.trans s) e⟩
    | some ds =>
      have hq := seq_sq eq
      obtain ⟨a, xs, rfl, hs, ha⟩ := sq_dp hq hd
      have hlen := dpAll_len ha
      have hdl := hds ds eq
      have hdue : lettersDue p d0 m = match badN p (ds.take m) 0 with
        | some i => some i
        | none => if ds.length = m then none else some (min ds.length m) := by
        unfold lettersDue
        rw [eq]
      have hat := dpAll_take m ha
      have hG1 := sGH.trans s1
      refine ⟨_, rfl, ifF rfl ?_⟩
      rcases hs with hs | hs
      · refine ⟨_, rfl, _, rfl, (m : Int), rfl, .inl ⟨a, xs, rfl, Evl.ex_l hG1 hs, fun b hbn => ?_⟩⟩
        rw [cut_take]
        have sG : Same G (upd H1 b (.lst (xs.take m))) := hG1.trans (same_new hbn)
        have sH : Same H (upd H1 b (.lst (xs.take m))) := s1.trans (same_new hbn)
        have hb : SqL K (upd H1 b (.lst (xs.take m))) b (xs.take m) := SqL.of upd_same
        refine ⟨b, xs.take m, rfl, .inl ⟨hb, ?_⟩⟩
        generalize upd H1 b (.lst (xs.take m)) = H0 at sG sH hb
        refine for_it walk_enum (fun i σ H2 => (∃ u v, σ = [some (.ref fa), some (.ref a), some (.int m), some (.str w), u, v]) ∧ Same H0 H2 ∧ badN p (ds.take m) 0 = badN p ((ds.take m).drop i) i) ⟨⟨none, none, rfl⟩, Same.refl _, by rw [List.drop_zero]⟩ (fun i σ H2 _ ⟨_, s2, _⟩ => Evl.ex_l s2 hb) ?_ ?_
        · rintro i x2 σ H2 H3 hi ⟨⟨u, v, rfl⟩, s2, hbad⟩ ⟨T, xi, y, rfl, hT, rfl, hxi, hy⟩
          have exi : V.int (i : Nat) = xi := Option.some.inj hxi
          subst exi
          obtain ⟨d, hd, hdx⟩ := dpAll_get hat hy
          have s3 : Same H0 (upd H2 T (.tup [.int (i : Nat), y])) := s2.trans (same_new hT)
          have s4 := sG.trans s3
          obtain ⟨op, dx, z, o, hfa, hz⟩ := fig.same s4
          refine ⟨T, [.int (i : Nat), y], rfl, SqT.of upd_same, rfl, .int (i : Nat), [y], rfl, y, [], rfl, rfl, ?_⟩
          refine ⟨_, rfl, fa, dx, _, rfl, hfa, fl_no (by decide +kernel) (by decide +kernel) (by decide +kernel), _, rfl, fa, y, d, p, rfl, fig.same s4, dp_same s4 _ _ hdx, _, rfl, ?_⟩
          rw [drop_cons hd] at hbad
          have hbad2 : badN p (ds.take m) 0 = if numD p d then badN p ((ds.take m).drop (i + 1)) (i + 1) else some i := hbad
          by_cases hn : numD p d = true
          · refine ifF (by rw [hn]; rfl) ⟨⟨_, _, rfl⟩, s3, ?_⟩
            rw [hbad2, if_pos hn]
          · refine ifT (by rw [not_true hn]; rfl) ?_
            refine ⟨_, rfl, _, rfl, rd_mk2 fun dd H' s5 e => kE i ?_ dd H' ((sH.trans s3).trans s5) e⟩
            rw [hdue, hbad2, if_neg hn]
        · rintro σ H2 ⟨⟨u, v, rfl⟩, s2, hbad⟩
          have hbn : badN p (ds.take m) 0 = none := by
            rw [hbad, List.drop_of_length_le (Nat.le_of_eq (dpAll_len hat).symm)]
            rfl
          have s4 := sG.trans s2
          rw [hbn] at hdue
          refine ⟨_, rfl, a, xs, rfl, .inl (Evl.ex_l s4 hs), _, rfl, rfl, _, rfl, ?_⟩
          rw [hlen]
          by_cases hm2 : ds.length = m
          · refine ifF (by rw [hm2, decide_eq_true rfl]; rfl) ?_
            have hdue2 : lettersDue p d0 m = none := by rw [hdue]; exact if_pos hm2
            exact ⟨_, rfl, a, xs, rfl, .inl ⟨Evl.ex_l s4 hs, fun l hl => kQ ds hdue2 eq _ _ _ ((Mv.of sGH (sH.trans s2)).trans (Mv.new (o := .tup xs) s4 hl)) ((sH.trans s2).trans (same_new hl)) (.tup (SqT.of upd_same) (dp_sameAll (Mv.new (o := .tup xs) s4 hl).gg _ _ ha))⟩⟩
          · refine ifT (by rw [decide_eq_false fun z => hm2 (by have := V.int.inj z; omega)]; rfl) ?_
            have hdue2 : lettersDue p d0 m = some (min ds.length m) := by rw [hdue]; exact if_neg hm2
            refine ⟨_, rfl, _, rfl, a, xs, rfl, .inl (Evl.ex_l s4 hs), _, rfl, _, _, rfl, rd_mk2 fun dd H' s5 e => kE _ hdue2 dd H' ((sH.trans s2).trans s5) ?_⟩
            rw [hlen] at e
            have em : (if (m : Int) < (ds.length : Int) then (m : Int) else (ds.length : Int)) = ((min ds.length m : Nat) : Int) := by split <;> omega
            rw [em] at e
            exact e
      · refine ⟨_, rfl, _, rfl, (m : Int), rfl, .inr ⟨a, xs, rfl, Evl.ex_t hG1 hs, fun hfull => ?_, fun hnf b hbn => ?_⟩⟩
        · have sG := hG1
          have sH := s1
          have et : xs.take m = xs := by
            have h2 := hfull.2
            rw [HT.sIx_nat] at h2
            exact List.take_of_length_le (by omega)
          have hb : SqT K H1 a (xs.take m) := by rw [et]; exact Evl.ex_t hG1 hs
          refine ⟨a, xs.take m, rfl, .inr ⟨hb, ?_⟩⟩
          generalize H1 = H0 at sG sH hb
          refine for_it walk_enumT (fun i σ H2 => (∃ u v, σ = [some (.ref fa), some (.ref a), some (.int m), some (.str w), u, v]) ∧ Same H0 H2 ∧ badN p (ds.take m) 0 = badN p ((ds.take m).drop i) i) ⟨⟨none, none, rfl⟩, Same.refl _, by rw [List.drop_zero]⟩ (fun i σ H2 _ ⟨_, s2, _⟩ => Evl.ex_t s2 hb) ?_ ?_
          · rintro i x2 σ H2 H3 hi ⟨⟨u, v, rfl⟩, s2, hbad⟩ ⟨T, xi, y, rfl, hT, rfl, hxi, hy⟩
            have exi : V.int (i : Nat) = xi := Option.some.inj hxi
            subst exi
            obtain ⟨d, hd, hdx⟩ := dpAll_get hat hy
            have s3 : Same H0 (upd H2 T (.tup [.int (i : Nat), y])) := s2.trans (same_new hT)
            have s4 := sG.trans s3
            obtain ⟨op, dx, z, o, hfa, hz⟩ := fig.same s4
            refine ⟨T, [.int (i : Nat), y], rfl, SqT.of upd_same, rfl, .int (i : Nat), [y], rfl, y, [], rfl, rfl, ?_⟩
            refine ⟨_, rfl, fa, dx, _, rfl, hfa, fl_no (by decide +kernel) (by decide +kernel) (by decide +kernel), _, rfl, fa, y, d, p, rfl, fig.same s4, dp_same s4 _ _ hdx, _, rfl, ?_⟩
            rw [drop_cons hd] at hbad
            have hbad2 : badN p (ds.take m) 0 = if numD p d then badN p ((ds.take m).drop (i + 1)) (i + 1) else some i := hbad
            by_cases hn : numD p d = true
            · refine ifF (by rw [hn]; rfl) ⟨⟨_, _, rfl⟩, s3, ?_⟩
              rw [hbad2, if_pos hn]
            · refine ifT (by rw [not_true hn]; rfl) ?_
              refine ⟨_, rfl, _, rfl, rd_mk2 fun dd H' s5 e => kE i ?_ dd H' ((sH.trans s3).trans s5) e⟩
              rw [hdue, hbad2, if_neg hn]
          · rintro σ H2 ⟨⟨u, v, rfl⟩, s2, hbad⟩
            have hbn : badN p (ds.take m) 0 = none := by
              rw [hbad, List.drop_of_length_le (Nat.le_of_eq (dpAll_len hat).symm)]
              rfl
            have s4 := sG.trans s2
            rw [hbn] at hdue
            refine ⟨_, rfl, a, xs, rfl, .inr (Evl.ex_t s4 hs), _, rfl, rfl, _, rfl, ?_⟩
            rw [hlen]
            by_cases hm2 : ds.length = m
            · refine ifF (by rw [hm2, decide_eq_true rfl]; rfl) ?_
              have hdue2 : lettersDue p d0 m = none := by rw [hdue]; exact if_pos hm2
              exact ⟨_, rfl, a, xs, rfl, .inr ⟨Evl.ex_t s4 hs, kQ ds hdue2 eq _ _ _ (Mv.of sGH (sH.trans s2)) (sH.trans s2) (.tup hs ha)⟩⟩
            · refine ifT (by rw [decide_eq_false fun z => hm2 (by have := V.int.inj z; omega)]; rfl) ?_
              have hdue2 : lettersDue p d0 m = some (min ds.length m) := by rw [hdue]; exact if_neg hm2
              refine ⟨_, rfl, _, rfl, a, xs, rfl, .inr (Evl.ex_t s4 hs), _, rfl, _, _, rfl, rd_mk2 fun dd H' s5 e => kE _ hdue2 dd H' ((sH.trans s2).trans s5) ?_⟩
              rw [hlen] at e
              have em : (if (m : Int) < (ds.length : Int) then (m : Int) else (ds.length : Int)) = ((min ds.length m : Nat) : Int) := by split <;> omega
              rw [em] at e
              exact e
        · rw [cut_take]
          have sG : Same G (upd H1 b (.tup (xs.take m))) := hG1.trans (same_new hbn)
          have sH : Same H (upd H1 b (.tup (xs.take m))) := s1.trans (same_new hbn)
          have hb : SqT K (upd H1 b (.tup (xs.take m))) b (xs.take m) := SqT.of upd_same
          refine ⟨b, xs.take m, rfl, .inr ⟨hb, ?_⟩⟩
          generalize upd H1 b (.tup (xs.take m)) = H0 at sG sH hb
          refine for_it walk_enumT (fun i σ H2 => (∃ u v, σ = [some (.ref fa), some (.ref a), some (.int m), some (.str w), u, v]) ∧ Same H0 H2 ∧ badN p (ds.take m) 0 = badN p ((ds.take m).drop i) i) ⟨⟨none, none, rfl⟩, Same.refl _, by rw [List.drop_zero]⟩ (fun i σ H2 _ ⟨_, s2, _⟩ => Evl.ex_t s2 hb) ?_ ?_
          · rintro i x2 σ H2 H3 hi ⟨⟨u, v, rfl⟩, s2, hbad⟩ ⟨T, xi, y, rfl, hT, rfl, hxi, hy⟩
            have exi : V.int (i : Nat) = xi := Option.some.inj hxi
            subst exi
            obtain ⟨d, hd, hdx⟩ := dpAll_get hat hy
            have s3 : Same H0 (upd H2 T (.tup [.int (i : Nat), y])) := s2.trans (same_new hT)
            have s4 := sG.trans s3
            obtain ⟨op, dx, z, o, hfa, hz⟩ := fig.same s4
            refine ⟨T, [.int (i : Nat), y], rfl, SqT.of upd_same, rfl, .int (i : Nat), [y], rfl, y, [], rfl, rfl, ?_⟩
            refine ⟨_, rfl, fa, dx, _, rfl, hfa, fl_no (by decide +kernel) (by decide +kernel) (by decide +kernel), _, rfl, fa, y, d, p, rfl, fig.same s4, dp_same s4 _ _ hdx, _, rfl, ?_⟩
            rw [drop_cons hd] at hbad
            have hbad2 : badN p (ds.take m) 0 = if numD p d then badN p ((ds.take m).drop (i + 1)) (i + 1) else some i := hbad
            by_cases hn : numD p d = true
            · refine ifF (by rw [hn]; rfl) ⟨⟨_, _, rfl⟩, s3, ?_⟩
              rw [hbad2, if_pos hn]
            · refine ifT (by rw [not_true hn]; rfl) ?_
              refine ⟨_, rfl, _, rfl, rd_mk2 fun dd H' s5 e => kE i ?_ dd H' ((sH.trans s3).trans s5) e⟩
              rw [hdue, hbad2, if_neg hn]
          · rintro σ H2 ⟨⟨u, v, rfl⟩, s2, hbad⟩
            have hbn : badN p (ds.take m) 0 = none := by
              rw [hbad, List.drop_of_length_le (Nat.le_of_eq (dpAll_len hat).symm)]
              rfl
            have s4 := sG.trans s2
            rw [hbn] at hdue
            refine ⟨_, rfl, a, xs, rfl, .inr (Evl.ex_t s4 hs), _, rfl, rfl, _, rfl, ?_⟩
            rw [hlen]
            by_cases hm2 : ds.length = m
            · refine ifF (by rw [hm2, decide_eq_true rfl]; rfl) ?_
              have hdue2 : lettersDue p d0 m = none := by rw [hdue]; exact if_pos hm2
              exact ⟨_, rfl, a, xs, rfl, .inr ⟨Evl.ex_t s4 hs, kQ ds hdue2 eq _ _ _ (Mv.of sGH (sH.trans s2)) (sH.trans s2) (.tup hs ha)⟩⟩
            · refine ifT (by rw [decide_eq_false fun z => hm2 (by have := V.int.inj z; omega)]; rfl) ?_
              have hdue2 : lettersDue p d0 m = some (min ds.length m) := by rw [hdue]; exact if_neg hm2
              refine ⟨_, rfl, _, rfl, a, xs, rfl, .inr (Evl.ex_t s4 hs), _, rfl, _, _, rfl, rd_mk2 fun dd H' s5 e => kE _ hdue2 dd H' ((sH.trans s2).trans s5) ?_⟩
              rw [hlen] at e
              have em : (if (m : Int) < (ds.length : Int) then (m : Int) else (ds.length : Int)) = ((min ds.length m : Nat) : Int) := by split <;> omega
              rw [em] at e
              exact e
theorem sc_check_width : FnScope ["figures", "rows", "columns"] ["figures", "rows", "columns"] (defScope (top 30)) := ⟨rfl, rfl, rfl, by decide +kernel, rfl, by decide +kernel, by decide +kernel⟩
theorem ok_check_width (F : FnP K "check_width" (top 30) [] f fd) (tx : Bn mg) (fg : Fg K C) (eP : Ei P w K mg base gP "BadPair" "what" cP) : FnOk P w K mg base (L2.CX P w) 3 f fd ["figures", "rows", "columns"] (spWidth C cP) := by
  obtain ⟨ePfI, ePfd, ePiC, ePtI, ePG, ePb⟩ := eP.ini
  refine F.ok sc_check_width (fun vs H Q E h => ?_) (fun cdv A outer s H vs Q E hr h => ?_)
  · obtain ⟨fa, p, r, c, rfl, _⟩ := h; rfl
  · obtain ⟨fa, p, r, c, rfl, ⟨op, dx, z, o, ha, hz⟩, kE, kQ⟩ := h
    have hrX : Room 2 _ := hr
    refine ⟨_, (pss_one (ps_if (PW.pt (pw_and (pt_cmpR op_ne (pe_fld (pv 0) rfl) pe_int (by rfl)) (pw_and1 (pt_cmpR op_gt (pe_callB (call_max2 rfl) (by rfl) tx.max (by decide +kernel) (pa_cons (pv 1) (pa_cons (pv 2) pa_nil))) (pe_fld (pv 0) rfl) (by rfl))))) (pss_one (ps_raise rfl (takes_of rfl rfl rfl rfl) (pmk_oex eP.er.ox ePiC ePtI ePG hrX ePb .nil pass0 (by rfl) eP.m (pa_cons pe_str pa_nil)))) pss_nil)), ?_⟩
    refine ⟨_, rfl, fa, C, dx, _, _, rfl, ha, fg.cl, fg.nP, fl_prime, rfl, _, rfl, ?_⟩
    by_cases hp : p = 0
    · subst hp
      exact ifF nbF (kQ (by unfold wideI; rw [decide_eq_false fun z => z rfl]; rfl))
    · refine ifT (nbT hp) ⟨_, rfl, _, rfl, _, _, rfl, _, rfl, fa, C, dx, _, _, rfl, ha, fg.cl, fg.nP, fl_prime, _, _, rfl, rfl, _, rfl, ?_⟩
      have e : wideI p r c = decide ((if c > r then c else r) > p) := by
        unfold wideI
        rw [decide_eq_true hp, Bool.true_and]
      by_cases h : (if c > r then c else r) > p
      · exact ifT (decide_eq_true h) (rd_mk1 fun dd H' s e2 => kE (by rw [e]; exact decide_eq_true h) dd H' s e2)
      · exact ifF (decide_eq_false h) (kQ (by rw [e]; exact decide_eq_false h))
theorem sc_check_sizes : FnScope ["figures", "rows", "columns"] ["figures", "rows", "columns"] (defScope (top 31)) := ⟨rfl, rfl, rfl, by decide +kernel, rfl, by decide +kernel, by decide +kernel⟩
theorem ok_check_sizes (F : FnP K "check_sizes" (top 31) [] f fd) (tx : Bn mg) (mM : mg "MOST_ROWS" = some (.int 5 t5)) (eP : Ei P w K mg base gP "BadPair" "what" cP) {fW : Addr} {fdW : FuncData} (GW : FnOk P w K mg base CX0 1 fW fdW ["thing", "low", "high"] (spWhole K)) (mW : mg "is_whole" = some (.ref fW)) (kpW : PySem.W.keepIn K (.ref fW) = true) (bW : L2.Binds K fdW ["thing", "low", "high"] []) {fD : Addr} {fdD : FuncData} (GD : FnOk P w K mg base (L2.CX P w) 3 fD fdD ["figures", "rows", "columns"] (spWidth C cP)) (mD : mg "check_width" = some (.ref fD)) (kpD : PySem.W.keepIn K (.ref fD) = true) (bD : L2.Binds K fdD ["figures", "rows", "columns"] []) : FnOk P w K mg base (L2.CX P w) 4 f fd ["figures", "rows", "columns"] (spSizes K C cP) := by
  obtain ⟨ePfI, ePfd, ePiC, ePtI, ePG, ePb⟩ := eP.ini
  refine F.ok sc_check_sizes (fun vs H Q E h => ?_) (fun cdv A outer s H vs Q E hr h => ?_)
  · obtain ⟨fa, p, x, y, r, c, rfl, _⟩ := h; rfl
  · obtain ⟨fa, p, x, y, r, c, rfl, fig, hx, hy, kE, kQ⟩ := h
    have hrX : Room 2 _ := hr.mono (by decide)
    have hrW : Room 1 _ := hr.mono (by decide)
    have hrD : Room 3 _ := hr
    refine ⟨_, (pss_cons (ps_if (PW.pt (pw_or (pt_not (pt_val (pe_call GW hrW (by rfl) mW kpW bW .nil pass0 (pa_cons (pv 1) (pa_cons pe_int (pa_cons (pe_glob (v := .int 5) (by rfl) mM ⟨_, rfl⟩) pa_nil)))))) (pw_or1 (pt_not (pt_val (pe_call GW hrW (by rfl) mW kpW bW .nil pass0 (pa_cons (pv 2) (pa_cons pe_int (pa_cons (pe_glob (v := .int 5) (by rfl) mM ⟨_, rfl⟩) pa_nil))))))))) (pss_one (ps_raise rfl (takes_of rfl rfl rfl rfl) (pmk_oex eP.er.ox ePiC ePtI ePG hrX ePb .nil pass0 (by rfl) eP.m (pa_cons pe_str pa_nil)))) pss_nil)
      (pss_one (ps_expr (pe_call GD hrD (by rfl) mD kpD bD .nil (passes_call (takes_of rfl rfl rfl rfl) (fun _ _ _ _ h => h)) (pa_cons (pv 0) (pa_cons (pv 1) (pa_cons (pv 2) pa_nil))))))), ?_⟩
    refine ⟨_, rfl, x, .int 1, .int 5, r, some 1, some 5, rfl, hx, rfl, rfl, _, rfl, ?_⟩
    by_cases h1 : wholeD r (some 1) (some 5) = true
    · refine ifF (by rw [h1]; rfl) ⟨_, rfl, y, .int 1, .int 5, c, some 1, some 5, rfl, hy, rfl, rfl, _, rfl, ?_⟩
      by_cases h2 : wholeD c (some 1) (some 5) = true
      · refine ifF (by rw [h2]; rfl) ?_
        cases r with
        | int i =>
          cases c with
          | int j =>
            obtain rfl := dp_int hx
            obtain rfl := dp_int hy
            have e : sizeDue p (.int i) (.int j) = if wideI p i j then some ("wide" : Str) else none := by
              unfold sizeDue
              rw [h1, h2]
              rfl
            refine ⟨_, rfl, _, rfl, _, rfl, fa, p, i, j, rfl, fig, fun hw dd H' s e2 => kE _ (by rw [e, if_pos hw]) dd H' s e2, fun hw => kQ (by rw [e, hw]; rfl)⟩
          | _ => cases h2
        | _ => cases h1
      · refine ifT (by rw [not_true h2]; rfl) ?_
        exact rd_mk1 fun dd H' s e => kE _ (by unfold sizeDue; rw [not_true h2, Bool.and_false]; rfl) dd H' s e
    · refine ifT (by rw [not_true h1]; rfl) ?_
      exact rd_mk1 fun dd H' s e => kE _ (by unfold sizeDue; rw [not_true h1, Bool.false_and]; rfl) dd H' s e
theorem sc_check_kept : FnScope ["places", "many", "what", "low", "index", "place"] ["places", "many", "what"] (defScope (top 32)) := ⟨rfl, rfl, rfl, by decide +kernel, rfl, by decide +kernel, by decide +kernel⟩
theorem ok_check_kept (F : FnP K "check_kept" (top 32) [] f fd) (tx : Bn mg) {fW : Addr} {fdW : FuncData} (GW : FnOk P w K mg base CX0 1 fW fdW ["thing", "low", "high"] (spWhole K)) (mW : mg "is_whole" = some (.ref fW)) (kpW : PySem.W.keepIn K (.ref fW) = true) (bW : L2.Binds K fdW ["thing", "low", "high"] []) {fS : Addr} {fdS : FuncData} (GS : FnOk P w K mg base CX0 1 fS fdS ["thing"] (spSeq K)) (mS : mg "is_sequence" = some (.ref fS)) (kpS : PySem.W.keepIn K (.ref fS) = true) (bS : L2.Binds K fdS ["thing"] []) (eK : Ei2 P w K mg base gP "BadKept" "what" "index" cK) : FnOk P w K mg base (L2.CX P w) 3 f fd ["places", "many", "what"] (spKept K cK) := by
  obtain ⟨eKfI, eKfd, eKiC, eKtI, eKG, eKb⟩ := eK.ini
  refine F.ok sc_check_kept (fun vs H Q E h => ?_) (fun cdv A outer s H vs Q E hr h => ?_)
  · obtain ⟨G, x, d, m, w, rfl, _⟩ := h; rfl
  · obtain ⟨G, x, d0, m, w, rfl, sGH, hd, hds, kE, kQ⟩ := h
    have hrW : Room 1 _ := hr.mono (by decide)
    have hrS : Room 1 _ := hr.mono (by decide)
    have hrX : Room 2 _ := hr
    refine ⟨_, (pss_cons (ps_if (PW.pt (pw_or (pt_not (pt_val (pe_call GS hrS (by rfl) mS kpS bS .nil pass0 (pa_cons (pv 0) pa_nil)))) (pw_or1 (pt_cmpR op_eq (pe_callB call_len_seq (by rfl) tx.len PySem.boot_len (pa_cons (pv 0) pa_nil)) pe_int (by rfl))))) (pss_one (ps_raise rfl (takes_of rfl rfl rfl rfl) (pmk_oex eK.er.ox eKiC eKtI eKG hrX eKb .nil pass0 (by rfl) eK.m (pa_cons (pv 2) (pa_cons pe_int pa_nil))))) pss_nil)
      (pss_cons (ps_set (i := 3) sc_check_kept.nd rfl (Or.inl rfl) pe_int)
      (pss_cons (ps_for (passes_of rfl) rfl (pi_enumA (by rfl) tx.enumerate (pa_cons (pv 0) pa_nil)) (pg_tup rfl (pgs_cons (pg_name (i := 4) sc_check_kept.nd rfl (Or.inl rfl)) (pgs_cons (pg_name (i := 5) sc_check_kept.nd rfl (Or.inl rfl)) pgs_nil))) (pss_cons (ps_if (pt_not (pt_val (pe_call GW hrW (by rfl) mW kpW bW .nil pass0 (pa_cons (pv 5) (pa_cons (pv 3) (pa_cons (pe_op op_sub (pv 1) pe_int) pa_nil)))))) (pss_one (ps_raise rfl (takes_of rfl rfl rfl rfl) (pmk_oex eK.er.ox eKiC eKtI eKG hrX eKb .nil pass0 (by rfl) eK.m (pa_cons (pv 2) (pa_cons (pv 4) pa_nil))))) pss_nil)
      (pss_one (ps_set (i := 3) sc_check_kept.nd rfl (Or.inl rfl) (pe_op op_add (pv 5) pe_int)))))
      (pss_one (ps_ret (pe_callTy call_tuple_of (by rfl) tx.tuple PyProof.Rows.boot_tuple (pa_cons (pv 0) pa_nil))))))), ?_⟩
    refine ⟨_, rfl, x, d0, rfl, dp_same sGH _ _ hd, fun H1 s1 => ?_⟩
    rw [seq_is hd]
    cases eq : seqOf d0 with
    | none =>
      refine ⟨_, rfl, ifT rfl ?_⟩
      exact ⟨_, rfl, rd_mk2 fun dd H' s e => kE 0 (by unfold keptDue; rw [eq]) dd H' (s1.trans s) e⟩
    | some ds =>
      have hq := seq_sq eq
      obtain ⟨a, xs, rfl, hs, ha⟩ := sq_dp hq hd
      have hlen := dpAll_len ha
      have hdl := hds ds eq
      have hG1 := sGH.trans s1
      refine ⟨_, rfl, ifF rfl ?_⟩
      refine ⟨_, rfl, a, xs, rfl, hs.elim (fun h => .inl (Evl.ex_l hG1 h)) (fun h => .inr (Evl.ex_t hG1 h)), rfl, _, rfl, ?_⟩
      by_cases h0 : ds = []
      · refine ifT (decide_eq_true (by rw [hlen, h0]; rfl)) ?_
        exact ⟨_, rfl, rd_mk2 fun dd H' s e => kE 0 (by unfold keptDue; rw [eq, h0]) dd H' (s1.trans s) e⟩
      · have hdue : keptDue m d0 = keptBad m ds 0 0 := by
          unfold keptDue
          rw [eq]
          cases ds with
          | nil => exact absurd rfl h0
          | cons _ _ => rfl
        have l0 : ds.length ≠ 0 := fun z => h0 (List.length_eq_zero_iff.mp z)
        refine ifF (decide_eq_false fun z => l0 (by have := V.int.inj z; omega)) ?_
        rcases hs with hs | hs
        · refine ⟨_, rfl, a, xs, rfl, .inl ⟨Evl.ex_l hG1 hs, ?_⟩⟩
          refine for_it walk_enum (fun i σ H2 => (∃ (low : Int) (u v : Option V), σ = [some (.ref a), some (.int m), some (.str w), some (.int low), u, v] ∧ keptBad m ds 0 0 = keptBad m (ds.drop i) low i) ∧ Same H1 H2) ⟨⟨0, none, none, rfl, by rw [List.drop_zero]⟩, Same.refl _⟩ (fun i σ H2 _ ⟨_, s2⟩ => Evl.ex_l (hG1.trans s2) hs) ?_ ?_
          · rintro i x2 σ H2 H3 hi ⟨⟨low, u, v, rfl, hbad⟩, s2⟩ ⟨T, xi, y, rfl, hT, rfl, hxi, hy⟩
            have exi : V.int (i : Nat) = xi := Option.some.inj hxi
            subst exi
            obtain ⟨d, hd, hdx⟩ := dpAll_get ha hy
            have s3 : Same H1 (upd H2 T (.tup [.int (i : Nat), y])) := s2.trans (same_new hT)
            have s4 := hG1.trans s3
            refine ⟨T, [.int (i : Nat), y], rfl, SqT.of upd_same, rfl, .int (i : Nat), [y], rfl, y, [], rfl, rfl, ?_⟩
            refine ⟨_, rfl, _, rfl, _, rfl, _, _, rfl, rfl, y, .int low, .int (m - 1), d, some low, some (m - 1), rfl, dp_same s4 _ _ hdx, rfl, rfl, _, rfl, ?_⟩
            rw [drop_cons hd] at hbad
            have hbad2 : keptBad m ds 0 0 = if wholeD d (some low) (some (m - 1)) then keptBad m (ds.drop (i + 1)) (intOf d + 1) (i + 1) else some i := hbad
            by_cases hn : wholeD d (some low) (some (m - 1)) = true
            · refine ifF (by rw [hn]; rfl) ?_
              rw [if_pos hn] at hbad2
              cases d with
              | int j =>
                obtain rfl := dp_int hdx
                exact ⟨_, rfl, _, _, rfl, rfl, ⟨j + 1, _, _, rfl, hbad2⟩, s3⟩
              | _ => cases hn
            · refine ifT (by rw [not_true hn]; rfl) ?_
              refine ⟨_, rfl, _, rfl, rd_mk2 fun dd H' s5 e => kE i ?_ dd H' ((s1.trans s3).trans s5) e⟩
              rw [hdue, hbad2, if_neg hn]
          · rintro σ H2 ⟨⟨low, u, v, rfl, hbad⟩, s2⟩
            have hbn : keptBad m ds 0 0 = none := by
              rw [hbad, List.drop_of_length_le (Nat.le_of_eq hlen.symm)]
              rfl
            have s4 := hG1.trans s2
            rw [hbn] at hdue
            exact ⟨_, rfl, a, xs, rfl, .inl ⟨Evl.ex_l s4 hs, fun l hl => kQ ds hdue eq _ _ _ ((Mv.of sGH (s1.trans s2)).trans (Mv.new (o := .tup xs) s4 hl)) ((s1.trans s2).trans (same_new hl)) (.tup (SqT.of upd_same) (dp_sameAll (Mv.new (o := .tup xs) s4 hl).gg _ _ ha))⟩⟩
        · refine ⟨_, rfl, a, xs, rfl, .inr ⟨Evl.ex_t hG1 hs, ?_⟩⟩
          refine for_it walk_enumT (fun i σ H2 => (∃ (low : Int) (u v : Option V), σ = [some (.ref a), some (.int m), some (.str w), some (.int low), u, v] ∧ keptBad m ds 0 0 = keptBad m (ds.drop i) low i) ∧ Same H1 H2) ⟨⟨0, none, none, rfl, by rw [List.drop_zero]⟩, Same.refl _⟩ (fun i σ H2 _ ⟨_, s2⟩ => Evl.ex_t (hG1.trans s2) hs) ?_ ?_
          · rintro i x2 σ H2 H3 hi ⟨⟨low, u, v, rfl, hbad⟩, s2⟩ ⟨T, xi, y, rfl, hT, rfl, hxi, hy⟩
            have exi : V.int (i : Nat) = xi := Option.some.inj hxi
            subst exi
            obtain ⟨d, hd, hdx⟩ := dpAll_get ha hy
            have s3 : Same H1 (upd H2 T (.tup [.int (i : Nat), y])) := s2.trans (same_new hT)
            have s4 := hG1.trans s3
            refine ⟨T, [.int (i : Nat), y], rfl, SqT.of upd_same, rfl, .int (i : Nat), [y], rfl, y, [], rfl, rfl, ?_⟩
            refine ⟨_, rfl, _, rfl, _, rfl, _, _, rfl, rfl, y, .int low, .int (m - 1), d, some low, some (m - 1), rfl, dp_same s4 _ _ hdx, rfl, rfl, _, rfl, ?_⟩
            rw [drop_cons hd] at hbad
            have hbad2 : keptBad m ds 0 0 = if wholeD d (some low) (some (m - 1)) then keptBad m (ds.drop (i + 1)) (intOf d + 1) (i + 1) else some i := hbad
            by_cases hn : wholeD d (some low) (some (m - 1)) = true
            · refine ifF (by rw [hn]; rfl) ?_
              rw [if_pos hn] at hbad2
              cases d with
              | int j =>
                obtain rfl := dp_int hdx
                exact ⟨_, rfl, _, _, rfl, rfl, ⟨j + 1, _, _, rfl, hbad2⟩, s3⟩
              | _ => cases hn
            · refine ifT (by rw [not_true hn]; rfl) ?_
              refine ⟨_, rfl, _, rfl, rd_mk2 fun dd H' s5 e => kE i ?_ dd H' ((s1.trans s3).trans s5) e⟩
              rw [hdue, hbad2, if_neg hn]
          · rintro σ H2 ⟨⟨low, u, v, rfl, hbad⟩, s2⟩
            have hbn : keptBad m ds 0 0 = none := by
              rw [hbad, List.drop_of_length_le (Nat.le_of_eq hlen.symm)]
              rfl
            have s4 := hG1.trans s2
            rw [hbn] at hdue
            exact ⟨_, rfl, a, xs, rfl, .inr ⟨Evl.ex_t s4 hs, kQ ds hdue eq _ _ _ (Mv.of sGH (s1.trans s2)) (s1.trans s2) (.tup hs ha)⟩⟩
end
end Vb
set_option exponentiation.threshold 20000

namespace Vc
open PySem PySem.Spec PyProof.Rows L2 Dz Ra Mt Kx Ky Re Rb Rc Rd Gn Dn Do Vz Vp Va Vb
def rowsDue (p : Int) : List PyData → Nat → Option Nat → Option (Nat × Str)
  | [], _, _ => none
  | d :: ds, i, due => match seqOf d with
    | none => some (i, "columns")
    | some es => if fits es.length due then (if es.all (numD p) then rowsDue p ds (i + 1) (some es.length) else some (i, "number")) else some (i, "columns")
def tableDue (p : Int) (d : PyData) (ro co : Option Nat) : Option (Nat × Str) :=
  match seqOf d with
  | none => some (0, "rows")
  | some ds => if fits ds.length ro then rowsDue p ds 0 co else some (0, "rows")
def tupD (d : PyData) : PyData := .tuple ((seqOf d).getD [])
/-- not longer than a thousand -/
def Len1 (d : PyData) : Prop := ∀ ds, seqOf d = some ds → ds.length ≤ 1000 ∧ ∀ e ∈ ds, ∀ es, seqOf e = some es → es.length ≤ 1000
def spTable (K : PySem.W.Frag) (C cT : Addr) : Sp := fun vs H Q E => ∃ (G : Hp) (fa : Addr) (x rV cV : V) (d : PyData) (p : Int) (ro co : Option Nat), vs = [.ref fa, x, rV, cV] ∧ Same G H ∧ FigAt C G fa p ∧ Dp K G x d ∧ LimN rV ro ∧ LimN cV co ∧ Len1 d ∧
  (∀ (i : Nat) (w : Str), tableDue p d ro co = some (i, w) → ∀ dd H', Same H H' → H' dd = some (xd2 "index" "what" (.int i) (.str w)) → E (.ref cT) (some dd) H') ∧
  (∀ ds, tableDue p d ro co = none → seqOf d = some ds → Ret K G H Q (.tuple (ds.map tupD)))
theorem rows_none {p : Int} {d : PyData} {ds : List PyData} {i : Nat} {due : Option Nat} (e : seqOf d = none) : rowsDue p (d :: ds) i due = some (i, ("columns" : Str)) := by
  rw [rowsDue, e]
theorem rows_some {p : Int} {d : PyData} {ds es : List PyData} {i : Nat} {due : Option Nat} (e : seqOf d = some es) : rowsDue p (d :: ds) i due = if fits es.length due = true then (if es.all (numD p) = true then rowsDue p ds (i + 1) (some es.length) else some (i, ("number" : Str))) else some (i, ("columns" : Str)) := by
  rw [rowsDue, e]
section
variable {P : Program} {w : World} {K : PySem.W.Frag} {mg : Str → Option Value} {base : Heap} {C gP cT cL cP cK f : Addr} {fd : FuncData} {t5 : Tok}
theorem sc_check_table : FnScope ["figures", "table", "rows", "columns", "checked", "due", "index", "row"] ["figures", "table", "rows", "columns"] (defScope (top 26)) := ⟨rfl, rfl, rfl, by decide +kernel, rfl, by decide +kernel, by decide +kernel⟩
theorem ok_check_table (F : FnP K "check_table" (top 26) [.non, .non] f fd) (tx : Bn mg) {fS : Addr} {fdS : FuncData} (GS : FnOk P w K mg base CX0 1 fS fdS ["thing"] (spSeq K)) (mS : mg "is_sequence" = some (.ref fS)) (kpS : PySem.W.keepIn K (.ref fS) = true) (bS : L2.Binds K fdS ["thing"] []) {fF : Addr} {fdF : FuncData} (GF : FnOk P w K mg base CX0 1 fF fdF ["many", "due"] spFits) (mF : mg "fits_count" = some (.ref fF)) (kpF : PySem.W.keepIn K (.ref fF) = true) (bF : L2.Binds K fdF ["many", "due"] []) {fA : Addr} {fdA : FuncData} (GA : FnOk P w K mg base CX0 4 fA fdA ["figures", "row"] (spAllNum K C)) (mA : mg "all_are_numbers" = some (.ref fA)) (kpA : PySem.W.keepIn K (.ref fA) = true) (bA : L2.Binds K fdA ["figures", "row"] []) (eT : Ei2 P w K mg base gP "BadTable" "index" "what" cT) : FnOk P w K mg base (L2.CX P w) 5 f fd ["figures", "table", "rows", "columns"] (spTable K C cT) := by
  obtain ⟨eTfI, eTfd, eTiC, eTtI, eTG, eTb⟩ := eT.ini
  refine F.ok sc_check_table (fun vs H Q E h => ?_) (fun cdv A outer s H vs Q E hr h => ?_)
  · obtain ⟨G, fa, x, rV, cV, d, p, ro, co, rfl, _⟩ := h; rfl
  · obtain ⟨G, fa, x, rV, cV, d0, p, ro, co, rfl, sGH, fig, hd, hro, hco, hln, kE, kQ⟩ := h
    have hrS : Room 1 _ := hr.mono (by decide)
    have hrF : Room 1 _ := hr.mono (by decide)
    have hrA : Room 4 _ := hr
    have hrX : Room 2 _ := hr.mono (by decide)
    refine ⟨_, (pss_cons (ps_if (PW.pt (pw_or (pt_not (pt_val (pe_call GS hrS (by rfl) mS kpS bS .nil pass0 (pa_cons (pv 1) pa_nil)))) (pw_or1 (pt_not (pt_val (pe_call GF hrF (by rfl) mF kpF bF .nil pass0 (pa_cons (pe_callB call_len_seq (by rfl) tx.len PySem.boot_len (pa_cons (pv 1) pa_nil)) (pa_cons (pv 2) pa_nil)))))))) (pss_one (ps_raise rfl (takes_of rfl rfl rfl rfl) (pmk_oex eT.er.ox eTiC eTtI eTG hrX eTb .nil pass0 (by rfl) eT.m (pa_cons pe_int (pa_cons pe_str pa_nil))))) pss_nil)
      (pss_cons (ps_set (i := 4) sc_check_table.nd rfl (Or.inl rfl) (pe_lst pa_nil))
      (pss_cons (ps_set (i := 5) sc_check_table.nd rfl (Or.inl rfl) (pv 3))
      (pss_cons (ps_for (passes_of rfl) rfl (pi_enumA (by rfl) tx.enumerate (pa_cons (pv 1) pa_nil)) (pg_tup rfl (pgs_cons (pg_name (i := 6) sc_check_table.nd rfl (Or.inl rfl)) (pgs_cons (pg_name (i := 7) sc_check_table.nd rfl (Or.inl rfl)) pgs_nil))) (pss_cons (ps_if (PW.pt (pw_or (pt_not (pt_val (pe_call GS hrS (by rfl) mS kpS bS .nil pass0 (pa_cons (pv 7) pa_nil)))) (pw_or1 (pt_not (pt_val (pe_call GF hrF (by rfl) mF kpF bF .nil pass0 (pa_cons (pe_callB call_len_seq (by rfl) tx.len PySem.boot_len (pa_cons (pv 7) pa_nil)) (pa_cons (pv 5) pa_nil)))))))) (pss_one (ps_raise rfl (takes_of rfl rfl rfl rfl) (pmk_oex eT.er.ox eTiC eTtI eTG hrX eTb .nil pass0 (by rfl) eT.m (pa_cons (pv 6) (pa_cons pe_str pa_nil))))) pss_nil)
      (pss_cons (ps_set (i := 5) sc_check_table.nd rfl (Or.inl rfl) (pe_callB call_len_seq (by rfl) tx.len PySem.boot_len (pa_cons (pv 7) pa_nil)))
      (pss_cons (ps_if (pt_not (pt_val (pe_call GA hrA (by rfl) mA kpA bA .nil pass0 (pa_cons (pv 0) (pa_cons (pv 7) pa_nil))))) (pss_one (ps_raise rfl (takes_of rfl rfl rfl rfl) (pmk_oex eT.er.ox eTiC eTtI eTG hrX eTb .nil pass0 (by rfl) eT.m (pa_cons (pv 6) (pa_cons pe_str pa_nil))))) pss_nil)
      (pss_one (ps_expr (pe_bm PySem.F.plainAttrs_list PySem.F.slot_list_append PySem.F.type_list_append mt_append (pv 4) (pa_cons (pe_callTy call_tuple_of (by rfl) tx.tuple PyProof.Rows.boot_tuple (pa_cons (pv 7) pa_nil)) pa_nil))))))))
      (pss_one (ps_ret (pe_callTy call_tuple_of (by rfl) tx.tuple PyProof.Rows.boot_tuple (pa_cons (pv 4) pa_nil)))))))), ?_⟩
    refine ⟨_, rfl, x, d0, rfl, dp_same sGH _ _ hd, fun H1 s01 => ?_⟩
    rw [seq_is hd]
    cases eq : seqOf d0 with
    | none =>
      refine ⟨_, rfl, ifT rfl ?_⟩
      exact rd_mk2 fun dd H' s e => kE 0 _ (by unfold tableDue; rw [eq]) dd H' (s01.trans s) e
    | some ds =>
      have hq := seq_sq eq
      obtain ⟨a, xs, rfl, hs, ha⟩ := sq_dp hq hd
      have hlen := dpAll_len ha
      have hln := hln ds eq
      have sG1 := sGH.trans s01
      have hdue0 : tableDue p d0 ro co = if fits ds.length ro then rowsDue p ds 0 co else some (0, "rows") := by
        unfold tableDue
        rw [eq]
      refine ⟨_, rfl, ifF rfl ?_⟩
      refine ⟨_, rfl, a, xs, rfl, hs.elim (fun h => .inl (Evl.ex_l sG1 h)) (fun h => .inr (Evl.ex_t sG1 h)), _, rfl, ds.length, rV, ro, by rw [hlen]; rfl, hro, _, rfl, ?_⟩
      by_cases hf : fits ds.length ro = true
      · refine ifF (by rw [hf]; rfl) ⟨Nat.zero_le _, fun L hL => ⟨_, rfl, ?_⟩⟩
        have hdue : tableDue p d0 ro co = rowsDue p ds 0 co := by rw [hdue0, if_pos hf]
        generalize hHL : upd H1 L (.lst []) = HL
        have hLl : HL L = some (.lst []) := by rw [← hHL, upd_same]
        have hLn : HL L ≠ none := some_ne hLl
        have s1L : Same H1 HL := by rw [← hHL]; exact same_new hL
        have sGL := sG1.trans s1L
        rcases hs with hs | hs
        · refine ⟨_, rfl, a, xs, rfl, .inl ⟨Evl.ex_l sGL hs, ?_⟩⟩
          refine for_it walk_enum (fun i σ H2 => ∃ (acc : List V) (G2 : Hp) (duV u v : V) (due : Option Nat) (ou ov : Option V), σ = [some (.ref fa), some (.ref a), some rV, some cV, some (.ref L), some duV, ou, ov] ∧ LimN duV due ∧ rowsDue p ds 0 co = rowsDue p (ds.drop i) i due ∧ H2 L = some (.lst acc) ∧ DpAll K G2 acc ((ds.take i).map tupD) ∧ Mv G HL G2 H2 ∧ Same H1 H2) ⟨[], G, cV, .non, .non, co, none, none, rfl, hco, by rw [List.drop_zero], hLl, by rw [List.take_zero]; exact .nil, Mv.refl sGL, s1L⟩ (fun i σ H2 _ ⟨_, _, _, _, _, _, _, _, _, _, _, _, _, m2, _⟩ => Evl.ex_l (m2.gg.trans m2.gh) hs) ?_ ?_
          · rintro i x2 σ H2 H3 hi ⟨acc, G2, duV, _, _, due, ou, ov, rfl, hdu, hbad, hL2, hacc, m2, s12⟩ ⟨T, xi, y, rfl, hT, rfl, hxi, hy⟩
            have exi : V.int (i : Nat) = xi := Option.some.inj hxi
            subst exi
            obtain ⟨d, hd, hdx⟩ := dpAll_get ha hy
            have hdx2 := dp_same m2.gg _ _ hdx
            rw [drop_cons hd] at hbad
            have LT : L ≠ T := ne_of_none hL2 hT
            have m3 : Mv G HL G2 (upd H2 T (.tup [.int (i : Nat), y])) := m2.trans (Mv.hid m2.gh hT)
            have s13 : Same H1 (upd H2 T (.tup [.int (i : Nat), y])) := s12.trans (same_new hT)
            have hL3 : (upd H2 T (.tup [.int (i : Nat), y])) L = some (.lst acc) := by rw [upd_ne LT]; exact hL2
            refine ⟨T, [.int (i : Nat), y], rfl, SqT.of upd_same, rfl, .int (i : Nat), [y], rfl, y, [], rfl, rfl, ?_⟩
            generalize upd H2 T (.tup [.int (i : Nat), y]) = H3 at m3 s13 hL3
            refine ⟨_, rfl, y, d, rfl, dp_same m3.gh _ _ hdx2, fun H4 s4 => ?_⟩
            have m4 := m3.trans (Mv.of m3.gh s4)
            have s14 := s13.trans s4
            have hL4 := s4 _ _ hL3
            rw [seq_is hdx]
            cases eqr : seqOf d with
            | none =>
              have hb2 : rowsDue p ds 0 co = some (i, ("columns" : Str)) := hbad.trans (rows_none eqr)
              exact ⟨_, rfl, ifT rfl ⟨_, rfl, rd_mk2 fun dd H' s e => kE i _ (by rw [hdue]; exact hb2) dd H' ((s01.trans s14).trans s) e⟩⟩
            | some es =>
              have hqe := seq_sq eqr
              obtain ⟨b, ys, rfl, hys, hay⟩ := sq_dp hqe hdx2
              have hlen2 := dpAll_len hay
              have hel : es.length ≤ 1000 := (hln.2 d (List.mem_of_getElem? hd)) es eqr
              have hb2 := hbad.trans (rows_some eqr)
              refine ⟨_, rfl, ifF rfl ?_⟩
              refine ⟨_, rfl, b, ys, rfl, hys.elim (fun h => .inl (Evl.ex_l m4.gh h)) (fun h => .inr (Evl.ex_t m4.gh h)), _, rfl, es.length, duV, due, by rw [hlen2]; rfl, hdu, _, rfl, ?_⟩
              by_cases hf : fits es.length due = true
              · rw [if_pos hf] at hb2
                refine ifF (by rw [hf]; rfl) ?_
                refine ⟨_, rfl, b, ys, rfl, hys.elim (fun h => .inl (Evl.ex_l m4.gh h)) (fun h => .inr (Evl.ex_t m4.gh h)), ?_⟩
                have hdx4 := dp_same m4.gh _ _ hdx2
                refine ⟨_, rfl, _, rfl, G2, fa, .ref b, d, es, p, rfl, m4.gh, fig.same m4.gg, hdx2, hqe, hel, fun H5 s5 => ⟨_, rfl, ?_⟩⟩
                have m5 := m4.trans (Mv.of m4.gh s5)
                have s15 := s14.trans s5
                have hL5 := s5 _ _ hL4
                by_cases hall : es.all (numD p) = true
                · rw [if_pos hall] at hb2
                  refine ifF (by rw [hall]; rfl) ?_
                  have etk : (ds.take (i + 1)).map tupD = (ds.take i).map tupD ++ [.tuple es] := by
                    rw [List.take_add_one, hd, List.map_append]
                    show _ ++ [tupD d] = _
                    unfold tupD
                    rw [eqr]
                    rfl
                  have accl : acc.length < sizeLine := by
                    rw [dpAll_len hacc, List.length_map, List.length_take]
                    exact Nat.lt_of_le_of_lt (by omega : min i ds.length ≤ 1000) (by decide)
                  have gL : ∀ {G' H' : Hp}, Mv G HL G' H' → G' L = none := fun m => m.no hLn (old_none sG1 hL)
                  refine ⟨_, rfl, .inl ⟨rfl, _, SqL.of hL5⟩, ?_⟩
                  rcases hys with hys | hys
                  · refine ⟨_, rfl, b, ys, rfl, .inl ⟨Evl.ex_l m5.gh hys, fun l hl => ?_⟩⟩
                    have mn := Mv.new (o := .tup ys) m5.gh hl
                    have m6 := m5.trans mn
                    have hL6 : (upd H5 l (.tup ys)) L = some (.lst acc) := by rw [upd_ne (ne_of_none hL5 hl)]; exact hL5
                    refine ⟨L, _, _, rfl, rfl, hL6, accl, ?_⟩
                    refine ⟨acc ++ [.ref l], _, _, .non, .non, some es.length, _, _, rfl, ⟨es.length, by rw [hlen2], rfl⟩, hb2, upd_same, ?_, m6.trans (Mv.put m6.gh (gL m6) (some_ne hL6)), ?_⟩
                    · rw [etk]
                      exact dpAll_append (dp_sameAll mn.gg _ _ hacc) (.cons (.tup (SqT.of upd_same) (dp_sameAll mn.gg _ _ hay)) .nil)
                    · exact Evl.Ex.mut (s15.trans (same_new hl)) hL
                  · refine ⟨_, rfl, b, ys, rfl, .inr ⟨Evl.ex_t m5.gh hys, ?_⟩⟩
                    refine ⟨L, _, _, rfl, rfl, hL5, accl, ?_⟩
                    refine ⟨acc ++ [.ref b], _, _, .non, .non, some es.length, _, _, rfl, ⟨es.length, by rw [hlen2], rfl⟩, hb2, upd_same, ?_, m5.trans (Mv.put m5.gh (gL m5) (some_ne hL5)), ?_⟩
                    · rw [etk]
                      exact dpAll_append hacc (.cons (.tup hys hay) .nil)
                    · exact Evl.Ex.mut s15 hL
                · rw [if_neg hall] at hb2
                  exact ifT (by rw [not_true hall]; rfl) ⟨_, rfl, rd_mk2 fun dd H' s e => kE i _ (by rw [hdue]; exact hb2) dd H' ((s01.trans s15).trans s) e⟩
              · rw [if_neg hf] at hb2
                exact ifT (by rw [not_true hf]; rfl) ⟨_, rfl, rd_mk2 fun dd H' s e => kE i _ (by rw [hdue]; exact hb2) dd H' ((s01.trans s14).trans s) e⟩
          · rintro σ H2 ⟨acc, G2, duV, _, _, due, ou, ov, rfl, hdu, hbad, hL2, hacc, m2, s12⟩
            have hn : rowsDue p ds 0 co = none := by
              rw [hbad, List.drop_of_length_le (Nat.le_of_eq hlen.symm)]
              rfl
            rw [hn] at hdue
            rw [hlen, List.take_length] at hacc
            refine ⟨_, rfl, L, acc, rfl, .inl ⟨SqL.of hL2, fun l hl => ?_⟩⟩
            have m5 := Mv.new (o := .tup acc) m2.gh hl
            exact kQ ds hdue eq _ _ _ (((Mv.of sGH s01).trans (Mv.of sG1 s1L)).trans (m2.trans m5)) ((s01.trans s12).trans (same_new hl)) (.tup (SqT.of upd_same) (dp_sameAll m5.gg _ _ hacc))
        · refine ⟨_, rfl, a, xs, rfl, .inr ⟨Evl.ex_t sGL hs, ?_⟩⟩
          refine for_it walk_enumT (fun i σ H2 => ∃ (acc : List V) (G2 : Hp) (duV u v : V) (due : Option Nat) (ou ov : Option V), σ = [some (.ref fa), some (.ref a), some rV, some cV, some (.ref L), some duV, ou, ov] ∧ LimN duV due ∧ rowsDue p ds 0 co = rowsDue p (ds.drop i) i due ∧ H2 L = some (.lst acc) ∧ DpAll K G2 acc ((ds.take i).map tupD) ∧ Mv G HL G2 H2 ∧ Same H1 H2) ⟨[], G, cV, .non, .non, co, none, none, rfl, hco, by rw [List.drop_zero], hLl, by rw [List.take_zero]; exact .nil, Mv.refl sGL, s1L⟩ (fun i σ H2 _ ⟨_, _, _, _, _, _, _, _, _, _, _, _, _, m2, _⟩ => Evl.ex_t (m2.gg.trans m2.gh) hs) ?_ ?_
          · rintro i x2 σ H2 H3 hi ⟨acc, G2, duV, _, _, due, ou, ov, rfl, hdu, hbad, hL2, hacc, m2, s12⟩ ⟨T, xi, y, rfl, hT, rfl, hxi, hy⟩
            have exi : V.int (i : Nat) = xi := Option.some.inj hxi
            subst exi
            obtain ⟨d, hd, hdx⟩ := dpAll_get ha hy
            have hdx2 := dp_same m2.gg _ _ hdx
            rw [drop_cons hd] at hbad
            have LT : L ≠ T := ne_of_none hL2 hT
            have m3 : Mv G HL G2 (upd H2 T (.tup [.int (i : Nat), y])) := m2.trans (Mv.hid m2.gh hT)
            have s13 : Same H1 (upd H2 T (.tup [.int (i : Nat), y])) := s12.trans (same_new hT)
            have hL3 : (upd H2 T (.tup [.int (i : Nat), y])) L = some (.lst acc) := by rw [upd_ne LT]; exact hL2
            refine ⟨T, [.int (i : Nat), y], rfl, SqT.of upd_same, rfl, .int (i : Nat), [y], rfl, y, [], rfl, rfl, ?_⟩
            generalize upd H2 T (.tup [.int (i : Nat), y]) = H3 at m3 s13 hL3
            refine ⟨_, rfl, y, d, rfl, dp_same m3.gh _ _ hdx2, fun H4 s4 => ?_⟩
            have m4 := m3.trans (Mv.of m3.gh s4)
            have s14 := s13.trans s4
            have hL4 := s4 _ _ hL3
            rw [seq_is hdx]
            cases eqr : seqOf d with
            | none =>
              have hb2 : rowsDue p ds 0 co = some (i, ("columns" : Str)) := hbad.trans (rows_none eqr)
              exact ⟨_, rfl, ifT rfl ⟨_, rfl, rd_mk2 fun dd H' s e => kE i _ (by rw [hdue]; exact hb2) dd H' ((s01.trans s14).trans s) e⟩⟩
            | some es =>
              have hqe := seq_sq eqr
              obtain ⟨b, ys, rfl, hys, hay⟩ := sq_dp hqe hdx2
              have hlen2 := dpAll_len hay
              have hel : es.length ≤ 1000 := (hln.2 d (List.mem_of_getElem? hd)) es eqr
              have hb2 := hbad.trans (rows_some eqr)
              refine ⟨_, rfl, ifF rfl ?_⟩
              refine ⟨_, rfl, b, ys, rfl, hys.elim (fun h => .inl (Evl.ex_l m4.gh h)) (fun h => .inr (Evl.ex_t m4.gh h)), _, rfl, es.length, duV, due, by rw [hlen2]; rfl, hdu, _, rfl, ?_⟩
              by_cases hf : fits es.length due = true
              · rw [if_pos hf] at hb2
                refine ifF (by rw [hf]; rfl) ?_
                refine ⟨_, rfl, b, ys, rfl, hys.elim (fun h => .inl (Evl.ex_l m4.gh h)) (fun h => .inr (Evl.ex_t m4.gh h)), ?_⟩
                have hdx4 := dp_same m4.gh _ _ hdx2
                refine ⟨_, rfl, _, rfl, G2, fa, .ref b, d, es, p, rfl, m4.gh, fig.same m4.gg, hdx2, hqe, hel, fun H5 s5 => ⟨_, rfl, ?_⟩⟩
                have m5 := m4.trans (Mv.of m4.gh s5)
                have s15 := s14.trans s5
                have hL5 := s5 _ _ hL4
                by_cases hall : es.all (numD p) = true
                · rw [if_pos hall] at hb2
                  refine ifF (by rw [hall]; rfl) ?_
                  have etk : (ds.take (i + 1)).map tupD = (ds.take i).map tupD ++ [.tuple es] := by
                    rw [List.take_add_one, hd, List.map_append]
                    show _ ++ [tupD d] = _
                    unfold tupD
                    rw [eqr]
                    rfl
                  have accl : acc.length < sizeLine := by
                    rw [dpAll_len hacc, List.length_map, List.length_take]
                    exact Nat.lt_of_le_of_lt (by omega : min i ds.length ≤ 1000) (by decide)
                  have gL : ∀ {G' H' : Hp}, Mv G HL G' H' → G' L = none := fun m => m.no hLn (old_none sG1 hL)
                  refine ⟨_, rfl, .inl ⟨rfl, _, SqL.of hL5⟩, ?_⟩
                  rcases hys with hys | hys
                  · refine ⟨_, rfl, b, ys, rfl, .inl ⟨Evl.ex_l m5.gh hys, fun l hl => ?_⟩⟩
                    have mn := Mv.new (o := .tup ys) m5.gh hl
                    have m6 := m5.trans mn
                    have hL6 : (upd H5 l (.tup ys)) L = some (.lst acc) := by rw [upd_ne (ne_of_none hL5 hl)]; exact hL5
                    refine ⟨L, _, _, rfl, rfl, hL6, accl, ?_⟩
                    refine ⟨acc ++ [.ref l], _, _, .non, .non, some es.length, _, _, rfl, ⟨es.length, by rw [hlen2], rfl⟩, hb2, upd_same, ?_, m6.trans (Mv.put m6.gh (gL m6) (some_ne hL6)), ?_⟩
                    · rw [etk]
                      exact dpAll_append (dp_sameAll mn.gg _ _ hacc) (.cons (.tup (SqT.of upd_same) (dp_sameAll mn.gg _ _ hay)) .nil)
                    · exact Evl.Ex.mut (s15.trans (same_new hl)) hL
                  · refine ⟨_, rfl, b, ys, rfl, .inr ⟨Evl.ex_t m5.gh hys, ?_⟩⟩
                    refine ⟨L, _, _, rfl, rfl, hL5, accl, ?_⟩
                    refine ⟨acc ++ [.ref b], _, _, .non, .non, some es.length, _, _, rfl, ⟨es.length, by rw [hlen2], rfl⟩, hb2, upd_same, ?_, m5.trans (Mv.put m5.gh (gL m5) (some_ne hL5)), ?_⟩
                    · rw [etk]
                      exact dpAll_append hacc (.cons (.tup hys hay) .nil)
                    · exact Evl.Ex.mut s15 hL
                · rw [if_neg hall] at hb2
                  exact ifT (by rw [not_true hall]; rfl) ⟨_, rfl, rd_mk2 fun dd H' s e => kE i _ (by rw [hdue]; exact hb2) dd H' ((s01.trans s15).trans s) e⟩
              · rw [if_neg hf] at hb2
                exact ifT (by rw [not_true hf]; rfl) ⟨_, rfl, rd_mk2 fun dd H' s e => kE i _ (by rw [hdue]; exact hb2) dd H' ((s01.trans s14).trans s) e⟩
          · rintro σ H2 ⟨acc, G2, duV, _, _, due, ou, ov, rfl, hdu, hbad, hL2, hacc, m2, s12⟩
            have hn : rowsDue p ds 0 co = none := by
              rw [hbad, List.drop_of_length_le (Nat.le_of_eq hlen.symm)]
              rfl
            rw [hn] at hdue
            rw [hlen, List.take_length] at hacc
            refine ⟨_, rfl, L, acc, rfl, .inl ⟨SqL.of hL2, fun l hl => ?_⟩⟩
            have m5 := Mv.new (o := .tup acc) m2.gh hl
            exact kQ ds hdue eq _ _ _ (((Mv.of sGH s01).trans (Mv.of sG1 s1L)).trans (m2.trans m5)) ((s01.trans s12).trans (same_new hl)) (.tup (SqT.of upd_same) (dp_sameAll m5.gg _ _ hacc))
      · refine ifT (by rw [not_true hf]; rfl) ?_
        exact rd_mk2 fun dd H' s e => kE 0 _ (by rw [hdue0, if_neg hf]) dd H' (s01.trans s) e
end
end Vc
set_option exponentiation.threshold 20000

namespace Vd
open PySem PySem.Spec PyProof.Rows L2 Dz Ra Mt Kx Ky Re Rb Rc Rd Gn Dn Do Vz Vp Va Vb Vc
def tabOf (d : PyData) : List (List PyData) := ((seqOf d).getD []).map fun r => (seqOf r).getD []
def tabT (T : List (List PyData)) : PyData := .tuple (T.map .tuple)
/-- a table of r rows, c columns, numbers of the figures of p -/
structure Tab (p : Int) (T : List (List PyData)) (r c : Nat) : Prop where
  lr : T.length = r
  lc : ∀ row ∈ T, row.length = c ∧ ∀ e ∈ row, Nu p e
  r1 : 1 ≤ r
  r5 : r ≤ 5
  c1 : 1 ≤ c
  c5 : c ≤ 5
theorem fits_none {n : Nat} (h : fits n none = true) : 1 ≤ n ∧ n ≤ 5 := by
  have h2 : (decide (1 ≤ n) && decide (n ≤ 5)) = true := h
  rw [Bool.and_eq_true, decide_eq_true_eq, decide_eq_true_eq] at h2
  exact h2
theorem fits_some {n k : Nat} (h : fits n (some k) = true) : n = k := by
  have h2 : (n == k) = true := h
  simpa using h2
theorem rows_ok {p : Int} {c : Nat} : ∀ {ds : List PyData} {i : Nat}, rowsDue p ds i (some c) = none → ∀ d ∈ ds, ∃ es, seqOf d = some es ∧ es.length = c ∧ es.all (numD p) = true
  | [], _, _, d, hd => by cases hd
  | d :: ds, i, h, e, he => by
    cases eq : seqOf d with
    | none =>
      rw [rows_none eq] at h
      cases h
    | some es =>
      rw [rows_some eq] at h
      by_cases h1 : fits es.length (some c) = true
      · rw [if_pos h1] at h
        by_cases h2 : es.all (numD p) = true
        · rw [if_pos h2] at h
          have ec := fits_some h1
          rcases List.mem_cons.mp he with rfl | he
          · exact ⟨es, eq, ec, h2⟩
          · rw [ec] at h
            exact rows_ok h e he
        · rw [if_neg h2] at h
          cases h
      · rw [if_neg h1] at h
        cases h
theorem table_ok {p : Int} {d : PyData} (h : tableDue p d none none = none) : ∃ ds r c, seqOf d = some ds ∧ Tab p (tabOf d) r c ∧ ds.map tupD = (tabOf d).map .tuple ∧ ds.length = r := by
  cases eq : seqOf d with
  | none =>
    unfold tableDue at h
    rw [eq] at h
    cases h
  | some ds =>
    have h2 : (if fits ds.length none = true then rowsDue p ds 0 none else some (0, ("rows" : Str))) = none := by
      unfold tableDue at h
      rw [eq] at h
      exact h
    have eT : ds.map tupD = (tabOf d).map .tuple := by
      unfold tabOf
      rw [eq, List.map_map]
      rfl
    by_cases h1 : fits ds.length none = true
    · rw [if_pos h1] at h2
      obtain ⟨l1, l5⟩ := fits_none h1
      cases ds with
      | nil => exact absurd l1 (by decide)
      | cons d0 ds =>
        cases eq0 : seqOf d0 with
        | none =>
          rw [rows_none eq0] at h2
          cases h2
        | some es =>
          rw [rows_some eq0] at h2
          by_cases h3 : fits es.length none = true
          · rw [if_pos h3] at h2
            by_cases h4 : es.all (numD p) = true
            · rw [if_pos h4] at h2
              obtain ⟨c1, c5⟩ := fits_none h3
              refine ⟨d0 :: ds, ds.length + 1, es.length, rfl, ⟨?_, ?_, l1, l5, c1, c5⟩, eT, rfl⟩
              · unfold tabOf
                rw [eq, List.length_map]
                rfl
              · intro row hrow
                unfold tabOf at hrow
                rw [eq] at hrow
                obtain ⟨e, he, rfl⟩ := List.mem_map.mp hrow
                have hes : ∃ fs, seqOf e = some fs ∧ fs.length = es.length ∧ fs.all (numD p) = true := by
                  rcases List.mem_cons.mp he with rfl | he
                  · exact ⟨es, eq0, rfl, h4⟩
                  · exact rows_ok h2 e he
                obtain ⟨fs, e1, e2, e3⟩ := hes
                rw [e1]
                exact ⟨e2, fun g hg => List.all_eq_true.mp e3 g hg⟩
            · rw [if_neg h4] at h2
              cases h2
          · rw [if_neg h3] at h2
            cases h2
    · rw [if_neg h1] at h2
      cases h2
/-- a table of the right form is let -/
theorem rows_fine {p : Int} {c : Nat} {ds : List PyData} (h : ∀ d ∈ ds, ∃ es, seqOf d = some es ∧ es.length = c ∧ es.all (numD p) = true) : ∀ (i : Nat), rowsDue p ds i (some c) = none := by
  induction ds with
  | nil => intro i; rfl
  | cons d ds ih =>
    intro i
    obtain ⟨es, e1, e2, e3⟩ := h d (List.mem_cons_self ..)
    rw [rows_some e1, e2, if_pos (by show (c == c) = true; exact beq_self_eq_true c), if_pos e3]
    exact ih (fun d hd => h d (List.mem_cons_of_mem _ hd)) (i + 1)
theorem table_fine {p : Int} {d : PyData} {ds : List PyData} {r c : Nat} (hq : seqOf d = some ds) (hT : Tab p (tabOf d) r c) (hs : ∀ e ∈ ds, (seqOf e).isSome = true) : tableDue p d none none = none := by
  have e1 : tabOf d = ds.map fun r => (seqOf r).getD [] := by
    unfold tabOf
    rw [hq]
    rfl
  have hl : ds.length = r := by
    have := hT.lr
    rw [e1, List.length_map] at this
    exact this
  have all : ∀ d ∈ ds, ∃ es, seqOf d = some es ∧ es.length = c ∧ es.all (numD p) = true := by
    intro e he
    obtain ⟨es, hes⟩ := Option.isSome_iff_exists.mp (hs e he)
    obtain ⟨c1, c2⟩ := hT.lc es (by rw [e1]; exact List.mem_map.mpr ⟨e, he, by rw [hes]; rfl⟩)
    exact ⟨es, hes, c1, List.all_eq_true.mpr fun g hg => c2 g hg⟩
  have fit : ∀ n, 1 ≤ n → n ≤ 5 → fits n none = true := fun n a b => by
    show (decide (1 ≤ n) && decide (n ≤ 5)) = true
    rw [decide_eq_true a, decide_eq_true b]
    rfl
  unfold tableDue
  rw [hq]
  show (if fits ds.length none = true then rowsDue p ds 0 none else _) = none
  rw [if_pos (fit _ (by rw [hl]; exact hT.r1) (by rw [hl]; exact hT.r5))]
  cases ds with
  | nil => rfl
  | cons d0 ds =>
    obtain ⟨es, a1, a2, a3⟩ := all d0 (List.mem_cons_self ..)
    rw [rows_some a1, a2, if_pos (fit c hT.c1 hT.c5), if_pos a3]
    exact rows_fine (fun d hd => all d (List.mem_cons_of_mem _ hd)) 1
/-- the attributes of a Pair, in the order of __init__ -/
def pfl (fa : Addr) (v1 v2 : V) (r c : Nat) : List (Str × V) := putF "columns" (.int c) (putF "rows" (.int r) (putF "second" v2 (putF "first" v1 (putF "figures" (.ref fa) []))))
section
variable {fa : Addr} {v1 v2 : V} {r c : Nat}
theorem pl_fig : (pfl fa v1 v2 r c).lookup ("figures" : Str) = some (.ref fa) := by
  unfold pfl
  rw [lookup_putF, if_neg (by decide +kernel), lookup_putF, if_neg (by decide +kernel), lookup_putF, if_neg (by decide +kernel), lookup_putF, if_neg (by decide +kernel), lookup_putF, if_pos rfl]
theorem pl_first : (pfl fa v1 v2 r c).lookup ("first" : Str) = some v1 := by
  unfold pfl
  rw [lookup_putF, if_neg (by decide +kernel), lookup_putF, if_neg (by decide +kernel), lookup_putF, if_neg (by decide +kernel), lookup_putF, if_pos rfl]
theorem pl_second : (pfl fa v1 v2 r c).lookup ("second" : Str) = some v2 := by
  unfold pfl
  rw [lookup_putF, if_neg (by decide +kernel), lookup_putF, if_neg (by decide +kernel), lookup_putF, if_pos rfl]
theorem pl_rows : (pfl fa v1 v2 r c).lookup ("rows" : Str) = some (.int r) := by
  unfold pfl
  rw [lookup_putF, if_neg (by decide +kernel), lookup_putF, if_pos rfl]
theorem pl_cols : (pfl fa v1 v2 r c).lookup ("columns" : Str) = some (.int c) := by
  unfold pfl
  rw [lookup_putF, if_pos rfl]
theorem pl_no {m : Str} (h1 : ¬ m = "figures") (h2 : ¬ m = "first") (h3 : ¬ m = "second") (h4 : ¬ m = "rows") (h5 : ¬ m = "columns") : (pfl fa v1 v2 r c).lookup m = none := by
  unfold pfl
  rw [lookup_putF, if_neg h5, lookup_putF, if_neg h4, lookup_putF, if_neg h3, lookup_putF, if_neg h2, lookup_putF, if_neg h1]
  rfl
end
/-- a Pair at a -/
structure PairAt (K : PySem.W.Frag) (CP C : Addr) (G : Hp) (a : Addr) (p : Int) (T1 T2 : List (List PyData)) (r c : Nat) : Prop where
  at_ : ∃ fa dx v1 v2, G a = some (.ins CP dx (pfl fa v1 v2 r c)) ∧ FigAt C G fa p ∧ Dp K G v1 (tabT T1) ∧ Dp K G v2 (tabT T2)
  t1 : Tab p T1 r c
  t2 : Tab p T2 r c
theorem PairAt.same {K : PySem.W.Frag} {CP C : Addr} {G G' : Hp} {a : Addr} {p : Int} {T1 T2 : List (List PyData)} {r c : Nat} (h : PairAt K CP C G a p T1 T2 r c) (s : Same G G') : PairAt K CP C G' a p T1 T2 r c := by
  obtain ⟨⟨fa, dx, v1, v2, h1, h2, h3, h4⟩, h5, h6⟩ := h
  exact ⟨⟨fa, dx, v1, v2, s _ _ h1, h2.same s, dp_same s _ _ h3, dp_same s _ _ h4⟩, h5, h6⟩
/-- what is asked of the class Pair -/
structure Pg (K : PySem.W.Frag) (C : Addr) : Prop where
  cl : Cls K C
  n1 : NoAttr K C "figures"
  n2 : NoAttr K C "first"
  n3 : NoAttr K C "second"
  n4 : NoAttr K C "rows"
  n5 : NoAttr K C "columns"
def cols0 (T : List (List PyData)) : Nat := (T.head?.getD []).length
def pairDue (p : Int) (d1 d2 : PyData) : Option (Option Nat × Str) :=
  match tableDue p d1 none none with
  | some (i, w) => some (some i, w)
  | none => match tableDue p d2 none none with
    | some (i, w) => some (some i, w)
    | none => if (tabOf d1).length = (tabOf d2).length ∧ cols0 (tabOf d1) = cols0 (tabOf d2) then (if wideI p (tabOf d1).length (cols0 (tabOf d1)) then some (none, "wide") else none) else some (none, "size")
def spPair (K : PySem.W.Frag) (CP C cT cP : Addr) : Sp := fun vs H Q E => ∃ (G : Hp) (a dx fa : Addr) (x y : V) (d1 d2 : PyData) (p : Int), vs = [.ref a, .ref fa, x, y] ∧ H a = some (.ins CP dx []) ∧ Same G H ∧ G a = none ∧ FigAt C G fa p ∧ Dp K G x d1 ∧ Dp K G y d2 ∧ Len1 d1 ∧ Len1 d2 ∧
  (∀ (i : Nat) (w : Str), pairDue p d1 d2 = some (some i, w) → ∀ dd H', Same H H' → H' dd = some (xd2 "index" "what" (.int i) (.str w)) → E (.ref cT) (some dd) H') ∧
  (∀ (w : Str), pairDue p d1 d2 = some (none, w) → ∀ dd H', Same H H' → H' dd = some (.xd [("what", .str w)]) → E (.ref cP) (some dd) H') ∧
  (pairDue p d1 d2 = none → ∀ (G' H' : Hp) (v1 v2 : V) (r c : Nat), Mv G H G' H' → (∀ b o, b ≠ a → H b = some o → H' b = some o) → H' a = some (.ins CP dx (pfl fa v1 v2 r c)) → Dp K G' v1 (tabT (tabOf d1)) → Dp K G' v2 (tabT (tabOf d2)) → Tab p (tabOf d1) r c → Tab p (tabOf d2) r c → Q .non H')
theorem tab_head {K : PySem.W.Frag} {G : Hp} {v : V} {p : Int} {T : List (List PyData)} {r c : Nat} (hT : Tab p T r c) (h : Dp K G v (tabT T)) : ∃ a xs b ys, v = .ref a ∧ SqT K G a xs ∧ xs.length = r ∧ xs[0]? = some (.ref b) ∧ SqT K G b ys ∧ ys.length = c := by
  obtain ⟨a, xs, rfl, hs, ha⟩ := dp_tup h
  have hl := dpAll_len ha
  rw [List.length_map, hT.lr] at hl
  have h0 : 0 < T.length := by rw [hT.lr]; exact hT.r1
  obtain ⟨x, hx, hdx⟩ := dpAll_at (i := 0) (d := .tuple T[0]) ha (by rw [List.getElem?_map, List.getElem?_eq_getElem h0]; rfl)
  obtain ⟨b, ys, rfl, hb, hys⟩ := dp_tup hdx
  exact ⟨a, xs, b, ys, rfl, hs, hl, hx, hb, (dpAll_len hys).trans (hT.lc _ (List.getElem_mem h0)).1⟩
theorem cols_tab {p : Int} {T : List (List PyData)} {r c : Nat} (hT : Tab p T r c) : cols0 T = c := by
  have h0 : 0 < T.length := by rw [hT.lr]; exact hT.r1
  unfold cols0
  cases T with
  | nil => exact absurd h0 (by decide)
  | cons row T => exact (hT.lc row (List.mem_cons_self ..)).1
section
variable {P : Program} {w : World} {K : PySem.W.Frag} {mg : Str → Option Value} {base : Heap} {C CP gP cT cL cP cK f : Addr} {fd : FuncData} {t5 : Tok}
abbrev FnQ (K : PySem.W.Frag) (m : Str) (st : Stmt) (f : Addr) (fd : FuncData) : Prop := FunD K m ("Pair." ++ m) (defArgs st) (defBody st) (defScope st) [] [] f fd
theorem sc_pinit : FnScope ["self", "figures", "first", "second"] ["self", "figures", "first", "second"] (defScope (inClass (top 34) 0)) := ⟨rfl, rfl, rfl, by decide +kernel, rfl, by decide +kernel, by decide +kernel⟩
theorem ok_pinit (F : FnQ K "__init__" (inClass (top 34) 0) f fd) (pg : Pg K CP) (tx : Bn mg) {fT : Addr} {fdT : FuncData} {dsT : List Value} (GT : FnOk P w K mg base (L2.CX P w) 5 fT fdT ["figures", "table", "rows", "columns"] (spTable K C cT)) (mT : mg "check_table" = some (.ref fT)) (kpT : PySem.W.keepIn K (.ref fT) = true) (bT : L2.Binds K fdT ["figures", "table", "rows", "columns"] dsT) (dT : Vals [.non, .non] dsT) {fD : Addr} {fdD : FuncData} (GD : FnOk P w K mg base (L2.CX P w) 3 fD fdD ["figures", "rows", "columns"] (spWidth C cP)) (mD : mg "check_width" = some (.ref fD)) (kpD : PySem.W.keepIn K (.ref fD) = true) (bD : L2.Binds K fdD ["figures", "rows", "columns"] []) (eP : Ei P w K mg base gP "BadPair" "what" cP) : FnOk P w K mg base (L2.CX P w) 6 f fd ["self", "figures", "first", "second"] (spPair K CP C cT cP) := by
  obtain ⟨ePfI, ePfd, ePiC, ePtI, ePG, ePb⟩ := eP.ini
  refine F.ok sc_pinit (fun vs H Q E h => ?_) (fun cdv A outer s0 H vs Q E hr h => ?_)
  · obtain ⟨G, a, dx, fa, x, y, d1, d2, p, rfl, _⟩ := h; rfl
  · obtain ⟨G, a, dx, fa, x, y, d1, d2, p, rfl, ha0, sGH, gA, fig, hx, hy, l1, l2, kE, kE2, kQ⟩ := h
    have hrT : Room 5 _ := hr
    have hrD : Room 3 _ := hr.mono (by decide)
    have hrX : Room 2 _ := hr.mono (by decide)
    have nA : H a ≠ none := some_ne ha0
    refine ⟨_, (pss_cons (ps_set (i := 2) sc_pinit.nd rfl (Or.inl rfl) (pe_call GT hrT (by rfl) mT kpT bT dT (passes_call (takes_of rfl rfl rfl rfl) (fun _ _ _ _ h => h)) (pa_cons (pv 1) (pa_cons (pv 2) pa_nil))))
      (pss_cons (ps_set (i := 3) sc_pinit.nd rfl (Or.inl rfl) (pe_call GT hrT (by rfl) mT kpT bT dT (passes_call (takes_of rfl rfl rfl rfl) (fun _ _ _ _ h => h)) (pa_cons (pv 1) (pa_cons (pv 3) pa_nil))))
      (pss_cons (ps_if (PW.pt (pw_or (pt_cmpR op_ne (pe_callB call_len_seq (by rfl) tx.len PySem.boot_len (pa_cons (pv 2) pa_nil)) (pe_callB call_len_seq (by rfl) tx.len PySem.boot_len (pa_cons (pv 3) pa_nil)) (by rfl)) (pw_or1 (pt_cmpR op_ne (pe_callB call_len_seq (by rfl) tx.len PySem.boot_len (pa_cons (pe_ix ix_tup (pv 2) pe_int (fun _ _ => rfl)) pa_nil)) (pe_callB call_len_seq (by rfl) tx.len PySem.boot_len (pa_cons (pe_ix ix_tup (pv 3) pe_int (fun _ _ => rfl)) pa_nil)) (by rfl))))) (pss_one (ps_raise rfl (takes_of rfl rfl rfl rfl) (pmk_oex eP.er.ox ePiC ePtI ePG hrX ePb .nil pass0 (by rfl) eP.m (pa_cons pe_str pa_nil)))) pss_nil)
      (pss_cons (ps_expr (pe_call GD hrD (by rfl) mD kpD bD .nil (passes_call (takes_of rfl rfl rfl rfl) (fun _ _ _ _ h => h)) (pa_cons (pv 1) (pa_cons (pe_callB call_len_seq (by rfl) tx.len PySem.boot_len (pa_cons (pv 2) pa_nil)) (pa_cons (pe_callB call_len_seq (by rfl) tx.len PySem.boot_len (pa_cons (pe_ix ix_tup (pv 2) pe_int (fun _ _ => rfl)) pa_nil)) pa_nil)))))
      (pss_cons (ps_fld (pv 0) (pv 1) rfl)
      (pss_cons (ps_fld (pv 0) (pv 2) rfl)
      (pss_cons (ps_fld (pv 0) (pv 3) rfl)
      (pss_cons (ps_fld (pv 0) (pe_callB call_len_seq (by rfl) tx.len PySem.boot_len (pa_cons (pv 2) pa_nil)) rfl)
      (pss_one (ps_fld (pv 0) (pe_callB call_len_seq (by rfl) tx.len PySem.boot_len (pa_cons (pe_ix ix_tup (pv 2) pe_int (fun _ _ => rfl)) pa_nil)) rfl)))))))))), ?_⟩
    refine ⟨_, rfl, _, rfl, G, fa, x, .non, .non, d1, p, none, none, rfl, sGH, fig, hx, rfl, rfl, l1, fun i w e dd H' s hdd => kE i w (by unfold pairDue; rw [e]) dd H' s hdd, fun ds1 e1 eq1 v1 G1 H1 m1 s1 hd1 => ?_⟩
    obtain ⟨ds1', r1, c1, eq1', hT1, em1, _⟩ := table_ok e1
    cases eq1.symm.trans eq1'
    rw [em1] at hd1
    refine ⟨_, rfl, _, rfl, G1, fa, y, .non, .non, d2, p, none, none, rfl, m1.gh, fig.same m1.gg, dp_same m1.gg _ _ hy, rfl, rfl, l2, fun i w e dd H' s hdd => kE i w (by unfold pairDue; rw [e1, e]) dd H' (s1.trans s) hdd, fun ds2 e2 eq2 v2 G2 H2 m2 s2 hd2 => ?_⟩
    obtain ⟨ds2', r2, c2, eq2', hT2, em2, _⟩ := table_ok e2
    cases eq2.symm.trans eq2'
    rw [em2] at hd2
    have hd1' := dp_same m2.gg _ _ hd1
    have m3 := m1.trans m2
    have s3 := s1.trans s2
    have pd : pairDue p d1 d2 = if r1 = r2 ∧ c1 = c2 then (if wideI p r1 c1 then some (none, ("wide" : Str)) else none) else some (none, ("size" : Str)) := by
      unfold pairDue
      rw [e1, e2]
      show (if (tabOf d1).length = (tabOf d2).length ∧ cols0 (tabOf d1) = cols0 (tabOf d2) then (if wideI p (tabOf d1).length (cols0 (tabOf d1)) then some (none, ("wide" : Str)) else none) else some (none, ("size" : Str))) = _
      rw [hT1.lr, hT2.lr, cols_tab hT1, cols_tab hT2]
    obtain ⟨a1, xs1, b1, ys1, rfl, hs1, hl1, hx1, hb1, hc1⟩ := tab_head hT1 hd1'
    obtain ⟨a2, xs2, b2, ys2, rfl, hs2, hl2, hx2, hb2, hc2⟩ := tab_head hT2 hd2
    have gh := m2.gh
    refine ⟨_, rfl, a1, xs1, rfl, .inr (Evl.ex_t gh hs1), _, rfl, a2, xs2, rfl, .inr (Evl.ex_t gh hs2), rfl, _, rfl, ?_⟩
    by_cases hr12 : r1 = r2
    · refine ifF (by rw [hl1, hl2, hr12, decide_eq_true rfl]; rfl) ?_
      refine ⟨_, rfl, a1, xs1, (0 : Nat), _, rfl, rfl, Evl.ex_t gh hs1, atI_nat hx1, b1, ys1, rfl, .inr (Evl.ex_t gh hb1), _, rfl, a2, xs2, (0 : Nat), _, rfl, rfl, Evl.ex_t gh hs2, atI_nat hx2, b2, ys2, rfl, .inr (Evl.ex_t gh hb2), rfl, _, rfl, ?_⟩
      by_cases hc12 : c1 = c2
      · refine ifF (by rw [hc1, hc2, hc12, decide_eq_true rfl]; rfl) ?_
        rw [if_pos ⟨hr12, hc12⟩] at pd
        refine ⟨_, rfl, _, rfl, a1, xs1, rfl, .inr (Evl.ex_t gh hs1), _, rfl, a1, xs1, (0 : Nat), _, rfl, rfl, Evl.ex_t gh hs1, atI_nat hx1, b1, ys1, rfl, .inr (Evl.ex_t gh hb1), fa, p, r1, c1, by rw [hl1, hc1]; rfl, (fig.same m3.gg).same gh, fun hw dd H' s hdd => kE2 _ (by rw [pd, if_pos hw]) dd H' (s3.trans s) hdd, fun hw => ?_⟩
        rw [if_neg (by rw [hw]; exact Bool.false_ne_true)] at pd
        have ha2 : H2 a = some (.ins CP dx []) := s3 _ _ ha0
        have g2A : G2 a = none := m3.no nA gA
        have n12 : ∀ {b : Addr} {o : HO}, G2 b = some o → b ≠ a := fun e z => by rw [z, g2A] at e; cases e
        have out : ∀ {o : HO} {H' : Hp}, (∀ b u, b ≠ a → H2 b = some u → H' b = some u) → (∀ b u, b ≠ a → H2 b = some u → (upd H' a o) b = some u) := fun h b u hb e => by rw [upd_ne hb]; exact h b u hb e
        have sG2 : ∀ {H' : Hp}, (∀ b u, b ≠ a → H2 b = some u → H' b = some u) → Same G2 H' := fun h b u e => h b u (n12 e) (gh b u e)
        have q0 : ∀ b u, b ≠ a → H2 b = some u → H2 b = some u := fun _ _ _ e => e
        refine ⟨_, rfl, _, rfl, a, CP, dx, [], rfl, ha2, pg.cl, pg.n1, by show 0 < 1000; decide, ?_⟩
        have q1 := out (o := .ins CP dx (putF "figures" (.ref fa) [])) q0
        generalize hA1 : upd H2 a (.ins CP dx (putF "figures" (.ref fa) [])) = A1 at q1
        have w1 : A1 a = some (.ins CP dx (putF "figures" (.ref fa) [])) := by rw [← hA1, upd_same]
        refine ⟨_, rfl, _, rfl, a, CP, dx, _, rfl, w1, pg.cl, pg.n2, Nat.lt_of_le_of_lt (length_putF _ _ _) (by show 1 < 1000; decide), ?_⟩
        have q2 := out (o := .ins CP dx (putF "first" (.ref a1) (putF "figures" (.ref fa) []))) q1
        generalize hA2 : upd A1 a (.ins CP dx (putF "first" (.ref a1) (putF "figures" (.ref fa) []))) = A2 at q2
        have w2 : A2 a = some (.ins CP dx (putF "first" (.ref a1) (putF "figures" (.ref fa) []))) := by rw [← hA2, upd_same]
        have le1 : ∀ {f1 : Str} {v1 : V}, (putF f1 v1 []).length ≤ 1 := fun {f1 v1} => Nat.le_refl 1
        have le2 : ∀ {f1 f2 : Str} {v1 v2 : V}, (putF f2 v2 (putF f1 v1 [])).length ≤ 2 := fun {f1 f2 v1 v2} => Nat.le_trans (length_putF _ _ _) (Nat.succ_le_succ le1)
        have le3 : ∀ {f1 f2 f3 : Str} {v1 v2 v3 : V}, (putF f3 v3 (putF f2 v2 (putF f1 v1 []))).length ≤ 3 := fun {f1 f2 f3 v1 v2 v3} => Nat.le_trans (length_putF _ _ _) (Nat.succ_le_succ le2)
        have le4 : ∀ {f1 f2 f3 f4 : Str} {v1 v2 v3 v4 : V}, (putF f4 v4 (putF f3 v3 (putF f2 v2 (putF f1 v1 [])))).length ≤ 4 := fun {f1 f2 f3 f4 v1 v2 v3 v4} => Nat.le_trans (length_putF _ _ _) (Nat.succ_le_succ le3)
        refine ⟨_, rfl, _, rfl, a, CP, dx, _, rfl, w2, pg.cl, pg.n3, Nat.lt_of_le_of_lt le2 (by decide), ?_⟩
        have q3 := out (o := .ins CP dx (putF "second" (.ref a2) (putF "first" (.ref a1) (putF "figures" (.ref fa) [])))) q2
        generalize hA3 : upd A2 a (.ins CP dx (putF "second" (.ref a2) (putF "first" (.ref a1) (putF "figures" (.ref fa) [])))) = A3 at q3
        have w3 : A3 a = some (.ins CP dx (putF "second" (.ref a2) (putF "first" (.ref a1) (putF "figures" (.ref fa) [])))) := by rw [← hA3, upd_same]
        refine ⟨_, rfl, a1, xs1, rfl, .inr (Evl.ex_t (sG2 q3) hs1), _, rfl, a, CP, dx, _, rfl, w3, pg.cl, pg.n4, Nat.lt_of_le_of_lt le3 (by decide), ?_⟩
        rw [hl1]
        have q4 := out (o := .ins CP dx (putF "rows" (.int r1) (putF "second" (.ref a2) (putF "first" (.ref a1) (putF "figures" (.ref fa) []))))) q3
        generalize hA4 : upd A3 a (.ins CP dx (putF "rows" (.int r1) (putF "second" (.ref a2) (putF "first" (.ref a1) (putF "figures" (.ref fa) []))))) = A4 at q4
        have w4 : A4 a = some (.ins CP dx (putF "rows" (.int r1) (putF "second" (.ref a2) (putF "first" (.ref a1) (putF "figures" (.ref fa) []))))) := by rw [← hA4, upd_same]
        refine ⟨_, rfl, a1, xs1, (0 : Nat), _, rfl, rfl, Evl.ex_t (sG2 q4) hs1, atI_nat hx1, b1, ys1, rfl, .inr (Evl.ex_t (sG2 q4) hb1), _, rfl, a, CP, dx, _, rfl, w4, pg.cl, pg.n5, Nat.lt_of_le_of_lt le4 (by decide), ?_⟩
        rw [hc1]
        have q5 := out (o := .ins CP dx (pfl fa (.ref a1) (.ref a2) r1 c1)) q4
        refine kQ pd G2 _ (.ref a1) (.ref a2) r1 c1 ⟨m3.gg, sG2 q5, m3.nw, fun b hb => ?_⟩ (fun b u hb e => q5 b u hb (s3 b u e)) upd_same hd1' hd2 hT1 (by rw [hr12, hc12]; exact hT2)
        by_cases hba : b = a
        · rw [hba]
          exact some_ne upd_same
        · obtain ⟨u, e⟩ := ne_some hb
          exact some_ne (q5 b u hba (s3 b u e))
      · refine ifT (by rw [hc1, hc2, decide_eq_false fun z => hc12 (by have := V.int.inj z; omega)]; rfl) ?_
        exact rd_mk1 fun dd H' s e => kE2 _ (by rw [pd, if_neg fun z => hc12 z.2]) dd H' (s3.trans s) e
    · refine ifT (by rw [hl1, hl2, decide_eq_false fun z => hr12 (by have := V.int.inj z; omega)]; rfl) ?_
      exact rd_mk1 fun dd H' s e => kE2 _ (by rw [pd, if_neg fun z => hr12 z.1]) dd H' (s3.trans s) e
end
end Vd
set_option exponentiation.threshold 20000

namespace Ve
open PySem PySem.Spec PyProof.Rows L2 Dz Ra Mt Kx Ky Re Rb Rc Rd Gn Dn Do Vz Vp Va Vb Vc Vd
def natD (rs : List Nat) : PyData := .tuple (rs.map fun n => PyData.int (n : Nat))
def keepT (T : List (List PyData)) (rs cs : List Nat) : List (List PyData) := rs.map fun i => cs.map fun j => (T.getD i []).getD j .none
def spKeep (K : PySem.W.Frag) : Sp := fun vs H Q _ => ∃ (G : Hp) (x y z : V) (T : List (List PyData)) (rs cs : List Nat) (c : Nat), vs = [x, y, z] ∧ Same G H ∧ Dp K G x (tabT T) ∧ Dp K G y (natD rs) ∧ Dp K G z (natD cs) ∧ (∀ row ∈ T, row.length = c) ∧ (∀ i ∈ rs, i < T.length) ∧ (∀ j ∈ cs, j < c) ∧ rs.length ≤ 1000 ∧ cs.length ≤ 1000 ∧ Ret K G H Q (tabT (keepT T rs cs))
theorem kept_nat {many : Int} : ∀ {ds : List PyData} {low : Int} {i : Nat}, keptBad many ds low i = none → 0 ≤ low → ∃ rs : List Nat, ds = rs.map (fun (n : Nat) => PyData.int n) ∧ (∀ r ∈ rs, (r : Int) < many) ∧ rs.length ≤ (many - low).toNat
  | [], low, i, _, _ => ⟨[], rfl, (fun r hr => nomatch hr), Nat.zero_le _⟩
  | d :: ds, low, i, h, h0 => by
    have h2 : (if wholeD d (some low) (some (many - 1)) then keptBad many ds (intOf d + 1) (i + 1) else some i) = none := h
    by_cases hw : wholeD d (some low) (some (many - 1)) = true
    · rw [if_pos hw] at h2
      cases d with
      | int k =>
        have h3 : (decide (low ≤ k) && decide (k ≤ many - 1)) = true := hw
        rw [Bool.and_eq_true, decide_eq_true_eq, decide_eq_true_eq] at h3
        obtain ⟨rs, e1, e2, e3⟩ := kept_nat (ds := ds) h2 (by show 0 ≤ k + 1; omega)
        have e3' : rs.length ≤ (many - (k + 1)).toNat := e3
        refine ⟨k.toNat :: rs, ?_, fun r hr => ?_, ?_⟩
        · show PyData.int k :: ds = PyData.int (k.toNat : Nat) :: _
          rw [← e1, Int.toNat_of_nonneg (by omega)]
        · rcases List.mem_cons.mp hr with rfl | hr
          · omega
          · exact e2 r hr
        · rw [List.length_cons]
          omega
      | _ => cases hw
    · rw [if_neg hw] at h2
      cases h2
theorem getD_at {α : Type} {l : List α} {i : Nat} {d : α} (h : i < l.length) : l.getD i d = l[i] := by
  rw [List.getD_eq_getElem?_getD, List.getElem?_eq_getElem h]
  rfl
/-- a Pair that is made -/
theorem made_pair {G H G' H' : Hp} {x dx C : Addr} {o : HO} (s : Same G H) (nx : H x = none) (ndx : H dx = none) (ne : dx ≠ x) (m : Mv G (upd (upd H dx (.own x)) x (.ins C dx [])) G' H') (hx : H' x = some o) : Mv G H (upd G' x o) H' := by
  have s1 : Same H (upd (upd H dx (.own x)) x (.ins C dx [])) := (same_new ndx).trans (same_new (by rw [upd_ne ne.symm]; exact nx))
  exact Mv.shut ((Mv.of s s1).trans m) nx (m.no (some_ne upd_same) (old_none s nx)) hx
theorem made_same {H H' : Hp} {x dx C : Addr} (nx : H x = none) (ndx : H dx = none) (h : ∀ b u, b ≠ x → (upd (upd H dx (.own x)) x (.ins C dx [])) b = some u → H' b = some u) : Same H H' := fun b u e => by
  have n1 := ne_of_none e nx
  refine h b u n1 ?_
  rw [upd_ne n1, upd_ne (ne_of_none e ndx)]
  exact e
def natsOf (d : PyData) : List Nat := ((seqOf d).getD []).map fun e => (intOf e).toNat
def cutDue (r c : Nat) (dr dc : PyData) : Option (Str × Nat) :=
  match keptDue r dr with
  | some i => some ("rows", i)
  | none => match keptDue c dc with
    | some i => some ("columns", i)
    | none => none
def LenD (d : PyData) : Prop := ∀ ds, seqOf d = some ds → ds.length ≤ 1000
def spCut (K : PySem.W.Frag) (CP C cK : Addr) : Sp := fun vs H Q E => ∃ (G : Hp) (a : Addr) (x y : V) (dr dc : PyData) (p : Int) (T1 T2 : List (List PyData)) (r c : Nat), vs = [.ref a, x, y] ∧ Same G H ∧ PairAt K CP C G a p T1 T2 r c ∧ (p ≠ 0 → (r : Int) ≤ p ∧ (c : Int) ≤ p) ∧ Dp K G x dr ∧ Dp K G y dc ∧ LenD dr ∧ LenD dc ∧
  (∀ (w : Str) (i : Nat), cutDue r c dr dc = some (w, i) → ∀ dd H', Same H H' → H' dd = some (xd2 "what" "index" (.str w) (.int i)) → E (.ref cK) (some dd) H') ∧
  (cutDue r c dr dc = none → ∀ (v : Addr) (G' H' : Hp), Mv G H G' H' → Same H H' → PairAt K CP C G' v p (keepT T1 (natsOf dr) (natsOf dc)) (keepT T2 (natsOf dr) (natsOf dc)) (natsOf dr).length (natsOf dc).length → Q (.ref v) H')
theorem tab_keep {p : Int} {T : List (List PyData)} {r c : Nat} {rs cs : List Nat} (h : Tab p T r c) (h1 : ∀ i ∈ rs, i < r) (h2 : ∀ j ∈ cs, j < c) (l1 : 1 ≤ rs.length) (l2 : rs.length ≤ r) (l3 : 1 ≤ cs.length) (l4 : cs.length ≤ c) : Tab p (keepT T rs cs) rs.length cs.length := by
  refine ⟨by unfold keepT; rw [List.length_map], fun row hrow => ?_, l1, Nat.le_trans l2 h.r5, l3, Nat.le_trans l4 h.c5⟩
  obtain ⟨i, hi, rfl⟩ := List.mem_map.mp hrow
  refine ⟨List.length_map .., fun e he => ?_⟩
  obtain ⟨j, hj, rfl⟩ := List.mem_map.mp he
  have hil : i < T.length := by rw [h.lr]; exact h1 i hi
  obtain ⟨c1, c2⟩ := h.lc T[i] (List.getElem_mem hil)
  have hjl : j < T[i].length := by rw [c1]; exact h2 j hj
  rw [getD_at hil, getD_at hjl]
  exact c2 _ (List.getElem_mem hjl)
theorem due_kept {m : Nat} {d : PyData} (h : keptDue m d = none) : ∃ ds, seqOf d = some ds ∧ ds = (natsOf d).map (fun (n : Nat) => PyData.int n) ∧ (∀ r ∈ natsOf d, r < m) ∧ 1 ≤ (natsOf d).length ∧ (natsOf d).length ≤ m := by
  cases eq : seqOf d with
  | none =>
    unfold keptDue at h
    rw [eq] at h
    cases h
  | some ds =>
    cases ds with
    | nil =>
      unfold keptDue at h
      rw [eq] at h
      cases h
    | cons d0 ds =>
      have h2 : keptBad m (d0 :: ds) 0 0 = none := by
        unfold keptDue at h
        rw [eq] at h
        exact h
      obtain ⟨rs, e1, e2, e3⟩ := kept_nat h2 (Int.le_refl 0)
      have e4 : natsOf d = rs := by
        unfold natsOf
        rw [eq, e1]
        show (rs.map fun (n : Nat) => PyData.int n).map _ = rs
        rw [List.map_map]
        have : ((fun e => (intOf e).toNat) ∘ fun (n : Nat) => PyData.int n) = id := by
          funext n
          exact Int.toNat_natCast n
        rw [this, List.map_id]
      rw [e4]
      refine ⟨d0 :: ds, rfl, e1, fun r hr => by have := e2 r hr; omega, ?_, by omega⟩
      have : (d0 :: ds).length = rs.length := by rw [e1, List.length_map]
      rw [← this]
      exact Nat.succ_le_succ (Nat.zero_le _)
theorem tabOf_T {T : List (List PyData)} : tabOf (tabT T) = T := by
  unfold tabOf tabT
  show ((T.map PyData.tuple).map fun r => (seqOf r).getD []) = T
  rw [List.map_map]
  exact List.map_id T
theorem len1_T {p : Int} {T : List (List PyData)} {r c : Nat} (h : Tab p T r c) : Len1 (tabT T) := by
  intro ds e
  cases e
  refine ⟨by rw [List.length_map, h.lr]; have := h.r5; omega, fun e he es hes => ?_⟩
  obtain ⟨row, hrow, rfl⟩ := List.mem_map.mp he
  cases hes
  rw [(h.lc _ hrow).1]
  have := h.c5
  omega
theorem pair_fine {p : Int} {T1 T2 : List (List PyData)} {r c : Nat} (h1 : Tab p T1 r c) (h2 : Tab p T2 r c) (hw : p ≠ 0 → (r : Int) ≤ p ∧ (c : Int) ≤ p) : pairDue p (tabT T1) (tabT T2) = none := by
  have t : ∀ {T : List (List PyData)}, Tab p T r c → tableDue p (tabT T) none none = none := fun {T} h => table_fine (ds := T.map .tuple) rfl (by rw [tabOf_T]; exact h) fun e he => by
    obtain ⟨row, _, rfl⟩ := List.mem_map.mp he
    rfl
  unfold pairDue
  rw [t h1, t h2]
  show (if (tabOf (tabT T1)).length = (tabOf (tabT T2)).length ∧ cols0 (tabOf (tabT T1)) = cols0 (tabOf (tabT T2)) then (if wideI p (tabOf (tabT T1)).length (cols0 (tabOf (tabT T1))) then some (none, ("wide" : Str)) else none) else some (none, ("size" : Str))) = none
  rw [tabOf_T, tabOf_T, h1.lr, h2.lr, cols_tab h1, cols_tab h2, if_pos ⟨rfl, rfl⟩]
  have e : wideI p r c = false := by
    unfold wideI
    by_cases hp : p = 0
    · rw [decide_eq_false fun z => z hp]
      rfl
    · obtain ⟨a, b⟩ := hw hp
      rw [decide_eq_true hp, Bool.true_and, decide_eq_false (by split <;> omega)]
  rw [e]
  rfl
def ansD (p : Int) (T : List (List PyData)) (ls rs : List PyData) : PyData := dotD p ls (T.map fun row => dotD p row rs)
def ansDue (p : Int) (r c : Nat) (dl dr : PyData) : Option (Str × Nat) :=
  match lettersDue p dl r with
  | some i => some ("left", i)
  | none => match lettersDue p dr c with
    | some i => some ("right", i)
    | none => none
/-- the numbers of a sequence of data are small -/
def BdS (p : Int) (m : Nat) (d : PyData) : Prop := ∀ ds, seqOf d = some ds → ∀ e ∈ ds, Nu p e → Bd m e
def spAns (K : PySem.W.Frag) (CP C cL : Addr) : Sp := fun vs H Q E => ∃ (G : Hp) (a : Addr) (x y : V) (dl dr : PyData) (p : Int) (T1 T2 : List (List PyData)) (r c m : Nat), vs = [.ref a, x, y] ∧ Same G H ∧ PairAt K CP C G a p T1 T2 r c ∧ Dp K G x dl ∧ Dp K G y dr ∧ LenD dl ∧ LenD dr ∧ m ≤ 12 ∧ (∀ row ∈ T1, ∀ e ∈ row, Bd m e) ∧ (∀ row ∈ T2, ∀ e ∈ row, Bd m e) ∧ BdS p m dl ∧ BdS p m dr ∧
  (∀ (w : Str) (i : Nat), ansDue p r c dl dr = some (w, i) → ∀ dd H', Same H H' → H' dd = some (xd2 "what" "index" (.str w) (.int i)) → E (.ref cL) (some dd) H') ∧
  (∀ ls rs, ansDue p r c dl dr = none → seqOf dl = some ls → seqOf dr = some rs → Ret K G H Q (.tuple [ansD p T1 ls rs, ansD p T2 ls rs]))
theorem bad_none {p : Int} : ∀ {ds : List PyData} {i : Nat}, badN p ds i = none → ∀ d ∈ ds, Nu p d
  | [], _, _, d, hd => by cases hd
  | d :: ds, i, h, e, he => by
    have h2 : (if numD p d then badN p ds (i + 1) else some i) = none := h
    by_cases hn : numD p d = true
    · rw [if_pos hn] at h2
      rcases List.mem_cons.mp he with rfl | he
      · exact hn
      · exact bad_none h2 e he
    · rw [if_neg hn] at h2
      cases h2
theorem due_letters {p : Int} {d : PyData} {m : Nat} (h : lettersDue p d m = none) : ∃ ds, seqOf d = some ds ∧ ds.length = m ∧ ∀ e ∈ ds, Nu p e := by
  unfold lettersDue at h
  cases eq : seqOf d with
  | none =>
    rw [eq] at h
    cases h
  | some ds =>
    rw [eq] at h
    cases e : badN p (ds.take m) 0 with
    | some i =>
      have h2 : (match badN p (ds.take m) 0 with | some i => some i | none => if ds.length = m then none else some (min ds.length m)) = none := h
      rw [e] at h2
      cases h2
    | none =>
      have h2 : (match badN p (ds.take m) 0 with | some i => some i | none => if ds.length = m then none else some (min ds.length m)) = none := h
      rw [e] at h2
      have h3 : (if ds.length = m then none else some (min ds.length m)) = (none : Option Nat) := h2
      by_cases hl : ds.length = m
      · refine ⟨ds, rfl, hl, ?_⟩
        have := bad_none e
        rw [← hl, List.take_length] at this
        exact this
      · rw [if_neg hl] at h3
        cases h3
def spZeroP (K : PySem.W.Frag) (CP C cP : Addr) : Sp := fun vs H Q E => ∃ (G : Hp) (fa : Addr) (x y : V) (r c : PyData) (p : Int), vs = [.ref fa, x, y] ∧ Same G H ∧ FigAt C G fa p ∧ Dp K G x r ∧ Dp K G y c ∧
  (∀ s, sizeDue p r c = some s → ∀ dd H', Same H H' → H' dd = some (.xd [("what", .str s)]) → E (.ref cP) (some dd) H') ∧
  (∀ i j : Nat, sizeDue p r c = none → r = .int i → c = .int j → ∀ (v : Addr) (G' H' : Hp), Mv G H G' H' → Same H H' → PairAt K CP C G' v p (List.replicate i (List.replicate j (zeroD p))) (List.replicate i (List.replicate j (zeroD p))) i j → Q (.ref v) H')
theorem size_fine {p : Int} {r c : PyData} (h : sizeDue p r c = none) : ∃ i j : Nat, r = .int i ∧ c = .int j ∧ 1 ≤ i ∧ i ≤ 5 ∧ 1 ≤ j ∧ j ≤ 5 ∧ (p ≠ 0 → (i : Int) ≤ p ∧ (j : Int) ≤ p) := by
  unfold sizeDue at h
  by_cases h1 : (wholeD r (some 1) (some 5) && wholeD c (some 1) (some 5)) = true
  · rw [if_pos h1] at h
    rw [Bool.and_eq_true] at h1
    obtain ⟨h1, h2⟩ := h1
    cases r with
    | int i =>
      cases c with
      | int j =>
        have a1 : (decide ((1 : Int) ≤ i) && decide (i ≤ 5)) = true := h1
        have a2 : (decide ((1 : Int) ≤ j) && decide (j ≤ 5)) = true := h2
        rw [Bool.and_eq_true, decide_eq_true_eq, decide_eq_true_eq] at a1 a2
        have h3 : (if wideI p i j then some ("wide" : Str) else none) = none := h
        have h4 : wideI p i j = false := by
          cases e : wideI p i j with
          | false => rfl
          | true =>
            rw [e] at h3
            cases h3
        refine ⟨i.toNat, j.toNat, by rw [Int.toNat_of_nonneg (by omega)], by rw [Int.toNat_of_nonneg (by omega)], by omega, by omega, by omega, by omega, fun hp => ?_⟩
        unfold wideI at h4
        rw [decide_eq_true hp, Bool.true_and, decide_eq_false_iff_not] at h4
        split at h4 <;> omega
      | _ => cases h2
    | _ => cases h1
  · rw [if_neg h1] at h
    cases h
section
variable {P : Program} {w : World} {K : PySem.W.Frag} {mg : Str → Option Value} {base : Heap} {C CP gP cT cL cP cK f : Addr} {fd : FuncData} {t5 : Tok}
theorem sc_kept_table : FnScope ["table", "rows", "columns", "column", "row"] ["table", "rows", "columns"] (defScope (top 35)) := ⟨rfl, rfl, rfl, by decide +kernel, rfl, by decide +kernel, by decide +kernel⟩
theorem ok_kept_table (F : FnP K "kept_table" (top 35) [] f fd) (tx : Bn mg) : FnOk P w K mg base CX0 1 f fd ["table", "rows", "columns"] (spKeep K) := by
  refine F.ok sc_kept_table (fun vs H Q E h => ?_) (fun cdv A outer s H vs Q E hr h => ?_)
  · obtain ⟨G, x, y, z, T, rs, cs, c, rfl, _⟩ := h; rfl
  · obtain ⟨G, x, y, z, T, rs, cs, c, rfl, s, hx, hy, hz, hT, hrs, hcs, lr, lc, k⟩ := h
    obtain ⟨a, xs, rfl, ha, hax⟩ := dp_tup hx
    obtain ⟨b, ys, rfl, hb, hay⟩ := dp_tup hy
    obtain ⟨d, zs, rfl, hd, haz⟩ := dp_tup hz
    have l2 := dpAll_len hay
    have l3 := dpAll_len haz
    rw [List.length_map] at l2 l3
    refine ⟨_, PSs.nox (pss_one (ps_ret (pe_callTy call_tuple_of (by rfl) tx.tuple PyProof.Rows.boot_tuple (pa_cons (pe_lc (own := [("row", 4)]) (g := gName 4) (tt := tYes) rfl sc_kept_table.nd (pi_tup (pv 1)) (blkOk_by (own := [("row", 4)]) (N := ["table", "rows", "columns", "column", "row"]) (sc := defScope (top 35)) (by decide +kernel)) (fun _ _ _ _ _ => (pg_name (i := 4) sc_kept_table.nd rfl (by first | exact Or.inl rfl | exact Or.inr rfl))) (fun _ _ _ _ _ => pts_nil) (fun _ _ _ _ _ => (pe_callTy (call_tuple_ofK (K := K) (by rfl)) (by rfl) tx.tuple PyProof.Rows.boot_tuple (pa_cons (pe_lc (own := [("column", 3)]) (g := gName 3) (tt := tYes) rfl sc_kept_table.nd (pi_tupK (K := K) (by rfl) (pv 2)) (blkOk_by (own := [("column", 3)]) (N := ["table", "rows", "columns", "column", "row"]) (sc := relS _ (defScope (top 35))) (by decide +kernel)) (fun _ _ _ _ _ => (pg_name (i := 3) sc_kept_table.nd rfl (by first | exact Or.inl rfl | exact Or.inr rfl))) (fun _ _ _ _ _ => pts_nil) (fun _ _ _ _ _ => (pe_ix (ix_tupK (K := K) (by rfl)) (pe_ix (ix_tupK (K := K) (by rfl)) (pv 0) (pv 4) (fun _ _ => rfl)) (pv 3) (fun _ _ => rfl)))) pa_nil)))) pa_nil)))), ?_⟩
    refine ⟨_, rfl, b, rfl, ⟨ys, Evl.ex_t s hb⟩, fun D hD => lcP (K := K) walk_tup (fun i d => ∃ n, rs[i]? = some n ∧ d = .tuple (cs.map fun j => (T.getD n []).getD j .none)) s hD (by omega) (fun G1 H1 g h _ => Evl.ex_t h (Evl.ex_t g hb)) ?_ ?_⟩
    · rintro i u G1 H1 H2 kn kk hi g1 g2 s1 ⟨rfl, hu⟩ made
      obtain ⟨e, he, hue⟩ := dpAll_get hay hu
      rw [List.getElem?_map] at he
      obtain ⟨n, hn, rfl⟩ := Option.map_eq_some_iff.mp he
      obtain rfl := dp_int hue
      have hnl : n < T.length := hrs n (List.mem_of_getElem? hn)
      refine ⟨rfl, yes ?_⟩
      refine ⟨_, rfl, d, rfl, ⟨zs, Evl.ex_t g2 (Evl.ex_t g1 hd)⟩, fun D2 hD2 => lcP (K := K) walk_tup (fun i d => ∃ m, cs[i]? = some m ∧ d = (T.getD n []).getD m .none) g2 hD2 (by omega) (fun G1 H1 g h _ => Evl.ex_t h (Evl.ex_t (g1.trans g) hd)) ?_ ?_⟩
      · rintro i2 u2 G3 H3 H4 kn2 kk2 hi2 g3 g4 s3 ⟨rfl, hu2⟩ made2
        obtain ⟨e2, he2, hue2⟩ := dpAll_get haz hu2
        rw [List.getElem?_map] at he2
        obtain ⟨m, hm, rfl⟩ := Option.map_eq_some_iff.mp he2
        obtain rfl := dp_int hue2
        obtain ⟨v, hv, hvd⟩ := dpAll_at (i := n) (d := .tuple T[n]) hax (by rw [List.getElem?_map, List.getElem?_eq_getElem hnl]; rfl)
        obtain ⟨q, ws, rfl, hq, haw⟩ := dp_tup hvd
        have hml : m < T[n].length := by rw [hT _ (List.getElem_mem hnl)]; exact hcs m (List.mem_of_getElem? hm)
        obtain ⟨v2, hv2, hvd2⟩ := dpAll_at (i := m) (d := T[n][m]) haw (List.getElem?_eq_getElem hml)
        have gg := g1.trans g3
        refine ⟨rfl, yes ?_⟩
        refine ⟨_, rfl, _, rfl, a, xs, (n : Nat), _, rfl, rfl, Evl.ex_t g4 (Evl.ex_t gg ha), atI_nat hv, _, rfl, q, ws, (m : Nat), _, rfl, rfl, Evl.ex_t g4 (Evl.ex_t gg hq), atI_nat hv2, ?_⟩
        refine made2 _ _ _ _ ⟨m, hm, rfl⟩ (Mv.refl g4) (Same.refl _) ?_
        rw [getD_at hnl, getD_at hml]
        exact dp_same gg _ _ hvd2
      · intro es G3 H3 hle hes m3 s3 hd3
        have ee := all_mapT (f := fun m => (T.getD n []).getD m .none) (hle.trans l3) hes
        subst ee
        obtain ⟨q, ws, e, hq, haw⟩ := dp_lst hd3
        cases e
        refine ⟨D2, ws, rfl, .inl ⟨Evl.ex_l m3.gh hq, fun l hl => ?_⟩⟩
        have m4 := Mv.new (o := .tup ws) m3.gh hl
        exact made _ _ _ _ ⟨n, hn, rfl⟩ (m3.trans m4) (s3.trans (same_new hl)) (.tup (SqT.of upd_same) (dp_sameAll m4.gg _ _ haw))
    · intro es G3 H3 hle hes m3 s3 hd3
      have ee := all_mapT (f := fun n => .tuple (cs.map fun j => (T.getD n []).getD j .none)) (hle.trans l2) hes
      subst ee
      obtain ⟨q, ws, e, hq, haw⟩ := dp_lst hd3
      cases e
      refine ⟨D, ws, rfl, .inl ⟨Evl.ex_l m3.gh hq, fun l hl => ?_⟩⟩
      have m4 := Mv.new (o := .tup ws) m3.gh hl
      refine k _ _ _ (m3.trans m4) (s3.trans (same_new hl)) ?_
      have e1 : tabT (keepT T rs cs) = .tuple (rs.map fun n => .tuple (cs.map fun j => (T.getD n []).getD j .none)) := by
        unfold tabT keepT
        rw [List.map_map]
        rfl
      rw [e1]
      exact .tup (SqT.of upd_same) (dp_sameAll m4.gg _ _ haw)
theorem sc_cut_out : FnScope ["self", "rows", "columns"] ["self", "rows", "columns"] (defScope (inClass (top 34) 7)) := ⟨rfl, rfl, rfl, by decide +kernel, rfl, by decide +kernel, by decide +kernel⟩
theorem ok_cut_out (F : FnQ K "cut_out" (inClass (top 34) 7) f fd) (pg : Pg K CP) {fH : Addr} {fdH : FuncData} (GH : FnOk P w K mg base (L2.CX P w) 3 fH fdH ["places", "many", "what"] (spKept K cK)) (mH : mg "check_kept" = some (.ref fH)) (kpH : PySem.W.keepIn K (.ref fH) = true) (bH : L2.Binds K fdH ["places", "many", "what"] []) {fE : Addr} {fdE : FuncData} (GE : FnOk P w K mg base CX0 1 fE fdE ["table", "rows", "columns"] (spKeep K)) (mE : mg "kept_table" = some (.ref fE)) (kpE : PySem.W.keepIn K (.ref fE) = true) (bE : L2.Binds K fdE ["table", "rows", "columns"] []) {fP : Addr} {fdP : FuncData} (MP : Mk K CP fP) (GP : FnOk P w K mg base (L2.CX P w) 6 fP fdP ["self", "figures", "first", "second"] (spPair K CP C cT cP)) (mP : mg "Pair" = some (.ref CP)) (bP : L2.Binds K fdP ["self", "figures", "first", "second"] []) : FnOk P w K mg base (L2.CX P w) 8 f fd ["self", "rows", "columns"] (spCut K CP C cK) := by
  refine F.ok sc_cut_out (fun vs H Q E h => ?_) (fun cdv A outer s0 H vs Q E hr h => ?_)
  · obtain ⟨G, a, x, y, dr, dc, p, T1, T2, r, c, rfl, _⟩ := h; rfl
  · obtain ⟨G, a, x, y, dr, dc, p, T1, T2, r, c, rfl, s, ⟨⟨fa, dx, v1, v2, ha, fig, hv1, hv2⟩, t1, t2⟩, hw, hx, hy, lr, lc, kE, kQ⟩ := h
    have hrH : Room 3 _ := hr.mono (by decide)
    have hrE : Room 1 _ := hr.mono (by decide)
    have hrP : Room (6 + 1) _ := hr
    refine ⟨_, (pss_cons (ps_set (i := 1) sc_cut_out.nd rfl (Or.inl rfl) (pe_call GH hrH (by rfl) mH kpH bH .nil (passes_call (takes_of rfl rfl rfl rfl) (fun _ _ _ _ h => h)) (pa_cons (pv 1) (pa_cons (pe_fld (pv 0) rfl) (pa_cons pe_str pa_nil)))))
      (pss_cons (ps_set (i := 2) sc_cut_out.nd rfl (Or.inl rfl) (pe_call GH hrH (by rfl) mH kpH bH .nil (passes_call (takes_of rfl rfl rfl rfl) (fun _ _ _ _ h => h)) (pa_cons (pv 2) (pa_cons (pe_fld (pv 0) rfl) (pa_cons pe_str pa_nil)))))
      (pss_one (ps_ret (pe_make MP GP hrP (by rfl) mP bP .nil (passes_call (takes_of rfl rfl rfl rfl) (fun _ _ _ _ h => h)) (pa_cons (pe_fld (pv 0) rfl) (pa_cons (pe_call GE hrE (by rfl) mE kpE bE .nil pass0 (pa_cons (pe_fld (pv 0) rfl) (pa_cons (pv 1) (pa_cons (pv 2) pa_nil)))) (pa_cons (pe_call GE hrE (by rfl) mE kpE bE .nil pass0 (pa_cons (pe_fld (pv 0) rfl) (pa_cons (pv 1) (pa_cons (pv 2) pa_nil)))) pa_nil)))))))), ?_⟩
    refine ⟨_, rfl, _, rfl, a, CP, dx, _, _, rfl, s _ _ ha, pg.cl, pg.n4, pl_rows, G, x, dr, r, "rows", rfl, s, hx, lr, fun i e dd H' s' hdd => kE _ i (by unfold cutDue; rw [e]) dd H' s' hdd, fun ds1 e1 eq1 w1 G1 H1 m1 s1 hd1 => ?_⟩
    obtain ⟨ds1', q1, er, hr1, hr2, hr3⟩ := due_kept e1
    cases eq1.symm.trans q1
    rw [er] at hd1
    refine ⟨_, rfl, _, rfl, a, CP, dx, _, _, rfl, (m1.gg.trans m1.gh) _ _ ha, pg.cl, pg.n5, pl_cols, G1, y, dc, c, "columns", rfl, m1.gh, dp_same m1.gg _ _ hy, lc, fun i e dd H' s' hdd => kE _ i (by unfold cutDue; rw [e1, e]) dd H' (s1.trans s') hdd, fun ds2 e2 eq2 w2 G2 H2 m2 s2 hd2 => ?_⟩
    obtain ⟨ds2', q2, ec, hc1, hc2, hc3⟩ := due_kept e2
    cases eq2.symm.trans q2
    rw [ec] at hd2
    have m3 := m1.trans m2
    have hd1' := dp_same m2.gg _ _ hd1
    have b5 : r ≤ 5 ∧ c ≤ 5 := ⟨t1.r5, t1.c5⟩
    refine ⟨_, rfl, a, CP, dx, _, _, rfl, (m3.gg.trans m3.gh) _ _ ha, pg.cl, pg.n1, pl_fig, _, rfl, a, CP, dx, _, _, rfl, (m3.gg.trans m3.gh) _ _ ha, pg.cl, pg.n2, pl_first, _, rfl, _, rfl, G2, v1, w1, w2, T1, _, _, c, rfl, m3.gh, dp_same m3.gg _ _ hv1, hd1', hd2, fun row h => (t1.lc row h).1, by rw [t1.lr]; exact hr1, hc1, by omega, by omega, fun w3 G3 H3 m4 s4 hd3 => ?_⟩
    have m5 := m3.trans m4
    refine ⟨_, rfl, a, CP, dx, _, _, rfl, (m5.gg.trans m5.gh) _ _ ha, pg.cl, pg.n3, pl_second, _, rfl, _, rfl, G3, v2, w1, w2, T2, _, _, c, rfl, m5.gh, dp_same m5.gg _ _ hv2, dp_same m4.gg _ _ hd1', dp_same m4.gg _ _ hd2, fun row h => (t2.lc row h).1, by rw [t2.lr]; exact hr1, hc1, by omega, by omega, fun w4 G4 H4 m6 s6 hd4 => ?_⟩
    have m7 := m5.trans m6
    intro q dq nq ndq ne
    have tk1 := tab_keep t1 hr1 hc1 hr2 hr3 hc2 hc3
    have tk2 := tab_keep t2 hr1 hc1 hr2 hr3 hc2 hc3
    have pf : pairDue p (tabT (keepT T1 (natsOf dr) (natsOf dc))) (tabT (keepT T2 (natsOf dr) (natsOf dc))) = none := pair_fine tk1 tk2 fun h => by
      obtain ⟨z1, z2⟩ := hw h
      omega
    have sq : Same H4 (upd (upd H4 dq (.own q)) q (.ins CP dq [])) := (same_new ndq).trans (same_new (by rw [upd_ne ne.symm]; exact nq))
    refine ⟨G4, q, dq, fa, w3, w4, _, _, p, rfl, upd_same, m7.gh.trans sq, old_none m7.gh nq, fig.same m7.gg, dp_same m6.gg _ _ hd3, hd4, len1_T tk1, len1_T tk2, (fun i w e => by rw [pf] at e; cases e), (fun w e => by rw [pf] at e; cases e), fun _ G5 H5 u1 u2 r1 c1 m8 kp hq d1 d2 f1 f2 => ⟨rfl, ?_⟩⟩
    rw [tabOf_T] at d1 d2 f1 f2
    have er1 : r1 = (natsOf dr).length := f1.lr.symm.trans tk1.lr
    have ec1 : c1 = (natsOf dc).length := (cols_tab f1).symm.trans (cols_tab tk1)
    subst er1 ec1
    have m9 := made_pair m7.gh nq ndq ne m8 hq
    have gn : G5 q = none := m8.no (some_ne upd_same) (old_none m7.gh nq)
    have sn := same_new (o := .ins CP dq (pfl fa u1 u2 (natsOf dr).length (natsOf dc).length)) gn
    have cd : cutDue r c dr dc = none := by unfold cutDue; rw [e1, e2]
    refine kQ cd q _ H5 (m7.trans m9) (((((s1.trans s2).trans s4).trans s6)).trans (made_same nq ndq kp)) ⟨⟨fa, dq, u1, u2, upd_same, fig.same (m7.trans m9).gg, dp_same sn _ _ d1, dp_same sn _ _ d2⟩, f1, f2⟩
theorem sc_answers : FnScope ["self", "left", "right", "figures", "first", "second"] ["self", "left", "right"] (defScope (inClass (top 34) 8)) := ⟨rfl, rfl, rfl, by decide +kernel, rfl, by decide +kernel, by decide +kernel⟩
theorem ok_answers (F : FnQ K "answers" (inClass (top 34) 8) f fd) (pg : Pg K CP) {fL : Addr} {fdL : FuncData} (GL : FnOk P w K mg base (L2.CX P w) 4 fL fdL ["figures", "numbers", "many", "what"] (spLetters K C cL)) (mL : mg "check_letters" = some (.ref fL)) (kpL : PySem.W.keepIn K (.ref fL) = true) (bL : L2.Binds K fdL ["figures", "numbers", "many", "what"] []) {fM : Addr} {fdM : FuncData} (GM : FnOk P w K mg base CX0 3 fM fdM ["figures", "one", "other"] (spProducts K C)) (mM : mg "summed_products" = some (.ref fM)) (kpM : PySem.W.keepIn K (.ref fM) = true) (bM : L2.Binds K fdM ["figures", "one", "other"] []) {fN : Addr} {fdN : FuncData} (GN : FnOk P w K mg base CX0 3 fN fdN ["figures", "table", "column"] (spColumn K C)) (mN : mg "column_led" = some (.ref fN)) (kpN : PySem.W.keepIn K (.ref fN) = true) (bN : L2.Binds K fdN ["figures", "table", "column"] []) : FnOk P w K mg base (L2.CX P w) 5 f fd ["self", "left", "right"] (spAns K CP C cL) := by
  refine F.ok sc_answers (fun vs H Q E h => ?_) (fun cdv A outer s0 H vs Q E hr h => ?_)
  · obtain ⟨G, a, x, y, dl, dr, p, T1, T2, r, c, m, rfl, _⟩ := h; rfl
  · obtain ⟨G, a, x, y, dl, dr, p, T1, T2, r, c, m, rfl, s, ⟨⟨fa, dx, v1, v2, ha, fig, hv1, hv2⟩, t1, t2⟩, hx, hy, ll, lr, hm, hb1, hb2, hbl, hbr, kE, kQ⟩ := h
    have hrL : Room 4 _ := hr
    have hrM : Room 3 _ := hr.mono (by decide)
    have hrN : Room 3 _ := hr.mono (by decide)
    have op : 0 ≤ p ∧ p ≤ 13 := by
      obtain ⟨op, _⟩ := id fig
      exact off_le op
    have b5 : 1 ≤ r ∧ r ≤ 5 ∧ 1 ≤ c ∧ c ≤ 5 := ⟨t1.r1, t1.r5, t1.c1, t1.c5⟩
    refine ⟨_, (pss_cons (ps_set (i := 3) sc_answers.nd rfl (Or.inl rfl) (pe_fld (pv 0) rfl))
      (pss_cons (ps_set (i := 1) sc_answers.nd rfl (Or.inl rfl) (pe_call GL hrL (by rfl) mL kpL bL .nil (passes_call (takes_of rfl rfl rfl rfl) (fun _ _ _ _ h => h)) (pa_cons (pv 3) (pa_cons (pv 1) (pa_cons (pe_fld (pv 0) rfl) (pa_cons pe_str pa_nil))))))
      (pss_cons (ps_set (i := 2) sc_answers.nd rfl (Or.inl rfl) (pe_call GL hrL (by rfl) mL kpL bL .nil (passes_call (takes_of rfl rfl rfl rfl) (fun _ _ _ _ h => h)) (pa_cons (pv 3) (pa_cons (pv 2) (pa_cons (pe_fld (pv 0) rfl) (pa_cons pe_str pa_nil))))))
      (pss_cons (ps_set (i := 4) sc_answers.nd rfl (Or.inl rfl) (pe_call GM hrM (by rfl) mM kpM bM .nil pass0 (pa_cons (pv 3) (pa_cons (pv 1) (pa_cons (pe_call GN hrN (by rfl) mN kpN bN .nil pass0 (pa_cons (pv 3) (pa_cons (pe_fld (pv 0) rfl) (pa_cons (pv 2) pa_nil)))) pa_nil)))))
      (pss_cons (ps_set (i := 5) sc_answers.nd rfl (Or.inl rfl) (pe_call GM hrM (by rfl) mM kpM bM .nil pass0 (pa_cons (pv 3) (pa_cons (pv 1) (pa_cons (pe_call GN hrN (by rfl) mN kpN bN .nil pass0 (pa_cons (pv 3) (pa_cons (pe_fld (pv 0) rfl) (pa_cons (pv 2) pa_nil)))) pa_nil)))))
      (pss_one (ps_ret (pe_tup (pa_cons (pv 4) (pa_cons (pv 5) pa_nil)))))))))), ?_⟩
    refine ⟨_, rfl, a, CP, dx, _, _, rfl, s _ _ ha, pg.cl, pg.n1, pl_fig, _, rfl, _, rfl, _, rfl, a, CP, dx, _, _, rfl, s _ _ ha, pg.cl, pg.n4, pl_rows, G, fa, x, dl, p, r, "left", rfl, s, fig, hx, by omega, ll, fun i e dd H' s' hdd => kE _ i (by unfold ansDue; rw [e]) dd H' s' hdd, fun ls e1 eq1 w1 G1 H1 m1 s1 hd1 => ?_⟩
    obtain ⟨ls', q1, el, hln⟩ := due_letters e1
    cases eq1.symm.trans q1
    refine ⟨_, rfl, _, rfl, _, rfl, a, CP, dx, _, _, rfl, (m1.gg.trans m1.gh) _ _ ha, pg.cl, pg.n5, pl_cols, G1, fa, y, dr, p, c, "right", rfl, m1.gh, fig.same m1.gg, dp_same m1.gg _ _ hy, by omega, lr, fun i e dd H' s' hdd => kE _ i (by unfold ansDue; rw [e1, e]) dd H' (s1.trans s') hdd, fun rs e2 eq2 w2 G2 H2 m2 s2 hd2 => ?_⟩
    obtain ⟨rs', q2, er, hrn⟩ := due_letters e2
    cases eq2.symm.trans q2
    have m3 := m1.trans m2
    have nl : Nums p m ls := fun d hd => ⟨hln d hd, hbl ls eq1 d hd (hln d hd)⟩
    have nr : Nums p m rs := fun d hd => ⟨hrn d hd, hbr rs eq2 d hd (hrn d hd)⟩
    have row1 : ∀ q ∈ T1, Nums p m q ∧ q.length = rs.length := fun q hq => ⟨fun d hd => ⟨(t1.lc q hq).2 d hd, hb1 q hq d hd⟩, by rw [(t1.lc q hq).1, er]⟩
    have row2 : ∀ q ∈ T2, Nums p m q ∧ q.length = rs.length := fun q hq => ⟨fun d hd => ⟨(t2.lc q hq).2 d hd, hb2 q hq d hd⟩, by rw [(t2.lc q hq).1, er]⟩
    have col : ∀ {T : List (List PyData)}, (∀ q ∈ T, Nums p m q ∧ q.length = rs.length) → Nums p (6 * (m + m) + 4) (T.map fun row => dotD p row rs) := fun {T} h d hd => by
      obtain ⟨q, hq, rfl⟩ := List.mem_map.mp hd
      obtain ⟨h1, h2⟩ := h q hq
      exact ⟨dotD_nu op.1 h1 nr, dotD_bd op h1 nr (by omega) (by omega)⟩
    have hd1' := dp_same m2.gg _ _ hd1
    refine ⟨_, rfl, _, rfl, _, rfl, _, rfl, a, CP, dx, _, _, rfl, (m3.gg.trans m3.gh) _ _ ha, pg.cl, pg.n2, pl_first, _, rfl, G2, fa, v1, w2, p, T1, rs, m, m, rfl, m3.gh, fig.same m3.gg, dp_same m3.gg _ _ hv1, hd2, row1, by rw [t1.lr]; omega, nr, by omega, by omega, fun w3 G3 H3 m4 s4 hd3 => ?_⟩
    have m5 := m3.trans m4
    refine ⟨G3, fa, w1, w3, p, ls, _, m, 6 * (m + m) + 4, rfl, m4.gh, fig.same m5.gg, dp_same m4.gg _ _ hd1', hd3, nl, col row1, by rw [List.length_map, t1.lr, el], by omega, by omega, fun w4 G4 H4 m6 s6 hd4 => ?_⟩
    have m7 := m5.trans m6
    refine ⟨_, rfl, _, rfl, _, rfl, _, rfl, a, CP, dx, _, _, rfl, (m7.gg.trans m7.gh) _ _ ha, pg.cl, pg.n3, pl_second, _, rfl, G4, fa, v2, w2, p, T2, rs, m, m, rfl, m6.gh, fig.same m7.gg, dp_same m7.gg _ _ hv2, dp_same (m4.gg.trans m6.gg) _ _ hd2, row2, by rw [t2.lr]; omega, nr, by omega, by omega, fun w5 G5 H5 m8 s8 hd5 => ?_⟩
    have m9 := m7.trans m8
    refine ⟨G5, fa, w1, w5, p, ls, _, m, 6 * (m + m) + 4, rfl, m8.gh, fig.same m9.gg, dp_same (m4.gg.trans (m6.gg.trans m8.gg)) _ _ hd1', hd5, nl, col row2, by rw [List.length_map, t2.lr, el], by omega, by omega, fun w6 G6 H6 m10 s10 hd6 => ?_⟩
    have m11 := m9.trans m10
    refine ⟨_, rfl, _, rfl, by show 2 ≤ sizeLine; decide, fun l hl => ?_⟩
    have m12 := Mv.new (o := .tup [w4, w6]) m10.gh hl
    have ad : ansDue p r c dl dr = none := by unfold ansDue; rw [e1, e2]
    refine kQ ls rs ad eq1 eq2 _ _ _ (m11.trans m12) ((((((s1.trans s2).trans s4).trans s6).trans s8).trans s10).trans (same_new hl)) (.tup (SqT.of upd_same) (.cons (dp_same (m8.gg.trans (m10.gg.trans m12.gg)) _ _ hd4) (.cons (dp_same m12.gg _ _ hd6) .nil)))
theorem sc_zero_pair : FnScope ["figures", "rows", "columns", "table"] ["figures", "rows", "columns"] (defScope (top 33)) := ⟨rfl, rfl, rfl, by decide +kernel, rfl, by decide +kernel, by decide +kernel⟩
theorem ok_zero_pair (F : FnP K "zero_pair" (top 33) [] f fd) {fZ : Addr} {fdZ : FuncData} (GZ : FnOk P w K mg base (L2.CX P w) 4 fZ fdZ ["figures", "rows", "columns"] (spSizes K C cP)) (mZ : mg "check_sizes" = some (.ref fZ)) (kpZ : PySem.W.keepIn K (.ref fZ) = true) (bZ : L2.Binds K fdZ ["figures", "rows", "columns"] []) {fO : Addr} {fdO : FuncData} (GO : FnOk P w K mg base CX0 1 fO fdO ["figures", "many"] (spZeros K C)) (mO : mg "zero_row" = some (.ref fO)) (kpO : PySem.W.keepIn K (.ref fO) = true) (bO : L2.Binds K fdO ["figures", "many"] []) {fP : Addr} {fdP : FuncData} (MP : Mk K CP fP) (GP : FnOk P w K mg base (L2.CX P w) 6 fP fdP ["self", "figures", "first", "second"] (spPair K CP C cT cP)) (mP : mg "Pair" = some (.ref CP)) (bP : L2.Binds K fdP ["self", "figures", "first", "second"] []) : FnOk P w K mg base (L2.CX P w) 8 f fd ["figures", "rows", "columns"] (spZeroP K CP C cP) := by
  refine F.ok sc_zero_pair (fun vs H Q E h => ?_) (fun cdv A outer s H vs Q E hr h => ?_)
  · obtain ⟨G, fa, x, y, r, c, p, rfl, _⟩ := h; rfl
  · obtain ⟨G, fa, x, y, r, c, p, rfl, s, fig, hx, hy, kE, kQ⟩ := h
    have hrZ : Room 4 _ := hr.mono (by decide)
    have hrO : Room 1 _ := hr.mono (by decide)
    have hrP : Room (6 + 1) _ := hr
    refine ⟨_, (pss_cons (ps_expr (pe_call GZ hrZ (by rfl) mZ kpZ bZ .nil (passes_call (takes_of rfl rfl rfl rfl) (fun _ _ _ _ h => h)) (pa_cons (pv 0) (pa_cons (pv 1) (pa_cons (pv 2) pa_nil)))))
      (pss_cons (ps_set (i := 3) sc_zero_pair.nd rfl (Or.inl rfl) (pe_op (op_or op_rep1 op_repT) (pe_tup (pa_cons (pe_call GO hrO (by rfl) mO kpO bO .nil pass0 (pa_cons (pv 0) (pa_cons (pv 2) pa_nil))) pa_nil)) (pv 1)))
      (pss_one (ps_ret (pe_make MP GP hrP (by rfl) mP bP .nil (passes_call (takes_of rfl rfl rfl rfl) (fun _ _ _ _ h => h)) (pa_cons (pv 0) (pa_cons (pv 3) (pa_cons (pv 3) pa_nil)))))))), ?_⟩
    refine ⟨_, rfl, _, rfl, _, rfl, fa, p, x, y, r, c, rfl, fig.same s, dp_same s _ _ hx, dp_same s _ _ hy, kE, fun e => ?_⟩
    obtain ⟨i, j, rfl, rfl, i1, i5, j1, j5, hw⟩ := size_fine e
    obtain rfl := dp_int hx
    obtain rfl := dp_int hy
    have hzn : Nu p (zeroD p) := nu_val (by obtain ⟨op, _⟩ := id fig; exact (off_le op).1) Int.one_ne_zero
    have tz : Tab p (List.replicate i (List.replicate j (zeroD p))) i j := ⟨List.length_replicate, fun row hrow => by
      rw [List.eq_of_mem_replicate hrow]
      exact ⟨List.length_replicate, fun e he => by rw [List.eq_of_mem_replicate he]; exact hzn⟩, i1, i5, j1, j5⟩
    have pf : pairDue p (tabT (List.replicate i (List.replicate j (zeroD p)))) (tabT (List.replicate i (List.replicate j (zeroD p)))) = none := pair_fine tz tz hw
    refine ⟨_, rfl, _, rfl, G, fa, p, j, rfl, s, fig, j1, j5, fun w1 G1 H1 m1 s1 hd1 => ?_⟩
    refine ⟨by show 1 ≤ sizeLine; decide, fun q hq => ⟨_, rfl, ?_⟩⟩
    have m2 := m1.trans (Mv.new (o := .tup [w1]) m1.gh hq)
    have hd2 := dp_same (Mv.new (o := .tup [w1]) m1.gh hq).gg _ _ hd1
    have s2 := s1.trans (same_new (o := .tup [w1]) hq)
    have hq2 : (upd G1 q (.tup [w1])) q = some (.tup [w1]) := upd_same
    generalize upd G1 q (.tup [w1]) = G2 at m2 hd2 hq2
    generalize upd H1 q (.tup [w1]) = H2 at m2 s2
    have rest : ∀ (v : V) (G3 H3 : Hp), Mv G2 H2 G3 H3 → Same H2 H3 → Dp K G3 v (tabT (List.replicate i (List.replicate j (zeroD p)))) → ∀ x' dx', H3 x' = none → H3 dx' = none → dx' ≠ x' → spPair K CP C cT cP (.ref x' :: ([.ref fa, v, v] ++ [])) (upd (upd H3 dx' (.own x')) x' (.ins CP dx' [])) (fun v H4 => v = .non ∧ Q (.ref x') H4) E := by
      intro v G3 H3 m3 s3 hd3 q' dq nq ndq ne
      have m4 := m2.trans m3
      have sq : Same H3 (upd (upd H3 dq (.own q')) q' (.ins CP dq [])) := (same_new ndq).trans (same_new (by rw [upd_ne ne.symm]; exact nq))
      refine ⟨G3, q', dq, fa, v, v, _, _, p, rfl, upd_same, m3.gh.trans sq, old_none m3.gh nq, fig.same m4.gg, hd3, hd3, len1_T tz, len1_T tz, (fun i w e => by rw [pf] at e; cases e), (fun w e => by rw [pf] at e; cases e), fun _ G5 H5 u1 u2 r1 c1 m8 kp hq d1 d2 f1 f2 => ⟨rfl, ?_⟩⟩
      rw [tabOf_T] at d1 d2 f1 f2
      have er1 : r1 = i := f1.lr.symm.trans tz.lr
      have ec1 : c1 = j := (cols_tab f1).symm.trans (cols_tab tz)
      subst er1 ec1
      have m9 := made_pair m3.gh nq ndq ne m8 hq
      have gn : G5 q' = none := m8.no (some_ne upd_same) (old_none m3.gh nq)
      have sn := same_new (o := .ins CP dq (pfl fa u1 u2 r1 c1)) gn
      refine kQ r1 c1 e rfl rfl q' _ H5 (m4.trans m9) ((s2.trans s3).trans (made_same nq ndq kp)) ⟨⟨fa, dq, u1, u2, upd_same, fig.same (m4.trans m9).gg, dp_same sn _ _ d1, dp_same sn _ _ d2⟩, f1, f2⟩
    by_cases h1 : i = 1
    · subst h1
      refine .inl ⟨q, [w1], rfl, rfl, SqT.of (m2.gh _ _ hq2), ?_⟩
      exact ⟨_, rfl, _, rfl, _, rfl, rest _ G2 H2 (Mv.refl m2.gh) (Same.refl _) (.tup (SqT.of hq2) (.cons hd2 .nil))⟩
    · refine .inr ⟨q, (i : Int), [w1], rfl, rfl, SqT.of (m2.gh _ _ hq2), (fun e => nomatch e), by omega, by omega, by show 1 ≤ 1000; decide, fun l hl => ?_⟩
      have m3 := Mv.new (o := .tup (List.replicate (i : Int).toNat [w1]).flatten) m2.gh hl
      refine ⟨_, rfl, _, rfl, _, rfl, rest _ _ _ m3 (same_new hl) ?_⟩
      have et : tabT (List.replicate i (List.replicate j (zeroD p))) = .tuple (List.replicate i (.tuple (List.replicate j (zeroD p)))) := by
        unfold tabT
        rw [List.map_replicate]
      rw [et]
      exact .tup (SqT.of upd_same) (rep_all (dp_same m3.gg _ _ hd2) i)
end
end Ve
set_option maxHeartbeats 2000000
set_option exponentiation.threshold 20000
namespace Lm
open PySem PySem.Spec L2 Dz Mt Ra Rc Dn Do Vz Vb Vd Ve
theorem low1 (i : Int) : lowT i 1 = i ∧ lowB i 1 = 1 := by
  have h := low_one (t := lowT i 1) (b := lowB i 1) (t' := i) (b' := 1) (low_low Int.one_ne_zero) ⟨Int.le_refl 1, Nat.gcd_one_right _⟩ (low_cross)
  exact h
theorem val1 (i : Int) : valD 0 i 1 = .tuple [.int i, .int 1] := by
  unfold valD
  rw [if_pos rfl, (low1 i).1, (low1 i).2]
theorem times_ok {p : Int} {k l : Nat} {d e : PyData} (hp : 0 ≤ p ∧ p ≤ 13) (n1 : Nu p d) (b1 : Bd k d) (n2 : Nu p e) (b2 : Bd l e) : Nu p (timesD p d e) ∧ Bd (k + l + 4) (timesD p d e) := by
  have h1 := nuB n1
  have h2 := nuB n2
  have m1 : (numT d * numT e).natAbs < 2 ^ (k + l) := by
    rw [Int.natAbs_mul, Nat.pow_add]
    exact Nat.mul_lt_mul'' b1.1 b2.1
  have m2 : (numB d * numB e).natAbs < 2 ^ (k + l) := by
    rw [Int.natAbs_mul, Nat.pow_add]
    exact Nat.mul_lt_mul'' b1.2 b2.2
  have w := Nat.pow_le_pow_right (n := 2) (by decide) (show k + l ≤ k + l + 4 by omega)
  exact ⟨nu_val hp.1 (Int.mul_ne_zero (by omega) (by omega)), val_bd hp (by omega) (Nat.lt_of_lt_of_le m1 w) (Nat.lt_of_lt_of_le m2 w)⟩
theorem plus_ok {p : Int} {k l : Nat} {d e : PyData} (hp : 0 ≤ p ∧ p ≤ 13) (n1 : Nu p d) (b1 : Bd k d) (n2 : Nu p e) (b2 : Bd l e) : Nu p (plusD p d e) ∧ Bd (k + l + 4) (plusD p d e) := by
  have h1 := nuB n1
  have h2 := nuB n2
  have m1 : (numT d * numB e).natAbs < 2 ^ (k + l) := by
    rw [Int.natAbs_mul, Nat.pow_add]
    exact Nat.mul_lt_mul'' b1.1 b2.2
  have m3 : (numT e * numB d).natAbs < 2 ^ (k + l) := by
    rw [Int.natAbs_mul, Nat.add_comm, Nat.pow_add]
    exact Nat.mul_lt_mul'' b2.1 b1.2
  have m2 : (numB d * numB e).natAbs < 2 ^ (k + l) := by
    rw [Int.natAbs_mul, Nat.pow_add]
    exact Nat.mul_lt_mul'' b1.2 b2.2
  have w := Nat.pow_le_pow_right (n := 2) (by decide) (show k + l ≤ k + l + 4 by omega)
  have w2 : (2 : Nat) ^ (k + l + 4) = 16 * 2 ^ (k + l) := by rw [Nat.pow_add, Nat.mul_comm]
  refine ⟨nu_val hp.1 (Int.mul_ne_zero (by omega) (by omega)), val_bd hp (by omega) ?_ (Nat.lt_of_lt_of_le m2 w)⟩
  have := Int.natAbs_add_le (numT d * numB e) (numT e * numB d)
  omega
/-- the sum behind i turns -/
def part (p : Int) (ds es : List PyData) (i : Nat) : PyData := (List.zipWith (timesD p) (ds.take i) (es.take i)).foldl (plusD p) (zeroD p)
theorem part_all {p : Int} {ds es : List PyData} {n : Nat} (h1 : ds.length = n) (h2 : es.length = n) : part p ds es n = ldotD p ds es := by
  unfold part ldotD
  rw [← h1, List.take_length, h1, ← h2, List.take_length]
theorem part_step {p : Int} {ds es : List PyData} {i : Nat} {d e : PyData} (h1 : ds[i]? = some d) (h2 : es[i]? = some e) : part p ds es (i + 1) = plusD p (part p ds es i) (timesD p d e) := by
  unfold part
  have l1 : i < ds.length := (List.getElem?_eq_some_iff.mp h1).1
  have l2 : i < es.length := (List.getElem?_eq_some_iff.mp h2).1
  rw [List.take_add_one, List.take_add_one, h1, h2]
  show (List.zipWith (timesD p) (ds.take i ++ [d]) (es.take i ++ [e])).foldl (plusD p) (zeroD p) = _
  rw [List.zipWith_append (by rw [List.length_take, List.length_take]; omega), List.foldl_append]
  rfl
theorem zero_ok {p : Int} (hp : 0 ≤ p ∧ p ≤ 13) : Nu p (zeroD p) ∧ Bd 4 (zeroD p) := ⟨nu_val hp.1 Int.one_ne_zero, val_bd hp (by omega) (by decide) (by decide)⟩
theorem part_ok {p : Int} {m n : Nat} {ds es : List PyData} (hp : 0 ≤ p ∧ p ≤ 13) (h1 : Nums p m ds) (h2 : Nums p n es) : ∀ i, i ≤ ds.length → i ≤ es.length → Nu p (part p ds es i) ∧ Bd (4 + i * (m + n + 8)) (part p ds es i)
  | 0, _, _ => by
    rw [Nat.zero_mul]
    exact zero_ok hp
  | i + 1, a, b => by
    obtain ⟨q1, q2⟩ := part_ok hp h1 h2 i (by omega) (by omega)
    have e1 : ds[i]? = some ds[i] := List.getElem?_eq_getElem (by omega)
    have e2 : es[i]? = some es[i] := List.getElem?_eq_getElem (by omega)
    rw [part_step e1 e2]
    obtain ⟨n1, b1⟩ := h1 ds[i] (List.getElem_mem _)
    obtain ⟨n2, b2⟩ := h2 es[i] (List.getElem_mem _)
    obtain ⟨t1, t2⟩ := times_ok hp n1 b1 n2 b2
    obtain ⟨u1, u2⟩ := plus_ok hp q1 q2 t1 t2
    refine ⟨u1, ?_⟩
    have e : 4 + (i + 1) * (m + n + 8) = 4 + i * (m + n + 8) + (m + n + 4) + 4 := by
      rw [Nat.add_mul]
      omega
    rw [e]
    exact u2
structure Sh (n : Nat) (d : PyData) : Prop where
  lay : d.canLay0 = true
  dep : d.depth ≤ n
  eq : PyData.eqv d d = true
theorem Sh.shaped {n : Nat} {d : PyData} (h : Sh n d) (hn : n ≤ 64) : SeqAt.shaped d = true := by
  show (d.canLay0 && decide (d.depth ≤ 64)) = true
  rw [Bool.and_eq_true]
  exact ⟨h.lay, decide_eq_true (Nat.le_trans h.dep hn)⟩
theorem sh_all {n : Nat} : ∀ {ds : List PyData}, (∀ d ∈ ds, Sh n d) → PyData.canLayAll0 ds = true ∧ PyData.depthAll ds ≤ n ∧ PyData.eqvAll ds ds = true
  | [], _ => ⟨by simp [PyData.canLayAll0], by simp [PyData.depthAll], by simp [PyData.eqvAll]⟩
  | d :: ds, h => by
    obtain ⟨h1, h2, h3⟩ := sh_all (ds := ds) fun e he => h e (List.mem_cons_of_mem _ he)
    obtain ⟨a, b, c⟩ := h d (List.mem_cons_self ..)
    refine ⟨by simp [PyData.canLayAll0, a, h1], ?_, by simp [PyData.eqvAll, c, h3]⟩
    simp only [PyData.depthAll]
    omega
theorem sh_tup {n : Nat} {ds : List PyData} (h : ∀ d ∈ ds, Sh n d) : Sh (n + 1) (.tuple ds) := by
  obtain ⟨h1, h2, h3⟩ := sh_all h
  refine ⟨by simp only [PyData.canLay0]; exact h1, ?_, by simp only [PyData.eqv]; exact h3⟩
  simp only [PyData.depth]
  omega
theorem sh_lst {n : Nat} {ds : List PyData} (h : ∀ d ∈ ds, Sh n d) : Sh (n + 1) (.list ds) := by
  obtain ⟨h1, h2, h3⟩ := sh_all h
  refine ⟨by simp only [PyData.canLay0]; exact h1, ?_, by simp only [PyData.eqv]; exact h3⟩
  simp only [PyData.depth]
  omega
theorem sh_int {n : Nat} (i : Int) : Sh n (.int i) := ⟨by simp [PyData.canLay0], by simp [PyData.depth], by simp [PyData.eqv]⟩
theorem sh_str {n : Nat} {i : Str} (h : PyData.strOk i = true) : Sh n (.str i) := ⟨by simp [PyData.canLay0, h], by simp [PyData.depth], by simp [PyData.eqv]⟩
theorem sh_none {n : Nat} : Sh n .none := ⟨by simp [PyData.canLay0], by simp [PyData.depth], by simp [PyData.eqv]⟩
theorem sh_num {p : Int} {d : PyData} (h : Nu p d) : Sh 1 d := by
  by_cases hp : p = 0
  · subst hp
    obtain ⟨t, b, rfl, _⟩ := nu0 h
    exact sh_tup fun e he => by
      rcases List.mem_cons.mp he with rfl | he
      · exact sh_int t
      · rcases List.mem_cons.mp he with rfl | he
        · exact sh_int b
        · cases he
  · obtain ⟨i, rfl, _⟩ := nup hp h
    exact sh_int i
theorem sh_tab {p : Int} {T : List (List PyData)} {r c : Nat} (h : Tab p T r c) : Sh 3 (tabT T) := by
  refine sh_tup fun d hd => ?_
  obtain ⟨row, hrow, rfl⟩ := List.mem_map.mp hd
  exact sh_tup fun e he => sh_num ((h.lc row hrow).2 e he)
def atomT : PyData → Bool
  | .int i => decide (i.natAbs < 32)
  | .none => true
  | .bool _ => true
  | .str _ => true
  | _ => false
def tameD : PyData → Bool
  | .list ds => ds.all atomT
  | .tuple ds => ds.all atomT
  | d => atomT d
theorem tame2 {t b : Int} (h : tameD (.tuple [.int t, .int b]) = true) : t.natAbs < 32 ∧ b.natAbs < 32 := by
  have h2 : (decide (t.natAbs < 32) && (decide (b.natAbs < 32) && true)) = true := h
  simp only [Bool.and_eq_true, decide_eq_true_eq] at h2
  exact ⟨h2.1, h2.2.1⟩
theorem tame_bd {p : Int} {d : PyData} (h : tameD d = true) (n : Nu p d) : Bd 5 d := by
  by_cases hp : p = 0
  · subst hp
    obtain ⟨t, b, rfl, _⟩ := nu0 n
    obtain ⟨h1, h2⟩ := tame2 h
    exact ⟨h1, h2⟩
  · obtain ⟨i, rfl, _⟩ := nup hp n
    have h2 : decide (i.natAbs < 32) = true := h
    exact ⟨of_decide_eq_true h2, show (1 : Int).natAbs < 2 ^ 5 by decide⟩
end Lm
set_option exponentiation.threshold 20000

namespace La
open PySem PySem.Spec PyProof.Rows L2 Dz Ra Mt Kx Ky Re Rb Rc Rd Gn Dn Do Vz Vp Va Vb Vc Vd Ve Lm
def tabL (T : List (List PyData)) : PyData := .list (T.map .list)
def spNum (K : PySem.W.Frag) : Sp := fun vs H Q _ => ∃ (G : Hp) (p n : Int), vs = [.int p, .int n] ∧ Off p ∧ Same G H ∧ Ret K G H Q (valD p n 1)
def spBin (K : PySem.W.Frag) (g : Int → PyData → PyData → PyData) : Sp := fun vs H Q _ => ∃ (G : Hp) (p : Int) (x y : V) (d e : PyData) (k : Nat), vs = [.int p, x, y] ∧ Off p ∧ Same G H ∧ Dp K G x d ∧ Dp K G y e ∧ Nu p d ∧ Nu p e ∧ Bd k d ∧ Bd k e ∧ k ≤ 950 ∧ Ret K G H Q (g p d e)
def spBlank (K : PySem.W.Frag) : Sp := fun vs H Q _ => ∃ (G : Hp) (p : Int) (r c : Nat), vs = [.int p, .int r, .int c] ∧ Off p ∧ Same G H ∧ r ≤ 5 ∧ c ≤ 5 ∧ Ret K G H Q (tabL (List.replicate r (List.replicate c (zeroD p))))
def spDot (K : PySem.W.Frag) : Sp := fun vs H Q _ => ∃ (G : Hp) (p : Int) (x y : V) (ds es : List PyData) (m n : Nat), vs = [.int p, x, y] ∧ Off p ∧ Same G H ∧ Dp K G x (.list ds) ∧ Dp K G y (.list es) ∧ Nums p m ds ∧ Nums p n es ∧ ds.length = es.length ∧ ds.length ≤ 5 ∧ m + n ≤ 150 ∧ Ret K G H Q (ldotD p ds es)
def spTup (K : PySem.W.Frag) : Sp := fun vs H Q _ => ∃ (G : Hp) (x : V) (T : List (List PyData)), vs = [x] ∧ Same G H ∧ Dp K G x (tabL T) ∧ T.length ≤ 1000 ∧ Ret K G H Q (tabT T)
def spIsN (K : PySem.W.Frag) : Sp := fun vs H Q _ => ∃ (p : Int) (x : V) (d : PyData), vs = [.int p, x] ∧ Off p ∧ Dp K H x d ∧ (∀ t b, d = .tuple [.int t, .int b] → Sm4 t ∧ Sm4 b) ∧ Q (.bl (numD p d)) H
theorem bd_sm {k : Nat} {d : PyData} (h : Bd k d) (hk : k ≤ 1000) : Sm (numT d) ∧ Sm (numB d) := ⟨sm_le hk h.1, sm_le hk h.2⟩
theorem sm4_add {i j : Int} (h1 : i.natAbs < 2 ^ 2000) (h2 : j.natAbs < 2 ^ 2000) : Sm4 (i + j) := by
  have h := Int.natAbs_add_le i j
  have e : (2 : Nat) ^ 2001 = 2 * 2 ^ 2000 := by rw [Nat.pow_succ, Nat.mul_comm]
  exact sm4_le (k := 2001) (by decide) (by rw [e]; omega)
theorem zipR {α : Type} {i : Nat} {x : α} {l : List α} (h : l[i]? = some x) : atI l (0 + (i : Int)) = some x := by
  rw [Int.zero_add]
  exact atI_nat h
theorem fdec {a b : Int} (h : ¬ a = b) : decide (V.int a = V.int b) = false := decide_eq_false fun z => h (V.int.inj z)
section
variable {P : Program} {w : World} {K : PySem.W.Frag} {mg : Str → Option Value} {base : Heap} {C CP f : Addr} {fd : FuncData}
theorem sc__law_num : FnScope ["_law_p", "_law_many"] ["_law_p", "_law_many"] (defScope (top 45)) := ⟨rfl, rfl, rfl, by decide +kernel, rfl, by decide +kernel, by decide +kernel⟩
theorem ok__law_num (F : FnP K "_law_num" (top 45) [] f fd) (tx : Bn mg) : FnOk P w K mg base CX0 1 f fd ["_law_p", "_law_many"] (spNum K) := by
  refine F.ok sc__law_num (fun vs H Q E h => ?_) (fun cdv A outer s H vs Q E hr h => ?_)
  · obtain ⟨G, p, n, rfl, _⟩ := h; rfl
  · obtain ⟨G, p, n, rfl, op, s, k⟩ := h
    refine ⟨_, PSs.nox (pss_cons (ps_if (pt_cmpR op_eq (pv 0) pe_int (by rfl)) (pss_one (ps_ret (pe_tup (pa_cons (pv 1) (pa_cons pe_int pa_nil))))) pss_nil)
      (pss_one (ps_ret (pe_op op_mod (pe_callTy call_int1 (by rfl) tx.int PyProof.Rows.boot_int (pa_cons (pv 1) pa_nil)) (pv 0))))), ?_⟩
    refine ⟨_, rfl, rfl, _, rfl, ?_⟩
    by_cases hp : p = 0
    · subst hp
      refine ifT (decide_eq_true rfl) ⟨_, rfl, by show 2 ≤ sizeLine; decide, fun q hq => ?_⟩
      rw [val1] at k
      exact k _ _ _ (Mv.new s hq) (same_new hq) (dp_of2 (SqT.of upd_same))
    · refine ifF (fdec hp) ⟨_, rfl, .inl ⟨_, rfl, _, rfl, _, _, rfl, rfl, (off_pos op hp).1, ?_⟩⟩
      refine k _ _ _ (Mv.refl s) (Same.refl _) ?_
      unfold valD
      rw [if_neg hp]
      exact .int _
theorem sc__law_plus : FnScope ["_law_p", "_law_one", "_law_other"] ["_law_p", "_law_one", "_law_other"] (defScope (top 46)) := ⟨rfl, rfl, rfl, by decide +kernel, rfl, by decide +kernel, by decide +kernel⟩
theorem ok__law_plus (F : FnP K "_law_plus" (top 46) [] f fd) (tx : Bn mg) {fL : Addr} {fdL : FuncData} (GL : FnOk P w K mg base CX0 2 fL fdL ["_law_top", "_law_bottom"] spLowL) (mL : mg "_law_ratio" = some (.ref fL)) (kpL : PySem.W.keepIn K (.ref fL) = true) (bL : L2.Binds K fdL ["_law_top", "_law_bottom"] []) : FnOk P w K mg base CX0 3 f fd ["_law_p", "_law_one", "_law_other"] (spBin K plusD) := by
  refine F.ok sc__law_plus (fun vs H Q E h => ?_) (fun cdv A outer s H vs Q E hr h => ?_)
  · obtain ⟨G, p, x, y, d, e, kk, rfl, _⟩ := h; rfl
  · obtain ⟨G, p, x, y, d, e, kk, rfl, op, s, hd, he, n1, n2, b1, b2, hk, k⟩ := h
    have hrL : Room 2 _ := hr
    obtain ⟨sT1, sB1⟩ := bd_sm b1 (by omega)
    obtain ⟨sT2, sB2⟩ := bd_sm b2 (by omega)
    refine ⟨_, PSs.nox (pss_cons (ps_if (pt_cmpR op_eq (pv 0) pe_int (by rfl)) (pss_cons (ps_if (PW.pt (pw_and (pt_cmpR op_eq (pe_ix ix_tup (pv 1) pe_int (fun _ _ => rfl)) pe_int (by rfl)) (pw_and1 (pt_cmpR op_eq (pe_ix ix_tup (pv 2) pe_int (fun _ _ => rfl)) pe_int (by rfl))))) (pss_one (ps_ret (pe_tup (pa_cons (pe_op op_add (pe_ix ix_tup (pv 1) pe_int (fun _ _ => rfl)) (pe_ix ix_tup (pv 2) pe_int (fun _ _ => rfl))) (pa_cons pe_int pa_nil))))) pss_nil)
      (pss_one (ps_ret (pe_call GL hrL (by rfl) mL kpL bL .nil pass0 (pa_cons (pe_op op_add (pe_op op_mulW (pe_ix ix_tup (pv 1) pe_int (fun _ _ => rfl)) (pe_ix ix_tup (pv 2) pe_int (fun _ _ => rfl))) (pe_op op_mulW (pe_ix ix_tup (pv 2) pe_int (fun _ _ => rfl)) (pe_ix ix_tup (pv 1) pe_int (fun _ _ => rfl)))) (pa_cons (pe_op op_mulW (pe_ix ix_tup (pv 1) pe_int (fun _ _ => rfl)) (pe_ix ix_tup (pv 2) pe_int (fun _ _ => rfl))) pa_nil)))))) pss_nil)
      (pss_one (ps_ret (pe_op op_mod (pe_callTy call_int1 (by rfl) tx.int PyProof.Rows.boot_int (pa_cons (pe_op op_add (pv 1) (pv 2)) pa_nil)) (pv 0))))), ?_⟩
    refine ⟨_, rfl, rfl, _, rfl, ?_⟩
    by_cases hp : p = 0
    · subst hp
      obtain ⟨t, b, rfl, lo1⟩ := nu0 n1
      obtain ⟨u, v, rfl, lo2⟩ := nu0 n2
      obtain ⟨a1, rfl, hx⟩ := dp_two hd
      obtain ⟨a2, rfl, hy⟩ := dp_two he
      have nb : b ≠ 0 := by have := lo1.1; omega
      have nv : v ≠ 0 := by have := lo2.1; omega
      refine ifT (decide_eq_true rfl) ⟨_, rfl, _, _, _, _, rfl, rfl, (Evl.ex_t s hx), rfl, rfl, _, rfl, ?_⟩
      by_cases hb1 : b = 1
      · refine ifT (decide_eq_true (congrArg V.int hb1)) ⟨_, rfl, _, _, _, _, rfl, rfl, (Evl.ex_t s hy), rfl, rfl, _, rfl, ?_⟩
        by_cases hv1 : v = 1
        · subst hb1 hv1
          refine ifT (decide_eq_true rfl) ?_
          refine ⟨_, rfl, _, _, _, _, rfl, rfl, (Evl.ex_t s hx), rfl, _, rfl, _, _, _, _, rfl, rfl, (Evl.ex_t s hy), rfl, _, _, rfl, rfl, by show 2 ≤ sizeLine; decide, fun q hq => ?_⟩
          have e : plusD 0 (.tuple [.int t, .int 1]) (.tuple [.int u, .int 1]) = .tuple [.int (t + u), .int 1] := by
            show valD 0 (t * 1 + u * 1) (1 * 1) = _
            rw [Int.mul_one, Int.mul_one, Int.mul_one, val1]
          rw [e] at k
          exact k _ _ _ (Mv.new s hq) (same_new hq) (dp_of2 (SqT.of upd_same))
        · refine ifF (fdec hv1) ?_
          refine ⟨_, rfl, _, _, _, _, rfl, rfl, (Evl.ex_t s hx), rfl, _, rfl, _, _, _, _, rfl, rfl, (Evl.ex_t s hy), rfl, _, _, rfl, rfl, sm_mul sT1 sB2, _, rfl, _, _, _, _, rfl, rfl, (Evl.ex_t s hy), rfl, _, rfl, _, _, _, _, rfl, rfl, (Evl.ex_t s hx), rfl, _, _, rfl, rfl, sm_mul sT2 sB1, _, _, rfl, rfl, _, rfl, _, _, _, _, rfl, rfl, (Evl.ex_t s hx), rfl, _, rfl, _, _, _, _, rfl, rfl, (Evl.ex_t s hy), rfl, _, _, rfl, rfl, sm_mul sB1 sB2, ?_⟩
          refine ⟨_, _, rfl, Int.mul_ne_zero nb nv, sm4_add (sm_prod sT1 sB2) (sm_prod sT2 sB1), sm4_of (sm_prod sB1 sB2), fun q hq => ?_⟩
          refine k _ _ _ (Mv.new s hq) (same_new hq) ?_
          exact dp_of2 (SqT.of upd_same)
      · refine ifF (fdec hb1) ?_
        refine ⟨_, rfl, _, _, _, _, rfl, rfl, (Evl.ex_t s hx), rfl, _, rfl, _, _, _, _, rfl, rfl, (Evl.ex_t s hy), rfl, _, _, rfl, rfl, sm_mul sT1 sB2, _, rfl, _, _, _, _, rfl, rfl, (Evl.ex_t s hy), rfl, _, rfl, _, _, _, _, rfl, rfl, (Evl.ex_t s hx), rfl, _, _, rfl, rfl, sm_mul sT2 sB1, _, _, rfl, rfl, _, rfl, _, _, _, _, rfl, rfl, (Evl.ex_t s hx), rfl, _, rfl, _, _, _, _, rfl, rfl, (Evl.ex_t s hy), rfl, _, _, rfl, rfl, sm_mul sB1 sB2, ?_⟩
        refine ⟨_, _, rfl, Int.mul_ne_zero nb nv, sm4_add (sm_prod sT1 sB2) (sm_prod sT2 sB1), sm4_of (sm_prod sB1 sB2), fun q hq => ?_⟩
        refine k _ _ _ (Mv.new s hq) (same_new hq) ?_
        exact dp_of2 (SqT.of upd_same)
    · refine ifF (fdec hp) ?_
      obtain ⟨i, rfl, i0, i1⟩ := nup hp n1
      obtain ⟨j, rfl, j0, j1⟩ := nup hp n2
      obtain rfl := dp_int hd
      obtain rfl := dp_int he
      obtain ⟨p0, p13⟩ := off_pos op hp
      have e : plusD p (.int i) (.int j) = .int ((i + j) % p) := by
        show valD p (i * 1 + j * 1) (1 * 1) = _
        unfold valD
        rw [if_neg hp, Int.mul_one, Int.mul_one]
      rw [e] at k
      refine ⟨_, rfl, _, rfl, _, _, rfl, rfl, .inl ⟨_, rfl, _, rfl, _, _, rfl, rfl, p0, k _ _ _ (Mv.refl s) (Same.refl _) (.int _)⟩⟩
theorem sc__law_times : FnScope ["_law_p", "_law_one", "_law_other"] ["_law_p", "_law_one", "_law_other"] (defScope (top 47)) := ⟨rfl, rfl, rfl, by decide +kernel, rfl, by decide +kernel, by decide +kernel⟩
theorem ok__law_times (F : FnP K "_law_times" (top 47) [] f fd) (tx : Bn mg) {fL : Addr} {fdL : FuncData} (GL : FnOk P w K mg base CX0 2 fL fdL ["_law_top", "_law_bottom"] spLowL) (mL : mg "_law_ratio" = some (.ref fL)) (kpL : PySem.W.keepIn K (.ref fL) = true) (bL : L2.Binds K fdL ["_law_top", "_law_bottom"] []) : FnOk P w K mg base CX0 3 f fd ["_law_p", "_law_one", "_law_other"] (spBin K timesD) := by
  refine F.ok sc__law_times (fun vs H Q E h => ?_) (fun cdv A outer s H vs Q E hr h => ?_)
  · obtain ⟨G, p, x, y, d, e, kk, rfl, _⟩ := h; rfl
  · obtain ⟨G, p, x, y, d, e, kk, rfl, op, s, hd, he, n1, n2, b1, b2, hk, k⟩ := h
    have hrL : Room 2 _ := hr
    obtain ⟨sT1, sB1⟩ := bd_sm b1 (by omega)
    obtain ⟨sT2, sB2⟩ := bd_sm b2 (by omega)
    refine ⟨_, PSs.nox (pss_cons (ps_if (pt_cmpR op_eq (pv 0) pe_int (by rfl)) (pss_cons (ps_if (PW.pt (pw_and (pt_cmpR op_eq (pe_ix ix_tup (pv 1) pe_int (fun _ _ => rfl)) pe_int (by rfl)) (pw_and1 (pt_cmpR op_eq (pe_ix ix_tup (pv 2) pe_int (fun _ _ => rfl)) pe_int (by rfl))))) (pss_one (ps_ret (pe_tup (pa_cons (pe_op op_mulW (pe_ix ix_tup (pv 1) pe_int (fun _ _ => rfl)) (pe_ix ix_tup (pv 2) pe_int (fun _ _ => rfl))) (pa_cons pe_int pa_nil))))) pss_nil)
      (pss_one (ps_ret (pe_call GL hrL (by rfl) mL kpL bL .nil pass0 (pa_cons (pe_op op_mulW (pe_ix ix_tup (pv 1) pe_int (fun _ _ => rfl)) (pe_ix ix_tup (pv 2) pe_int (fun _ _ => rfl))) (pa_cons (pe_op op_mulW (pe_ix ix_tup (pv 1) pe_int (fun _ _ => rfl)) (pe_ix ix_tup (pv 2) pe_int (fun _ _ => rfl))) pa_nil)))))) pss_nil)
      (pss_one (ps_ret (pe_op op_mod (pe_callTy call_int1 (by rfl) tx.int PyProof.Rows.boot_int (pa_cons (pe_op op_mul (pv 1) (pv 2)) pa_nil)) (pv 0))))), ?_⟩
    refine ⟨_, rfl, rfl, _, rfl, ?_⟩
    by_cases hp : p = 0
    · subst hp
      obtain ⟨t, b, rfl, lo1⟩ := nu0 n1
      obtain ⟨u, v, rfl, lo2⟩ := nu0 n2
      obtain ⟨a1, rfl, hx⟩ := dp_two hd
      obtain ⟨a2, rfl, hy⟩ := dp_two he
      have nb : b ≠ 0 := by have := lo1.1; omega
      have nv : v ≠ 0 := by have := lo2.1; omega
      refine ifT (decide_eq_true rfl) ⟨_, rfl, _, _, _, _, rfl, rfl, (Evl.ex_t s hx), rfl, rfl, _, rfl, ?_⟩
      by_cases hb1 : b = 1
      · refine ifT (decide_eq_true (congrArg V.int hb1)) ⟨_, rfl, _, _, _, _, rfl, rfl, (Evl.ex_t s hy), rfl, rfl, _, rfl, ?_⟩
        by_cases hv1 : v = 1
        · subst hb1 hv1
          refine ifT (decide_eq_true rfl) ?_
          refine ⟨_, rfl, _, _, _, _, rfl, rfl, (Evl.ex_t s hx), rfl, _, rfl, _, _, _, _, rfl, rfl, (Evl.ex_t s hy), rfl, _, _, rfl, rfl, sm_mul sT1 sT2, by show 2 ≤ sizeLine; decide, fun q hq => ?_⟩
          have e : timesD 0 (.tuple [.int t, .int 1]) (.tuple [.int u, .int 1]) = .tuple [.int (t * u), .int 1] := by
            show valD 0 (t * u) (1 * 1) = _
            rw [Int.mul_one, val1]
          rw [e] at k
          exact k _ _ _ (Mv.new s hq) (same_new hq) (dp_of2 (SqT.of upd_same))
        · refine ifF (fdec hv1) ?_
          refine ⟨_, rfl, _, _, _, _, rfl, rfl, (Evl.ex_t s hx), rfl, _, rfl, _, _, _, _, rfl, rfl, (Evl.ex_t s hy), rfl, _, _, rfl, rfl, sm_mul sT1 sT2, _, rfl, _, _, _, _, rfl, rfl, (Evl.ex_t s hx), rfl, _, rfl, _, _, _, _, rfl, rfl, (Evl.ex_t s hy), rfl, _, _, rfl, rfl, sm_mul sB1 sB2, ?_⟩
          refine ⟨_, _, rfl, Int.mul_ne_zero nb nv, sm4_of (sm_prod sT1 sT2), sm4_of (sm_prod sB1 sB2), fun q hq => ?_⟩
          refine k _ _ _ (Mv.new s hq) (same_new hq) ?_
          exact dp_of2 (SqT.of upd_same)
      · refine ifF (fdec hb1) ?_
        refine ⟨_, rfl, _, _, _, _, rfl, rfl, (Evl.ex_t s hx), rfl, _, rfl, _, _, _, _, rfl, rfl, (Evl.ex_t s hy), rfl, _, _, rfl, rfl, sm_mul sT1 sT2, _, rfl, _, _, _, _, rfl, rfl, (Evl.ex_t s hx), rfl, _, rfl, _, _, _, _, rfl, rfl, (Evl.ex_t s hy), rfl, _, _, rfl, rfl, sm_mul sB1 sB2, ?_⟩
        refine ⟨_, _, rfl, Int.mul_ne_zero nb nv, sm4_of (sm_prod sT1 sT2), sm4_of (sm_prod sB1 sB2), fun q hq => ?_⟩
        refine k _ _ _ (Mv.new s hq) (same_new hq) ?_
        exact dp_of2 (SqT.of upd_same)
    · refine ifF (fdec hp) ?_
      obtain ⟨i, rfl, i0, i1⟩ := nup hp n1
      obtain ⟨j, rfl, j0, j1⟩ := nup hp n2
      obtain rfl := dp_int hd
      obtain rfl := dp_int he
      obtain ⟨p0, p13⟩ := off_pos op hp
      have e : timesD p (.int i) (.int j) = .int ((i * j) % p) := by
        show valD p (i * j) (1 * 1) = _
        unfold valD
        rw [if_neg hp]
      rw [e] at k
      refine ⟨_, rfl, _, rfl, _, _, rfl, rfl, .inl ⟨by omega, by omega⟩, .inl ⟨_, rfl, _, rfl, _, _, rfl, rfl, p0, k _ _ _ (Mv.refl s) (Same.refl _) (.int _)⟩⟩
theorem sc__law_blank : FnScope ["_law_p", "_law_rows", "_law_columns", "_law_i"] ["_law_p", "_law_rows", "_law_columns"] (defScope (top 48)) := ⟨rfl, rfl, rfl, by decide +kernel, rfl, by decide +kernel, by decide +kernel⟩
theorem ok__law_blank (F : FnP K "_law_blank" (top 48) [] f fd) (tx : Bn mg) {fN : Addr} {fdN : FuncData} (GN : FnOk P w K mg base CX0 1 fN fdN ["_law_p", "_law_many"] (spNum K)) (mN : mg "_law_num" = some (.ref fN)) (kpN : PySem.W.keepIn K (.ref fN) = true) (bN : L2.Binds K fdN ["_law_p", "_law_many"] []) : FnOk P w K mg base CX0 2 f fd ["_law_p", "_law_rows", "_law_columns"] (spBlank K) := by
  refine F.ok sc__law_blank (fun vs H Q E h => ?_) (fun cdv A outer s H vs Q E hr h => ?_)
  · obtain ⟨G, p, r, c, rfl, _⟩ := h; rfl
  · obtain ⟨G, p, r, c, rfl, op, s, r5, c5, k⟩ := h
    have hrN : Room 1 _ := hr
    refine ⟨_, PSs.nox (pss_one (ps_ret (pe_lc (own := [("_law_i", 3)]) (g := gName 3) (tt := tYes) rfl sc__law_blank.nd (pi_range1 (by rfl) tx.range (pa_cons (pv 1) pa_nil)) (blkOk_by (own := [("_law_i", 3)]) (N := ["_law_p", "_law_rows", "_law_columns", "_law_i"]) (sc := defScope (top 48)) (by decide +kernel)) (fun _ _ _ _ _ => (pg_name (i := 3) sc__law_blank.nd rfl (by first | exact Or.inl rfl | exact Or.inr rfl))) (fun _ _ _ _ _ => pts_nil) (fun _ _ _ _ _ => (pe_op op_rep (pe_lst (pa_cons (pe_call GN hrN (by rfl) mN kpN bN .nil pass0 (pa_cons (pv 0) (pa_cons pe_int pa_nil))) pa_nil)) (pv 2)))))), ?_⟩
    refine ⟨_, rfl, (r : Int), rfl, by omega, by omega, fun D hD => lcP (K := K) (walk_range (lo := 0) (n := r)) (fun i d => d = .list (List.replicate c (zeroD p))) s hD (by omega) (fun _ _ _ _ _ => trivial) ?_ ?_⟩
    · rintro i x G1 H1 H2 kn kk hi g1 g2 s1 ⟨rfl, rfl⟩ made
      refine ⟨rfl, yes ?_⟩
      refine ⟨_, rfl, G1, p, 0, rfl, op, g2, fun v G2 H2 m2 s2 hd2 => ?_⟩
      refine ⟨by show 1 ≤ sizeLine; decide, fun l hl => ⟨_, rfl, l, (c : Int), [v], rfl, rfl, upd_same, by omega, by omega, by rw [List.length_singleton, Nat.one_mul]; exact Nat.le_trans (show (c : Int).toNat ≤ 5 by omega) (by decide), fun q hq => ?_⟩⟩
      have m3 := m2.trans (Mv.hid (o := .lst [v]) m2.gh hl)
      have m4 := Mv.new (o := .lst (List.replicate (c : Int).toNat [v]).flatten) m3.gh hq
      refine made _ _ _ _ rfl (m3.trans m4) ((s2.trans (same_new hl)).trans (same_new hq)) ?_
      exact .lst (SqL.of upd_same) (rep_all (dp_same m4.gg _ _ hd2) c)
    · intro es G2 H2 hle hes m2 s2 hd2
      refine k _ _ _ m2 s2 ?_
      have ee : es = List.replicate r (.list (List.replicate c (zeroD p))) := List.eq_replicate_iff.mpr ⟨hle, fun b hb => by
        obtain ⟨i, hi⟩ := List.getElem?_of_mem hb
        exact hes i b hi⟩
      rw [ee] at hd2
      unfold tabL
      rw [List.map_replicate]
      exact hd2
theorem sc__law_dot : FnScope ["_law_p", "_law_one", "_law_other", "_law_total", "_law_k"] ["_law_p", "_law_one", "_law_other"] (defScope (top 49)) := ⟨rfl, rfl, rfl, by decide +kernel, rfl, by decide +kernel, by decide +kernel⟩
theorem ok__law_dot (F : FnP K "_law_dot" (top 49) [] f fd) (tx : Bn mg) {fN : Addr} {fdN : FuncData} (GN : FnOk P w K mg base CX0 1 fN fdN ["_law_p", "_law_many"] (spNum K)) (mN : mg "_law_num" = some (.ref fN)) (kpN : PySem.W.keepIn K (.ref fN) = true) (bN : L2.Binds K fdN ["_law_p", "_law_many"] []) {fP : Addr} {fdP : FuncData} (GP : FnOk P w K mg base CX0 3 fP fdP ["_law_p", "_law_one", "_law_other"] (spBin K plusD)) (mP : mg "_law_plus" = some (.ref fP)) (kpP : PySem.W.keepIn K (.ref fP) = true) (bP : L2.Binds K fdP ["_law_p", "_law_one", "_law_other"] []) {fM : Addr} {fdM : FuncData} (GM : FnOk P w K mg base CX0 3 fM fdM ["_law_p", "_law_one", "_law_other"] (spBin K timesD)) (mM : mg "_law_times" = some (.ref fM)) (kpM : PySem.W.keepIn K (.ref fM) = true) (bM : L2.Binds K fdM ["_law_p", "_law_one", "_law_other"] []) : FnOk P w K mg base CX0 4 f fd ["_law_p", "_law_one", "_law_other"] (spDot K) := by
  refine F.ok sc__law_dot (fun vs H Q E h => ?_) (fun cdv A outer s H vs Q E hr h => ?_)
  · obtain ⟨G, p, x, y, ds, es, m, n, rfl, _⟩ := h; rfl
  · obtain ⟨G, p, x, y, ds, es, m, n, rfl, op, s, hx, hy, n1, n2, hl, hl5, hmn, k⟩ := h
    have hrN : Room 1 _ := hr.mono (by decide)
    have hrP : Room 3 _ := hr
    have hrM : Room 3 _ := hr
    have hp := off_le op
    obtain ⟨a, xs, rfl, ha, hax⟩ := dp_lst hx
    obtain ⟨b, ys, rfl, hb, hay⟩ := dp_lst hy
    have lx := dpAll_len hax
    have ly := dpAll_len hay
    refine ⟨_, PSs.nox (pss_cons (ps_set (i := 3) sc__law_dot.nd rfl (Or.inl rfl) (pe_call GN hrN (by rfl) mN kpN bN .nil pass0 (pa_cons (pv 0) (pa_cons pe_int pa_nil))))
      (pss_cons (ps_for PassesOwn.never rfl (pi_range1 (by rfl) tx.range (pa_cons (pe_callB call_len_seq (by rfl) tx.len PySem.boot_len (pa_cons (pv 1) pa_nil)) pa_nil)) (pg_name (i := 4) sc__law_dot.nd rfl (Or.inl rfl)) (pss_one (ps_set (i := 3) sc__law_dot.nd rfl (Or.inl rfl) (pe_call GP hrP (by rfl) mP kpP bP .nil pass0 (pa_cons (pv 0) (pa_cons (pv 3) (pa_cons (pe_call GM hrM (by rfl) mM kpM bM .nil pass0 (pa_cons (pv 0) (pa_cons (pe_ix ix_list (pv 1) (pv 4) (fun _ _ => rfl)) (pa_cons (pe_ix ix_list (pv 2) (pv 4) (fun _ _ => rfl)) pa_nil)))) pa_nil)))))))
      (pss_one (ps_ret (pv 3))))), ?_⟩
    refine ⟨_, rfl, G, p, 0, rfl, op, s, fun v0 G0 H0 m0 s0 hd0 => ?_⟩
    refine ⟨_, rfl, a, xs, rfl, .inl (Evl.ex_l m0.gh (Evl.ex_l m0.gg ha)), (xs.length : Int), rfl, by omega, by omega, for_it (walk_range (lo := 0) (n := xs.length)) (fun i σ H2 => ∃ (G2 : Hp) (tot : V) (u : Option V), σ = [some (.int p), some (.ref a), some (.ref b), some tot, u] ∧ Mv G H G2 H2 ∧ Same H H2 ∧ Dp K G2 tot (part p ds es i)) ⟨G0, v0, none, rfl, m0, s0, hd0⟩ (fun _ _ _ _ _ => trivial) ?_ ?_⟩
    · rintro i z σ H2 H3 hi ⟨G2, tot, u, rfl, m2, s2, hd2⟩ ⟨rfl, rfl⟩
      have hid : i < ds.length := by omega
      have hie : i < es.length := by omega
      have e1 : ds[i]? = some ds[i] := List.getElem?_eq_getElem hid
      have e2 : es[i]? = some es[i] := List.getElem?_eq_getElem hie
      obtain ⟨u1, hu1, hd1⟩ := dpAll_at hax e1
      obtain ⟨u2, hu2, hd3⟩ := dpAll_at hay e2
      obtain ⟨q1, q2⟩ := n1 ds[i] (List.getElem_mem _)
      obtain ⟨q3, q4⟩ := n2 es[i] (List.getElem_mem _)
      obtain ⟨t1, t2⟩ := times_ok hp q1 q2 q3 q4
      obtain ⟨p1, p2⟩ := part_ok hp n1 n2 i (by omega) (by omega)
      have mono : ∀ {k l : Nat} {d : PyData}, Bd k d → k ≤ l → Bd l d := fun h hkl => ⟨Nat.lt_of_lt_of_le h.1 (Nat.pow_le_pow_right (by decide) hkl), Nat.lt_of_lt_of_le h.2 (Nat.pow_le_pow_right (by decide) hkl)⟩
      have gg := m2.gg
      have i5 : i * (m + n + 8) ≤ 5 * 158 := Nat.mul_le_mul (by omega) (by omega)
      refine ⟨_, rfl, _, rfl, _, rfl, _, rfl, _, rfl, a, xs, _, u1, rfl, rfl, Evl.ex_l m2.gh (Evl.ex_l gg ha), zipR hu1, _, rfl, _, rfl, b, ys, _, u2, rfl, rfl, Evl.ex_l m2.gh (Evl.ex_l gg hb), zipR hu2, ?_⟩
      refine ⟨G2, p, u1, u2, ds[i], es[i], 150, rfl, op, m2.gh, dp_same gg _ _ hd1, dp_same gg _ _ hd3, q1, q3, mono q2 (by omega), mono q4 (by omega), by omega, fun v3 G3 H3 m3 s3 hd4 => ?_⟩
      refine ⟨G3, p, tot, v3, part p ds es i, timesD p ds[i] es[i], 900, rfl, op, m3.gh, dp_same m3.gg _ _ hd2, hd4, p1, t1, mono p2 (by omega), mono t2 (by omega), by omega, fun v4 G4 H4 m4 s4 hd5 => ?_⟩
      refine ⟨G4, v4, _, rfl, (m2.trans m3).trans m4, (s2.trans s3).trans s4, ?_⟩
      rw [part_step e1 e2]
      exact hd5
    · rintro σ H2 ⟨G2, tot, u, rfl, m2, s2, hd2⟩
      rw [lx, part_all rfl hl.symm] at hd2
      exact ⟨_, rfl, k _ _ _ m2 s2 hd2⟩
theorem sc__law_tuple : FnScope ["_law_table", "_law_row"] ["_law_table"] (defScope (top 50)) := ⟨rfl, rfl, rfl, by decide +kernel, rfl, by decide +kernel, by decide +kernel⟩
theorem ok__law_tuple (F : FnP K "_law_tuple" (top 50) [] f fd) (tx : Bn mg) : FnOk P w K mg base CX0 1 f fd ["_law_table"] (spTup K) := by
  refine F.ok sc__law_tuple (fun vs H Q E h => ?_) (fun cdv A outer s H vs Q E hr h => ?_)
  · obtain ⟨G, x, T, rfl, _⟩ := h; rfl
  · obtain ⟨G, x, T, rfl, s, hx, hn, k⟩ := h
    obtain ⟨a, xs, rfl, ha, hax⟩ := dp_lst hx
    have lx := dpAll_len hax
    rw [List.length_map] at lx
    refine ⟨_, PSs.nox (pss_one (ps_ret (pe_callTy call_tuple_of (by rfl) tx.tuple PyProof.Rows.boot_tuple (pa_cons (pe_lc (own := [("_law_row", 1)]) (g := gName 1) (tt := tYes) rfl sc__law_tuple.nd (pi_list (pv 0)) (blkOk_by (own := [("_law_row", 1)]) (N := ["_law_table", "_law_row"]) (sc := defScope (top 50)) (by decide +kernel)) (fun _ _ _ _ _ => (pg_name (i := 1) sc__law_tuple.nd rfl (by first | exact Or.inl rfl | exact Or.inr rfl))) (fun _ _ _ _ _ => pts_nil) (fun _ _ _ _ _ => (pe_callTy (call_tuple_ofK (K := K) (by rfl)) (by rfl) tx.tuple PyProof.Rows.boot_tuple (pa_cons (pv 1) pa_nil)))) pa_nil)))), ?_⟩
    refine ⟨_, rfl, a, rfl, ⟨xs, Evl.ex_l s ha⟩, fun D hD => lcP (K := K) walk_list (fun i d => ∃ row, T[i]? = some row ∧ d = .tuple row) s hD (by omega) (fun G1 H1 g h _ => Evl.ex_l h (Evl.ex_l g ha)) ?_ ?_⟩
    · rintro i x G1 H1 H2 kn kk hi g1 g2 s1 ⟨rfl, hx⟩ made
      obtain ⟨d, hd, hdx⟩ := dpAll_get hax hx
      rw [List.getElem?_map] at hd
      obtain ⟨row, hrow, rfl⟩ := Option.map_eq_some_iff.mp hd
      obtain ⟨b, ys, rfl, hb, hay⟩ := dp_lst hdx
      refine ⟨rfl, yes ?_⟩
      refine ⟨_, rfl, b, ys, rfl, .inl ⟨Evl.ex_l g2 (Evl.ex_l g1 hb), fun l hl => ?_⟩⟩
      have m3 := Mv.new (o := .tup ys) g2 hl
      exact made _ _ _ _ ⟨row, hrow, rfl⟩ m3 (same_new hl) (.tup (SqT.of upd_same) (dp_sameAll (g1.trans m3.gg) _ _ hay))
    · intro es G2 H2 hle hes m2 s2 hd2
      have ee := all_mapT (f := fun row => .tuple row) (hle.trans lx) hes
      subst ee
      obtain ⟨q, zs, e, hz, hzs⟩ := dp_lst hd2
      cases e
      refine ⟨D, zs, rfl, .inl ⟨Evl.ex_l m2.gh hz, fun l hl => ?_⟩⟩
      have m3 := Mv.new (o := .tup zs) m2.gh hl
      exact k _ _ _ (m2.trans m3) (s2.trans (same_new hl)) (.tup (SqT.of upd_same) (dp_sameAll m3.gg _ _ hzs))
end
end La
set_option exponentiation.threshold 20000

namespace Lb
open PySem PySem.Spec PyProof.Rows L2 Dz Ra Mt Kx Ky Re Rb Rc Rd Gn Dn Do Vz Vp Va Vb Vc Vd Ve Lm La
def optV : Option Nat → V
  | none => .non
  | some i => .int (i : Nat)
def NoTup (d : PyData) : Prop := ∀ ds, d ≠ .tuple ds
def spKDue (K : PySem.W.Frag) : Sp := fun vs H Q _ => ∃ (x : V) (d : PyData) (m : Int), vs = [x, .int m] ∧ Dp K H x d ∧ NoTup d ∧ LenD d ∧ ∀ H', Same H H' → Q (optV (keptDue m d)) H'
def spLDue (K : PySem.W.Frag) : Sp := fun vs H Q _ => ∃ (p : Int) (x : V) (d : PyData) (m : Nat), vs = [.int p, x, .int m] ∧ Off p ∧ Dp K H x d ∧ NoTup d ∧ LenD d ∧ m ≤ 1000 ∧ (∀ ds, d = .list ds → ∀ e ∈ ds, tameD e = true) ∧ ∀ H', Same H H' → Q (optV (lettersDue p d m)) H'
def spIsP (K : PySem.W.Frag) (CP C : Addr) : Sp := fun vs H Q _ => ∃ (G : Hp) (p : Int) (a : Addr) (x y : V) (T1 T2 : List (List PyData)) (r c : Nat), vs = [.int p, .ref a, x, y] ∧ Same G H ∧ PairAt K CP C G a p T1 T2 r c ∧ Dp K G x (tabL T1) ∧ Dp K G y (tabL T2) ∧ ∀ H', Same H H' → Q (.bl true) H'
theorem seq_list {d : PyData} {ds : List PyData} (n : NoTup d) (h : seqOf d = some ds) : d = .list ds := by
  cases d with
  | list es =>
    cases h
    rfl
  | tuple es => exact absurd rfl (n es)
  | _ => cases h
theorem whole_no {d : PyData} {a b : Option Int} (h : ∀ i, d ≠ .int i) : wholeD d a b = false := by
  cases d with
  | int i => exact absurd rfl (h i)
  | _ => rfl
section
variable {P : Program} {w : World} {K : PySem.W.Frag} {mg : Str → Option Value} {base : Heap} {C CP f : Addr} {fd : FuncData}
theorem sc__law_is_number : FnScope ["_law_p", "_law_thing"] ["_law_p", "_law_thing"] (defScope (top 56)) := ⟨rfl, rfl, rfl, by decide +kernel, rfl, by decide +kernel, by decide +kernel⟩
theorem ok__law_is_number (F : FnP K "_law_is_number" (top 56) [] f fd) (tx : Bn mg) {fW : Addr} {fdW : FuncData} (GW : FnOk P w K mg base CX0 1 fW fdW ["_law_thing"] (spWholeL K)) (mW : mg "_law_whole" = some (.ref fW)) (kpW : PySem.W.keepIn K (.ref fW) = true) (bW : L2.Binds K fdW ["_law_thing"] []) {fG : Addr} {fdG : FuncData} (GG : FnOk P w K mg base CX0 1 fG fdG ["_law_one", "_law_other"] spGcdL) (mG : mg "_law_gcd" = some (.ref fG)) (kpG : PySem.W.keepIn K (.ref fG) = true) (bG : L2.Binds K fdG ["_law_one", "_law_other"] []) : FnOk P w K mg base CX0 2 f fd ["_law_p", "_law_thing"] (spIsN K) := by
  refine F.ok sc__law_is_number (fun vs H Q E h => ?_) (fun cdv A outer s H vs Q E hr h => ?_)
  · obtain ⟨p, x, d, rfl, _⟩ := h; rfl
  · obtain ⟨p, x, d, rfl, op, hd, hsm, k⟩ := h
    have hrW : Room 1 _ := hr
    have hrG : Room 1 _ := hr
    refine ⟨_, PSs.nox (pss_cons (ps_if (pt_cmpR op_gt (pv 0) pe_int (by rfl)) (pss_one (ps_ret (pe_and (pe_call GW hrW (by rfl) mW kpW bW .nil pass0 (pa_cons (pv 1) pa_nil)) (pe_one (pe_chain op_le op_lt pe_int (pv 1) (pv 0)))))) pss_nil)
      (pss_cons (ps_if (PW.pt (pw_or (pt_not (pt_val (pe_callB call_isi (by rfl) tx.isinstance PyProof.Rows.boot_isinstance (pa_cons (pv 1) (pa_cons (pe_bltn (v := .ty "tuple") (by rfl) tx.tuple (by decide +kernel) rfl) pa_nil))))) (pw_or (pt_cmpR op_ne (pe_callB call_len_seq (by rfl) tx.len PySem.boot_len (pa_cons (pv 1) pa_nil)) pe_int (by rfl)) (pw_or (pt_not (pt_val (pe_call GW hrW (by rfl) mW kpW bW .nil pass0 (pa_cons (pe_ix ix_tup (pv 1) pe_int (fun _ _ => rfl)) pa_nil)))) (pw_or1 (pt_not (pt_val (pe_call GW hrW (by rfl) mW kpW bW .nil pass0 (pa_cons (pe_ix ix_tup (pv 1) pe_int (fun _ _ => rfl)) pa_nil))))))))) (pss_one (ps_ret pe_bl)) pss_nil)
      (pss_one (ps_ret (pe_and (pe_cmpR op_gt (pe_ix ix_tup (pv 1) pe_int (fun _ _ => rfl)) pe_int (by rfl)) (pe_one (pe_cmpR op_eq (pe_call GG hrG (by rfl) mG kpG bG .nil pass0 (pa_cons (pe_ix ix_tup (pv 1) pe_int (fun _ _ => rfl)) (pa_cons (pe_ix ix_tup (pv 1) pe_int (fun _ _ => rfl)) pa_nil))) pe_int (by rfl)))))))), ?_⟩
    refine ⟨_, rfl, _, _, rfl, rfl, _, rfl, ?_⟩
    by_cases hp : p = 0
    · subst hp
      refine ifF (by decide) ?_
      have e0 : numD 0 d = ratioD d := if_pos rfl
      rw [e0] at k
      refine ⟨_, rfl, _, _, _, _, _, rfl, .ty _, ty_dp hd, kit_bi d (.inr (.inr (.inr rfl))), _, rfl, ?_⟩
      cases d with
      | tuple ds =>
        obtain ⟨a, xs, rfl, hs, ha⟩ := dp_tup hd
        have hlen := dpAll_len ha
        refine ifF rfl ⟨_, rfl, a, xs, rfl, .inr hs, rfl, _, rfl, ?_⟩
        match xs, ds, ha, hlen with
        | [], [], _, _ => exact ifT rfl k
        | [_], [d0], _, _ =>
          have e : ratioD (.tuple [d0]) = false := by cases d0 <;> rfl
          rw [e] at k
          exact ifT rfl k
        | _ :: _ :: _ :: r, d0 :: d1 :: d2 :: r2, _, _ =>
          refine ifT ?_ ?_
          · have z : ¬ ((((r.length + 1 + 1 + 1 : Nat)) : Int) = 2) := by omega
            show (!decide (V.int ((r.length + 1 + 1 + 1 : Nat) : Int) = V.int 2)) = true
            rw [decide_eq_false fun e => z (V.int.inj e)]
            rfl
          · have e : ratioD (.tuple (d0 :: d1 :: d2 :: r2)) = false := by cases d0 <;> first | rfl | (cases d1 <;> rfl)
            rw [e] at k
            exact k
        | [x, y], [dx, dy], .cons hx (.cons hy .nil), _ =>
          refine ifF rfl ?_
          refine ⟨_, rfl, a, _, (0 : Nat), x, rfl, rfl, hs, atI_nat rfl, x, dx, rfl, hx, _, rfl, ?_⟩
          by_cases h1 : wholeD dx none none = true
          · refine ifF (by rw [h1]; rfl) ⟨_, rfl, a, _, (1 : Nat), y, rfl, rfl, hs, atI_nat rfl, y, dy, rfl, hy, _, rfl, ?_⟩
            by_cases h2 : wholeD dy none none = true
            · refine ifF (by rw [h2]; rfl) ?_
              cases dx with
              | int i =>
                cases dy with
                | int j =>
                  cases hx
                  cases hy
                  obtain ⟨si, sj⟩ := hsm i j rfl
                  refine ⟨_, rfl, a, _, (1 : Nat), _, rfl, rfl, hs, atI_nat rfl, _, _, rfl, rfl, _, rfl, ?_⟩
                  by_cases hj : (0 : Int) < j
                  · refine ifT (decide_eq_true hj) ?_
                    refine ⟨_, rfl, a, _, (0 : Nat), _, rfl, rfl, hs, atI_nat rfl, _, rfl, a, _, (1 : Nat), _, rfl, rfl, hs, atI_nat rfl, i, j, rfl, si, sj, rfl, ?_⟩
                    have k2 : Q (.bl (decide (1 ≤ j) && (Nat.gcd i.natAbs j.natAbs == 1))) H := k
                    rw [decide_eq_true (by omega : 1 ≤ j), Bool.true_and, ← dec1] at k2
                    exact k2
                  · refine ifF (decide_eq_false hj) ?_
                    have k2 : Q (.bl (decide (1 ≤ j) && (Nat.gcd i.natAbs j.natAbs == 1))) H := k
                    rw [decide_eq_false (by omega : ¬ 1 ≤ j), Bool.false_and] at k2
                    exact k2
                | _ => cases h2
              | _ => cases h1
            · refine ifT (by rw [not_true h2]; rfl) ?_
              have e : ratioD (.tuple [dx, dy]) = false := by
                cases dx <;> first | rfl | (cases dy <;> first | rfl | exact absurd rfl h2)
              rw [e] at k
              exact k
          · refine ifT (by rw [not_true h1]; rfl) ?_
            have e : ratioD (.tuple [dx, dy]) = false := by
              cases dx <;> first | rfl | exact absurd rfl h1
            rw [e] at k
            exact k
      | dict _ => cases hd
      | _ => exact ifT rfl k
    · obtain ⟨p0, p13⟩ := off_pos op hp
      refine ifT (decide_eq_true p0) ?_
      have e0 : numD p d = wholeD d (some 0) (some (p - 1)) := if_neg hp
      rw [e0] at k
      refine ⟨_, rfl, x, d, rfl, hd, ?_⟩
      by_cases h1 : wholeD d none none = true
      · cases d with
        | int i =>
          obtain rfl := dp_int hd
          have k2 : Q (.bl (decide ((0 : Int) ≤ i) && decide (i ≤ p - 1))) H := k
          refine ⟨_, rfl, ifT h1 ⟨_, rfl, _, _, rfl, rfl, _, rfl, ?_⟩⟩
          by_cases h0 : (0 : Int) ≤ i
          · refine ifT (decide_eq_true h0) ⟨_, rfl, _, _, rfl, rfl, ?_⟩
            rw [decide_eq_true h0, Bool.true_and] at k2
            have e : decide (i < p) = decide (i ≤ p - 1) := decide_eq_decide.mpr (by omega)
            rw [← e] at k2
            exact k2
          · rw [decide_eq_false h0, Bool.false_and] at k2
            exact ifF (decide_eq_false h0) k2
        | _ => cases h1
      · refine ⟨_, rfl, ifF (not_true h1) ?_⟩
        have e : wholeD d (some 0) (some (p - 1)) = false := by
          cases d with
          | int i => exact absurd rfl h1
          | _ => rfl
        rw [e] at k
        exact k
theorem sc__law_is_pair : FnScope ["_law_p", "_law_pair", "_law_first", "_law_second"] ["_law_p", "_law_pair", "_law_first", "_law_second"] (defScope (top 58)) := ⟨rfl, rfl, rfl, by decide +kernel, rfl, by decide +kernel, by decide +kernel⟩
theorem ok__law_is_pair (F : FnP K "_law_is_pair" (top 58) [] f fd) (tx : Bn mg) (fg : Fg K C) (pg : Pg K CP) {fW : Addr} {fdW : FuncData} (GW : FnOk P w K mg base CX0 1 fW fdW ["_law_thing"] (spWholeL K)) (mW : mg "_law_whole" = some (.ref fW)) (kpW : PySem.W.keepIn K (.ref fW) = true) (bW : L2.Binds K fdW ["_law_thing"] []) {fU : Addr} {fdU : FuncData} (GU : FnOk P w K mg base CX0 1 fU fdU ["_law_table"] (spTup K)) (mU : mg "_law_tuple" = some (.ref fU)) (kpU : PySem.W.keepIn K (.ref fU) = true) (bU : L2.Binds K fdU ["_law_table"] []) : FnOk P w K mg base CX0 2 f fd ["_law_p", "_law_pair", "_law_first", "_law_second"] (spIsP K CP C) := by
  refine F.ok sc__law_is_pair (fun vs H Q E h => ?_) (fun cdv A outer s H vs Q E hr h => ?_)
  · obtain ⟨G, p, a, x, y, T1, T2, r, c, rfl, _⟩ := h; rfl
  · obtain ⟨G, p, a, x, y, T1, T2, r, c, rfl, s, ⟨⟨fa, dx, v1, v2, ha, ⟨op, dx2, z, ov, hfa, hz⟩, hv1, hv2⟩, t1, t2⟩, hx, hy, k⟩ := h
    have hrW : Room 1 _ := hr
    have hrU : Room 1 _ := hr
    have hu := hr.units
    have sh1 := (sh_tab t1)
    have sh2 := (sh_tab t2)
    refine ⟨_, PSs.nox (pss_cons (ps_if (PW.pt (pw_or (pt_cmpR (op_neD hu) (pe_fld (pv 1) rfl) (pe_call GU hrU (by rfl) mU kpU bU .nil pass0 (pa_cons (pv 2) pa_nil)) (by rfl)) (pw_or (pt_cmpR (op_neD hu) (pe_fld (pv 1) rfl) (pe_call GU hrU (by rfl) mU kpU bU .nil pass0 (pa_cons (pv 3) pa_nil)) (by rfl)) (pw_or1 (pt_cmpR op_ne (pe_fld (pe_fld (pv 1) rfl) rfl) (pv 0) (by rfl)))))) (pss_one (ps_ret pe_bl)) pss_nil)
      (pss_cons (ps_if (PW.pt (pw_or (pt_not (pt_val (pe_callB call_isi (by rfl) tx.isinstance PyProof.Rows.boot_isinstance (pa_cons (pe_fld (pv 1) rfl) (pa_cons (pe_bltn (v := .ty "tuple") (by rfl) tx.tuple (by decide +kernel) rfl) pa_nil))))) (pw_or (pt_not (pt_val (pe_callB call_isi (by rfl) tx.isinstance PyProof.Rows.boot_isinstance (pa_cons (pe_ix ix_tup (pe_fld (pv 1) rfl) pe_int (fun _ _ => rfl)) (pa_cons (pe_bltn (v := .ty "tuple") (by rfl) tx.tuple (by decide +kernel) rfl) pa_nil))))) (pw_or1 (pt_not (pt_val (pe_callB call_isi (by rfl) tx.isinstance PyProof.Rows.boot_isinstance (pa_cons (pe_ix ix_tup (pe_fld (pv 1) rfl) pe_int (fun _ _ => rfl)) (pa_cons (pe_bltn (v := .ty "tuple") (by rfl) tx.tuple (by decide +kernel) rfl) pa_nil))))))))) (pss_one (ps_ret pe_bl)) pss_nil)
      (pss_one (ps_ret (pe_and (pe_call GW hrW (by rfl) mW kpW bW .nil pass0 (pa_cons (pe_fld (pv 1) rfl) pa_nil)) (pe_and (pe_cmpR op_eq (pe_fld (pv 1) rfl) (pe_callB call_len_seq (by rfl) tx.len PySem.boot_len (pa_cons (pv 2) pa_nil)) (by rfl)) (pe_one (pe_cmpR op_eq (pe_fld (pv 1) rfl) (pe_callB call_len_seq (by rfl) tx.len PySem.boot_len (pa_cons (pe_ix ix_list (pv 2) pe_int (fun _ _ => rfl)) pa_nil)) (by rfl))))))))), ?_⟩
    refine ⟨_, rfl, a, CP, dx, _, _, rfl, s _ _ ha, pg.cl, pg.n2, pl_first, _, rfl, G, x, T1, rfl, s, hx, by rw [t1.lr]; have := t1.r5; omega, fun w1 G1 H1 m1 s1 hd1 => ?_⟩
    refine ⟨_, _, dp_same (m1.gg.trans m1.gh) _ _ hv1, dp_same m1.gh _ _ hd1, sh1.shaped (by decide), sh1.shaped (by decide), _, rfl, ifF (by rw [sh1.eq]; rfl) ?_⟩
    refine ⟨_, rfl, a, CP, dx, _, _, rfl, (m1.gg.trans m1.gh) _ _ ha, pg.cl, pg.n3, pl_second, _, rfl, G1, y, T2, rfl, m1.gh, dp_same m1.gg _ _ hy, by rw [t2.lr]; have := t2.r5; omega, fun w2 G2 H2 m2 s2 hd2 => ?_⟩
    have m3 := m1.trans m2
    have g3 := m3.gg.trans m3.gh
    refine ⟨_, _, dp_same g3 _ _ hv2, dp_same m2.gh _ _ hd2, sh2.shaped (by decide), sh2.shaped (by decide), _, rfl, ifF (by rw [sh2.eq]; rfl) ?_⟩
    refine ⟨_, rfl, a, CP, dx, _, _, rfl, g3 _ _ ha, pg.cl, pg.n1, pl_fig, fa, C, dx2, _, _, rfl, g3 _ _ hfa, fg.cl, fg.nP, fl_prime, _, rfl, rfl, _, rfl, ifF (by rw [decide_eq_true rfl]; rfl) ?_⟩
    have dv1 := dp_same g3 _ _ hv1
    have dv2 := dp_same g3 _ _ hv2
    obtain ⟨a1, xs1, e1, hs1, ha1⟩ := dp_tup dv1
    subst e1
    obtain ⟨a2, xs2, e2, hs2, ha2⟩ := dp_tup dv2
    subst e2
    have h10 : 0 < T1.length := by rw [t1.lr]; exact t1.r1
    have h20 : 0 < T2.length := by rw [t2.lr]; exact t2.r1
    obtain ⟨u1, hu1, du1⟩ := dpAll_at (i := 0) (d := .tuple T1[0]) ha1 (by rw [List.getElem?_map, List.getElem?_eq_getElem h10]; rfl)
    obtain ⟨u2, hu2, du2⟩ := dpAll_at (i := 0) (d := .tuple T2[0]) ha2 (by rw [List.getElem?_map, List.getElem?_eq_getElem h20]; rfl)
    refine ⟨_, rfl, a, CP, dx, _, _, rfl, g3 _ _ ha, pg.cl, pg.n2, pl_first, _, _, _, _, _, rfl, .ty _, ty_dp dv1, kit_bi (tabT T1) (.inr (.inr (.inr rfl))), _, rfl, ifF rfl ?_⟩
    refine ⟨_, rfl, a, CP, dx, _, _, rfl, g3 _ _ ha, pg.cl, pg.n2, pl_first, a1, xs1, (0 : Nat), u1, rfl, rfl, hs1, atI_nat hu1, _, _, _, _, _, rfl, .ty _, ty_dp du1, kit_bi (.tuple T1[0]) (.inr (.inr (.inr rfl))), _, rfl, ifF rfl ?_⟩
    refine ⟨_, rfl, a, CP, dx, _, _, rfl, g3 _ _ ha, pg.cl, pg.n3, pl_second, a2, xs2, (0 : Nat), u2, rfl, rfl, hs2, atI_nat hu2, _, _, _, _, _, rfl, .ty _, ty_dp du2, kit_bi (.tuple T2[0]) (.inr (.inr (.inr rfl))), _, rfl, ifF rfl ?_⟩
    obtain ⟨b, ys, e3, hb, hys⟩ := dp_lst (dp_same g3 _ _ hx)
    subst e3
    have ly := dpAll_len hys
    rw [List.length_map, t1.lr] at ly
    obtain ⟨u3, hu3, du3⟩ := dpAll_at (i := 0) (d := .list T1[0]) hys (by rw [List.getElem?_map, List.getElem?_eq_getElem h10]; rfl)
    obtain ⟨b2, zs, e4, hb2, hzs⟩ := dp_lst du3
    subst e4
    have lz := dpAll_len hzs
    rw [(t1.lc _ (List.getElem_mem h10)).1] at lz
    refine ⟨_, rfl, a, CP, dx, _, _, rfl, g3 _ _ ha, pg.cl, pg.n4, pl_rows, _, _, rfl, .int _, ?_⟩
    refine ⟨_, rfl, ifT rfl ⟨_, rfl, a, CP, dx, _, _, rfl, g3 _ _ ha, pg.cl, pg.n4, pl_rows, _, rfl, b, ys, rfl, .inl hb, rfl, _, rfl, ?_⟩⟩
    refine ifT (decide_eq_true (by rw [ly])) ?_
    refine ⟨_, rfl, a, CP, dx, _, _, rfl, g3 _ _ ha, pg.cl, pg.n5, pl_cols, _, rfl, b, ys, (0 : Nat), _, rfl, rfl, hb, atI_nat hu3, b2, zs, rfl, .inl hb2, rfl, ?_⟩
    rw [decide_eq_true (by rw [lz])]
    exact k _ (s1.trans s2)
theorem sc__law_kept_due : FnScope ["_law_kept_here", "_law_many", "_law_k"] ["_law_kept_here", "_law_many"] (defScope (top 59)) := ⟨rfl, rfl, rfl, by decide +kernel, rfl, by decide +kernel, by decide +kernel⟩
theorem ok__law_kept_due (F : FnP K "_law_kept_due" (top 59) [] f fd) (tx : Bn mg) {fW : Addr} {fdW : FuncData} (GW : FnOk P w K mg base CX0 1 fW fdW ["_law_thing"] (spWholeL K)) (mW : mg "_law_whole" = some (.ref fW)) (kpW : PySem.W.keepIn K (.ref fW) = true) (bW : L2.Binds K fdW ["_law_thing"] []) : FnOk P w K mg base CX0 2 f fd ["_law_kept_here", "_law_many"] (spKDue K) := by
  refine F.ok sc__law_kept_due (fun vs H Q E h => ?_) (fun cdv A outer s H vs Q E hr h => ?_)
  · obtain ⟨x, d, m, rfl, _⟩ := h; rfl
  · obtain ⟨x, d0, m, rfl, hd, nt, hld, k⟩ := h
    have hrW : Room 1 _ := hr
    refine ⟨_, PSs.nox (pss_cons (ps_if (PW.pt (pw_or (pt_not (pt_val (pe_callB call_isiT (by rfl) tx.isinstance PyProof.Rows.boot_isinstance (pa_cons (pv 0) (pa_cons (pe_tup (pa_cons (pe_bltn (v := .ty "list") (by rfl) tx.list (by decide +kernel) rfl) (pa_cons (pe_bltn (v := .ty "tuple") (by rfl) tx.tuple (by decide +kernel) rfl) pa_nil))) pa_nil))))) (pw_or1 (pt_cmpR op_eq (pe_callB call_len_seq (by rfl) tx.len PySem.boot_len (pa_cons (pv 0) pa_nil)) pe_int (by rfl))))) (pss_one (ps_ret pe_int)) pss_nil)
      (pss_cons (ps_for PassesOwn.never rfl (pi_range1 (by rfl) tx.range (pa_cons (pe_callB call_len_seq (by rfl) tx.len PySem.boot_len (pa_cons (pv 0) pa_nil)) pa_nil)) (pg_name (i := 2) sc__law_kept_due.nd rfl (Or.inl rfl)) (pss_one (ps_if (PW.pt (pw_or (pt_not (pt_val (pe_call GW hrW (by rfl) mW kpW bW .nil pass0 (pa_cons (pe_ix ix_list (pv 0) (pv 2) (fun _ _ => rfl)) pa_nil)))) (pw_or (pt_not (pt_chain op_le op_lt pe_int (pe_ix ix_list (pv 0) (pv 2) (fun _ _ => rfl)) (pv 1))) (pw_or1 (PW.pt (pw_and (pt_cmpR op_gt (pv 2) pe_int (by rfl)) (pw_and1 (pt_cmpR op_le (pe_ix ix_list (pv 0) (pv 2) (fun _ _ => rfl)) (pe_ix ix_list (pv 0) (pe_op op_sub (pv 2) pe_int) (fun _ _ => rfl)) (by rfl))))))))) (pss_one (ps_ret (pv 2))) pss_nil)))
      (pss_one (ps_ret pe_non)))), ?_⟩
    refine ⟨_, rfl, by show 2 ≤ sizeLine; decide, fun p0 hp0 => ⟨_, p0, _, _, _, _, rfl, upd_same, .cons (.ty _) (.cons (.ty _) .nil), ty_dp (dp_same (same_new hp0) _ _ hd), kit_lt d0, _, rfl, ?_⟩⟩
    have s1 := same_new (o := .tup [.ty "list", .ty "tuple"]) hp0
    generalize upd H p0 (.tup [.ty "list", .ty "tuple"]) = H1 at s1
    rw [seq_is hd]
    cases eq : seqOf d0 with
    | none =>
      refine ifT rfl ?_
      have e : keptDue m d0 = some 0 := by unfold keptDue; rw [eq]
      rw [e] at k
      exact k _ s1
    | some ds =>
      have hl5 := hld ds eq
      have eL := seq_list nt eq
      subst eL
      obtain ⟨a, xs, rfl, hs, ha⟩ := dp_lst hd
      have hlen := dpAll_len ha
      refine ifF rfl ⟨_, rfl, a, xs, rfl, .inl (Evl.ex_l s1 hs), rfl, _, rfl, ?_⟩
      by_cases h0 : ds = []
      · refine ifT (decide_eq_true (by rw [hlen, h0]; rfl)) ?_
        have e : keptDue m (.list ds) = some 0 := by subst h0; rfl
        rw [e] at k
        exact k _ s1
      · have hdue : keptDue m (.list ds) = keptBad m ds 0 0 := by
          cases ds with
          | nil => exact absurd rfl h0
          | cons _ _ => rfl
        have l0 : ds.length ≠ 0 := fun z => h0 (List.length_eq_zero_iff.mp z)
        refine ifF (decide_eq_false fun z => l0 (by have := V.int.inj z; omega)) ?_
        rw [hdue] at k
        refine ⟨_, rfl, a, xs, rfl, .inl (Evl.ex_l s1 hs), (xs.length : Int), rfl, by omega, by omega, for_it (walk_range (lo := 0) (n := xs.length)) (fun i σ H2 => ∃ (u : Option V) (low : Int), σ = [some (.ref a), some (.int m), u] ∧ Same H H2 ∧ keptBad m ds 0 0 = keptBad m (ds.drop i) low i ∧ (i = 0 → low = 0) ∧ (∀ j, i = j + 1 → ∃ q : Int, ds[j]? = some (.int q) ∧ low = q + 1 ∧ 0 ≤ q)) ⟨none, 0, rfl, s1, by rw [List.drop_zero], fun _ => rfl, fun j e => by omega⟩ (fun _ _ _ _ _ => trivial) ?_ ?_⟩
        · rintro i z σ H2 H3 hi ⟨u, low, rfl, s12, hbad, b0, b1⟩ ⟨rfl, rfl⟩
          have hid : i < ds.length := by omega
          have e1 : ds[i]? = some ds[i] := List.getElem?_eq_getElem hid
          generalize ds[i] = d at e1
          obtain ⟨v, hv, hdx⟩ := dpAll_at ha e1
          rw [drop_cons e1] at hbad
          have hbad2 : keptBad m ds 0 0 = if wholeD d (some low) (some (m - 1)) then keptBad m (ds.drop (i + 1)) (intOf d + 1) (i + 1) else some i := hbad
          have out : wholeD d (some low) (some (m - 1)) = false → ∀ H', Same H H' → Q (.int (0 + (i : Int))) H' := fun hf H' s' => by
            have e : keptBad m ds 0 0 = some i := by rw [hbad2, hf]; rfl
            rw [e] at k
            rw [Int.zero_add]
            exact k H' s'
          refine ⟨_, rfl, _, rfl, a, xs, _, _, rfl, rfl, Evl.ex_l s12 hs, zipR hv, v, d, rfl, dp_same s12 _ _ hdx, _, rfl, ?_⟩
          by_cases hw : wholeD d none none = true
          · cases d with
            | int q =>
              obtain rfl := dp_int hdx
              have ew : wholeD (.int q) (some low) (some (m - 1)) = (decide (low ≤ q) && decide (q ≤ m - 1)) := rfl
              refine ifF (by rw [hw]; rfl) ?_
              have tail : 0 ≤ q → q < m → (low ≤ q → ∃ (u : Option V) (low' : Int), [some (V.ref a), some (V.int m), some (V.int (0 + (i : Int)))] = [some (V.ref a), some (V.int m), u] ∧ Same H H3 ∧ keptBad m ds 0 0 = keptBad m (ds.drop (i + 1)) low' (i + 1) ∧ (i + 1 = 0 → low' = 0) ∧ (∀ j, i + 1 = j + 1 → ∃ q : Int, ds[j]? = some (.int q) ∧ low' = q + 1 ∧ 0 ≤ q)) := fun q0 qm lq => by
                refine ⟨_, q + 1, rfl, s12, ?_, fun e => by omega, fun j e => ?_⟩
                · rw [hbad2, ew, decide_eq_true lq, decide_eq_true (by omega : q ≤ m - 1)]
                  rfl
                · have ej : j = i := by omega
                  exact ⟨q, by rw [ej]; exact e1, rfl, q0⟩
              refine ⟨_, rfl, _, rfl, a, xs, _, _, rfl, rfl, Evl.ex_l s12 hs, zipR hv, _, _, rfl, rfl, _, rfl, ?_⟩
              by_cases q0 : (0 : Int) ≤ q
              · refine ifT (decide_eq_true q0) ⟨_, rfl, _, _, rfl, rfl, _, rfl, ?_⟩
                by_cases qm : q < m
                · refine ifF (by rw [decide_eq_true qm]; rfl) ?_
                  refine ⟨_, rfl, _, _, rfl, rfl, _, rfl, ?_⟩
                  cases i with
                  | zero =>
                    refine ifF (by decide) ?_
                    refine ifF rfl ?_
                    exact tail q0 qm (by rw [b0 rfl]; exact q0)
                  | succ j =>
                    obtain ⟨q2, e2, e3, e4⟩ := b1 j rfl
                    obtain ⟨v2, hv2, hdx2⟩ := dpAll_at ha e2
                    obtain rfl := dp_int hdx2
                    have hix2 : atI xs (0 + ((j + 1 : Nat) : Int) - 1) = some (.int q2) := by
                      have ez : (0 + ((j + 1 : Nat) : Int) - 1) = (j : Int) := by omega
                      rw [ez]
                      exact atI_nat hv2
                    refine ifT (decide_eq_true (by omega)) ?_
                    refine ⟨_, rfl, _, rfl, a, xs, _, _, rfl, rfl, Evl.ex_l s12 hs, zipR hv, _, rfl, _, rfl, _, _, rfl, rfl, a, xs, _, _, rfl, rfl, Evl.ex_l s12 hs, hix2, _, _, rfl, rfl, _, rfl, ?_⟩
                    by_cases hq : q ≤ q2
                    · refine ifT (decide_eq_true hq) ?_
                      exact ⟨_, rfl, out (by rw [ew, decide_eq_false (by omega : ¬ low ≤ q)]; rfl) _ s12⟩
                    · refine ifF (decide_eq_false hq) ?_
                      exact tail q0 qm (by omega)
                · refine ifT (by rw [decide_eq_false qm]; rfl) ?_
                  exact ⟨_, rfl, out (by rw [ew, decide_eq_false (by omega : ¬ q ≤ m - 1), Bool.and_false]) _ s12⟩
              · refine ifF (decide_eq_false q0) ?_
                refine ⟨_, rfl, ifT rfl ?_⟩
                have lowp : 0 ≤ low := by
                  cases i with
                  | zero => rw [b0 rfl]; exact Int.le_refl 0
                  | succ j =>
                    obtain ⟨q2, e2, e3, e4⟩ := b1 j rfl
                    omega
                exact ⟨_, rfl, out (by rw [ew, decide_eq_false (by omega : ¬ low ≤ q)]; rfl) _ s12⟩
            | _ => cases hw
          · refine ifT (by rw [not_true hw]; rfl) ?_
            exact ⟨_, rfl, out (whole_no fun q e => by subst e; exact hw rfl) _ s12⟩
        · rintro σ H2 ⟨u, low, rfl, s12, hbad, _⟩
          have e : keptBad m ds 0 0 = none := by
            rw [hbad, List.drop_of_length_le (Nat.le_of_eq hlen.symm)]
            rfl
          rw [e] at k
          exact k _ s12
theorem sc__law_letters_due : FnScope ["_law_p", "_law_numbers", "_law_many", "_law_k"] ["_law_p", "_law_numbers", "_law_many"] (defScope (top 62)) := ⟨rfl, rfl, rfl, by decide +kernel, rfl, by decide +kernel, by decide +kernel⟩
theorem ok__law_letters_due (F : FnP K "_law_letters_due" (top 62) [] f fd) (tx : Bn mg) {fI : Addr} {fdI : FuncData} (GI : FnOk P w K mg base CX0 2 fI fdI ["_law_p", "_law_thing"] (spIsN K)) (mI : mg "_law_is_number" = some (.ref fI)) (kpI : PySem.W.keepIn K (.ref fI) = true) (bI : L2.Binds K fdI ["_law_p", "_law_thing"] []) : FnOk P w K mg base CX0 3 f fd ["_law_p", "_law_numbers", "_law_many"] (spLDue K) := by
  refine F.ok sc__law_letters_due (fun vs H Q E h => ?_) (fun cdv A outer s H vs Q E hr h => ?_)
  · obtain ⟨p, x, d, m, rfl, _⟩ := h; rfl
  · obtain ⟨p, x, d0, m, rfl, op, hd, nt, hld, hm, htame, k⟩ := h
    have hrI : Room 2 _ := hr
    refine ⟨_, PSs.nox (pss_cons (ps_if (pt_not (pt_val (pe_callB call_isiT (by rfl) tx.isinstance PyProof.Rows.boot_isinstance (pa_cons (pv 1) (pa_cons (pe_tup (pa_cons (pe_bltn (v := .ty "list") (by rfl) tx.list (by decide +kernel) rfl) (pa_cons (pe_bltn (v := .ty "tuple") (by rfl) tx.tuple (by decide +kernel) rfl) pa_nil))) pa_nil))))) (pss_one (ps_ret pe_int)) pss_nil)
      (pss_cons (ps_for PassesOwn.never rfl (pi_range1 (by rfl) tx.range (pa_cons (pe_callB (call_min2 rfl) (by rfl) tx.min (by decide +kernel) (pa_cons (pv 2) (pa_cons (pe_callB call_len_seq (by rfl) tx.len PySem.boot_len (pa_cons (pv 1) pa_nil)) pa_nil))) pa_nil)) (pg_name (i := 3) sc__law_letters_due.nd rfl (Or.inl rfl)) (pss_one (ps_if (pt_not (pt_val (pe_call GI hrI (by rfl) mI kpI bI .nil pass0 (pa_cons (pv 0) (pa_cons (pe_ix ix_list (pv 1) (pv 3) (fun _ _ => rfl)) pa_nil))))) (pss_one (ps_ret (pv 3))) pss_nil)))
      (pss_cons (ps_if (pt_cmpR op_ne (pe_callB call_len_seq (by rfl) tx.len PySem.boot_len (pa_cons (pv 1) pa_nil)) (pv 2) (by rfl)) (pss_one (ps_ret (pe_callB (call_min2 rfl) (by rfl) tx.min (by decide +kernel) (pa_cons (pe_callB call_len_seq (by rfl) tx.len PySem.boot_len (pa_cons (pv 1) pa_nil)) (pa_cons (pv 2) pa_nil))))) pss_nil)
      (pss_one (ps_ret pe_non))))), ?_⟩
    refine ⟨_, rfl, by show 2 ≤ sizeLine; decide, fun p0 hp0 => ⟨_, p0, _, _, _, _, rfl, upd_same, .cons (.ty _) (.cons (.ty _) .nil), ty_dp (dp_same (same_new hp0) _ _ hd), kit_lt d0, _, rfl, ?_⟩⟩
    have s1 := same_new (o := .tup [.ty "list", .ty "tuple"]) hp0
    generalize upd H p0 (.tup [.ty "list", .ty "tuple"]) = H1 at s1
    rw [seq_is hd]
    cases eq : seqOf d0 with
    | none =>
      refine ifT rfl ?_
      have e : lettersDue p d0 m = some 0 := by unfold lettersDue; rw [eq]
      rw [e] at k
      exact k _ s1
    | some ds =>
      have hl5 := hld ds eq
      have eL := seq_list nt eq
      subst eL
      obtain ⟨a, xs, rfl, hs, ha⟩ := dp_lst hd
      have hlen := dpAll_len ha
      refine ifF rfl ?_
      have em : (if (xs.length : Int) < (m : Int) then (xs.length : Int) else (m : Int)) = ((min ds.length m : Nat) : Int) := by
        rw [hlen]
        split <;> omega
      have hdue : lettersDue p (.list ds) m = match badN p (ds.take m) 0 with
        | some i => some i
        | none => if ds.length = m then none else some (min ds.length m) := rfl
      refine ⟨_, rfl, _, rfl, a, xs, rfl, .inl (Evl.ex_l s1 hs), _, _, rfl, _, rfl, by rw [em]; omega, by rw [em]; omega, ?_⟩
      rw [em]
      refine for_it (walk_range (lo := 0) (n := min ds.length m)) (fun i σ H2 => ∃ (u : Option V), σ = [some (.int p), some (.ref a), some (.int m), u] ∧ Same H H2 ∧ badN p (ds.take m) 0 = badN p ((ds.take m).drop i) i) ⟨none, rfl, s1, by rw [List.drop_zero]⟩ (fun _ _ _ _ _ => trivial) ?_ ?_
      · rintro i z σ H2 H3 hi ⟨u, rfl, s12, hbad⟩ ⟨rfl, rfl⟩
        have hid : i < ds.length := by omega
        have e1 : ds[i]? = some ds[i] := List.getElem?_eq_getElem hid
        have e2 : (ds.take m)[i]? = some ds[i] := by rw [List.getElem?_take_of_lt (by omega)]; exact e1
        have hmem : ds[i] ∈ ds := List.getElem_mem hid
        generalize ds[i] = d at e1 e2 hmem
        obtain ⟨v, hv, hdx⟩ := dpAll_at ha e1
        rw [drop_cons e2] at hbad
        have hbad2 : badN p (ds.take m) 0 = if numD p d then badN p ((ds.take m).drop (i + 1)) (i + 1) else some i := hbad
        refine ⟨_, rfl, _, rfl, _, rfl, a, xs, _, v, rfl, rfl, Evl.ex_l s12 hs, zipR hv, p, v, d, rfl, op, dp_same s12 _ _ hdx, fun t b e => ?_, _, rfl, ?_⟩
        · subst e
          obtain ⟨h1, h2⟩ := tame2 (htame ds rfl _ hmem)
          exact ⟨sm4_of64 (by omega), sm4_of64 (by omega)⟩
        by_cases hn : numD p d = true
        · refine ifF (by rw [hn]; rfl) ⟨_, rfl, s12, ?_⟩
          rw [hbad2, if_pos hn]
        · refine ifT (by rw [not_true hn]; rfl) ⟨_, rfl, ?_⟩
          have e : lettersDue p (.list ds) m = some i := by rw [hdue, hbad2, if_neg hn]
          rw [e] at k
          have k2 : Q (.int (0 + (i : Int))) H3 := by
            rw [Int.zero_add]
            exact k _ s12
          exact k2
      · rintro σ H2 ⟨u, rfl, s12, hbad⟩
        have hbn : badN p (ds.take m) 0 = none := by
          rw [hbad, List.drop_of_length_le (by rw [List.length_take]; omega)]
          rfl
        rw [hbn] at hdue
        refine ⟨_, rfl, a, xs, rfl, .inl (Evl.ex_l s12 hs), _, rfl, rfl, _, rfl, ?_⟩
        by_cases hm2 : ds.length = m
        · refine ifF (by rw [hlen, hm2, decide_eq_true rfl]; rfl) ?_
          have e : lettersDue p (.list ds) m = none := by rw [hdue]; exact if_pos hm2
          rw [e] at k
          exact k _ s12
        · refine ifT (by rw [hlen, decide_eq_false fun z => hm2 (by have := V.int.inj z; omega)]; rfl) ?_
          have e : lettersDue p (.list ds) m = some (min ds.length m) := by rw [hdue]; exact if_neg hm2
          rw [e] at k
          refine ⟨_, rfl, a, xs, rfl, .inl (Evl.ex_l s12 hs), _, rfl, _, _, rfl, ?_⟩
          have em2 : (if (m : Int) < (xs.length : Int) then (m : Int) else (xs.length : Int)) = ((min ds.length m : Nat) : Int) := by
            rw [hlen]
            split <;> omega
          have k2 : Q (.int (if (m : Int) < (xs.length : Int) then (m : Int) else (xs.length : Int))) H2 := by
            rw [em2]
            exact k _ s12
          exact k2
end
end Lb
set_option exponentiation.threshold 20000

namespace Lc
open PySem PySem.Spec PyProof.Rows L2 Dz Ra Mt Kx Ky Re Rb Rc Rd Gn Dn Do Vz Vp Va Vb Vc Vd Ve Lm La Lb
open Kq (HandAt But spTake)
/-- an int is drawn -/
def DrI (a c : Addr) (cs : List Int) (H : Hp) (Q : VK) (R : Int → Prop) : Prop := ∀ (r : Int) (H' : Hp), R r → But a H H' → Hd a c cs H' → Q (.int r) H'
def spFig : Sp := fun vs H Q _ => ∃ (a c : Addr) (cs : List Int), vs = [.ref a] ∧ Hd a c cs H ∧ DrI a c cs H Q Rc.Off
def NumT (p : Int) (d : PyData) : Prop := Nu p d ∧ tameD d = true
def spNumber (K : PySem.W.Frag) : Sp := fun vs H Q _ => ∃ (G : Hp) (a c : Addr) (cs : List Int) (p : Int), vs = [.ref a, .int p] ∧ Rc.Off p ∧ Hw a c cs G H ∧ Dra K a c cs G H Q (NumT p)
def spSize : Sp := fun vs H Q _ => ∃ (a c : Addr) (cs : List Int) (p : Int), vs = [.ref a, .int p, .int 5] ∧ Rc.Off p ∧ Hd a c cs H ∧ DrI a c cs H Q (fun n => 1 ≤ n ∧ n ≤ 5 ∧ (p ≠ 0 → n ≤ p))
def FreeT (p : Int) (r k : Nat) (d : PyData) : Prop := ∃ T, d = tabL T ∧ Tab p T r k ∧ ∀ row ∈ T, ∀ e ∈ row, tameD e = true
def spFree (K : PySem.W.Frag) : Sp := fun vs H Q _ => ∃ (G : Hp) (a c : Addr) (cs : List Int) (p : Int) (r k : Nat), vs = [.ref a, .int p, .int r, .int k] ∧ Rc.Off p ∧ Hw a c cs G H ∧ 1 ≤ r ∧ r ≤ 5 ∧ 1 ≤ k ∧ k ≤ 5 ∧ Dra K a c cs G H Q (FreeT p r k)
def spOdd (K : PySem.W.Frag) : Sp := fun vs H Q _ => ∃ (G : Hp) (a c : Addr) (cs : List Int) (p : Int), vs = [.ref a, .int p] ∧ Rc.Off p ∧ Hw a c cs G H ∧ Dra K a c cs G H Q (fun d => tameD d = true)
def KeptT (d : PyData) : Prop := NoTup d ∧ LenD d
def spKeptL (K : PySem.W.Frag) : Sp := fun vs H Q _ => ∃ (G : Hp) (a c : Addr) (cs : List Int) (m : Nat), vs = [.ref a, .int m] ∧ Hw a c cs G H ∧ m ≤ 5 ∧ Dra K a c cs G H Q KeptT
def LettT (d : PyData) : Prop := NoTup d ∧ LenD d ∧ ∀ ds, d = .list ds → ∀ e ∈ ds, tameD e = true
def spLett (K : PySem.W.Frag) : Sp := fun vs H Q _ => ∃ (G : Hp) (a c : Addr) (cs : List Int) (p : Int) (m : Nat), vs = [.ref a, .int p, .int m] ∧ Rc.Off p ∧ Hw a c cs G H ∧ 1 ≤ m ∧ m ≤ 5 ∧ Dra K a c cs G H Q LettT
theorem bt {a : Addr} {H H1 H2 : Hp} (x : But a H H1) (y : But a H1 H2) : But a H H2 := Vp.But.trans x y
theorem bo {a : Addr} {H H1 : Hp} (x : Same H H1) : But a H H1 := fun b o _ e => x b o e
theorem but_at {a q : Addr} {H H' : Hp} {o : HO} (h : H a ≠ none) (hq : H q = none) (b : But a (upd H q o) H') : H' q = some o := b q o (fun z => h (by rw [← z]; exact hq)) upd_same
section
variable {K : PySem.W.Frag} {J : It} {n : Nat} {Gd : Hp → Prop} {Y : Nat → Hp → V → Hp → Prop} {g : TG} {tt : TT} {te : TE} {vs : List Nat} {σ : L2.St} {G1 H1 : Hp} {D : Addr} {Qd : Hp → Prop}
/-- a comprehension with a test that draws -/
theorem lcF {a c : Addr} {cs : List Int} (w : Walk J n Gd Y) (R : Nat → PyData → Prop) (hw : Hw a c cs G1 H1) (hD : H1 D = none) (hn : n ≤ 1000) (hGd : ∀ G H, Same G1 G → Same G H → But a H1 H → Gd H)
    (hs : ∀ i x G H H' (kn : Hp → Prop) (kk : VK), i < n → Same G1 G → Hw a c cs G H → Y i H x H' → (∀ y G' H4 d, R i d → Mv G H G' H4 → But a H H4 → Hd a c cs H4 → Dp K G' y d → kk y H4) → (∀ H4, But a H H4 → Hd a c cs H4 → kn H4) →
      g x (wipe σ vs) H' fun σ2 H2 => wipe σ2 vs = wipe σ vs ∧ tt σ2 H2 fun b H3 => if b = true then te σ2 H3 kk else kn H3)
    (q : ∀ acc ds G2 H2, H2 D = some (.lst acc) → DpAll K G2 acc ds → ds.length ≤ n → (∀ d ∈ ds, ∃ i, i < n ∧ R i d) → Mv G1 (upd H1 D (.lst [])) G2 H2 → But a H1 H2 → Hw a c cs G2 H2 → G2 D = none → Qd H2) : LcW J g tt te vs σ H1 D Qd := by
  obtain ⟨na, nc⟩ := hw.h.ne hD
  have g1D := old_none hw.s hD
  have h0D : (upd H1 D (.lst [])) D ≠ none := by
    rw [upd_same]
    exact fun z => nomatch z
  have h0 : Hw a c cs G1 (upd H1 D (.lst [])) := hw.mv (Mv.hid hw.s hD) (hw.h.put na nc)
  refine lc_it w (fun i H => ∃ acc ds G, H D = some (.lst acc) ∧ DpAll K G acc ds ∧ ds.length ≤ i ∧ i ≤ n ∧ (∀ d ∈ ds, ∃ j, j < n ∧ R j d) ∧ Mv G1 (upd H1 D (.lst [])) G H ∧ But a H1 H ∧ Hd a c cs H) ?_ ?_ ?_ ?_
  · exact ⟨[], [], G1, upd_same, .nil, Nat.zero_le _, Nat.zero_le _, (fun d hd => nomatch hd), Mv.refl (hw.s.trans (same_new hD)), bo (same_new hD), hw.h.put na nc⟩
  · rintro i H hi ⟨acc, ds, G, h1, h2, h3, _, h4, h5, h6, h7⟩
    exact hGd G H h5.gg h5.gh h6
  · rintro i x H H' hi ⟨acc, ds, G, h1, h2, h3, h30, h4, h5, h6, h7⟩ y
    refine hs i x G H H' _ _ hi h5.gg (h0.mv h5 h7) y ?_ ?_
    · rintro z G' H4 d r m kp i4 hd
      have hD4 : H4 D = some (.lst acc) := kp D _ na h1
      have gD : G D = none := h5.no h0D g1D
      have gD' : G' D = none := m.no (some_ne h1) gD
      have la : acc.length = ds.length := dpAll_len h2
      refine ⟨acc, hD4, Nat.lt_of_le_of_lt (by omega : acc.length ≤ 1000) (by decide), acc ++ [z], ds ++ [d], G', upd_same, dpAll_append (dp_sameAll m.gg _ _ h2) (.cons hd .nil), by rw [List.length_append, List.length_singleton]; omega, hi, ?_, ?_, ?_, ?_⟩
      · intro e he
        rcases List.mem_append.mp he with he | he
        · exact h4 e he
        · rw [List.mem_singleton.mp he]
          exact ⟨i, hi, r⟩
      · exact (h5.trans m).trans (Mv.put m.gh gD' (some_ne hD4))
      · intro b u hb e
        rw [upd_ne (ne_of_none e hD)]
        exact kp b u hb (h6 b u hb e)
      · exact i4.put na nc
    · intro H4 b4 hd4
      have m4 := (h0.mv h5 h7).but b4 hd4
      exact ⟨acc, ds, G, b4 D _ na h1, h2, Nat.le_succ_of_le h3, hi, h4, h5.trans m4, bt h6 b4, hd4⟩
  · rintro H ⟨acc, ds, G, h1, h2, h3, _, h4, h5, h6, h7⟩
    exact q acc ds G H h1 h2 h3 h4 h5 h6 (h0.mv h5 h7) (h5.no h0D g1D)
end
theorem pick12 {r : Int} (h0 : 0 ≤ r) (h1 : r < 12) : ∃ p : Int, atI [V.int 0, .int 5, .int 3, .int 7, .int 0, .int 5, .int 2, .int 13, .int 5, .int 3, .int 0, .int 11] r = some (.int p) ∧ Rc.Off p := by
  have h : r = 0 ∨ r = 1 ∨ r = 2 ∨ r = 3 ∨ r = 4 ∨ r = 5 ∨ r = 6 ∨ r = 7 ∨ r = 8 ∨ r = 9 ∨ r = 10 ∨ r = 11 := by omega
  rcases h with rfl | rfl | rfl | rfl | rfl | rfl | rfl | rfl | rfl | rfl | rfl | rfl <;> exact ⟨_, rfl, by unfold Rc.Off Rb.Six; omega⟩
theorem min5 {p : Int} (h : Rc.Off p) : nuMin3 (.int 5) (.int 5) (.int p) = some (.int (if p < 5 then p else 5)) := by
  rcases h with rfl | h
  · rfl
  · rcases h with rfl | rfl | rfl | rfl | rfl | rfl <;> rfl
theorem off_two {p : Int} (h : Rc.Off p) (hp : p ≠ 0) : 2 ≤ p := by
  unfold Rc.Off Rb.Six at h
  omega
section
variable {P : Program} {w : World} {K : PySem.W.Frag} {mg : Str → Option Value} {base : Heap} {C CP f : Addr} {fd : FuncData}
theorem sc__law_figures : FnScope ["_law_hand_here"] ["_law_hand_here"] (defScope (top 51)) := ⟨rfl, rfl, rfl, by decide +kernel, rfl, by decide +kernel, by decide +kernel⟩
theorem ok__law_figures (F : FnP K "_law_figures" (top 51) [] f fd) {fT : Addr} {fdT : FuncData} (GT : FnOk P w K mg base CX0 2 fT fdT ["_law_hand_here", "_law_many"] spTake) (mT : mg "_law_take" = some (.ref fT)) (kpT : PySem.W.keepIn K (.ref fT) = true) (bT : L2.Binds K fdT ["_law_hand_here", "_law_many"] []) : FnOk P w K mg base CX0 3 f fd ["_law_hand_here"] spFig := by
  refine F.ok sc__law_figures (fun vs H Q E h => ?_) (fun cdv A outer s H vs Q E hr h => ?_)
  · obtain ⟨a, c, cs, rfl, _⟩ := h; rfl
  · obtain ⟨a, c, cs, rfl, hd, k⟩ := h
    have hrT : Room 2 _ := hr
    refine ⟨_, PSs.nox (pss_one (ps_ret (pe_ix ix_tup (pe_tup (pa_cons pe_int (pa_cons pe_int (pa_cons pe_int (pa_cons pe_int (pa_cons pe_int (pa_cons pe_int (pa_cons pe_int (pa_cons pe_int (pa_cons pe_int (pa_cons pe_int (pa_cons pe_int (pa_cons pe_int pa_nil))))))))))))) (pe_call GT hrT (by rfl) mT kpT bT .nil pass0 (pa_cons (pv 0) (pa_cons pe_int pa_nil))) (fun _ _ => rfl)))), ?_⟩
    refine ⟨by show 12 ≤ sizeLine; decide, fun q hq => ?_⟩
    obtain ⟨p1, g1, t1, h1⟩ := hd.same (same_new hq)
    refine ⟨_, rfl, a, c, cs, _, _, _, 12, rfl, h1, by decide, by decide, fun r _ _ _ H2 r0 r1 bH2 hH2 => ?_⟩
    obtain ⟨p, ep, op⟩ := pick12 r0 r1
    exact ⟨q, _, r, .int p, rfl, rfl, SqT.of (but_at hd.some hq bH2), ep, k p H2 op (bt (bo (same_new hq)) bH2) ⟨_, _, _, hH2⟩⟩
theorem sc__law_number : FnScope ["_law_hand_here", "_law_p", "_law_top"] ["_law_hand_here", "_law_p"] (defScope (top 52)) := ⟨rfl, rfl, rfl, by decide +kernel, rfl, by decide +kernel, by decide +kernel⟩
theorem ok__law_number (F : FnP K "_law_number" (top 52) [] f fd) {fT : Addr} {fdT : FuncData} (GT : FnOk P w K mg base CX0 2 fT fdT ["_law_hand_here", "_law_many"] spTake) (mT : mg "_law_take" = some (.ref fT)) (kpT : PySem.W.keepIn K (.ref fT) = true) (bT : L2.Binds K fdT ["_law_hand_here", "_law_many"] []) {fR : Addr} {fdR : FuncData} (GR : FnOk P w K mg base CX0 2 fR fdR ["_law_top", "_law_bottom"] spLowL) (mR : mg "_law_ratio" = some (.ref fR)) (kpR : PySem.W.keepIn K (.ref fR) = true) (bR : L2.Binds K fdR ["_law_top", "_law_bottom"] []) : FnOk P w K mg base CX0 3 f fd ["_law_hand_here", "_law_p"] (spNumber K) := by
  refine F.ok sc__law_number (fun vs H Q E h => ?_) (fun cdv A outer s H vs Q E hr h => ?_)
  · obtain ⟨G, a, c, cs, p, rfl, _⟩ := h; rfl
  · obtain ⟨G, a, c, cs, p, rfl, op, hw, k⟩ := h
    have hrT : Room 2 _ := hr
    have hrR : Room 2 _ := hr
    obtain ⟨p1, g1, t1, h1⟩ := id hw.h
    refine ⟨_, PSs.nox (pss_cons (ps_if (pt_cmpR op_gt (pv 1) pe_int (by rfl)) (pss_one (ps_ret (pe_call GT hrT (by rfl) mT kpT bT .nil pass0 (pa_cons (pv 0) (pa_cons (pv 1) pa_nil))))) pss_nil)
      (pss_cons (ps_set (i := 2) sc__law_number.nd rfl (Or.inl rfl) (pe_op op_sub (pe_call GT hrT (by rfl) mT kpT bT .nil pass0 (pa_cons (pv 0) (pa_cons pe_int pa_nil))) pe_int))
      (pss_cons (ps_if (pt_cmpR op_eq (pe_call GT hrT (by rfl) mT kpT bT .nil pass0 (pa_cons (pv 0) (pa_cons pe_int pa_nil))) pe_int (by rfl)) (pss_one (ps_ret (pe_call GR hrR (by rfl) mR kpR bR .nil pass0 (pa_cons (pv 2) (pa_cons (pe_op op_add pe_int (pe_call GT hrT (by rfl) mT kpT bT .nil pass0 (pa_cons (pv 0) (pa_cons pe_int pa_nil)))) pa_nil))))) pss_nil)
      (pss_one (ps_ret (pe_tup (pa_cons (pv 2) (pa_cons pe_int pa_nil)))))))), ?_⟩
    refine ⟨_, rfl, _, _, rfl, rfl, _, rfl, ?_⟩
    by_cases hp : p = 0
    · subst hp
      refine ifF (by decide) ?_
      refine ⟨_, rfl, a, c, cs, _, _, _, 7, rfl, h1, by decide, by decide, fun r _ _ _ H2 r0 r1 bH2 hH2 => ⟨_, _, rfl, rfl, ?_⟩⟩
      have w2 := hw.mv (hw.but bH2 ⟨_, _, _, hH2⟩) ⟨_, _, _, hH2⟩
      refine ⟨_, rfl, a, c, cs, _, _, _, 4, rfl, hH2, by decide, by decide, fun u _ _ _ H3 u0 u1 bH3 hH3 => ⟨rfl, _, rfl, ?_⟩⟩
      have hd3 : Hd a c cs H3 := ⟨_, _, _, hH3⟩
      have m3 := (hw.but bH2 ⟨_, _, _, hH2⟩).trans (w2.but bH3 hd3)
      have w3 := hw.mv m3 hd3
      have b3 := bt bH2 bH3
      by_cases hu : u = 0
      · refine ifT (decide_eq_true (congrArg V.int hu)) ?_
        refine ⟨_, rfl, _, rfl, a, c, cs, _, _, _, 2, rfl, hH3, by decide, by decide, fun v _ _ _ H4 v0 v1 bH4 hH4 => ⟨_, _, rfl, rfl, ?_⟩⟩
        have hd4 : Hd a c cs H4 := ⟨_, _, _, hH4⟩
        have m4 := m3.trans (w3.but bH4 hd4)
        have w4 := hw.mv m4 hd4
        refine ⟨_, _, rfl, by omega, sm4_of64 (by omega), sm4_of64 (by omega), fun q hq => ?_⟩
        have m5 := Mv.new (o := .tup [.int (lowT (r - 3) (2 + v)), .int (lowB (r - 3) (2 + v))]) m4.gh hq
        have lo := low_low (t := r - 3) (b := 2 + v) (by omega)
        have l1 := lowT_le (t := r - 3) (b := 2 + v)
        have l2 := lowB_le (t := r - 3) (b := 2 + v)
        refine k _ (.tuple [.int (lowT (r - 3) (2 + v)), .int (lowB (r - 3) (2 + v))]) _ _ ⟨ratioD_low lo, ?_⟩ (m4.trans m5) (bt (bt b3 bH4) (bo (same_new hq))) (hd4.same (same_new hq)) (dp_of2 (SqT.of upd_same))
        show (decide ((lowT (r - 3) (2 + v)).natAbs < 32) && (decide ((lowB (r - 3) (2 + v)).natAbs < 32) && true)) = true
        rw [decide_eq_true (by omega), decide_eq_true (by omega)]
        rfl
      · refine ifF (fdec hu) ?_
        refine ⟨_, rfl, by show 2 ≤ sizeLine; decide, fun q hq => ?_⟩
        have m5 := Mv.new (o := .tup [.int (r - 3), .int 1]) m3.gh hq
        refine k _ (.tuple [.int (r - 3), .int 1]) _ _ ⟨ratioD_low (t := r - 3) (b := 1) ⟨by decide, Nat.gcd_one_right _⟩, ?_⟩ (m3.trans m5) (bt b3 (bo (same_new hq))) (hd3.same (same_new hq)) (dp_of2 (SqT.of upd_same))
        show (decide ((r - 3).natAbs < 32) && (decide ((1 : Int).natAbs < 32) && true)) = true
        rw [decide_eq_true (by omega)]
        rfl
    · obtain ⟨p0, p13⟩ := off_pos op hp
      refine ifT (decide_eq_true p0) ?_
      refine ⟨_, rfl, _, rfl, a, c, cs, _, _, _, p, rfl, h1, by omega, by omega, fun r _ _ _ H2 r0 r1 bH2 hH2 => ?_⟩
      have hd2 : Hd a c cs H2 := ⟨_, _, _, hH2⟩
      refine k _ (.int r) G H2 ⟨?_, ?_⟩ (hw.but bH2 hd2) bH2 hd2 (.int r)
      · unfold Nu numD
        rw [if_neg hp]
        show (decide ((0 : Int) ≤ r) && decide (r ≤ p - 1)) = true
        rw [decide_eq_true r0, decide_eq_true (by omega)]
        rfl
      · show decide (r.natAbs < 32) = true
        exact decide_eq_true (by omega)
theorem sc__law_size : FnScope ["_law_hand_here", "_law_p", "_law_most", "_law_great"] ["_law_hand_here", "_law_p", "_law_most"] (defScope (top 53)) := ⟨rfl, rfl, rfl, by decide +kernel, rfl, by decide +kernel, by decide +kernel⟩
theorem ok__law_size (F : FnP K "_law_size" (top 53) [] f fd) (tx : Bn mg) {fT : Addr} {fdT : FuncData} (GT : FnOk P w K mg base CX0 2 fT fdT ["_law_hand_here", "_law_many"] spTake) (mT : mg "_law_take" = some (.ref fT)) (kpT : PySem.W.keepIn K (.ref fT) = true) (bT : L2.Binds K fdT ["_law_hand_here", "_law_many"] []) : FnOk P w K mg base CX0 3 f fd ["_law_hand_here", "_law_p", "_law_most"] spSize := by
  refine F.ok sc__law_size (fun vs H Q E h => ?_) (fun cdv A outer s H vs Q E hr h => ?_)
  · obtain ⟨a, c, cs, p, rfl, _⟩ := h; rfl
  · obtain ⟨a, c, cs, p, rfl, op, hd, k⟩ := h
    have hrT : Room 2 _ := hr
    refine ⟨_, PSs.nox (Evl.pss_cut (ps_set (i := 3) sc__law_size.nd rfl (Or.inl rfl) (pe_ifExp (pt_cmpR op_gt (pv 1) pe_int (by rfl)) (pe_callB (call_min3Nu rfl) (by rfl) tx.min (by decide +kernel) (pa_cons (pv 2) (pa_cons pe_int (pa_cons (pv 1) pa_nil)))) (pe_callB (call_min2 rfl) (by rfl) tx.min (by decide +kernel) (pa_cons (pv 2) (pa_cons pe_int pa_nil)))))
      (pss_cons (ps_if (pt_cmpR op_eq (pe_call GT hrT (by rfl) mT kpT bT .nil pass0 (pa_cons (pv 0) (pa_cons pe_int pa_nil))) pe_int (by rfl)) (pss_one (ps_ret (pv 3))) pss_nil)
      (pss_one (ps_ret (pe_op op_add pe_int (pe_call GT hrT (by rfl) mT kpT bT .nil pass0 (pa_cons (pv 0) (pa_cons (pe_callB (call_min2 rfl) (by rfl) tx.min (by decide +kernel) (pa_cons (pv 3) (pa_cons pe_int pa_nil))) pa_nil)))))))), ?_⟩
    refine ⟨fun σ2 H2 => H2 = H ∧ ∃ g : Int, σ2 = [some (.ref a), some (.int p), some (.int 5), some (.int g)] ∧ 1 ≤ g ∧ g ≤ 5 ∧ (p ≠ 0 → g ≤ p), ?_, ?_⟩
    · refine ⟨_, rfl, _, _, rfl, rfl, _, rfl, ?_⟩
      by_cases hp : p = 0
      · subst hp
        exact ifF (by decide) ⟨_, rfl, _, _, rfl, rfl, 5, rfl, by decide, by decide, fun z => absurd rfl z⟩
      · obtain ⟨p0, p13⟩ := off_pos op hp
        refine ifT (decide_eq_true p0) ⟨_, rfl, _, rfl, _, _, _, .int (if p < 5 then p else 5), rfl, min5 op, rfl, _, rfl, ?_⟩
        have p2 := off_two op hp
        refine ⟨?_, ?_, fun _ => ?_⟩ <;> split <;> omega
    · rintro σ2 H2 ⟨rfl, g, rfl, g1, g5, gp⟩
      obtain ⟨p1, g2, t1, h1⟩ := id hd
      refine ⟨_, rfl, a, c, cs, _, _, _, 8, rfl, h1, by decide, by decide, fun r _ _ _ H3 r0 r1 bH3 hH3 => ⟨rfl, _, rfl, ?_⟩⟩
      by_cases hr0 : r = 0
      · exact ifT (decide_eq_true (congrArg V.int hr0)) ⟨_, rfl, k g _ ⟨g1, g5, gp⟩ bH3 ⟨_, _, _, hH3⟩⟩
      · refine ifF (fdec hr0) ?_
        have lim : 0 < (if (3 : Int) < g then (3 : Int) else g) ∧ (if (3 : Int) < g then (3 : Int) else g) < 2 ^ 64 := by constructor <;> split <;> omega
        refine ⟨_, rfl, _, rfl, _, _, rfl, a, c, cs, _, _, _, _, rfl, hH3, lim.1, lim.2, fun u _ _ _ H4 u0 u1 b4 h4 => ⟨_, _, rfl, rfl, ?_⟩⟩
        refine k (1 + u) _ ⟨by omega, ?_, fun hp => ?_⟩ (bt bH3 b4) ⟨_, _, _, h4⟩
        · split at u1 <;> omega
        · have := gp hp
          split at u1 <;> omega
theorem sc__law_free : FnScope ["_law_hand_here", "_law_p", "_law_rows", "_law_columns", "_law_j", "_law_i"] ["_law_hand_here", "_law_p", "_law_rows", "_law_columns"] (defScope (top 54)) := ⟨rfl, rfl, rfl, by decide +kernel, rfl, by decide +kernel, by decide +kernel⟩
theorem ok__law_free (F : FnP K "_law_free" (top 54) [] f fd) (tx : Bn mg) {fN : Addr} {fdN : FuncData} (GN : FnOk P w K mg base CX0 3 fN fdN ["_law_hand_here", "_law_p"] (spNumber K)) (mN : mg "_law_number" = some (.ref fN)) (kpN : PySem.W.keepIn K (.ref fN) = true) (bN : L2.Binds K fdN ["_law_hand_here", "_law_p"] []) : FnOk P w K mg base CX0 4 f fd ["_law_hand_here", "_law_p", "_law_rows", "_law_columns"] (spFree K) := by
  refine F.ok sc__law_free (fun vs H Q E h => ?_) (fun cdv A outer s H vs Q E hr h => ?_)
  · obtain ⟨G, a, c, cs, p, r, q, rfl, _⟩ := h; rfl
  · obtain ⟨G, a, c, cs, p, r, q, rfl, op, hw, r1, r5, q1, q5, k⟩ := h
    have hrN : Room 3 _ := hr
    refine ⟨_, PSs.nox (pss_one (ps_ret (pe_lc (own := [("_law_i", 5)]) (g := gName 5) (tt := tYes) rfl sc__law_free.nd (pi_range1 (by rfl) tx.range (pa_cons (pv 2) pa_nil)) (blkOk_by (own := [("_law_i", 5)]) (N := ["_law_hand_here", "_law_p", "_law_rows", "_law_columns", "_law_j", "_law_i"]) (sc := defScope (top 54)) (by decide +kernel)) (fun _ _ _ _ _ => (pg_name (i := 5) sc__law_free.nd rfl (by first | exact Or.inl rfl | exact Or.inr rfl))) (fun _ _ _ _ _ => pts_nil) (fun _ _ _ _ _ => (pe_lc (own := [("_law_j", 4)]) (g := gName 4) (tt := tYes) rfl sc__law_free.nd (pi_range1 (by rfl) tx.range (pa_cons (pv 3) pa_nil)) (blkOk_by (own := [("_law_j", 4)]) (N := ["_law_hand_here", "_law_p", "_law_rows", "_law_columns", "_law_j", "_law_i"]) (sc := relS _ (defScope (top 54))) (by decide +kernel)) (fun _ _ _ _ _ => (pg_name (i := 4) sc__law_free.nd rfl (by first | exact Or.inl rfl | exact Or.inr rfl))) (fun _ _ _ _ _ => pts_nil) (fun _ _ _ _ _ => (pe_call GN hrN (by rfl) mN kpN bN .nil pass0 (pa_cons (pv 0) (pa_cons (pv 1) pa_nil))))))))), ?_⟩
    refine ⟨_, rfl, (r : Int), rfl, by omega, by omega, fun D hD => lcH (K := K) (walk_range (lo := 0) (n := r)) (fun _ d => ∃ row : List PyData, d = .list row ∧ row.length = q ∧ ∀ e ∈ row, NumT p e) hw hD (by omega) (fun _ _ _ _ _ => trivial) ?_ ?_⟩
    · rintro i x G2 H2 H3 kn kk hi g2 w2 ⟨rfl, rfl⟩ made
      refine ⟨rfl, yes ?_⟩
      refine ⟨_, rfl, (q : Int), rfl, by omega, by omega, fun D2 hD2 => lcH (K := K) (walk_range (lo := 0) (n := q)) (fun _ d => NumT p d) w2 hD2 (by omega) (fun _ _ _ _ _ => trivial) ?_ ?_⟩
      · rintro i2 x2 G4 H4 H5 kn2 kk2 hi2 g4 w4 ⟨rfl, rfl⟩ made2
        refine ⟨rfl, yes ?_⟩
        exact ⟨_, rfl, _, rfl, G4, a, c, cs, p, rfl, op, w4, fun v d G5 H6 hR m5 b5 hd5 hdv => made2 _ _ _ _ hR m5 b5 hd5 hdv⟩
      · intro acc ds G4 H4 hD4 hacc hlen hall m4 b4 w4 gD4
        obtain ⟨m5, hd5⟩ := shut_lc w2.s hD2 hD4 hacc m4
        exact made _ _ _ _ ⟨ds, rfl, hlen, fun e he => by
          obtain ⟨j, hj⟩ := List.getElem?_of_mem he
          exact hall j e hj⟩ m5 b4 w4.h hd5
    · intro acc ds G4 H4 hD4 hacc hlen hall m4 b4 w4 gD4
      obtain ⟨m5, hd5⟩ := shut_lc hw.s hD hD4 hacc m4
      refine k _ _ _ _ ?_ m5 b4 w4.h hd5
      have all : ∀ d ∈ ds, ∃ row : List PyData, d = .list row ∧ row.length = q ∧ ∀ e ∈ row, NumT p e := fun d hd => by
        obtain ⟨j, hj⟩ := List.getElem?_of_mem hd
        exact hall j d hj
      have e1 : ds.map (fun d => PyData.list ((seqOf d).getD [])) = ds := by
        conv => rhs; rw [← List.map_id ds]
        refine List.map_congr_left fun d hd => ?_
        obtain ⟨row, rfl, _⟩ := all d hd
        rfl
      refine ⟨ds.map (fun d => (seqOf d).getD []), ?_, ⟨by rw [List.length_map, hlen], fun row hrow => ?_, r1, r5, q1, q5⟩, fun row hrow e he => ?_⟩
      · unfold tabL
        rw [List.map_map]
        exact congrArg PyData.list e1.symm
      · obtain ⟨d, hd, rfl⟩ := List.mem_map.mp hrow
        obtain ⟨row, rfl, h1, h2⟩ := all d hd
        exact ⟨h1, fun e he => (h2 e he).1⟩
      · obtain ⟨d, hd, rfl⟩ := List.mem_map.mp hrow
        obtain ⟨row, rfl, h1, h2⟩ := all d hd
        exact (h2 e he).2
end
end Lc
set_option exponentiation.threshold 20000

namespace Ld
open PySem PySem.Spec PyProof.Rows L2 Dz Ra Mt Kx Ky Re Rb Rc Rd Gn Dn Do Vz Vp Va Vb Vc Vd Ve Lm La Lb Lc
open Kq (HandAt But spTake)
section
variable {K : PySem.W.Frag} {a c : Addr} {cs : List Int} {G H G' H' : Hp} {Q : VK} {R : PyData → Prop} {l D : Addr} {vs : List V} {es : List PyData}
theorem dra_new (k : Dra K a c cs G H Q R) (m : Mv G H G' H') (b : But a H H') (hd : Hd a c cs H') (hl : H' l = none) (h : DpAll K G' vs es) (r : R (.list es)) : Q (.ref l) (upd H' l (.lst vs)) := by
  have m2 := Mv.new (o := .lst vs) m.gh hl
  exact k _ _ _ _ r (m.trans m2) (bt b (bo (same_new hl))) (hd.same (same_new hl)) (.lst (SqL.of upd_same) (dp_sameAll m2.gg _ _ h))
theorem dra_shut (k : Dra K a c cs G H Q R) (m : Mv G H G' H') (b : But a H H') (hd : Hd a c cs H') (hD : H D = none) (gD : G' D = none) (h1 : H' D = some (.lst vs)) (h : DpAll K G' vs es) (r : R (.list es)) : Q (.ref D) H' :=
  k _ _ _ _ r (Mv.shut m hD gD h1) b hd (.lst (SqL.of upd_same) (dp_sameAll (same_new gD) _ _ h))
theorem dra_at {v : V} {d : PyData} (k : Dra K a c cs G H Q R) (m : Mv G H G' H') (b : But a H H') (hd : Hd a c cs H') (h : Dp K G' v d) (r : R d) : Q v H' := k _ _ _ _ r m b hd h
end
def cutD (ds : List PyData) (lo hi : Option Int) : List PyData := (ds.drop (HT.sIx ds.length 0 lo)).take (HT.sIx ds.length ds.length hi - HT.sIx ds.length 0 lo)
theorem dpAll_cut {K : PySem.W.Frag} {H : Hp} {xs : List V} {ds : List PyData} (h : DpAll K H xs ds) (lo hi : Option Int) : DpAll K H (cutV xs lo hi) (cutD ds lo hi) := by
  unfold cutV cutD
  rw [dpAll_len h]
  exact dpAll_take _ (dpAll_drop _ h)
theorem cutD_mem {ds : List PyData} {lo hi : Option Int} {d : PyData} (h : d ∈ cutD ds lo hi) : d ∈ ds := List.mem_of_mem_drop (List.mem_of_mem_take h)
theorem cutD_len {ds : List PyData} {lo hi : Option Int} : (cutD ds lo hi).length ≤ ds.length := by
  unfold cutD
  rw [List.length_take, List.length_drop]
  omega
theorem kept_list {ds : List PyData} (h : ds.length ≤ 1000) : KeptT (.list ds) := ⟨(fun es e => by cases e), fun es e => by cases e; exact h⟩
theorem kept_atom {d : PyData} (h : seqOf d = none) : KeptT d := ⟨(fun es e => by subst e; cases h), fun es e => by rw [h] at e; cases e⟩
theorem lett_list {ds : List PyData} (h : ds.length ≤ 1000) (t : ∀ e ∈ ds, tameD e = true) : LettT (.list ds) := ⟨(fun es e => by cases e), (fun es e => by cases e; exact h), fun es e => by cases e; exact t⟩
theorem lett_atom {d : PyData} (h : seqOf d = none) : LettT d := ⟨(fun es e => by subst e; cases h), (fun es e => by rw [h] at e; cases e), fun es e => by subst e; cases h⟩
/-- the odd things -/
def odds (z : Int) (q1 q2 q3 q4 : Addr) : List V := [.bl true, .non, .str "1", .int z, .ref q1, .ref q2, .int (-1), .ref q3, .ref q4]
theorem pick9 {K : PySem.W.Frag} {G : Hp} {z : Int} {q1 q2 q3 q4 : Addr} (hz : z.natAbs < 32) (d1 : Dp K G (.ref q1) (.tuple [.int 2, .int 4])) (d2 : Dp K G (.ref q2) (.list [.int 1, .int 2])) (d3 : Dp K G (.ref q3) (.tuple [.int 0, .int 3])) (d4 : Dp K G (.ref q4) (.tuple [.int 1, .int 1, .int 1])) {r : Int} (h0 : 0 ≤ r) (h1 : r < 9) :
    ∃ v d, atI (odds z q1 q2 q3 q4) r = some v ∧ Dp K G v d ∧ tameD d = true := by
  have h : r = 0 ∨ r = 1 ∨ r = 2 ∨ r = 3 ∨ r = 4 ∨ r = 5 ∨ r = 6 ∨ r = 7 ∨ r = 8 := by omega
  rcases h with rfl | rfl | rfl | rfl | rfl | rfl | rfl | rfl | rfl
  · exact ⟨_, _, rfl, .bl true, rfl⟩
  · exact ⟨_, _, rfl, .non, rfl⟩
  · exact ⟨_, _, rfl, .str "1", rfl⟩
  · exact ⟨_, _, rfl, .int z, decide_eq_true hz⟩
  · exact ⟨_, _, rfl, d1, by decide⟩
  · exact ⟨_, _, rfl, d2, by decide⟩
  · exact ⟨_, _, rfl, .int (-1), by decide⟩
  · exact ⟨_, _, rfl, d3, by decide⟩
  · exact ⟨_, _, rfl, d4, by decide⟩
theorem pick4 {r : Int} (h0 : 0 ≤ r) (h1 : r < 4) {K : PySem.W.Frag} {G : Hp} : ∃ v d, atI [V.non, .int 0, .str "0", .bl true] r = some v ∧ Dp K G v d ∧ seqOf d = none := by
  have h : r = 0 ∨ r = 1 ∨ r = 2 ∨ r = 3 := by omega
  rcases h with rfl | rfl | rfl | rfl
  · exact ⟨_, _, rfl, .non, rfl⟩
  · exact ⟨_, _, rfl, .int 0, rfl⟩
  · exact ⟨_, _, rfl, .str "0", rfl⟩
  · exact ⟨_, _, rfl, .bl true, rfl⟩
theorem pick3 {r : Int} (h0 : 0 ≤ r) (h1 : r < 3) {K : PySem.W.Frag} {G : Hp} : ∃ v d, atI [V.non, .int 5, .str "ab"] r = some v ∧ Dp K G v d ∧ seqOf d = none := by
  have h : r = 0 ∨ r = 1 ∨ r = 2 := by omega
  rcases h with rfl | rfl | rfl
  · exact ⟨_, _, rfl, .non, rfl⟩
  · exact ⟨_, _, rfl, .int 5, rfl⟩
  · exact ⟨_, _, rfl, .str "ab", rfl⟩
section
variable {P : Program} {w : World} {K : PySem.W.Frag} {mg : Str → Option Value} {base : Heap} {C CP f : Addr} {fd : FuncData}
theorem sc__law_odd : FnScope ["_law_hand_here", "_law_p", "_law_odd_here"] ["_law_hand_here", "_law_p"] (defScope (top 57)) := ⟨rfl, rfl, rfl, by decide +kernel, rfl, by decide +kernel, by decide +kernel⟩
theorem ok__law_odd (F : FnP K "_law_odd" (top 57) [] f fd) (tx : Bn mg) {fT : Addr} {fdT : FuncData} (GT : FnOk P w K mg base CX0 2 fT fdT ["_law_hand_here", "_law_many"] spTake) (mT : mg "_law_take" = some (.ref fT)) (kpT : PySem.W.keepIn K (.ref fT) = true) (bT : L2.Binds K fdT ["_law_hand_here", "_law_many"] []) : FnOk P w K mg base CX0 3 f fd ["_law_hand_here", "_law_p"] (spOdd K) := by
  refine F.ok sc__law_odd (fun vs H Q E h => ?_) (fun cdv A outer s H vs Q E hr h => ?_)
  · obtain ⟨G, a, c, cs, p, rfl, _⟩ := h; rfl
  · obtain ⟨G, a, c, cs, p, rfl, op, hw, k⟩ := h
    have hrT : Room 2 _ := hr
    refine ⟨_, PSs.nox (pss_cons (ps_set (i := 2) sc__law_odd.nd rfl (Or.inl rfl) (pe_lst (pa_cons pe_bl (pa_cons pe_non (pa_cons pe_str (pa_cons pe_int (pa_cons (pe_tup (pa_cons pe_int (pa_cons pe_int pa_nil))) (pa_cons (pe_lst (pa_cons pe_int (pa_cons pe_int pa_nil))) (pa_cons (pe_un un_neg pe_int) (pa_cons (pe_tup (pa_cons pe_int (pa_cons pe_int pa_nil))) (pa_cons (pe_tup (pa_cons pe_int (pa_cons pe_int (pa_cons pe_int pa_nil)))) pa_nil)))))))))))
      (Evl.pss_cut (ps_if (pt_cmpR op_gt (pv 1) pe_int (by rfl)) (pss_one (ps_asg (pe_op op_add (pv 1) (pe_call GT hrT (by rfl) mT kpT bT .nil pass0 (pa_cons (pv 0) (pa_cons pe_int pa_nil)))) (pg_sub (pv 2) pe_int set_list))) pss_nil)
      (pss_one (ps_ret (pe_ix ix_list (pv 2) (pe_call GT hrT (by rfl) mT kpT bT .nil pass0 (pa_cons (pv 0) (pa_cons (pe_callB call_len_seq (by rfl) tx.len PySem.boot_len (pa_cons (pv 2) pa_nil)) pa_nil))) (fun _ _ => rfl)))))), ?_⟩
    refine ⟨by show 2 ≤ sizeLine; decide, fun q1 h1 => ?_⟩
    have m1 := Mv.new (o := .tup [.int 2, .int 4]) hw.s h1
    refine ⟨by show 2 ≤ sizeLine; decide, fun q2 h2 => ?_⟩
    have m2 := Mv.new (o := .lst [.int 1, .int 2]) m1.gh h2
    refine ⟨_, rfl, by show 2 ≤ sizeLine; decide, fun q3 h3 => ?_⟩
    have m3 := Mv.new (o := .tup [.int 0, .int 3]) m2.gh h3
    refine ⟨by show 3 ≤ sizeLine; decide, fun q4 h4 => ?_⟩
    have m4 := Mv.new (o := .tup [.int 1, .int 1, .int 1]) m3.gh h4
    have d1 : Dp K _ (.ref q1) (.tuple [.int 2, .int 4]) := dp_same (m2.gg.trans (m3.gg.trans m4.gg)) _ _ (dp_of2 (SqT.of upd_same))
    have d2 : Dp K _ (.ref q2) (.list [.int 1, .int 2]) := dp_same (m3.gg.trans m4.gg) _ _ (.lst (SqL.of upd_same) (.cons (.int 1) (.cons (.int 2) .nil)))
    have d3 : Dp K _ (.ref q3) (.tuple [.int 0, .int 3]) := dp_same m4.gg _ _ (dp_of2 (SqT.of upd_same))
    have d4 : Dp K (upd (upd (upd (upd G q1 (.tup [.int 2, .int 4])) q2 (.lst [.int 1, .int 2])) q3 (.tup [.int 0, .int 3])) q4 (.tup [.int 1, .int 1, .int 1])) (.ref q4) (.tuple [.int 1, .int 1, .int 1]) := .tup (SqT.of upd_same) (.cons (.int 1) (.cons (.int 1) (.cons (.int 1) .nil)))
    have m5 := ((m1.trans m2).trans m3).trans m4
    have s5 := (((same_new (o := .tup [.int 2, .int 4]) h1).trans (same_new (o := .lst [.int 1, .int 2]) h2)).trans (same_new (o := .tup [.int 0, .int 3]) h3)).trans (same_new (o := .tup [.int 1, .int 1, .int 1]) h4)
    refine ⟨by show 9 ≤ sizeLine; decide, fun D hD => ?_⟩
    generalize upd (upd (upd (upd G q1 (.tup [.int 2, .int 4])) q2 (.lst [.int 1, .int 2])) q3 (.tup [.int 0, .int 3])) q4 (.tup [.int 1, .int 1, .int 1]) = G5 at m5 d1 d2 d3 d4
    generalize upd (upd (upd (upd H q1 (.tup [.int 2, .int 4])) q2 (.lst [.int 1, .int 2])) q3 (.tup [.int 0, .int 3])) q4 (.tup [.int 1, .int 1, .int 1]) = H5 at m5 s5 hD
    have hd5 : Hd a c cs H5 := hw.h.same s5
    have w5 := hw.mv m5 hd5
    have gD := old_none m5.gh hD
    obtain ⟨na, nc⟩ := hd5.ne hD
    have m6 : Mv G H G5 (upd H5 D (.lst (odds 1 q1 q2 q3 q4))) := m5.trans (Mv.hid m5.gh hD)
    have hd6 : Hd a c cs (upd H5 D (.lst (odds 1 q1 q2 q3 q4))) := hd5.put na nc
    refine ⟨fun σ2 H2 => σ2 = [some (.ref a), some (.int p), some (.ref D)] ∧ ∃ z : Int, z.natAbs < 32 ∧ H2 D = some (.lst (odds z q1 q2 q3 q4)) ∧ Mv G H G5 H2 ∧ But a H H2 ∧ Hd a c cs H2, ?_, ?_⟩
    · refine ⟨_, rfl, _, _, rfl, rfl, _, rfl, ?_⟩
      have b6 : But a H (upd H5 D (.lst (odds 1 q1 q2 q3 q4))) := bt (bo s5) (bo (same_new hD))
      by_cases hp : p = 0
      · subst hp
        exact ifF (by decide) ⟨rfl, 1, by decide, upd_same, m6, b6, hd6⟩
      · obtain ⟨p0, p13⟩ := off_pos op hp
        refine ifT (decide_eq_true p0) ?_
        obtain ⟨i6, g6, t6, hh6⟩ := id hd6
        refine ⟨_, rfl, _, rfl, a, c, cs, _, _, _, 3, rfl, hh6, by decide, by decide, fun r _ _ _ H7 r0 r1 bH7 hH7 => ⟨_, _, rfl, rfl, ?_⟩⟩
        have hd7 : Hd a c cs H7 := ⟨_, _, _, hH7⟩
        have w6 := hw.mv m6 hd6
        have hD7 : H7 D = some (.lst (odds 1 q1 q2 q3 q4)) := bH7 D _ na upd_same
        have m7 := m6.trans (w6.but bH7 hd7)
        refine ⟨_, rfl, D, _, _, 3, rfl, rfl, hD7, rfl, rfl, p + r, by omega, upd_same, m7.trans (Mv.put m7.gh gD (some_ne hD7)), fun b u hb e => ?_, hd7.put na nc⟩
        rw [upd_ne (ne_of_none (s5 _ _ e) hD)]
        exact bt b6 bH7 b u hb e
    · rintro σ2 H2 ⟨rfl, z, hz, hD2, m7, b7, hd7⟩
      obtain ⟨i6, g6, t6, hh6⟩ := id hd7
      refine ⟨_, rfl, _, rfl, _, rfl, D, _, rfl, .inl (SqL.of hD2), a, c, cs, _, _, _, _, rfl, hh6, (by show (0 : Int) < 9; decide), (by show (9 : Int) < 2 ^ 64; decide), fun r _ _ _ H8 r0 r1 bH8 hH8 => ?_⟩
      have hd8 : Hd a c cs H8 := ⟨_, _, _, hH8⟩
      have hD8 : H8 D = some (.lst (odds z q1 q2 q3 q4)) := bH8 D _ na hD2
      obtain ⟨v, d, ev, dv, td⟩ := pick9 (K := K) hz d1 d2 d3 d4 r0 r1
      exact ⟨D, _, r, v, rfl, rfl, SqL.of hD8, ev, dra_at k (m7.trans ((hw.mv m7 hd7).but bH8 hd8)) (bt b7 bH8) hd8 dv td⟩
theorem sc__law_kept : FnScope ["_law_hand_here", "_law_many", "_law_kept_here", "_law_k", "_law_way"] ["_law_hand_here", "_law_many"] (defScope (top 60)) := ⟨rfl, rfl, rfl, by decide +kernel, rfl, by decide +kernel, by decide +kernel⟩
theorem ok__law_kept (F : FnP K "_law_kept" (top 60) [] f fd) (tx : Bn mg) {fT : Addr} {fdT : FuncData} (GT : FnOk P w K mg base CX0 2 fT fdT ["_law_hand_here", "_law_many"] spTake) (mT : mg "_law_take" = some (.ref fT)) (kpT : PySem.W.keepIn K (.ref fT) = true) (bT : L2.Binds K fdT ["_law_hand_here", "_law_many"] []) : FnOk P w K mg base CX0 3 f fd ["_law_hand_here", "_law_many"] (spKeptL K) := by
  refine F.ok sc__law_kept (fun vs H Q E h => ?_) (fun cdv A outer s H vs Q E hr h => ?_)
  · obtain ⟨G, a, c, cs, m, rfl, _⟩ := h; rfl
  · obtain ⟨G, a, c, cs, m, rfl, hw, m5, k⟩ := h
    have hrT : Room 2 _ := hr
    refine ⟨_, PSs.nox (pss_cons (ps_setLc (i := 2) (own := [("_law_k", 3)]) (g := gName 3) (tt := _) rfl sc__law_kept.nd rfl rfl (sw_true rfl rfl rfl (by decide +kernel)) (pi_range1 (by rfl) tx.range (pa_cons (pv 1) pa_nil)) (blkOk_by (own := [("_law_k", 3)]) (N := ["_law_hand_here", "_law_many", "_law_kept_here", "_law_k", "_law_way"]) (sc := defScope (top 60)) (by decide +kernel)) (fun _ _ _ _ _ => (pg_name (i := 3) sc__law_kept.nd rfl (by first | exact Or.inl rfl | exact Or.inr rfl))) (fun _ _ _ _ _ => (pts_one (pt_cmpR op_gt (pe_callTy call_int1 (by rfl) tx.int PyProof.Rows.boot_int (pa_cons (pe_call GT hrT (by rfl) mT kpT bT .nil pass0 (pa_cons (pv 0) (pa_cons pe_int pa_nil))) pa_nil)) pe_int (by rfl)))) (fun _ _ _ _ _ => (pv 3)))
      (pss_cons (ps_set (i := 4) sc__law_kept.nd rfl (Or.inl rfl) (pe_call GT hrT (by rfl) mT kpT bT .nil pass0 (pa_cons (pv 0) (pa_cons pe_int pa_nil))))
      (pss_cons (ps_if (pt_cmpR op_eq (pv 4) pe_int (by rfl)) (pss_one (ps_ret (pe_ix ix_tup (pe_tup (pa_cons pe_non (pa_cons pe_int (pa_cons pe_str (pa_cons pe_bl pa_nil))))) (pe_call GT hrT (by rfl) mT kpT bT .nil pass0 (pa_cons (pv 0) (pa_cons pe_int pa_nil))) (fun _ _ => rfl)))) pss_nil)
      (pss_cons (ps_if (pt_cmpR op_eq (pv 4) pe_int (by rfl)) (pss_one (ps_ret (pe_op op_cat (pv 2) (pe_lst (pa_cons (pv 1) pa_nil))))) pss_nil)
      (pss_cons (ps_if (pt_cmpR op_eq (pv 4) pe_int (by rfl)) (pss_one (ps_ret (pe_op op_cat (pe_lst (pa_cons (pe_un un_neg pe_int) pa_nil)) (pv 2)))) pss_nil)
      (pss_cons (ps_if (pt_cmpR op_eq (pv 4) pe_int (by rfl)) (pss_one (ps_ret (pe_op op_cat (pe_lst (pa_cons pe_bl pa_nil)) (pv 2)))) pss_nil)
      (pss_cons (ps_if (PW.pt (pw_and (pt_cmpR op_eq (pv 4) pe_int (by rfl)) (pw_and1 (pt_cmpR op_gt (pe_callB call_len_seq (by rfl) tx.len PySem.boot_len (pa_cons (pv 2) pa_nil)) pe_int (by rfl))))) (pss_one (ps_ret (pe_op op_cat (pe_lst (pa_cons (pe_ix ix_list (pv 2) pe_int (fun _ _ => rfl)) (pa_cons (pe_ix ix_list (pv 2) pe_int (fun _ _ => rfl)) pa_nil))) (pe_slice sl_list (pv 2) (po_some pe_int) po_none)))) pss_nil)
      (pss_cons (ps_if (pt_cmpR op_eq (pv 4) pe_int (by rfl)) (pss_one (ps_ret (pe_op op_cat (pv 2) (pe_slice sl_list (pv 2) (po_some (pe_un un_neg pe_int)) po_none)))) pss_nil)
      (pss_one (ps_ret (pv 2))))))))))), ?_⟩
    refine ⟨_, rfl, (m : Int), rfl, by omega, by omega, fun D hD => lcF (K := K) (walk_range (lo := 0) (n := m)) (fun i d => d = .int (0 + (i : Int))) hw hD (by omega) (fun _ _ _ _ _ => trivial) ?_ ?_⟩
    · rintro i x G2 H2 H3 kn kk hi g2 w2 ⟨rfl, rfl⟩ made skip
      obtain ⟨i2, j2, t2, hh2⟩ := id w2.h
      refine ⟨rfl, _, rfl, a, c, cs, _, _, _, 8, rfl, hh2, by decide, by decide, fun r _ _ _ H4 r0 r1 bH4 hH4 => .inl ⟨_, rfl, _, _, rfl, rfl, _, rfl, ?_⟩⟩
      have hd4 : Hd a c cs H4 := ⟨_, _, _, hH4⟩
      by_cases hr2 : r > 2
      · refine ifT (decide_eq_true hr2) ⟨_, rfl, made _ _ _ _ rfl (w2.but bH4 hd4) bH4 hd4 (.int _)⟩
      · exact ifF (decide_eq_false hr2) (skip _ bH4 hd4)
    · intro acc ds G2 H2 hD2 hacc hlen hall mm b2 w2 gD2
      have lacc := dpAll_len hacc
      have m0 : Mv G H G2 H2 := (Mv.hid hw.s hD).trans mm
      have na : D ≠ a := (hw.h.ne hD).1
      obtain ⟨i2, j2, t2, hh2⟩ := id w2.h
      refine ⟨_, rfl, a, c, cs, _, _, _, 8, rfl, hh2, by decide, by decide, fun r _ _ _ H3 r0 r1 bH3 hH3 => ?_⟩
      have hd3 : Hd a c cs H3 := ⟨_, _, _, hH3⟩
      have hD3 : H3 D = some (.lst acc) := bH3 D _ na hD2
      have m3 := m0.trans (w2.but bH3 hd3)
      have b3 := bt b2 bH3
      have w3 := hw.mv m3 hd3
      clear hh2 bH3 hD2 m0 b2 w2 mm
      have one : ∀ (v : V) (d : PyData) (q l : Addr), H3 q = none → (upd H3 q (.lst [v])) l = none → Dp K G2 v d → Q (.ref l) (upd (upd H3 q (.lst [v])) l (.lst ([v] ++ acc))) := fun v d q l hq hl hv => by
        have m4 := m3.trans (Mv.hid (o := .lst [v]) m3.gh hq)
        exact dra_new k m4 (bt b3 (bo (same_new hq))) (hd3.same (same_new hq)) hl (.cons hv hacc) (kept_list (by rw [List.length_cons]; omega))
      refine ⟨_, rfl, rfl, _, rfl, ?_⟩
      by_cases w0 : r = 0
      · refine ifT (decide_eq_true (congrArg V.int w0)) ?_
        refine ⟨by show 4 ≤ sizeLine; decide, fun q hq => ?_⟩
        obtain ⟨i4, j4, t4, hh4⟩ := hd3.same (same_new (o := .tup [.non, .int 0, .str "0", .bl true]) hq)
        refine ⟨_, rfl, a, c, cs, _, _, _, 4, rfl, hh4, by decide, by decide, fun u _ _ _ H5 u0 u1 bH5 hH5 => ?_⟩
        have hd5 : Hd a c cs H5 := ⟨_, _, _, hH5⟩
        obtain ⟨v, d, ev, dv, sd⟩ := pick4 (K := K) (G := G2) u0 u1
        have m4 := m3.trans (Mv.hid (o := .tup [.non, .int 0, .str "0", .bl true]) m3.gh hq)
        have w4 := hw.mv m4 (hd3.same (same_new hq))
        exact ⟨q, _, u, v, rfl, rfl, SqT.of (but_at hd3.some hq bH5), ev, dra_at k (m4.trans (w4.but bH5 hd5)) (bt (bt b3 (bo (same_new hq))) bH5) hd5 dv (kept_atom sd)⟩
      refine ifF (fdec w0) ⟨_, rfl, rfl, _, rfl, ?_⟩
      by_cases w1 : r = 1
      · refine ifT (decide_eq_true (congrArg V.int w1)) ?_
        refine ⟨_, rfl, _, rfl, by show 1 ≤ sizeLine; decide, fun q hq => ?_⟩
        have hq2 : (upd H3 q (.lst [.int (m : Int)])) D = some (.lst acc) := by rw [upd_ne (ne_of_none hD3 hq)]; exact hD3
        refine ⟨D, q, acc, [.int (m : Int)], rfl, rfl, hq2, upd_same, by rw [sizeLine_eq, List.length_singleton]; omega, fun l hl => ?_⟩
        have m4 := m3.trans (Mv.hid (o := .lst [.int (m : Int)]) m3.gh hq)
        exact dra_new k m4 (bt b3 (bo (same_new hq))) (hd3.same (same_new hq)) hl (dpAll_append hacc (.cons (.int (m : Int)) .nil)) (kept_list (by rw [List.length_append, List.length_singleton]; omega))
      refine ifF (fdec w1) ⟨_, rfl, rfl, _, rfl, ?_⟩
      by_cases w22 : r = 2
      · refine ifT (decide_eq_true (congrArg V.int w22)) ?_
        refine ⟨_, rfl, by show 1 ≤ sizeLine; decide, fun q hq => ⟨_, rfl, ?_⟩⟩
        have hq2 : (upd H3 q (.lst [.int (-1)])) D = some (.lst acc) := by rw [upd_ne (ne_of_none hD3 hq)]; exact hD3
        exact ⟨q, D, [.int (-1)], acc, rfl, rfl, upd_same, hq2, by rw [sizeLine_eq, List.length_singleton]; omega, fun l hl => one _ _ q l hq hl (.int (-1))⟩
      refine ifF (fdec w22) ⟨_, rfl, rfl, _, rfl, ?_⟩
      by_cases w33 : r = 3
      · refine ifT (decide_eq_true (congrArg V.int w33)) ?_
        refine ⟨by show 1 ≤ sizeLine; decide, fun q hq => ⟨_, rfl, ?_⟩⟩
        have hq2 : (upd H3 q (.lst [.bl true])) D = some (.lst acc) := by rw [upd_ne (ne_of_none hD3 hq)]; exact hD3
        exact ⟨q, D, [.bl true], acc, rfl, rfl, upd_same, hq2, by rw [sizeLine_eq, List.length_singleton]; omega, fun l hl => one _ _ q l hq hl (.bl true)⟩
      refine ifF (fdec w33) ⟨_, rfl, rfl, _, rfl, ?_⟩
      by_cases w44 : r = 4
      · refine ifT (decide_eq_true (congrArg V.int w44)) ?_
        refine ⟨_, rfl, D, acc, rfl, .inl (SqL.of hD3), _, _, rfl, rfl, _, rfl, ?_⟩
        by_cases hl1 : (acc.length : Int) > 1
        · refine ifT (decide_eq_true hl1) ?_
          have e0 : acc[0]? = some acc[0] := List.getElem?_eq_getElem (by omega)
          have e1 : acc[1]? = some acc[1] := List.getElem?_eq_getElem (by omega)
          obtain ⟨d0, f0, hd0⟩ := dpAll_get hacc e0
          obtain ⟨d1, f1, hd1⟩ := dpAll_get hacc e1
          refine ⟨_, rfl, D, acc, (1 : Nat), _, rfl, rfl, SqL.of hD3, atI_nat e1, _, rfl, D, acc, (0 : Nat), _, rfl, rfl, SqL.of hD3, atI_nat e0, by show 2 ≤ sizeLine; decide, fun q hq => ?_⟩
          have hq2 : (upd H3 q (.lst [acc[1], acc[0]])) D = some (.lst acc) := by rw [upd_ne (ne_of_none hD3 hq)]; exact hD3
          refine ⟨_, rfl, _, rfl, D, acc, rfl, SqL.of hq2, fun q2 hqq => ?_⟩
          have hq3 : (upd (upd H3 q (.lst [acc[1], acc[0]])) q2 (.lst (cutV acc (some 2) none))) q = some (.lst [acc[1], acc[0]]) := by rw [upd_ne (ne_of_none upd_same hqq), upd_same]
          have cl := cutV_length acc (some 2) none
          refine ⟨q, q2, _, _, rfl, rfl, hq3, upd_same, by rw [sizeLine_eq]; show 2 + _ ≤ _; omega, fun l hl => ?_⟩
          have m4 := m3.trans (Mv.hid (o := .lst [acc[1], acc[0]]) m3.gh hq)
          have m5' := m4.trans (Mv.hid (o := .lst (cutV acc (some 2) none)) m4.gh hqq)
          have s4 := (same_new (o := .lst [acc[1], acc[0]]) hq).trans (same_new (o := .lst (cutV acc (some 2) none)) hqq)
          have c2 := cutD_len (ds := ds) (lo := some 2) (hi := none)
          exact dra_new k m5' (bt b3 (bo s4)) (hd3.same s4) hl (.cons hd1 (.cons hd0 (dpAll_cut hacc (some 2) none))) (kept_list (by rw [List.length_cons, List.length_cons]; omega))
        · refine ifF (decide_eq_false hl1) ⟨_, rfl, rfl, _, rfl, ifF (fdec (by omega)) ⟨_, rfl, dra_shut k m3 b3 hd3 hD gD2 hD3 hacc (kept_list (by omega))⟩⟩
      refine ifF (fdec w44) ⟨_, rfl, rfl, _, rfl, ?_⟩
      by_cases w55 : r = 5
      · refine ifT (decide_eq_true (congrArg V.int w55)) ?_
        refine ⟨_, rfl, _, rfl, _, rfl, _, rfl, D, acc, rfl, SqL.of hD3, fun q hq => ?_⟩
        have hq2 : (upd H3 q (.lst (cutV acc (some (-1)) none))) D = some (.lst acc) := by rw [upd_ne (ne_of_none hD3 hq)]; exact hD3
        have cl := cutV_length acc (some (-1)) none
        refine ⟨D, q, _, _, rfl, rfl, hq2, upd_same, by rw [sizeLine_eq]; omega, fun l hl => ?_⟩
        have m4 := m3.trans (Mv.hid (o := .lst (cutV acc (some (-1)) none)) m3.gh hq)
        have c2 := cutD_len (ds := ds) (lo := some (-1)) (hi := none)
        exact dra_new k m4 (bt b3 (bo (same_new hq))) (hd3.same (same_new hq)) hl (dpAll_append hacc (dpAll_cut hacc (some (-1)) none)) (kept_list (by rw [List.length_append]; omega))
      · exact ifF (fdec w55) ⟨_, rfl, dra_shut k m3 b3 hd3 hD gD2 hD3 hacc (kept_list (by omega))⟩
theorem sc__law_letters : FnScope ["_law_hand_here", "_law_p", "_law_many", "_law_numbers", "_law_k", "_law_way"] ["_law_hand_here", "_law_p", "_law_many"] (defScope (top 63)) := ⟨rfl, rfl, rfl, by decide +kernel, rfl, by decide +kernel, by decide +kernel⟩
theorem ok__law_letters (F : FnP K "_law_letters" (top 63) [] f fd) (tx : Bn mg) {fT : Addr} {fdT : FuncData} (GT : FnOk P w K mg base CX0 2 fT fdT ["_law_hand_here", "_law_many"] spTake) (mT : mg "_law_take" = some (.ref fT)) (kpT : PySem.W.keepIn K (.ref fT) = true) (bT : L2.Binds K fdT ["_law_hand_here", "_law_many"] []) {fN : Addr} {fdN : FuncData} (GN : FnOk P w K mg base CX0 3 fN fdN ["_law_hand_here", "_law_p"] (spNumber K)) (mN : mg "_law_number" = some (.ref fN)) (kpN : PySem.W.keepIn K (.ref fN) = true) (bN : L2.Binds K fdN ["_law_hand_here", "_law_p"] []) {fO : Addr} {fdO : FuncData} (GO : FnOk P w K mg base CX0 3 fO fdO ["_law_hand_here", "_law_p"] (spOdd K)) (mO : mg "_law_odd" = some (.ref fO)) (kpO : PySem.W.keepIn K (.ref fO) = true) (bO : L2.Binds K fdO ["_law_hand_here", "_law_p"] []) : FnOk P w K mg base CX0 4 f fd ["_law_hand_here", "_law_p", "_law_many"] (spLett K) := by
  refine F.ok sc__law_letters (fun vs H Q E h => ?_) (fun cdv A outer s H vs Q E hr h => ?_)
  · obtain ⟨G, a, c, cs, p, m, rfl, _⟩ := h; rfl
  · obtain ⟨G, a, c, cs, p, m, rfl, op, hw, m1, m5, k⟩ := h
    have hrT : Room 2 _ := hr.mono (by decide)
    have hrN : Room 3 _ := hr
    have hrO : Room 3 _ := hr
    refine ⟨_, PSs.nox (pss_cons (ps_setLc (i := 3) (own := [("_law_k", 4)]) (g := gName 4) (tt := tYes) rfl sc__law_letters.nd rfl rfl (sw_true rfl rfl rfl (by decide +kernel)) (pi_range1 (by rfl) tx.range (pa_cons (pv 2) pa_nil)) (blkOk_by (own := [("_law_k", 4)]) (N := ["_law_hand_here", "_law_p", "_law_many", "_law_numbers", "_law_k", "_law_way"]) (sc := defScope (top 63)) (by decide +kernel)) (fun _ _ _ _ _ => (pg_name (i := 4) sc__law_letters.nd rfl (by first | exact Or.inl rfl | exact Or.inr rfl))) (fun _ _ _ _ _ => pts_nil) (fun _ _ _ _ _ => (pe_call GN hrN (by rfl) mN kpN bN .nil pass0 (pa_cons (pv 0) (pa_cons (pv 1) pa_nil)))))
      (pss_cons (ps_set (i := 5) sc__law_letters.nd rfl (Or.inl rfl) (pe_call GT hrT (by rfl) mT kpT bT .nil pass0 (pa_cons (pv 0) (pa_cons pe_int pa_nil))))
      (pss_cons (ps_if (pt_cmpR op_eq (pv 5) pe_int (by rfl)) (pss_one (ps_ret (pe_slice sl_list (pv 3) (po_some pe_int) po_none))) pss_nil)
      (pss_cons (ps_if (pt_cmpR op_eq (pv 5) pe_int (by rfl)) (pss_one (ps_ret (pe_op op_cat (pv 3) (pe_lst (pa_cons (pe_call GO hrO (by rfl) mO kpO bO .nil pass0 (pa_cons (pv 0) (pa_cons (pv 1) pa_nil))) pa_nil))))) pss_nil)
      (pss_cons (ps_if (pt_cmpR op_eq (pv 5) pe_int (by rfl)) (pss_one (ps_asg (pe_call GO hrO (by rfl) mO kpO bO .nil pass0 (pa_cons (pv 0) (pa_cons (pv 1) pa_nil))) (pg_sub (pv 3) (pe_call GT hrT (by rfl) mT kpT bT .nil pass0 (pa_cons (pv 0) (pa_cons (pv 2) pa_nil))) set_list))) pss_nil)
      (pss_cons (ps_if (pt_cmpR op_eq (pv 5) pe_int (by rfl)) (pss_one (ps_ret (pe_ix ix_tup (pe_tup (pa_cons pe_non (pa_cons pe_int (pa_cons pe_str pa_nil)))) (pe_call GT hrT (by rfl) mT kpT bT .nil pass0 (pa_cons (pv 0) (pa_cons pe_int pa_nil))) (fun _ _ => rfl)))) pss_nil)
      (pss_one (ps_ret (pv 3))))))))), ?_⟩
    refine ⟨_, rfl, (m : Int), rfl, by omega, by omega, fun D hD => lcH (K := K) (walk_range (lo := 0) (n := m)) (fun _ d => NumT p d) hw hD (by omega) (fun _ _ _ _ _ => trivial) ?_ ?_⟩
    · rintro i x G2 H2 H3 kn kk hi g2 w2 ⟨rfl, rfl⟩ made
      refine ⟨rfl, yes ?_⟩
      exact ⟨_, rfl, _, rfl, G2, a, c, cs, p, rfl, op, w2, fun v d G5 H6 hR m5 b5 hd5 hdv => made _ _ _ _ hR m5 b5 hd5 hdv⟩
    · intro acc ds G2 H2 hD2 hacc hlen hall mm b2 w2 gD2
      have lacc := dpAll_len hacc
      have tame : ∀ e ∈ ds, tameD e = true := fun e he => by
        obtain ⟨j, hj⟩ := List.getElem?_of_mem he
        exact (hall j e hj).2
      have m0 : Mv G H G2 H2 := (Mv.hid hw.s hD).trans mm
      have na : D ≠ a := (hw.h.ne hD).1
      have nc : D ≠ c := (hw.h.ne hD).2
      obtain ⟨i2, j2, t2, hh2⟩ := id w2.h
      refine ⟨_, rfl, a, c, cs, _, _, _, 9, rfl, hh2, by decide, by decide, fun r _ _ _ H3 r0 r1 bH3 hH3 => ?_⟩
      have hd3 : Hd a c cs H3 := ⟨_, _, _, hH3⟩
      have hD3 : H3 D = some (.lst acc) := bH3 D _ na hD2
      have m3 := m0.trans (w2.but bH3 hd3)
      have b3 := bt b2 bH3
      have w3 := hw.mv m3 hd3
      clear hh2 bH3 hD2 m0 b2 w2 mm
      refine ⟨_, rfl, rfl, _, rfl, ?_⟩
      by_cases w0 : r = 0
      · refine ifT (decide_eq_true (congrArg V.int w0)) ?_
        refine ⟨_, rfl, _, rfl, D, acc, rfl, SqL.of hD3, fun l hl => ?_⟩
        have c2 := cutD_len (ds := ds) (lo := some 1) (hi := none)
        exact dra_new k m3 b3 hd3 hl (dpAll_cut hacc (some 1) none) (lett_list (by omega) fun e he => tame e (cutD_mem he))
      refine ifF (fdec w0) ⟨_, rfl, rfl, _, rfl, ?_⟩
      by_cases w1 : r = 1
      · refine ifT (decide_eq_true (congrArg V.int w1)) ?_
        refine ⟨_, rfl, _, rfl, _, rfl, G2, a, c, cs, p, rfl, op, w3, fun v d G4 H4 td m4 b4 hd4 dv => ?_⟩
        have hD4 : H4 D = some (.lst acc) := b4 D _ na hD3
        refine ⟨by show 1 ≤ sizeLine; decide, fun q hq => ?_⟩
        have hq2 : (upd H4 q (.lst [v])) D = some (.lst acc) := by rw [upd_ne (ne_of_none hD4 hq)]; exact hD4
        refine ⟨D, q, acc, [v], rfl, rfl, hq2, upd_same, by rw [sizeLine_eq, List.length_singleton]; omega, fun l hl => ?_⟩
        have m5 := (m3.trans m4).trans (Mv.hid (o := .lst [v]) m4.gh hq)
        exact dra_new k m5 (bt (bt b3 b4) (bo (same_new hq))) (hd4.same (same_new hq)) hl (dpAll_append (dp_sameAll m4.gg _ _ hacc) (.cons dv .nil)) (lett_list (by rw [List.length_append, List.length_singleton]; omega) fun e he => by
          rcases List.mem_append.mp he with he | he
          · exact tame e he
          · rw [List.mem_singleton.mp he]
            exact td)
      refine ifF (fdec w1) ⟨_, rfl, rfl, _, rfl, ?_⟩
      by_cases w22 : r = 2
      · refine ifT (decide_eq_true (congrArg V.int w22)) ?_
        refine ⟨_, rfl, _, rfl, G2, a, c, cs, p, rfl, op, w3, fun v d G4 H4 td m4 b4 hd4 dv => ?_⟩
        have w4 := w3.mv m4 hd4
        obtain ⟨i4, j4, t4, hh4⟩ := id hd4
        refine ⟨_, rfl, _, rfl, _, rfl, a, c, cs, _, _, _, (m : Int), rfl, hh4, by omega, by omega, fun u _ _ _ H5 u0 u1 bH5 hH5 => ?_⟩
        have hd5 : Hd a c cs H5 := ⟨_, _, _, hH5⟩
        have hD5 : H5 D = some (.lst acc) := bH5 D _ na (b4 D _ na hD3)
        have m5 := (m3.trans m4).trans (w4.but bH5 hd5)
        have gD4 : G4 D = none := m4.no (some_ne hD3) gD2
        obtain ⟨j, rfl⟩ : ∃ j : Nat, u = (j : Int) := ⟨u.toNat, by omega⟩
        have hj : j < acc.length := by omega
        refine ⟨D, acc, (j : Int), j, rfl, rfl, hD5, by unfold ixN; rw [if_pos (by omega), if_pos (by omega), Int.toNat_natCast], ?_⟩
        have m6 := m5.trans (Mv.put (o := .lst (acc.set j v)) m5.gh gD4 (some_ne hD5))
        have b6 : But a H (upd H5 D (.lst (acc.set j v))) := fun b o hb e => by
          rw [upd_ne (ne_of_none e hD)]
          exact bt (bt b3 b4) bH5 b o hb e
        refine ⟨_, rfl, rfl, _, rfl, ifF (fdec (by omega)) ⟨_, rfl, ?_⟩⟩
        refine dra_shut k m6 b6 (hd5.put na nc) hD gD4 upd_same (dpAll_set j (dp_sameAll m4.gg _ _ hacc) dv) (lett_list (by rw [List.length_set]; omega) fun e he => ?_)
        rcases List.mem_or_eq_of_mem_set he with he | he
        · exact tame e he
        · rw [he]
          exact td
      refine ifF (fdec w22) ⟨_, rfl, rfl, _, rfl, ?_⟩
      by_cases w33 : r = 3
      · refine ifT (decide_eq_true (congrArg V.int w33)) ?_
        refine ⟨by show 3 ≤ sizeLine; decide, fun q hq => ?_⟩
        obtain ⟨i4, j4, t4, hh4⟩ := hd3.same (same_new (o := .tup [.non, .int 5, .str "ab"]) hq)
        refine ⟨_, rfl, a, c, cs, _, _, _, 3, rfl, hh4, by decide, by decide, fun u _ _ _ H5 u0 u1 bH5 hH5 => ?_⟩
        have hd5 : Hd a c cs H5 := ⟨_, _, _, hH5⟩
        obtain ⟨v, d, ev, dv, sd⟩ := pick3 (K := K) (G := G2) u0 u1
        have m4 := m3.trans (Mv.hid (o := .tup [.non, .int 5, .str "ab"]) m3.gh hq)
        have w4 := hw.mv m4 (hd3.same (same_new hq))
        exact ⟨q, _, u, v, rfl, rfl, SqT.of (but_at hd3.some hq bH5), ev, dra_at k (m4.trans (w4.but bH5 hd5)) (bt (bt b3 (bo (same_new hq))) bH5) hd5 dv (lett_atom sd)⟩
      · exact ifF (fdec w33) ⟨_, rfl, dra_shut k m3 b3 hd3 hD gD2 hD3 hacc (lett_list (by omega) tame)⟩
end
end Ld
set_option exponentiation.threshold 20000

namespace Le
open PySem PySem.Spec PyProof.Rows L2 Dz Ra Mt Kx Ky Re Rb Rc Rd Gn Dn Do Vz Vp Va Vb Vc Vd Ve Lm La Lb Lc Ld
open Kq (HandAt But spTake)
open Rm (pe_methT passN)
theorem lkA {f g : Str} {v u : V} : ([(g, u), (f, v)] : List (Str × V)).lookup g = some u := by
  rw [List.lookup_cons, beq_self_eq_true]
theorem lkB {f g : Str} {v u : V} (h : (f == g) = false) : ([(g, u), (f, v)] : List (Str × V)).lookup f = some v := by
  rw [List.lookup_cons, h, List.lookup_cons, beq_self_eq_true]
theorem lk1 {f : Str} {v : V} : ([(f, v)] : List (Str × V)).lookup f = some v := by
  rw [List.lookup_cons, beq_self_eq_true]
/-- True, the hand led on -/
def DrB (a c : Addr) (cs : List Int) (H : Hp) (Q : VK) : Prop := ∀ H', But a H H' → Hd a c cs H' → Q (.bl true) H'
def Fit (p : Int) (r k : Nat) : Prop := p ≠ 0 → (r : Int) ≤ p ∧ (k : Int) ≤ p
def spCutA (K : PySem.W.Frag) (CP C : Addr) : Sp := fun vs H Q _ => ∃ (G : Hp) (a c : Addr) (cs : List Int) (p : Int) (pa : Addr) (x y : V) (T1 T2 : List (List PyData)) (r k : Nat), vs = [.ref a, .int p, .ref pa, x, y] ∧ Rc.Off p ∧ Hw a c cs G H ∧ PairAt K CP C G pa p T1 T2 r k ∧ Fit p r k ∧ Dp K G x (tabL T1) ∧ Dp K G y (tabL T2) ∧ DrB a c cs H Q
theorem tabL_head {K : PySem.W.Frag} {G : Hp} {v : V} {p : Int} {T : List (List PyData)} {r k : Nat} (hT : Tab p T r k) (h : Dp K G v (tabL T)) : ∃ a xs b ys, v = .ref a ∧ SqL K G a xs ∧ xs.length = r ∧ xs[0]? = some (.ref b) ∧ SqL K G b ys ∧ ys.length = k := by
  obtain ⟨a, xs, rfl, hs, ha⟩ := dp_lst h
  have hl := dpAll_len ha
  rw [List.length_map, hT.lr] at hl
  have h0 : 0 < T.length := by rw [hT.lr]; exact hT.r1
  obtain ⟨x, hx, hdx⟩ := dpAll_at (i := 0) (d := .list T[0]) ha (by rw [List.getElem?_map, List.getElem?_eq_getElem h0]; rfl)
  obtain ⟨b, ys, rfl, hb, hys⟩ := dp_lst hdx
  exact ⟨a, xs, b, ys, rfl, hs, hl, hx, hb, (dpAll_len hys).trans (hT.lc _ (List.getElem_mem h0)).1⟩
/-- what is due: a couple, or None -/
def DueV (K : PySem.W.Frag) (G : Hp) (v : V) : Option (Str × Nat) → Prop
  | none => v = .non
  | some (w, i) => ∃ q, v = .ref q ∧ Dp K G (.ref q) (.tuple [.str w, .int (i : Nat)])
theorem DueV.same {K : PySem.W.Frag} {G G' : Hp} {v : V} {o : Option (Str × Nat)} (h : DueV K G v o) (s : Same G G') : DueV K G' v o := by
  cases o with
  | none => exact h
  | some wi =>
    obtain ⟨q, e, d⟩ := h
    exact ⟨q, e, dp_same s _ _ d⟩
theorem notN (i : Int) : (!decide (V.int i = V.non)) = true := by
  rw [decide_eq_false fun z => nomatch z]
  rfl
theorem notR (q : Addr) : (!decide (V.ref q = V.non)) = true := by
  rw [decide_eq_false fun z => nomatch z]
  rfl
theorem isN : (!decide (V.non = V.non)) = false := by
  rw [decide_eq_true rfl]
  rfl
theorem sh_due {w : Str} {i : Nat} (h : PyData.strOk w = true) : Sh 1 (.tuple [.str w, .int (i : Nat)]) := sh_tup fun e he => by
  rcases List.mem_cons.mp he with rfl | he
  · exact sh_str h
  · rcases List.mem_cons.mp he with rfl | he
    · exact sh_int _
    · cases he
theorem cut_word {r k : Nat} {d1 d2 : PyData} {w : Str} {i : Nat} (h : cutDue r k d1 d2 = some (w, i)) : PyData.strOk w = true := by
  unfold cutDue at h
  split at h
  · cases h
    decide +kernel
  · split at h
    · cases h
      decide +kernel
    · cases h
section
variable {P : Program} {w : World} {K : PySem.W.Frag} {mg : Str → Option Value} {base : Heap} {C CP gP cT cL cP cK f : Addr} {fd : FuncData}
theorem sc__law_cut_asked : FnScope ["_law_hand_here", "_law_p", "_law_pair", "_law_first", "_law_second", "_law_rows", "_law_columns", "_law_due", "_law_told", "_law_fault", "e", "_law_j", "_law_i"] ["_law_hand_here", "_law_p", "_law_pair", "_law_first", "_law_second"] (defScope (top 61)) := ⟨rfl, rfl, rfl, by decide +kernel, rfl, by decide +kernel, by decide +kernel⟩
theorem ok__law_cut_asked (F : FnP K "_law_cut_asked" (top 61) [] f fd) (tx : Bn mg) (pg : Pg K CP) (eK : Ei2 P w K mg base gP "BadKept" "what" "index" cK) (xK : PySem.W.exmOne K (.ref cK) (.ref cK) = some true) {fK : Addr} {fdK : FuncData} (GK : FnOk P w K mg base CX0 3 fK fdK ["_law_hand_here", "_law_many"] (spKeptL K)) (mK : mg "_law_kept" = some (.ref fK)) (kpK : PySem.W.keepIn K (.ref fK) = true) (bK : L2.Binds K fdK ["_law_hand_here", "_law_many"] []) {fD : Addr} {fdD : FuncData} (GD : FnOk P w K mg base CX0 2 fD fdD ["_law_kept_here", "_law_many"] (spKDue K)) (mD : mg "_law_kept_due" = some (.ref fD)) (kpD : PySem.W.keepIn K (.ref fD) = true) (bD : L2.Binds K fdD ["_law_kept_here", "_law_many"] []) {fI : Addr} {fdI : FuncData} (GI : FnOk P w K mg base CX0 2 fI fdI ["_law_p", "_law_pair", "_law_first", "_law_second"] (spIsP K CP C)) (mI : mg "_law_is_pair" = some (.ref fI)) (kpI : PySem.W.keepIn K (.ref fI) = true) (bI : L2.Binds K fdI ["_law_p", "_law_pair", "_law_first", "_law_second"] []) {fC : Addr} {fdC : FuncData} (GC : FnOk P w K mg base (L2.CX P w) 8 fC fdC ["self", "rows", "columns"] (spCut K CP C cK)) (mC : Meth K CP "cut_out" fC) (bC : L2.Binds K fdC ["self", "rows", "columns"] []) : FnOk P w K mg base CX0 9 f fd ["_law_hand_here", "_law_p", "_law_pair", "_law_first", "_law_second"] (spCutA K CP C) := by
  refine F.ok sc__law_cut_asked (fun vs H Q E h => ?_) (fun cdv A outer s H vs Q E hr h => ?_)
  · obtain ⟨G, a, c, cs, p, pa, x, y, T1, T2, r, k, rfl, _⟩ := h; rfl
  · obtain ⟨G, a, c, cs, p, pa, x, y, T1, T2, r, k, rfl, op, hw, pA, fit, hx, hy, kQ⟩ := h
    have hrK : Room 3 _ := hr.mono (by decide)
    have hrD : Room 2 _ := hr.mono (by decide)
    have hrI : Room 2 _ := hr.mono (by decide)
    have hrC : Room 8 _ := hr
    have hu := hr.units
    have t1 := pA.t1
    have t2 := pA.t2
    obtain ⟨b, xs, q, ys, ex, hb, lxs, hx0, hq, lys⟩ := tabL_head t1 hx
    have r5 := t1.r5
    have k5 := t1.c5
    refine ⟨_, PSs.nox (pss_cons (ps_set (i := 5) sc__law_cut_asked.nd rfl (Or.inl rfl) (pe_call GK hrK (by rfl) mK kpK bK .nil pass0 (pa_cons (pv 0) (pa_cons (pe_callB call_len_seq (by rfl) tx.len PySem.boot_len (pa_cons (pv 3) pa_nil)) pa_nil))))
      (pss_cons (ps_set (i := 6) sc__law_cut_asked.nd rfl (Or.inr rfl) (pe_call GK hrK (by rfl) mK kpK bK .nil pass0 (pa_cons (pv 0) (pa_cons (pe_callB call_len_seq (by rfl) tx.len PySem.boot_len (pa_cons (pe_ix ix_list (pv 3) pe_int (fun _ _ => rfl)) pa_nil)) pa_nil))))
      (pss_cons (ps_set (i := 7) sc__law_cut_asked.nd rfl (Or.inl rfl) pe_non)
      (Evl.pss_cut (ps_if (pt_cmpR op_notN (pe_call GD hrD (by rfl) mD kpD bD .nil pass0 (pa_cons (pv 5) (pa_cons (pe_callB call_len_seq (by rfl) tx.len PySem.boot_len (pa_cons (pv 3) pa_nil)) pa_nil))) pe_non (by rfl)) (pss_one (ps_set (i := 7) sc__law_cut_asked.nd rfl (Or.inl rfl) (pe_tup (pa_cons pe_str (pa_cons (pe_call GD hrD (by rfl) mD kpD bD .nil pass0 (pa_cons (pv 5) (pa_cons (pe_callB call_len_seq (by rfl) tx.len PySem.boot_len (pa_cons (pv 3) pa_nil)) pa_nil))) pa_nil))))) (pss_one (ps_if (pt_cmpR op_notN (pe_call GD hrD (by rfl) mD kpD bD .nil pass0 (pa_cons (pv 6) (pa_cons (pe_callB call_len_seq (by rfl) tx.len PySem.boot_len (pa_cons (pe_ix ix_list (pv 3) pe_int (fun _ _ => rfl)) pa_nil)) pa_nil))) pe_non (by rfl)) (pss_one (ps_set (i := 7) sc__law_cut_asked.nd rfl (Or.inl rfl) (pe_tup (pa_cons pe_str (pa_cons (pe_call GD hrD (by rfl) mD kpD bD .nil pass0 (pa_cons (pv 6) (pa_cons (pe_callB call_len_seq (by rfl) tx.len PySem.boot_len (pa_cons (pe_ix ix_list (pv 3) pe_int (fun _ _ => rfl)) pa_nil)) pa_nil))) pa_nil))))) pss_nil)))
      (pss_cons (ps_set (i := 8) sc__law_cut_asked.nd rfl (Or.inl rfl) pe_non)
      (pss_cons (ps_set (i := 9) sc__law_cut_asked.nd rfl (Or.inl rfl) pe_non)
      (Evl.pss_cut (ps_try_as (i := 10) (c := (.ref cK)) (Wout := fun _ _ _ _ => False) rfl rfl sc__law_cut_asked.nd rfl rfl ⟨rfl, by decide, .inl eK.m⟩ takes0
        (fun W pn xe tk _ => (pss_one (ps_set (i := 8) sc__law_cut_asked.nd rfl (Or.inl rfl) (pe_methT (pv 2) pg.cl mC GC hrC bC (fun σ => passAt tk σ) (pa_cons (pv 5) (pa_cons (pv 6) pa_nil))))))
        (fun a oe cls dd pn hz hf => (pss_one (ps_set (i := 9) sc__law_cut_asked.nd rfl (Or.inl rfl) (pe_tup (pa_cons (pe_xf eK.er.xf eK.no hz hf (pv 10)) (pa_cons (pe_xf eK.er.xf eK.no2 hz hf (pv 10)) pa_nil)))))))
      (pss_cons (ps_if (PW.pt (pw_or (pt_cmpR op_notN (pv 7) pe_non (by rfl)) (pw_or1 (pt_cmpR op_notN (pv 9) pe_non (by rfl))))) (pss_one (ps_ret (pe_cmpR (op_eqD hu) (pv 9) (pv 7) (by rfl)))) pss_nil)
      (pss_one (ps_ret (pe_call GI hrI (by rfl) mI kpI bI .nil pass0 (pa_cons (pv 1) (pa_cons (pv 8) (pa_cons (pe_lc (own := [("_law_i", 12)]) (g := gName 12) (tt := tYes) rfl sc__law_cut_asked.nd (pi_list (pv 5)) (blkOk_by (own := [("_law_i", 12)]) (N := ["_law_hand_here", "_law_p", "_law_pair", "_law_first", "_law_second", "_law_rows", "_law_columns", "_law_due", "_law_told", "_law_fault", "e", "_law_j", "_law_i"]) (sc := defScope (top 61)) (by decide +kernel)) (fun _ _ _ _ _ => (pg_name (i := 12) sc__law_cut_asked.nd rfl (by first | exact Or.inl rfl | exact Or.inr rfl))) (fun _ _ _ _ _ => pts_nil) (fun _ _ _ _ _ => (pe_lc (own := [("_law_j", 11)]) (g := gName 11) (tt := tYes) rfl sc__law_cut_asked.nd (pi_listK (K := K) (by rfl) (pv 6)) (blkOk_by (own := [("_law_j", 11)]) (N := ["_law_hand_here", "_law_p", "_law_pair", "_law_first", "_law_second", "_law_rows", "_law_columns", "_law_due", "_law_told", "_law_fault", "e", "_law_j", "_law_i"]) (sc := relS _ (defScope (top 61))) (by decide +kernel)) (fun _ _ _ _ _ => (pg_name (i := 11) sc__law_cut_asked.nd rfl (by first | exact Or.inl rfl | exact Or.inr rfl))) (fun _ _ _ _ _ => pts_nil) (fun _ _ _ _ _ => (pe_ix (ix_listK (K := K) (by rfl)) (pe_ix (ix_listK (K := K) (by rfl)) (pv 3) (pv 12) (fun _ _ => rfl)) (pv 11) (fun _ _ => rfl)))))) (pa_cons (pe_lc (own := [("_law_i", 12)]) (g := gName 12) (tt := tYes) rfl sc__law_cut_asked.nd (pi_list (pv 5)) (blkOk_by (own := [("_law_i", 12)]) (N := ["_law_hand_here", "_law_p", "_law_pair", "_law_first", "_law_second", "_law_rows", "_law_columns", "_law_due", "_law_told", "_law_fault", "e", "_law_j", "_law_i"]) (sc := defScope (top 61)) (by decide +kernel)) (fun _ _ _ _ _ => (pg_name (i := 12) sc__law_cut_asked.nd rfl (by first | exact Or.inl rfl | exact Or.inr rfl))) (fun _ _ _ _ _ => pts_nil) (fun _ _ _ _ _ => (pe_lc (own := [("_law_j", 11)]) (g := gName 11) (tt := tYes) rfl sc__law_cut_asked.nd (pi_listK (K := K) (by rfl) (pv 6)) (blkOk_by (own := [("_law_j", 11)]) (N := ["_law_hand_here", "_law_p", "_law_pair", "_law_first", "_law_second", "_law_rows", "_law_columns", "_law_due", "_law_told", "_law_fault", "e", "_law_j", "_law_i"]) (sc := relS _ (defScope (top 61))) (by decide +kernel)) (fun _ _ _ _ _ => (pg_name (i := 11) sc__law_cut_asked.nd rfl (by first | exact Or.inl rfl | exact Or.inr rfl))) (fun _ _ _ _ _ => pts_nil) (fun _ _ _ _ _ => (pe_ix (ix_listK (K := K) (by rfl)) (pe_ix (ix_listK (K := K) (by rfl)) (pv 4) (pv 12) (fun _ _ => rfl)) (pv 11) (fun _ _ => rfl)))))) pa_nil))))))))))))))), ?_⟩
    subst ex
    refine ⟨_, rfl, _, rfl, b, xs, rfl, .inl (Evl.ex_l hw.s hb), G, a, c, cs, xs.length, rfl, hw, by omega, fun v1 d1 G1 H1 kt1 m1 b1 hd1 dv1 => ?_⟩
    have w1 := hw.mv m1 hd1
    refine ⟨_, rfl, _, rfl, b, xs, (0 : Nat), _, rfl, rfl, Evl.ex_l m1.gh (Evl.ex_l m1.gg hb), atI_nat hx0, q, ys, rfl, .inl (Evl.ex_l m1.gh (Evl.ex_l m1.gg hq)), G1, a, c, cs, ys.length, rfl, w1, by omega, fun v2 d2 G2 H2 kt2 m2 b2 hd2 dv2 => ?_⟩
    have m3 := m1.trans m2
    have w2 := w1.mv m2 hd2
    have b3 := bt b1 b2
    have dv1' := dp_same m2.gg _ _ dv1
    refine ⟨fun σ' H' => ∃ (G3 : Hp) (dv : V), σ' = [some (.ref a), some (.int p), some (.ref pa), some (.ref b), some y, some v1, some v2, some dv, none, none, none, none, none] ∧ Mv G2 H2 G3 H' ∧ Same H2 H' ∧ DueV K G3 dv (cutDue r k d1 d2), ?_, ?_⟩
    · refine ⟨_, rfl, _, rfl, b, xs, rfl, .inl (Evl.ex_l m2.gh (Evl.ex_l m3.gg hb)), v1, d1, _, rfl, dp_same m2.gh _ _ dv1', kt1.1, kt1.2, fun H3 s3 => ?_⟩
      rw [lxs]
      have m4 := Mv.of m2.gh s3
      cases e1 : keptDue r d1 with
      | some i =>
        refine ⟨rfl, _, rfl, ifT (notN _) ?_⟩
        refine ⟨_, rfl, _, rfl, b, xs, rfl, .inl (Evl.ex_l m4.gh (Evl.ex_l m3.gg hb)), v1, d1, _, rfl, dp_same m4.gh _ _ dv1', kt1.1, kt1.2, fun H5 s5 => ?_⟩
        rw [lxs, e1]
        have m6 := m4.trans (Mv.of m4.gh s5)
        refine ⟨by show 2 ≤ sizeLine; decide, fun l hl => ?_⟩
        have m7 := Mv.new (o := .tup [.str "rows", .int (i : Nat)]) m6.gh hl
        refine ⟨_, _, rfl, m6.trans m7, (s3.trans s5).trans (same_new hl), ?_⟩
        have e2 : cutDue r k d1 d2 = some (("rows" : Str), i) := by unfold cutDue; rw [e1]
        rw [e2]
        exact ⟨l, rfl, .tup (SqT.of upd_same) (.cons (.str _) (.cons (.int _) .nil))⟩
      | none =>
        refine ⟨rfl, _, rfl, ifF isN ?_⟩
        refine ⟨_, rfl, _, rfl, b, xs, (0 : Nat), _, rfl, rfl, Evl.ex_l m4.gh (Evl.ex_l m3.gg hb), atI_nat hx0, q, ys, rfl, .inl (Evl.ex_l m4.gh (Evl.ex_l m3.gg hq)), v2, d2, _, rfl, dp_same m4.gh _ _ dv2, kt2.1, kt2.2, fun H5 s5 => ?_⟩
        rw [lys]
        have m6 := m4.trans (Mv.of m4.gh s5)
        cases e2 : keptDue k d2 with
        | some i =>
          refine ⟨rfl, _, rfl, ifT (notN _) ?_⟩
          refine ⟨_, rfl, _, rfl, b, xs, (0 : Nat), _, rfl, rfl, Evl.ex_l m6.gh (Evl.ex_l m3.gg hb), atI_nat hx0, q, ys, rfl, .inl (Evl.ex_l m6.gh (Evl.ex_l m3.gg hq)), v2, d2, _, rfl, dp_same m6.gh _ _ dv2, kt2.1, kt2.2, fun H7 s7 => ?_⟩
          rw [lys, e2]
          have m8 := m6.trans (Mv.of m6.gh s7)
          refine ⟨by show 2 ≤ sizeLine; decide, fun l hl => ?_⟩
          have m7 := Mv.new (o := .tup [.str "columns", .int (i : Nat)]) m8.gh hl
          refine ⟨_, _, rfl, m8.trans m7, ((s3.trans s5).trans s7).trans (same_new hl), ?_⟩
          have e3 : cutDue r k d1 d2 = some (("columns" : Str), i) := by unfold cutDue; rw [e1, e2]
          rw [e3]
          exact ⟨l, rfl, .tup (SqT.of upd_same) (.cons (.str _) (.cons (.int _) .nil))⟩
        | none =>
          refine ⟨rfl, _, rfl, ifF isN ?_⟩
          refine ⟨_, _, rfl, m6, s3.trans s5, ?_⟩
          have e3 : cutDue r k d1 d2 = none := by unfold cutDue; rw [e1, e2]
          rw [e3]
          exact rfl
    · rintro σ' H3 ⟨G3, dv, rfl, m4, s4, hdue⟩
      have m5 := m3.trans m4
      have pA3 := pA.same m5.gg
      have dv1s := dp_same m4.gg _ _ dv1'
      have dv2s := dp_same m4.gg _ _ dv2
      refine ⟨fun σ' H' => ∃ (G4 : Hp) (tv fv : V) (ee : Option V), σ' = [some (.ref a), some (.int p), some (.ref pa), some (.ref b), some y, some v1, some v2, some dv, some tv, some fv, ee, none, none] ∧ Mv G3 H3 G4 H' ∧ Same H3 H' ∧ DueV K G4 fv (cutDue r k d1 d2) ∧ (cutDue r k d1 d2 = none → ∃ t, tv = .ref t ∧ PairAt K CP C G4 t p (keepT T1 (natsOf d1) (natsOf d2)) (keepT T2 (natsOf d1) (natsOf d2)) (natsOf d1).length (natsOf d2).length), ?_, ?_⟩
      · obtain ⟨⟨fa, dx, u1, u2, hpa, _⟩, _, _⟩ := id pA3
        refine ⟨_, rfl, pa, dx, _, rfl, m4.gh _ _ hpa, pl_no (by decide +kernel) (by decide +kernel) (by decide +kernel) (by decide +kernel) (by decide +kernel), _, rfl, _, rfl, ?_⟩
        refine ⟨G3, pa, v1, v2, d1, d2, p, T1, T2, r, k, rfl, m4.gh, pA3, fit, dv1s, dv2s, kt1.2, kt2.2, fun wd i ecd dd H4 s5 hdd => ?_, fun ecd t G4 H4 m6 s6 pT => ?_⟩
        · refine ⟨true, xK, fun _ a2 ha2 => ?_, fun z => by cases z⟩
          refine ⟨_, rfl, rfl, rfl, dd, _, _, rfl, hdd, lkB (by decide +kernel), _, rfl, rfl, rfl, dd, _, _, rfl, hdd, lkA, by show 2 ≤ sizeLine; decide, fun l hl => ?_⟩
          have m6 := Mv.of m4.gh s5
          have m7 := Mv.new (o := .tup [.str wd, .int (i : Nat)]) m6.gh hl
          refine ⟨_, .non, .ref l, _, rfl, m6.trans m7, s5.trans (same_new hl), ?_, fun z => by rw [ecd] at z; cases z⟩
          rw [ecd]
          exact ⟨l, rfl, .tup (SqT.of upd_same) (.cons (.str _) (.cons (.int _) .nil))⟩
        · refine ⟨G4, .ref t, .non, _, rfl, m6, s6, ?_, fun _ => ⟨t, rfl, pT⟩⟩
          rw [ecd]
          exact rfl
      · rintro σ' H4 ⟨G4, tv, fv, ee, rfl, m6, s6, hfv, htv⟩
        have hdue4 := hdue.same m6.gg
        have b6 : But a H H4 := bt b3 (bo (s4.trans s6))
        have hd6 : Hd a c cs H4 := hd2.same (s4.trans s6)
        cases ecd : cutDue r k d1 d2 with
        | some wi =>
          obtain ⟨wd, i⟩ := wi
          rw [ecd] at hdue4 hfv
          obtain ⟨q1, rfl, dq1⟩ := hdue4
          obtain ⟨q2, rfl, dq2⟩ := hfv
          have sh := sh_due (i := i) (cut_word ecd)
          refine ⟨_, rfl, rfl, _, rfl, ifT (notR _) ?_⟩
          refine ⟨_, rfl, _, rfl, _, _, dp_same m6.gh _ _ dq2, dp_same m6.gh _ _ dq1, sh.shaped (by decide), sh.shaped (by decide), ?_⟩
          rw [sh.eq]
          exact kQ H4 b6 hd6
        | none =>
          rw [ecd] at hdue4 hfv
          obtain rfl : dv = .non := hdue4
          obtain rfl : fv = .non := hfv
          obtain ⟨t, rfl, pT⟩ := htv ecd
          refine ⟨_, rfl, rfl, _, rfl, ifF isN ⟨_, rfl, rfl, _, rfl, ifF isN ?_⟩⟩
          have e12 : keptDue r d1 = none ∧ keptDue k d2 = none := by
            unfold cutDue at ecd
            cases e1 : keptDue r d1 with
            | some i => rw [e1] at ecd; cases ecd
            | none =>
              rw [e1] at ecd
              cases e2 : keptDue k d2 with
              | some i => rw [e2] at ecd; cases ecd
              | none => exact ⟨rfl, rfl⟩
          obtain ⟨ds1, q1, er, hrs, hr2, hr3⟩ := due_kept e12.1
          obtain ⟨ds2, q2, ec, hjs, hc2, hc3⟩ := due_kept e12.2
          have eL1 := seq_list kt1.1 q1
          have eL2 := seq_list kt2.1 q2
          generalize natsOf d1 = rs at er hrs hr2 hr3 pT
          generalize natsOf d2 = js at ec hjs hc2 hc3 pT
          subst er ec eL1 eL2
          have m8 := m4.trans m6
          have m9 := m3.trans m8
          obtain ⟨b1', ws1, e3, hb1A, ha1A⟩ := dp_lst (dp_same m8.gg _ _ dv1')
          obtain ⟨b2', ws2, e4, hb2A, ha2A⟩ := dp_lst (dp_same m8.gg _ _ dv2)
          subst e3 e4
          have lw1 := dpAll_len ha1A
          have lw2 := dpAll_len ha2A
          rw [List.length_map] at lw1 lw2
          have hxA := dp_same m9.gg _ _ hx
          refine ⟨_, rfl, _, rfl, ?_⟩
          refine ⟨_, rfl, b1', rfl, ⟨ws1, Evl.ex_l m9.gh hb1A⟩, fun DA hDA => lcP (K := K) walk_list (fun i d => ∃ n, rs[i]? = some n ∧ d = .list (js.map fun m => (T1.getD n []).getD m .none)) m9.gh hDA (by omega) (fun G1 H1 g h _ => Evl.ex_l h (Evl.ex_l g hb1A)) ?_ ?_⟩
          · rintro i u G1 H1 H2 kn kk hi g1 g2 s1 ⟨rfl, hu⟩ made
            obtain ⟨e, he, hue⟩ := dpAll_get ha1A hu
            rw [List.getElem?_map] at he
            obtain ⟨n, hn, rfl⟩ := Option.map_eq_some_iff.mp he
            obtain rfl := dp_int hue
            have hnl : n < T1.length := by rw [t1.lr]; exact hrs n (List.mem_of_getElem? hn)
            refine ⟨rfl, yes ?_⟩
            refine ⟨_, rfl, b2', rfl, ⟨ws2, Evl.ex_l g2 (Evl.ex_l g1 hb2A)⟩, fun D2 hD2 => lcP (K := K) walk_list (fun i d => ∃ m, js[i]? = some m ∧ d = (T1.getD n []).getD m .none) g2 hD2 (by omega) (fun G1' H1 g h _ => Evl.ex_l h (Evl.ex_l (g1.trans g) hb2A)) ?_ ?_⟩
            · rintro i2 u2 G3 H3 H4 kn2 kk2 hi2 g3 g4 s3 ⟨rfl, hu2⟩ made2
              obtain ⟨e2, he2, hue2⟩ := dpAll_get ha2A hu2
              rw [List.getElem?_map] at he2
              obtain ⟨m, hm, rfl⟩ := Option.map_eq_some_iff.mp he2
              obtain rfl := dp_int hue2
              obtain ⟨fa1, fs, ef, hfs, haf⟩ := dp_lst hxA
              obtain ⟨v, hv, hvd⟩ := dpAll_at (i := n) (d := .list T1[n]) haf (by rw [List.getElem?_map, List.getElem?_eq_getElem hnl]; rfl)
              obtain ⟨q, zs, rfl, hq, haw⟩ := dp_lst hvd
              have hml : m < T1[n].length := by rw [(t1.lc _ (List.getElem_mem hnl)).1]; exact hjs m (List.mem_of_getElem? hm)
              obtain ⟨v2, hv2, hvd2⟩ := dpAll_at (i := m) (d := T1[n][m]) haw (List.getElem?_eq_getElem hml)
              have gg := g1.trans g3
              refine ⟨rfl, yes ?_⟩
              refine ⟨_, rfl, _, rfl, fa1, fs, (n : Nat), _, ef, rfl, Evl.ex_l g4 (Evl.ex_l gg hfs), atI_nat hv, _, rfl, q, zs, (m : Nat), _, rfl, rfl, Evl.ex_l g4 (Evl.ex_l gg hq), atI_nat hv2, ?_⟩
              refine made2 _ _ _ _ ⟨m, hm, rfl⟩ (Mv.refl g4) (Same.refl _) ?_
              rw [getD_at hnl, getD_at hml]
              exact dp_same gg _ _ hvd2
            · intro es G3 H3 hle hes m3 s3 hd3
              have ee := all_mapT (f := fun m => (T1.getD n []).getD m .none) (hle.trans lw2) hes
              subst ee
              exact made _ _ _ _ ⟨n, hn, rfl⟩ m3 s3 hd3
          · intro esA GA HA hleA hesA mmA ssA hdrA
            have ee := all_mapT (f := fun n => PyData.list (js.map fun m => (T1.getD n []).getD m .none)) (hleA.trans lw1) hesA
            subst ee
            have hdrA : Dp K GA (.ref DA) (tabL (keepT T1 rs js)) := by
              unfold tabL keepT
              rw [List.map_map]
              exact hdrA
            have mB := m9.trans mmA
            have hb1B := Evl.ex_l mmA.gg hb1A
            have ha1B := dp_sameAll mmA.gg _ _ ha1A
            have hb2B := Evl.ex_l mmA.gg hb2A
            have ha2B := dp_sameAll mmA.gg _ _ ha2A
            have hyB := dp_same mB.gg _ _ hy
            refine ⟨_, rfl, b1', rfl, ⟨ws1, Evl.ex_l mB.gh hb1B⟩, fun DB hDB => lcP (K := K) walk_list (fun i d => ∃ n, rs[i]? = some n ∧ d = .list (js.map fun m => (T2.getD n []).getD m .none)) mB.gh hDB (by omega) (fun G1 H1 g h _ => Evl.ex_l h (Evl.ex_l g hb1B)) ?_ ?_⟩
            · rintro i u G1 H1 H2 kn kk hi g1 g2 s1 ⟨rfl, hu⟩ made
              obtain ⟨e, he, hue⟩ := dpAll_get ha1B hu
              rw [List.getElem?_map] at he
              obtain ⟨n, hn, rfl⟩ := Option.map_eq_some_iff.mp he
              obtain rfl := dp_int hue
              have hnl : n < T2.length := by rw [t2.lr]; exact hrs n (List.mem_of_getElem? hn)
              refine ⟨rfl, yes ?_⟩
              refine ⟨_, rfl, b2', rfl, ⟨ws2, Evl.ex_l g2 (Evl.ex_l g1 hb2B)⟩, fun D2 hD2 => lcP (K := K) walk_list (fun i d => ∃ m, js[i]? = some m ∧ d = (T2.getD n []).getD m .none) g2 hD2 (by omega) (fun G1' H1 g h _ => Evl.ex_l h (Evl.ex_l (g1.trans g) hb2B)) ?_ ?_⟩
              · rintro i2 u2 G3 H3 H4 kn2 kk2 hi2 g3 g4 s3 ⟨rfl, hu2⟩ made2
                obtain ⟨e2, he2, hue2⟩ := dpAll_get ha2B hu2
                rw [List.getElem?_map] at he2
                obtain ⟨m, hm, rfl⟩ := Option.map_eq_some_iff.mp he2
                obtain rfl := dp_int hue2
                obtain ⟨fa1, fs, ef, hfs, haf⟩ := dp_lst hyB
                obtain ⟨v, hv, hvd⟩ := dpAll_at (i := n) (d := .list T2[n]) haf (by rw [List.getElem?_map, List.getElem?_eq_getElem hnl]; rfl)
                obtain ⟨q, zs, rfl, hq, haw⟩ := dp_lst hvd
                have hml : m < T2[n].length := by rw [(t2.lc _ (List.getElem_mem hnl)).1]; exact hjs m (List.mem_of_getElem? hm)
                obtain ⟨v2, hv2, hvd2⟩ := dpAll_at (i := m) (d := T2[n][m]) haw (List.getElem?_eq_getElem hml)
                have gg := g1.trans g3
                refine ⟨rfl, yes ?_⟩
                refine ⟨_, rfl, _, rfl, fa1, fs, (n : Nat), _, ef, rfl, Evl.ex_l g4 (Evl.ex_l gg hfs), atI_nat hv, _, rfl, q, zs, (m : Nat), _, rfl, rfl, Evl.ex_l g4 (Evl.ex_l gg hq), atI_nat hv2, ?_⟩
                refine made2 _ _ _ _ ⟨m, hm, rfl⟩ (Mv.refl g4) (Same.refl _) ?_
                rw [getD_at hnl, getD_at hml]
                exact dp_same gg _ _ hvd2
              · intro es G3 H3 hle hes m3 s3 hd3
                have ee := all_mapT (f := fun m => (T2.getD n []).getD m .none) (hle.trans lw2) hes
                subst ee
                exact made _ _ _ _ ⟨n, hn, rfl⟩ m3 s3 hd3
            · intro esB GB HB hleB hesB mmB ssB hdrB
              have ee := all_mapT (f := fun n => PyData.list (js.map fun m => (T2.getD n []).getD m .none)) (hleB.trans lw1) hesB
              subst ee
              have hdrB : Dp K GB (.ref DB) (tabL (keepT T2 rs js)) := by
                unfold tabL keepT
                rw [List.map_map]
                exact hdrB
              refine ⟨GB, p, t, .ref DA, .ref DB, _, _, _, _, rfl, mmB.gh, (pT.same mmA.gg).same mmB.gg, dp_same mmB.gg _ _ hdrA, hdrB, fun H9 s9 => ?_⟩
              have s10 := (ssA.trans ssB).trans s9
              exact kQ H9 (bt b6 (bo s10)) (hd6.same s10)
end
end Le
set_option exponentiation.threshold 20000

namespace Lf
open PySem PySem.Spec PyProof.Rows L2 Dz Ra Mt Kx Ky Re Rb Rc Rd Gn Dn Do Vz Vp Va Vb Vc Vd Ve Lm La Lb Lc Ld Le
open Kq (HandAt But spTake)
open Rm (pe_methT passN)
def TameT (T : List (List PyData)) : Prop := ∀ row ∈ T, ∀ e ∈ row, tameD e = true
def spAnsA (K : PySem.W.Frag) (CP C : Addr) : Sp := fun vs H Q _ => ∃ (G : Hp) (a c : Addr) (cs : List Int) (p : Int) (fa pa : Addr) (x y : V) (T1 T2 : List (List PyData)) (r k : Nat), vs = [.ref a, .ref fa, .int p, .ref pa, x, y] ∧ Rc.Off p ∧ Hw a c cs G H ∧ FigAt C G fa p ∧ PairAt K CP C G pa p T1 T2 r k ∧ Dp K G x (tabL T1) ∧ Dp K G y (tabL T2) ∧ TameT T1 ∧ TameT T2 ∧ DrB a c cs H Q
theorem ans_word {p : Int} {r k : Nat} {d1 d2 : PyData} {w : Str} {i : Nat} (h : ansDue p r k d1 d2 = some (w, i)) : PyData.strOk w = true := by
  unfold ansDue at h
  split at h
  · cases h
    decide +kernel
  · split at h
    · cases h
      decide +kernel
    · cases h
theorem bad_fine {p : Int} : ∀ {ds : List PyData}, (∀ d ∈ ds, Nu p d) → ∀ i, badN p ds i = none
  | [], _, _ => rfl
  | d :: ds, h, i => by
    have h1 : numD p d = true := h d (List.mem_cons_self ..)
    show (if numD p d then badN p ds (i + 1) else some i) = none
    rw [if_pos h1]
    exact bad_fine (fun e he => h e (List.mem_cons_of_mem _ he)) (i + 1)
theorem letters_fine {p : Int} {ds : List PyData} (h : ∀ d ∈ ds, Nu p d) : lettersDue p (.list ds) ds.length = none := by
  show (match badN p (ds.take ds.length) 0 with | some i => some i | none => if ds.length = ds.length then none else some (min ds.length ds.length)) = none
  rw [List.take_length, bad_fine h 0]
  exact if_pos rfl
/-- the law's own answer -/
def lansD (p : Int) (T : List (List PyData)) (ls rs : List PyData) : PyData := ldotD p ls (T.map fun row => ldotD p row rs)
theorem tab_nums {p : Int} {T : List (List PyData)} {r k : Nat} (t : Tab p T r k) (h : TameT T) : ∀ row ∈ T, Nums p 5 row := fun row hrow e he => ⟨(t.lc row hrow).2 e he, tame_bd (h row hrow e he) ((t.lc row hrow).2 e he)⟩
theorem nums_mono {p : Int} {m n : Nat} {ds : List PyData} (h : Nums p m ds) (hmn : m ≤ n) : Nums p n ds := fun d hd => ⟨(h d hd).1, Nat.lt_of_lt_of_le (h d hd).2.1 (Nat.pow_le_pow_right (by decide) hmn), Nat.lt_of_lt_of_le (h d hd).2.2 (Nat.pow_le_pow_right (by decide) hmn)⟩
theorem ans_eq {p : Int} {T : List (List PyData)} {r k : Nat} {ls rs : List PyData} (hp : 0 ≤ p ∧ p ≤ 13) (t : Tab p T r k) (h : TameT T) (nl : Nums p 5 ls) (nr : Nums p 5 rs) (l2 : rs.length ≤ 5) : ansD p T ls rs = lansD p T ls rs ∧ Nums p 64 (T.map fun row => ldotD p row rs) := by
  have e1 : (T.map fun row => dotD p row rs) = T.map fun row => ldotD p row rs := List.map_congr_left fun row hrow => dot_eq (tab_nums t h row hrow) nr
  have n1 : Nums p 64 (T.map fun row => dotD p row rs) := fun d hd => by
    obtain ⟨row, hrow, rfl⟩ := List.mem_map.mp hd
    have lr : row.length ≤ 5 := by rw [(t.lc row hrow).1]; exact t.c5
    exact ⟨dotD_nu hp.1 (tab_nums t h row hrow) nr, dotD_bd hp (tab_nums t h row hrow) nr lr l2⟩
  rw [e1] at n1
  refine ⟨?_, n1⟩
  unfold ansD lansD
  rw [e1]
  exact dot_eq (nums_mono nl (by decide : 5 ≤ 64)) n1
theorem ans_nu {p : Int} {T : List (List PyData)} {r k : Nat} {ls rs : List PyData} (hp : 0 ≤ p ∧ p ≤ 13) (t : Tab p T r k) (h : TameT T) (nl : Nums p 5 ls) (nr : Nums p 5 rs) (l2 : rs.length ≤ 5) : Nu p (ansD p T ls rs) := by
  obtain ⟨e, n⟩ := ans_eq hp t h nl nr l2
  unfold ansD
  have e1 : (T.map fun row => dotD p row rs) = T.map fun row => ldotD p row rs := List.map_congr_left fun row hrow => dot_eq (tab_nums t h row hrow) nr
  rw [e1]
  exact dotD_nu hp.1 nl n
section
variable {P : Program} {w : World} {K : PySem.W.Frag} {mg : Str → Option Value} {base : Heap} {C CP gP cT cL cP cK f : Addr} {fd : FuncData}
theorem sc__law_answers_asked : FnScope ["_law_hand_here", "_law_figures_here", "_law_p", "_law_pair", "_law_first", "_law_second", "_law_left", "_law_right", "_law_due", "_law_told", "_law_fault", "e", "_law_both", "_law_row", "_law_table"] ["_law_hand_here", "_law_figures_here", "_law_p", "_law_pair", "_law_first", "_law_second"] (defScope (top 64)) := ⟨rfl, rfl, rfl, by decide +kernel, rfl, by decide +kernel, by decide +kernel⟩
theorem ok__law_answers_asked (F : FnP K "_law_answers_asked" (top 64) [] f fd) (tx : Bn mg) (pg : Pg K CP) (eL : Ei2 P w K mg base gP "BadLetters" "what" "index" cL) (xL : PySem.W.exmOne K (.ref cL) (.ref cL) = some true) {fK : Addr} {fdK : FuncData} (GK : FnOk P w K mg base CX0 4 fK fdK ["_law_hand_here", "_law_p", "_law_many"] (spLett K)) (mK : mg "_law_letters" = some (.ref fK)) (kpK : PySem.W.keepIn K (.ref fK) = true) (bK : L2.Binds K fdK ["_law_hand_here", "_law_p", "_law_many"] []) {fD : Addr} {fdD : FuncData} (GD : FnOk P w K mg base CX0 3 fD fdD ["_law_p", "_law_numbers", "_law_many"] (spLDue K)) (mD : mg "_law_letters_due" = some (.ref fD)) (kpD : PySem.W.keepIn K (.ref fD) = true) (bD : L2.Binds K fdD ["_law_p", "_law_numbers", "_law_many"] []) {fO : Addr} {fdO : FuncData} (GO : FnOk P w K mg base CX0 4 fO fdO ["_law_p", "_law_one", "_law_other"] (spDot K)) (mO : mg "_law_dot" = some (.ref fO)) (kpO : PySem.W.keepIn K (.ref fO) = true) (bO : L2.Binds K fdO ["_law_p", "_law_one", "_law_other"] []) {fL : Addr} {fdL : FuncData} (GL : FnOk P w K mg base (L2.CX P w) 4 fL fdL ["figures", "numbers", "many", "what"] (spLetters K C cL)) (mL : mg "check_letters" = some (.ref fL)) (kpL : PySem.W.keepIn K (.ref fL) = true) (bL : L2.Binds K fdL ["figures", "numbers", "many", "what"] []) {fC : Addr} {fdC : FuncData} (GC : FnOk P w K mg base (L2.CX P w) 5 fC fdC ["self", "left", "right"] (spAns K CP C cL)) (mC : Meth K CP "answers" fC) (bC : L2.Binds K fdC ["self", "left", "right"] []) : FnOk P w K mg base CX0 6 f fd ["_law_hand_here", "_law_figures_here", "_law_p", "_law_pair", "_law_first", "_law_second"] (spAnsA K CP C) := by
  refine F.ok sc__law_answers_asked (fun vs H Q E h => ?_) (fun cdv A outer s H vs Q E hr h => ?_)
  · obtain ⟨G, a, c, cs, p, fa, pa, x, y, T1, T2, r, k, rfl, _⟩ := h; rfl
  · obtain ⟨G, a, c, cs, p, fa, pa, x, y, T1, T2, r, k, rfl, op, hw, fig, pA, hx, hy, tm1, tm2, kQ⟩ := h
    have hrK : Room 4 _ := hr.mono (by decide)
    have hrD : Room 3 _ := hr.mono (by decide)
    have hrO : Room 4 _ := hr.mono (by decide)
    have hrL : Room 4 _ := hr.mono (by decide)
    have hrC : Room 5 _ := hr
    have hu := hr.units
    have hp := off_le op
    have t1 := pA.t1
    have t2 := pA.t2
    obtain ⟨b, xs, q, ys, ex, hb, lxs, hx0, hq, lys⟩ := tabL_head t1 hx
    have r5 := t1.r5
    have k5 := t1.c5
    have r1 := t1.r1
    have k1 := t1.c1
    refine ⟨_, PSs.nox (pss_cons (ps_set (i := 6) sc__law_answers_asked.nd rfl (Or.inr rfl) (pe_call GK hrK (by rfl) mK kpK bK .nil pass0 (pa_cons (pv 0) (pa_cons (pv 2) (pa_cons (pe_callB call_len_seq (by rfl) tx.len PySem.boot_len (pa_cons (pv 4) pa_nil)) pa_nil)))))
      (pss_cons (ps_set (i := 7) sc__law_answers_asked.nd rfl (Or.inr rfl) (pe_call GK hrK (by rfl) mK kpK bK .nil pass0 (pa_cons (pv 0) (pa_cons (pv 2) (pa_cons (pe_callB call_len_seq (by rfl) tx.len PySem.boot_len (pa_cons (pe_ix ix_list (pv 4) pe_int (fun _ _ => rfl)) pa_nil)) pa_nil)))))
      (pss_cons (ps_set (i := 8) sc__law_answers_asked.nd rfl (Or.inl rfl) pe_non)
      (Evl.pss_cut (ps_if (pt_cmpR op_notN (pe_call GD hrD (by rfl) mD kpD bD .nil pass0 (pa_cons (pv 2) (pa_cons (pv 6) (pa_cons (pe_callB call_len_seq (by rfl) tx.len PySem.boot_len (pa_cons (pv 4) pa_nil)) pa_nil)))) pe_non (by rfl)) (pss_one (ps_set (i := 8) sc__law_answers_asked.nd rfl (Or.inl rfl) (pe_tup (pa_cons pe_str (pa_cons (pe_call GD hrD (by rfl) mD kpD bD .nil pass0 (pa_cons (pv 2) (pa_cons (pv 6) (pa_cons (pe_callB call_len_seq (by rfl) tx.len PySem.boot_len (pa_cons (pv 4) pa_nil)) pa_nil)))) pa_nil))))) (pss_one (ps_if (pt_cmpR op_notN (pe_call GD hrD (by rfl) mD kpD bD .nil pass0 (pa_cons (pv 2) (pa_cons (pv 7) (pa_cons (pe_callB call_len_seq (by rfl) tx.len PySem.boot_len (pa_cons (pe_ix ix_list (pv 4) pe_int (fun _ _ => rfl)) pa_nil)) pa_nil)))) pe_non (by rfl)) (pss_one (ps_set (i := 8) sc__law_answers_asked.nd rfl (Or.inl rfl) (pe_tup (pa_cons pe_str (pa_cons (pe_call GD hrD (by rfl) mD kpD bD .nil pass0 (pa_cons (pv 2) (pa_cons (pv 7) (pa_cons (pe_callB call_len_seq (by rfl) tx.len PySem.boot_len (pa_cons (pe_ix ix_list (pv 4) pe_int (fun _ _ => rfl)) pa_nil)) pa_nil)))) pa_nil))))) pss_nil)))
      (pss_cons (ps_set (i := 9) sc__law_answers_asked.nd rfl (Or.inl rfl) pe_non)
      (pss_cons (ps_set (i := 10) sc__law_answers_asked.nd rfl (Or.inl rfl) pe_non)
      (Evl.pss_cut (ps_try_as (i := 11) (c := (.ref cL)) (Wout := fun _ _ _ _ => False) rfl rfl sc__law_answers_asked.nd rfl rfl ⟨rfl, by decide, .inl eL.m⟩ takes0
        (fun W pn xe tk _ => (pss_one (ps_set (i := 9) sc__law_answers_asked.nd rfl (Or.inl rfl) (pe_methT (pv 3) pg.cl mC GC hrC bC (fun σ => passAt tk σ) (pa_cons (pv 6) (pa_cons (pv 7) pa_nil))))))
        (fun a oe cls dd pn hz hf => (pss_one (ps_set (i := 10) sc__law_answers_asked.nd rfl (Or.inl rfl) (pe_tup (pa_cons (pe_xf eL.er.xf eL.no hz hf (pv 11)) (pa_cons (pe_xf eL.er.xf eL.no2 hz hf (pv 11)) pa_nil)))))))
      (pss_cons (ps_if (PW.pt (pw_or (pt_cmpR op_notN (pv 8) pe_non (by rfl)) (pw_or1 (pt_cmpR op_notN (pv 10) pe_non (by rfl))))) (pss_one (ps_ret (pe_cmpR (op_eqD hu) (pv 10) (pv 8) (by rfl)))) pss_nil)
      (pss_cons (ps_setLc (i := 12) (own := [("_law_table", 14)]) (g := gName 14) (tt := tYes) rfl sc__law_answers_asked.nd rfl rfl (sw_true rfl rfl rfl (by decide +kernel)) (pi_tup (pe_tup (pa_cons (pv 4) (pa_cons (pv 5) pa_nil)))) (blkOk_by (own := [("_law_table", 14)]) (N := ["_law_hand_here", "_law_figures_here", "_law_p", "_law_pair", "_law_first", "_law_second", "_law_left", "_law_right", "_law_due", "_law_told", "_law_fault", "e", "_law_both", "_law_row", "_law_table"]) (sc := defScope (top 64)) (by decide +kernel)) (fun _ _ _ _ _ => (pg_name (i := 14) sc__law_answers_asked.nd rfl (by first | exact Or.inl rfl | exact Or.inr rfl))) (fun _ _ _ _ _ => pts_nil) (fun _ _ _ _ _ => (pe_call GO hrO (by rfl) mO kpO bO .nil pass0 (pa_cons (pv 2) (pa_cons (pv 6) (pa_cons (pe_lc (own := [("_law_row", 13)]) (g := gName 13) (tt := tYes) rfl sc__law_answers_asked.nd (pi_listK (K := K) (by rfl) (pv 14)) (blkOk_by (own := [("_law_row", 13)]) (N := ["_law_hand_here", "_law_figures_here", "_law_p", "_law_pair", "_law_first", "_law_second", "_law_left", "_law_right", "_law_due", "_law_told", "_law_fault", "e", "_law_both", "_law_row", "_law_table"]) (sc := relS _ (defScope (top 64))) (by decide +kernel)) (fun _ _ _ _ _ => (pg_name (i := 13) sc__law_answers_asked.nd rfl (by first | exact Or.inl rfl | exact Or.inr rfl))) (fun _ _ _ _ _ => pts_nil) (fun _ _ _ _ _ => (pe_call GO hrO (by rfl) mO kpO bO .nil pass0 (pa_cons (pv 2) (pa_cons (pv 13) (pa_cons (pv 7) pa_nil)))))) pa_nil))))))
      (pss_one (ps_ret (pe_and (pe_callB call_isi (by rfl) tx.isinstance PyProof.Rows.boot_isinstance (pa_cons (pv 9) (pa_cons (pe_bltn (v := .ty "tuple") (by rfl) tx.tuple (by decide +kernel) rfl) pa_nil))) (pe_and (pe_cmpR (op_eqD hu) (pv 9) (pe_callTy call_tuple_of (by rfl) tx.tuple PyProof.Rows.boot_tuple (pa_cons (pv 12) pa_nil)) (by rfl)) (pe_one (pe_cmpR (op_eqD hu) (pe_call GL hrL (by rfl) mL kpL bL .nil passN (pa_cons (pv 1) (pa_cons (pv 6) (pa_cons (pe_callB call_len_seq (by rfl) tx.len PySem.boot_len (pa_cons (pv 6) pa_nil)) (pa_cons pe_str pa_nil))))) (pe_callTy call_tuple_of (by rfl) tx.tuple PyProof.Rows.boot_tuple (pa_cons (pv 6) pa_nil)) (by rfl)))))))))))))))), ?_⟩
    subst ex
    refine ⟨_, rfl, _, rfl, _, rfl, b, xs, rfl, .inl (Evl.ex_l hw.s hb), G, a, c, cs, p, xs.length, rfl, op, hw, by omega, by omega, fun v1 d1 G1 H1 kt1 m1 b1 hd1 dv1 => ?_⟩
    have w1 := hw.mv m1 hd1
    refine ⟨_, rfl, _, rfl, _, rfl, b, xs, (0 : Nat), _, rfl, rfl, Evl.ex_l m1.gh (Evl.ex_l m1.gg hb), atI_nat hx0, q, ys, rfl, .inl (Evl.ex_l m1.gh (Evl.ex_l m1.gg hq)), G1, a, c, cs, p, ys.length, rfl, op, w1, by omega, by omega, fun v2 d2 G2 H2 kt2 m2 b2 hd2 dv2 => ?_⟩
    have m3 := m1.trans m2
    have w2 := w1.mv m2 hd2
    have b3 := bt b1 b2
    have dv1' := dp_same m2.gg _ _ dv1
    refine ⟨fun σ' H' => ∃ (G3 : Hp) (dv : V), σ' = [some (.ref a), some (.ref fa), some (.int p), some (.ref pa), some (.ref b), some y, some v1, some v2, some dv, none, none, none, none, none, none] ∧ Mv G2 H2 G3 H' ∧ Same H2 H' ∧ DueV K G3 dv (ansDue p r k d1 d2), ?_, ?_⟩
    · refine ⟨_, rfl, _, rfl, _, rfl, b, xs, rfl, .inl (Evl.ex_l m2.gh (Evl.ex_l m3.gg hb)), p, v1, d1, xs.length, rfl, op, dp_same m2.gh _ _ dv1', kt1.1, kt1.2.1, by omega, kt1.2.2, fun H3 s3 => ?_⟩
      rw [lxs]
      have m4 := Mv.of m2.gh s3
      cases e1 : lettersDue p d1 r with
      | some i =>
        refine ⟨rfl, _, rfl, ifT (notN _) ?_⟩
        refine ⟨_, rfl, _, rfl, _, rfl, b, xs, rfl, .inl (Evl.ex_l m4.gh (Evl.ex_l m3.gg hb)), p, v1, d1, xs.length, rfl, op, dp_same m4.gh _ _ dv1', kt1.1, kt1.2.1, by omega, kt1.2.2, fun H5 s5 => ?_⟩
        rw [lxs, e1]
        have m6 := m4.trans (Mv.of m4.gh s5)
        refine ⟨by show 2 ≤ sizeLine; decide, fun l hl => ?_⟩
        have m7 := Mv.new (o := .tup [.str "left", .int (i : Nat)]) m6.gh hl
        refine ⟨_, _, rfl, m6.trans m7, (s3.trans s5).trans (same_new hl), ?_⟩
        have e2 : ansDue p r k d1 d2 = some (("left" : Str), i) := by unfold ansDue; rw [e1]
        rw [e2]
        exact ⟨l, rfl, .tup (SqT.of upd_same) (.cons (.str _) (.cons (.int _) .nil))⟩
      | none =>
        refine ⟨rfl, _, rfl, ifF isN ?_⟩
        refine ⟨_, rfl, _, rfl, _, rfl, b, xs, (0 : Nat), _, rfl, rfl, Evl.ex_l m4.gh (Evl.ex_l m3.gg hb), atI_nat hx0, q, ys, rfl, .inl (Evl.ex_l m4.gh (Evl.ex_l m3.gg hq)), p, v2, d2, ys.length, rfl, op, dp_same m4.gh _ _ dv2, kt2.1, kt2.2.1, by omega, kt2.2.2, fun H5 s5 => ?_⟩
        rw [lys]
        have m6 := m4.trans (Mv.of m4.gh s5)
        cases e2 : lettersDue p d2 k with
        | some i =>
          refine ⟨rfl, _, rfl, ifT (notN _) ?_⟩
          refine ⟨_, rfl, _, rfl, _, rfl, b, xs, (0 : Nat), _, rfl, rfl, Evl.ex_l m6.gh (Evl.ex_l m3.gg hb), atI_nat hx0, q, ys, rfl, .inl (Evl.ex_l m6.gh (Evl.ex_l m3.gg hq)), p, v2, d2, ys.length, rfl, op, dp_same m6.gh _ _ dv2, kt2.1, kt2.2.1, by omega, kt2.2.2, fun H7 s7 => ?_⟩
          rw [lys, e2]
          have m8 := m6.trans (Mv.of m6.gh s7)
          refine ⟨by show 2 ≤ sizeLine; decide, fun l hl => ?_⟩
          have m7 := Mv.new (o := .tup [.str "right", .int (i : Nat)]) m8.gh hl
          refine ⟨_, _, rfl, m8.trans m7, ((s3.trans s5).trans s7).trans (same_new hl), ?_⟩
          have e3 : ansDue p r k d1 d2 = some (("right" : Str), i) := by unfold ansDue; rw [e1, e2]
          rw [e3]
          exact ⟨l, rfl, .tup (SqT.of upd_same) (.cons (.str _) (.cons (.int _) .nil))⟩
        | none =>
          refine ⟨rfl, _, rfl, ifF isN ?_⟩
          refine ⟨_, _, rfl, m6, s3.trans s5, ?_⟩
          have e3 : ansDue p r k d1 d2 = none := by unfold ansDue; rw [e1, e2]
          rw [e3]
          exact rfl
    · rintro σ' H3 ⟨G3, dv, rfl, m4, s4, hdue⟩
      have m5 := m3.trans m4
      have pA3 := pA.same m5.gg
      have dv1s := dp_same m4.gg _ _ dv1'
      have dv2s := dp_same m4.gg _ _ dv2
      refine ⟨fun σ' H' => ∃ (G4 : Hp) (tv fv : V) (ee : Option V), σ' = [some (.ref a), some (.ref fa), some (.int p), some (.ref pa), some (.ref b), some y, some v1, some v2, some dv, some tv, some fv, ee, none, none, none] ∧ Mv G3 H3 G4 H' ∧ Same H3 H' ∧ DueV K G4 fv (ansDue p r k d1 d2) ∧ (ansDue p r k d1 d2 = none → ∀ ls rs, seqOf d1 = some ls → seqOf d2 = some rs → Dp K G4 tv (.tuple [ansD p T1 ls rs, ansD p T2 ls rs])), ?_, ?_⟩
      · obtain ⟨⟨fa', dx, u1, u2, hpa, _⟩, _, _⟩ := id pA3
        have bs : ∀ {d : PyData}, LettT d → BdS p 5 d := fun {d} h ds e e1 he hn => by
          have := seq_list h.1 e
          subst this
          exact tame_bd (h.2.2 ds rfl e1 he) hn
        have bt1 : ∀ row ∈ T1, ∀ e ∈ row, Bd 5 e := fun row hrow e he => (tab_nums t1 tm1 row hrow e he).2
        have bt2 : ∀ row ∈ T2, ∀ e ∈ row, Bd 5 e := fun row hrow e he => (tab_nums t2 tm2 row hrow e he).2
        refine ⟨_, rfl, pa, dx, _, rfl, m4.gh _ _ hpa, pl_no (by decide +kernel) (by decide +kernel) (by decide +kernel) (by decide +kernel) (by decide +kernel), _, rfl, _, rfl, ?_⟩
        refine ⟨G3, pa, v1, v2, d1, d2, p, T1, T2, r, k, 5, rfl, m4.gh, pA3, dv1s, dv2s, kt1.2.1, kt2.2.1, by decide, bt1, bt2, bs kt1, bs kt2, fun wd i ecd dd H4 s5 hdd => ?_, fun ls rs ecd q1 q2 tv G4 H4 m6 s6 dT => ?_⟩
        · refine ⟨true, xL, fun _ a2 ha2 => ?_, fun z => by cases z⟩
          refine ⟨_, rfl, rfl, rfl, dd, _, _, rfl, hdd, lkB (by decide +kernel), _, rfl, rfl, rfl, dd, _, _, rfl, hdd, lkA, by show 2 ≤ sizeLine; decide, fun l hl => ?_⟩
          have m6 := Mv.of m4.gh s5
          have m7 := Mv.new (o := .tup [.str wd, .int (i : Nat)]) m6.gh hl
          refine ⟨_, .non, .ref l, _, rfl, m6.trans m7, s5.trans (same_new hl), ?_, fun z => by rw [ecd] at z; cases z⟩
          rw [ecd]
          exact ⟨l, rfl, .tup (SqT.of upd_same) (.cons (.str _) (.cons (.int _) .nil))⟩
        · refine ⟨G4, tv, .non, _, rfl, m6, s6, ?_, fun _ ls' rs' e1 e2 => ?_⟩
          · rw [ecd]
            exact rfl
          · cases e1.symm.trans q1
            cases e2.symm.trans q2
            exact dT
      · rintro σ' H4 ⟨G4, tv, fv, ee, rfl, m6, s6, hfv, htv⟩
        have hdue4 := hdue.same m6.gg
        have b6 : But a H H4 := bt b3 (bo (s4.trans s6))
        have hd6 : Hd a c cs H4 := hd2.same (s4.trans s6)
        cases ecd : ansDue p r k d1 d2 with
        | some wi =>
          obtain ⟨wd, i⟩ := wi
          rw [ecd] at hdue4 hfv
          obtain ⟨q1, rfl, dq1⟩ := hdue4
          obtain ⟨q2, rfl, dq2⟩ := hfv
          have sh := sh_due (i := i) (ans_word ecd)
          refine ⟨_, rfl, rfl, _, rfl, ifT (notR _) ?_⟩
          refine ⟨_, rfl, _, rfl, _, _, dp_same m6.gh _ _ dq2, dp_same m6.gh _ _ dq1, sh.shaped (by decide), sh.shaped (by decide), ?_⟩
          rw [sh.eq]
          exact kQ H4 b6 hd6
        | none =>
          rw [ecd] at hdue4 hfv
          obtain rfl : dv = .non := hdue4
          obtain rfl : fv = .non := hfv
          refine ⟨_, rfl, rfl, _, rfl, ifF isN ⟨_, rfl, rfl, _, rfl, ifF isN ?_⟩⟩
          have e12 : lettersDue p d1 r = none ∧ lettersDue p d2 k = none := by
            unfold ansDue at ecd
            cases e1 : lettersDue p d1 r with
            | some i => rw [e1] at ecd; cases ecd
            | none =>
              rw [e1] at ecd
              cases e2 : lettersDue p d2 k with
              | some i => rw [e2] at ecd; cases ecd
              | none => exact ⟨rfl, rfl⟩
          obtain ⟨ls, q1, ll, hln⟩ := due_letters e12.1
          obtain ⟨rs, q2, lr, hrn⟩ := due_letters e12.2
          have hT := htv ecd ls rs q1 q2
          have eL1 := seq_list kt1.1 q1
          have eL2 := seq_list kt2.1 q2
          subst eL1 eL2
          have nl : Nums p 5 ls := fun d hd => ⟨hln d hd, tame_bd (kt1.2.2 ls rfl d hd) (hln d hd)⟩
          have nr : Nums p 5 rs := fun d hd => ⟨hrn d hd, tame_bd (kt2.2.2 rs rfl d hd) (hrn d hd)⟩
          have rs5 : rs.length ≤ 5 := by omega
          obtain ⟨ae1, an1⟩ := ans_eq hp t1 tm1 nl nr rs5
          obtain ⟨ae2, an2⟩ := ans_eq hp t2 tm2 nl nr rs5
          have au1 := ans_nu hp t1 tm1 nl nr rs5
          have au2 := ans_nu hp t2 tm2 nl nr rs5
          have m8 := m4.trans m6
          have m9 := m3.trans m8
          have dl := dp_same m8.gg _ _ dv1'
          have dr := dp_same m8.gg _ _ dv2
          have hxA := dp_same m9.gg _ _ hx
          have hyA := dp_same m9.gg _ _ hy
          refine ⟨_, rfl, _, rfl, by show 2 ≤ sizeLine; decide, fun qt hqt => ⟨qt, rfl, ⟨_, SqT.of upd_same⟩, fun D hD => ?_⟩⟩
          have mt := Mv.new (o := .tup [.ref b, y]) m9.gh hqt
          have st := same_new (o := .tup [.ref b, y]) hqt
          have hqt2 : (upd G4 qt (.tup [.ref b, y])) qt = some (.tup [.ref b, y]) := upd_same
          generalize upd G4 qt (.tup [.ref b, y]) = G5 at mt hqt2
          generalize upd H4 qt (.tup [.ref b, y]) = H5 at mt st hD
          have one : ∀ (i : Nat) (v : V), [V.ref b, y][i]? = some v → ∃ T, [T1, T2][i]? = some T ∧ Dp K G4 v (tabL T) ∧ (∀ row ∈ T, Nums p 5 row ∧ row.length = k) ∧ T.length = r ∧ Nums p 64 (T.map fun row => ldotD p row rs) := fun i v hv => by
            match i, hv with
            | 0, hv =>
              have e : V.ref b = v := Option.some.inj hv
              subst e
              exact ⟨T1, rfl, hxA, fun row hrow => ⟨tab_nums t1 tm1 row hrow, (t1.lc row hrow).1⟩, t1.lr, an1⟩
            | 1, hv =>
              have e : y = v := Option.some.inj hv
              subst e
              exact ⟨T2, rfl, hyA, fun row hrow => ⟨tab_nums t2 tm2 row hrow, (t2.lc row hrow).1⟩, t2.lr, an2⟩
            | n + 2, hv => simp at hv
          refine lcP (K := K) (walk_tup (xs := [.ref b, y])) (fun i d => ∃ T, [T1, T2][i]? = some T ∧ d = lansD p T ls rs) mt.gh hD (by show 2 ≤ 1000; decide) (fun G1 H1 g h _ => SqT.of (h _ _ (g _ _ hqt2))) ?_ ?_
          · rintro i u G6 H6 H7 kn kk hi g6 g7 s7 ⟨rfl, hu2⟩ made
            obtain ⟨T, eT, dT, nT, lT, anT⟩ := one i u hu2
            have g46 := mt.gg.trans g6
            obtain ⟨b', ws, rfl, hb', haw⟩ := dp_lst (dp_same g46 _ _ dT)
            have lw := dpAll_len haw
            rw [List.length_map, lT] at lw
            refine ⟨rfl, yes ?_⟩
            refine ⟨_, rfl, _, rfl, _, rfl, b', rfl, ⟨ws, Evl.ex_l g7 hb'⟩, fun D2 hD2 => lcP (K := K) walk_list (fun i d => ∃ row, T[i]? = some row ∧ d = ldotD p row rs) g7 hD2 (by omega) (fun G1 H1 g h _ => Evl.ex_l h (Evl.ex_l g hb')) ?_ ?_⟩
            · rintro i2 u2 G8 H8 H9 kn2 kk2 hi2 g8 g9 s9 ⟨rfl, hu3⟩ made2
              obtain ⟨e2, he2, hue2⟩ := dpAll_get haw hu3
              rw [List.getElem?_map] at he2
              obtain ⟨row, hrow, rfl⟩ := Option.map_eq_some_iff.mp he2
              obtain ⟨nrow, lrow⟩ := nT row (List.mem_of_getElem? hrow)
              refine ⟨rfl, yes ?_⟩
              refine ⟨_, rfl, _, rfl, _, rfl, G8, p, u2, v2, row, rs, 5, 5, rfl, op, g9, dp_same g8 _ _ hue2, dp_same (g46.trans g8) _ _ dr, nrow, nr, by omega, by omega, by decide, fun v3 G9 H10 m10 s10 hd10 => ?_⟩
              exact made2 _ _ _ _ ⟨row, hrow, rfl⟩ m10 s10 hd10
            · intro es G8 H8 hle hes m10 s10 hd10
              have ee := all_mapT (f := fun row => ldotD p row rs) (by rw [hle, lw, lT]) hes
              subst ee
              refine ⟨G8, p, v1, .ref D2, ls, _, 5, 64, rfl, op, m10.gh, dp_same (g46.trans m10.gg) _ _ dl, hd10, nl, anT, by rw [List.length_map, lT, ll], by omega, by decide, fun v3 G9 H10 m11 s11 hd11 => ?_⟩
              exact made _ _ _ _ ⟨T, eT, rfl⟩ (m10.trans m11) (s10.trans s11) hd11
          · intro es G6 H6 hle hes m10 s10 hd10
            have ee : es = [lansD p T1 ls rs, lansD p T2 ls rs] := by
              have e0 := all_mapT (es := [T1, T2]) (f := fun T => lansD p T ls rs) hle hes
              exact e0
            subst ee
            rw [← ae1, ← ae2] at hd10
            have m11 := mt.trans m10
            have s11 := st.trans s10
            obtain ⟨D', zs, eD, hzs, haz⟩ := dp_lst hd10
            cases eD
            have hT6 := dp_same m11.gg _ _ hT
            have shA : Sh 2 (.tuple [ansD p T1 ls rs, ansD p T2 ls rs]) := sh_tup fun e he => by
              rcases List.mem_cons.mp he with rfl | he
              · exact sh_num au1
              · rcases List.mem_cons.mp he with rfl | he
                · exact sh_num au2
                · cases he
            have shL : Sh 2 (.tuple ls) := sh_tup fun e he => sh_num (hln e he)
            refine ⟨_, rfl, _, _, _, _, _, rfl, .ty _, ty_dp (dp_same m11.gh _ _ hT6), kit_bi (.tuple [ansD p T1 ls rs, ansD p T2 ls rs]) (.inr (.inr (.inr rfl))), _, rfl, ifT rfl ?_⟩
            refine ⟨_, rfl, _, rfl, D, zs, rfl, .inl ⟨Evl.ex_l m11.gh hzs, fun l hl => ?_⟩⟩
            have m12 := Mv.new (o := .tup zs) m11.gh hl
            refine ⟨_, _, dp_same (m12.gg.trans m12.gh) _ _ hT6, .tup (SqT.of upd_same) (dp_sameAll (m11.gh.trans (same_new hl)) _ _ haz), shA.shaped (by decide), shA.shaped (by decide), _, rfl, ifT shA.eq ?_⟩
            have m13 := m11.trans m12
            have dl7 := dp_same m13.gg _ _ dl
            obtain ⟨bl, zl, el, hbl, hal⟩ := dp_lst dl7
            subst el
            have lzl := dpAll_len hal
            refine ⟨_, rfl, _, rfl, _, rfl, bl, zl, rfl, .inl (Evl.ex_l m13.gh hbl), _, fa, .ref bl, .list ls, p, zl.length, "any", rfl, m13.gh, fig.same (m9.gg.trans m13.gg), dl7, by omega, kt1.2.1, fun i e => ?_, fun ds e1 e2 v5 G9 H9 m14 s14 hd14 => ?_⟩
            · rw [lzl, letters_fine hln] at e
              cases e
            · cases e2
              refine ⟨_, rfl, bl, zl, rfl, .inl ⟨Evl.ex_l m14.gh (Evl.ex_l m14.gg hbl), fun l2 hl2 => ?_⟩⟩
              have m15 := Mv.new (o := .tup zl) m14.gh hl2
              refine ⟨_, _, dp_same (m15.gg.trans m15.gh) _ _ hd14, .tup (SqT.of upd_same) (dp_sameAll (m14.gg.trans (m14.gh.trans (same_new hl2))) _ _ hal), shL.shaped (by decide), shL.shaped (by decide), ?_⟩
              rw [shL.eq]
              have s15 := ((s11.trans (same_new (o := .tup zs) hl)).trans s14).trans (same_new (o := .tup zl) hl2)
              exact kQ _ (bt b6 (bo s15)) (hd6.same s15)
end
end Lf
set_option exponentiation.threshold 20000

namespace Lg
open PySem PySem.Spec PyProof.Rows L2 Dz Ra Mt Kx Ky Re Rb Rc Rd Gn Dn Do Vz Vp Va Vb Vc Vd Ve Lm La Lb Lc Ld Le Lf
open Kq (HandAt But spTake spHand)
open Rm (pe_methT passN)
def spZeroA (K : PySem.W.Frag) (C : Addr) : Sp := fun vs H Q _ => ∃ (G : Hp) (p : Int) (fa : Addr) (x y : V) (r c : PyData), vs = [.ref fa, .int p, x, y] ∧ Rc.Off p ∧ Same G H ∧ FigAt C G fa p ∧ Dp K G x r ∧ Dp K G y c ∧ ∀ H', Same H H' → Q (.bl true) H'
def optS : Option Str → V
  | none => .non
  | some s => .str s
theorem size_no1 {p : Int} {r c : PyData} (h : wholeD r (some 1) (some 5) = false) : sizeDue p r c = some ("size" : Str) := by
  unfold sizeDue
  rw [h]
  rfl
theorem size_no2 {p : Int} {r c : PyData} (h : wholeD c (some 1) (some 5) = false) : sizeDue p r c = some ("size" : Str) := by
  unfold sizeDue
  rw [h, Bool.and_false]
  rfl
theorem whole_ns {r : PyData} {l h : Option Int} (e : ¬ wholeD r none none = true) : wholeD r l h = false := by
  cases r with
  | int i => exact absurd rfl e
  | _ => rfl
theorem w15 {i : Int} : wholeD (.int i) (some 1) (some 5) = (decide (1 ≤ i) && decide (i ≤ 5)) := rfl
def spLaw (K : PySem.W.Frag) : Sp := fun vs H Q _ => ∃ (s : Addr) (ns : List Int), vs = [.ref s] ∧ SqL K H s (ns.map V.int) ∧ ns.length ≤ 63 ∧ ∀ H', Q (.bl true) H'
/-- all but the hand -/
def Out (a : Addr) (H : Hp) : Hp := fun b => if b = a then none else H b
theorem out_same {a : Addr} {H : Hp} : Same (Out a H) H := fun b o e => by
  unfold Out at e
  by_cases h : b = a
  · rw [if_pos h] at e
    cases e
  · rw [if_neg h] at e
    exact e
theorem out_none {a : Addr} {H : Hp} : Out a H a = none := if_pos rfl
theorem out_at {a b : Addr} {H : Hp} {o : HO} (h : H b = some o) (n : b ≠ a) : Out a H b = some o := by
  unfold Out
  rw [if_neg n]
  exact h
theorem fig_out {C a F c : Addr} {cs : List Int} {H : Hp} {p : Int} (h : FigAt C H F p) (hd : Hd a c cs H) : FigAt C (Out a H) F p := by
  obtain ⟨i, g, t, hh⟩ := hd
  obtain ⟨op, dx, z, o, ha, hz⟩ := h
  have ne : ∀ {b : Addr} {u : HO}, H b = some u → (∀ xs, u ≠ .lst xs) → b ≠ a := fun e n z => by
    rw [z, hh.l] at e
    exact n _ (Option.some.inj e).symm
  refine ⟨op, dx, z, o, out_at ha (ne ha fun xs e => by cases e), ?_⟩
  rcases hz with ⟨e, za, oa, e1, e2, h1, h2⟩ | hz
  · exact .inl ⟨e, za, oa, e1, e2, out_at h1 (ne h1 fun xs e => by cases e), out_at h2 (ne h2 fun xs e => by cases e)⟩
  · exact .inr hz
theorem seqL {T : List (List PyData)} : seqOf (tabL T) = some (T.map .list) := rfl
theorem tabOf_L {T : List (List PyData)} : tabOf (tabL T) = T := by
  unfold tabOf tabL
  show ((T.map PyData.list).map fun r => (seqOf r).getD []) = T
  rw [List.map_map]
  exact List.map_id T
theorem len1_L {p : Int} {T : List (List PyData)} {r c : Nat} (h : Tab p T r c) : Len1 (tabL T) := by
  intro ds e
  cases e
  refine ⟨by rw [List.length_map, h.lr]; have := h.r5; omega, fun e he es hes => ?_⟩
  obtain ⟨row, hrow, rfl⟩ := List.mem_map.mp he
  cases hes
  rw [(h.lc _ hrow).1]
  have := h.c5
  omega
theorem pair_fineL {p : Int} {T1 T2 : List (List PyData)} {r c : Nat} (h1 : Tab p T1 r c) (h2 : Tab p T2 r c) (hw : Fit p r c) : pairDue p (tabL T1) (tabL T2) = none := by
  have t : ∀ {T : List (List PyData)}, Tab p T r c → tableDue p (tabL T) none none = none := fun {T} h => table_fine (ds := T.map .list) rfl (by rw [tabOf_L]; exact h) fun e he => by
    obtain ⟨row, _, rfl⟩ := List.mem_map.mp he
    rfl
  unfold pairDue
  rw [t h1, t h2]
  show (if (tabOf (tabL T1)).length = (tabOf (tabL T2)).length ∧ cols0 (tabOf (tabL T1)) = cols0 (tabOf (tabL T2)) then (if wideI p (tabOf (tabL T1)).length (cols0 (tabOf (tabL T1))) then some (none, ("wide" : Str)) else none) else some (none, ("size" : Str))) = none
  rw [tabOf_L, tabOf_L, h1.lr, h2.lr, cols_tab h1, cols_tab h2, if_pos ⟨rfl, rfl⟩]
  have e : wideI p r c = false := by
    unfold wideI
    by_cases hp : p = 0
    · rw [decide_eq_false fun z => z hp]
      rfl
    · obtain ⟨a, b⟩ := hw hp
      rw [decide_eq_true hp, Bool.true_and, decide_eq_false (by split <;> omega)]
  rw [e]
  rfl
theorem pick11 {r : Int} (h0 : 0 ≤ r) (h1 : r < 11) {K : PySem.W.Frag} {G : Hp} : ∃ v d, atI [V.int 0, .int (-1), .int 6, .bl true, .non, .str "2", .int 1, .int 2, .int 3, .int 4, .int 5] r = some v ∧ Dp K G v d := by
  have h : r = 0 ∨ r = 1 ∨ r = 2 ∨ r = 3 ∨ r = 4 ∨ r = 5 ∨ r = 6 ∨ r = 7 ∨ r = 8 ∨ r = 9 ∨ r = 10 := by omega
  rcases h with rfl | rfl | rfl | rfl | rfl | rfl | rfl | rfl | rfl | rfl | rfl
  · exact ⟨_, _, rfl, .int _⟩
  · exact ⟨_, _, rfl, .int _⟩
  · exact ⟨_, _, rfl, .int _⟩
  · exact ⟨_, _, rfl, .bl _⟩
  · exact ⟨_, _, rfl, .non⟩
  · exact ⟨_, _, rfl, .str _⟩
  · exact ⟨_, _, rfl, .int _⟩
  · exact ⟨_, _, rfl, .int _⟩
  · exact ⟨_, _, rfl, .int _⟩
  · exact ⟨_, _, rfl, .int _⟩
  · exact ⟨_, _, rfl, .int _⟩
section
variable {P : Program} {w : World} {K : PySem.W.Frag} {mg : Str → Option Value} {base : Heap} {C CP gP cT cL cP cK cF f fI fP : Addr} {fd fdI fdP : FuncData}
theorem sc__law_zero_asked : FnScope ["_law_figures_here", "_law_p", "_law_rows", "_law_columns", "_law_due", "_law_told", "_law_fault", "e"] ["_law_figures_here", "_law_p", "_law_rows", "_law_columns"] (defScope (top 65)) := ⟨rfl, rfl, rfl, by decide +kernel, rfl, by decide +kernel, by decide +kernel⟩
theorem ok__law_zero_asked (F : FnP K "_law_zero_asked" (top 65) [] f fd) (tx : Bn mg) (eP : Ei P w K mg base gP "BadPair" "what" cP) (xP : PySem.W.exmOne K (.ref cP) (.ref cP) = some true) {fW : Addr} {fdW : FuncData} (GW : FnOk P w K mg base CX0 1 fW fdW ["_law_thing"] (spWholeL K)) (mW : mg "_law_whole" = some (.ref fW)) (kpW : PySem.W.keepIn K (.ref fW) = true) (bW : L2.Binds K fdW ["_law_thing"] []) {fB : Addr} {fdB : FuncData} (GB : FnOk P w K mg base CX0 2 fB fdB ["_law_p", "_law_rows", "_law_columns"] (spBlank K)) (mB : mg "_law_blank" = some (.ref fB)) (kpB : PySem.W.keepIn K (.ref fB) = true) (bB : L2.Binds K fdB ["_law_p", "_law_rows", "_law_columns"] []) {fI : Addr} {fdI : FuncData} (GI : FnOk P w K mg base CX0 2 fI fdI ["_law_p", "_law_pair", "_law_first", "_law_second"] (spIsP K CP C)) (mI : mg "_law_is_pair" = some (.ref fI)) (kpI : PySem.W.keepIn K (.ref fI) = true) (bI : L2.Binds K fdI ["_law_p", "_law_pair", "_law_first", "_law_second"] []) {fZ : Addr} {fdZ : FuncData} (GZ : FnOk P w K mg base (L2.CX P w) 8 fZ fdZ ["figures", "rows", "columns"] (spZeroP K CP C cP)) (mZ : mg "zero_pair" = some (.ref fZ)) (kpZ : PySem.W.keepIn K (.ref fZ) = true) (bZ : L2.Binds K fdZ ["figures", "rows", "columns"] []) : FnOk P w K mg base CX0 9 f fd ["_law_figures_here", "_law_p", "_law_rows", "_law_columns"] (spZeroA K C) := by
  refine F.ok sc__law_zero_asked (fun vs H Q E h => ?_) (fun cdv A outer s H vs Q E hr h => ?_)
  · obtain ⟨G, p, fa, x, y, r, c, rfl, _⟩ := h; rfl
  · obtain ⟨G, p, fa, x, y, r, c, rfl, op, s, fig, hx, hy, kQ⟩ := h
    have hrW : Room 1 _ := hr.mono (by decide)
    have hrB : Room 2 _ := hr.mono (by decide)
    have hrI : Room 2 _ := hr.mono (by decide)
    have hrZ : Room 8 _ := hr
    have hxH := dp_same s _ _ hx
    have hyH := dp_same s _ _ hy
    refine ⟨_, PSs.nox (pss_cons (ps_set (i := 4) sc__law_zero_asked.nd rfl (Or.inl rfl) pe_non)
      (Evl.pss_cut (ps_if (PW.pt (pw_or (pt_not (pt_val (pe_call GW hrW (by rfl) mW kpW bW .nil pass0 (pa_cons (pv 2) pa_nil)))) (pw_or (pt_not (pt_val (pe_call GW hrW (by rfl) mW kpW bW .nil pass0 (pa_cons (pv 3) pa_nil)))) (pw_or (pt_not (pt_chain op_le op_le pe_int (pv 2) pe_int)) (pw_or1 (pt_not (pt_chain op_le op_le pe_int (pv 3) pe_int))))))) (pss_one (ps_set (i := 4) sc__law_zero_asked.nd rfl (Or.inl rfl) pe_str)) (pss_one (ps_if (PW.pt (pw_and (pt_cmpR op_gt (pv 1) pe_int (by rfl)) (pw_and1 (pt_cmpR op_gt (pe_callB (call_max2 rfl) (by rfl) tx.max (by decide +kernel) (pa_cons (pv 2) (pa_cons (pv 3) pa_nil))) (pv 1) (by rfl))))) (pss_one (ps_set (i := 4) sc__law_zero_asked.nd rfl (Or.inl rfl) pe_str)) pss_nil)))
      (pss_cons (ps_set (i := 5) sc__law_zero_asked.nd rfl (Or.inl rfl) pe_non)
      (pss_cons (ps_set (i := 6) sc__law_zero_asked.nd rfl (Or.inl rfl) pe_non)
      (Evl.pss_cut (ps_try_as (i := 7) (c := (.ref cP)) (Wout := fun _ _ _ _ => False) rfl rfl sc__law_zero_asked.nd rfl rfl ⟨rfl, by decide, .inl eP.m⟩ takes0
        (fun W pn xe tk _ => (pss_one (ps_set (i := 5) sc__law_zero_asked.nd rfl (Or.inl rfl) (pe_callS GZ hrZ (by rfl) mZ kpZ bZ (fun σ => passAt tk σ) (pa_cons (pv 0) (pa_cons (pv 2) (pa_cons (pv 3) pa_nil)))))))
        (fun a oe cls dd pn hz hf => (pss_one (ps_set (i := 6) sc__law_zero_asked.nd rfl (Or.inl rfl) (pe_xf eP.er.xf eP.no hz hf (pv 7))))))
      (pss_cons (ps_if (PW.pt (pw_or (pt_cmpR op_notN (pv 4) pe_non (by rfl)) (pw_or1 (pt_cmpR op_notN (pv 6) pe_non (by rfl))))) (pss_one (ps_ret (pe_cmpR op_eq (pv 6) (pv 4) (by rfl)))) pss_nil)
      (pss_one (ps_ret (pe_call GI hrI (by rfl) mI kpI bI .nil pass0 (pa_cons (pv 1) (pa_cons (pv 5) (pa_cons (pe_call GB hrB (by rfl) mB kpB bB .nil pass0 (pa_cons (pv 1) (pa_cons (pv 2) (pa_cons (pv 3) pa_nil)))) (pa_cons (pe_call GB hrB (by rfl) mB kpB bB .nil pass0 (pa_cons (pv 1) (pa_cons (pv 2) (pa_cons (pv 3) pa_nil)))) pa_nil))))))))))))), ?_⟩
    refine ⟨fun σ' H' => σ' = [some (.ref fa), some (.int p), some x, some y, some (optS (sizeDue p r c)), none, none, none] ∧ H' = H, ?_, ?_⟩
    · refine ⟨_, rfl, x, r, rfl, hxH, _, rfl, ?_⟩
      by_cases h1 : wholeD r none none = true
      · refine ifF (by rw [h1]; rfl) ⟨_, rfl, y, c, rfl, hyH, _, rfl, ?_⟩
        by_cases h2 : wholeD c none none = true
        · refine ifF (by rw [h2]; rfl) ?_
          cases r with
          | int i =>
            cases c with
            | int j =>
              obtain rfl := dp_int hx
              obtain rfl := dp_int hy
              refine ⟨_, rfl, _, _, rfl, rfl, _, rfl, ?_⟩
              by_cases i1 : (1 : Int) ≤ i
              · refine ifT (decide_eq_true i1) ⟨_, _, rfl, rfl, _, rfl, ?_⟩
                by_cases i5 : i ≤ 5
                · refine ifF (by rw [decide_eq_true i5]; rfl) ⟨_, rfl, _, _, rfl, rfl, _, rfl, ?_⟩
                  by_cases j1 : (1 : Int) ≤ j
                  · refine ifT (decide_eq_true j1) ⟨_, _, rfl, rfl, _, rfl, ?_⟩
                    by_cases j5 : j ≤ 5
                    · refine ifF (by rw [decide_eq_true j5]; rfl) ?_
                      have e : sizeDue p (.int i) (.int j) = if wideI p i j then some ("wide" : Str) else none := by
                        unfold sizeDue
                        rw [w15, w15, decide_eq_true i1, decide_eq_true i5, decide_eq_true j1, decide_eq_true j5]
                        rfl
                      refine ⟨_, rfl, _, _, rfl, rfl, _, rfl, ?_⟩
                      by_cases hp : p = 0
                      · subst hp
                        refine ifF (by decide) ⟨?_, rfl⟩
                        have e2 : wideI 0 i j = false := by unfold wideI; rw [decide_eq_false fun z => z rfl]; rfl
                        rw [e, e2]
                        rfl
                      · obtain ⟨p0, p13⟩ := off_pos op hp
                        refine ifT (decide_eq_true p0) ⟨_, rfl, _, rfl, _, _, rfl, _, rfl, _, _, rfl, rfl, _, rfl, ?_⟩
                        by_cases hm : (if j > i then j else i) > p
                        · refine ifT (decide_eq_true hm) ⟨?_, rfl⟩
                          have e2 : wideI p i j = true := by unfold wideI; rw [decide_eq_true hp, decide_eq_true hm]; rfl
                          rw [e, e2]
                          rfl
                        · refine ifF (decide_eq_false hm) ⟨?_, rfl⟩
                          have e2 : wideI p i j = false := by unfold wideI; rw [decide_eq_true hp, decide_eq_false hm]; rfl
                          rw [e, e2]
                          rfl
                    · refine ifT (by rw [decide_eq_false j5]; rfl) ⟨?_, rfl⟩
                      rw [size_no2 (by rw [w15, decide_eq_false j5, Bool.and_false])]
                      rfl
                  · refine ifF (decide_eq_false j1) ⟨_, rfl, ifT rfl ⟨?_, rfl⟩⟩
                    rw [size_no2 (by rw [w15, decide_eq_false j1]; rfl)]
                    rfl
                · refine ifT (by rw [decide_eq_false i5]; rfl) ⟨?_, rfl⟩
                  rw [size_no1 (by rw [w15, decide_eq_false i5, Bool.and_false])]
                  rfl
              · refine ifF (decide_eq_false i1) ⟨_, rfl, ifT rfl ⟨?_, rfl⟩⟩
                rw [size_no1 (by rw [w15, decide_eq_false i1]; rfl)]
                rfl
            | _ => cases h2
          | _ => cases h1
        · refine ifT (by rw [not_true h2]; rfl) ⟨?_, rfl⟩
          rw [size_no2 (whole_ns h2)]
          rfl
      · refine ifT (by rw [not_true h1]; rfl) ⟨?_, rfl⟩
        rw [size_no1 (whole_ns h1)]
        rfl
    · rintro σ' H0 ⟨rfl, rfl⟩
      refine ⟨fun σ' H' => ∃ (G4 : Hp) (tv : V) (ee : Option V), σ' = [some (.ref fa), some (.int p), some x, some y, some (optS (sizeDue p r c)), some tv, some (optS (sizeDue p r c)), ee] ∧ Mv G H0 G4 H' ∧ Same H0 H' ∧ (sizeDue p r c = none → ∃ (i j : Nat) (t : Addr), tv = .ref t ∧ r = .int i ∧ c = .int j ∧ i ≤ 5 ∧ j ≤ 5 ∧ PairAt K CP C G4 t p (List.replicate i (List.replicate j (zeroD p))) (List.replicate i (List.replicate j (zeroD p))) i j), ?_, ?_⟩
      · refine ⟨_, rfl, _, rfl, _, rfl, G, fa, x, y, r, c, p, rfl, s, fig, hx, hy, fun sd es dd H4 s4 hdd => ?_, fun i j es er ec t G4 H4 m4 s4 pT => ?_⟩
        · refine ⟨true, xP, fun _ a2 ha2 => ?_, fun z => by cases z⟩
          refine ⟨_, rfl, rfl, rfl, dd, _, _, rfl, hdd, lk1, ?_⟩
          refine ⟨G, .non, none, ?_, Mv.of s s4, s4, fun z => by rw [es] at z; cases z⟩
          rw [es]
          rfl
        · obtain ⟨i', j', e1, e2, _, i5, _, j5, _⟩ := size_fine es
          rw [er] at e1
          rw [ec] at e2
          have i6 := PyData.int.inj e1
          have j6 := PyData.int.inj e2
          refine ⟨G4, .ref t, none, ?_, m4, s4, fun _ => ⟨i, j, t, rfl, er, ec, by omega, by omega, pT⟩⟩
          rw [es]
          rfl
      · rintro σ' H4 ⟨G4, tv, ee, rfl, m4, s4, htv⟩
        cases es : sizeDue p r c with
        | some sd =>
          refine ⟨_, rfl, rfl, _, rfl, ifT (by show (!decide (V.str sd = V.non)) = true; rw [decide_eq_false fun z => nomatch z]; rfl) ?_⟩
          refine ⟨_, rfl, _, rfl, rfl, ?_⟩
          rw [decide_eq_true rfl]
          exact kQ _ s4
        | none =>
          refine ⟨_, rfl, rfl, _, rfl, ifF isN ⟨_, rfl, rfl, _, rfl, ifF isN ?_⟩⟩
          obtain ⟨i, j, t, rfl, rfl, rfl, i5, j5, pT⟩ := htv es
          obtain rfl := dp_int hx
          obtain rfl := dp_int hy
          refine ⟨_, rfl, _, rfl, _, rfl, _, rfl, _, rfl, G4, p, i, j, rfl, op, m4.gh, i5, j5, fun v5 G5 H5 m5 s5 hd5 => ?_⟩
          refine ⟨_, rfl, _, rfl, _, rfl, G5, p, i, j, rfl, op, m5.gh, i5, j5, fun v6 G6 H6 m6 s6 hd6 => ?_⟩
          exact ⟨G6, p, t, v5, v6, _, _, i, j, rfl, m6.gh, pT.same (m5.gg.trans m6.gg), dp_same m6.gg _ _ hd5, hd6, fun H9 s9 => kQ H9 (((s4.trans s5).trans s6).trans s9)⟩
theorem sc_law : FnScope ["_law_script", "_law_hand_here", "_law_p", "_law_figures_here", "_law_rows", "_law_columns", "_law_first", "_law_second", "_law_pair", "_law_turn", "_law_odd_here"] ["_law_script"] (defScope (top 66)) := ⟨rfl, rfl, rfl, by decide +kernel, rfl, by decide +kernel, by decide +kernel⟩
theorem ok_law (F : FnP K "law" (top 66) [] f fd) (tx : Bn mg) (fg : Fg K C) {fH : Addr} {fdH : FuncData} (GH : FnOk P w K mg base CX0 1 fH fdH ["_law_script"] (spHand K)) (mH : mg "_law_hand" = some (.ref fH)) (kpH : PySem.W.keepIn K (.ref fH) = true) (bH : L2.Binds K fdH ["_law_script"] []) {fT : Addr} {fdT : FuncData} (GT : FnOk P w K mg base CX0 2 fT fdT ["_law_hand_here", "_law_many"] spTake) (mT : mg "_law_take" = some (.ref fT)) (kpT : PySem.W.keepIn K (.ref fT) = true) (bT : L2.Binds K fdT ["_law_hand_here", "_law_many"] []) {fF : Addr} {fdF : FuncData} (GF : FnOk P w K mg base CX0 3 fF fdF ["_law_hand_here"] spFig) (mF : mg "_law_figures" = some (.ref fF)) (kpF : PySem.W.keepIn K (.ref fF) = true) (bF : L2.Binds K fdF ["_law_hand_here"] []) {fS : Addr} {fdS : FuncData} (GS : FnOk P w K mg base CX0 3 fS fdS ["_law_hand_here", "_law_p", "_law_most"] spSize) (mS : mg "_law_size" = some (.ref fS)) (kpS : PySem.W.keepIn K (.ref fS) = true) (bS : L2.Binds K fdS ["_law_hand_here", "_law_p", "_law_most"] []) {fR : Addr} {fdR : FuncData} (GR : FnOk P w K mg base CX0 4 fR fdR ["_law_hand_here", "_law_p", "_law_rows", "_law_columns"] (spFree K)) (mR : mg "_law_free" = some (.ref fR)) (kpR : PySem.W.keepIn K (.ref fR) = true) (bR : L2.Binds K fdR ["_law_hand_here", "_law_p", "_law_rows", "_law_columns"] []) (MI : Mk K C fI) (GI : FnOk P w K mg base (L2.CX P w) 3 fI fdI ["self", "prime"] (spInit K C cF)) (mC : mg "Figures" = some (.ref C)) (bI : L2.Binds K fdI ["self", "prime"] []) (MP : Mk K CP fP) (GP : FnOk P w K mg base (L2.CX P w) 6 fP fdP ["self", "figures", "first", "second"] (spPair K CP C cT cP)) (mP : mg "Pair" = some (.ref CP)) (bP : L2.Binds K fdP ["self", "figures", "first", "second"] []) {fU : Addr} {fdU : FuncData} (GU : FnOk P w K mg base CX0 9 fU fdU ["_law_hand_here", "_law_p", "_law_pair", "_law_first", "_law_second"] (spCutA K CP C)) (mU : mg "_law_cut_asked" = some (.ref fU)) (kpU : PySem.W.keepIn K (.ref fU) = true) (bU : L2.Binds K fdU ["_law_hand_here", "_law_p", "_law_pair", "_law_first", "_law_second"] []) {fA : Addr} {fdA : FuncData} (GA : FnOk P w K mg base CX0 6 fA fdA ["_law_hand_here", "_law_figures_here", "_law_p", "_law_pair", "_law_first", "_law_second"] (spAnsA K CP C)) (mA : mg "_law_answers_asked" = some (.ref fA)) (kpA : PySem.W.keepIn K (.ref fA) = true) (bA : L2.Binds K fdA ["_law_hand_here", "_law_figures_here", "_law_p", "_law_pair", "_law_first", "_law_second"] []) {fZ : Addr} {fdZ : FuncData} (GZ : FnOk P w K mg base CX0 9 fZ fdZ ["_law_figures_here", "_law_p", "_law_rows", "_law_columns"] (spZeroA K C)) (mZ : mg "_law_zero_asked" = some (.ref fZ)) (kpZ : PySem.W.keepIn K (.ref fZ) = true) (bZ : L2.Binds K fdZ ["_law_figures_here", "_law_p", "_law_rows", "_law_columns"] []) {fQ : Addr} {fdQ : FuncData} (GQ : FnOk P w K mg base CX0 2 fQ fdQ ["_law_p", "_law_pair", "_law_first", "_law_second"] (spIsP K CP C)) (mQ : mg "_law_is_pair" = some (.ref fQ)) (kpQ : PySem.W.keepIn K (.ref fQ) = true) (bQ : L2.Binds K fdQ ["_law_p", "_law_pair", "_law_first", "_law_second"] []) : FnOk P w K mg base CX0 10 f fd ["_law_script"] (spLaw K) := by
  refine F.ok sc_law (fun vs H Q E h => ?_) (fun cdv A outer s H vs Q E hr h => ?_)
  · obtain ⟨s, ns, rfl, _⟩ := h; rfl
  · obtain ⟨s, ns, rfl, hS, hlen, kk⟩ := h
    have hrH : Room 1 _ := hr.mono (by decide)
    have hrT : Room 2 _ := hr.mono (by decide)
    have hrF : Room 3 _ := hr.mono (by decide)
    have hrS : Room 3 _ := hr.mono (by decide)
    have hrR : Room 4 _ := hr.mono (by decide)
    have hrI : Room (3 + 1) _ := hr.mono (by decide)
    have hrP : Room (6 + 1) _ := hr.mono (by decide)
    have hrU : Room 9 _ := hr
    have hrA : Room 6 _ := hr.mono (by decide)
    have hrZ : Room 9 _ := hr
    have hrQ : Room 2 _ := hr.mono (by decide)
    refine ⟨_, PSs.nox (pss_cons (ps_set (i := 1) sc_law.nd rfl (Or.inl rfl) (pe_call GH hrH (by rfl) mH kpH bH .nil pass0 (pa_cons (pv 0) pa_nil)))
      (pss_cons (ps_set (i := 2) sc_law.nd rfl (Or.inl rfl) (pe_call GF hrF (by rfl) mF kpF bF .nil pass0 (pa_cons (pv 1) pa_nil)))
      (pss_cons (ps_set (i := 3) sc_law.nd rfl (Or.inl rfl) (pe_make MI GI hrI (by rfl) mC bI .nil passN (pa_cons (pv 2) pa_nil)))
      (pss_cons (ps_set (i := 4) sc_law.nd rfl (Or.inl rfl) (pe_call GS hrS (by rfl) mS kpS bS .nil pass0 (pa_cons (pv 1) (pa_cons (pv 2) (pa_cons pe_int pa_nil)))))
      (pss_cons (ps_set (i := 5) sc_law.nd rfl (Or.inl rfl) (pe_call GS hrS (by rfl) mS kpS bS .nil pass0 (pa_cons (pv 1) (pa_cons (pv 2) (pa_cons pe_int pa_nil)))))
      (pss_cons (ps_set (i := 6) sc_law.nd rfl (Or.inl rfl) (pe_call GR hrR (by rfl) mR kpR bR .nil pass0 (pa_cons (pv 1) (pa_cons (pv 2) (pa_cons (pv 4) (pa_cons (pv 5) pa_nil))))))
      (pss_cons (ps_set (i := 7) sc_law.nd rfl (Or.inl rfl) (pe_call GR hrR (by rfl) mR kpR bR .nil pass0 (pa_cons (pv 1) (pa_cons (pv 2) (pa_cons (pv 4) (pa_cons (pv 5) pa_nil))))))
      (pss_cons (ps_set (i := 8) sc_law.nd rfl (Or.inl rfl) (pe_make MP GP hrP (by rfl) mP bP .nil passN (pa_cons (pv 3) (pa_cons (pv 6) (pa_cons (pv 7) pa_nil)))))
      (pss_cons (ps_for PassesOwn.never rfl (pi_range1 (by rfl) tx.range (pa_cons pe_int pa_nil)) (pg_name (i := 9) sc_law.nd rfl (Or.inl rfl)) (pss_one (ps_if (PW.pt (pw_or (pt_not (pt_val (pe_call GU hrU (by rfl) mU kpU bU .nil pass0 (pa_cons (pv 1) (pa_cons (pv 2) (pa_cons (pv 8) (pa_cons (pv 6) (pa_cons (pv 7) pa_nil)))))))) (pw_or1 (pt_not (pt_val (pe_call GA hrA (by rfl) mA kpA bA .nil pass0 (pa_cons (pv 1) (pa_cons (pv 3) (pa_cons (pv 2) (pa_cons (pv 8) (pa_cons (pv 6) (pa_cons (pv 7) pa_nil)))))))))))) (pss_one (ps_ret pe_bl)) pss_nil)))
      (pss_cons (ps_set (i := 10) sc_law.nd rfl (Or.inl rfl) (pe_tup (pa_cons pe_int (pa_cons (pe_un un_neg pe_int) (pa_cons pe_int (pa_cons pe_bl (pa_cons pe_non (pa_cons pe_str (pa_cons pe_int (pa_cons pe_int (pa_cons pe_int (pa_cons pe_int (pa_cons pe_int pa_nil)))))))))))))
      (pss_cons (ps_if (pt_not (pt_val (pe_call GZ hrZ (by rfl) mZ kpZ bZ .nil pass0 (pa_cons (pv 3) (pa_cons (pv 2) (pa_cons (pe_ix ix_tup (pv 10) (pe_call GT hrT (by rfl) mT kpT bT .nil pass0 (pa_cons (pv 1) (pa_cons pe_int pa_nil))) (fun _ _ => rfl)) (pa_cons (pe_ix ix_tup (pv 10) (pe_call GT hrT (by rfl) mT kpT bT .nil pass0 (pa_cons (pv 1) (pa_cons pe_int pa_nil))) (fun _ _ => rfl)) pa_nil))))))) (pss_one (ps_ret pe_bl)) pss_nil)
      (pss_cons (ps_if (pt_not (pt_val (pe_call GZ hrZ (by rfl) mZ kpZ bZ .nil pass0 (pa_cons (pv 3) (pa_cons (pv 2) (pa_cons (pe_op op_add pe_int (pe_call GT hrT (by rfl) mT kpT bT .nil pass0 (pa_cons (pv 1) (pa_cons pe_int pa_nil)))) (pa_cons (pe_op op_add pe_int (pe_call GT hrT (by rfl) mT kpT bT .nil pass0 (pa_cons (pv 1) (pa_cons pe_int pa_nil)))) pa_nil))))))) (pss_one (ps_ret pe_bl)) pss_nil)
      (pss_one (ps_ret (pe_call GQ hrQ (by rfl) mQ kpQ bQ .nil pass0 (pa_cons (pv 2) (pa_cons (pv 8) (pa_cons (pv 6) (pa_cons (pv 7) pa_nil))))))))))))))))))), ?_⟩
    refine ⟨_, rfl, s, ns, rfl, hS, hlen, fun a c cs t0 H1 s1 h1 => ?_⟩
    refine ⟨_, rfl, a, c, cs, rfl, ⟨_, _, _, h1⟩, fun p H2 op b2 hd2 => ?_⟩
    refine ⟨_, rfl, fun F dx hF0 hdx hne => ?_⟩
    refine ⟨F, dx, .int p, .int p, rfl, upd_same, .int p, fun no => absurd op (no _ rfl), fun p' e op' H3 k3 f3 => ⟨rfl, ?_⟩⟩
    obtain rfl := PyData.int.inj e
    have s3 : Same H2 H3 := fun b u e => by
      have n1 := ne_of_none e hF0
      refine k3 b u n1 ?_
      rw [upd_ne n1, upd_ne (ne_of_none e hdx)]
      exact e
    have hd3 := hd2.same s3
    have fig := fig_out f3 hd3
    have hw : Hw a c cs (Out a H3) H3 := ⟨out_same, hd3, out_none⟩
    generalize Out a H3 = G at fig hw
    refine ⟨_, rfl, _, rfl, a, c, cs, p, rfl, op, hd3, fun r' H4 ⟨r1, r5, rp⟩ b4 hd4 => ?_⟩
    obtain ⟨r, rfl⟩ : ∃ r : Nat, r' = (r : Int) := ⟨r'.toNat, by omega⟩
    have m4 := hw.but b4 hd4
    refine ⟨_, rfl, _, rfl, a, c, cs, p, rfl, op, hd4, fun k' H5 ⟨k1, k5, kp⟩ b5 hd5 => ?_⟩
    obtain ⟨k, rfl⟩ : ∃ k : Nat, k' = (k : Int) := ⟨k'.toNat, by omega⟩
    have w4 := hw.mv m4 hd4
    have m5 := m4.trans (w4.but b5 hd5)
    have w5 := hw.mv m5 hd5
    have fit : Fit p r k := fun hp => ⟨rp hp, kp hp⟩
    refine ⟨_, rfl, _, rfl, _, rfl, _, rfl, G, a, c, cs, p, r, k, rfl, op, w5, by omega, by omega, by omega, by omega, fun v1 d1 G6 H6 ⟨T1, e1, t1, tm1⟩ m6 b6 hd6 dv1 => ?_⟩
    subst e1
    have w6 := w5.mv m6 hd6
    refine ⟨_, rfl, _, rfl, _, rfl, _, rfl, G6, a, c, cs, p, r, k, rfl, op, w6, by omega, by omega, by omega, by omega, fun v2 d2 G7 H7 ⟨T2, e2, t2, tm2⟩ m7 b7 hd7 dv2 => ?_⟩
    subst e2
    have w7 := w6.mv m7 hd7
    have dv1' := dp_same m7.gg _ _ dv1
    have fig7 := fig.same (m6.gg.trans m7.gg)
    have pf := pair_fineL t1 t2 fit
    refine ⟨_, rfl, _, rfl, _, rfl, fun pa pdx nq ndq ne => ?_⟩
    have sq : Same H7 (upd (upd H7 pdx (.own pa)) pa (.ins CP pdx [])) := (same_new ndq).trans (same_new (by rw [upd_ne ne.symm]; exact nq))
    refine ⟨G7, pa, pdx, F, v1, v2, _, _, p, rfl, upd_same, w7.s.trans sq, old_none w7.s nq, fig7, dv1', dv2, len1_L t1, len1_L t2, (fun i w e => by rw [pf] at e; cases e), (fun w e => by rw [pf] at e; cases e), fun _ G8 H8 u1 u2 r2 c2 m8 kp8 hq8 e1 e2 f1 f2 => ⟨rfl, ?_⟩⟩
    rw [tabOf_L] at e1 e2 f1 f2
    have er1 : r2 = r := f1.lr.symm.trans t1.lr
    have ec1 : c2 = k := (cols_tab f1).symm.trans (cols_tab t1)
    subst er1 ec1
    have m9 := made_pair w7.s nq ndq ne m8 hq8
    have s9 := made_same nq ndq kp8
    have gn : G8 pa = none := m8.no (some_ne upd_same) (old_none w7.s nq)
    have sn := same_new (o := .ins CP pdx (pfl F u1 u2 r2 c2)) gn
    have pT : PairAt K CP C (upd G8 pa (.ins CP pdx (pfl F u1 u2 r2 c2))) pa p T1 T2 r2 c2 := ⟨⟨F, pdx, u1, u2, upd_same, fig7.same m9.gg, dp_same sn _ _ e1, dp_same sn _ _ e2⟩, f1, f2⟩
    have w9 := w7.mv m9 (hd7.same s9)
    have dA := dp_same m9.gg _ _ dv1'
    have dB := dp_same m9.gg _ _ dv2
    have fig9 := fig7.same m9.gg
    generalize upd G8 pa (.ins CP pdx (pfl F u1 u2 r2 c2)) = G9 at m9 pT w9 dA dB fig9
    clear m8 kp8 hq8 e1 e2 gn sn m9 s9 nq ndq ne sq fig7 dv1' w7 m7 b7 hd7 dv2 w6 m6 b6 hd6 dv1 w5 m5 w4 m4 k3 hF0 hdx hne h1 s1
    refine ⟨2, rfl, by decide, by decide, for_it (walk_range (lo := 0) (n := 2)) (fun i σ H' => (∃ u, σ = [some (.ref s), some (.ref a), some (.int p), some (.ref F), some (.int (r2 : Nat)), some (.int (c2 : Nat)), some v1, some v2, some (.ref pa), u, none]) ∧ Hw a c cs G9 H') ⟨⟨none, rfl⟩, w9⟩ (fun _ _ _ _ _ => trivial) ?_ ?_⟩
    · rintro i z σ H' H'' hi ⟨⟨u, rfl⟩, wi⟩ ⟨rfl, rfl⟩
      refine ⟨_, rfl, _, rfl, _, rfl, _, rfl, _, rfl, G9, a, c, cs, p, pa, v1, v2, T1, T2, r2, c2, rfl, op, wi, pT, fit, dA, dB, fun H10 b10 hd10 => ⟨_, rfl, ifF rfl ?_⟩⟩
      have w10 := wi.mv (wi.but b10 hd10) hd10
      refine ⟨_, rfl, _, rfl, _, rfl, _, rfl, _, rfl, _, rfl, G9, a, c, cs, p, F, pa, v1, v2, T1, T2, r2, c2, rfl, op, w10, fig9, pT, dA, dB, tm1, tm2, fun H11 b11 hd11 => ⟨_, rfl, ifF rfl ?_⟩⟩
      exact ⟨⟨_, rfl⟩, w10.mv (w10.but b11 hd11) hd11⟩
    · rintro σ H' ⟨⟨u, rfl⟩, wi⟩
      refine ⟨_, rfl, by show 11 ≤ sizeLine; decide, fun qo hqo => ?_⟩
      have mo := Mv.new (o := .tup [.int 0, .int (-1), .int 6, .bl true, .non, .str "2", .int 1, .int 2, .int 3, .int 4, .int 5]) wi.s hqo
      have wo := wi.mv mo (wi.h.same (same_new hqo))
      have hqo2 : (upd G9 qo (.tup [.int 0, .int (-1), .int 6, .bl true, .non, .str "2", .int 1, .int 2, .int 3, .int 4, .int 5])) qo = some (.tup [.int 0, .int (-1), .int 6, .bl true, .non, .str "2", .int 1, .int 2, .int 3, .int 4, .int 5]) := upd_same
      have pTo := pT.same mo.gg
      have figo := fig9.same mo.gg
      have dAo := dp_same mo.gg _ _ dA
      have dBo := dp_same mo.gg _ _ dB
      generalize upd G9 qo (.tup [.int 0, .int (-1), .int 6, .bl true, .non, .str "2", .int 1, .int 2, .int 3, .int 4, .int 5]) = G10 at mo wo hqo2 pTo figo dAo dBo
      generalize upd H' qo (.tup [.int 0, .int (-1), .int 6, .bl true, .non, .str "2", .int 1, .int 2, .int 3, .int 4, .int 5]) = H10 at mo wo
      obtain ⟨i1, j1, u1, hh1⟩ := id wo.h
      refine ⟨_, rfl, _, rfl, _, rfl, _, rfl, a, c, cs, _, _, _, 11, rfl, hh1, by decide, by decide, fun ra _ _ _ Ha ra0 ra1 bHa hHa => ?_⟩
      have wa := wo.mv (wo.but bHa ⟨_, _, _, hHa⟩) ⟨_, _, _, hHa⟩
      obtain ⟨va, da, ea, dva⟩ := pick11 (K := K) (G := G10) ra0 ra1
      refine ⟨qo, _, ra, va, rfl, rfl, SqT.of (wa.s _ _ hqo2), ea, ?_⟩
      refine ⟨_, rfl, _, rfl, a, c, cs, _, _, _, 11, rfl, hHa, by decide, by decide, fun rb _ _ _ Hb rb0 rb1 bHb hHb => ?_⟩
      have wb := wa.mv (wa.but bHb ⟨_, _, _, hHb⟩) ⟨_, _, _, hHb⟩
      obtain ⟨vb, db, eb, dvb⟩ := pick11 (K := K) (G := G10) rb0 rb1
      refine ⟨qo, _, rb, vb, rfl, rfl, SqT.of (wb.s _ _ hqo2), eb, ?_⟩
      refine ⟨G10, p, F, va, vb, da, db, rfl, op, wb.s, figo, dva, dvb, fun Hc sc => ⟨_, rfl, ifF rfl ?_⟩⟩
      have wc := wb.mv (Mv.of wb.s sc) (wb.h.same sc)
      obtain ⟨i2, j2, u2, hh2⟩ := id wc.h
      refine ⟨_, rfl, _, rfl, _, rfl, a, c, cs, _, _, _, 5, rfl, hh2, by decide, by decide, fun rd _ _ _ Hd2 rd0 rd1 bHd2 hHd2 => ⟨_, _, rfl, rfl, ?_⟩⟩
      have wd := wc.mv (wc.but bHd2 ⟨_, _, _, hHd2⟩) ⟨_, _, _, hHd2⟩
      refine ⟨_, rfl, a, c, cs, _, _, _, 5, rfl, hHd2, by decide, by decide, fun re _ _ _ He2 re0 re1 bHe2 hHe2 => ⟨_, _, rfl, rfl, ?_⟩⟩
      have we := wd.mv (wd.but bHe2 ⟨_, _, _, hHe2⟩) ⟨_, _, _, hHe2⟩
      refine ⟨G10, p, F, _, _, .int (1 + rd), .int (1 + re), rfl, op, we.s, figo, .int _, .int _, fun Hf sf => ⟨_, rfl, ifF rfl ?_⟩⟩
      exact ⟨_, rfl, _, rfl, _, rfl, _, rfl, G10, p, pa, v1, v2, T1, T2, r2, c2, rfl, we.s.trans sf, pTo, dAo, dBo, fun Hg sg => kk Hg⟩
end
end Lg
namespace Lx
open PySem PySem.Spec PyProof.Rows L2 Kx Kf

open Ra (top)
def globs : List Str := (["is_whole", "is_sequence", "is_ratio", "in_lowest_terms", "over_one_bottom", "summed_wholes", "zero_row", "summed_products", "whole_line", "summed_lines", "column_led", "fits_count", "check_table", "all_are_numbers", "check_letters", "check_width", "check_sizes", "check_kept", "zero_pair", "kept_table"] : List Str) ++ (["OFFERED", "Figures", "Pair", "PairError", "BadFigures", "BadPair", "BadTable", "BadLetters", "BadKept"] : List Str)
def laws : List Str := (["_law_hand", "_law_mixed", "_law_take", "_law_gcd", "_law_ratio", "_law_num", "_law_plus", "_law_times", "_law_blank", "_law_dot", "_law_tuple", "_law_figures", "_law_number", "_law_size", "_law_free", "_law_whole"] : List Str) ++ (["_law_is_number", "_law_odd", "_law_is_pair", "_law_kept_due", "_law_kept", "_law_cut_asked", "_law_letters_due", "_law_letters", "_law_answers_asked", "_law_zero_asked", "law"] : List Str)
def frees : List Str := ["len", "int", "abs", "isinstance", "bool", "tuple", "list", "range", "zip", "enumerate", "min", "max", "sum", "all", "ValueError"]
def figM : List Str := ["is_number"]
def pairM : List Str := ["cut_out", "answers"]
def glB (K : PySem.W.Frag) (x : Str) : Bool := (He.Fa.glo x).ok K
def frB (K : PySem.W.Frag) (x : Str) : Bool := (He.Fa.free x).ok K
def gtB (K : PySem.W.Frag) : Bool := He.eqO (PySem.W.specialIn K (.builtin "object.__class__") "__get__") (some (some (.builtin "getset_descriptor.__get__"))) && decide (PySem.W.takesIn K (.builtin "object.__class__") = some true)
def initB (K : PySem.W.Frag) (x f : Str) : Bool := He.eqO (PySem.W.findIn K (.ref (He.ga K x)) "__init__") (some (some (.ref (He.ma K (He.ga K x) "__init__")))) && (decide (PySem.W.typeIn K (.ref (He.ma K (He.ga K x) "__init__")) = some (.type "function")) && He.eqO (PySem.W.findIn K (.ref (He.ga K x)) f) (some none))
def init2B (K : PySem.W.Frag) (x f g : Str) : Bool := initB K x f && He.eqO (PySem.W.findIn K (.ref (He.ga K x)) g) (some none)
def exB (K : PySem.W.Frag) (x y : Str) : Bool := decide (PySem.W.exmOne K (.ref (He.ga K x)) (.ref (He.ga K y)) = some true)
def kiB (K : PySem.W.Frag) (x y : Str) (b : Bool) : Bool := decide (PySem.W.kitOne K (.ref (He.ga K x)) (.ref (He.ga K y)) = some b)
def clsB (K : PySem.W.Frag) (x : Str) (as ms : List Str) : Bool := (He.Fa.cls x).ok K && (as.all (fun f => (He.Fa.noat x f).ok K) && ((He.Fa.mkr x).ok K && ms.all (fun m => (He.Fa.meth x m).ok K)))
def figB (K : PySem.W.Frag) : Bool := clsB K "Figures" ["prime", "zero", "one"] figM && (He.eqO (PySem.W.findIn K (.ref (He.ga K "Figures")) "__class__") (some (some (.builtin "object.__class__"))) && (decide (PySem.W.mroIn K (He.ga K "Figures") (.type "object") = some true) && kiB K "Figures" "Figures" true))
def errB (K : PySem.W.Frag) : Bool := (["BadFigures", "BadPair", "BadTable", "BadLetters", "BadKept"] : List Str).all (fun x => erB K (He.ga K "PairError") (He.ga K x) && exB K x x)
def iniB (K : PySem.W.Frag) : Bool := initB K "BadFigures" "prime" && (initB K "BadPair" "what" && (init2B K "BadTable" "index" "what" && (init2B K "BadLetters" "what" "index" && (init2B K "BadKept" "what" "index"))))
def offD : List He.Dv := [.int 0, .int 2, .int 3, .int 5, .int 7, .int 11, .int 13]
def gcdB (K : PySem.W.Frag) : Bool := He.eqO (PySem.W.nsIn K mainGlobals "gcd") (some (some (.builtin "math.gcd")))
def ck (K : PySem.W.Frag) : Bool := laws.all (glB K) && (globs.all (glB K) && (frees.all (frB K) && (gtB K && (figB K && (clsB K "Pair" ["figures", "first", "second", "rows", "columns"] pairM && (errB K && (iniB K && (He.tupB K "OFFERED" offD && ((He.Fa.int "MOST_ROWS" 5).ok K && gcdB K)))))))))
def fn0 : List He.DefD := [⟨("is_whole", none), "is_whole", "is_whole", defArgs (top 10), defBody (top 10), defScope (top 10), [.non, .non], []⟩,
  ⟨("is_sequence", none), "is_sequence", "is_sequence", defArgs (top 11), defBody (top 11), defScope (top 11), [], []⟩,
  ⟨("is_ratio", none), "is_ratio", "is_ratio", defArgs (top 12), defBody (top 12), defScope (top 12), [], []⟩,
  ⟨("in_lowest_terms", none), "in_lowest_terms", "in_lowest_terms", defArgs (top 13), defBody (top 13), defScope (top 13), [], []⟩,
  ⟨("over_one_bottom", none), "over_one_bottom", "over_one_bottom", defArgs (top 15), defBody (top 15), defScope (top 15), [], []⟩,
  ⟨("summed_wholes", none), "summed_wholes", "summed_wholes", defArgs (top 16), defBody (top 16), defScope (top 16), [], []⟩,
  ⟨("zero_row", none), "zero_row", "zero_row", defArgs (top 18), defBody (top 18), defScope (top 18), [], []⟩,
  ⟨("summed_products", none), "summed_products", "summed_products", defArgs (top 19), defBody (top 19), defScope (top 19), [], []⟩,
  ⟨("whole_line", none), "whole_line", "whole_line", defArgs (top 20), defBody (top 20), defScope (top 20), [], []⟩,
  ⟨("summed_lines", none), "summed_lines", "summed_lines", defArgs (top 21), defBody (top 21), defScope (top 21), [], []⟩,
  ⟨("column_led", none), "column_led", "column_led", defArgs (top 22), defBody (top 22), defScope (top 22), [], []⟩,
  ⟨("fits_count", none), "fits_count", "fits_count", defArgs (top 25), defBody (top 25), defScope (top 25), [], []⟩,
  ⟨("check_table", none), "check_table", "check_table", defArgs (top 26), defBody (top 26), defScope (top 26), [.non, .non], []⟩,
  ⟨("all_are_numbers", none), "all_are_numbers", "all_are_numbers", defArgs (top 27), defBody (top 27), defScope (top 27), [], []⟩,
  ⟨("check_letters", none), "check_letters", "check_letters", defArgs (top 28), defBody (top 28), defScope (top 28), [], []⟩]
def fn1 : List He.DefD := [⟨("check_width", none), "check_width", "check_width", defArgs (top 30), defBody (top 30), defScope (top 30), [], []⟩,
  ⟨("check_sizes", none), "check_sizes", "check_sizes", defArgs (top 31), defBody (top 31), defScope (top 31), [], []⟩,
  ⟨("check_kept", none), "check_kept", "check_kept", defArgs (top 32), defBody (top 32), defScope (top 32), [], []⟩,
  ⟨("zero_pair", none), "zero_pair", "zero_pair", defArgs (top 33), defBody (top 33), defScope (top 33), [], []⟩,
  ⟨("kept_table", none), "kept_table", "kept_table", defArgs (top 35), defBody (top 35), defScope (top 35), [], []⟩,
  ⟨("_law_hand", none), "_law_hand", "_law_hand", defArgs (top 40), defBody (top 40), defScope (top 40), [], []⟩,
  ⟨("_law_mixed", none), "_law_mixed", "_law_mixed", defArgs (top 41), defBody (top 41), defScope (top 41), [], []⟩,
  ⟨("_law_take", none), "_law_take", "_law_take", defArgs (top 42), defBody (top 42), defScope (top 42), [], []⟩,
  ⟨("_law_gcd", none), "_law_gcd", "_law_gcd", defArgs (top 43), defBody (top 43), defScope (top 43), [], []⟩,
  ⟨("_law_ratio", none), "_law_ratio", "_law_ratio", defArgs (top 44), defBody (top 44), defScope (top 44), [], []⟩,
  ⟨("_law_num", none), "_law_num", "_law_num", defArgs (top 45), defBody (top 45), defScope (top 45), [], []⟩,
  ⟨("_law_plus", none), "_law_plus", "_law_plus", defArgs (top 46), defBody (top 46), defScope (top 46), [], []⟩,
  ⟨("_law_times", none), "_law_times", "_law_times", defArgs (top 47), defBody (top 47), defScope (top 47), [], []⟩,
  ⟨("_law_blank", none), "_law_blank", "_law_blank", defArgs (top 48), defBody (top 48), defScope (top 48), [], []⟩,
  ⟨("_law_dot", none), "_law_dot", "_law_dot", defArgs (top 49), defBody (top 49), defScope (top 49), [], []⟩]
def fn2 : List He.DefD := [⟨("_law_tuple", none), "_law_tuple", "_law_tuple", defArgs (top 50), defBody (top 50), defScope (top 50), [], []⟩,
  ⟨("_law_figures", none), "_law_figures", "_law_figures", defArgs (top 51), defBody (top 51), defScope (top 51), [], []⟩,
  ⟨("_law_number", none), "_law_number", "_law_number", defArgs (top 52), defBody (top 52), defScope (top 52), [], []⟩,
  ⟨("_law_size", none), "_law_size", "_law_size", defArgs (top 53), defBody (top 53), defScope (top 53), [], []⟩,
  ⟨("_law_free", none), "_law_free", "_law_free", defArgs (top 54), defBody (top 54), defScope (top 54), [], []⟩,
  ⟨("_law_whole", none), "_law_whole", "_law_whole", defArgs (top 55), defBody (top 55), defScope (top 55), [], []⟩,
  ⟨("_law_is_number", none), "_law_is_number", "_law_is_number", defArgs (top 56), defBody (top 56), defScope (top 56), [], []⟩,
  ⟨("_law_odd", none), "_law_odd", "_law_odd", defArgs (top 57), defBody (top 57), defScope (top 57), [], []⟩,
  ⟨("_law_is_pair", none), "_law_is_pair", "_law_is_pair", defArgs (top 58), defBody (top 58), defScope (top 58), [], []⟩,
  ⟨("_law_kept_due", none), "_law_kept_due", "_law_kept_due", defArgs (top 59), defBody (top 59), defScope (top 59), [], []⟩,
  ⟨("_law_kept", none), "_law_kept", "_law_kept", defArgs (top 60), defBody (top 60), defScope (top 60), [], []⟩,
  ⟨("_law_cut_asked", none), "_law_cut_asked", "_law_cut_asked", defArgs (top 61), defBody (top 61), defScope (top 61), [], []⟩,
  ⟨("_law_letters_due", none), "_law_letters_due", "_law_letters_due", defArgs (top 62), defBody (top 62), defScope (top 62), [], []⟩,
  ⟨("_law_letters", none), "_law_letters", "_law_letters", defArgs (top 63), defBody (top 63), defScope (top 63), [], []⟩,
  ⟨("_law_answers_asked", none), "_law_answers_asked", "_law_answers_asked", defArgs (top 64), defBody (top 64), defScope (top 64), [], []⟩]
def fn3 : List He.DefD := [⟨("_law_zero_asked", none), "_law_zero_asked", "_law_zero_asked", defArgs (top 65), defBody (top 65), defScope (top 65), [], []⟩,
  ⟨("law", none), "law", "law", defArgs (top 66), defBody (top 66), defScope (top 66), [], []⟩,
  ⟨("Pair", some "__init__"), "__init__", "Pair.__init__", defArgs (inClass (top 34) 0), defBody (inClass (top 34) 0), defScope (inClass (top 34) 0), [], []⟩,
  ⟨("Pair", some "cut_out"), "cut_out", "Pair.cut_out", defArgs (inClass (top 34) 7), defBody (inClass (top 34) 7), defScope (inClass (top 34) 7), [], []⟩,
  ⟨("Pair", some "answers"), "answers", "Pair.answers", defArgs (inClass (top 34) 8), defBody (inClass (top 34) 8), defScope (inClass (top 34) 8), [], []⟩,
  ⟨("Figures", some "__init__"), "__init__", "Figures.__init__", defArgs (inClass (top 38) 0), defBody (inClass (top 38) 0), defScope (inClass (top 38) 0), [], []⟩,
  ⟨("Figures", some "is_number"), "is_number", "Figures.is_number", defArgs (inClass (top 38) 10), defBody (inClass (top 38) 10), defScope (inClass (top 38) 10), [], []⟩,
  ⟨("BadFigures", some "__init__"), "__init__", "BadFigures.__init__", defArgs (inClass (top 4) 0), defBody (inClass (top 4) 0), defScope (inClass (top 4) 0), [], []⟩,
  ⟨("BadPair", some "__init__"), "__init__", "BadPair.__init__", defArgs (inClass (top 7) 0), defBody (inClass (top 7) 0), defScope (inClass (top 7) 0), [], []⟩,
  ⟨("BadTable", some "__init__"), "__init__", "BadTable.__init__", defArgs (inClass (top 5) 0), defBody (inClass (top 5) 0), defScope (inClass (top 5) 0), [], []⟩,
  ⟨("BadLetters", some "__init__"), "__init__", "BadLetters.__init__", defArgs (inClass (top 6) 0), defBody (inClass (top 6) 0), defScope (inClass (top 6) 0), [], []⟩,
  ⟨("BadKept", some "__init__"), "__init__", "BadKept.__init__", defArgs (inClass (top 8) 0), defBody (inClass (top 8) 0), defScope (inClass (top 8) 0), [], []⟩]
def fn : List He.DefD := fn0 ++ (fn1 ++ (fn2 ++ fn3))
def loose : List Str := (["_wall", "PairError", "BadFigures", "BadTable", "BadLetters", "BadPair", "BadKept", "is_whole", "is_sequence", "is_ratio", "in_lowest_terms", "over_one_bottom", "summed_wholes", "zero_row", "summed_products", "whole_line", "summed_lines", "column_led", "fits_count", "check_table", "all_are_numbers", "check_letters", "check_width", "check_sizes", "check_kept", "zero_pair", "Pair", "kept_table", "Figures", "_law_hand"] : List Str) ++ (["_law_mixed", "_law_take", "_law_gcd", "_law_ratio", "_law_num", "_law_plus", "_law_times", "_law_blank", "_law_dot", "_law_tuple", "_law_figures", "_law_number", "_law_size", "_law_free", "_law_whole", "_law_is_number", "_law_odd", "_law_is_pair", "_law_kept_due", "_law_kept", "_law_cut_asked", "_law_letters_due", "_law_letters", "_law_answers_asked", "_law_zero_asked", "OFFERED", "MOST_ROWS", "gcd"] : List Str)
abbrev R : PySem.W.OpenRow := PySem.W.OpenLaw.row PySem.Challenge.rw_sparedproducts_k63_whole_cut_outs_and_an
abbrev hk : PySem.W.Hook := hookX 4 ck fn
def ob (s : PySem.W.SharedT) : Bool × He.AlD := obX 4 ck fn (HandSHeadRun.getT s)
theorem ob_eq (s : PySem.W.SharedT) : ob s = hk.obs s.abs := obX_eq (HandSHeadRun.getT_eq s)
noncomputable def whl (w : World) := HandSHeadRun.wholeF (fun p => HandSHeadRun.stepQ (HandSHeadRun.denQ HandSHeadRun.tabQ) p w) HandSHeadRun.fenceQ 20000 R.prog
open HandSHeadRun PySem.W PySem.Calls PyProof.Rows in
theorem run1 (w : World) : (whl w).map (fun x => (looksF R.prog x.1.heap x.2.abs, seenQ (PySem.W.view R.prog [66]) loose (importedModules R.prog.main.body) (fun s => PySem.W.xlAt (PySem.W.view R.prog [66]) [] s && PySem.W.recOk R.toRowW.records s) x.2.abs)) = some (true, PySem.W.openGood (PySem.W.view R.prog [66]) loose) := by
  kernel_rfl
theorem run2 (w : World) : (whl w).map (fun x => ob x.2) = some (hk.val w) := by
  kernel_rfl
theorem both3 {α β γ δ : Type} {o : Option α} {f : α → β} {g : α → γ} {k : α → δ} {a : β} {b : γ} {c : δ} (h1 : o.map (fun x => (f x, g x)) = some (a, b)) (h2 : o.map k = some c) : o.map (fun x => (f x, g x, k x)) = some (a, b, c) := by
  cases o with
  | none => cases h1
  | some x =>
    have e1 : (f x, g x) = (a, b) := Option.some.inj h1
    have e2 : k x = c := Option.some.inj h2
    show some (f x, g x, k x) = some (a, b, c)
    rw [(Prod.mk.inj e1).1, (Prod.mk.inj e1).2, e2]
theorem run (w : World) : HandSHeadRun.RunEqI R (PySem.W.view R.prog [66]) hk ob 20000 loose w := by
  unfold HandSHeadRun.RunEqI
  exact both3 (run1 w) (run2 w)
end Lx
namespace Ly
open PySem PySem.Spec PyProof.Rows L2 Dz Ra Mt Kx Kf Ky Re Rb Rc Rd Gn Dn Do Vz Vp Va Vb Vc Vd Ve Lm La Lb Lc Ld Le Lf Lg Lx
open Kq (HandAt But spTake spHand ok_hand ok_take ok_mixed Tx)
theorem init1 {P : Program} {w : World} {K : PySem.W.Frag} {mg : Str → Option Value} {base : Heap} {gP C : Addr} {fd : FuncData} {x n : Str} (er : Er K gP C) (m : mg x = some (.ref C)) (c : initB K x n = true) (hC : C = He.ga K x)
    (G : FnOk P w K mg base CX0 1 (He.ma K (He.ga K x) "__init__") fd ["self", n] (spIn C 1 (fl1 n))) (b : L2.Binds K fd ["self", n] []) : Ei P w K mg base gP x n C := by
  subst hC
  obtain ⟨c1, c⟩ := He.ba c
  obtain ⟨c2, c3⟩ := He.ba c
  exact ⟨er, m, He.eqO_ok c3, _, _, He.eqO_ok c1, of_decide_eq_true c2, G, b⟩
theorem init2 {P : Program} {w : World} {K : PySem.W.Frag} {mg : Str → Option Value} {base : Heap} {gP C : Addr} {fd : FuncData} {x n n2 : Str} (er : Er K gP C) (m : mg x = some (.ref C)) (c : init2B K x n n2 = true) (hC : C = He.ga K x)
    (G : FnOk P w K mg base CX0 1 (He.ma K (He.ga K x) "__init__") fd ["self", n, n2] (spIn C 2 (fl2 n n2))) (b : L2.Binds K fd ["self", n, n2] []) : Ei2 P w K mg base gP x n n2 C := by
  subst hC
  obtain ⟨c, c4⟩ := He.ba c
  obtain ⟨c1, c⟩ := He.ba c
  obtain ⟨c2, c3⟩ := He.ba c
  exact ⟨er, m, He.eqO_ok c3, He.eqO_ok c4, _, _, He.eqO_ok c1, of_decide_eq_true c2, G, b⟩
theorem lenN {C : Addr} {n : Nat} {fl : List V → List (Str × V)} {vs : List V} {H : Hp} {Q : VK} {E : XK} (h : spIn C n fl vs H Q E) : vs.length = n + 1 := by
  obtain ⟨a, xs, rfl, hl, _⟩ := h
  rw [List.length_cons, hl]
theorem binds_table {K : PySem.W.Frag} {f : Addr} {fd : FuncData} (F : FnP K "check_table" (top 26) [.non, .non] f fd) : ∃ ds, Vals [.non, .non] ds ∧ L2.Binds K fd ["figures", "table", "rows", "columns"] ds := by
  refine F.binds1 2 0 (by simp) rfl fun T kV doc pm an cdv ct us its h1 h2 => ?_
  match us, its, h1, h2 with
  | [_, _], [_, _], _, _ => exact ⟨_, rfl, rfl⟩
theorem facts {P : Program} {w : World} {K : PySem.W.Frag} {h : Heap} {mg : Str → Option Value} {f : Addr} (X : K.In h) (G : h.Ns mainGlobals mg) (hfa : mg ("law" : Str) = some (.ref f)) (k : ck K = true) (c : He.SaysD [] Lx.fn K) :
    ∃ fd : FuncData, (∀ (s : Shared) (v : Value), BindsTo s fd ⟨[v], []⟩ [("_law_script", v)]) ∧ ∀ base : Heap, K.In base → base.Ns mainGlobals mg → FnOk P w K mg base CX0 10 f fd ["_law_script"] (Lg.spLaw K) := by
  obtain ⟨k1, k⟩ := He.ba k
  obtain ⟨k2, k⟩ := He.ba k
  obtain ⟨k3, k⟩ := He.ba k
  obtain ⟨k4, k⟩ := He.ba k
  obtain ⟨k5, k⟩ := He.ba k
  obtain ⟨k6, k⟩ := He.ba k
  obtain ⟨k7, k⟩ := He.ba k
  obtain ⟨k8, k⟩ := He.ba k
  obtain ⟨k9, k⟩ := He.ba k
  obtain ⟨k10, k11⟩ := He.ba k
  have ml : ∀ (i : Nat) (x : Str), laws[i]? = some x → mg x = some (.ref (He.ga K x)) := fun i x e => He.glo_ok X G (List.all_eq_true.mp k1 x (List.mem_of_getElem? e))
  have mm : ∀ (i : Nat) (x : Str), globs[i]? = some x → mg x = some (.ref (He.ga K x)) := fun i x e => He.glo_ok X G (List.all_eq_true.mp k2 x (List.mem_of_getElem? e))
  have fr : ∀ (i : Nat) (x : Str), Lx.frees[i]? = some x → mg x = none := fun i x e => He.free_ok X G (List.all_eq_true.mp k3 x (List.mem_of_getElem? e))
  have mgcd : mg "gcd" = some (.builtin "math.gcd") := PySem.W.mg_of X G (He.eqO_ok k11)
  obtain ⟨t5, mMost⟩ := He.int_ok X G k10
  have hO : ∀ H, SqT K H (He.ga K "OFFERED") offV := fun H => He.tupB_ok k9 H
  obtain ⟨g1, g2⟩ := He.ba k4
  obtain ⟨f0, k5⟩ := He.ba k5
  obtain ⟨f5, k5⟩ := He.ba k5
  obtain ⟨f6, f7⟩ := He.ba k5
  obtain ⟨f1, f0⟩ := He.ba f0
  obtain ⟨f2, f0⟩ := He.ba f0
  obtain ⟨f3, f4⟩ := He.ba f0
  have na : ∀ (i : Nat) (m : Str), (["prime", "zero", "one"] : List Str)[i]? = some m → NoAttr K (He.ga K "Figures") m := fun i m e => He.noat_ok (List.all_eq_true.mp f2 m (List.mem_of_getElem? e))
  have fg : Fg K (He.ga K "Figures") := ⟨He.cls_ok f1, na 0 _ rfl, na 1 _ rfl, na 2 _ rfl, He.eqO_ok f5, He.eqO_ok g1, of_decide_eq_true g2, of_decide_eq_true f6, of_decide_eq_true f7⟩
  have MI := He.mkr_ok f3
  have meF : ∀ (i : Nat) (m : Str), figM[i]? = some m → Meth K (He.ga K "Figures") m (He.ma K (He.ga K "Figures") m) := fun i m e => He.meth_ok (List.all_eq_true.mp f4 m (List.mem_of_getElem? e))
  obtain ⟨p1, k6⟩ := He.ba k6
  obtain ⟨p2, k6⟩ := He.ba k6
  obtain ⟨p3, p4⟩ := He.ba k6
  have nb : ∀ (i : Nat) (m : Str), (["figures", "first", "second", "rows", "columns"] : List Str)[i]? = some m → NoAttr K (He.ga K "Pair") m := fun i m e => He.noat_ok (List.all_eq_true.mp p2 m (List.mem_of_getElem? e))
  have pg : Pg K (He.ga K "Pair") := ⟨He.cls_ok p1, nb 0 _ rfl, nb 1 _ rfl, nb 2 _ rfl, nb 3 _ rfl, nb 4 _ rfl⟩
  have MP := He.mkr_ok p3
  have meP : ∀ (i : Nat) (m : Str), pairM[i]? = some m → Meth K (He.ga K "Pair") m (He.ma K (He.ga K "Pair") m) := fun i m e => He.meth_ok (List.all_eq_true.mp p4 m (List.mem_of_getElem? e))
  have ers : ∀ (i : Nat) (x : Str), (["BadFigures", "BadPair", "BadTable", "BadLetters", "BadKept"] : List Str)[i]? = some x → Er K (He.ga K "PairError") (He.ga K x) ∧ PySem.W.exmOne K (.ref (He.ga K x)) (.ref (He.ga K x)) = some true := fun i x e => by
    obtain ⟨z1, z2⟩ := He.ba (List.all_eq_true.mp k7 x (List.mem_of_getElem? e))
    exact ⟨erB_ok z1, of_decide_eq_true z2⟩
  obtain ⟨ini_BadFigures, k8⟩ := He.ba k8
  obtain ⟨ini_BadPair, k8⟩ := He.ba k8
  obtain ⟨ini_BadTable, k8⟩ := He.ba k8
  obtain ⟨ini_BadLetters, k8⟩ := He.ba k8
  have ini_BadKept := k8
  obtain ⟨fd_is_whole, D_is_whole⟩ := c.def_ 0 rfl
  obtain ⟨fd_is_sequence, D_is_sequence⟩ := c.def_ 1 rfl
  obtain ⟨fd_is_ratio, D_is_ratio⟩ := c.def_ 2 rfl
  obtain ⟨fd_in_lowest_terms, D_in_lowest_terms⟩ := c.def_ 3 rfl
  obtain ⟨fd_over_one_bottom, D_over_one_bottom⟩ := c.def_ 4 rfl
  obtain ⟨fd_summed_wholes, D_summed_wholes⟩ := c.def_ 5 rfl
  obtain ⟨fd_zero_row, D_zero_row⟩ := c.def_ 6 rfl
  obtain ⟨fd_summed_products, D_summed_products⟩ := c.def_ 7 rfl
  obtain ⟨fd_whole_line, D_whole_line⟩ := c.def_ 8 rfl
  obtain ⟨fd_summed_lines, D_summed_lines⟩ := c.def_ 9 rfl
  obtain ⟨fd_column_led, D_column_led⟩ := c.def_ 10 rfl
  obtain ⟨fd_fits_count, D_fits_count⟩ := c.def_ 11 rfl
  obtain ⟨fd_check_table, D_check_table⟩ := c.def_ 12 rfl
  obtain ⟨fd_all_are_numbers, D_all_are_numbers⟩ := c.def_ 13 rfl
  obtain ⟨fd_check_letters, D_check_letters⟩ := c.def_ 14 rfl
  obtain ⟨fd_check_width, D_check_width⟩ := c.def_ 15 rfl
  obtain ⟨fd_check_sizes, D_check_sizes⟩ := c.def_ 16 rfl
  obtain ⟨fd_check_kept, D_check_kept⟩ := c.def_ 17 rfl
  obtain ⟨fd_zero_pair, D_zero_pair⟩ := c.def_ 18 rfl
  obtain ⟨fd_kept_table, D_kept_table⟩ := c.def_ 19 rfl
  obtain ⟨fd__law_hand, D__law_hand⟩ := c.def_ 20 rfl
  obtain ⟨fd__law_mixed, D__law_mixed⟩ := c.def_ 21 rfl
  obtain ⟨fd__law_take, D__law_take⟩ := c.def_ 22 rfl
  obtain ⟨fd__law_gcd, D__law_gcd⟩ := c.def_ 23 rfl
  obtain ⟨fd__law_ratio, D__law_ratio⟩ := c.def_ 24 rfl
  obtain ⟨fd__law_num, D__law_num⟩ := c.def_ 25 rfl
  obtain ⟨fd__law_plus, D__law_plus⟩ := c.def_ 26 rfl
  obtain ⟨fd__law_times, D__law_times⟩ := c.def_ 27 rfl
  obtain ⟨fd__law_blank, D__law_blank⟩ := c.def_ 28 rfl
  obtain ⟨fd__law_dot, D__law_dot⟩ := c.def_ 29 rfl
  obtain ⟨fd__law_tuple, D__law_tuple⟩ := c.def_ 30 rfl
  obtain ⟨fd__law_figures, D__law_figures⟩ := c.def_ 31 rfl
  obtain ⟨fd__law_number, D__law_number⟩ := c.def_ 32 rfl
  obtain ⟨fd__law_size, D__law_size⟩ := c.def_ 33 rfl
  obtain ⟨fd__law_free, D__law_free⟩ := c.def_ 34 rfl
  obtain ⟨fd__law_whole, D__law_whole⟩ := c.def_ 35 rfl
  obtain ⟨fd__law_is_number, D__law_is_number⟩ := c.def_ 36 rfl
  obtain ⟨fd__law_odd, D__law_odd⟩ := c.def_ 37 rfl
  obtain ⟨fd__law_is_pair, D__law_is_pair⟩ := c.def_ 38 rfl
  obtain ⟨fd__law_kept_due, D__law_kept_due⟩ := c.def_ 39 rfl
  obtain ⟨fd__law_kept, D__law_kept⟩ := c.def_ 40 rfl
  obtain ⟨fd__law_cut_asked, D__law_cut_asked⟩ := c.def_ 41 rfl
  obtain ⟨fd__law_letters_due, D__law_letters_due⟩ := c.def_ 42 rfl
  obtain ⟨fd__law_letters, D__law_letters⟩ := c.def_ 43 rfl
  obtain ⟨fd__law_answers_asked, D__law_answers_asked⟩ := c.def_ 44 rfl
  obtain ⟨fd__law_zero_asked, D__law_zero_asked⟩ := c.def_ 45 rfl
  obtain ⟨fd_law, D_law⟩ := c.def_ 46 rfl
  obtain ⟨fd_P___init__, D_P___init__⟩ := c.def_ 47 rfl
  obtain ⟨fd_P_cut_out, D_P_cut_out⟩ := c.def_ 48 rfl
  obtain ⟨fd_P_answers, D_P_answers⟩ := c.def_ 49 rfl
  obtain ⟨fd_F___init__, D_F___init__⟩ := c.def_ 50 rfl
  obtain ⟨fd_F_is_number, D_F_is_number⟩ := c.def_ 51 rfl
  obtain ⟨fd_BadFigures___init__, D_BadFigures___init__⟩ := c.def_ 52 rfl
  obtain ⟨fd_BadPair___init__, D_BadPair___init__⟩ := c.def_ 53 rfl
  obtain ⟨fd_BadTable___init__, D_BadTable___init__⟩ := c.def_ 54 rfl
  obtain ⟨fd_BadLetters___init__, D_BadLetters___init__⟩ := c.def_ 55 rfl
  obtain ⟨fd_BadKept___init__, D_BadKept___init__⟩ := c.def_ 56 rfl
  have m_is_whole := mm 0 "is_whole" rfl
  have m_is_sequence := mm 1 "is_sequence" rfl
  have m_is_ratio := mm 2 "is_ratio" rfl
  have m_in_lowest_terms := mm 3 "in_lowest_terms" rfl
  have m_over_one_bottom := mm 4 "over_one_bottom" rfl
  have m_summed_wholes := mm 5 "summed_wholes" rfl
  have m_zero_row := mm 6 "zero_row" rfl
  have m_summed_products := mm 7 "summed_products" rfl
  have m_whole_line := mm 8 "whole_line" rfl
  have m_summed_lines := mm 9 "summed_lines" rfl
  have m_column_led := mm 10 "column_led" rfl
  have m_fits_count := mm 11 "fits_count" rfl
  have m_check_table := mm 12 "check_table" rfl
  have m_all_are_numbers := mm 13 "all_are_numbers" rfl
  have m_check_letters := mm 14 "check_letters" rfl
  have m_check_width := mm 15 "check_width" rfl
  have m_check_sizes := mm 16 "check_sizes" rfl
  have m_check_kept := mm 17 "check_kept" rfl
  have m_zero_pair := mm 18 "zero_pair" rfl
  have m_kept_table := mm 19 "kept_table" rfl
  have m_OFFERED := mm 20 "OFFERED" rfl
  have m_Figures := mm 21 "Figures" rfl
  have m_Pair := mm 22 "Pair" rfl
  have m_PairError := mm 23 "PairError" rfl
  have m_BadFigures := mm 24 "BadFigures" rfl
  have m_BadPair := mm 25 "BadPair" rfl
  have m_BadTable := mm 26 "BadTable" rfl
  have m_BadLetters := mm 27 "BadLetters" rfl
  have m_BadKept := mm 28 "BadKept" rfl
  have m__law_hand := ml 0 "_law_hand" rfl
  have m__law_mixed := ml 1 "_law_mixed" rfl
  have m__law_take := ml 2 "_law_take" rfl
  have m__law_gcd := ml 3 "_law_gcd" rfl
  have m__law_ratio := ml 4 "_law_ratio" rfl
  have m__law_num := ml 5 "_law_num" rfl
  have m__law_plus := ml 6 "_law_plus" rfl
  have m__law_times := ml 7 "_law_times" rfl
  have m__law_blank := ml 8 "_law_blank" rfl
  have m__law_dot := ml 9 "_law_dot" rfl
  have m__law_tuple := ml 10 "_law_tuple" rfl
  have m__law_figures := ml 11 "_law_figures" rfl
  have m__law_number := ml 12 "_law_number" rfl
  have m__law_size := ml 13 "_law_size" rfl
  have m__law_free := ml 14 "_law_free" rfl
  have m__law_whole := ml 15 "_law_whole" rfl
  have m__law_is_number := ml 16 "_law_is_number" rfl
  have m__law_odd := ml 17 "_law_odd" rfl
  have m__law_is_pair := ml 18 "_law_is_pair" rfl
  have m__law_kept_due := ml 19 "_law_kept_due" rfl
  have m__law_kept := ml 20 "_law_kept" rfl
  have m__law_cut_asked := ml 21 "_law_cut_asked" rfl
  have m__law_letters_due := ml 22 "_law_letters_due" rfl
  have m__law_letters := ml 23 "_law_letters" rfl
  have m__law_answers_asked := ml 24 "_law_answers_asked" rfl
  have m__law_zero_asked := ml 25 "_law_zero_asked" rfl
  have m_law := ml 26 "law" rfl
  have m_F_is_number := meF 0 "is_number" rfl
  have m_P_cut_out := meP 0 "cut_out" rfl
  have m_P_answers := meP 1 "answers" rfl
  have e := hfa.symm.trans m_law
  cases e
  have tx : Bn mg := ⟨fr 0 _ rfl, fr 1 _ rfl, fr 2 _ rfl, fr 3 _ rfl, fr 4 _ rfl, fr 5 _ rfl, fr 6 _ rfl, fr 7 _ rfl, fr 8 _ rfl, fr 9 _ rfl, fr 10 _ rfl, fr 11 _ rfl, fr 12 _ rfl, fr 13 _ rfl, fr 14 _ rfl, mgcd⟩
  have th : Tx mg (He.ga K "_law_mixed") := ⟨tx.len, tx.int, tx.abs, m__law_mixed⟩
  have b_is_sequence := FunD.bindsN (ps := ["thing"]) D_is_sequence (fun _ _ _ _ _ _ us hl => match us, hl with | [_], _ => rfl)
  have b_is_ratio := FunD.bindsN (ps := ["thing"]) D_is_ratio (fun _ _ _ _ _ _ us hl => match us, hl with | [_], _ => rfl)
  have b_in_lowest_terms := FunD.bindsN (ps := ["top", "bottom"]) D_in_lowest_terms (fun _ _ _ _ _ _ us hl => match us, hl with | [_, _], _ => rfl)
  have b_over_one_bottom := FunD.bindsN (ps := ["row"]) D_over_one_bottom (fun _ _ _ _ _ _ us hl => match us, hl with | [_], _ => rfl)
  have b_summed_wholes := FunD.bindsN (ps := ["one", "other"]) D_summed_wholes (fun _ _ _ _ _ _ us hl => match us, hl with | [_, _], _ => rfl)
  have b_zero_row := FunD.bindsN (ps := ["figures", "many"]) D_zero_row (fun _ _ _ _ _ _ us hl => match us, hl with | [_, _], _ => rfl)
  have b_summed_products := FunD.bindsN (ps := ["figures", "one", "other"]) D_summed_products (fun _ _ _ _ _ _ us hl => match us, hl with | [_, _, _], _ => rfl)
  have b_whole_line := FunD.bindsN (ps := ["figures", "row"]) D_whole_line (fun _ _ _ _ _ _ us hl => match us, hl with | [_, _], _ => rfl)
  have b_summed_lines := FunD.bindsN (ps := ["figures", "one", "other"]) D_summed_lines (fun _ _ _ _ _ _ us hl => match us, hl with | [_, _, _], _ => rfl)
  have b_column_led := FunD.bindsN (ps := ["figures", "table", "column"]) D_column_led (fun _ _ _ _ _ _ us hl => match us, hl with | [_, _, _], _ => rfl)
  have b_fits_count := FunD.bindsN (ps := ["many", "due"]) D_fits_count (fun _ _ _ _ _ _ us hl => match us, hl with | [_, _], _ => rfl)
  have b_all_are_numbers := FunD.bindsN (ps := ["figures", "row"]) D_all_are_numbers (fun _ _ _ _ _ _ us hl => match us, hl with | [_, _], _ => rfl)
  have b_check_letters := FunD.bindsN (ps := ["figures", "numbers", "many", "what"]) D_check_letters (fun _ _ _ _ _ _ us hl => match us, hl with | [_, _, _, _], _ => rfl)
  have b_check_width := FunD.bindsN (ps := ["figures", "rows", "columns"]) D_check_width (fun _ _ _ _ _ _ us hl => match us, hl with | [_, _, _], _ => rfl)
  have b_check_sizes := FunD.bindsN (ps := ["figures", "rows", "columns"]) D_check_sizes (fun _ _ _ _ _ _ us hl => match us, hl with | [_, _, _], _ => rfl)
  have b_check_kept := FunD.bindsN (ps := ["places", "many", "what"]) D_check_kept (fun _ _ _ _ _ _ us hl => match us, hl with | [_, _, _], _ => rfl)
  have b_zero_pair := FunD.bindsN (ps := ["figures", "rows", "columns"]) D_zero_pair (fun _ _ _ _ _ _ us hl => match us, hl with | [_, _, _], _ => rfl)
  have b_kept_table := FunD.bindsN (ps := ["table", "rows", "columns"]) D_kept_table (fun _ _ _ _ _ _ us hl => match us, hl with | [_, _, _], _ => rfl)
  have b__law_hand := FunD.bindsN (ps := ["_law_script"]) D__law_hand (fun _ _ _ _ _ _ us hl => match us, hl with | [_], _ => rfl)
  have b__law_mixed := FunD.bindsN (ps := ["_law_number_here", "_law_turn"]) D__law_mixed (fun _ _ _ _ _ _ us hl => match us, hl with | [_, _], _ => rfl)
  have b__law_take := FunD.bindsN (ps := ["_law_hand_here", "_law_many"]) D__law_take (fun _ _ _ _ _ _ us hl => match us, hl with | [_, _], _ => rfl)
  have b__law_gcd := FunD.bindsN (ps := ["_law_one", "_law_other"]) D__law_gcd (fun _ _ _ _ _ _ us hl => match us, hl with | [_, _], _ => rfl)
  have b__law_ratio := FunD.bindsN (ps := ["_law_top", "_law_bottom"]) D__law_ratio (fun _ _ _ _ _ _ us hl => match us, hl with | [_, _], _ => rfl)
  have b__law_num := FunD.bindsN (ps := ["_law_p", "_law_many"]) D__law_num (fun _ _ _ _ _ _ us hl => match us, hl with | [_, _], _ => rfl)
  have b__law_plus := FunD.bindsN (ps := ["_law_p", "_law_one", "_law_other"]) D__law_plus (fun _ _ _ _ _ _ us hl => match us, hl with | [_, _, _], _ => rfl)
  have b__law_times := FunD.bindsN (ps := ["_law_p", "_law_one", "_law_other"]) D__law_times (fun _ _ _ _ _ _ us hl => match us, hl with | [_, _, _], _ => rfl)
  have b__law_blank := FunD.bindsN (ps := ["_law_p", "_law_rows", "_law_columns"]) D__law_blank (fun _ _ _ _ _ _ us hl => match us, hl with | [_, _, _], _ => rfl)
  have b__law_dot := FunD.bindsN (ps := ["_law_p", "_law_one", "_law_other"]) D__law_dot (fun _ _ _ _ _ _ us hl => match us, hl with | [_, _, _], _ => rfl)
  have b__law_tuple := FunD.bindsN (ps := ["_law_table"]) D__law_tuple (fun _ _ _ _ _ _ us hl => match us, hl with | [_], _ => rfl)
  have b__law_figures := FunD.bindsN (ps := ["_law_hand_here"]) D__law_figures (fun _ _ _ _ _ _ us hl => match us, hl with | [_], _ => rfl)
  have b__law_number := FunD.bindsN (ps := ["_law_hand_here", "_law_p"]) D__law_number (fun _ _ _ _ _ _ us hl => match us, hl with | [_, _], _ => rfl)
  have b__law_size := FunD.bindsN (ps := ["_law_hand_here", "_law_p", "_law_most"]) D__law_size (fun _ _ _ _ _ _ us hl => match us, hl with | [_, _, _], _ => rfl)
  have b__law_free := FunD.bindsN (ps := ["_law_hand_here", "_law_p", "_law_rows", "_law_columns"]) D__law_free (fun _ _ _ _ _ _ us hl => match us, hl with | [_, _, _, _], _ => rfl)
  have b__law_whole := FunD.bindsN (ps := ["_law_thing"]) D__law_whole (fun _ _ _ _ _ _ us hl => match us, hl with | [_], _ => rfl)
  have b__law_is_number := FunD.bindsN (ps := ["_law_p", "_law_thing"]) D__law_is_number (fun _ _ _ _ _ _ us hl => match us, hl with | [_, _], _ => rfl)
  have b__law_odd := FunD.bindsN (ps := ["_law_hand_here", "_law_p"]) D__law_odd (fun _ _ _ _ _ _ us hl => match us, hl with | [_, _], _ => rfl)
  have b__law_is_pair := FunD.bindsN (ps := ["_law_p", "_law_pair", "_law_first", "_law_second"]) D__law_is_pair (fun _ _ _ _ _ _ us hl => match us, hl with | [_, _, _, _], _ => rfl)
  have b__law_kept_due := FunD.bindsN (ps := ["_law_kept_here", "_law_many"]) D__law_kept_due (fun _ _ _ _ _ _ us hl => match us, hl with | [_, _], _ => rfl)
  have b__law_kept := FunD.bindsN (ps := ["_law_hand_here", "_law_many"]) D__law_kept (fun _ _ _ _ _ _ us hl => match us, hl with | [_, _], _ => rfl)
  have b__law_cut_asked := FunD.bindsN (ps := ["_law_hand_here", "_law_p", "_law_pair", "_law_first", "_law_second"]) D__law_cut_asked (fun _ _ _ _ _ _ us hl => match us, hl with | [_, _, _, _, _], _ => rfl)
  have b__law_letters_due := FunD.bindsN (ps := ["_law_p", "_law_numbers", "_law_many"]) D__law_letters_due (fun _ _ _ _ _ _ us hl => match us, hl with | [_, _, _], _ => rfl)
  have b__law_letters := FunD.bindsN (ps := ["_law_hand_here", "_law_p", "_law_many"]) D__law_letters (fun _ _ _ _ _ _ us hl => match us, hl with | [_, _, _], _ => rfl)
  have b__law_answers_asked := FunD.bindsN (ps := ["_law_hand_here", "_law_figures_here", "_law_p", "_law_pair", "_law_first", "_law_second"]) D__law_answers_asked (fun _ _ _ _ _ _ us hl => match us, hl with | [_, _, _, _, _, _], _ => rfl)
  have b__law_zero_asked := FunD.bindsN (ps := ["_law_figures_here", "_law_p", "_law_rows", "_law_columns"]) D__law_zero_asked (fun _ _ _ _ _ _ us hl => match us, hl with | [_, _, _, _], _ => rfl)
  have b_law := FunD.bindsN (ps := ["_law_script"]) D_law (fun _ _ _ _ _ _ us hl => match us, hl with | [_], _ => rfl)
  have b_P___init__ := FunD.bindsN (ps := ["self", "figures", "first", "second"]) D_P___init__ (fun _ _ _ _ _ _ us hl => match us, hl with | [_, _, _, _], _ => rfl)
  have b_P_cut_out := FunD.bindsN (ps := ["self", "rows", "columns"]) D_P_cut_out (fun _ _ _ _ _ _ us hl => match us, hl with | [_, _, _], _ => rfl)
  have b_P_answers := FunD.bindsN (ps := ["self", "left", "right"]) D_P_answers (fun _ _ _ _ _ _ us hl => match us, hl with | [_, _, _], _ => rfl)
  have b_F___init__ := FunD.bindsN (ps := ["self", "prime"]) D_F___init__ (fun _ _ _ _ _ _ us hl => match us, hl with | [_, _], _ => rfl)
  have b_F_is_number := FunD.bindsN (ps := ["self", "thing"]) D_F_is_number (fun _ _ _ _ _ _ us hl => match us, hl with | [_, _], _ => rfl)
  have b_BadFigures___init__ := FunD.bindsN (ps := ["self", "prime"]) D_BadFigures___init__ (fun _ _ _ _ _ _ us hl => match us, hl with | [_, _], _ => rfl)
  have b_BadPair___init__ := FunD.bindsN (ps := ["self", "what"]) D_BadPair___init__ (fun _ _ _ _ _ _ us hl => match us, hl with | [_, _], _ => rfl)
  have b_BadTable___init__ := FunD.bindsN (ps := ["self", "index", "what"]) D_BadTable___init__ (fun _ _ _ _ _ _ us hl => match us, hl with | [_, _, _], _ => rfl)
  have b_BadLetters___init__ := FunD.bindsN (ps := ["self", "what", "index"]) D_BadLetters___init__ (fun _ _ _ _ _ _ us hl => match us, hl with | [_, _, _], _ => rfl)
  have b_BadKept___init__ := FunD.bindsN (ps := ["self", "what", "index"]) D_BadKept___init__ (fun _ _ _ _ _ _ us hl => match us, hl with | [_, _, _], _ => rfl)
  have bW := FunD.bindsA (ps := ["_law_script"]) D_law fun _ _ _ _ _ _ us hl => match us, hl with | [_], _ => rfl
  obtain ⟨⟨ds1, dW1, bW1⟩, ⟨ds2, dW2, bW2⟩, b_is_whole⟩ := binds_whole D_is_whole
  obtain ⟨dsT, dT, bT⟩ := binds_table D_check_table
  refine ⟨fd_law, fun s v => bW s [v] rfl, fun base _ _ => ?_⟩
  have erBadFigures := (ers 0 "BadFigures" rfl).1
  have nBadFigures := He.eqO_ok (He.ba (He.ba ini_BadFigures).2).2
  have GBadFigures : FnOk P w K mg base CX0 1 (He.ma K (He.ga K "BadFigures") "__init__") fd_BadFigures___init__ ["self", "prime"] (spIn (He.ga K "BadFigures") 1 (fl1 "prime")) := FunD.ok D_BadFigures___init__ (N := ["self", "prime"]) ⟨rfl, rfl, rfl, by decide +kernel, rfl, by decide +kernel, by decide +kernel⟩ (fun vs H Q E h => lenN h) (fun cdv A outer s H vs Q E hr h => ⟨_, PSs.nox (pss_one (ps_ost (pv 0) (pv 1))), rd1 rfl erBadFigures nBadFigures h⟩)
  have iBadFigures : Ei P w K mg base (He.ga K "PairError") "BadFigures" "prime" (He.ga K "BadFigures") := init1 erBadFigures m_BadFigures ini_BadFigures rfl GBadFigures b_BadFigures___init__
  have erBadPair := (ers 1 "BadPair" rfl).1
  have nBadPair := He.eqO_ok (He.ba (He.ba ini_BadPair).2).2
  have GBadPair : FnOk P w K mg base CX0 1 (He.ma K (He.ga K "BadPair") "__init__") fd_BadPair___init__ ["self", "what"] (spIn (He.ga K "BadPair") 1 (fl1 "what")) := FunD.ok D_BadPair___init__ (N := ["self", "what"]) ⟨rfl, rfl, rfl, by decide +kernel, rfl, by decide +kernel, by decide +kernel⟩ (fun vs H Q E h => lenN h) (fun cdv A outer s H vs Q E hr h => ⟨_, PSs.nox (pss_one (ps_ost (pv 0) (pv 1))), rd1 rfl erBadPair nBadPair h⟩)
  have iBadPair : Ei P w K mg base (He.ga K "PairError") "BadPair" "what" (He.ga K "BadPair") := init1 erBadPair m_BadPair ini_BadPair rfl GBadPair b_BadPair___init__
  have erBadTable := (ers 2 "BadTable" rfl).1
  have nBadTable := He.eqO_ok (He.ba (He.ba (He.ba ini_BadTable).1).2).2
  have oBadTable := He.eqO_ok (He.ba ini_BadTable).2
  have GBadTable : FnOk P w K mg base CX0 1 (He.ma K (He.ga K "BadTable") "__init__") fd_BadTable___init__ ["self", "index", "what"] (spIn (He.ga K "BadTable") 2 (fl2 "index" "what")) := FunD.ok D_BadTable___init__ (N := ["self", "index", "what"]) ⟨rfl, rfl, rfl, by decide +kernel, rfl, by decide +kernel, by decide +kernel⟩ (fun vs H Q E h => lenN h) (fun cdv A outer s H vs Q E hr h => ⟨_, PSs.nox (pss_cons (ps_ost (pv 0) (pv 1)) (pss_one (ps_ost (pv 0) (pv 2)))), rd2 rfl erBadTable nBadTable oBadTable h⟩)
  have iBadTable : Ei2 P w K mg base (He.ga K "PairError") "BadTable" "index" "what" (He.ga K "BadTable") := init2 erBadTable m_BadTable ini_BadTable rfl GBadTable b_BadTable___init__
  have erBadLetters := (ers 3 "BadLetters" rfl).1
  have nBadLetters := He.eqO_ok (He.ba (He.ba (He.ba ini_BadLetters).1).2).2
  have oBadLetters := He.eqO_ok (He.ba ini_BadLetters).2
  have GBadLetters : FnOk P w K mg base CX0 1 (He.ma K (He.ga K "BadLetters") "__init__") fd_BadLetters___init__ ["self", "what", "index"] (spIn (He.ga K "BadLetters") 2 (fl2 "what" "index")) := FunD.ok D_BadLetters___init__ (N := ["self", "what", "index"]) ⟨rfl, rfl, rfl, by decide +kernel, rfl, by decide +kernel, by decide +kernel⟩ (fun vs H Q E h => lenN h) (fun cdv A outer s H vs Q E hr h => ⟨_, PSs.nox (pss_cons (ps_ost (pv 0) (pv 1)) (pss_one (ps_ost (pv 0) (pv 2)))), rd2 rfl erBadLetters nBadLetters oBadLetters h⟩)
  have iBadLetters : Ei2 P w K mg base (He.ga K "PairError") "BadLetters" "what" "index" (He.ga K "BadLetters") := init2 erBadLetters m_BadLetters ini_BadLetters rfl GBadLetters b_BadLetters___init__
  have erBadKept := (ers 4 "BadKept" rfl).1
  have nBadKept := He.eqO_ok (He.ba (He.ba (He.ba ini_BadKept).1).2).2
  have oBadKept := He.eqO_ok (He.ba ini_BadKept).2
  have GBadKept : FnOk P w K mg base CX0 1 (He.ma K (He.ga K "BadKept") "__init__") fd_BadKept___init__ ["self", "what", "index"] (spIn (He.ga K "BadKept") 2 (fl2 "what" "index")) := FunD.ok D_BadKept___init__ (N := ["self", "what", "index"]) ⟨rfl, rfl, rfl, by decide +kernel, rfl, by decide +kernel, by decide +kernel⟩ (fun vs H Q E h => lenN h) (fun cdv A outer s H vs Q E hr h => ⟨_, PSs.nox (pss_cons (ps_ost (pv 0) (pv 1)) (pss_one (ps_ost (pv 0) (pv 2)))), rd2 rfl erBadKept nBadKept oBadKept h⟩)
  have iBadKept : Ei2 P w K mg base (He.ga K "PairError") "BadKept" "what" "index" (He.ga K "BadKept") := init2 erBadKept m_BadKept ini_BadKept rfl GBadKept b_BadKept___init__
  have G_is_whole := ok_is_whole (P := P) (w := w) (base := base) (mg := mg) D_is_whole tx
  have G_is_sequence := ok_is_sequence (P := P) (w := w) (base := base) (mg := mg) D_is_sequence tx
  have G_is_ratio := ok_is_ratio (P := P) (w := w) (base := base) (mg := mg) D_is_ratio tx D_is_whole m_is_whole
  have G_in_lowest_terms := ok_low (P := P) (w := w) (base := base) (mg := mg) D_in_lowest_terms tx
  have G_over_one_bottom := ok_over_one_bottom (P := P) (w := w) (base := base) (mg := mg) D_over_one_bottom tx
  have G_summed_wholes := ok_summed_wholes (P := P) (w := w) (base := base) (mg := mg) D_summed_wholes tx
  have G_zero_row := ok_zero_row (P := P) (w := w) (base := base) (mg := mg) D_zero_row fg
  have G_whole_line := ok_whole_line (P := P) (w := w) (base := base) (mg := mg) D_whole_line fg G_over_one_bottom m_over_one_bottom D_over_one_bottom.kp b_over_one_bottom
  have G_summed_lines := ok_summed_lines (P := P) (w := w) (base := base) (mg := mg) D_summed_lines fg G_summed_wholes m_summed_wholes D_summed_wholes.kp b_summed_wholes G_in_lowest_terms m_in_lowest_terms D_in_lowest_terms.kp b_in_lowest_terms
  have G_summed_products := ok_summed_products (P := P) (w := w) (base := base) (mg := mg) D_summed_products G_summed_lines m_summed_lines D_summed_lines.kp b_summed_lines G_whole_line m_whole_line D_whole_line.kp b_whole_line
  have G_column_led := ok_column_led (P := P) (w := w) (base := base) (mg := mg) D_column_led tx G_summed_lines m_summed_lines D_summed_lines.kp b_summed_lines G_whole_line m_whole_line D_whole_line.kp b_whole_line
  have G_F_is_number := ok_is_number (P := P) (w := w) (base := base) (mg := mg) D_F_is_number fg G_is_ratio m_is_ratio D_is_ratio.kp b_is_ratio G_is_whole m_is_whole D_is_whole.kp b_is_whole
  have G_F___init__ := ok_finit (P := P) (w := w) (base := base) (mg := mg) D_F___init__ fg G_is_whole m_is_whole D_is_whole.kp bW1 dW1 m_OFFERED hO iBadFigures
  have G_fits_count := ok_fits_count (P := P) (w := w) (base := base) (mg := mg) D_fits_count mMost
  have G_all_are_numbers := ok_all_are_numbers (P := P) (w := w) (base := base) (mg := mg) D_all_are_numbers tx fg G_F_is_number m_F_is_number b_F_is_number
  have G_check_letters := ok_check_letters (P := P) (w := w) (base := base) (mg := mg) D_check_letters tx fg G_F_is_number m_F_is_number b_F_is_number G_is_sequence m_is_sequence D_is_sequence.kp b_is_sequence iBadLetters
  have G_check_width := ok_check_width (P := P) (w := w) (base := base) (mg := mg) D_check_width tx fg iBadPair
  have G_check_sizes := ok_check_sizes (P := P) (w := w) (base := base) (mg := mg) D_check_sizes tx mMost iBadPair G_is_whole m_is_whole D_is_whole.kp b_is_whole G_check_width m_check_width D_check_width.kp b_check_width
  have G_check_kept := ok_check_kept (P := P) (w := w) (base := base) (mg := mg) D_check_kept tx G_is_whole m_is_whole D_is_whole.kp b_is_whole G_is_sequence m_is_sequence D_is_sequence.kp b_is_sequence iBadKept
  have G_check_table := ok_check_table (P := P) (w := w) (base := base) (mg := mg) D_check_table tx G_is_sequence m_is_sequence D_is_sequence.kp b_is_sequence G_fits_count m_fits_count D_fits_count.kp b_fits_count G_all_are_numbers m_all_are_numbers D_all_are_numbers.kp b_all_are_numbers iBadTable
  have G_P___init__ := ok_pinit (P := P) (w := w) (base := base) (mg := mg) D_P___init__ pg tx G_check_table m_check_table D_check_table.kp bT dT G_check_width m_check_width D_check_width.kp b_check_width iBadPair
  have G_kept_table := ok_kept_table (P := P) (w := w) (base := base) (mg := mg) D_kept_table tx
  have G_P_cut_out := ok_cut_out (P := P) (w := w) (base := base) (mg := mg) D_P_cut_out pg G_check_kept m_check_kept D_check_kept.kp b_check_kept G_kept_table m_kept_table D_kept_table.kp b_kept_table MP G_P___init__ m_Pair b_P___init__
  have G_P_answers := ok_answers (P := P) (w := w) (base := base) (mg := mg) D_P_answers pg G_check_letters m_check_letters D_check_letters.kp b_check_letters G_summed_products m_summed_products D_summed_products.kp b_summed_products G_column_led m_column_led D_column_led.kp b_column_led
  have G_zero_pair := ok_zero_pair (P := P) (w := w) (base := base) (mg := mg) D_zero_pair G_check_sizes m_check_sizes D_check_sizes.kp b_check_sizes G_zero_row m_zero_row D_zero_row.kp b_zero_row MP G_P___init__ m_Pair b_P___init__
  have G__law_hand := ok_hand (P := P) (w := w) (base := base) (mg := mg) D__law_hand th
  have G__law_take := ok_take (P := P) (w := w) (base := base) (mg := mg) D__law_take D__law_mixed th
  have G__law_gcd := ok__law_gcd (P := P) (w := w) (base := base) (mg := mg) D__law_gcd tx
  have G__law_ratio := ok__law_ratio (P := P) (w := w) (base := base) (mg := mg) D__law_ratio G__law_gcd m__law_gcd D__law_gcd.kp b__law_gcd
  have G__law_whole := ok__law_whole (P := P) (w := w) (base := base) (mg := mg) D__law_whole tx
  have G__law_num := ok__law_num (P := P) (w := w) (base := base) (mg := mg) D__law_num tx
  have G__law_plus := ok__law_plus (P := P) (w := w) (base := base) (mg := mg) D__law_plus tx G__law_ratio m__law_ratio D__law_ratio.kp b__law_ratio
  have G__law_times := ok__law_times (P := P) (w := w) (base := base) (mg := mg) D__law_times tx G__law_ratio m__law_ratio D__law_ratio.kp b__law_ratio
  have G__law_blank := ok__law_blank (P := P) (w := w) (base := base) (mg := mg) D__law_blank tx G__law_num m__law_num D__law_num.kp b__law_num
  have G__law_dot := ok__law_dot (P := P) (w := w) (base := base) (mg := mg) D__law_dot tx G__law_num m__law_num D__law_num.kp b__law_num G__law_plus m__law_plus D__law_plus.kp b__law_plus G__law_times m__law_times D__law_times.kp b__law_times
  have G__law_tuple := ok__law_tuple (P := P) (w := w) (base := base) (mg := mg) D__law_tuple tx
  have G__law_is_number := ok__law_is_number (P := P) (w := w) (base := base) (mg := mg) D__law_is_number tx G__law_whole m__law_whole D__law_whole.kp b__law_whole G__law_gcd m__law_gcd D__law_gcd.kp b__law_gcd
  have G__law_is_pair := ok__law_is_pair (P := P) (w := w) (base := base) (mg := mg) D__law_is_pair tx fg pg G__law_whole m__law_whole D__law_whole.kp b__law_whole G__law_tuple m__law_tuple D__law_tuple.kp b__law_tuple
  have G__law_kept_due := ok__law_kept_due (P := P) (w := w) (base := base) (mg := mg) D__law_kept_due tx G__law_whole m__law_whole D__law_whole.kp b__law_whole
  have G__law_letters_due := ok__law_letters_due (P := P) (w := w) (base := base) (mg := mg) D__law_letters_due tx G__law_is_number m__law_is_number D__law_is_number.kp b__law_is_number
  have G__law_figures := ok__law_figures (P := P) (w := w) (base := base) (mg := mg) D__law_figures G__law_take m__law_take D__law_take.kp b__law_take
  have G__law_number := ok__law_number (P := P) (w := w) (base := base) (mg := mg) D__law_number G__law_take m__law_take D__law_take.kp b__law_take G__law_ratio m__law_ratio D__law_ratio.kp b__law_ratio
  have G__law_size := ok__law_size (P := P) (w := w) (base := base) (mg := mg) D__law_size tx G__law_take m__law_take D__law_take.kp b__law_take
  have G__law_free := ok__law_free (P := P) (w := w) (base := base) (mg := mg) D__law_free tx G__law_number m__law_number D__law_number.kp b__law_number
  have G__law_odd := ok__law_odd (P := P) (w := w) (base := base) (mg := mg) D__law_odd tx G__law_take m__law_take D__law_take.kp b__law_take
  have G__law_kept := ok__law_kept (P := P) (w := w) (base := base) (mg := mg) D__law_kept tx G__law_take m__law_take D__law_take.kp b__law_take
  have G__law_letters := ok__law_letters (P := P) (w := w) (base := base) (mg := mg) D__law_letters tx G__law_take m__law_take D__law_take.kp b__law_take G__law_number m__law_number D__law_number.kp b__law_number G__law_odd m__law_odd D__law_odd.kp b__law_odd
  have G__law_cut_asked := ok__law_cut_asked (P := P) (w := w) (base := base) (mg := mg) D__law_cut_asked tx pg iBadKept (ers 4 "BadKept" rfl).2 G__law_kept m__law_kept D__law_kept.kp b__law_kept G__law_kept_due m__law_kept_due D__law_kept_due.kp b__law_kept_due G__law_is_pair m__law_is_pair D__law_is_pair.kp b__law_is_pair G_P_cut_out m_P_cut_out b_P_cut_out
  have G__law_answers_asked := ok__law_answers_asked (P := P) (w := w) (base := base) (mg := mg) D__law_answers_asked tx pg iBadLetters (ers 3 "BadLetters" rfl).2 G__law_letters m__law_letters D__law_letters.kp b__law_letters G__law_letters_due m__law_letters_due D__law_letters_due.kp b__law_letters_due G__law_dot m__law_dot D__law_dot.kp b__law_dot G_check_letters m_check_letters D_check_letters.kp b_check_letters G_P_answers m_P_answers b_P_answers
  have G__law_zero_asked := ok__law_zero_asked (P := P) (w := w) (base := base) (mg := mg) D__law_zero_asked tx iBadPair (ers 1 "BadPair" rfl).2 G__law_whole m__law_whole D__law_whole.kp b__law_whole G__law_blank m__law_blank D__law_blank.kp b__law_blank G__law_is_pair m__law_is_pair D__law_is_pair.kp b__law_is_pair G_zero_pair m_zero_pair D_zero_pair.kp b_zero_pair
  exact ok_law D_law tx fg G__law_hand m__law_hand D__law_hand.kp b__law_hand G__law_take m__law_take D__law_take.kp b__law_take G__law_figures m__law_figures D__law_figures.kp b__law_figures G__law_size m__law_size D__law_size.kp b__law_size G__law_free m__law_free D__law_free.kp b__law_free MI G_F___init__ m_Figures b_F___init__ MP G_P___init__ m_Pair b_P___init__ G__law_cut_asked m__law_cut_asked D__law_cut_asked.kp b__law_cut_asked G__law_answers_asked m__law_answers_asked D__law_answers_asked.kp b__law_answers_asked G__law_zero_asked m__law_zero_asked D__law_zero_asked.kp b__law_zero_asked G__law_is_pair m__law_is_pair D__law_is_pair.kp b__law_is_pair
end Ly
open PySem PySem.W PySem.Calls PyProof.Rows
set_option maxRecDepth 100000 in
set_option maxHeartbeats 0 in
theorem PySem.Challenge.cw_sparedproducts_k63_whole_cut_outs_and_an_holds : PySem.Challenge.rw_sparedproducts_k63_whole_cut_outs_and_an.Holds := by
  w_on; o_law
  refine HandSHeadRun.head_imp (r := OpenLaw.row PySem.Challenge.rw_sparedproducts_k63_whole_cut_outs_and_an) (q := view (OpenLaw.row PySem.Challenge.rw_sparedproducts_k63_whole_cut_outs_and_an).prog [66]) (H := Lx.hk) (ob := Lx.ob) (M := 20000) (loose := Lx.loose) (d := HandSHeadRun.topDef (OpenLaw.row PySem.Challenge.rw_sparedproducts_k63_whole_cut_outs_and_an).prog 66) (kwd := []) Lx.ob_eq
    Lx.run (by kernel_rfl) (by kernel_rfl) (by kernel_rfl) (by rfl) (by first | assumption | decide +kernel) (by decide +kernel) ⟨rfl, rfl, rfl, rfl, rfl, by decide +kernel⟩ ?hw ?hc
  case hw => w_witness2
  case hc =>
    refine L2.walk_ofE (l := PySem.Challenge.rw_sparedproducts_k63_whole_cut_outs_and_an) (n := 63) (k := 10) (x := "_law_script") (CX := L2.CX0) rfl (by decide) (by kernel_rfl) ⟨rfl, by decide, by decide⟩ ?F (fun _ _ _ _ z => z)
    intro w mg fa h Y G hmg0
    obtain ⟨K, KX, k, c⟩ := Y
    have hmg : mg ("law" : PySem.Str) = some (.ref fa) := by
      have e : (HandSHeadRun.topDef (OpenLaw.row PySem.Challenge.rw_sparedproducts_k63_whole_cut_outs_and_an).prog 66).name = ("law" : PySem.Str) := by kernel_rfl
      rw [← e]
      exact hmg0
    obtain ⟨fd, hb, hF⟩ := Ly.facts (P := (PySem.Challenge.rw_sparedproducts_k63_whole_cut_outs_and_an).prog) (w := w) KX G hmg k c
    exact ⟨K, fd, Lg.spLaw K, KX, hb, fun H a ns hl _ hS => ⟨a, ns, rfl, hS, hl, fun _ => rfl⟩, hF⟩
