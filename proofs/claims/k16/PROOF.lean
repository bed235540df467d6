import PyProof.Rows.All
import Wide.All
import OpenK.AllK
import Wide.FinOn
import KE.KStateDown
import HandS.ForExc
import HandS.IsInst
import HandS.Wide
import HandS.Evl
import HandS.Walk
import HandS.Comp
import HandS.List
import HandS.TupMul
import HandS.TupAny
import HandS.Flow
import HandS.ExcInit
import KE.GoesMore
import HandS.Base
import HandS.Call
import HandS.Iter
import HandS.Zip
import HandS.Gcd
import HandS.Style
import HandS.Rev
import HandS.RevRange
import HandS.Conv
import HandS.ExcField
import HandS.ExcOwn
import HandS.Defaults
import HandS.Exc
import HandS.TryOnly
import KE.KExcIs
import HandS.ExcValue
import HandS.HeadHook2
import HandS.HeadEnd
import HandS.Head2
import HandS.IterVal
import HandS.OwnIter
import HandS.Words
import OpenK.KOps
import PyProof.WalksMore
import HandS.SlotsOwn
import HandS.OwnEq
import PyProof.InstNe
import HandS.Flt
import HandS.Deep
import HandS.Head3
import PySem.Challenge.RW_sparedproducts_k16_whole_points_powers_a
set_option Elab.async false
set_option linter.all false
set_option maxRecDepth 100000
set_option maxHeartbeats 0
set_option exponentiation.threshold 20000
namespace Dz
open PySem PySem.Spec PyProof.Rows L2
def tyD : PyData → String
  | .none => "NoneType"
  | .bool _ => "bool"
  | .int _ => "int"
  | .str _ => "str"
  | .list _ => "list"
  | .tuple _ => "tuple"
  | .dict _ => "dict"
def isaB (t c : String) : Bool := t == c || (t == "bool" && c == "int")
theorem kit_bi {K : PySem.W.Frag} (d : PyData) {c : String} (hc : c = "int" ∨ c = "bool" ∨ c = "list" ∨ c = "tuple") : PySem.W.kitOne K (.type (tyD d)) (.type c) = some (isaB (tyD d) c) := by
  rcases hc with rfl | rfl | rfl | rfl <;> cases d <;> kernel_rfl
/-- a tuple or a list of classes -/
theorem kit_lt {K : PySem.W.Frag} (d : PyData) : PySem.W.kitAny K (.type (tyD d)) [.type "list", .type "tuple"] = some (isaB (tyD d) "list" || isaB (tyD d) "tuple") := by
  unfold PySem.W.kitAny
  rw [kit_bi d (.inr (.inr (.inl rfl)))]
  unfold PySem.W.kitAny
  rw [kit_bi d (.inr (.inr (.inr rfl)))]
  unfold PySem.W.kitAny
  cases d <;> rfl
mutual
theorem dp_same {K : PySem.W.Frag} {H H' : Hp} (s : Same H H') : ∀ (d : PyData) (v : V), Dp K H v d → Dp K H' v d
  | .none, _, h => by cases h; exact .non
  | .bool b, _, h => by cases h; exact .bl b
  | .int i, _, h => by cases h; exact .int i
  | .str x, _, h => by cases h; exact .str x
  | .list ds, _, h => by
    cases h with
    | lst hs ha => exact .lst (Evl.ex_l s hs) (dp_sameAll s ds _ ha)
  | .tuple ds, _, h => by
    cases h with
    | tup hs ha => exact .tup (Evl.ex_t s hs) (dp_sameAll s ds _ ha)
  | .dict _, _, h => by cases h
theorem dp_sameAll {K : PySem.W.Frag} {H H' : Hp} (s : Same H H') : ∀ (ds : List PyData) (vs : List V), DpAll K H vs ds → DpAll K H' vs ds
  | [], _, h => by cases h; exact .nil
  | d :: ds, _, h => by
    cases h with
    | cons h1 h2 => exact .cons (dp_same s d _ h1) (dp_sameAll s ds _ h2)
end
section
variable {K : PySem.W.Frag} {H : Hp} {v : V} {d : PyData}
theorem ty_dp (h : Dp K H v d) : TyX K H v (.type (tyD d)) := by
  cases h with
  | non => exact .base .non
  | bl b => exact .base (.bl b)
  | int i => exact .base (.int i)
  | str x => exact .base (.str x)
  | lst hs _ =>
    rcases hs with (hs | ⟨o, hs⟩) | ⟨o, its, n, hk, hc, _⟩
    · exact .base (.lst hs)
    · exact .base (.frz hs)
    · exact .kList hk hc
  | tup hs _ =>
    rcases hs with (hs | ⟨o, hs⟩) | ⟨o, its, n, hk, hc, _⟩
    · exact .base (.tup hs)
    · exact .fTuple hs
    · exact .kTuple hk hc
/-- isinstance(v, c): what is asked -/
theorem rd_isi {c : String} {Q : VK} (h : Dp K H v d) (hc : c = "int" ∨ c = "bool" ∨ c = "list" ∨ c = "tuple") (q : Q (.bl (isaB (tyD d) c)) H) : rIsi K [v, .ty c] H Q :=
  ⟨v, .ty c, _, _, _, rfl, .ty c, ty_dp h, kit_bi d hc, q⟩
theorem rd_lt {p : Addr} {Q : VK} (h : Dp K H v d) (hp : H p = some (.tup [.ty "list", .ty "tuple"])) (q : Q (.bl (isaB (tyD d) "list" || isaB (tyD d) "tuple")) H) : rIsiT K [v, .ref p] H Q :=
  ⟨v, p, _, _, [.type "list", .type "tuple"], _, rfl, hp, .cons (.ty _) (.cons (.ty _) .nil), ty_dp h, kit_lt d, q⟩
end
/-- whole numbers, texts, None, couples of these .. -/
def Fine (d : PyData) : Prop := SeqAt.shaped d = true
theorem ifT {b : Bool} {A B : Prop} (h : b = true) (k : A) : if b = true then A else B := by
  rw [if_pos h]
  exact k
theorem ifF {b : Bool} {A B : Prop} (h : b = false) (k : B) : if b = true then A else B := by
  rw [if_neg (by rw [h]; exact Bool.false_ne_true)]
  exact k
theorem same_new {H : Hp} {a : Addr} {o : HO} (h : H a = none) : Same H (upd H a o) := fun b u e => by
  rw [upd_ne (ne_of_none e h)]
  exact e
/-- the limits of is_whole -/
def Lim : V → Option Int → Prop
  | .non, o => o = none
  | .int i, o => o = some i
  | _, _ => False
def wholeD : PyData → Option Int → Option Int → Bool
  | .int i, l, h => l.all (fun z => decide (z ≤ i)) && h.all (fun z => decide (i ≤ z))
  | _, _, _ => false
def ratioD : PyData → Bool
  | .tuple [.int t, .int b] => decide (1 ≤ b) && (Nat.gcd t.natAbs b.natAbs == 1)
  | _ => false
theorem dec1 (g : Nat) : decide (V.int (g : Int) = V.int 1) = (g == 1) := by
  by_cases z : g = 1
  · rw [z]
    rfl
  · rw [decide_eq_false fun q => z (by have := V.int.inj q; omega), beq_eq_false_iff_ne.mpr z]
/-- top and bottom in lowest terms -/
def divi (t b : Int) : Int := if b < 0 then -((Nat.gcd t.natAbs b.natAbs : Nat) : Int) else ((Nat.gcd t.natAbs b.natAbs : Nat) : Int)
def lowT (t b : Int) : Int := t.fdiv (divi t b)
def lowB (t b : Int) : Int := b.fdiv (divi t b)
/-- small enough for every deed: below a thousand bits and some -/
def Sm (i : Int) : Prop := i.natAbs < 2 ^ 1000
def Sm4 (i : Int) : Prop := i.natAbs < 2 ^ 4000
theorem divi_ne {t b : Int} (h : b ≠ 0) : divi t b ≠ 0 := by
  have h1 : 0 < Nat.gcd t.natAbs b.natAbs := Nat.gcd_pos_of_pos_right _ (by omega)
  unfold divi
  split <;> omega
theorem divi_abs {t b : Int} : (divi t b).natAbs = Nat.gcd t.natAbs b.natAbs := by
  unfold divi
  split <;> omega
theorem divi_le {t b : Int} (h : b ≠ 0) : (divi t b).natAbs ≤ b.natAbs := by
  rw [divi_abs]
  exact Nat.gcd_le_right _ (by omega)
/-- // by a wide number that is not 0 -/
def CDivZ (_ j : Int) : Prop := j ≠ 0 ∧ j.natAbs.log2 < 9000
theorem op_fdivZ {X : Cx} : OpR X (binaryOp .FloorDiv) (rI CDivZ fun i j => .int (i.fdiv j)) := opI fun _ _ _ _ _ _ _ hc q => floordiv_int hc.1 q (.inl (PyProof.noPylong_of_log2 hc.2))
theorem log_of {i : Int} {n : Nat} (h0 : 0 < n) (h : i.natAbs < 2 ^ n) : i.natAbs.log2 < n := PySem.Flt.log2_lt_of h0 h
end Dz
namespace Dz
open PySem PySem.Spec PyProof.Rows L2
theorem dp_tup {K : PySem.W.Frag} {H : Hp} {v : V} {ds : List PyData} (h : Dp K H v (.tuple ds)) : ∃ a xs, v = .ref a ∧ SqT K H a xs ∧ DpAll K H xs ds := by
  cases h with
  | tup hs ha => exact ⟨_, _, rfl, hs, ha⟩
theorem dpAll_cons {K : PySem.W.Frag} {H : Hp} {xs : List V} {d : PyData} {ds : List PyData} (h : DpAll K H xs (d :: ds)) : ∃ x r, xs = x :: r ∧ Dp K H x d ∧ DpAll K H r ds := by
  cases h with
  | cons h1 h2 => exact ⟨_, _, rfl, h1, h2⟩
theorem dpAll_nil {K : PySem.W.Frag} {H : Hp} {xs : List V} (h : DpAll K H xs []) : xs = [] := by
  cases h
  rfl
theorem dp_int {K : PySem.W.Frag} {H : Hp} {v : V} {i : Int} (h : Dp K H v (.int i)) : v = .int i := by
  cases h
  rfl
theorem dp_two {K : PySem.W.Frag} {H : Hp} {v : V} {t b : Int} (h : Dp K H v (.tuple [.int t, .int b])) : ∃ a, v = .ref a ∧ SqT K H a [.int t, .int b] := by
  obtain ⟨a, xs, e, hs, ha⟩ := dp_tup h
  obtain ⟨u, r, rfl, hu, hr⟩ := dpAll_cons ha
  obtain ⟨u2, r2, rfl, hu2, hr2⟩ := dpAll_cons hr
  have e3 := dpAll_nil hr2
  subst e3
  rw [dp_int hu, dp_int hu2] at hs
  exact ⟨a, e, hs⟩
theorem dp_of2 {K : PySem.W.Frag} {H : Hp} {a : Addr} {t b : Int} (hs : SqT K H a [.int t, .int b]) : Dp K H (.ref a) (.tuple [.int t, .int b]) := .tup hs (.cons (.int t) (.cons (.int b) .nil))
end Dz
set_option exponentiation.threshold 20000
namespace Mt
open PySem PySem.Spec L2 Dz
theorem divi_dvd_t {t b : Int} : divi t b ∣ t := by
  have h : ((Nat.gcd t.natAbs b.natAbs : Nat) : Int) ∣ t := Int.ofNat_dvd_left.mpr (Nat.gcd_dvd_left ..)
  unfold divi
  split
  · exact Int.neg_dvd.mpr h
  · exact h
theorem divi_dvd_b {t b : Int} : divi t b ∣ b := by
  have h : ((Nat.gcd t.natAbs b.natAbs : Nat) : Int) ∣ b := Int.ofNat_dvd_left.mpr (Nat.gcd_dvd_right ..)
  unfold divi
  split
  · exact Int.neg_dvd.mpr h
  · exact h
theorem lowT_abs {t b : Int} : (lowT t b).natAbs = t.natAbs / Nat.gcd t.natAbs b.natAbs := by
  unfold lowT
  rw [Int.fdiv_eq_ediv_of_dvd divi_dvd_t, Int.natAbs_ediv_of_dvd divi_dvd_t, divi_abs]
theorem lowB_abs {t b : Int} : (lowB t b).natAbs = b.natAbs / Nat.gcd t.natAbs b.natAbs := by
  unfold lowB
  rw [Int.fdiv_eq_ediv_of_dvd divi_dvd_b, Int.natAbs_ediv_of_dvd divi_dvd_b, divi_abs]
theorem lowB_pos {t b : Int} (h : b ≠ 0) : 1 ≤ lowB t b := by
  have e : lowB t b * divi t b = b := by
    unfold lowB
    rw [Int.fdiv_eq_ediv_of_dvd divi_dvd_b]
    exact Int.ediv_mul_cancel divi_dvd_b
  have g : 0 < Nat.gcd t.natAbs b.natAbs := Nat.gcd_pos_of_pos_right _ (by omega)
  by_cases h0 : b < 0
  · have d : divi t b < 0 := by unfold divi; rw [if_pos h0]; omega
    refine Classical.byContradiction fun z => ?_
    have z2 : 0 ≤ lowB t b * divi t b := Int.mul_nonneg_of_nonpos_of_nonpos (by omega) (by omega)
    omega
  · have d : 0 < divi t b := by unfold divi; rw [if_neg h0]; omega
    refine Classical.byContradiction fun z => ?_
    have z2 : lowB t b * divi t b ≤ 0 := Int.mul_nonpos_of_nonpos_of_nonneg (by omega) (by omega)
    omega
theorem low_gcd {t b : Int} (h : b ≠ 0) : Nat.gcd (lowT t b).natAbs (lowB t b).natAbs = 1 := by
  rw [lowT_abs, lowB_abs]
  exact Nat.gcd_div_gcd_div_gcd_of_pos_right (by omega)
/-- a couple in lowest terms is a ratio -/
def Low (t b : Int) : Prop := 1 ≤ b ∧ Nat.gcd t.natAbs b.natAbs = 1
theorem low_low {t b : Int} (h : b ≠ 0) : Low (lowT t b) (lowB t b) := ⟨lowB_pos h, low_gcd h⟩
theorem ratioD_low {t b : Int} (h : Low t b) : ratioD (.tuple [.int t, .int b]) = true := by
  show (decide (1 ≤ b) && (Nat.gcd t.natAbs b.natAbs == 1)) = true
  rw [decide_eq_true h.1, h.2]
  rfl
theorem lowT_le {t b : Int} : (lowT t b).natAbs ≤ t.natAbs := by
  rw [lowT_abs]
  exact Nat.div_le_self ..
theorem lowB_le {t b : Int} : (lowB t b).natAbs ≤ b.natAbs := by
  rw [lowB_abs]
  exact Nat.div_le_self ..
/-- a drawn fraction -/
structure Frac (t b : Int) : Prop where
  low : Low t b
  t1 : t.natAbs ≤ 1000000000
  b1 : b ≤ 12
theorem frac_low {t b : Int} (h1 : t.natAbs ≤ 1000000000) (h2 : 1 ≤ b) (h3 : b ≤ 12) : Frac (lowT t b) (lowB t b) := by
  refine ⟨low_low (by omega), Nat.le_trans lowT_le h1, ?_⟩
  have := lowB_le (t := t) (b := b)
  omega
theorem pow64 : (2 : Nat) ^ 64 ≤ 2 ^ 1000 := Nat.pow_le_pow_right (by decide) (by decide)
theorem sm_of {i : Int} (h : i.natAbs < 2 ^ 64) : Sm i := Nat.lt_of_lt_of_le h pow64
theorem sm4_of64 {i : Int} (h : i.natAbs < 2 ^ 64) : Sm4 i := Nat.lt_of_lt_of_le h (Nat.pow_le_pow_right (by decide) (by decide))
theorem Frac.smT {t b : Int} (h : Frac t b) : Sm t := sm_of (by have := h.t1; omega)
theorem Frac.smB {t b : Int} (h : Frac t b) : Sm b := sm_of (by have := h.b1; have := h.low.1; omega)
theorem Frac.ne {t b : Int} (h : Frac t b) : b ≠ 0 := by have := h.low.1; omega
theorem mul_lt64 {i j : Int} (hi : i.natAbs ≤ 2 ^ 31) (hj : j.natAbs ≤ 2 ^ 31) : (i * j).natAbs ≤ 2 ^ 62 := by
  rw [Int.natAbs_mul]
  exact Nat.le_trans (Nat.mul_le_mul hi hj) (by decide)
theorem Frac.a31 {t b : Int} (h : Frac t b) : t.natAbs ≤ 2 ^ 31 := by have := h.t1; omega
theorem Frac.b31 {t b : Int} (h : Frac t b) : b.natAbs ≤ 2 ^ 31 := by have := h.b1; have := h.low.1; omega
theorem half {x y : Nat} (hy : 0 < y) (h : y ≤ x) : 2 * (x % y) ≤ x := by
  have h1 := Nat.mod_lt x hy
  have h2 := Nat.div_add_mod x y
  have h3 : 1 ≤ x / y := Nat.div_pos h hy
  have h4 : y * 1 ≤ y * (x / y) := Nat.mul_le_mul_left y h3
  omega
theorem step_lt {x y n : Nat} (hy : 0 < y) (h : y ≤ x) (hl : x * y < 2 ^ (n + 1)) : y * (x % y) < 2 ^ n := by
  have h1 := half hy h
  have h2 : y * (2 * (x % y)) ≤ y * x := Nat.mul_le_mul_left y h1
  have e : y * (2 * (x % y)) = 2 * (y * (x % y)) := by
    rw [← Nat.mul_assoc, Nat.mul_comm y 2, Nat.mul_assoc]
  rw [e, Nat.mul_comm y x] at h2
  rw [Nat.pow_succ] at hl
  omega
theorem gcd_step (x y : Nat) : Nat.gcd y (x % y) = Nat.gcd x y := by
  rw [Nat.gcd_comm x y, Nat.gcd_rec y x, Nat.gcd_comm]
theorem undo {i j r p : Int} (h0 : 0 ≤ i) (h1 : i < p) (h : j * r % p = 1) : i * r % p * j % p = i := by
  have e : i * r % p * j % p = i * r * j % p := by
    rw [Int.mul_emod (i * r % p) j p, Int.emod_emod_of_dvd _ (Int.dvd_refl p), ← Int.mul_emod]
  have e2 : i * r * j = i * (j * r) := by
    rw [Int.mul_assoc, Int.mul_comm r j]
  rw [e, e2, Int.mul_emod, h, Int.mul_one, Int.emod_emod_of_dvd _ (Int.dvd_refl p), Int.emod_eq_of_lt h0 h1]
theorem undo0 {a b r p : Int} (h : b % p * r % p = 1) : (a % p * r % p * b - a) % p = 0 := by
  have e : a % p * r % p * b % p = a % p := by
    rw [Int.mul_emod (a % p * r % p) b p, Int.emod_emod_of_dvd _ (Int.dvd_refl p), ← Int.mul_emod]
    have e2 : a % p * r * b % p = a % p * (b % p * r) % p := by
      rw [Int.mul_assoc, Int.mul_emod (a % p) (r * b) p, Int.mul_comm r b, Int.mul_emod b r p, Int.mul_emod (a % p) (b % p * r) p, Int.mul_emod (b % p) r p]
      rw [Int.emod_emod_of_dvd b (Int.dvd_refl p)]
    rw [e2, Int.mul_emod, h, Int.mul_one, Int.emod_emod_of_dvd _ (Int.dvd_refl p), Int.emod_emod_of_dvd _ (Int.dvd_refl p)]
  rw [Int.sub_emod, e, Int.sub_self, Int.zero_emod]
end Mt
namespace Vz
open PySem PySem.Spec PyProof.Rows L2 Dz
structure Mv (G H G' H' : Hp) : Prop where
  gg : Same G G'
  gh : Same G' H'
  nw : ∀ a, H a ≠ none → G' a = G a
  dm : ∀ a, H a ≠ none → H' a ≠ none
theorem some_ne {α : Type} {x : Option α} {o : α} (h : x = some o) : x ≠ none := fun z => by rw [h] at z; cases z
theorem ne_some {α : Type} {x : Option α} (h : x ≠ none) : ∃ o, x = some o := by
  cases x with
  | none => exact absurd rfl h
  | some o => exact ⟨o, rfl⟩
theorem old_none {G H : Hp} {p : Addr} (s : Same G H) (hp : H p = none) : G p = none := by
  cases e : G p with
  | none => rfl
  | some o =>
    rw [s p o e] at hp
    cases hp
section
variable {G H G1 H1 G2 H2 G' H' : Hp}
theorem Mv.refl (s : Same G H) : Mv G H G H := ⟨Same.refl _, s, fun _ _ => rfl, fun _ h => h⟩
theorem Mv.trans (x : Mv G H G1 H1) (y : Mv G1 H1 G2 H2) : Mv G H G2 H2 :=
  ⟨x.gg.trans y.gg, y.gh, fun a h => (y.nw a (x.dm a h)).trans (x.nw a h), fun a h => y.dm a (x.dm a h)⟩
theorem Mv.of (s : Same G H) (t : Same H H') : Mv G H G H' :=
  ⟨Same.refl _, s.trans t, fun _ _ => rfl, fun a h => by
    obtain ⟨o, e⟩ := ne_some h
    exact some_ne (t a o e)⟩
theorem Mv.new {p : Addr} {o : HO} (s : Same G H) (hp : H p = none) : Mv G H (upd G p o) (upd H p o) := by
  have gp := old_none s hp
  refine ⟨same_new gp, fun b u e => ?_, fun a h => ?_, fun a h => ?_⟩
  · by_cases hb : b = p
    · subst hb
      rw [upd_same] at e ⊢
      exact e
    · rw [upd_ne hb] at e ⊢
      exact s b u e
  · rw [upd_ne fun z => h (by rw [z]; exact hp)]
  · rw [upd_ne fun z => h (by rw [z]; exact hp)]
    exact h
/-- a new object that stays out of the view -/
theorem Mv.hid {p : Addr} {o : HO} (s : Same G H) (hp : H p = none) : Mv G H G (upd H p o) := Mv.of s (same_new hp)
/-- an object out of the view changes -/
theorem Mv.put {p : Addr} {o : HO} (s : Same G H) (gp : G p = none) (hp : H p ≠ none) : Mv G H G (upd H p o) := by
  refine ⟨Same.refl _, fun b u e => ?_, fun _ _ => rfl, fun a h => ?_⟩
  · rw [upd_ne (ne_of_none e gp)]
    exact s b u e
  · by_cases ha : a = p
    · rw [ha, upd_same]
      exact fun z => nomatch z
    · rw [upd_ne ha]
      exact h
/-- an object out of the view comes in as it stands -/
theorem Mv.shut {p : Addr} {o : HO} (x : Mv G H G1 H1) (np : H p = none) (g1 : G1 p = none) (hp : H1 p = some o) : Mv G H (upd G1 p o) H1 := by
  refine ⟨x.gg.trans (same_new g1), fun b u e => ?_, fun a h => ?_, x.dm⟩
  · by_cases hb : b = p
    · subst hb
      rw [upd_same] at e
      rw [hp]
      exact e
    · rw [upd_ne hb] at e
      exact x.gh b u e
  · rw [upd_ne fun z => h (by rw [z]; exact np)]
    exact x.nw a h
theorem Mv.no {p : Addr} (x : Mv G H G1 H1) (hp : H p ≠ none) (gp : G p = none) : G1 p = none := (x.nw p hp).trans gp
/-- what a deed keeps that changes only what ex tells -/
def Kp (ex : Addr → Prop) (H H' : Hp) : Prop := ∀ b o, ¬ ex b → H b = some o → H' b = some o
def no1 : Addr → Prop := fun _ => False
theorem Kp.refl {ex : Addr → Prop} : Kp ex H H := fun _ _ _ h => h
theorem Kp.trans {ex : Addr → Prop} (x : Kp ex H H1) (y : Kp ex H1 H2) : Kp ex H H2 := fun b o hb e => y b o hb (x b o hb e)
theorem Kp.same (x : Kp no1 H H1) : Same H H1 := fun b o e => x b o id e
theorem Kp.of {ex : Addr → Prop} (s : Same H H1) : Kp ex H H1 := fun b o _ e => s b o e
end
theorem dpAll_append {K : PySem.W.Frag} {H : Hp} : ∀ {xs ys : List V} {ds es : List PyData}, DpAll K H xs ds → DpAll K H ys es → DpAll K H (xs ++ ys) (ds ++ es)
  | _, _, [], _, h, k => by
    have e := dpAll_nil h
    subst e
    exact k
  | _, _, d :: ds, _, h, k => by
    obtain ⟨x, r, rfl, h1, h2⟩ := dpAll_cons h
    exact .cons h1 (dpAll_append h2 k)
theorem dpAll_len {K : PySem.W.Frag} {H : Hp} : ∀ {xs : List V} {ds : List PyData}, DpAll K H xs ds → xs.length = ds.length
  | _, [], h => by
    have e := dpAll_nil h
    subst e
    rfl
  | _, d :: ds, h => by
    obtain ⟨x, r, rfl, h1, h2⟩ := dpAll_cons h
    rw [List.length_cons, List.length_cons, dpAll_len h2]
theorem dpAll_get {K : PySem.W.Frag} {H : Hp} : ∀ {xs : List V} {ds : List PyData} {i : Nat} {x : V}, DpAll K H xs ds → xs[i]? = some x → ∃ d, ds[i]? = some d ∧ Dp K H x d
  | _, [], i, x, h, e => by
    have z := dpAll_nil h
    subst z
    simp at e
  | _, d :: ds, i, x, h, e => by
    obtain ⟨y, r, rfl, h1, h2⟩ := dpAll_cons h
    cases i with
    | zero =>
      have z : y = x := by simpa using e
      subst z
      exact ⟨d, rfl, h1⟩
    | succ i =>
      obtain ⟨d', e', h'⟩ := dpAll_get (i := i) h2 (by simpa using e)
      exact ⟨d', by simpa using e', h'⟩
theorem dpAll_at {K : PySem.W.Frag} {H : Hp} : ∀ {xs : List V} {ds : List PyData} {i : Nat} {d : PyData}, DpAll K H xs ds → ds[i]? = some d → ∃ x, xs[i]? = some x ∧ Dp K H x d
  | _, [], i, d, h, e => by simp at e
  | _, d0 :: ds, i, d, h, e => by
    obtain ⟨y, r, rfl, h1, h2⟩ := dpAll_cons h
    cases i with
    | zero =>
      have z : d0 = d := by simpa using e
      subst z
      exact ⟨y, rfl, h1⟩
    | succ i =>
      obtain ⟨x, e', h'⟩ := dpAll_at (i := i) h2 (by simpa using e)
      exact ⟨x, by simpa using e', h'⟩
theorem dpAll_drop {K : PySem.W.Frag} {H : Hp} : ∀ {xs : List V} {ds : List PyData} (n : Nat), DpAll K H xs ds → DpAll K H (xs.drop n) (ds.drop n)
  | xs, ds, 0, h => by simpa using h
  | _, [], n + 1, h => by
    have e := dpAll_nil h
    subst e
    exact h
  | _, d :: ds, n + 1, h => by
    obtain ⟨y, r, rfl, h1, h2⟩ := dpAll_cons h
    exact dpAll_drop n h2
theorem dpAll_take {K : PySem.W.Frag} {H : Hp} : ∀ {xs : List V} {ds : List PyData} (n : Nat), DpAll K H xs ds → DpAll K H (xs.take n) (ds.take n)
  | xs, ds, 0, h => by
    rw [List.take_zero, List.take_zero]
    exact .nil
  | _, [], n + 1, h => by
    have e := dpAll_nil h
    subst e
    exact h
  | _, d :: ds, n + 1, h => by
    obtain ⟨y, r, rfl, h1, h2⟩ := dpAll_cons h
    exact .cons h1 (dpAll_take n h2)
theorem dpAll_set {K : PySem.W.Frag} {H : Hp} : ∀ {xs : List V} {ds : List PyData} (n : Nat) {x : V} {d : PyData}, DpAll K H xs ds → Dp K H x d → DpAll K H (xs.set n x) (ds.set n d)
  | _, [], n, x, d, h, k => by
    have e := dpAll_nil h
    subst e
    exact h
  | _, d0 :: ds, 0, x, d, h, k => by
    obtain ⟨y, r, rfl, h1, h2⟩ := dpAll_cons h
    exact .cons k h2
  | _, d0 :: ds, n + 1, x, d, h, k => by
    obtain ⟨y, r, rfl, h1, h2⟩ := dpAll_cons h
    exact .cons h1 (dpAll_set n h2 k)
theorem dp_lst {K : PySem.W.Frag} {H : Hp} {v : V} {ds : List PyData} (h : Dp K H v (.list ds)) : ∃ a xs, v = .ref a ∧ SqL K H a xs ∧ DpAll K H xs ds := by
  cases h with
  | lst hs ha => exact ⟨_, _, rfl, hs, ha⟩
/-- the items of a sequence of data, in a list or in a tuple -/
inductive Sq : PyData → List PyData → Prop
  | lst (ds : List PyData) : Sq (.list ds) ds
  | tup (ds : List PyData) : Sq (.tuple ds) ds
theorem sq_dp {K : PySem.W.Frag} {H : Hp} {v : V} {d : PyData} {ds : List PyData} (q : Sq d ds) (h : Dp K H v d) : ∃ a xs, v = .ref a ∧ (SqL K H a xs ∨ SqT K H a xs) ∧ DpAll K H xs ds := by
  cases q with
  | lst =>
    obtain ⟨a, xs, e, h1, h2⟩ := dp_lst h
    exact ⟨a, xs, e, .inl h1, h2⟩
  | tup =>
    obtain ⟨a, xs, e, h1, h2⟩ := dp_tup h
    exact ⟨a, xs, e, .inr h1, h2⟩
theorem pi_or {X : Cx} {tg it : Expr} {w1 w2 : TI} (h1 : PI X tg it w1) (h2 : PI X tg it w2) : PI X tg it (fun σ H R => w1 σ H R ∨ w2 σ H R) :=
  ⟨fun pins s σ H R I h => h.elim (h1.run pins s σ H R I) (h2.run pins s σ H R I)⟩
theorem op_or {X : Cx} {f : Value → Value → Sem Value} {r1 r2 : R2} (h1 : OpR X f r1) (h2 : OpR X f r2) : OpR X f (fun x y H Q => r1 x y H Q ∨ r2 x y H Q) :=
  fun pins s σ H x y v u Q I rx ry h => h.elim (h1 pins s σ H x y v u Q I rx ry) (h2 pins s σ H x y v u Q I rx ry)
theorem call_or {X : Cx} {f : Value} {r1 r2 : List V → Hp → VK → Prop} (h1 : CallR X f r1) (h2 : CallR X f r2) : CallR X f (fun xs H Q => r1 xs H Q ∨ r2 xs H Q) :=
  fun pins s σ H xs us Q I r h => h.elim (h1 pins s σ H xs us Q I r) (h2 pins s σ H xs us Q I r)
theorem pi_tupK {X : Cx} {K : PySem.W.Frag} {tg l : Expr} {tl : TE} (h : X.K = K) (hl : PE X l tl) : PI X tg l (iTup K tl) := by
  rw [← h]
  exact pi_tup hl
theorem pi_listK {X : Cx} {K : PySem.W.Frag} {tg l : Expr} {tl : TE} (h : X.K = K) (hl : PE X l tl) : PI X tg l (iList K tl) := by
  rw [← h]
  exact pi_list hl
theorem ix_tupK {X : Cx} {K : PySem.W.Frag} (h : X.K = K) : IxR X (rIxT K) := by
  rw [← h]
  exact ix_tup
theorem ix_listK {X : Cx} {K : PySem.W.Frag} (h : X.K = K) : IxR X (rIxL K) := by
  rw [← h]
  exact ix_list
theorem call_tuple_ofK {X : Cx} {K : PySem.W.Frag} (h : X.K = K) : CallR X (.type "tuple") (fun xs H Q => ∃ p ys, xs = [.ref p] ∧ ((SqL K H p ys ∧ ∀ l, H l = none → Q (.ref l) (upd H l (.tup ys))) ∨ (SqT K H p ys ∧ Q (.ref p) H))) := by
  rw [← h]
  exact call_tuple_of
section
variable {K : PySem.W.Frag} {J : It} {n : Nat} {Gd : Hp → Prop} {Y : Nat → Hp → V → Hp → Prop} {g : TG} {tt : TT} {te : TE} {vs : List Nat} {σ : L2.St} {G1 H1 : Hp} {D : Addr} {Qd : Hp → Prop}
/-- what a comprehension's loop asks -/
abbrev LcW (J : It) (g : TG) (tt : TT) (te : TE) (vs : List Nat) (σ : L2.St) (H1 : Hp) (D : Addr) (Qd : Hp → Prop) : Prop :=
  ∃ W : Nat → Nat → Hp → Prop, (∃ m, W 0 m (upd H1 D (.lst []))) ∧ ∀ i m H, W i m H →
      (J.stop i H ∧ Qd H) ∨ (J.go i H ∧ ∃ Nx : Hp → Prop, (∀ H', Nx H' → ∃ m', m' < m ∧ W (i + 1) m' H') ∧ ∀ x H', J.yld i H x H' → g x (wipe σ vs) H' fun σ2 H2 => wipe σ2 vs = wipe σ vs ∧ tt σ2 H2 fun b H3 =>
        if b = true then te σ2 H3 fun y H4 => ∃ acc, H4 D = some (.lst acc) ∧ acc.length < sizeLine ∧ Nx (upd H4 D (.lst (acc ++ [y]))) else Nx H3)
/-- one item made: the result is of R i -/
structure Made (K : PySem.W.Frag) (ex : Addr → Prop) (I : Hp → Prop) (R : PyData → Prop) (G H : Hp) (y : V) (H4 : Hp) : Prop where
  ok : ∃ d G', R d ∧ Mv G H G' H4 ∧ Kp ex H H4 ∧ I H4 ∧ Dp K G' y d
theorem lcV (w : Walk J n Gd Y) (ex : Addr → Prop) (I : Hp → Prop) (R : Nat → PyData → Prop)
    (s1 : Same G1 H1) (hD : H1 D = none) (hx : ¬ ex D) (hn : n ≤ 1000) (i1 : I H1) (hI : ∀ H o, I H → (∀ b u, H1 b = some u → ¬ ex b → H b = some u) → I (upd H D o)) (hGd : ∀ G H, Same G1 G → Same G H → Kp ex H1 H → Gd H)
    (hs : ∀ i x G H H' (k kn : Hp → Prop) (kk : VK), i < n → Mv G1 (upd H1 D (.lst [])) G H → Kp ex H1 H → I H → Y i H x H' → (∀ y H4, Made K ex I (R i) G H y H4 → kk y H4) →
      g x (wipe σ vs) H' fun σ2 H2 => wipe σ2 vs = wipe σ vs ∧ tt σ2 H2 fun b H3 => if b = true then te σ2 H3 kk else kn H3)
    (q : ∀ acc ds G2 H2, H2 D = some (.lst acc) → DpAll K G2 acc ds → ds.length = n → (∀ i d, ds[i]? = some d → R i d) → Mv G1 (upd H1 D (.lst [])) G2 H2 → Kp ex H1 H2 → I H2 → Qd H2) :
    LcW J g tt te vs σ H1 D Qd := by
  have g1D := old_none s1 hD
  have h0D : (upd H1 D (.lst [])) D ≠ none := by
    rw [upd_same]
    exact fun z => nomatch z
  refine lc_it w (fun i H => ∃ acc ds G, H D = some (.lst acc) ∧ DpAll K G acc ds ∧ ds.length = i ∧ i ≤ n ∧ (∀ j d, ds[j]? = some d → R j d) ∧ Mv G1 (upd H1 D (.lst [])) G H ∧ Kp ex H1 H ∧ I H) ?_ ?_ ?_ ?_
  · refine ⟨[], [], G1, upd_same, .nil, rfl, Nat.zero_le _, (fun j d e => by simp at e), Mv.refl (s1.trans (same_new hD)), Kp.of (same_new hD), hI _ _ i1 (fun b u e _ => e)⟩
  · rintro i H hi ⟨acc, ds, G, h1, h2, h3, _, h4, h5, h6, h7⟩
    exact hGd G H h5.gg h5.gh h6
  · rintro i x H H' hi ⟨acc, ds, G, h1, h2, h3, h30, h4, h5, h6, h7⟩ y
    refine hs i x G H H' (fun _ => True) _ _ hi h5 h6 h7 y ?_
    rintro z H4 ⟨⟨d, G', r, m, kp, i4, hd⟩⟩
    have hD4 : H4 D = some (.lst acc) := kp D _ hx h1
    have gD : G D = none := h5.no h0D g1D
    have gD' : G' D = none := m.no (some_ne h1) gD
    have la : acc.length = i := (dpAll_len h2).trans h3
    refine ⟨acc, hD4, Nat.lt_of_le_of_lt (by omega : acc.length ≤ 1000) (by decide), acc ++ [z], ds ++ [d], G', upd_same, dpAll_append (dp_sameAll m.gg _ _ h2) (.cons hd .nil), by rw [List.length_append, h3]; rfl, hi, ?_, ?_, ?_, ?_⟩
    · intro j e hj
      by_cases hjl : j < ds.length
      · rw [List.getElem?_append_left hjl] at hj
        exact h4 j e hj
      · have hjl2 : j = ds.length := by
          have := (List.getElem?_eq_some_iff.mp hj).1
          rw [List.length_append, List.length_singleton] at this
          omega
        subst hjl2
        have e2 : d = e := by simpa using hj
        subst e2
        rw [h3]
        exact r
    · exact (h5.trans m).trans (Mv.put m.gh gD' (some_ne hD4))
    · intro b u hb e
      rw [upd_ne (ne_of_none e hD)]
      exact kp b u hb (h6 b u hb e)
    · exact hI _ _ i4 fun b u e hb => kp b u hb (h6 b u hb e)
  · rintro H ⟨acc, ds, G, h1, h2, h3, _, h4, h5, h6, h7⟩
    exact q acc ds G H h1 h2 h3 h4 h5 h6 h7
/-- the finished list comes into the view -/
theorem shut_lc {acc : List V} {ds : List PyData} {G2 H2 : Hp} (s1 : Same G1 H1) (hD : H1 D = none) (h1 : H2 D = some (.lst acc)) (h2 : DpAll K G2 acc ds) (m : Mv G1 (upd H1 D (.lst [])) G2 H2) :
    Mv G1 H1 (upd G2 D (.lst acc)) H2 ∧ Dp K (upd G2 D (.lst acc)) (.ref D) (.list ds) := by
  have h0D : (upd H1 D (.lst [])) D ≠ none := by
    rw [upd_same]
    exact fun z => nomatch z
  have gD : G2 D = none := m.no h0D (old_none s1 hD)
  exact ⟨Mv.shut ((Mv.hid s1 hD).trans m) hD gD h1, .lst (SqL.of upd_same) (dp_sameAll (same_new gD) _ _ h2)⟩
end
end Vz
namespace Fw
open PySem PySem.Spec PyProof.Rows L2 Vz
/-- a value as data: hl a list that one place alone holds; me the one thing that is handed about and changes (a law's hand, a self under construction); ex an error that a suite holds -/
inductive D where
  | non | bl (b : Bool) | int (i : Int) | str (x : Str)
  | tup (ds : List D) | lst (ds : List D)
  | ins (n : Str) (fs : List (Str × D))
  | hl (ds : List D) | me
  | ex (n : Str) (fs : List (Str × D))
/-- a law's constants -/
structure Cn where
  K : PySem.W.Frag
  mg : Str → Option Value
  xa : Option (Addr × Value × Option Addr) := none
/-- what is asked of a class whose instances are handed about -/
structure COk (K : PySem.W.Frag) (C : Addr) : Prop where
  cl : Cls K C
  ca : PySem.W.findIn K (.ref C) "__class__" = some (some (.builtin "object.__class__"))
  mo : PySem.W.mroIn K C (.type "object") = some true
  nb : ∀ n ∈ (["int", "bool", "str", "list", "tuple", "dict"] : List String), PySem.W.kitOne K (.ref C) (.type n) = some false
mutual
inductive Dq (c : Cn) (ha : Option Addr) (G : Hp) : V → D → Prop
  | non : Dq c ha G .non .non
  | bl (b : Bool) : Dq c ha G (.bl b) (.bl b)
  | int (i : Int) : Dq c ha G (.int i) (.int i)
  | str (x : Str) : Dq c ha G (.str x) (.str x)
  | tup {a : Addr} {xs : List V} {ds : List D} : SqT c.K G a xs → DqAll c ha G xs ds → Dq c ha G (.ref a) (.tup ds)
  | lst {a : Addr} {xs : List V} {ds : List D} : G a = some (.lst xs) → DqAll c ha G xs ds → Dq c ha G (.ref a) (.lst ds)
  | ins {a C dx : Addr} {n : Str} {xs : List (Str × V)} {fs : List (Str × D)} : c.mg n = some (.ref C) → G a = some (.ins C dx xs) → COk c.K C → DqF c ha G C xs fs → Dq c ha G (.ref a) (.ins n fs)
inductive DqAll (c : Cn) (ha : Option Addr) (G : Hp) : List V → List D → Prop
  | nil : DqAll c ha G [] []
  | cons {v : V} {d : D} {xs : List V} {ds : List D} : Dq c ha G v d → DqAll c ha G xs ds → DqAll c ha G (v :: xs) (d :: ds)
inductive DqF (c : Cn) (ha : Option Addr) (G : Hp) : Addr → List (Str × V) → List (Str × D) → Prop
  | nil {C : Addr} : DqF c ha G C [] []
  | cons {C : Addr} {n : Str} {v : V} {d : D} {xs : List (Str × V)} {fs : List (Str × D)} : NoAttr c.K C n → Dq c ha G v d → DqF c ha G C xs fs → DqF c ha G C ((n, v) :: xs) ((n, d) :: fs)
end
section
variable {c : Cn} {ha : Option Addr} {G G' H H' G1 H1 : Hp}
theorem dq_mono (s : Same G G') {v : V} {d : D} (h : Dq c ha G v d) : Dq c ha G' v d := by
  refine Dq.rec (motive_1 := fun v d _ => Dq c ha G' v d) (motive_2 := fun xs ds _ => DqAll c ha G' xs ds) (motive_3 := fun C xs fs _ => DqF c ha G' C xs fs) ?_ ?_ ?_ ?_ ?_ ?_ ?_ ?_ ?_ ?_ ?_ h
  · exact .non
  · exact fun b => .bl b
  · exact fun i => .int i
  · exact fun x => .str x
  · exact fun h1 _ h2 => .tup (Evl.ex_t s h1) h2
  · exact fun h1 _ h2 => .lst (s _ _ h1) h2
  · exact fun h1 h2 h3 _ h4 => .ins h1 (s _ _ h2) h3 h4
  · exact .nil
  · exact fun _ _ h1 h2 => .cons h1 h2
  · exact .nil
  · exact fun h0 _ _ h1 h2 => .cons h0 h1 h2
theorem dq_ha {hb : Option Addr} {v : V} {d : D} (h : Dq c ha G v d) : Dq c hb G v d := by
  refine Dq.rec (motive_1 := fun v d _ => Dq c hb G v d) (motive_2 := fun xs ds _ => DqAll c hb G xs ds) (motive_3 := fun C xs fs _ => DqF c hb G C xs fs) ?_ ?_ ?_ ?_ ?_ ?_ ?_ ?_ ?_ ?_ ?_ h
  · exact .non
  · exact fun b => .bl b
  · exact fun i => .int i
  · exact fun x => .str x
  · exact fun h1 _ h2 => .tup h1 h2
  · exact fun h1 _ h2 => .lst h1 h2
  · exact fun h1 h2 h3 _ h4 => .ins h1 h2 h3 h4
  · exact .nil
  · exact fun _ _ h1 h2 => .cons h1 h2
  · exact .nil
  · exact fun h0 _ _ h1 h2 => .cons h0 h1 h2
theorem dqF_ha {hb : Option Addr} {C : Addr} : ∀ {xs : List (Str × V)} {fs : List (Str × D)}, DqF c ha G C xs fs → DqF c hb G C xs fs
  | _, _, .nil => .nil
  | _, _, .cons h0 h t => .cons h0 (dq_ha h) (dqF_ha t)
theorem dqAll_mono (s : Same G G') : ∀ {xs : List V} {ds : List D}, DqAll c ha G xs ds → DqAll c ha G' xs ds
  | _, _, .nil => .nil
  | _, _, .cons h t => .cons (dq_mono s h) (dqAll_mono s t)
theorem dqF_mono (s : Same G G') {C : Addr} : ∀ {xs : List (Str × V)} {fs : List (Str × D)}, DqF c ha G C xs fs → DqF c ha G' C xs fs
  | _, _, .nil => .nil
  | _, _, .cons h0 h t => .cons h0 (dq_mono s h) (dqF_mono s t)
theorem dqAll_len : ∀ {xs : List V} {ds : List D}, DqAll c ha G xs ds → xs.length = ds.length
  | _, _, .nil => rfl
  | _, _, .cons _ t => congrArg Nat.succ (dqAll_len t)
theorem dqAll_at : ∀ {xs : List V} {ds : List D} {i : Nat} {d : D}, DqAll c ha G xs ds → ds[i]? = some d → ∃ x, xs[i]? = some x ∧ Dq c ha G x d
  | _, _, i, _, .nil, e => by simp at e
  | _, _, 0, _, .cons h _, e => by
    have z := Option.some.inj e
    subst z
    exact ⟨_, rfl, h⟩
  | _, _, i + 1, _, .cons _ t, e => dqAll_at (i := i) t e
theorem dqAll_get : ∀ {xs : List V} {ds : List D} {i : Nat} {x : V}, DqAll c ha G xs ds → xs[i]? = some x → ∃ d, ds[i]? = some d ∧ Dq c ha G x d
  | _, _, i, _, .nil, e => by simp at e
  | _, _, 0, _, .cons h _, e => by
    have z := Option.some.inj e
    subst z
    exact ⟨_, rfl, h⟩
  | _, _, i + 1, _, .cons _ t, e => dqAll_get (i := i) t e
theorem dqAll_app : ∀ {xs ys : List V} {ds es : List D}, DqAll c ha G xs ds → DqAll c ha G ys es → DqAll c ha G (xs ++ ys) (ds ++ es)
  | _, _, _, _, .nil, k => k
  | _, _, _, _, .cons h t, k => .cons h (dqAll_app t k)
theorem dqAll_drop : ∀ (n : Nat) {xs : List V} {ds : List D}, DqAll c ha G xs ds → DqAll c ha G (xs.drop n) (ds.drop n)
  | 0, _, _, h => h
  | _ + 1, _, _, .nil => .nil
  | n + 1, _, _, .cons _ t => dqAll_drop n t
theorem dqAll_take : ∀ (n : Nat) {xs : List V} {ds : List D}, DqAll c ha G xs ds → DqAll c ha G (xs.take n) (ds.take n)
  | 0, _, _, _ => .nil
  | _ + 1, _, _, .nil => .nil
  | n + 1, _, _, .cons h t => .cons h (dqAll_take n t)
theorem dqAll_set {v : V} {d : D} (r : Dq c ha G v d) : ∀ (n : Nat) {xs : List V} {ds : List D}, DqAll c ha G xs ds → DqAll c ha G (xs.set n v) (ds.set n d)
  | _, _, _, .nil => .nil
  | 0, _, _, .cons _ t => .cons r t
  | n + 1, _, _, .cons h t => .cons h (dqAll_set r n t)
theorem dqAll_rep {v : V} {d : D} (r : Dq c ha G v d) : ∀ n : Nat, DqAll c ha G (List.replicate n v) (List.replicate n d)
  | 0 => .nil
  | n + 1 => .cons r (dqAll_rep r n)
theorem dqAll_reps {xs : List V} {ds : List D} (r : DqAll c ha G xs ds) : ∀ n : Nat, DqAll c ha G (List.replicate n xs).flatten (List.replicate n ds).flatten
  | 0 => .nil
  | n + 1 => by
    rw [List.replicate_succ, List.replicate_succ, List.flatten_cons, List.flatten_cons]
    exact dqAll_app r (dqAll_reps r n)
theorem dqF_look {C : Addr} : ∀ {xs : List (Str × V)} {fs : List (Str × D)} {n : Str} {d : D}, DqF c ha G C xs fs → fs.lookup n = some d → NoAttr c.K C n ∧ ∃ v, xs.lookup n = some v ∧ Dq c ha G v d
  | _, _, n, d, .nil, e => nomatch e
  | _, _, n, d, .cons (n := m) h0 h t, e => by
    rw [List.lookup_cons] at e ⊢
    cases q : n == m with
    | true =>
      rw [q] at e
      have e1 : n = m := eq_of_beq q
      subst e1
      have e2 := Option.some.inj e
      subst e2
      exact ⟨h0, _, rfl, h⟩
    | false =>
      rw [q] at e
      exact dqF_look t e
theorem dqF_no {C : Addr} : ∀ {xs : List (Str × V)} {fs : List (Str × D)} {n : Str}, DqF c ha G C xs fs → fs.lookup n = none → xs.lookup n = none
  | _, _, n, .nil, _ => rfl
  | _, _, n, .cons (n := m) h0 h t, e => by
    rw [List.lookup_cons] at e ⊢
    cases q : n == m with
    | true => rw [q] at e; cases e
    | false =>
      rw [q] at e
      exact dqF_no t e
theorem dqF_len {C : Addr} : ∀ {xs : List (Str × V)} {fs : List (Str × D)}, DqF c ha G C xs fs → xs.length = fs.length
  | _, _, .nil => rfl
  | _, _, .cons _ _ t => congrArg Nat.succ (dqF_len t)
end
mutual
inductive Own (c : Cn) (ha : Option Addr) (G H : Hp) : V → D → List Addr → Prop
  | frz {v : V} {d : D} : Dq c ha G v d → Own c ha G H v d []
  | hl {a : Addr} {xs : List V} {ds : List D} {fp : List Addr} : H a = some (.lst xs) → G a = none → OwnAll c ha G H xs ds fp → Own c ha G H (.ref a) (.hl ds) (a :: fp)
inductive OwnAll (c : Cn) (ha : Option Addr) (G H : Hp) : List V → List D → List Addr → Prop
  | nil : OwnAll c ha G H [] [] []
  | cons {v : V} {d : D} {f : List Addr} {xs : List V} {ds : List D} {fp : List Addr} : Own c ha G H v d f → OwnAll c ha G H xs ds fp → OwnAll c ha G H (v :: xs) (d :: ds) (f ++ fp)
end
/-- the dict of an error that a suite holds -/
inductive ExH (c : Cn) (ha : Option Addr) (G H : Hp) : Option Addr → Addr → List (Str × D) → List Addr → Prop
  | none {C : Addr} : ExH c ha G H none C [] []
  | some {d C : Addr} {xs : List (Str × V)} {fs : List (Str × D)} : H d = some (.xd xs) → G d = none → DqF c ha G C xs fs → ExH c ha G H (some d) C fs [d]
inductive OwnS (c : Cn) (ha : Option Addr) (G H : Hp) : L2.St → List (Option D) → List Addr → Prop
  | nil : OwnS c ha G H [] [] []
  | non (o : Option V) {σ : L2.St} {δ : List (Option D)} {fp : List Addr} : OwnS c ha G H σ δ fp → OwnS c ha G H (o :: σ) (none :: δ) fp
  | me {a : Addr} {σ : L2.St} {δ : List (Option D)} {fp : List Addr} : ha = some a → OwnS c ha G H σ δ fp → OwnS c ha G H (some (.ref a) :: σ) (some .me :: δ) fp
  | ex {a C : Addr} {dd : Option Addr} {n : Str} {fs : List (Str × D)} {fx : List Addr} {σ : L2.St} {δ : List (Option D)} {fp : List Addr} : c.xa = some (a, .ref C, dd) → c.mg n = some (.ref C) → ExH c ha G H dd C fs fx → OwnS c ha G H σ δ fp → OwnS c ha G H (some (.ref a) :: σ) (some (.ex n fs) :: δ) (fx ++ fp)
  | some {v : V} {d : D} {f : List Addr} {σ : L2.St} {δ : List (Option D)} {fp : List Addr} : Own c ha G H v d f → OwnS c ha G H σ δ fp → OwnS c ha G H (some v :: σ) (some d :: δ) (f ++ fp)
section
variable {c : Cn} {ha : Option Addr} {G G' H H' G1 H1 : Hp}
theorem own_keep (s : Same G G') {v : V} {d : D} {fp : List Addr} (h : Own c ha G H v d fp) : (∀ b ∈ fp, H' b = H b ∧ G' b = none) → Own c ha G' H' v d fp := by
  refine Own.rec (motive_1 := fun v d fp _ => (∀ b ∈ fp, H' b = H b ∧ G' b = none) → Own c ha G' H' v d fp) (motive_2 := fun xs ds fp _ => (∀ b ∈ fp, H' b = H b ∧ G' b = none) → OwnAll c ha G' H' xs ds fp) ?_ ?_ ?_ ?_ h
  · exact fun h _ => .frz (dq_mono s h)
  · exact fun h1 h2 _ ih k => .hl ((k _ List.mem_cons_self).1.trans h1) (k _ List.mem_cons_self).2 (ih fun b hb => k b (List.mem_cons_of_mem _ hb))
  · exact fun _ => .nil
  · exact fun _ _ i1 i2 k => .cons (i1 fun b hb => k b (List.mem_append_left _ hb)) (i2 fun b hb => k b (List.mem_append_right _ hb))
theorem ownAll_keep (s : Same G G') : ∀ {xs : List V} {ds : List D} {fp : List Addr}, OwnAll c ha G H xs ds fp → (∀ b ∈ fp, H' b = H b ∧ G' b = none) → OwnAll c ha G' H' xs ds fp
  | _, _, _, .nil, _ => .nil
  | _, _, _, .cons h t, k => .cons (own_keep s h fun b hb => k b (List.mem_append_left _ hb)) (ownAll_keep s t fun b hb => k b (List.mem_append_right _ hb))
theorem exh_keep (s : Same G G') {dd : Option Addr} {C : Addr} {fs : List (Str × D)} {fx : List Addr} (x : ExH c ha G H dd C fs fx) (k : ∀ b ∈ fx, H' b = H b ∧ G' b = none) : ExH c ha G' H' dd C fs fx := by
  cases x with
  | none => exact .none
  | some h1 h2 h3 => exact .some ((k _ List.mem_cons_self).1.trans h1) (k _ List.mem_cons_self).2 (dqF_mono s h3)
theorem exh_at {dd : Option Addr} {C : Addr} {fs : List (Str × D)} {fx : List Addr} (x : ExH c ha G H dd C fs fx) : ∀ b ∈ fx, G b = none ∧ H b ≠ none := by
  cases x with
  | none => exact fun b hb => nomatch hb
  | some h1 h2 h3 => exact fun b hb => by rw [List.mem_singleton.mp hb]; exact ⟨h2, some_ne h1⟩
theorem ownS_keep (s : Same G G') : ∀ {σ : L2.St} {δ : List (Option D)} {fp : List Addr}, OwnS c ha G H σ δ fp → (∀ b ∈ fp, H' b = H b ∧ G' b = none) → OwnS c ha G' H' σ δ fp
  | _, _, _, .nil, _ => .nil
  | _, _, _, .non o t, k => .non o (ownS_keep s t k)
  | _, _, _, .me e t, k => .me e (ownS_keep s t k)
  | _, _, _, .ex e m x t, k => .ex e m (exh_keep s x fun b hb => k b (List.mem_append_left _ hb)) (ownS_keep s t fun b hb => k b (List.mem_append_right _ hb))
  | _, _, _, .some h t, k => .some (own_keep s h fun b hb => k b (List.mem_append_left _ hb)) (ownS_keep s t fun b hb => k b (List.mem_append_right _ hb))
theorem own_at {v : V} {d : D} {fp : List Addr} (h : Own c ha G H v d fp) : ∀ b ∈ fp, G b = none ∧ H b ≠ none := by
  refine Own.rec (motive_1 := fun v d fp _ => ∀ b ∈ fp, G b = none ∧ H b ≠ none) (motive_2 := fun xs ds fp _ => ∀ b ∈ fp, G b = none ∧ H b ≠ none) ?_ ?_ ?_ ?_ h
  · exact fun _ b hb => nomatch hb
  · intro a xs ds fp h1 h2 _ ih b hb
    rcases List.mem_cons.mp hb with e | hb
    · subst e
      exact ⟨h2, some_ne h1⟩
    · exact ih b hb
  · exact fun b hb => nomatch hb
  · exact fun _ _ i1 i2 b hb => (List.mem_append.mp hb).elim (i1 b) (i2 b)
theorem ownAll_at : ∀ {xs : List V} {ds : List D} {fp : List Addr}, OwnAll c ha G H xs ds fp → ∀ b ∈ fp, G b = none ∧ H b ≠ none
  | _, _, _, .nil, b, hb => nomatch hb
  | _, _, _, .cons h t, b, hb => (List.mem_append.mp hb).elim (own_at h b) (ownAll_at t b)
theorem ownS_at : ∀ {σ : L2.St} {δ : List (Option D)} {fp : List Addr}, OwnS c ha G H σ δ fp → ∀ b ∈ fp, G b = none ∧ H b ≠ none
  | _, _, _, .nil, b, hb => nomatch hb
  | _, _, _, .non o t, b, hb => ownS_at t b hb
  | _, _, _, .me e t, b, hb => ownS_at t b hb
  | _, _, _, .ex e m x t, b, hb => (List.mem_append.mp hb).elim (exh_at x b) (ownS_at t b)
  | _, _, _, .some h t, b, hb => (List.mem_append.mp hb).elim (own_at h b) (ownS_at t b)
theorem ownAll_of : ∀ {xs : List V} {ds : List D}, DqAll c ha G xs ds → OwnAll c ha G H xs ds []
  | _, _, .nil => .nil
  | _, _, .cons h t => .cons (f := []) (fp := []) (.frz h) (ownAll_of t)
theorem ownAll_len : ∀ {xs : List V} {ds : List D} {fp : List Addr}, OwnAll c ha G H xs ds fp → xs.length = ds.length
  | _, _, _, .nil => rfl
  | _, _, _, .cons _ t => congrArg Nat.succ (ownAll_len t)
theorem ownS_len : ∀ {σ : L2.St} {δ : List (Option D)} {fp : List Addr}, OwnS c ha G H σ δ fp → σ.length = δ.length
  | _, _, _, .nil => rfl
  | _, _, _, .non o t => congrArg Nat.succ (ownS_len t)
  | _, _, _, .me e t => congrArg Nat.succ (ownS_len t)
  | _, _, _, .ex e m x t => congrArg Nat.succ (ownS_len t)
  | _, _, _, .some h t => congrArg Nat.succ (ownS_len t)
/-- not a held list -/
def D.fr : D → Bool
  | .hl _ => false
  | .me => false
  | .ex _ _ => false
  | _ => true
/-- a thing that a slot may hold by itself -/
def D.nm : D → Bool
  | .me => false
  | .ex _ _ => false
  | _ => true
theorem fr_nm {d : D} (h : d.fr = true) : d.nm = true := by cases d <;> first | rfl | cases h
theorem own_fr {v : V} {d : D} {fp : List Addr} (h : Own c ha G H v d fp) (f : d.fr = true) : Dq c ha G v d ∧ fp = [] := by
  cases h with
  | frz h => exact ⟨h, rfl⟩
  | hl _ _ _ => cases f
theorem dq_fr {v : V} {d : D} (h : Dq c ha G v d) : d.fr = true := by cases h <;> rfl
theorem ownAll_fr : ∀ {xs : List V} {ds : List D} {fp : List Addr}, OwnAll c ha G H xs ds fp → ds.all D.fr = true → DqAll c ha G xs ds ∧ fp = []
  | _, _, _, .nil, _ => ⟨.nil, rfl⟩
  | _, _, _, .cons h t, f => by
    rw [List.all_cons, Bool.and_eq_true] at f
    obtain ⟨h1, rfl⟩ := own_fr h f.1
    obtain ⟨h2, rfl⟩ := ownAll_fr t f.2
    exact ⟨.cons h1 h2, rfl⟩
theorem dqAll_fr : ∀ {xs : List V} {ds : List D}, DqAll c ha G xs ds → ds.all D.fr = true
  | _, _, .nil => rfl
  | _, _, .cons h t => by rw [List.all_cons, dq_fr h, dqAll_fr t]; rfl
/-- a slot, and the others -/
theorem ownS_slot : ∀ {i : Nat} {σ : L2.St} {δ : List (Option D)} {fp : List Addr} {d : D}, OwnS c ha G H σ δ fp → δ[i]? = some (some d) → d.nm = true →
    ∃ v f1 f f2, σ[i]? = some (some v) ∧ fp = f1 ++ (f ++ f2) ∧ Own c ha G H v d f ∧ ∀ {G' H' : Hp} {f' : List Addr} {v' : V} {d' : D}, Same G G' → (∀ b ∈ f1 ++ f2, H' b = H b ∧ G' b = none) → Own c ha G' H' v' d' f' → OwnS c ha G' H' (σ.set i (some v')) (δ.set i (some d')) (f1 ++ (f' ++ f2))
  | i, _, _, _, _, .nil, e, _ => by simp at e
  | 0, _, _, _, _, .non o t, e, _ => by simp at e
  | 0, _, _, _, _, .me _ t, e, n => by
    have z : _ = _ := Option.some.inj (Option.some.inj e)
    subst z
    cases n
  | 0, _, _, _, _, .ex _ _ _ t, e, n => by
    have z : _ = _ := Option.some.inj (Option.some.inj e)
    subst z
    cases n
  | 0, _, _, _, _, .some h t, e, _ => by
    have z : _ = _ := Option.some.inj (Option.some.inj e)
    subst z
    refine ⟨_, [], _, _, rfl, rfl, h, fun s k h' => ?_⟩
    rw [List.nil_append]
    exact OwnS.some h' (ownS_keep s t k)
  | i + 1, _, _, _, _, .non o t, e, n => by
    obtain ⟨v, f1, f, f2, h1, h2, h3, h4⟩ := ownS_slot (i := i) t e n
    exact ⟨v, f1, f, f2, h1, h2, h3, fun s k h' => .non o (h4 s k h')⟩
  | i + 1, _, _, _, _, .me o t, e, n => by
    obtain ⟨v, f1, f, f2, h1, h2, h3, h4⟩ := ownS_slot (i := i) t e n
    exact ⟨v, f1, f, f2, h1, h2, h3, fun s k h' => .me o (h4 s k h')⟩
  | i + 1, _, _, _, _, .ex (fx := g) o m x t, e, n => by
    obtain ⟨v, f1, f, f2, h1, rfl, h3, h4⟩ := ownS_slot (i := i) t e n
    refine ⟨v, g ++ f1, f, f2, h1, by rw [List.append_assoc], h3, fun s k h' => ?_⟩
    rw [List.append_assoc]
    exact .ex o m (exh_keep s x fun b hb => k b (List.mem_append_left _ (List.mem_append_left _ hb))) (h4 s (fun b hb => k b (by rw [List.append_assoc]; exact List.mem_append_right _ hb)) h')
  | i + 1, _, _, _, _, .some (f := g) h t, e, n => by
    obtain ⟨v, f1, f, f2, h1, rfl, h3, h4⟩ := ownS_slot (i := i) t e n
    refine ⟨v, g ++ f1, f, f2, h1, by rw [List.append_assoc], h3, fun s k h' => ?_⟩
    rw [List.append_assoc]
    exact .some (own_keep s h fun b hb => k b (List.mem_append_left _ (List.mem_append_left _ hb))) (h4 s (fun b hb => k b (by rw [List.append_assoc]; exact List.mem_append_right _ hb)) h')
theorem ownS_me : ∀ {i : Nat} {σ : L2.St} {δ : List (Option D)} {fp : List Addr}, OwnS c ha G H σ δ fp → δ[i]? = some (some .me) → ∃ a, σ[i]? = some (some (.ref a)) ∧ ha = some a
  | i, _, _, _, .nil, e => by simp at e
  | 0, _, _, _, .non o t, e => by simp at e
  | 0, _, _, _, .me (a := a) h t, e => ⟨a, rfl, h⟩
  | 0, _, _, _, .ex _ _ _ t, e => by
    have z : _ = _ := Option.some.inj (Option.some.inj e)
    cases z
  | 0, _, _, _, .some h t, e => by
    have z : _ = _ := Option.some.inj (Option.some.inj e)
    subst z
    cases h with
    | frz h => cases h
  | i + 1, _, _, _, .non o t, e => ownS_me (i := i) t e
  | i + 1, _, _, _, .me o t, e => ownS_me (i := i) t e
  | i + 1, _, _, _, .ex _ _ _ t, e => ownS_me (i := i) t e
  | i + 1, _, _, _, .some o t, e => ownS_me (i := i) t e
theorem ownS_ex : ∀ {i : Nat} {σ : L2.St} {δ : List (Option D)} {fp : List Addr} {n : Str} {fs : List (Str × D)}, OwnS c ha G H σ δ fp → δ[i]? = some (some (.ex n fs)) → ∃ a dd C fx, σ[i]? = some (some (.ref a)) ∧ c.xa = some (a, .ref C, dd) ∧ c.mg n = some (.ref C) ∧ ExH c ha G H dd C fs fx
  | i, _, _, _, _, _, .nil, e => by simp at e
  | 0, _, _, _, _, _, .non o t, e => by simp at e
  | 0, _, _, _, _, _, .me h t, e => by
    have z : _ = _ := Option.some.inj (Option.some.inj e)
    cases z
  | 0, _, _, _, _, _, .ex (a := a) h m x t, e => by
    have z : _ = _ := Option.some.inj (Option.some.inj e)
    cases z
    exact ⟨a, _, _, _, rfl, h, m, x⟩
  | 0, _, _, _, _, _, .some h t, e => by
    have z : _ = _ := Option.some.inj (Option.some.inj e)
    subst z
    cases h with
    | frz h => cases h
  | i + 1, _, _, _, _, _, .non o t, e => ownS_ex (i := i) t e
  | i + 1, _, _, _, _, _, .me o t, e => ownS_ex (i := i) t e
  | i + 1, _, _, _, _, _, .ex _ _ _ t, e => ownS_ex (i := i) t e
  | i + 1, _, _, _, _, _, .some o t, e => ownS_ex (i := i) t e
/-- a slot is stored -/
theorem ownS_set {v : V} {d : D} {f : List Addr} (r : Own c ha G H v d f) : ∀ {i : Nat} {σ : L2.St} {δ : List (Option D)} {fp : List Addr}, OwnS c ha G H σ δ fp → ∃ fp' : List Addr, OwnS c ha G H (σ.set i (some v)) (δ.set i (some d)) fp' ∧ ∀ (l : List Addr), (f ++ (l ++ fp)).Nodup → (l ++ fp').Nodup ∧ ∀ b ∈ fp', b ∈ f ∨ b ∈ fp
  | i, _, _, _, .nil => ⟨[], .nil, fun l n => ⟨(List.nodup_append.mp n).2.1, fun b hb => nomatch hb⟩⟩
  | 0, _, _, _, .non (fp := fp) o t => ⟨f ++ fp, .some r t, fun l n => by
    refine ⟨?_, fun b hb => List.mem_append.mp hb⟩
    have p : (f ++ (l ++ fp)).Perm (l ++ (f ++ fp)) := by
      rw [← List.append_assoc, ← List.append_assoc]
      exact (List.perm_append_comm).append_right _
    exact p.nodup_iff.mp n⟩
  | 0, _, _, _, .me (fp := fp) o t => ⟨f ++ fp, .some r t, fun l n => by
    refine ⟨?_, fun b hb => List.mem_append.mp hb⟩
    have p : (f ++ (l ++ fp)).Perm (l ++ (f ++ fp)) := by
      rw [← List.append_assoc, ← List.append_assoc]
      exact (List.perm_append_comm).append_right _
    exact p.nodup_iff.mp n⟩
  | 0, _, _, _, .ex (fx := g) (fp := fp) _ _ _ t => ⟨f ++ fp, .some r t, fun l n => by
    refine ⟨?_, fun b hb => (List.mem_append.mp hb).imp id fun z => List.mem_append_right _ z⟩
    have p : (f ++ (l ++ (g ++ fp))).Perm (g ++ (l ++ (f ++ fp))) := by
      refine (List.Perm.trans ?_ (List.perm_append_comm (l₁ := l ++ (f ++ fp)) (l₂ := g)))
      refine (List.perm_append_comm).trans ?_
      rw [List.append_assoc, List.append_assoc, List.append_assoc, List.append_assoc]
      refine List.Perm.append_left l ?_
      refine (List.perm_append_comm).trans ?_
      rw [List.append_assoc]
      rw [← List.append_assoc, ← List.append_assoc f]
      exact List.Perm.append_right _ List.perm_append_comm
    exact (List.nodup_append.mp (p.nodup_iff.mp n)).2.1⟩
  | 0, _, _, _, .some (f := g) (fp := fp) h t => ⟨f ++ fp, .some r t, fun l n => by
    refine ⟨?_, fun b hb => (List.mem_append.mp hb).imp id fun z => List.mem_append_right _ z⟩
    have p : (f ++ (l ++ (g ++ fp))).Perm (g ++ (l ++ (f ++ fp))) := by
      refine (List.Perm.trans ?_ (List.perm_append_comm (l₁ := l ++ (f ++ fp)) (l₂ := g)))
      refine (List.perm_append_comm).trans ?_
      rw [List.append_assoc, List.append_assoc, List.append_assoc, List.append_assoc]
      refine List.Perm.append_left l ?_
      refine (List.perm_append_comm).trans ?_
      rw [List.append_assoc]
      rw [← List.append_assoc, ← List.append_assoc f]
      exact List.Perm.append_right _ List.perm_append_comm
    exact (List.nodup_append.mp (p.nodup_iff.mp n)).2.1⟩
  | i + 1, _, _, _, .non o t => by
    obtain ⟨fp', h1, h2⟩ := ownS_set r (i := i) t
    exact ⟨fp', .non o h1, h2⟩
  | i + 1, _, _, _, .me o t => by
    obtain ⟨fp', h1, h2⟩ := ownS_set r (i := i) t
    exact ⟨fp', .me o h1, h2⟩
  | i + 1, _, _, _, .ex (fx := g) (fp := fp) o m x t => by
    obtain ⟨fp', h1, h2⟩ := ownS_set r (i := i) t
    refine ⟨g ++ fp', .ex o m x h1, fun l n => ?_⟩
    have n2 : (f ++ ((l ++ g) ++ fp)).Nodup := by rw [List.append_assoc l]; exact n
    obtain ⟨q1, q2⟩ := h2 (l ++ g) n2
    refine ⟨by rw [← List.append_assoc]; exact q1, fun b hb => ?_⟩
    rcases List.mem_append.mp hb with hb | hb
    · exact .inr (List.mem_append_left _ hb)
    · exact (q2 b hb).imp id fun z => List.mem_append_right _ z
  | i + 1, _, _, _, .some (f := g) (fp := fp) h t => by
    obtain ⟨fp', h1, h2⟩ := ownS_set r (i := i) t
    refine ⟨g ++ fp', .some h h1, fun l n => ?_⟩
    have n2 : (f ++ ((l ++ g) ++ fp)).Nodup := by rw [List.append_assoc l]; exact n
    obtain ⟨q1, q2⟩ := h2 (l ++ g) n2
    refine ⟨by rw [← List.append_assoc]; exact q1, fun b hb => ?_⟩
    rcases List.mem_append.mp hb with hb | hb
    · exact .inr (List.mem_append_left _ hb)
    · exact (q2 b hb).imp id fun z => List.mem_append_right _ z
/-- a slot is forgotten -/
theorem ownS_wipe : ∀ {i : Nat} {σ : L2.St} {δ : List (Option D)} {fp : List Addr} (o : Option V), OwnS c ha G H σ δ fp → ∃ fp', OwnS c ha G H (σ.set i o) (δ.set i none) fp' ∧ fp'.Sublist fp
  | i, _, _, _, o, .nil => ⟨[], .nil, List.Sublist.refl _⟩
  | 0, _, _, _, o, .non _ t => ⟨_, .non o t, List.Sublist.refl _⟩
  | 0, _, _, _, o, .me _ t => ⟨_, .non o t, List.Sublist.refl _⟩
  | 0, _, _, _, o, .ex _ _ _ t => ⟨_, .non o t, List.sublist_append_right ..⟩
  | 0, _, _, _, o, .some h t => ⟨_, .non o t, List.sublist_append_right ..⟩
  | i + 1, _, _, _, o, .non o' t => by
    obtain ⟨fp', h1, h2⟩ := ownS_wipe (i := i) o t
    exact ⟨fp', .non o' h1, h2⟩
  | i + 1, _, _, _, o, .me e t => by
    obtain ⟨fp', h1, h2⟩ := ownS_wipe (i := i) o t
    exact ⟨fp', .me e h1, h2⟩
  | i + 1, _, _, _, o, .ex e m x t => by
    obtain ⟨fp', h1, h2⟩ := ownS_wipe (i := i) o t
    exact ⟨_, .ex e m x h1, List.Sublist.append (List.Sublist.refl _) h2⟩
  | i + 1, _, _, _, o, .some h t => by
    obtain ⟨fp', h1, h2⟩ := ownS_wipe (i := i) o t
    exact ⟨_, .some h h1, List.Sublist.append (List.Sublist.refl _) h2⟩
/-- an item of a held list -/
theorem ownAll_item : ∀ {i : Nat} {xs : List V} {ds : List D} {fp : List Addr} {d : D}, OwnAll c ha G H xs ds fp → ds[i]? = some d →
    ∃ v f1 f f2, xs[i]? = some v ∧ fp = f1 ++ (f ++ f2) ∧ Own c ha G H v d f ∧ ∀ {G' H' : Hp} {f' : List Addr} {v' : V} {d' : D}, Same G G' → (∀ b ∈ f1 ++ f2, H' b = H b ∧ G' b = none) → Own c ha G' H' v' d' f' → OwnAll c ha G' H' (xs.set i v') (ds.set i d') (f1 ++ (f' ++ f2))
  | i, _, _, _, _, .nil, e => by simp at e
  | 0, _, _, _, _, .cons h t, e => by
    have z := Option.some.inj e
    subst z
    refine ⟨_, [], _, _, rfl, rfl, h, fun s k h' => ?_⟩
    rw [List.nil_append]
    exact OwnAll.cons h' (ownAll_keep s t k)
  | i + 1, _, _, _, _, .cons (f := g) h t, e => by
    obtain ⟨v, f1, f, f2, h1, rfl, h3, h4⟩ := ownAll_item (i := i) t e
    refine ⟨v, g ++ f1, f, f2, h1, by rw [List.append_assoc], h3, fun s k h' => ?_⟩
    rw [List.append_assoc]
    exact .cons (own_keep s h fun b hb => k b (List.mem_append_left _ (List.mem_append_left _ hb))) (h4 s (fun b hb => k b (by rw [List.append_assoc]; exact List.mem_append_right _ hb)) h')
theorem ownAll_app : ∀ {xs ys : List V} {ds es : List D} {f g : List Addr}, OwnAll c ha G H xs ds f → OwnAll c ha G H ys es g → OwnAll c ha G H (xs ++ ys) (ds ++ es) (f ++ g)
  | _, _, _, _, _, _, .nil, k => k
  | _, _, _, _, _, _, .cons (f := f) h t, k => by
    rw [List.append_assoc]
    exact .cons h (ownAll_app t k)
end
inductive Hok (c : Cn) (ha : Option Addr) (G H : Hp) : D → Prop
  | non : ha = none → Hok c ha G H .non
  | hand {a : Addr} {xs : List V} {ds : List D} : ha = some a → G a = none → H a = some (.lst xs) → DqAll c ha G xs ds → Hok c ha G H (.hl ds)
  | self {a C dx : Addr} {n : Str} {xs : List (Str × V)} {fs : List (Str × D)} : ha = some a → G a = none → c.mg n = some (.ref C) → COk c.K C → H a = some (.ins C dx xs) → DqF c ha G C xs fs → Hok c ha G H (.ins n fs)
theorem hok_at {c : Cn} {a : Addr} {G H : Hp} {h : D} (x : Hok c (some a) G H h) : G a = none ∧ H a ≠ none := by
  cases x with
  | non e => cases e
  | hand e g h _ => cases e; exact ⟨g, some_ne h⟩
  | self e g _ _ h _ => cases e; exact ⟨g, some_ne h⟩
theorem hok_keep {c : Cn} {ha : Option Addr} {G G' H H' : Hp} {h : D} (x : Hok c ha G H h) (s : Same G G') (k : ∀ a, ha = some a → G' a = none ∧ H' a = H a) : Hok c ha G' H' h := by
  cases x with
  | non e => exact .non e
  | hand e g h d => exact .hand e (k _ e).1 ((k _ e).2.trans h) (dqAll_mono s d)
  | self e g m cl h d => exact .self e (k _ e).1 m cl ((k _ e).2.trans h) (dqF_mono s d)
/-- the state of a body: G0, B the view and the heap at its entry -/
structure Sta (c : Cn) (ha : Option Addr) (G0 B G H : Hp) (σ : L2.St) (δ : List (Option D)) (h : D) : Prop where
  sl : ∃ fp, OwnS c ha G H σ δ fp ∧ fp.Nodup ∧ ∀ a ∈ fp, B a = none ∧ ha ≠ some a
  mv : Mv G0 B G H
  bt : ∀ b o, ha ≠ some b → B b = some o → H b = some o
  hd : Hok c ha G H h
  hb : ∀ a, ha = some a → B a ≠ none
/-- what an expression does to a heap -/
structure Af (c : Cn) (ha : Option Addr) (G H G' H' : Hp) (h' : D) : Prop where
  mv : Mv G H G' H'
  bt : ∀ b o, ha ≠ some b → H b = some o → H' b = some o
  hd : Hok c ha G' H' h'
section
variable {c : Cn} {ha : Option Addr} {G0 B G H G1 H1 G2 H2 G' H' : Hp} {σ : L2.St} {δ : List (Option D)} {h h1 h2 h' : D}
theorem Sta.gh (s : Sta c ha G0 B G H σ δ h) : Same G H := s.mv.gh
theorem Af.refl (s : Same G H) (k : Hok c ha G H h) : Af c ha G H G H h := ⟨Mv.refl s, fun _ _ _ e => e, k⟩
theorem Sta.here (s : Sta c ha G0 B G H σ δ h) : Af c ha G H G H h := .refl s.gh s.hd
theorem Af.trans (x : Af c ha G H G1 H1 h1) (y : Af c ha G1 H1 G2 H2 h2) : Af c ha G H G2 H2 h2 := ⟨x.mv.trans y.mv, fun b o n e => y.bt b o n (x.bt b o n e), y.hd⟩
theorem Af.gg (x : Af c ha G H G1 H1 h1) : Same G G1 := x.mv.gg
theorem Af.gh (x : Af c ha G H G1 H1 h1) : Same G1 H1 := x.mv.gh
theorem Sta.to (s : Sta c ha G0 B G H σ δ h) (x : Af c ha G H G' H' h') : Sta c ha G0 B G' H' σ δ h' := by
  obtain ⟨fp, o, n, k⟩ := s.sl
  refine ⟨⟨fp, ownS_keep x.gg o fun b hb => ?_, n, k⟩, s.mv.trans x.mv, fun b o n e => x.bt b o n (s.bt b o n e), x.hd, s.hb⟩
  obtain ⟨g, hne⟩ := ownS_at o b hb
  obtain ⟨u, e⟩ := ne_some hne
  exact ⟨by rw [e]; exact x.bt b u (k b hb).2 e, (x.mv.nw b hne).trans g⟩
/-- an expression that changes nothing of what stands -/
theorem Af.of (s : Same G H) (k : Hok c ha G H h) (m : Mv G H G' H') (t : Same H H') : Af c ha G H G' H' h := by
  refine ⟨m, fun b o _ e => t b o e, hok_keep k m.gg fun a e => ?_⟩
  subst e
  obtain ⟨g, hne⟩ := hok_at k
  obtain ⟨u, e⟩ := ne_some hne
  exact ⟨(m.nw a hne).trans g, by rw [e]; exact t a u e⟩
theorem Af.ha_keep (x : Af c ha G H G' H' h') {h0 : D} (k : Hok c ha G H h0) : ∀ a, ha = some a → G' a = none := fun a e => by
  subst e
  obtain ⟨g, hne⟩ := hok_at k
  exact (x.mv.nw a hne).trans g
end
end Fw
namespace Fw
open PySem PySem.Spec PyProof.Rows L2 Vz
/-- what comes of an expression: a thing and the handed thing behind it; an exception; or nothing that is known -/
inductive Ex (α : Type) where
  | ok (a : α) (h : D)
  | exc (n : Str) (fs : List (Str × D)) (h : D)
  | bad
def Ex.bind {α β : Type} (r : Ex α) (k : α → D → Ex β) : Ex β := match r with
  | .ok a h => k a h
  | .exc n fs h => .exc n fs h
  | .bad => .bad
def Ex.of {α : Type} (o : Option α) (h : D) : Ex α := match o with
  | some a => .ok a h
  | none => .bad
abbrev DE := List (Option D)
abbrev EF (α : Type) := DE → D → Ex α
/-- an exception's fields -/
def XR (c : Cn) (ha : Option Addr) (G H0 H : Hp) (C : Addr) (dd : Option Addr) (fs : List (Str × D)) : Prop := (fs = [] ∧ dd = none) ∨ ∃ d xs, dd = some d ∧ H d = some (.xd xs) ∧ G d = none ∧ H0 d = none ∧ DqF c ha G C xs fs
def Post {α : Type} (c : Cn) (ha : Option Addr) (W : WX) (σ : L2.St) (G H : Hp) (r : Ex α) (k : α → D → Hp → Hp → Prop) : Prop := match r with
  | .ok a h' => ∀ G' H', Af c ha G H G' H' h' → k a h' G' H'
  | .exc n fs h' => ∀ C dd G' H', Af c ha G H G' H' h' → c.mg n = some (.ref C) → XR c ha G' H H' C dd fs → W (.ref C) dd σ H'
  | .bad => False
section
variable {α β : Type} {c : Cn} {ha : Option Addr} {W : WX} {σ : L2.St} {G H G1 H1 G' H' : Hp} {h h' h1 : D}
theorem post_imp {r : Ex α} {k k' : α → D → Hp → Hp → Prop} (p : Post c ha W σ G H r k) (i : ∀ a h' G' H', Af c ha G H G' H' h' → k a h' G' H' → k' a h' G' H') : Post c ha W σ G H r k' := by
  cases r with
  | ok a h' => exact fun G' H' af => i a h' G' H' af (p G' H' af)
  | exc n fs h' => exact p
  | bad => exact p
theorem XR.from {H0 H1 : Hp} {C : Addr} {dd : Option Addr} {fs : List (Str × D)} (k : ∀ d, H1 d = none → H0 d = none) (x : XR c ha G H1 H C dd fs) : XR c ha G H0 H C dd fs := by
  rcases x with x | ⟨d, xs, h1, h2, h3, h4, h5⟩
  · exact .inl x
  · exact .inr ⟨d, xs, h1, h2, h3, k d h4, h5⟩
theorem af_old {ha : Option Addr} {G H G1 H1 : Hp} {h1 : D} (af : Af c ha G H G1 H1 h1) {a : Addr} (e : H1 a = none) : H a = none := by
  cases z : H a with
  | none => rfl
  | some o => exact absurd e (af.mv.dm a (some_ne z))
theorem post_from {r : Ex α} {k : α → D → Hp → Hp → Prop} (af : Af c ha G H G1 H1 h1) (p : Post c ha W σ G H r k) : Post c ha W σ G1 H1 r k := by
  cases r with
  | ok a h' => exact fun G' H' af' => p G' H' (af.trans af')
  | exc n fs h' => exact fun C dd G' H' af' m x => p C dd G' H' (af.trans af') m (x.from fun _ e => af_old af e)
  | bad => exact p
theorem post_bind {r : Ex α} {f : α → D → Ex β} {k : β → D → Hp → Hp → Prop} (p : Post c ha W σ G H (r.bind f) k) : Post c ha W σ G H r fun a h1 G1 H1 => Post c ha W σ G1 H1 (f a h1) k := by
  cases r with
  | ok a h' => exact fun G1 H1 af => post_from af p
  | exc n fs h' => exact p
  | bad => exact p
theorem post_of {o : Option α} {k : α → D → Hp → Hp → Prop} (p : Post c ha W σ G H (Ex.of o h) k) : ∃ a, o = some a ∧ ∀ G' H', Af c ha G H G' H' h → k a h G' H' := by
  cases o with
  | some a => exact ⟨a, rfl, p⟩
  | none => exact p.elim
theorem post_ok {a : α} {k : α → D → Hp → Hp → Prop} (p : Post c ha W σ G H (.ok a h) k) (s : Same G H) (o : Hok c ha G H h) : k a h G H := p G H (.refl s o)
end
def rd (c : Cn) (W : WX) (f : EF D) : TE := fun σ H Q => ∃ ha G0 B G δ h, Sta c ha G0 B G H σ δ h ∧ Post c ha W σ G H (f δ h) fun d _ G' H' => ∀ v, Dq c ha G' v d → Q v H'
def rt (c : Cn) (W : WX) (f : EF Bool) : TT := fun σ H Q => ∃ ha G0 B G δ h, Sta c ha G0 B G H σ δ h ∧ Post c ha W σ G H (f δ h) fun b _ _ H' => Q b H'
def ra (c : Cn) (W : WX) (f : EF (List D)) : TA := fun σ H Q => ∃ ha G0 B G δ h, Sta c ha G0 B G H σ δ h ∧ Post c ha W σ G H (f δ h) fun ds _ G' H' => ∀ vs, DqAll c ha G' vs ds → Q vs H'
/-- a thing at rest, or a new list of things at rest -/
def Nw (c : Cn) (ha : Option Addr) (H G' H' : Hp) (v : V) (d : D) : Prop := Dq c ha G' v d ∨ ∃ a xs ds, v = .ref a ∧ d = .hl ds ∧ H' a = some (.lst xs) ∧ G' a = none ∧ H a = none ∧ DqAll c ha G' xs ds
def rn (c : Cn) (W : WX) (f : EF D) : TE := fun σ H Q => ∃ ha G0 B G δ h, Sta c ha G0 B G H σ δ h ∧ Post c ha W σ G H (f δ h) fun d _ G' H' => ∀ v, Nw c ha H G' H' v d → Q v H'
section
variable {X : Cx} {W : WX} {c : Cn} {e a b : Expr} {es : List Expr} {pos : Pos} {ta tb te : TE} {t : TT} {f fa fb : EF D} {g ga gb : EF Bool}
theorem pe_to (p : PE X e te) (i : ∀ σ H Q, rd c W f σ H Q → te σ H Q) : PE X e (rd c W f) := ⟨fun pins s σ H Q I h => p.run pins s σ H Q I (i σ H Q h)⟩
theorem pn_to (p : PE X e te) (i : ∀ σ H Q, rn c W f σ H Q → te σ H Q) : PE X e (rn c W f) := ⟨fun pins s σ H Q I h => p.run pins s σ H Q I (i σ H Q h)⟩
theorem pt_to (p : PT X e t) (i : ∀ σ H Q, rt c W g σ H Q → t σ H Q) : PT X e (rt c W g) := ⟨fun pins s σ H Q I h => p.run pins s σ H Q I (i σ H Q h)⟩
theorem pa_to {t : TA} {f : EF (List D)} (p : PA X es t) (i : ∀ σ H Q, ra c W f σ H Q → t σ H Q) : PA X es (ra c W f) := ⟨fun ps pins s σ H Q I h => p.run ps pins s σ H Q I (i σ H Q h)⟩
def eV (i : Nat) : EF D := fun δ h => match δ[i]? with
  | some (some d) => if d.fr then .ok d h else .bad
  | _ => .bad
theorem rd_var {i : Nat} (σ : L2.St) (H : Hp) (Q : VK) (x : rd c W (eV i) σ H Q) : tVar i σ H Q := by
  obtain ⟨ha, G0, B, G, δ, h, st, p⟩ := x
  unfold eV at p
  split at p
  · rename_i d e
    split at p
    · rename_i hf
      obtain ⟨fp, o, n, k⟩ := st.sl
      obtain ⟨v, f1, f, f2, h1, _, h3, _⟩ := ownS_slot o e (fr_nm hf)
      exact ⟨v, h1, post_ok p st.gh st.hd v (own_fr h3 hf).1⟩
    · exact p.elim
  · exact p.elim
theorem dx_v {i : Nat} {x : Str} (hN : X.N[i]? = some x) (hv : Vis X.env.scope x) (hd : (x == ("__debug__" : Str)) = false := by decide) (hcd : (x == ("__classdict__" : Str)) = false := by decide) : PE X (.Name x pos) (rd c W (eV i)) := pe_to (pe_var hN hv hd hcd) rd_var
def eC (d : D) : EF D := fun _ h => .ok d h
theorem dx_c {v : V} {d : D} (p : PE X e (tC v)) (k : ∀ ha G, Dq c ha G v d) : PE X e (rd c W (eC d)) := pe_to p fun σ H Q ⟨ha, G0, B, G, δ, h, st, q⟩ => post_ok q st.gh st.hd v (k ha G)
theorem dx_i {i j} : PE X (.Constant (.int i) j pos) (rd c W (eC (.int i))) := dx_c pe_int fun _ _ => .int i
theorem dx_b {b : Bool} {j} : PE X (.Constant (.bool b) j pos) (rd c W (eC (.bl b))) := dx_c pe_bl fun _ _ => .bl b
theorem dx_n {j} : PE X (.Constant .none j pos) (rd c W (eC .non)) := dx_c pe_non fun _ _ => .non
theorem dx_s {x : Str} {j} : PE X (.Constant (.str x) j pos) (rd c W (eC (.str x))) := dx_c pe_str fun _ _ => .str x
def eOp (f : D → D → Option D) (fa fb : EF D) : EF D := fun δ h => (fa δ h).bind fun x h1 => (fb δ h1).bind fun y h2 => Ex.of (f x y) h2
/-- what an operation's rule asks is there where it gives something -/
def OpD (c : Cn) (r : R2) (f : D → D → Option D) : Prop := ∀ {ha : Option Addr} {G H : Hp} {x y d : D} {v w : V} {Q : VK}, Same G H → Dq c ha G v x → Dq c ha G w y → f x y = some d → (∀ u G' H', Mv G H G' H' → Same H H' → Dq c ha G' u d → Q u H') → r v w H Q
theorem rd_op {r : R2} {f : D → D → Option D} (hr : OpD c r f) (σ : L2.St) (H : Hp) (Q : VK) (x : rd c W (eOp f fa fb) σ H Q) : tOp r (rd c W fa) (rd c W fb) σ H Q := by
  obtain ⟨ha, G0, B, G, δ, h, st, p⟩ := x
  refine ⟨ha, G0, B, G, δ, h, st, post_imp (post_bind p) fun x h1 G1 H1 af1 p1 v dv => ?_⟩
  refine ⟨ha, G0, B, G1, δ, h1, st.to af1, post_imp (post_bind p1) fun y h2 G2 H2 af2 p2 w dw => ?_⟩
  obtain ⟨d, e, q⟩ := post_of p2
  exact hr af2.gh (dq_mono af2.gg dv) dw e fun u G' H' m s du => q G' H' (.of af2.gh af2.hd m s) u du
theorem dx_op {op : Operator} {r : R2} {f : D → D → Option D} (ho : OpR X (binaryOp op) r) (hr : OpD c r f) (ha : PE X a (rd c W fa)) (hb : PE X b (rd c W fb)) : PE X (.BinOp a op b pos) (rd c W (eOp f fa fb)) := pe_to (pe_op ho ha hb) (rd_op hr)
theorem dx_cmp {op : CmpOp} {r : R2} {f : D → D → Option D} (ho : OpR X (compareOp op) r) (hr : OpD c r f) (ha : PE X a (rd c W fa)) (hb : PE X b (rd c W fb)) (hm : behindInMarks op b = false := by rfl) : PE X (.Compare a [op] [b] pos) (rd c W (eOp f fa fb)) := pe_to (pe_cmpR ho ha hb hm) (rd_op hr)
def eUn (f : D → Option D) (fa : EF D) : EF D := fun δ h => (fa δ h).bind fun x h1 => Ex.of (f x) h1
/-- ints -/
def oI (g : Int → Int → Option D) : D → D → Option D
  | .int i, .int j => g i j
  | _, _ => none
theorem opd_I0 {g : Int → Int → V} {k : Int → Int → D} (e : ∀ ha G i j, Dq c ha G (g i j) (k i j)) : OpD c (rI0 g) (oI fun i j => some (k i j)) := by
  intro ha G H x y d v w Q s dx dy q fin
  cases dx <;> cases dy <;> first | cases q
  exact ⟨_, _, rfl, rfl, fin _ G H (Mv.refl s) (Same.refl _) (e _ _ _ _)⟩
theorem opd_I {C : Int → Int → Prop} {P : Int → Int → Bool} {g : Int → Int → V} {k : Int → Int → D} (e : ∀ ha G i j, Dq c ha G (g i j) (k i j)) (hC : ∀ i j, P i j = true → C i j) : OpD c (rI C g) (oI fun i j => if P i j then some (k i j) else none) := by
  intro ha G H x y d v w Q s dx dy q fin
  cases dx <;> cases dy <;> first | (cases q; done) | skip
  rename_i i j
  have q2 : (if P i j = true then some (k i j) else none) = some d := q
  by_cases hp : P i j = true
  · rw [if_pos hp] at q2
    cases q2
    exact ⟨_, _, rfl, rfl, hC _ _ hp, fin _ G H (Mv.refl s) (Same.refl _) (e _ _ _ _)⟩
  · rw [if_neg hp] at q2
    cases q2
def cMul (i j : Int) : Bool := decide (i.natAbs.log2 + j.natAbs.log2 < 1000000)
def cDiv (_ j : Int) : Bool := decide (j ≠ 0) && decide (j.natAbs.log2 < 9000)
def cMod (_ j : Int) : Bool := decide (j ≠ 0)
def cPow (i j : Int) : Bool := decide (0 ≤ j) && (decide (j ≤ 1000000) && decide (i.natAbs < 2 ^ 64))
theorem op_fdivG : OpR X (binaryOp .FloorDiv) (rI (fun _ j => j ≠ 0 ∧ j.natAbs.log2 < 9000) fun i j => .int (i.fdiv j)) := opI fun _ _ _ _ _ _ _ hc q => floordiv_int hc.1 q (.inl (PyProof.noPylong_of_log2 hc.2))
def oAdd := oI fun i j => some (.int (i + j))
def oSub := oI fun i j => some (.int (i - j))
def oMul := oI fun i j => if cMul i j then some (.int (i * j)) else none
def oDiv := oI fun i j => if cDiv i j then some (.int (i.fdiv j)) else none
def oMod := oI fun i j => if cMod i j then some (.int (i.fmod j)) else none
def oPow := oI fun i j => if cPow i j then some (.int (i ^ j.toNat)) else none
theorem d_add : OpD c (rI0 fun i j => .int (i + j)) oAdd := opd_I0 fun _ _ _ _ => .int _
theorem d_sub : OpD c (rI0 fun i j => .int (i - j)) oSub := opd_I0 fun _ _ _ _ => .int _
theorem d_mul : OpD c (rI CMulW fun i j => .int (i * j)) oMul := opd_I (fun _ _ _ _ => .int _) fun _ _ h => of_decide_eq_true h
theorem d_div : OpD c (rI (fun _ j => j ≠ 0 ∧ j.natAbs.log2 < 9000) fun i j => .int (i.fdiv j)) oDiv := opd_I (fun _ _ _ _ => .int _) fun _ _ h => by
  unfold cDiv at h
  rw [Bool.and_eq_true, decide_eq_true_eq, decide_eq_true_eq] at h
  exact h
theorem d_mod : OpD c (rI (fun _ j => j ≠ 0) fun i j => .int (i.fmod j)) oMod := opd_I (fun _ _ _ _ => .int _) fun _ _ h => of_decide_eq_true h
theorem d_pow : OpD c (rI CPow fun i j => .int (i ^ j.toNat)) oPow := opd_I (fun _ _ _ _ => .int _) fun _ _ h => by
  unfold cPow at h
  rw [Bool.and_eq_true, Bool.and_eq_true, decide_eq_true_eq, decide_eq_true_eq, decide_eq_true_eq] at h
  exact h
def oLt := oI fun i j => some (.bl (decide (i < j)))
def oLe := oI fun i j => some (.bl (decide (i ≤ j)))
def oGt := oI fun i j => some (.bl (decide (j < i)))
def oGe := oI fun i j => some (.bl (decide (j ≤ i)))
theorem d_lt : OpD c (rI0 fun i j => .bl (decide (i < j))) oLt := opd_I0 fun _ _ _ _ => .bl _
theorem d_le : OpD c (rI0 fun i j => .bl (decide (i ≤ j))) oLe := opd_I0 fun _ _ _ _ => .bl _
theorem d_gt : OpD c (rI0 fun i j => .bl (decide (j < i))) oGt := opd_I0 fun _ _ _ _ => .bl _
theorem d_ge : OpD c (rI0 fun i j => .bl (decide (j ≤ i))) oGe := opd_I0 fun _ _ _ _ => .bl _
mutual
def toPy : D → Option PyData
  | .non => some .none
  | .bl b => some (.bool b)
  | .int i => some (.int i)
  | .str x => some (.str x)
  | .tup ds => (toPyL ds).map .tuple
  | .lst ds => (toPyL ds).map .list
  | _ => none
def toPyL : List D → Option (List PyData)
  | [] => some []
  | d :: ds => match toPy d, toPyL ds with
    | some p, some ps => some (p :: ps)
    | _, _ => none
end
theorem dp_of {ha : Option Addr} {G : Hp} {v : V} {d : D} (h : Dq c ha G v d) : ∀ p, toPy d = some p → Dp c.K G v p := by
  refine Dq.rec (motive_1 := fun v d _ => ∀ p, toPy d = some p → Dp c.K G v p) (motive_2 := fun xs ds _ => ∀ ps, toPyL ds = some ps → DpAll c.K G xs ps) (motive_3 := fun _ _ _ _ => True) ?_ ?_ ?_ ?_ ?_ ?_ ?_ ?_ ?_ ?_ ?_ h
  · intro p e; unfold toPy at e; cases e; exact .non
  · intro b p e; unfold toPy at e; cases e; exact .bl b
  · intro i p e; unfold toPy at e; cases e; exact .int i
  · intro x p e; unfold toPy at e; cases e; exact .str x
  · intro a xs ds hs _ ih p e
    unfold toPy at e
    cases q : toPyL ds with
    | none => rw [q] at e; cases e
    | some ps => rw [q] at e; cases e; exact .tup hs (ih ps q)
  · intro a xs ds hs _ ih p e
    unfold toPy at e
    cases q : toPyL ds with
    | none => rw [q] at e; cases e
    | some ps => rw [q] at e; cases e; exact .lst (SqL.of hs) (ih ps q)
  · intro a C dx n xs fs _ _ _ _ _ p e; unfold toPy at e; cases e
  · intro ps e; unfold toPyL at e; cases e; exact .nil
  · intro v d xs ds _ _ ih1 ih2 ps e
    unfold toPyL at e
    cases q : toPy d with
    | none => rw [q] at e; cases e
    | some p =>
      cases q2 : toPyL ds with
      | none => rw [q, q2] at e; cases e
      | some ps2 => rw [q, q2] at e; cases e; exact .cons (ih1 p q) (ih2 ps2 q2)
  · exact fun {_} => True.intro
  · intros; exact True.intro
/-- equality of data -/
def eqD (x y : D) : Option Bool := match toPy x, toPy y with
  | some p, some q => if SeqAt.shaped p && SeqAt.shaped q then some (PyData.eqv p q) else none
  | _, _ => none
def oEq (x y : D) : Option D := (eqD x y).map .bl
def oNe (x y : D) : Option D := (eqD x y).map fun b => .bl (!b)
theorem eqD_get {x y : D} {b : Bool} (h : eqD x y = some b) : ∃ p q, toPy x = some p ∧ toPy y = some q ∧ SeqAt.shaped p = true ∧ SeqAt.shaped q = true ∧ PyData.eqv p q = b := by
  unfold eqD at h
  split at h
  · rename_i p q e1 e2
    split at h
    · rename_i s
      rw [Bool.and_eq_true] at s
      cases h
      exact ⟨p, q, e1, e2, s.1, s.2, rfl⟩
    · cases h
  · cases h
theorem d_eq : OpD c (rEqD c.K) oEq := by
  intro ha G H x y d v w Q s dx dy q fin
  unfold oEq at q
  cases e : eqD x y with
  | none => rw [e] at q; cases q
  | some b =>
    rw [e] at q
    cases q
    obtain ⟨p1, p2, e1, e2, s1, s2, rfl⟩ := eqD_get e
    exact ⟨p1, p2, dp_of (dq_mono s dx) p1 e1, dp_of (dq_mono s dy) p2 e2, s1, s2, fin _ G H (Mv.refl s) (Same.refl _) (.bl _)⟩
theorem d_ne : OpD c (rNeD c.K) oNe := by
  intro ha G H x y d v w Q s dx dy q fin
  unfold oNe at q
  cases e : eqD x y with
  | none => rw [e] at q; cases q
  | some b =>
    rw [e] at q
    cases q
    obtain ⟨p1, p2, e1, e2, s1, s2, rfl⟩ := eqD_get e
    exact ⟨p1, p2, dp_of (dq_mono s dx) p1 e1, dp_of (dq_mono s dy) p2 e2, s1, s2, fin _ G H (Mv.refl s) (Same.refl _) (.bl _)⟩
end
end Fw
namespace Gn
open PySem PySem.Spec PyProof.Rows L2
open Sem (wp)
open AutoSeq1 (wpAny_loadPart')
theorem new_enumT (l : Addr) (xs : Array Value) (n : Nat) (dct : Option Addr) (sl : Array (Option Value)) :
    Meets (Builtin.«enumerate.__new__» ⟨[.type "enumerate", .ref l], []⟩) fun _ R s =>
      (s.heap.get? l = some { cls := .type "tuple", dict := dct, data := .seq xs n, slots := sl }) ∧
      R (.ok (.ret (.ref (s.heap.objs.size + 1)))) { s with heap := Heap.push (s.heap.push { cls := .type "tuple_iterator", data := .fields #[.ref l, .int 0 0] }) { cls := .type "enumerate", data := .fields #[.none, .bool false, .ref s.heap.objs.size, rawInt 0, .none, .none] } } :=
  .of_wp fun prog w A R s h => by
    obtain ⟨hp, g, d, tk, os⟩ := s
    obtain ⟨hl, h⟩ := h
    have sub := sub_enumerate
    have hT : Heap.IsTuple (Shared.heap ⟨hp, g, d, tk, os⟩) l xs := ⟨_, hl, rfl, n, rfl⟩
    have hz : (hp.push { cls := .type "tuple_iterator", data := .fields #[.ref l, .int 0 0] }).objs.size = hp.objs.size + 1 := Heap.size_push ..
    wp_walk using wpAny_loadPart' hl
    refine wpAny_stack_any fun st => wpAny_pure ?_
    split
    · rename_i c _ _ _ _ _
      cases (c == Value.type "enumerate")
      all_goals
        wp_walk using wpAny_loadPart' hl, wpAny_pyIter_tuple hT
        exact ⟨_, rfl, by rw [hz]; exact h⟩
    · wp_walk using wpAny_loadPart' hl, wpAny_pyIter_tuple hT
      exact ⟨_, rfl, by rw [hz]; exact h⟩
theorem call_enumT {prog : Program} {w : World} {A : Around} {E : Value → Shared → Prop} {s : Shared} {l : Addr} {xs : Array Value} {Q : Value → Shared → Prop} (hT : s.heap.IsTuple l xs)
    (h : ∀ h', IsEnum h' (s.heap.objs.size + 1) s.heap.objs.size 0 .none → h'.IsTupleIter s.heap.objs.size l 0 →
      (∀ b o, s.heap.get? b = some o → h'.get? b = some o) → Q (.ref (s.heap.objs.size + 1)) { s with heap := h' }) :
    wpAny (model prog w) A (call (.type "enumerate") [.ref l]) Q E s := by
  obtain ⟨⟨c, dct, dt, sl⟩, hl, hc, n, hd⟩ := hT
  simp only at hc hd
  subst hc hd
  refine callType_new F.called_enumerate (by decide) (F.typeCall_enumerate_1 _) (F.newCall_enumerate_1 _) (fun obj => F.args_object_init_2 obj _) F.entry_enumerate_new (new_enumT l xs n dct sl) ⟨hl, ?_⟩
  have hz : (s.heap.push { cls := .type "tuple_iterator", data := .fields #[.ref l, .int 0 0] }).objs.size = s.heap.objs.size + 1 := Heap.size_push ..
  have he : IsEnum ((s.heap.push { cls := .type "tuple_iterator", data := .fields #[.ref l, .int 0 0] }).push { cls := .type "enumerate", data := .fields #[.none, .bool false, .ref s.heap.objs.size, rawInt 0, .none, .none] }) (s.heap.objs.size + 1) s.heap.objs.size 0 .none := by
    have q := Heap.get?_push_size (s.heap.push { cls := .type "tuple_iterator", data := .fields #[.ref l, .int 0 0] }) (o := { cls := .type "enumerate", data := .fields #[.none, .bool false, .ref s.heap.objs.size, rawInt 0, .none, .none] }) rfl
    rw [hz] at q
    exact q
  refine ⟨⟨_, he, rfl⟩, h _ he ?_ ?_⟩
  · exact ⟨_, Heap.get?_push_of_some _ (Heap.get?_push_size _ rfl), rfl, rfl⟩
  · exact fun b o x => Heap.get?_push_of_some _ (Heap.get?_push_of_some _ x)
/-- the tuple at a, each item in a new pair with its place -/
def IteT (K : PySem.W.Frag) (a : Addr) : It where
  go := fun i H => ∃ (xs : List V) (x : V), SqT K H a xs ∧ xs[i]? = some x
  yld := fun i H v H' => ∃ T x, v = .ref T ∧ H T = none ∧ H' = upd H T (.tup [.int (i : Nat), x]) ∧ ∀ xs, SqT K H a xs → xs[i]? = some x
  stop := fun i H => ∃ xs : List V, SqT K H a xs ∧ xs.length = i
theorem turn_enumT {P : Program} {w : World} {K : PySem.W.Frag} {elts : List Expr} {kk : Nat} {tpos : Pos} (a e it : Addr) :
    Turn P w K (.Tuple elts kk tpos) (IteT K a) [e, it] e (fun i h => (∃ old, IsEnum h e it ((i : Nat) : Int) old) ∧ h.IsTupleIter it a i ∧ (e ≠ it ∧ e ≠ a ∧ a ≠ it)) := by
  have two : ∀ b, b ∈ [e, it] → b = e ∨ b = it := fun b hb => by simpa using hb
  refine ⟨by simp, fun i h st b hb => ?_, fun i h h' st k => ?_, ?_, ?_, fun A i s Q E st h => ?_⟩
  · obtain ⟨⟨old, he⟩, ⟨o, ho, hc, hd⟩, _⟩ := st
    rcases two b hb with rfl | rfl
    · exact ⟨_, he, fun v q => nomatch q⟩
    · exact ⟨o, ho, fun v q => by rw [hd] at q; cases q⟩
  · obtain ⟨⟨old, he⟩, hi, n⟩ := st
    exact ⟨⟨old, k e (by simp) _ he⟩, hi.at (fun o q => k it (by simp) o q), n⟩
  · intro X hP hw hK hc i pins s σ H E I hf st hg
    subst hP hw hK
    obtain ⟨⟨old, he⟩, hit, n1, n2, n3⟩ := st
    obtain ⟨xs, x, hq, hx⟩ := hg
    obtain ⟨its, rv, p, hz⟩ := I.tuple hq
    obtain ⟨u, hu, ru⟩ := rv.get hx
    have el := Heap.lt_size he
    have il : it < s.heap.objs.size := by
      obtain ⟨_, q, _⟩ := hit
      exact Heap.lt_size q
    have lt : i < its.toArray.size := by
      obtain ⟨z, _⟩ := List.getElem?_eq_some_iff.mp hu
      rw [List.size_toArray]
      exact z
    refine wpAny_pyNext_enum_itemD (Draws.tuple (A := X.A.in1) (I.ok.hd hc) it a n3 its.toArray) he ⟨hit, p⟩ lt n1 (by simp [n1, n2]) fun x' h' tk hx' ho st' hT hsz hk => ?_
    have ex : x' = u := by
      have q : its.toArray[i]? = some u := by rw [List.getElem?_toArray]; exact hu
      rw [q] at hx'
      exact (Option.some.inj hx').symm
    subst ex
    refine ⟨_, rfl, wpAny_letOwnedTupleGo_enum (s := { s with heap := h', toks := tk + 1 }) ho fun h2 he2 sb => ?_⟩
    have hT2 := (sb.2 _ (Nat.ne_of_gt el)).trans hT
    have ok : ObjOk X.prog X.w (upd H s.heap.objs.size (.tup [.int (i : Nat), x])) h2 s.heap.objs.size (.tup [.int (i : Nat), x]) :=
      ⟨by show 2 ≤ sizeLine; decide, [.int i tk, x'], .cons ⟨_, rfl⟩ (.cons ru .nil), _, hT2, rfl, _, rfl⟩
    have I2 : Inv X pins σ (upd H s.heap.objs.size (.tup [.int (i : Nat), x])) { s with heap := h2, toks := tk + 1 } := by
      refine I.turnedNew (ch := [e, it]) (fun b ob hb q => ?_) hf (Nat.le_refl _) ok
      have b1 : b ≠ e := fun z => hb (by simp [z])
      have b2 : b ≠ it := fun z => hb (by simp [z])
      exact (sb.2 b b1).trans (hk b ob b1 b2 q)
    refine ⟨.ref s.heap.objs.size, _, I2, rfl, ⟨_, x, rfl, I.hok.fresh (Nat.le_refl _), rfl, fun ys hy => ?_⟩, ⟨⟨x', ?_⟩, st'.1.at fun o q => (sb.2 it (Ne.symm n1)).trans q, n1, n2, n3⟩, fun b hb => ?_⟩
    · rw [I.tuple_inj hy hq]
      exact hx
    · rw [show ((i + 1 : Nat) : Int) = (i : Int) + 1 by omega]
      exact he2
    · rw [upd_ne (Nat.ne_of_lt (by rcases two b hb with z | z <;> rw [z] <;> assumption))]
      exact (hf b hb).1
  · intro X hP hw hK hc i pins s σ H E I hf st hg
    subst hP hw hK
    obtain ⟨⟨old, he⟩, hit, n1, n2, n3⟩ := st
    obtain ⟨xs, hq, hx⟩ := hg
    obtain ⟨its, rv, p, hz⟩ := I.tuple hq
    obtain ⟨f0, f1, f2, f3, f4, f5⟩ := hf it (by simp)
    have ei : i = its.toArray.size := by
      rw [List.size_toArray, ← rv.length]
      exact hx.symm
    subst ei
    exact wpAny_pyNext_enum_endD (Draws.tuple (A := X.A.in1) (I.ok.hd hc) it a n3 its.toArray) he ⟨hit, p⟩ fun h' eb => ⟨rfl, I.turned (t' := s.toks) (fun b o hb q => eb b o hb q) f0 f1 f3 f4 f5⟩
  · obtain ⟨⟨_, he⟩, _⟩ := st
    exact wpAny_pyIter_enum he h
def iEnumT (K : PySem.W.Frag) (ta : TA) : TI := fun σ H R => ta σ H fun vs H1 => ∃ a xs, vs = [.ref a] ∧ ((SqL K H1 a xs ∧ R (Ite K a) H1) ∨ (SqT K H1 a xs ∧ R (IteT K a) H1))
/-- for (i, x) in enumerate(a list or a tuple) -/
theorem pi_enumA {X : Cx} {e : Expr} {ta : TA} {p pos tpos : Pos} {elts : List Expr} {kk : Nat} (hg : Gl X "enumerate") (hm : X.mg "enumerate" = none) (ha : PA X [e] ta) (hs : starEach [e] X.env = [(false, eval e X.env)] := by rfl) :
    PI X (.Tuple elts kk tpos) (.Call (.Name "enumerate" p) [e] [] pos) (iEnumT X.K ta) := by
  constructor
  intro pins s σ H R I h
  refine Call_ (ld_blt I hg hm boot_enumerate (PyProof.Rows.callWith_type1 (thn (ha.run pos pins s σ H _ I h) ?_) hs rfl))
  rintro us s1 ⟨vs, H1, I1, r1, a, xs, ex, q1⟩
  subst ex
  obtain ⟨u, rfl, ru⟩ : ∃ u, us = [u] ∧ RelV (.ref a) u := by
    cases r1 with
    | cons r rr =>
      cases rr
      exact ⟨_, rfl, r⟩
  cases (show u = Value.ref a from ru)
  have fresh : ∀ b, b ∈ [s1.heap.objs.size + 1, s1.heap.objs.size] → FpOk X pins H1 b := fun b hb => by
    have z : b = s1.heap.objs.size + 1 ∨ b = s1.heap.objs.size := by simpa using hb
    have le : s1.heap.objs.size ≤ b := by omega
    exact I1.fpOk le (I1.hok.fresh le)
  rcases q1 with ⟨hq, q⟩ | ⟨hq, q⟩
  · obtain ⟨its, rv, p', _⟩ := I1.list hq
    refine call_enumerate_list p'.isList fun h' he hit hsz hk => wpAny_pyIter_enum he ?_
    exact ⟨s1.heap.objs.size + 1, [s1.heap.objs.size + 1, s1.heap.objs.size], _, _, H1, rfl, I1.kept (t' := s1.toks) hk, turn_enum a (s1.heap.objs.size + 1) s1.heap.objs.size, ⟨⟨.none, he⟩, hit, Nat.succ_ne_self _⟩, fresh, q⟩
  · obtain ⟨its, rv, p', _⟩ := I1.tuple hq
    have al : a < s1.heap.objs.size := by
      obtain ⟨o, ho, _⟩ := id p'
      exact Heap.lt_size ho
    refine call_enumT p' fun h' he hit hk => wpAny_pyIter_enum he ?_
    exact ⟨s1.heap.objs.size + 1, [s1.heap.objs.size + 1, s1.heap.objs.size], _, _, H1, rfl, I1.kept (t' := s1.toks) hk, turn_enumT a (s1.heap.objs.size + 1) s1.heap.objs.size, ⟨⟨.none, he⟩, hit, Nat.succ_ne_self _, Nat.ne_of_gt (Nat.lt_succ_of_lt al), Nat.ne_of_lt al⟩, fresh, q⟩
theorem walk_enumT {K : PySem.W.Frag} {a : Addr} {xs : List V} : Walk (IteT K a) xs.length (fun H => SqT K H a xs) (YPair (fun i => some (.int (i : Nat))) (fun i => xs[i]?)) := by
  constructor
  · intro i H hi q
    exact ⟨xs, xs[i], q, by simp [hi]⟩
  · intro H q
    exact ⟨xs, q, rfl⟩
  · rintro i H v H' hi q ⟨T, x, h1, h2, h3, h4⟩
    exact ⟨T, _, x, h1, h2, h3, rfl, h4 xs q⟩
theorem walk_zipT {K : PySem.W.Frag} {a b : Addr} {xs ys : List V} (hn : xs.length = ys.length) : Walk (RZ.ItzT K a b) xs.length (fun H => SqT K H a xs ∧ SqT K H b ys) (YPair (fun i => xs[i]?) (fun i => ys[i]?)) := by
  constructor
  · rintro i H hi ⟨q1, q2⟩
    have h2 : i < ys.length := by omega
    exact ⟨xs, ys, xs[i], ys[i], q1, q2, by simp [hi], by simp [h2]⟩
  · rintro H ⟨q1, q2⟩
    exact ⟨xs, ys, q1, q2, .inl (Nat.le_refl _)⟩
  · rintro i H v H' hi ⟨q1, q2⟩ ⟨T, x, y, h1, h2, h3, h4, h5⟩
    exact ⟨T, x, y, h1, h2, h3, h4 xs q1, h5 ys q2⟩
theorem mul_same (l : Addr) (items : Array Value) (n : Nat) (sl : Array (Option Value)) (dd : Option Addr) (u : Tok) :
    Meets (Builtin.«tuple.__mul__» ⟨[.ref l, .int 1 u], []⟩) fun _ R s => (s.heap.get? l = some { cls := .type "tuple", dict := dd, data := .seq items n, slots := sl }) ∧ R (.ok (.ret (.ref l))) s :=
  .of_wp fun prog w A R s h => by
    obtain ⟨hp, g, d, tk, os⟩ := s
    obtain ⟨hl, h⟩ := h
    have f1 := AutoSeq1.idx_int
    have c0 : (decide ((1 : Int) < -(2 ^ 63)) || decide ((1 : Int) ≥ 2 ^ 63)) = false := by decide
    have c1 : (items.isEmpty || (1 : Int) == 1) = true := by simp
    wp_walk using wpAny_loadPart' hl
    repeat (first
      | (refine wpAny_ite_false (decide_eq_false (by rw [c0]; exact Bool.false_ne_true)) ?_; wp_walk using wpAny_loadPart' hl)
      | (refine wpAny_ite_true (decide_eq_true c1) ?_; wp_walk using wpAny_loadPart' hl))
    exact ⟨_, rfl, h⟩
/-- a tuple times 1: the tuple itself -/
def rRep1 (K : PySem.W.Frag) : R2 := fun x y H Q => ∃ l xs, x = .ref l ∧ y = .int 1 ∧ SqT K H l xs ∧ Q (.ref l) H
theorem op_rep1 {X : Cx} : OpR X (binaryOp .Mult) (rRep1 X.K) := by
  intro pins s σ H x y v u Q I rx ry h
  obtain ⟨l, xs, rfl, rfl, hT, q⟩ := h
  cases rx
  obtain ⟨t, rfl⟩ := ry
  obtain ⟨its, r, ⟨⟨cls, dd, data, sl⟩, ho, hc, n, hd⟩, hs⟩ := I.tuple hT
  simp only at hc hd
  subst hc hd
  refine wpAny_binaryOp_repeat_ref (T := "tuple") (U := "int") (by decide) ⟨_, ho, rfl⟩ (fun s' => typeIs_int s' 1 t) noFill_tuple_mul F.fills_int_mul F.slot_int_rmul repeat_tuple F.slot_int_index.lookup ?_
  refine call_meets F.slot_int_rmul (typeIs_int s 1 t) F.entry_int_rmul (F.args_int_rmul_2 _ _) (int_rmul_tuple 1 t l its.toArray n dd sl) ⟨ho, rfl, ⟨_, ho, rfl⟩, ?_⟩
  exact call_meets F.slot_tuple_mul ⟨_, ho, rfl⟩ F.entry_tuple_mul (F.args_tuple_mul_2 _ _) (mul_same l its.toArray n sl dd t) ⟨ho, .ref l, H, I, rfl, q⟩
end Gn
namespace Wr
open PySem PySem.Spec PyProof.Rows L2 Gn
theorem mul_none (l : Addr) (items : Array Value) (n : Nat) (sl : Array (Option Value)) (dd : Option Addr) (u : Tok) (hne : items.isEmpty = false) :
    Meets (Builtin.«tuple.__mul__» ⟨[.ref l, .int 0 u], []⟩) fun _ R s => (s.heap.get? l = some { cls := .type "tuple", dict := dd, data := .seq items n, slots := sl }) ∧
      R (.ok (.ret (Value.ref s.heap.objs.size))) { s with heap := s.heap.push { cls := Value.type "tuple", data := Data.seq #[] }, toks := s.toks } :=
  .of_wp fun prog w A R s h => by
    obtain ⟨hp, g, d, tk, os⟩ := s
    obtain ⟨hl, h⟩ := h
    have f1 := AutoSeq1.idx_int
    have c0 : (decide ((0 : Int) < -(2 ^ 63)) || decide ((0 : Int) ≥ 2 ^ 63)) = false := by decide
    have c1 : (items.isEmpty || (0 : Int) == 1) = false := by rw [hne]; rfl
    have c2 : (decide ((0 : Int) ≤ 0) || items.isEmpty) = true := by rw [hne]; rfl
    wp_walk using wpAny_loadPart' hl
    repeat (first
      | (refine wpAny_ite_false (decide_eq_false (by rw [c0]; exact Bool.false_ne_true)) ?_; wp_walk using wpAny_loadPart' hl)
      | (refine wpAny_ite_false (decide_eq_false (by rw [c1]; exact Bool.false_ne_true)) ?_; wp_walk using wpAny_loadPart' hl)
      | (refine wpAny_ite_true (decide_eq_true c2) ?_; wp_walk using wpAny_loadPart' hl))
    exact ⟨_, rfl, h⟩
/-- a tuple times 0: a new tuple of nothing -/
def rRep0 (K : PySem.W.Frag) : R2 := fun x y H Q => ∃ l xs, x = .ref l ∧ y = .int 0 ∧ SqT K H l xs ∧ xs ≠ [] ∧ ∀ p, H p = none → Q (.ref p) (upd H p (.tup []))
theorem op_rep0 {X : Cx} : OpR X (binaryOp .Mult) (rRep0 X.K) := by
  intro pins s σ H x y v u Q I rx ry h
  obtain ⟨l, xs, rfl, rfl, hT, hne, q⟩ := h
  cases rx
  obtain ⟨t, rfl⟩ := ry
  obtain ⟨its, r, ⟨⟨cls, dd, data, sl⟩, ho, hc, n, hd⟩, hs⟩ := I.tuple hT
  simp only at hc hd
  subst hc hd
  have hi : its.toArray.isEmpty = false := by
    cases its with
    | nil =>
      have e := r.length
      exact absurd (List.eq_nil_of_length_eq_zero e) hne
    | cons a b => rfl
  refine wpAny_binaryOp_repeat_ref (T := "tuple") (U := "int") (by decide) ⟨_, ho, rfl⟩ (fun s' => typeIs_int s' 0 t) noFill_tuple_mul F.fills_int_mul F.slot_int_rmul repeat_tuple F.slot_int_index.lookup ?_
  refine call_meets F.slot_int_rmul (typeIs_int s 0 t) F.entry_int_rmul (F.args_int_rmul_2 _ _) (int_rmul_tuple 0 t l its.toArray n dd sl) ⟨ho, rfl, ⟨_, ho, rfl⟩, ?_⟩
  refine call_meets F.slot_tuple_mul ⟨_, ho, rfl⟩ F.entry_tuple_mul (F.args_tuple_mul_2 _ _) (mul_none l its.toArray n sl dd t hi) ⟨ho, ?_⟩
  refine ⟨.ref s.heap.objs.size, _, I.laid (t' := s.toks) (o := .tup []) (fun b ob q => Heap.get?_push_of_some _ q) (Nat.le_refl _) ?_, rfl, q _ (I.hok.fresh (Nat.le_refl _))⟩
  exact ⟨Nat.zero_le _, [], .nil, IsTup.new _ _⟩
end Wr
namespace Fw
open PySem PySem.Spec PyProof.Rows L2 Dz Vz
section
variable {X : Cx} {W : WX} {c : Cn} {e a b e2 : Expr} {es : List Expr} {pos : Pos} {ta tb te : TE} {t : TT} {f fa fb fc : EF D} {g ga gb : EF Bool} {fs : EF (List D)}
def bD : D → D → Ex Bool
  | .bl b, h => .ok b h
  | _, _ => .bad
def eT (f : EF D) : EF Bool := fun δ h => (f δ h).bind bD
theorem rt_T (σ : L2.St) (H : Hp) (Q : Bool → Hp → Prop) (x : rt c W (eT f) σ H Q) : rd c W f σ H fun v H' => ∃ k, v = .bl k ∧ Q k H' := by
  obtain ⟨ha, G0, B, G, δ, h, st, p⟩ := x
  refine ⟨ha, G0, B, G, δ, h, st, post_imp (post_bind p) fun d h1 G1 H1 af p1 v dv => ?_⟩
  cases dv with
  | bl b => exact ⟨b, rfl, post_ok p1 af.gh af.hd⟩
  | _ => exact p1.elim
theorem dt_val (p : PE X e (rd c W f)) (he : ∀ whole, isTrue e X.env whole = (do let v ← whole; standAt e.pos; holding [v] (truthy v)) := by intro _; rfl) : PT X e (rt c W (eT f)) := pt_to (pt_val p he) fun σ H Q x => rt_T σ H Q x
theorem dt_cmp {op : CmpOp} {r : R2} {k : D → D → Option D} (ho : OpR X (compareOp op) r) (hr : OpD c r k) (ha : PE X a (rd c W fa)) (hb : PE X b (rd c W fb)) (hm : behindInMarks op b = false := by rfl) : PT X (.Compare a [op] [b] pos) (rt c W (eT (eOp k fa fb))) :=
  pt_to (pt_cmpR ho ha hb hm) fun σ H Q x => rd_op hr σ H _ (rt_T σ H Q x)
/-- truth of a thing -/
def truD : D → Option Bool
  | .non => some false
  | .bl b => some b
  | .int i => some (i != 0)
  | .tup ds => some !ds.isEmpty
  | .lst ds => some !ds.isEmpty
  | _ => none
def eTru (f : EF D) : EF Bool := fun δ h => (f δ h).bind fun d h1 => Ex.of (truD d) h1
theorem isE {ha : Option Addr} {G : Hp} {xs : List V} {ds : List D} (d : DqAll c ha G xs ds) : (!xs.isEmpty) = !ds.isEmpty := by cases d <;> rfl
theorem tru_of {ha : Option Addr} {G H : Hp} {v : V} {d : D} {b : Bool} (s : Same G H) (dv : Dq c ha G v d) (e : truD d = some b) : TruV c.K v H b := by
  cases dv with
  | non => cases e; exact rfl
  | bl b => cases e; exact rfl
  | int i => cases e; exact rfl
  | str x => cases e
  | tup h d => cases e; exact .inr (.inl ⟨_, Evl.ex_t s h, (isE d).symm⟩)
  | lst h d => cases e; exact .inl ⟨_, SqL.of (s _ _ h), (isE d).symm⟩
  | ins _ _ _ _ => cases e
theorem dt_tru (hK : X.K = c.K) (p : PE X e (rd c W f)) (he : ∀ whole, isTrue e X.env whole = (do let v ← whole; standAt e.pos; holding [v] (truthy v)) := by intro _; rfl) : PT X e (rt c W (eTru f)) := pt_to (pt_truth p he) fun σ H Q x => by
  obtain ⟨ha, G0, B, G, δ, h, st, p⟩ := x
  refine ⟨ha, G0, B, G, δ, h, st, post_imp (post_bind p) fun d h1 G1 H1 af p1 v dv => ?_⟩
  obtain ⟨b, eb, q⟩ := post_of p1
  rw [hK]
  exact ⟨b, tru_of af.gh dv eb, q _ _ (.refl af.gh af.hd)⟩
def eAnd (g1 g2 : EF Bool) : EF Bool := fun δ h => (g1 δ h).bind fun b h1 => if b then g2 δ h1 else .ok false h1
def eOr (g1 g2 : EF Bool) : EF Bool := fun δ h => (g1 δ h).bind fun b h1 => if b then .ok true h1 else g2 δ h1
def eNot (g : EF Bool) : EF Bool := fun δ h => (g δ h).bind fun b h1 => .ok (!b) h1
structure PWt (X : Cx) (e : Expr) (t : TT) : Prop where
  w : PW X e t
theorem pw_to {t u : TT} (p : PW X e t) (i : ∀ σ H Q, u σ H Q → t σ H Q) : PW X e u := ⟨fun wh pins s σ H Q I h => p.run wh pins s σ H Q I (i σ H Q h)⟩
theorem dw_and1 (p : PT X a (rt c W g)) : PW X (.BoolOp .And [a] pos) (rt c W g) := pw_and1 p
theorem dw_or1 (p : PT X a (rt c W g)) : PW X (.BoolOp .Or [a] pos) (rt c W g) := pw_or1 p
theorem dw_and (ha : PT X a (rt c W ga)) (hb : PW X (.BoolOp .And (b :: es) pos) (rt c W gb)) : PW X (.BoolOp .And (a :: b :: es) pos) (rt c W (eAnd ga gb)) := pw_to (pw_and ha hb) fun σ H Q x => by
  obtain ⟨ha, G0, B, G, δ, h, st, p⟩ := x
  refine ⟨ha, G0, B, G, δ, h, st, post_imp (post_bind p) fun b h1 G1 H1 af p1 => ?_⟩
  cases b with
  | true => exact ⟨ha, G0, B, G1, δ, h1, st.to af, p1⟩
  | false => exact post_ok p1 af.gh af.hd
theorem dw_or (ha : PT X a (rt c W ga)) (hb : PW X (.BoolOp .Or (b :: es) pos) (rt c W gb)) : PW X (.BoolOp .Or (a :: b :: es) pos) (rt c W (eOr ga gb)) := pw_to (pw_or ha hb) fun σ H Q x => by
  obtain ⟨ha, G0, B, G, δ, h, st, p⟩ := x
  refine ⟨ha, G0, B, G, δ, h, st, post_imp (post_bind p) fun b h1 G1 H1 af p1 => ?_⟩
  cases b with
  | false => exact ⟨ha, G0, B, G1, δ, h1, st.to af, p1⟩
  | true => exact post_ok p1 af.gh af.hd
theorem dt_not (ha : PT X a (rt c W ga)) : PT X (.UnaryOp .Not a pos) (rt c W (eNot ga)) := pt_to (pt_not ha) fun σ H Q x => by
  obtain ⟨ha, G0, B, G, δ, h, st, p⟩ := x
  exact ⟨ha, G0, B, G, δ, h, st, post_imp (post_bind p) fun b h1 G1 H1 af p1 => post_ok p1 af.gh af.hd⟩
def eB (g : EF Bool) : EF D := fun δ h => (g δ h).bind fun b h1 => .ok (.bl b) h1
theorem rd_B1 (σ : L2.St) (H : Hp) (Q : VK) (x : rd c W (eB (eT f)) σ H Q) : rd c W f σ H Q := by
  obtain ⟨ha, G0, B, G, δ, h, st, p⟩ := x
  refine ⟨ha, G0, B, G, δ, h, st, post_imp (post_bind (post_bind p)) fun d h1 G1 H1 af p1 v dv => ?_⟩
  cases dv with
  | bl b => exact post_ok (post_ok p1 af.gh af.hd) af.gh af.hd _ (.bl b)
  | _ => exact p1.elim
theorem dx_one {op} (p : PE X a (rd c W f)) : PE X (.BoolOp op [a] pos) (rd c W (eB (eT f))) := pe_to (pe_one p) rd_B1
theorem dx_and (ha : PE X a (rd c W fa)) (hb : PE X (.BoolOp .And (b :: es) pos) (rd c W (eB gb))) : PE X (.BoolOp .And (a :: b :: es) pos) (rd c W (eB (eAnd (eT fa) gb))) := pe_to (pe_and ha hb) fun σ H Q x => by
  obtain ⟨ha, G0, B, G, δ, h, st, p⟩ := x
  refine ⟨ha, G0, B, G, δ, h, st, post_imp (post_bind (post_bind (post_bind p))) fun d h1 G1 H1 af p1 v dv => ?_⟩
  cases dv with
  | bl b =>
    have p2 := post_ok p1 af.gh af.hd
    cases b with
    | true => exact ⟨true, rfl, ha, G0, B, G1, δ, h1, st.to af, by
        show Post c ha W σ G1 H1 ((gb δ h1).bind _) _
        cases e : gb δ h1 with
        | ok b2 h2 =>
          rw [if_pos rfl, e] at p2
          exact fun G2 H2 af2 => p2 G2 H2 af2 G2 H2 (.refl af2.gh af2.hd)
        | exc n fs h2 =>
          rw [if_pos rfl, e] at p2
          exact p2
        | bad =>
          rw [if_pos rfl, e] at p2
          exact p2⟩
    | false => exact ⟨false, rfl, post_ok (post_ok p2 af.gh af.hd) af.gh af.hd _ (.bl false)⟩
  | _ => exact p1.elim
theorem dx_or (ha : PE X a (rd c W fa)) (hb : PE X (.BoolOp .Or (b :: es) pos) (rd c W (eB gb))) : PE X (.BoolOp .Or (a :: b :: es) pos) (rd c W (eB (eOr (eT fa) gb))) := pe_to (pe_or ha hb) fun σ H Q x => by
  obtain ⟨ha, G0, B, G, δ, h, st, p⟩ := x
  refine ⟨ha, G0, B, G, δ, h, st, post_imp (post_bind (post_bind (post_bind p))) fun d h1 G1 H1 af p1 v dv => ?_⟩
  cases dv with
  | bl b =>
    have p2 := post_ok p1 af.gh af.hd
    cases b with
    | false => exact ⟨false, rfl, ha, G0, B, G1, δ, h1, st.to af, by
        show Post c ha W σ G1 H1 ((gb δ h1).bind _) _
        cases e : gb δ h1 with
        | ok b2 h2 =>
          rw [if_neg Bool.false_ne_true, e] at p2
          exact fun G2 H2 af2 => p2 G2 H2 af2 G2 H2 (.refl af2.gh af2.hd)
        | exc n fs h2 =>
          rw [if_neg Bool.false_ne_true, e] at p2
          exact p2
        | bad =>
          rw [if_neg Bool.false_ne_true, e] at p2
          exact p2⟩
    | true => exact ⟨true, rfl, post_ok (post_ok p2 af.gh af.hd) af.gh af.hd _ (.bl true)⟩
  | _ => exact p1.elim
theorem dx_not (ha : PE X a (rd c W fa)) : PE X (.UnaryOp .Not a pos) (rd c W (eB (eNot (eT fa)))) := pe_to (pe_not ha) fun σ H Q x => by
  obtain ⟨ha, G0, B, G, δ, h, st, p⟩ := x
  refine ⟨ha, G0, B, G, δ, h, st, post_imp (post_bind (post_bind (post_bind p))) fun d h1 G1 H1 af p1 v dv => ?_⟩
  cases dv with
  | bl b => exact ⟨b, rfl, post_ok (post_ok (post_ok p1 af.gh af.hd) af.gh af.hd) af.gh af.hd _ (.bl _)⟩
  | _ => exact p1.elim
def eIf (g : EF Bool) (fa fb : EF D) : EF D := fun δ h => (g δ h).bind fun b h1 => if b then fa δ h1 else fb δ h1
theorem dx_if (hg : PT X e (rt c W g)) (ha : PE X a (rd c W fa)) (hb : PE X b (rd c W fb)) : PE X (.IfExp e a b pos) (rd c W (eIf g fa fb)) := pe_to (pe_ifExp hg ha hb) fun σ H Q x => by
  obtain ⟨ha, G0, B, G, δ, h, st, p⟩ := x
  refine ⟨ha, G0, B, G, δ, h, st, post_imp (post_bind p) fun b h1 G1 H1 af p1 => ?_⟩
  cases b with
  | true => exact ⟨ha, G0, B, G1, δ, h1, st.to af, p1⟩
  | false => exact ⟨ha, G0, B, G1, δ, h1, st.to af, p1⟩
/-- a op1 b op2 c -/
def eCh (k1 k2 : D → D → Option D) (fa fb fc : EF D) : EF D := fun δ h => (fa δ h).bind fun x h1 => (fb δ h1).bind fun y h2 => (Ex.of (k1 x y) h2).bind fun z h3 => (bD z h3).bind fun b h4 => if b then (fc δ h4).bind fun w h5 => Ex.of (k2 y w) h5 else .ok (.bl false) h4
theorem rd_ch {r1 r2 : R2} {k1 k2 : D → D → Option D} (d1 : OpD c r1 k1) (d2 : OpD c r2 k2) (σ : L2.St) (H : Hp) (Q : VK) (x : rd c W (eCh k1 k2 fa fb fc) σ H Q) : tChain r1 r2 (rd c W fa) (rd c W fb) (rd c W fc) σ H Q := by
  obtain ⟨ha, G0, B, G, δ, h, st, p⟩ := x
  refine ⟨ha, G0, B, G, δ, h, st, post_imp (post_bind p) fun x h1 G1 H1 af1 p1 v dv => ?_⟩
  refine ⟨ha, G0, B, G1, δ, h1, st.to af1, post_imp (post_bind p1) fun y h2 G2 H2 af2 p2 w dw => ?_⟩
  obtain ⟨z, ez, q⟩ := post_of (post_bind p2)
  refine d1 af2.gh (dq_mono af2.gg dv) dw ez fun u G3 H3 m s du => ?_
  have af3 : Af c ha G2 H2 G3 H3 h2 := .of af2.gh af2.hd m s
  have q3 := q G3 H3 af3
  cases du with
  | bl b =>
    have q4 := post_ok (post_bind q3) af3.gh af3.hd
    cases b with
    | false => exact ⟨false, rfl, post_ok q4 af3.gh af3.hd _ (.bl false)⟩
    | true =>
      refine ⟨true, rfl, ha, G0, B, G3, δ, h2, ((st.to af1).to af2).to af3, post_imp (post_bind q4) fun w2 h5 G5 H5 af5 p5 v5 dv5 => ?_⟩
      obtain ⟨d, e, q5⟩ := post_of p5
      exact d2 af5.gh (dq_mono (af3.gg.trans af5.gg) dw) dv5 e fun u G' H' m s du => q5 G' H' (.of af5.gh af5.hd m s) u du
  | _ => exact q3.elim
theorem dx_ch {op op' : CmpOp} {r1 r2 : R2} {k1 k2 : D → D → Option D} (o1 : OpR X (compareOp op) r1) (o2 : OpR X (compareOp op') r2) (d1 : OpD c r1 k1) (d2 : OpD c r2 k2) (ha : PE X a (rd c W fa)) (hb : PE X b (rd c W fb)) (hc : PE X e (rd c W fc))
    (hm : lastMarks [op, op'] [b, e] = false := by with_unfolding_all rfl) : PE X (.Compare a [op, op'] [b, e] pos) (rd c W (eCh k1 k2 fa fb fc)) := pe_to (pe_chain o1 o2 ha hb hc hm) (rd_ch d1 d2)
theorem dt_ch {op op' : CmpOp} {r1 r2 : R2} {k1 k2 : D → D → Option D} (o1 : OpR X (compareOp op) r1) (o2 : OpR X (compareOp op') r2) (d1 : OpD c r1 k1) (d2 : OpD c r2 k2) (ha : PE X a (rd c W fa)) (hb : PE X b (rd c W fb)) (hc : PE X e (rd c W fc))
    (hm : lastMarks [op, op'] [b, e] = false := by with_unfolding_all rfl) : PT X (.Compare a [op, op'] [b, e] pos) (rt c W (eT (eCh k1 k2 fa fb fc))) := pt_to (pt_chain o1 o2 ha hb hc hm) fun σ H Q x => rd_ch d1 d2 σ H _ (rt_T σ H Q x)
def oIsN (x y : D) : Option D := match y with
  | .non => some (.bl (match x with | .non => true | _ => false))
  | _ => none
def oNotN (x y : D) : Option D := match y with
  | .non => some (.bl (match x with | .non => false | _ => true))
  | _ => none
theorem d_isN : OpD c (fun x y H Q => y = .non ∧ Q (.bl (decide (x = .non))) H) oIsN := by
  intro ha G H x y d v w Q s dx dy q fin
  cases dy <;> first | (cases q; done) | skip
  refine ⟨rfl, fin _ G H (Mv.refl s) (Same.refl _) ?_⟩
  cases dx <;> (cases q; exact .bl _)
theorem d_notN : OpD c (fun x y H Q => y = .non ∧ Q (.bl (!decide (x = .non))) H) oNotN := by
  intro ha G H x y d v w Q s dx dy q fin
  cases dy <;> first | (cases q; done) | skip
  refine ⟨rfl, fin _ G H (Mv.refl s) (Same.refl _) ?_⟩
  cases dx <;> (cases q; exact .bl _)
def oIsB (x y : D) : Option D := match x, y with
  | .bl a, .bl b => some (.bl (decide (a = b)))
  | _, _ => none
theorem d_isB : OpD c rIsB oIsB := by
  intro ha G H x y d v w Q s dx dy q fin
  cases dx <;> cases dy <;> first | (cases q; done) | skip
  cases q
  exact ⟨_, _, rfl, rfl, fin _ G H (Mv.refl s) (Same.refl _) (.bl _)⟩
def eNil : EF (List D) := fun _ h => .ok [] h
def eCons (f : EF D) (g : EF (List D)) : EF (List D) := fun δ h => (f δ h).bind fun d h1 => (g δ h1).bind fun ds h2 => .ok (d :: ds) h2
theorem da_nil : PA X [] (ra c W eNil) := pa_to pa_nil fun σ H Q x => by
  obtain ⟨ha, G0, B, G, δ, h, st, p⟩ := x
  exact post_ok p st.gh st.hd [] .nil
theorem da_cons (he : PE X e (rd c W f)) (hs : PA X es (ra c W fs)) (hst : starEach (e :: es) X.env = (false, eval e X.env) :: starEach es X.env := by rfl) : PA X (e :: es) (ra c W (eCons f fs)) := pa_to (pa_cons he hs hst) fun σ H Q x => by
  obtain ⟨ha, G0, B, G, δ, h, st, p⟩ := x
  refine ⟨ha, G0, B, G, δ, h, st, post_imp (post_bind p) fun d h1 G1 H1 af1 p1 v dv => ?_⟩
  refine ⟨ha, G0, B, G1, δ, h1, st.to af1, post_imp (post_bind p1) fun ds h2 G2 H2 af2 p2 vs dvs => ?_⟩
  exact post_ok p2 af2.gh af2.hd _ (.cons (dq_mono af2.gg dv) dvs)
def szOk (n : Nat) : Bool := decide (n ≤ 1000000)
theorem szOk_le {n : Nat} (h : szOk n = true) : n ≤ sizeLine := by
  have := of_decide_eq_true h
  rw [sizeLine_eq]
  omega
def eTup (fs : EF (List D)) : EF D := fun δ h => (fs δ h).bind fun ds h1 => Ex.of (if szOk ds.length then some (.tup ds) else none) h1
theorem if_get {α : Type} {b : Bool} {x : α} {y : α} (h : (if b = true then some x else none) = some y) : b = true ∧ x = y := by
  by_cases hb : b = true
  · rw [if_pos hb] at h
    exact ⟨hb, Option.some.inj h⟩
  · rw [if_neg hb] at h
    cases h
theorem dx_tup {x1} (hs : PA X es (ra c W fs)) : PE X (.Tuple es x1 pos) (rd c W (eTup fs)) := pe_to (pe_tup hs) fun σ H Q x => by
  obtain ⟨ha, G0, B, G, δ, h, st, p⟩ := x
  refine ⟨ha, G0, B, G, δ, h, st, post_imp (post_bind p) fun ds h1 G1 H1 af1 p1 vs dvs => ?_⟩
  obtain ⟨d, e, q⟩ := post_of p1
  obtain ⟨z, rfl⟩ := if_get e
  refine ⟨by rw [dqAll_len dvs]; exact szOk_le z, fun t ht => ?_⟩
  have m := Mv.new (o := .tup vs) af1.gh ht
  exact q _ _ (.of af1.gh af1.hd m (same_new ht)) _ (.tup (SqT.of upd_same) (dqAll_mono m.gg dvs))
def eLst (fs : EF (List D)) : EF D := fun δ h => (fs δ h).bind fun ds h1 => Ex.of (if szOk ds.length then some (.hl ds) else none) h1
/-- a new list of things at rest -/
theorem nw_lst {ha : Option Addr} {G H : Hp} {l : Addr} {vs : List V} {ds : List D} (s : Same G H) (hl : H l = none) (d : DqAll c ha G vs ds) : Nw c ha H G (upd H l (.lst vs)) (.ref l) (.hl ds) :=
  .inr ⟨l, vs, ds, rfl, rfl, upd_same, old_none s hl, hl, d⟩
theorem nw_from {ha : Option Addr} {G H G1 H1 G2 H2 : Hp} {h1 : D} {v : V} {d : D} (af : Af c ha G H G1 H1 h1) (n : Nw c ha H1 G2 H2 v d) : Nw c ha H G2 H2 v d := by
  rcases n with n | ⟨a, xs, ds, h1, h2, h3, h4, h5, h6⟩
  · exact .inl n
  · exact .inr ⟨a, xs, ds, h1, h2, h3, h4, af_old af h5, h6⟩
theorem dn_if (hg : PT X e (rt c W g)) (ha : PE X a (rn c W fa)) (hb : PE X b (rn c W fb)) : PE X (.IfExp e a b pos) (rn c W (eIf g fa fb)) := pn_to (pe_ifExp hg ha hb) fun σ H Q x => by
  obtain ⟨ha, G0, B, G, δ, h, st, p⟩ := x
  refine ⟨ha, G0, B, G, δ, h, st, post_imp (post_bind p) fun b h1 G1 H1 af p1 => ?_⟩
  cases b with
  | true => exact ⟨ha, G0, B, G1, δ, h1, st.to af, post_imp p1 fun d h2 G2 H2 af2 q v n => q v (nw_from af n)⟩
  | false => exact ⟨ha, G0, B, G1, δ, h1, st.to af, post_imp p1 fun d h2 G2 H2 af2 q v n => q v (nw_from af n)⟩
theorem dn_lst (hs : PA X es (ra c W fs)) : PE X (.List es pos) (rn c W (eLst fs)) := pn_to (pe_lst hs) fun σ H Q x => by
  obtain ⟨ha, G0, B, G, δ, h, st, p⟩ := x
  refine ⟨ha, G0, B, G, δ, h, st, post_imp (post_bind p) fun ds h1 G1 H1 af1 p1 vs dvs => ?_⟩
  obtain ⟨d, e, q⟩ := post_of p1
  obtain ⟨z, rfl⟩ := if_get e
  refine ⟨by rw [dqAll_len dvs]; exact szOk_le z, fun t ht => ?_⟩
  exact q _ _ (.of af1.gh af1.hd (Mv.hid af1.gh ht) (same_new ht)) _ (nw_from af1 (nw_lst af1.gh ht dvs))
def sfz : D → D
  | .hl ds => .lst ds
  | d => d
theorem sfz_id {d : D} (h : d.fr = true) : sfz d = d := by
  cases d <;> first | rfl | cases h
def eFz (f : EF D) : EF D := fun δ h => (f δ h).bind fun d h1 => .ok (sfz d) h1
theorem Sta.hne {ha : Option Addr} {G0 B G H : Hp} {σ : L2.St} {δ : DE} {h : D} (st : Sta c ha G0 B G H σ δ h) : ∀ a, ha = some a → H a ≠ none := fun a e => by
  subst e
  exact (hok_at st.hd).2
theorem af_fz {ha : Option Addr} {G H G1 H1 : Hp} {h1 : D} {v : V} {d : D} (hk : ∀ a, ha = some a → H a ≠ none) (af : Af c ha G H G1 H1 h1) (n : Nw c ha H G1 H1 v d) : ∃ G2, Af c ha G H G2 H1 h1 ∧ Dq c ha G2 v (sfz d) := by
  rcases n with n | ⟨a, xs, ds, rfl, rfl, h3, h4, h5, h6⟩
  · rw [sfz_id (dq_fr n)]
    exact ⟨G1, af, n⟩
  · have s1 : Same G1 (upd G1 a (.lst xs)) := same_new h4
    refine ⟨upd G1 a (.lst xs), ⟨Mv.shut af.mv h5 h4 h3, af.bt, hok_keep af.hd s1 fun b e => ⟨?_, rfl⟩⟩, .lst upd_same (dqAll_mono s1 h6)⟩
    rw [upd_ne fun z => hk b e (by rw [z]; exact h5)]
    subst e
    exact (hok_at af.hd).1
theorem dx_fz (p : PE X e (rn c W f)) : PE X e (rd c W (eFz f)) := pe_to p fun σ H Q x => by
  obtain ⟨ha, G0, B, G, δ, h, st, p⟩ := x
  refine ⟨ha, G0, B, G, δ, h, st, ?_⟩
  unfold eFz at p
  cases e : f δ h with
  | ok d h1 =>
    rw [e] at p
    intro G1 H1 af1 v n
    obtain ⟨G2, af2, dv⟩ := af_fz st.hne af1 n
    exact p G2 H1 af2 v dv
  | exc n fs h1 => rw [e] at p; exact p
  | bad => rw [e] at p; exact p
theorem nw_dq {ha : Option Addr} {H G' H' : Hp} {v : V} {d : D} (h : Dq c ha G' v d) : Nw c ha H G' H' v d := .inl h
theorem dn_of (p : PE X e (rd c W f)) : PE X e (rn c W f) := pn_to p fun σ H Q x => by
  obtain ⟨ha, G0, B, G, δ, h, st, p⟩ := x
  exact ⟨ha, G0, B, G, δ, h, st, post_imp p fun d h1 G1 H1 af q v dv => q v (nw_dq dv)⟩
end
end Fw
namespace Fw
open PySem PySem.Spec PyProof.Rows L2 Dz Vz
section
variable {X : Cx} {W : WX} {c : Cn} {e a b e2 : Expr} {es : List Expr} {pos : Pos} {ta tb te : TE} {t : TT} {f fa fb fc : EF D} {g ga gb : EF Bool} {fs : EF (List D)}
def oIx (x y : D) : Option D := match x, y with
  | .tup ds, .int i => atI ds i
  | .lst ds, .int i => atI ds i
  | _, _ => none
theorem atI_dq {ha : Option Addr} {G : Hp} {xs : List V} {ds : List D} {i : Int} {d : D} (h : DqAll c ha G xs ds) (e : atI ds i = some d) : ∃ v, atI xs i = some v ∧ Dq c ha G v d := by
  unfold atI at e ⊢
  rw [dqAll_len h]
  cases q : ixN ds.length i with
  | none => rw [q] at e; cases e
  | some j =>
    rw [q] at e
    obtain ⟨x, h1, h2⟩ := dqAll_at h (show ds[j]? = some d from e)
    exact ⟨x, h1, h2⟩
theorem d_ix : OpD c (rIx c.K) oIx := by
  intro ha G H x y d v w Q s dx dy q fin
  cases dx with
  | tup h1 h2 =>
    cases dy with
    | int i =>
      obtain ⟨z, e1, e2⟩ := atI_dq h2 q
      exact .inr (.inl ⟨_, _, _, z, rfl, rfl, Evl.ex_t s h1, e1, fin _ G H (Mv.refl s) (Same.refl _) e2⟩)
    | _ => cases q
  | lst h1 h2 =>
    cases dy with
    | int i =>
      obtain ⟨z, e1, e2⟩ := atI_dq h2 q
      exact .inl ⟨_, _, _, z, rfl, rfl, SqL.of (s _ _ h1), e1, fin _ G H (Mv.refl s) (Same.refl _) e2⟩
    | _ => cases q
  | _ => cases q
theorem dx_ix (ha : PE X a (rd c W fa)) (hb : PE X b (rd c W fb)) (hs : PlainIx b := by exact fun _ _ => rfl) (hK : X.K = c.K := by rfl) : PE X (.Subscript a b pos) (rd c W (eOp oIx fa fb)) := pe_to (pe_ix ix_seq ha hb hs) (by rw [hK]; exact rd_op d_ix)
/-- the thing that is handed about, in slot i -/
def eM (i : Nat) : EF Unit := fun δ h => match δ[i]? with
  | some (some .me) => .ok () h
  | _ => .bad
def rm (c : Cn) (W : WX) (f : EF Unit) : TE := fun σ H Q => ∃ ha G0 B G δ h, Sta c ha G0 B G H σ δ h ∧ Post c ha W σ G H (f δ h) fun _ _ _ H' => ∀ a, ha = some a → Q (.ref a) H'
theorem dm_v {i : Nat} {x : Str} (hN : X.N[i]? = some x) (hv : Vis X.env.scope x) (hd : (x == ("__debug__" : Str)) = false := by decide) (hcd : (x == ("__classdict__" : Str)) = false := by decide) : PE X (.Name x pos) (rm c W (eM i)) := ⟨fun pins s σ H Q I z => (pe_var hN hv hd hcd).run pins s σ H Q I (by
  obtain ⟨ha, G0, B, G, δ, h, st, p⟩ := z
  unfold eM at p
  split at p
  · rename_i e
    obtain ⟨fp, o, n, k⟩ := st.sl
    obtain ⟨a, h1, h2⟩ := ownS_me o e
    exact ⟨_, h1, post_ok p st.gh st.hd a h2⟩
  · exact p.elim)⟩
/-- an item of it -/
def eIxM (i : Nat) (fb : EF D) : EF D := fun δ h => (eM i δ h).bind fun _ h1 => (fb δ h1).bind fun y h2 => Ex.of (match y, h2 with
  | .int i, .hl ds => atI ds i
  | _, _ => none) h2
theorem dx_ixM {i : Nat} (ha : PE X a (rm c W (eM i))) (hb : PE X b (rd c W fb)) (hs : PlainIx b := by exact fun _ _ => rfl) (hK : X.K = c.K := by rfl) : PE X (.Subscript a b pos) (rd c W (eIxM i fb)) := pe_to (pe_ix ix_list ha hb hs) fun σ H Q x => by
  obtain ⟨ha, G0, B, G, δ, h, st, p⟩ := x
  refine ⟨ha, G0, B, G, δ, h, st, post_imp (post_bind p) fun x h1 G1 H1 af1 p1 v e1 => ?_⟩
  refine ⟨ha, G0, B, G1, δ, h1, st.to af1, post_imp (post_bind p1) fun y h2 G2 H2 af2 p2 w dw => ?_⟩
  obtain ⟨d, e, q⟩ := post_of p2
  cases dw with
  | int i =>
    cases af2.hd with
    | hand e2 _ h4 h5 =>
      rw [e1] at e2
      cases e2
      obtain ⟨z, k1, k2⟩ := atI_dq h5 e
      exact ⟨_, _, _, z, rfl, rfl, SqL.of h4, k1, q _ _ (.refl af2.gh af2.hd) _ k2⟩
    | _ => cases e
  | _ => cases e
def eOn (f : D → D → Option D) (fa fb : EF D) : EF D := eOp f fa fb
def OpN (c : Cn) (r : R2) (f : D → D → Option D) : Prop := ∀ {ha : Option Addr} {G H : Hp} {x y d : D} {v w : V} {Q : VK}, Same G H → Dq c ha G v x → Dq c ha G w y → f x y = some d → (∀ u G' H', Mv G H G' H' → Same H H' → Nw c ha H G' H' u d → Q u H') → r v w H Q
theorem OpD.n {r : R2} {f : D → D → Option D} (h : OpD c r f) : OpN c r f := fun s dx dy e fin => h s dx dy e fun u G' H' m s du => fin u G' H' m s (nw_dq du)
theorem OpN.or {r1 r2 : R2} {f1 f2 : D → D → Option D} (h1 : OpN c r1 f1) (h2 : OpN c r2 f2) : OpN c (fun x y H Q => r1 x y H Q ∨ r2 x y H Q) (fun x y => match f1 x y with | some d => some d | none => f2 x y) := by
  intro ha G H x y d v w Q s dx dy e fin
  cases q : f1 x y with
  | some d2 =>
    simp only [q] at e
    cases e
    exact .inl (h1 s dx dy q fin)
  | none =>
    simp only [q] at e
    exact .inr (h2 s dx dy e fin)
theorem rn_op {r : R2} {f : D → D → Option D} (hr : OpN c r f) (σ : L2.St) (H : Hp) (Q : VK) (x : rn c W (eOn f fa fb) σ H Q) : tOp r (rd c W fa) (rd c W fb) σ H Q := by
  obtain ⟨ha, G0, B, G, δ, h, st, p⟩ := x
  refine ⟨ha, G0, B, G, δ, h, st, post_imp (post_bind p) fun x h1 G1 H1 af1 p1 v dv => ?_⟩
  refine ⟨ha, G0, B, G1, δ, h1, st.to af1, post_imp (post_bind p1) fun y h2 G2 H2 af2 p2 w dw => ?_⟩
  obtain ⟨d, e, q⟩ := post_of p2
  exact hr af2.gh (dq_mono af2.gg dv) dw e fun u G' H' m s n => q G' H' (.of af2.gh af2.hd m s) u (nw_from (af1.trans af2) n)
theorem dn_op {op : Operator} {r : R2} {f : D → D → Option D} (ho : OpR X (binaryOp op) r) (hr : OpN c r f) (ha : PE X a (rd c W fa)) (hb : PE X b (rd c W fb)) : PE X (.BinOp a op b pos) (rn c W (eOn f fa fb)) := pn_to (pe_op ho ha hb) (rn_op hr)
def oCatT (x y : D) : Option D := match x, y with
  | .tup ds, .tup es => if szOk (ds.length + es.length) then some (.tup (ds ++ es)) else none
  | _, _ => none
theorem nil_of {ha : Option Addr} {G : Hp} {xs : List V} {ds : List D} (h : DqAll c ha G xs ds) : xs = [] ↔ ds = [] := by cases h <;> simp
theorem d_catT : OpD c (rCatA c.K) oCatT := by
  intro ha G H x y d v w Q s dx dy q fin
  cases dx with
  | tup h1 h2 =>
    cases dy with
    | tup h3 h4 =>
      obtain ⟨z, rfl⟩ := if_get q
      rename_i a1 xs1 ds1 a2 xs2 ds2
      refine ⟨_, _, _, _, rfl, rfl, Evl.ex_t s h1, Evl.ex_t s h3, by rw [dqAll_len h2, dqAll_len h4]; exact szOk_le z, fun e => ?_, fun _ e => ?_, fun _ _ p hp => ?_⟩
      · rw [(nil_of h2).mp e, List.nil_append] at fin
        exact fin _ G H (Mv.refl s) (Same.refl _) (.tup h3 h4)
      · rw [(nil_of h4).mp e, List.append_nil] at fin
        exact fin _ G H (Mv.refl s) (Same.refl _) (.tup h1 h2)
      · have m := Mv.new (o := .tup (xs1 ++ xs2)) s hp
        exact fin _ _ _ m (same_new hp) (.tup (SqT.of upd_same) (dqAll_app (dqAll_mono m.gg h2) (dqAll_mono m.gg h4)))
    | _ => cases q
  | _ => cases q
def oCatL (x y : D) : Option D := match x, y with
  | .lst ds, .lst es => if szOk (ds.length + es.length) then some (.hl (ds ++ es)) else none
  | _, _ => none
theorem nw_new {ha : Option Addr} {G H : Hp} {l : Addr} {vs : List V} {ds : List D} {Q : VK} (s : Same G H) (hl : H l = none) (d : DqAll c ha G vs ds) (fin : ∀ u G' H', Mv G H G' H' → Same H H' → Nw c ha H G' H' u (.hl ds) → Q u H') : Q (.ref l) (upd H l (.lst vs)) :=
  fin _ _ _ (Mv.hid s hl) (same_new hl) (nw_lst s hl d)
theorem d_catL : OpN c rCat oCatL := by
  intro ha G H x y d v w Q s dx dy q fin
  cases dx with
  | lst h1 h2 =>
    cases dy with
    | lst h3 h4 =>
      obtain ⟨z, rfl⟩ := if_get q
      exact ⟨_, _, _, _, rfl, rfl, s _ _ h1, s _ _ h3, by rw [dqAll_len h2, dqAll_len h4]; exact szOk_le z, fun p hp => nw_new s hp (dqAll_app h2 h4) fin⟩
    | _ => cases q
  | _ => cases q
def oCatS (x y : D) : Option D := match x, y with
  | .str a, .str b => if szOk (a.length + b.length) then some (.str (a ++ b)) else none
  | _, _ => none
theorem d_catS : OpD c (fun x y H Q => ∃ i j, x = .str i ∧ y = .str j ∧ i.length + j.length ≤ sizeLine ∧ Q (.str (i ++ j)) H) oCatS := by
  intro ha G H x y d v w Q s dx dy q fin
  cases dx with
  | str a =>
    cases dy with
    | str b =>
      obtain ⟨z, rfl⟩ := if_get q
      exact ⟨_, _, rfl, rfl, szOk_le z, fin _ G H (Mv.refl s) (Same.refl _) (.str _)⟩
    | _ => cases q
  | _ => cases q
/-- a + b -/
def oPlus (x y : D) : Option D := match x, y with
  | .int i, .int j => some (.int (i + j))
  | .tup ds, .tup es => if szOk (ds.length + es.length) then some (.tup (ds ++ es)) else none
  | .lst ds, .lst es => if szOk (ds.length + es.length) then some (.hl (ds ++ es)) else none
  | _, _ => none
theorem d_plus : OpN c (fun x y H Q => rI0 (fun i j => .int (i + j)) x y H Q ∨ (rCatA c.K x y H Q ∨ rCat x y H Q)) oPlus := by
  intro ha G H x y d v w Q s dx dy q fin
  cases x <;> cases y <;> first | (cases q; done) | skip
  · exact .inl (d_add.n s dx dy q fin)
  · exact .inr (.inl (d_catT.n s dx dy q fin))
  · exact .inr (.inr (d_catL s dx dy q fin))
theorem op_plus : OpR X (binaryOp .Add) (fun x y H Q => rI0 (fun i j => .int (i + j)) x y H Q ∨ (rCatA X.K x y H Q ∨ rCat x y H Q)) := op_add.or (op_catA.or op_cat)
theorem dn_plus (ha : PE X a (rd c W fa)) (hb : PE X b (rd c W fb)) (hK : X.K = c.K := by rfl) : PE X (.BinOp a .Add b pos) (rn c W (eOn oPlus fa fb)) := pn_to (pe_op op_plus ha hb) (by rw [hK]; exact rn_op d_plus)
/-- a * b -/
def cRep (k : Int) (n : Nat) : Bool := decide (0 ≤ k) && (decide (k ≤ 1000) && decide (n ≤ 1000))
def oTimes (x y : D) : Option D := match x, y with
  | .int i, .int j => if cMul i j then some (.int (i * j)) else none
  | .tup ds, .int k => if cRep k ds.length && !ds.isEmpty then some (.tup (List.replicate k.toNat ds).flatten) else none
  | .lst ds, .int k => if cRep k ds.length then some (.hl (List.replicate k.toNat ds).flatten) else none
  | _, _ => none
theorem cRep_get {k : Int} {n : Nat} (h : cRep k n = true) : 0 ≤ k ∧ k ≤ 1000 ∧ n ≤ 1000 := by
  unfold cRep at h
  rw [Bool.and_eq_true, Bool.and_eq_true, decide_eq_true_eq, decide_eq_true_eq, decide_eq_true_eq] at h
  exact h
abbrev rTimes (K : PySem.W.Frag) : R2 := fun x y H Q => rI CMulW (fun i j => .int (i * j)) x y H Q ∨ (rRep x y H Q ∨ (rRepT K x y H Q ∨ (Gn.rRep1 K x y H Q ∨ Wr.rRep0 K x y H Q)))
theorem d_times : OpN c (rTimes c.K) oTimes := by
  intro ha G H x y d v w Q s dx dy q fin
  cases x <;> cases y <;> first | (cases q; done) | skip
  · exact .inl (d_mul.n s dx dy q fin)
  · rename_i ds k
    obtain ⟨z, rfl⟩ := if_get q
    rw [Bool.and_eq_true] at z
    obtain ⟨z1, z2⟩ := z
    obtain ⟨k0, k1, k2⟩ := cRep_get z1
    cases dy
    cases dx with
    | tup h1 h2 =>
      rename_i a xs
      have hne : xs ≠ [] := fun e => by rw [(nil_of h2).mp e] at z2; cases z2
      by_cases e0 : k = 0
      · subst e0
        refine .inr (.inr (.inr (.inr ⟨a, xs, rfl, rfl, Evl.ex_t s h1, hne, fun p hp => ?_⟩)))
        exact fin _ _ _ (Mv.new s hp) (same_new hp) (nw_dq (.tup (SqT.of upd_same) .nil))
      · by_cases e1 : k = 1
        · subst e1
          refine .inr (.inr (.inr (.inl ⟨a, xs, rfl, rfl, Evl.ex_t s h1, ?_⟩)))
          refine fin _ G H (Mv.refl s) (Same.refl _) (nw_dq (.tup h1 ?_))
          show DqAll c ha G xs ([ds].flatten)
          rw [List.flatten_cons, List.flatten_nil, List.append_nil]
          exact h2
        · refine .inr (.inr (.inl ⟨a, k, xs, rfl, rfl, Evl.ex_t s h1, hne, by omega, k1, by rw [dqAll_len h2]; exact k2, fun p hp => ?_⟩))
          have m := Mv.new (o := .tup (List.replicate k.toNat xs).flatten) s hp
          exact fin _ _ _ m (same_new hp) (nw_dq (.tup (SqT.of upd_same) (dqAll_reps (dqAll_mono m.gg h2) _)))
  · rename_i ds k
    obtain ⟨z, rfl⟩ := if_get q
    obtain ⟨k0, k1, k2⟩ := cRep_get z
    cases dy
    cases dx with
    | lst h1 h2 =>
      refine .inr (.inl ⟨_, k, _, rfl, rfl, s _ _ h1, by omega, by omega, ?_, fun p hp => nw_new s hp (dqAll_reps h2 _) fin⟩)
      rw [dqAll_len h2, sizeLine_eq]
      have : ds.length * k.toNat ≤ 1000 * 1000 := Nat.mul_le_mul k2 (by omega)
      omega
theorem op_times : OpR X (binaryOp .Mult) (rTimes X.K) := op_mulW.or (op_rep.or (op_repT.or (Gn.op_rep1.or Wr.op_rep0)))
theorem dn_times (ha : PE X a (rd c W fa)) (hb : PE X b (rd c W fb)) (hK : X.K = c.K := by rfl) : PE X (.BinOp a .Mult b pos) (rn c W (eOn oTimes fa fb)) := pn_to (pe_op op_times ha hb) (by rw [hK]; exact rn_op d_times)
def oNeg : D → Option D
  | .int i => some (.int (-i))
  | _ => none
theorem dx_neg (ha : PE X a (rd c W fa)) : PE X (.UnaryOp .USub a pos) (rd c W (eUn oNeg fa)) := pe_to (pe_un un_neg ha) fun σ H Q x => by
  obtain ⟨ha, G0, B, G, δ, h, st, p⟩ := x
  refine ⟨ha, G0, B, G, δ, h, st, post_imp (post_bind p) fun x h1 G1 H1 af1 p1 v dv => ?_⟩
  obtain ⟨d, e, q⟩ := post_of p1
  cases dv with
  | int i => cases e; exact ⟨i, rfl, q _ _ (.refl af1.gh af1.hd) _ (.int _)⟩
  | _ => cases e
def eOpt (f : EF D) : EF (Option Int) := fun δ h => (f δ h).bind fun d h1 => match d with
  | .int i => .ok (some i) h1
  | _ => .bad
def eNo : EF (Option Int) := fun _ h => .ok none h
def ro (c : Cn) (W : WX) (f : EF (Option Int)) : TO := fun σ H Q => ∃ ha G0 B G δ h, Sta c ha G0 B G H σ δ h ∧ Post c ha W σ G H (f δ h) fun o _ _ H' => Q o H'
theorem po_to {o : Option Expr} {t : TO} {f : EF (Option Int)} (p : PO X o t) (i : ∀ σ H Q, ro c W f σ H Q → t σ H Q) : PO X o (ro c W f) := ⟨fun pins s σ H Q I h => p.run pins s σ H Q I (i σ H Q h)⟩
theorem do_no : PO X none (ro c W eNo) := po_to po_none fun σ H Q x => by
  obtain ⟨ha, G0, B, G, δ, h, st, p⟩ := x
  exact post_ok p st.gh st.hd
theorem do_e (p : PE X e (rd c W f)) : PO X (some e) (ro c W (eOpt f)) := po_to (po_some p) fun σ H Q x => by
  obtain ⟨ha, G0, B, G, δ, h, st, p⟩ := x
  refine ⟨ha, G0, B, G, δ, h, st, post_imp (post_bind p) fun d h1 G1 H1 af p1 v dv => ?_⟩
  cases dv with
  | int i => exact ⟨i, rfl, post_ok p1 af.gh af.hd⟩
  | _ => exact p1.elim
def cutD {α : Type} (xs : List α) (lo hi : Option Int) : List α := (xs.drop (HT.sIx xs.length 0 lo)).take (HT.sIx xs.length xs.length hi - HT.sIx xs.length 0 lo)
def slD (d : D) (lo hi : Option Int) : Option D := match d with
  | .tup ds => some (.tup (cutD ds lo hi))
  | .lst ds => some (.hl (cutD ds lo hi))
  | _ => none
def eSl (f : EF D) (lo hi : EF (Option Int)) : EF D := fun δ h => (f δ h).bind fun d h1 => (lo δ h1).bind fun l h2 => (hi δ h2).bind fun u h3 => Ex.of (slD d l u) h3
theorem dqAll_cut {ha : Option Addr} {G : Hp} {xs : List V} {ds : List D} {lo hi : Option Int} (h : DqAll c ha G xs ds) : DqAll c ha G (cutV xs lo hi) (cutD ds lo hi) := by
  unfold cutV cutD
  rw [dqAll_len h]
  exact dqAll_take _ (dqAll_drop _ h)
theorem dn_sl {lo hi : Option Expr} {gl gh : EF (Option Int)} {p2 : Pos} (he : PE X e (rd c W f)) (hl : PO X lo (ro c W gl)) (hh : PO X hi (ro c W gh)) (hK : X.K = c.K := by rfl) : PE X (.Subscript e (.Slice lo hi none p2) pos) (rn c W (eSl f gl gh)) := pn_to (pe_slice (sl_tupA.or sl_list) he hl hh) fun σ H Q x => by
  obtain ⟨ha, G0, B, G, δ, h, st, p⟩ := x
  refine ⟨ha, G0, B, G, δ, h, st, post_imp (post_bind p) fun x h1 G1 H1 af1 p1 v dv => ?_⟩
  refine ⟨ha, G0, B, G1, δ, h1, st.to af1, post_imp (post_bind p1) fun l h2 G2 H2 af2 p2 => ?_⟩
  refine ⟨ha, G0, B, G2, δ, h2, (st.to af1).to af2, post_imp (post_bind p2) fun u h3 G3 H3 af3 p3 => ?_⟩
  obtain ⟨d, e, q⟩ := post_of p3
  have dv3 := dq_mono (af2.gg.trans af3.gg) dv
  have a03 := (af1.trans af2).trans af3
  rw [hK]
  cases dv3 with
  | tup k1 k2 =>
    rename_i a xs ds
    cases e
    refine .inl ⟨a, xs, rfl, Evl.ex_t af3.gh k1, fun w => ?_, fun _ p hp => ?_⟩
    · refine q _ _ (.refl af3.gh af3.hd) _ (nw_dq (.tup k1 ?_))
      have z : cutD ds l u = ds := by
        unfold cutD
        rw [← dqAll_len k2, w.1, w.2, List.drop_zero, Nat.sub_zero, dqAll_len k2, List.take_length]
      rw [z]
      exact k2
    · have m := Mv.new (o := .tup (cutV xs l u)) af3.gh hp
      exact q _ _ (.of af3.gh af3.hd m (same_new hp)) _ (nw_dq (.tup (SqT.of upd_same) (dqAll_cut (dqAll_mono m.gg k2))))
  | lst k1 k2 =>
    rename_i a xs ds
    cases e
    refine .inr ⟨a, xs, rfl, SqL.of (af3.gh _ _ k1), fun p hp => ?_⟩
    exact q _ _ (.of af3.gh af3.hd (Mv.hid af3.gh hp) (same_new hp)) _ (nw_from a03 (nw_lst af3.gh hp (dqAll_cut k2)))
  | _ => cases e
def eAt (f : EF D) (n : Str) : EF D := fun δ h => (f δ h).bind fun d h1 => Ex.of (match d with
  | .ins _ fs => fs.lookup n
  | _ => none) h1
theorem dx_at {n : Str} (he : PE X e (rd c W f)) (hb : attributeBase e n X.env (eval e X.env) = eval e X.env := by rfl) (hK : X.K = c.K := by rfl) : PE X (.Attribute e n pos) (rd c W (eAt f n)) := pe_to (pe_fld he hb) fun σ H Q x => by
  obtain ⟨ha, G0, B, G, δ, h, st, p⟩ := x
  refine ⟨ha, G0, B, G, δ, h, st, post_imp (post_bind p) fun x h1 G1 H1 af1 p1 v dv => ?_⟩
  obtain ⟨d, e, q⟩ := post_of p1
  rw [hK]
  cases dv with
  | ins k1 k2 k3 k4 =>
    obtain ⟨na, w, k5, k6⟩ := dqF_look k4 e
    exact ⟨_, _, _, _, w, rfl, af1.gh _ _ k2, k3.cl, na, k5, q _ _ (.refl af1.gh af1.hd) _ k6⟩
  | _ => cases e
/-- an attribute of what slot i holds -/
def eAtV (i : Nat) (n : Str) : EF D := fun δ h => Ex.of (match δ[i]?, h with
  | some (some (.ins _ fs)), _ => fs.lookup n
  | some (some .me), .ins _ fs => fs.lookup n
  | _, _ => none) h
theorem dx_atV {i : Nat} {x n : Str} {p : Pos} (hN : X.N[i]? = some x) (hv : Vis X.env.scope x) (hd : (x == ("__debug__" : Str)) = false := by decide) (hcd : (x == ("__classdict__" : Str)) = false := by decide) (hb : attributeBase (.Name x p) n X.env (eval (.Name x p) X.env) = eval (.Name x p) X.env := by rfl) (hK : X.K = c.K := by rfl) : PE X (.Attribute (.Name x p) n pos) (rd c W (eAtV i n)) := pe_to (pe_fld (pe_var hN hv hd hcd) hb) fun σ H Q x => by
  obtain ⟨ha, G0, B, G, δ, h, st, p⟩ := x
  obtain ⟨d, e, q⟩ := post_of p
  rw [hK]
  obtain ⟨fp, o, n, k⟩ := st.sl
  split at e
  · rename_i e1
    obtain ⟨v, f1, f, f2, h1, _, h3, _⟩ := ownS_slot o e1 rfl
    refine ⟨v, h1, ?_⟩
    cases (own_fr h3 rfl).1 with
    | ins k1 k2 k3 k4 =>
      obtain ⟨na, w, k5, k6⟩ := dqF_look k4 e
      exact ⟨_, _, _, _, w, rfl, st.gh _ _ k2, k3.cl, na, k5, q _ _ st.here _ k6⟩
  · rename_i e1
    obtain ⟨a, h1, h2⟩ := ownS_me o e1
    refine ⟨_, h1, ?_⟩
    cases id st.hd with
    | self e2 _ k0 k3 k2 k4 =>
      rw [h2] at e2
      cases e2
      obtain ⟨na, w, k5, k6⟩ := dqF_look k4 e
      exact ⟨_, _, _, _, w, rfl, k2, k3.cl, na, k5, q _ _ st.here _ k6⟩
  · cases e
def CaD (c : Cn) (r : List V → Hp → VK → Prop) (f : List D → Option D) : Prop := ∀ {ha : Option Addr} {G H : Hp} {ds : List D} {d : D} {vs : List V} {Q : VK}, Same G H → DqAll c ha G vs ds → f ds = some d → (∀ u G' H', Mv G H G' H' → Same H H' → Dq c ha G' u d → Q u H') → r vs H Q
def CaN (c : Cn) (r : List V → Hp → VK → Prop) (f : List D → Option D) : Prop := ∀ {ha : Option Addr} {G H : Hp} {ds : List D} {d : D} {vs : List V} {Q : VK}, Same G H → DqAll c ha G vs ds → f ds = some d → (∀ u G' H', Mv G H G' H' → Same H H' → Nw c ha H G' H' u d → Q u H') → r vs H Q
def eBi (k : List D → Option D) (fs : EF (List D)) : EF D := fun δ h => (fs δ h).bind fun ds h1 => Ex.of (k ds) h1
theorem rd_bi {r : List V → Hp → VK → Prop} {k : List D → Option D} (hr : CaD c r k) (σ : L2.St) (H : Hp) (Q : VK) (x : rd c W (eBi k fs) σ H Q) : tCB r (ra c W fs) σ H Q := by
  obtain ⟨ha, G0, B, G, δ, h, st, p⟩ := x
  refine ⟨ha, G0, B, G, δ, h, st, post_imp (post_bind p) fun ds h1 G1 H1 af1 p1 vs dvs => ?_⟩
  obtain ⟨d, e, q⟩ := post_of p1
  exact hr af1.gh dvs e fun u G' H' m s du => q G' H' (.of af1.gh af1.hd m s) u du
theorem rn_bi {r : List V → Hp → VK → Prop} {k : List D → Option D} (hr : CaN c r k) (σ : L2.St) (H : Hp) (Q : VK) (x : rn c W (eBi k fs) σ H Q) : tCB r (ra c W fs) σ H Q := by
  obtain ⟨ha, G0, B, G, δ, h, st, p⟩ := x
  refine ⟨ha, G0, B, G, δ, h, st, post_imp (post_bind p) fun ds h1 G1 H1 af1 p1 vs dvs => ?_⟩
  obtain ⟨d, e, q⟩ := post_of p1
  exact hr af1.gh dvs e fun u G' H' m s du => q G' H' (.of af1.gh af1.hd m s) u (nw_from af1 du)
theorem dx_bi {x : Str} {id : String} {p : Pos} {r : List V → Hp → VK → Prop} {k : List D → Option D} (hc : CallR X (.builtin id) r) (hr : CaD c r k) (hg : Gl X x) (hm : X.mg x = none) (hv : bootBuiltins x = some (.builtin id)) (ha : PA X (e :: es) (ra c W fs)) (hn : x ≠ "__name__" := by decide) (hdb : (x == ("__debug__" : Str)) = false := by decide)
    (he : starEach (e :: es) X.env = (false, eval e X.env) :: starEach es X.env := by rfl) (hpl : (backTo pos (starEach es X.env)).any (·.1) = false := by rfl) : PE X (.Call (.Name x p) (e :: es) [] pos) (rd c W (eBi k fs)) := pe_to (pe_callB hc hg hm hv ha hn hdb he hpl) (rd_bi hr)
theorem dx_ty {x : Str} {T : String} {p : Pos} {r : List V → Hp → VK → Prop} {k : List D → Option D} (hc : CallR X (.type T) r) (hr : CaD c r k) (hg : Gl X x) (hm : X.mg x = none) (hv : bootBuiltins x = some (.type T)) (ha : PA X (e :: es) (ra c W fs)) (hn : x ≠ "__name__" := by decide) (hdb : (x == ("__debug__" : Str)) = false := by decide)
    (he : starEach (e :: es) X.env = (false, eval e X.env) :: starEach es X.env := by rfl) (hpl : (backTo pos (starEach es X.env)).any (·.1) = false := by rfl) : PE X (.Call (.Name x p) (e :: es) [] pos) (rd c W (eBi k fs)) := pe_to (pe_callTy hc hg hm hv ha hn hdb he hpl) (rd_bi hr)
theorem dn_ty {x : Str} {T : String} {p : Pos} {r : List V → Hp → VK → Prop} {k : List D → Option D} (hc : CallR X (.type T) r) (hr : CaN c r k) (hg : Gl X x) (hm : X.mg x = none) (hv : bootBuiltins x = some (.type T)) (ha : PA X (e :: es) (ra c W fs)) (hn : x ≠ "__name__" := by decide) (hdb : (x == ("__debug__" : Str)) = false := by decide)
    (he : starEach (e :: es) X.env = (false, eval e X.env) :: starEach es X.env := by rfl) (hpl : (backTo pos (starEach es X.env)).any (·.1) = false := by rfl) : PE X (.Call (.Name x p) (e :: es) [] pos) (rn c W (eBi k fs)) := pn_to (pe_callTy hc hg hm hv ha hn hdb he hpl) (rn_bi hr)
theorem dx_fun {x : Str} {id : String} {p : Pos} {r : List V → Hp → VK → Prop} {k : List D → Option D} (hc : CallR X (.builtin id) r) (hr : CaD c r k) (hg : Gl X x) (hm : X.mg x = some (.builtin id)) (ha : PA X (e :: es) (ra c W fs)) (hdb : (x == ("__debug__" : Str)) = false := by decide)
    (he : starEach (e :: es) X.env = (false, eval e X.env) :: starEach es X.env := by rfl) (hpl : (backTo pos (starEach es X.env)).any (·.1) = false := by rfl) : PE X (.Call (.Name x p) (e :: es) [] pos) (rd c W (eBi k fs)) := pe_to (pe_callBfun hc hg hm ha hdb he hpl) (rd_bi hr)
def kLen : List D → Option D
  | [.tup ds] => some (.int ds.length)
  | [.lst ds] => some (.int ds.length)
  | _ => none
theorem one_of {ha : Option Addr} {G : Hp} {vs : List V} {d : D} (h : DqAll c ha G vs [d]) : ∃ v, vs = [v] ∧ Dq c ha G v d := by
  cases h with
  | cons h t => cases t; exact ⟨_, rfl, h⟩
theorem two_of {ha : Option Addr} {G : Hp} {vs : List V} {d1 d2 : D} (h : DqAll c ha G vs [d1, d2]) : ∃ v w, vs = [v, w] ∧ Dq c ha G v d1 ∧ Dq c ha G w d2 := by
  cases h with
  | cons h t =>
    obtain ⟨w, rfl, hw⟩ := one_of t
    exact ⟨_, w, rfl, h, hw⟩
theorem k_len : CaD c (fun xs H Q => ∃ p ys, xs = [.ref p] ∧ (SqL c.K H p ys ∨ SqT c.K H p ys) ∧ Q (.int ys.length) H) kLen := by
  intro ha G H ds d vs Q s dv e fin
  unfold kLen at e
  split at e <;> cases e
  · obtain ⟨v, rfl, dv1⟩ := one_of dv
    cases dv1 with
    | tup h1 h2 => exact ⟨_, _, rfl, .inr (Evl.ex_t s h1), by rw [dqAll_len h2]; exact fin _ G H (Mv.refl s) (Same.refl _) (.int _)⟩
  · obtain ⟨v, rfl, dv1⟩ := one_of dv
    cases dv1 with
    | lst h1 h2 => exact ⟨_, _, rfl, .inl (SqL.of (s _ _ h1)), by rw [dqAll_len h2]; exact fin _ G H (Mv.refl s) (Same.refl _) (.int _)⟩
theorem c_len (hK : X.K = c.K) : CallR X (.builtin "len") (fun xs H Q => ∃ p ys, xs = [.ref p] ∧ (SqL c.K H p ys ∨ SqT c.K H p ys) ∧ Q (.int ys.length) H) := by rw [← hK]; exact call_len_seq
def kInt : List D → Option D
  | [.int i] => some (.int i)
  | [.bl b] => some (.int (if b then 1 else 0))
  | _ => none
theorem k_int : CaD c (fun xs H Q => (∃ i, xs = [.int i] ∧ Q (.int i) H) ∨ ∃ k, xs = [.bl k] ∧ Q (.int (if k then 1 else 0)) H) kInt := by
  intro ha G H ds d vs Q s dv e fin
  unfold kInt at e
  split at e <;> cases e
  · obtain ⟨v, rfl, dv1⟩ := one_of dv
    cases dv1
    exact .inl ⟨_, rfl, fin _ G H (Mv.refl s) (Same.refl _) (.int _)⟩
  · obtain ⟨v, rfl, dv1⟩ := one_of dv
    cases dv1
    exact .inr ⟨_, rfl, fin _ G H (Mv.refl s) (Same.refl _) (.int _)⟩
def kAbs : List D → Option D
  | [.int i] => some (.int (if i < 0 then -i else i))
  | _ => none
theorem k_abs : CaD c (fun xs H Q => ∃ i, xs = [.int i] ∧ Q (.int (if i < 0 then -i else i)) H) kAbs := by
  intro ha G H ds d vs Q s dv e fin
  unfold kAbs at e
  split at e <;> cases e
  obtain ⟨v, rfl, dv1⟩ := one_of dv
  cases dv1
  exact ⟨_, rfl, fin _ G H (Mv.refl s) (Same.refl _) (.int _)⟩
def kMax2 : List D → Option D
  | [.int i, .int j] => some (.int (if j > i then j else i))
  | _ => none
def kMin2 : List D → Option D
  | [.int i, .int j] => some (.int (if j < i then j else i))
  | _ => none
theorem k_max2 : CaD c (fun xs H Q => ∃ i j, xs = [.int i, .int j] ∧ Q (.int (if j > i then j else i)) H) kMax2 := by
  intro ha G H ds d vs Q s dv e fin
  unfold kMax2 at e
  split at e <;> cases e
  obtain ⟨v, w, rfl, dv1, dw⟩ := two_of dv
  cases dv1
  cases dw
  exact ⟨_, _, rfl, fin _ G H (Mv.refl s) (Same.refl _) (.int _)⟩
theorem k_min2 : CaD c (fun xs H Q => ∃ i j, xs = [.int i, .int j] ∧ Q (.int (if j < i then j else i)) H) kMin2 := by
  intro ha G H ds d vs Q s dv e fin
  unfold kMin2 at e
  split at e <;> cases e
  obtain ⟨v, w, rfl, dv1, dw⟩ := two_of dv
  cases dv1
  cases dw
  exact ⟨_, _, rfl, fin _ G H (Mv.refl s) (Same.refl _) (.int _)⟩
def kGcd : List D → Option D
  | [.int i, .int j] => some (.int ((Nat.gcd i.natAbs j.natAbs : Nat) : Int))
  | _ => none
theorem k_gcd : CaD c rGcd kGcd := by
  intro ha G H ds d vs Q s dv e fin
  unfold kGcd at e
  split at e <;> cases e
  obtain ⟨v, w, rfl, dv1, dw⟩ := two_of dv
  cases dv1
  cases dw
  exact ⟨_, _, rfl, fin _ G H (Mv.refl s) (Same.refl _) (.int _)⟩
def kTup : List D → Option D
  | [.tup ds] => some (.tup ds)
  | [.lst ds] => some (.tup ds)
  | _ => none
theorem k_tup : CaD c (fun xs H Q => ∃ p ys, xs = [.ref p] ∧ ((SqL c.K H p ys ∧ ∀ l, H l = none → Q (.ref l) (upd H l (.tup ys))) ∨ (SqT c.K H p ys ∧ Q (.ref p) H))) kTup := by
  intro ha G H ds d vs Q s dv e fin
  unfold kTup at e
  split at e <;> cases e
  · obtain ⟨v, rfl, dv1⟩ := one_of dv
    cases dv1 with
    | tup h1 h2 => exact ⟨_, _, rfl, .inr ⟨Evl.ex_t s h1, fin _ G H (Mv.refl s) (Same.refl _) (.tup h1 h2)⟩⟩
  · obtain ⟨v, rfl, dv1⟩ := one_of dv
    cases dv1 with
    | lst h1 h2 =>
      refine ⟨_, _, rfl, .inl ⟨SqL.of (s _ _ h1), fun l hl => ?_⟩⟩
      exact fin _ _ _ (Mv.new s hl) (same_new hl) (.tup (SqT.of upd_same) (dqAll_mono (Mv.new s hl).gg h2))
theorem c_tup (hK : X.K = c.K) : CallR X (.type "tuple") (fun xs H Q => ∃ p ys, xs = [.ref p] ∧ ((SqL c.K H p ys ∧ ∀ l, H l = none → Q (.ref l) (upd H l (.tup ys))) ∨ (SqT c.K H p ys ∧ Q (.ref p) H))) := by rw [← hK]; exact call_tuple_of
def kList : List D → Option D
  | [.tup ds] => some (.hl ds)
  | [.lst ds] => some (.hl ds)
  | _ => none
theorem k_list : CaN c (fun xs H Q => ∃ p ys, xs = [.ref p] ∧ (SqL c.K H p ys ∨ SqT c.K H p ys) ∧ ∀ l, H l = none → Q (.ref l) (upd H l (.lst ys))) kList := by
  intro ha G H ds d vs Q s dv e fin
  unfold kList at e
  split at e <;> cases e
  · obtain ⟨v, rfl, dv1⟩ := one_of dv
    cases dv1 with
    | tup h1 h2 => exact ⟨_, _, rfl, .inr (Evl.ex_t s h1), fun l hl => nw_new s hl h2 fin⟩
  · obtain ⟨v, rfl, dv1⟩ := one_of dv
    cases dv1 with
    | lst h1 h2 => exact ⟨_, _, rfl, .inl (SqL.of (s _ _ h1)), fun l hl => nw_new s hl h2 fin⟩
theorem c_list (hK : X.K = c.K) : CallR X (.type "list") (fun xs H Q => ∃ p ys, xs = [.ref p] ∧ (SqL c.K H p ys ∨ SqT c.K H p ys) ∧ ∀ l, H l = none → Q (.ref l) (upd H l (.lst ys))) := by rw [← hK]; exact call_list_of
/-- ints in a row -/
def intL : List D → Option (List Int)
  | [] => some []
  | .int i :: ds => (intL ds).map (i :: ·)
  | _ => none
theorem ints_get : ∀ {ds : List D} {ns : List Int} {ha : Option Addr} {G : Hp} {vs : List V}, intL ds = some ns → DqAll c ha G vs ds → vs = ns.map V.int
  | [], ns, _, _, _, e, h => by cases e; cases h; rfl
  | d :: ds, ns, _, _, _, e, h => by
    cases h with
    | cons h t =>
      cases h with
      | int i =>
        unfold intL at e
        cases q : intL ds with
        | none => rw [q] at e; cases e
        | some ms =>
          rw [q] at e
          cases e
          rw [ints_get q t]
          rfl
      | _ => cases e
def kSum : List D → Option D
  | [.lst ds] => (intL ds).map fun ns => .int ns.sum
  | _ => none
theorem k_sum : CaD c (rSum c.K) kSum := by
  intro ha G H ds d vs Q s dv e fin
  unfold kSum at e
  split at e
  · rename_i ds
    obtain ⟨v, rfl, dv1⟩ := one_of dv
    cases dv1 with
    | lst h1 h2 =>
      cases q : intL ds with
      | none => rw [q] at e; cases e
      | some ns =>
        rw [q] at e
        cases e
        have z := ints_get q h2
        subst z
        exact ⟨_, ns, rfl, SqL.of (s _ _ h1), fin _ G H (Mv.refl s) (Same.refl _) (.int _)⟩
  · cases e
def bls : List D → Option (List Bool)
  | [] => some []
  | .bl i :: ds => (bls ds).map (i :: ·)
  | _ => none
theorem bls_get : ∀ {ds : List D} {ns : List Bool} {ha : Option Addr} {G : Hp} {vs : List V}, bls ds = some ns → DqAll c ha G vs ds → vs = ns.map V.bl
  | [], ns, _, _, _, e, h => by cases e; cases h; rfl
  | d :: ds, ns, _, _, _, e, h => by
    cases h with
    | cons h t =>
      cases h with
      | bl i =>
        unfold bls at e
        cases q : bls ds with
        | none => rw [q] at e; cases e
        | some ms =>
          rw [q] at e
          cases e
          rw [bls_get q t]
          rfl
      | _ => cases e
def kAll : List D → Option D
  | [.lst ds] => (bls ds).map fun ns => .bl (ns.all id)
  | _ => none
def kAny : List D → Option D
  | [.lst ds] => (bls ds).map fun ns => .bl (ns.any id)
  | _ => none
theorem k_all : CaD c (rAll c.K) kAll := by
  intro ha G H ds d vs Q s dv e fin
  unfold kAll at e
  split at e
  · rename_i ds
    obtain ⟨v, rfl, dv1⟩ := one_of dv
    cases dv1 with
    | lst h1 h2 =>
      cases q : bls ds with
      | none => rw [q] at e; cases e
      | some ns =>
        rw [q] at e
        cases e
        have z := bls_get q h2
        subst z
        exact ⟨_, ns, rfl, SqL.of (s _ _ h1), fin _ G H (Mv.refl s) (Same.refl _) (.bl _)⟩
  · cases e
theorem k_any : CaD c (rAny c.K) kAny := by
  intro ha G H ds d vs Q s dv e fin
  unfold kAny at e
  split at e
  · rename_i ds
    obtain ⟨v, rfl, dv1⟩ := one_of dv
    cases dv1 with
    | lst h1 h2 =>
      cases q : bls ds with
      | none => rw [q] at e; cases e
      | some ns =>
        rw [q] at e
        cases e
        have z := bls_get q h2
        subst z
        exact ⟨_, ns, rfl, SqL.of (s _ _ h1), fin _ G H (Mv.refl s) (Same.refl _) (.bl _)⟩
  · cases e
theorem c_sum (hc : X.calm = true) (hK : X.K = c.K) : CallR X (.builtin "sum") (rSum c.K) := by rw [← hK]; exact cr_sum hc
theorem c_all (hc : X.calm = true) (hK : X.K = c.K) : CallR X (.builtin "all") (rAll c.K) := by rw [← hK]; exact cr_all hc
theorem c_any (hc : X.calm = true) (hK : X.K = c.K) : CallR X (.builtin "any") (rAny c.K) := by rw [← hK]; exact cr_any hc
end
end Fw
namespace Fw
open PySem PySem.Spec PyProof.Rows L2 Dz Vz
section
variable {X : Cx} {W : WX} {c : Cn} {e a b e2 : Expr} {es : List Expr} {pos : Pos} {ta tb te : TE} {t : TT} {f fa fb fc : EF D} {g ga gb : EF Bool} {fs : EF (List D)}
def flD : D → Option V
  | .non => some .non
  | .bl b => some (.bl b)
  | .int i => some (.int i)
  | .str x => some (.str x)
  | _ => none
def flL : List D → Option (List V)
  | [] => some []
  | d :: ds => match flD d, flL ds with
    | some v, some vs => some (v :: vs)
    | _, _ => none
theorem flD_get {ha : Option Addr} {G : Hp} {v w : V} {d : D} (h : Dq c ha G v d) (e : flD d = some w) : v = w ∧ flatV w = true := by
  cases h <;> first | (cases e; exact ⟨rfl, rfl⟩) | cases e
theorem flL_get {ha : Option Addr} {G : Hp} : ∀ {vs ws : List V} {ds : List D}, DqAll c ha G vs ds → flL ds = some ws → vs = ws ∧ ws.all flatV = true
  | _, _, _, .nil, e => by cases e; exact ⟨rfl, rfl⟩
  | _, _, d :: ds, .cons h t, e => by
    unfold flL at e
    cases q1 : flD d with
    | none => rw [q1] at e; cases e
    | some w =>
      cases q2 : flL ds with
      | none => rw [q1, q2] at e; cases e
      | some ws =>
        rw [q1, q2] at e
        cases e
        obtain ⟨rfl, f1⟩ := flD_get h q1
        obtain ⟨rfl, f2⟩ := flL_get t q2
        exact ⟨rfl, by rw [List.all_cons, f1, f2]; rfl⟩
def inD (x y : D) : Option Bool := match flD x, (match y with | .tup ds => flL ds | .lst ds => flL ds | _ => none) with
  | some v, some vs => some (inV v vs)
  | _, _ => none
def oIn (x y : D) : Option D := (inD x y).map .bl
def oNin (x y : D) : Option D := (inD x y).map fun b => .bl (!b)
theorem in_get {ha : Option Addr} {G H : Hp} {x y : D} {v w : V} {k : Bool} (s : Same G H) (dx : Dq c ha G v x) (dy : Dq c ha G w y) (e : inD x y = some k) : ∃ p xs, w = .ref p ∧ (SqL c.K H p xs ∨ SqT c.K H p xs) ∧ flatV v = true ∧ xs.all flatV = true ∧ inV v xs = k := by
  unfold inD at e
  cases q1 : flD x with
  | none => rw [q1] at e; cases e
  | some u =>
    obtain ⟨rfl, f1⟩ := flD_get dx q1
    rw [q1] at e
    cases dy with
    | tup h1 h2 =>
      rename_i ds
      cases q2 : flL ds with
      | none => simp only [q2] at e; cases e
      | some us =>
        simp only [q2] at e
        cases e
        obtain ⟨rfl, f2⟩ := flL_get h2 q2
        exact ⟨_, _, rfl, .inr (Evl.ex_t s h1), f1, f2, rfl⟩
    | lst h1 h2 =>
      rename_i ds
      cases q2 : flL ds with
      | none => simp only [q2] at e; cases e
      | some us =>
        simp only [q2] at e
        cases e
        obtain ⟨rfl, f2⟩ := flL_get h2 q2
        exact ⟨_, _, rfl, .inl (SqL.of (s _ _ h1)), f1, f2, rfl⟩
    | _ => cases e
theorem d_in : OpD c (rIn c.K false) oIn := by
  intro ha G H x y d v w Q s dx dy q fin
  unfold oIn at q
  cases e : inD x y with
  | none => rw [e] at q; cases q
  | some k =>
    rw [e] at q
    cases q
    obtain ⟨p, xs, h1, h2, h3, h4, h5⟩ := in_get s dx dy e
    refine ⟨p, xs, h1, h2, h3, h4, ?_⟩
    show Q (.bl (inV v xs)) H
    rw [h5]
    exact fin _ G H (Mv.refl s) (Same.refl _) (.bl _)
theorem d_nin : OpD c (rIn c.K true) oNin := by
  intro ha G H x y d v w Q s dx dy q fin
  unfold oNin at q
  cases e : inD x y with
  | none => rw [e] at q; cases q
  | some k =>
    rw [e] at q
    cases q
    obtain ⟨p, xs, h1, h2, h3, h4, h5⟩ := in_get s dx dy e
    refine ⟨p, xs, h1, h2, h3, h4, ?_⟩
    show Q (.bl (!inV v xs)) H
    rw [h5]
    exact fin _ G H (Mv.refl s) (Same.refl _) (.bl _)
theorem c_in (hK : X.K = c.K) : OpR X (compareOp .In) (rIn c.K false) := by rw [← hK]; exact op_in_seq
theorem c_nin (hK : X.K = c.K) : OpR X (compareOp .NotIn) (rIn c.K true) := by rw [← hK]; exact op_notIn_seq
theorem c_eqD (hu : X.A.units + 64 < cLine) (hK : X.K = c.K) : OpR X (compareOp .Eq) (rEqD c.K) := by rw [← hK]; exact op_eqD hu
theorem c_neD (hu : X.A.units + 64 < cLine) (hK : X.K = c.K) : OpR X (compareOp .NotEq) (rNeD c.K) := by rw [← hK]; exact op_neD hu
def tyS : D → Option String
  | .non => some "NoneType"
  | .bl _ => some "bool"
  | .int _ => some "int"
  | .str _ => some "str"
  | .lst _ => some "list"
  | .tup _ => some "tuple"
  | _ => none
def isS (n : String) (d : D) : Option Bool := match d with
  | .ins _ _ => some false
  | _ => (tyS d).map fun t => isaB t n
theorem kit_bS {K : PySem.W.Frag} {t n : String} (ht : t ∈ (["NoneType", "bool", "int", "str", "list", "tuple"] : List String)) (hn : n ∈ (["int", "bool", "str", "list", "tuple", "dict"] : List String)) : PySem.W.kitOne K (.type t) (.type n) = some (isaB t n) := by
  simp only [List.mem_cons, List.not_mem_nil, or_false] at ht hn
  rcases ht with rfl | rfl | rfl | rfl | rfl | rfl <;> rcases hn with rfl | rfl | rfl | rfl | rfl | rfl <;> kernel_rfl
theorem ty_dq {ha : Option Addr} {G H : Hp} {v : V} {d : D} {t : String} (s : Same G H) (h : Dq c ha G v d) (e : tyS d = some t) : TyX c.K H v (.type t) ∧ t ∈ (["NoneType", "bool", "int", "str", "list", "tuple"] : List String) := by
  cases h with
  | non => cases e; exact ⟨.base .non, by simp⟩
  | bl b => cases e; exact ⟨.base (.bl b), by simp⟩
  | int i => cases e; exact ⟨.base (.int i), by simp⟩
  | str x => cases e; exact ⟨.base (.str x), by simp⟩
  | lst h1 _ => cases e; exact ⟨.base (.lst (s _ _ h1)), by simp⟩
  | tup h1 _ =>
    cases e
    refine ⟨?_, by simp⟩
    rcases Evl.ex_t s h1 with (hs | ⟨o, hs⟩) | ⟨o, its, n, hk, hc, _⟩
    · exact .base (.tup hs)
    · exact .fTuple hs
    · exact .kTuple hk hc
  | ins _ _ _ _ => cases e
/-- what is asked of object.__class__ -/
structure GtK (K : PySem.W.Frag) : Prop where
  hn : PySem.W.specialIn K (.builtin "object.__class__") "__get__" = some (some (.builtin "getset_descriptor.__get__"))
  ht : PySem.W.takesIn K (.builtin "object.__class__") = some true
theorem is_ty {ha : Option Addr} {G H : Hp} {v : V} {d : D} {n0 : String} {k0 : Bool} (gt : GtK c.K) (s : Same G H) (h : Dq c ha G v d) (e0 : isS n0 d = some k0) : ∃ t, TyX c.K H v t ∧ ∀ n k, n ∈ (["int", "bool", "str", "list", "tuple", "dict"] : List String) → isS n d = some k → PySem.W.kitOne c.K t (.type n) = some k := by
  cases h with
  | ins k1 k2 k3 k4 => exact ⟨_, .base (.ins (s _ _ k2) k3.cl k3.ca gt.hn gt.ht k3.mo), fun n k hn e => by cases e; exact k3.nb n hn⟩
  | non => exact ⟨_, (ty_dq s (.non : Dq c ha G .non .non) rfl).1, fun n k hn e => by cases e; exact kit_bS (by simp) hn⟩
  | bl b => exact ⟨_, (ty_dq s (.bl b : Dq c ha G _ _) rfl).1, fun n k hn e => by cases e; exact kit_bS (by simp) hn⟩
  | int b => exact ⟨_, (ty_dq s (.int b : Dq c ha G _ _) rfl).1, fun n k hn e => by cases e; exact kit_bS (by simp) hn⟩
  | str b => exact ⟨_, (ty_dq s (.str b : Dq c ha G _ _) rfl).1, fun n k hn e => by cases e; exact kit_bS (by simp) hn⟩
  | lst h1 h2 => exact ⟨_, (ty_dq s (.lst h1 h2 : Dq c ha G _ _) rfl).1, fun n k hn e => by cases e; exact kit_bS (by simp) hn⟩
  | tup h1 h2 => exact ⟨_, (ty_dq s (.tup h1 h2 : Dq c ha G _ _) rfl).1, fun n k hn e => by cases e; exact kit_bS (by simp) hn⟩
def eIs (n : String) (f : EF D) : EF D := fun δ h => (f δ h).bind fun d h1 => Ex.of ((isS n d).map .bl) h1
theorem map_get {α β : Type} {o : Option α} {g : α → β} {y : β} (h : o.map g = some y) : ∃ x, o = some x ∧ g x = y := by
  cases o with
  | none => cases h
  | some x => exact ⟨x, rfl, Option.some.inj h⟩
theorem dx_is {n : String} {p : Pos} (gt : GtK c.K) (hn : n ∈ (["int", "bool", "str", "list", "tuple", "dict"] : List String)) (hg : Gl X "isinstance") (hm : X.mg "isinstance" = none) (ha : PE X a (rd c W f)) (hb : PE X b (tC (.ty n))) (hK : X.K = c.K := by rfl)
    (s1 : starEach (a :: [b]) X.env = (false, eval a X.env) :: starEach [b] X.env := by rfl) (s2 : starEach (b :: []) X.env = (false, eval b X.env) :: starEach [] X.env := by rfl) (hpl : (backTo pos (starEach [b] X.env)).any (·.1) = false := by rfl) : PE X (.Call (.Name "isinstance" p) [a, b] [] pos) (rd c W (eIs n f)) :=
  pe_to (pe_callB call_isi hg hm PyProof.Rows.boot_isinstance (pa_cons ha (pa_cons hb pa_nil s2) s1) (by decide) (by decide) s1 hpl) fun σ H Q x => by
    obtain ⟨ha, G0, B, G, δ, h, st, p⟩ := x
    refine ⟨ha, G0, B, G, δ, h, st, post_imp (post_bind p) fun d h1 G1 H1 af p1 v dv => ?_⟩
    obtain ⟨y, e, q⟩ := post_of p1
    obtain ⟨k, e1, rfl⟩ := map_get e
    obtain ⟨t, t1, t2⟩ := is_ty gt af.gh dv e1
    rw [hK]
    exact ⟨v, .ty n, t, .type n, k, rfl, .ty n, t1, t2 n k hn e1, q _ _ (.refl af.gh af.hd) _ (.bl k)⟩
def eIs2 (n m : String) (f : EF D) : EF D := fun δ h => (f δ h).bind fun d h1 => Ex.of (match isS n d, isS m d with
  | some k, some l => some (.bl (k || l))
  | _, _ => none) h1
theorem kit_any2 {K : PySem.W.Frag} {t : Value} {n m : String} {k l : Bool} (h1 : PySem.W.kitOne K t (.type n) = some k) (h2 : PySem.W.kitOne K t (.type m) = some l) : PySem.W.kitAny K t [.type n, .type m] = some (k || l) := by
  unfold PySem.W.kitAny
  rw [h1]
  unfold PySem.W.kitAny
  rw [h2]
  cases k <;> cases l <;> rfl
theorem dx_is2 {n m : String} {p p2 : Pos} {k2 : Nat} {b1 b2 : Expr} (gt : GtK c.K) (hn : n ∈ (["int", "bool", "str", "list", "tuple", "dict"] : List String)) (hm' : m ∈ (["int", "bool", "str", "list", "tuple", "dict"] : List String)) (hg : Gl X "isinstance") (hm : X.mg "isinstance" = none) (ha : PE X a (rd c W f)) (hb1 : PE X b1 (tC (.ty n))) (hb2 : PE X b2 (tC (.ty m))) (hK : X.K = c.K := by rfl)
    (s1 : starEach (a :: [.Tuple [b1, b2] k2 p2]) X.env = (false, eval a X.env) :: starEach [.Tuple [b1, b2] k2 p2] X.env := by rfl) (s2 : starEach (.Tuple [b1, b2] k2 p2 :: []) X.env = (false, eval (.Tuple [b1, b2] k2 p2) X.env) :: starEach [] X.env := by rfl) (hpl : (backTo pos (starEach [.Tuple [b1, b2] k2 p2] X.env)).any (·.1) = false := by rfl)
    (s3 : starEach [b1, b2] X.env = (false, eval b1 X.env) :: starEach [b2] X.env := by rfl) (s4 : starEach [b2] X.env = (false, eval b2 X.env) :: starEach [] X.env := by rfl) : PE X (.Call (.Name "isinstance" p) [a, .Tuple [b1, b2] k2 p2] [] pos) (rd c W (eIs2 n m f)) :=
  pe_to (pe_callB call_isiT hg hm PyProof.Rows.boot_isinstance (pa_cons ha (pa_cons (pe_tup (pa_cons hb1 (pa_cons hb2 pa_nil s4) s3)) pa_nil s2) s1) (by decide) (by decide) s1 hpl) fun σ H Q x => by
    obtain ⟨ha, G0, B, G, δ, h, st, p⟩ := x
    refine ⟨ha, G0, B, G, δ, h, st, post_imp (post_bind p) fun d h1 G1 H1 af p1 v dv => ⟨by show 2 ≤ sizeLine; decide, fun t ht => ?_⟩⟩
    obtain ⟨y, e, q⟩ := post_of p1
    cases e1 : isS n d with
    | none => simp only [e1] at e; cases e
    | some k =>
      cases e2 : isS m d with
      | none => simp only [e1, e2] at e; cases e
      | some l =>
        simp only [e1, e2] at e
        cases e
        have mv := Mv.hid (o := .tup [.ty n, .ty m]) af.gh ht
        have af2 : Af c ha G1 H1 G1 (upd H1 t (.tup [.ty n, .ty m])) h1 := .of af.gh af.hd mv (same_new ht)
        obtain ⟨u, t1, t2⟩ := is_ty gt af2.gh dv e1
        rw [hK]
        exact ⟨v, t, _, u, _, _, rfl, upd_same, .cons (.ty n) (.cons (.ty m) .nil), t1, kit_any2 (t2 n k hn e1) (t2 m l hm' e2), q _ _ af2 _ (.bl _)⟩
structure WalkD (c : Cn) (ha : Option Addr) (G0 : Hp) (J : It) (ds : List D) : Prop where
  go : ∀ i G H, Same G0 G → Same G H → i < ds.length → J.go i H
  yld : ∀ i G H x H' d, Same G0 G → Same G H → ds[i]? = some d → J.yld i H x H' → ∃ G', Mv G H G' H' ∧ Same H H' ∧ Dq c ha G' x d
  stop : ∀ G H, Same G0 G → Same G H → J.stop ds.length H
def ri (c : Cn) (W : WX) (f : EF (List D)) : TI := fun σ H R => ∃ ha G0 B G δ h, Sta c ha G0 B G H σ δ h ∧ Post c ha W σ G H (f δ h) fun ds _ G' H' => ∀ J, WalkD c ha G' J ds → R J H'
theorem pi_to {tg it : Expr} {t : TI} (p : PI X tg it t) (i : ∀ σ H R, ri c W fs σ H R → t σ H R) : PI X tg it (ri c W fs) := ⟨fun pins s σ H R I h => p.run pins s σ H R I (i σ H R h)⟩
theorem wd_list {ha : Option Addr} {G : Hp} {a : Addr} {xs : List V} {ds : List D} (h1 : G a = some (.lst xs)) (h2 : DqAll c ha G xs ds) : WalkD c ha G (Itl c.K a) ds where
  go := fun i G' H s t hi => walk_list.goes i H (by rw [dqAll_len h2]; exact hi) (SqL.of (t _ _ (s _ _ h1)))
  yld := fun i G' H x H' d s t e y => by
    obtain ⟨rfl, hx⟩ := walk_list.yields i H x H' (by rw [dqAll_len h2]; exact (List.getElem?_eq_some_iff.mp e).1) (SqL.of (t _ _ (s _ _ h1))) y
    obtain ⟨x', e1, e2⟩ := dqAll_at h2 e
    rw [hx] at e1
    cases e1
    exact ⟨G', Mv.refl t, Same.refl _, dq_mono s e2⟩
  stop := fun G' H s t => ⟨xs, SqL.of (t _ _ (s _ _ h1)), by rw [dqAll_len h2]; exact Nat.le_refl _⟩
theorem wd_tup {ha : Option Addr} {G : Hp} {a : Addr} {xs : List V} {ds : List D} (h1 : SqT c.K G a xs) (h2 : DqAll c ha G xs ds) : WalkD c ha G (Itt c.K a) ds where
  go := fun i G' H s t hi => walk_tup.goes i H (by rw [dqAll_len h2]; exact hi) (Evl.ex_t t (Evl.ex_t s h1))
  yld := fun i G' H x H' d s t e y => by
    obtain ⟨rfl, hx⟩ := walk_tup.yields i H x H' (by rw [dqAll_len h2]; exact (List.getElem?_eq_some_iff.mp e).1) (Evl.ex_t t (Evl.ex_t s h1)) y
    obtain ⟨x', e1, e2⟩ := dqAll_at h2 e
    rw [hx] at e1
    cases e1
    exact ⟨G', Mv.refl t, Same.refl _, dq_mono s e2⟩
  stop := fun G' H s t => ⟨xs, Evl.ex_t t (Evl.ex_t s h1), by rw [dqAll_len h2]; exact Nat.le_refl _⟩
def itS : D → Option (List D)
  | .tup ds => some ds
  | .lst ds => some ds
  | _ => none
def iSeq (f : EF D) : EF (List D) := fun δ h => (f δ h).bind fun d h1 => Ex.of (itS d) h1
theorem di_seq {tg : Expr} (p : PE X e (rd c W f)) (hK : X.K = c.K := by rfl) : PI X tg e (ri c W (iSeq f)) := pi_to (pi_or (pi_list p) (pi_tup p)) fun σ H R x => by
  rw [hK]
  obtain ⟨ha, G0, B, G, δ, h, st, p⟩ := x
  unfold iSeq at p
  cases q : f δ h with
  | bad => rw [q] at p; exact p.elim
  | exc n fs h1 => rw [q] at p; exact .inl ⟨ha, G0, B, G, δ, h, st, by rw [q]; exact p⟩
  | ok d h1 =>
    rw [q] at p
    obtain ⟨ds, e, k⟩ := post_of p
    cases d <;> first | (cases e; done) | skip
    · cases e
      refine .inr ⟨ha, G0, B, G, δ, h, st, ?_⟩
      rw [q]
      intro G1 H1 af v dv
      cases dv with
      | tup h1 h2 => exact ⟨_, rfl, ⟨_, Evl.ex_t af.gh h1⟩, k G1 H1 af _ (wd_tup h1 h2)⟩
    · cases e
      refine .inl ⟨ha, G0, B, G, δ, h, st, ?_⟩
      rw [q]
      intro G1 H1 af v dv
      cases dv with
      | lst h1 h2 => exact ⟨_, rfl, ⟨_, SqL.of (af.gh _ _ h1)⟩, k G1 H1 af _ (wd_list h1 h2)⟩
/-- lo, lo + 1, .. -/
def rgD (lo : Int) (n : Nat) : List D := (List.range n).map fun (i : Nat) => D.int (lo + (i : Int))
theorem rgD_len {lo : Int} {n : Nat} : (rgD lo n).length = n := by unfold rgD; rw [List.length_map, List.length_range]
theorem rgD_at {lo : Int} {n i : Nat} {d : D} (e : (rgD lo n)[i]? = some d) : i < n ∧ d = .int (lo + (i : Int)) := by
  unfold rgD at e
  rw [List.getElem?_map] at e
  by_cases hi : i < n
  · rw [List.getElem?_range hi] at e
    cases e
    exact ⟨hi, rfl⟩
  · rw [List.getElem?_eq_none (by simpa using hi)] at e
    cases e
theorem wd_range {ha : Option Addr} {G : Hp} {lo : Int} {n : Nat} : WalkD c ha G (Itr lo n) (rgD lo n) where
  go := fun i G' H s t hi => by rw [rgD_len] at hi; exact hi
  yld := fun i G' H x H' d s t e y => by
    obtain ⟨rfl, rfl⟩ := y
    obtain ⟨hi, rfl⟩ := rgD_at e
    exact ⟨G', Mv.refl t, Same.refl _, .int _⟩
  stop := fun G' H s t => by rw [rgD_len]; exact Nat.le_refl _
/-- small; no way that counts down from a great number, whatever i is -/
def rgOk : Int → Bool
  | .ofNat n => Nat.ble n 1000000
  | .negSucc n => Nat.ble n 999999
theorem rgOk_get {i : Int} (h : rgOk i = true) : -1000000 ≤ i ∧ i ≤ 1000000 := by
  cases i with
  | ofNat n =>
    have : n ≤ 1000000 := Nat.le_of_ble_eq_true h
    rw [Int.ofNat_eq_natCast]
    exact ⟨by omega, by omega⟩
  | negSucc n =>
    have : n ≤ 999999 := Nat.le_of_ble_eq_true h
    exact ⟨by omega, by omega⟩
theorem rgOk_of {i : Int} (h1 : -1000000 ≤ i) (h2 : i ≤ 1000000) : rgOk i = true := by
  cases i with
  | ofNat n =>
    rw [Int.ofNat_eq_natCast] at h2
    exact Nat.ble_eq_true_of_le (by omega)
  | negSucc n => exact Nat.ble_eq_true_of_le (by omega)
def rg1 : List D → Option (List D)
  | [.int j] => if rgOk j then some (rgD 0 j.toNat) else none
  | _ => none
def rg2 : List D → Option (List D)
  | [.int i, .int j] => if rgOk i && rgOk j then some (rgD i (j - i).toNat) else none
  | _ => none
def iRg (k : List D → Option (List D)) (fs : EF (List D)) : EF (List D) := fun δ h => (fs δ h).bind fun ds h1 => Ex.of (k ds) h1
theorem di_rg1 {tg : Expr} {p : Pos} (hg : Gl X "range") (hm : X.mg "range" = none) (ha : PA X [a] (ra c W fs)) (hs : starEach [a] X.env = [(false, eval a X.env)] := by rfl) : PI X tg (.Call (.Name "range" p) [a] [] pos) (ri c W (iRg rg1 fs)) := pi_to (pi_range1 hg hm ha hs) fun σ H R x => by
  obtain ⟨ha, G0, B, G, δ, h, st, p⟩ := x
  refine ⟨ha, G0, B, G, δ, h, st, post_imp (post_bind p) fun ds h1 G1 H1 af p1 vs dv => ?_⟩
  obtain ⟨is, e, k⟩ := post_of p1
  unfold rg1 at e
  split at e
  · obtain ⟨z, rfl⟩ := if_get e
    obtain ⟨v, rfl, dv1⟩ := one_of dv
    obtain ⟨z1, z2⟩ := rgOk_get z
    cases dv1
    exact ⟨_, rfl, by omega, by omega, k _ _ (.refl af.gh af.hd) _ wd_range⟩
  · cases e
theorem di_rg2 {tg : Expr} {p : Pos} (hg : Gl X "range") (hm : X.mg "range" = none) (ha : PA X [a, b] (ra c W fs)) (hs : starEach [a, b] X.env = [(false, eval a X.env), (false, eval b X.env)] := by rfl) (hs2 : starEach [b] X.env = [(false, eval b X.env)] := by rfl) : PI X tg (.Call (.Name "range" p) [a, b] [] pos) (ri c W (iRg rg2 fs)) := pi_to (pi_range2 hg hm ha hs hs2) fun σ H R x => by
  obtain ⟨ha, G0, B, G, δ, h, st, p⟩ := x
  refine ⟨ha, G0, B, G, δ, h, st, post_imp (post_bind p) fun ds h1 G1 H1 af p1 vs dv => ?_⟩
  obtain ⟨is, e, k⟩ := post_of p1
  unfold rg2 at e
  split at e
  · obtain ⟨z, rfl⟩ := if_get e
    rw [Bool.and_eq_true] at z
    obtain ⟨v, w, rfl, dv1, dw⟩ := two_of dv
    obtain ⟨z1, z2⟩ := rgOk_get z.1
    obtain ⟨z3, z4⟩ := rgOk_get z.2
    cases dv1
    cases dw
    exact ⟨_, _, rfl, ⟨by omega, by omega, by omega, by omega⟩, k _ _ (.refl af.gh af.hd) _ wd_range⟩
  · cases e
/-- pairs, each new -/
def zipD : List D → List D → List D
  | x :: xs, y :: ys => .tup [x, y] :: zipD xs ys
  | _, _ => []
theorem zipD_at : ∀ {xs ys : List D} {i : Nat} {d : D}, (zipD xs ys)[i]? = some d → ∃ x y, xs[i]? = some x ∧ ys[i]? = some y ∧ d = .tup [x, y]
  | [], _, i, d, e => by simp [zipD] at e
  | _ :: _, [], i, d, e => by simp [zipD] at e
  | x :: xs, y :: ys, 0, d, e => by
    unfold zipD at e
    exact ⟨x, y, rfl, rfl, (Option.some.inj e).symm⟩
  | x :: xs, y :: ys, i + 1, d, e => by
    unfold zipD at e
    exact zipD_at (i := i) (by simpa using e)
theorem zipD_len : ∀ {xs ys : List D}, (zipD xs ys).length = min xs.length ys.length
  | [], _ => by simp [zipD]
  | _ :: _, [] => by simp [zipD]
  | x :: xs, y :: ys => by
    unfold zipD
    rw [List.length_cons, List.length_cons, List.length_cons, zipD_len]
    omega
theorem zipD_get {xs ys : List D} {i : Nat} (hi : i < (zipD xs ys).length) : i < xs.length ∧ i < ys.length := by rw [zipD_len] at hi; omega
theorem pair_new {ha : Option Addr} {G H : Hp} {T : Addr} {x y : V} {d1 d2 : D} (t : Same G H) (hT : H T = none) (h1 : Dq c ha G x d1) (h2 : Dq c ha G y d2) : ∃ G', Mv G H G' (upd H T (.tup [x, y])) ∧ Same H (upd H T (.tup [x, y])) ∧ Dq c ha G' (.ref T) (.tup [d1, d2]) := by
  have m := Mv.new (o := .tup [x, y]) t hT
  exact ⟨_, m, same_new hT, .tup (SqT.of upd_same) (.cons (dq_mono m.gg h1) (.cons (dq_mono m.gg h2) .nil))⟩
theorem wd_zipL {ha : Option Addr} {G : Hp} {a b : Addr} {xs ys : List V} {ds es : List D} (h1 : G a = some (.lst xs)) (h2 : DqAll c ha G xs ds) (h3 : G b = some (.lst ys)) (h4 : DqAll c ha G ys es) : WalkD c ha G (Itz c.K a b) (zipD ds es) where
  go := fun i G' H s t hi => by
    obtain ⟨i1, i2⟩ := zipD_get hi
    rw [← dqAll_len h2] at i1
    rw [← dqAll_len h4] at i2
    exact ⟨xs, ys, xs[i], ys[i], SqL.of (t _ _ (s _ _ h1)), SqL.of (t _ _ (s _ _ h3)), List.getElem?_eq_getElem i1, List.getElem?_eq_getElem i2⟩
  yld := fun i G' H x H' d s t e y => by
    obtain ⟨T, u, v, rfl, hT, rfl, k1, k2⟩ := y
    obtain ⟨d1, d2, e1, e2, rfl⟩ := zipD_at e
    obtain ⟨u', e3, e4⟩ := dqAll_at h2 e1
    obtain ⟨v', e5, e6⟩ := dqAll_at h4 e2
    rw [k1 xs (SqL.of (t _ _ (s _ _ h1)))] at e3
    rw [k2 ys (SqL.of (t _ _ (s _ _ h3)))] at e5
    cases e3
    cases e5
    exact pair_new t hT (dq_mono s e4) (dq_mono s e6)
  stop := fun G' H s t => by
    refine ⟨xs, ys, SqL.of (t _ _ (s _ _ h1)), SqL.of (t _ _ (s _ _ h3)), ?_⟩
    rw [zipD_len, dqAll_len h2, dqAll_len h4]
    omega
theorem wd_zipT {ha : Option Addr} {G : Hp} {a b : Addr} {xs ys : List V} {ds es : List D} (h1 : SqT c.K G a xs) (h2 : DqAll c ha G xs ds) (h3 : SqT c.K G b ys) (h4 : DqAll c ha G ys es) : WalkD c ha G (RZ.ItzT c.K a b) (zipD ds es) where
  go := fun i G' H s t hi => by
    obtain ⟨i1, i2⟩ := zipD_get hi
    rw [← dqAll_len h2] at i1
    rw [← dqAll_len h4] at i2
    exact ⟨xs, ys, xs[i], ys[i], Evl.ex_t t (Evl.ex_t s h1), Evl.ex_t t (Evl.ex_t s h3), List.getElem?_eq_getElem i1, List.getElem?_eq_getElem i2⟩
  yld := fun i G' H x H' d s t e y => by
    obtain ⟨T, u, v, rfl, hT, rfl, k1, k2⟩ := y
    obtain ⟨d1, d2, e1, e2, rfl⟩ := zipD_at e
    obtain ⟨u', e3, e4⟩ := dqAll_at h2 e1
    obtain ⟨v', e5, e6⟩ := dqAll_at h4 e2
    rw [k1 xs (Evl.ex_t t (Evl.ex_t s h1))] at e3
    rw [k2 ys (Evl.ex_t t (Evl.ex_t s h3))] at e5
    cases e3
    cases e5
    exact pair_new t hT (dq_mono s e4) (dq_mono s e6)
  stop := fun G' H s t => by
    refine ⟨xs, ys, Evl.ex_t t (Evl.ex_t s h1), Evl.ex_t t (Evl.ex_t s h3), ?_⟩
    rw [zipD_len, dqAll_len h2, dqAll_len h4]
    omega
def kZip : List D → Option (List D)
  | [.lst xs, .lst ys] => some (zipD xs ys)
  | [.tup xs, .tup ys] => some (zipD xs ys)
  | _ => none
theorem di_zip {p tpos : Pos} {elts : List Expr} {kk : Nat} (hg : Gl X "zip") (hm : X.mg "zip" = none) (ha : PA X [a, b] (ra c W fs)) (hK : X.K = c.K := by rfl)
    (hs : starEach [a, b] X.env = (false, eval a X.env) :: starEach [b] X.env := by rfl) (hpl : (backTo pos (starEach [b] X.env)).any (·.1) = false := by rfl) : PI X (.Tuple elts kk tpos) (.Call (.Name "zip" p) [a, b] [] pos) (ri c W (iRg kZip fs)) := pi_to (RZ.pi_zipA hg hm ha hs hpl) fun σ H R x => by
  obtain ⟨ha, G0, B, G, δ, h, st, p⟩ := x
  refine ⟨ha, G0, B, G, δ, h, st, post_imp (post_bind p) fun ds h1 G1 H1 af p1 vs dv => ?_⟩
  obtain ⟨is, e, k⟩ := post_of p1
  rw [hK]
  unfold kZip at e
  split at e
  · cases e
    obtain ⟨v, w, rfl, dv1, dw⟩ := two_of dv
    cases dv1 with
    | lst k1 k2 =>
      cases dw with
      | lst k3 k4 => exact ⟨_, _, _, _, rfl, .inl ⟨SqL.of (af.gh _ _ k1), SqL.of (af.gh _ _ k3), k _ _ (.refl af.gh af.hd) _ (wd_zipL k1 k2 k3 k4)⟩⟩
  · cases e
    obtain ⟨v, w, rfl, dv1, dw⟩ := two_of dv
    cases dv1 with
    | tup k1 k2 =>
      cases dw with
      | tup k3 k4 => exact ⟨_, _, _, _, rfl, .inr ⟨Evl.ex_t af.gh k1, Evl.ex_t af.gh k3, k _ _ (.refl af.gh af.hd) _ (wd_zipT k1 k2 k3 k4)⟩⟩
  · cases e
def enD : Nat → List D → List D
  | _, [] => []
  | i, d :: ds => .tup [.int (i : Nat), d] :: enD (i + 1) ds
theorem enD_len : ∀ {ds : List D} {i : Nat}, (enD i ds).length = ds.length
  | [], _ => rfl
  | _ :: ds, i => congrArg Nat.succ enD_len
theorem enD_at : ∀ {ds : List D} {i j : Nat} {d : D}, (enD i ds)[j]? = some d → ∃ x, ds[j]? = some x ∧ d = .tup [.int ((i + j : Nat) : Int), x]
  | [], i, j, d, e => by simp [enD] at e
  | x :: ds, i, 0, d, e => by
    unfold enD at e
    exact ⟨x, rfl, (Option.some.inj e).symm⟩
  | x :: ds, i, j + 1, d, e => by
    unfold enD at e
    obtain ⟨y, h1, h2⟩ := enD_at (i := i + 1) (j := j) (by simpa using e)
    exact ⟨y, by simpa using h1, by rw [h2]; congr 4; omega⟩
theorem wd_enL {ha : Option Addr} {G : Hp} {a : Addr} {xs : List V} {ds : List D} (h1 : G a = some (.lst xs)) (h2 : DqAll c ha G xs ds) : WalkD c ha G (Ite c.K a) (enD 0 ds) where
  go := fun i G' H s t hi => by
    rw [enD_len, ← dqAll_len h2] at hi
    exact ⟨xs, xs[i], SqL.of (t _ _ (s _ _ h1)), List.getElem?_eq_getElem hi⟩
  yld := fun i G' H x H' d s t e y => by
    obtain ⟨T, u, rfl, hT, rfl, k1⟩ := y
    obtain ⟨d1, e1, rfl⟩ := enD_at e
    obtain ⟨u', e3, e4⟩ := dqAll_at h2 e1
    rw [k1 xs (SqL.of (t _ _ (s _ _ h1)))] at e3
    cases e3
    rw [Nat.zero_add]
    exact pair_new t hT (.int _) (dq_mono s e4)
  stop := fun G' H s t => ⟨xs, SqL.of (t _ _ (s _ _ h1)), by rw [enD_len, dqAll_len h2]; exact Nat.le_refl _⟩
theorem wd_enT {ha : Option Addr} {G : Hp} {a : Addr} {xs : List V} {ds : List D} (h1 : SqT c.K G a xs) (h2 : DqAll c ha G xs ds) : WalkD c ha G (Gn.IteT c.K a) (enD 0 ds) where
  go := fun i G' H s t hi => by
    rw [enD_len, ← dqAll_len h2] at hi
    exact ⟨xs, xs[i], Evl.ex_t t (Evl.ex_t s h1), List.getElem?_eq_getElem hi⟩
  yld := fun i G' H x H' d s t e y => by
    obtain ⟨T, u, rfl, hT, rfl, k1⟩ := y
    obtain ⟨d1, e1, rfl⟩ := enD_at e
    obtain ⟨u', e3, e4⟩ := dqAll_at h2 e1
    rw [k1 xs (Evl.ex_t t (Evl.ex_t s h1))] at e3
    cases e3
    rw [Nat.zero_add]
    exact pair_new t hT (.int _) (dq_mono s e4)
  stop := fun G' H s t => ⟨xs, Evl.ex_t t (Evl.ex_t s h1), by rw [enD_len, dqAll_len h2]⟩
def kEnum : List D → Option (List D)
  | [.lst xs] => some (enD 0 xs)
  | [.tup xs] => some (enD 0 xs)
  | _ => none
theorem di_enum {p tpos : Pos} {elts : List Expr} {kk : Nat} (hg : Gl X "enumerate") (hm : X.mg "enumerate" = none) (ha : PA X [a] (ra c W fs)) (hK : X.K = c.K := by rfl)
    (hs : starEach [a] X.env = [(false, eval a X.env)] := by rfl) : PI X (.Tuple elts kk tpos) (.Call (.Name "enumerate" p) [a] [] pos) (ri c W (iRg kEnum fs)) := pi_to (Gn.pi_enumA hg hm ha hs) fun σ H R x => by
  obtain ⟨ha, G0, B, G, δ, h, st, p⟩ := x
  refine ⟨ha, G0, B, G, δ, h, st, post_imp (post_bind p) fun ds h1 G1 H1 af p1 vs dv => ?_⟩
  obtain ⟨is, e, k⟩ := post_of p1
  rw [hK]
  unfold kEnum at e
  split at e
  · cases e
    obtain ⟨v, rfl, dv1⟩ := one_of dv
    cases dv1 with
    | lst k1 k2 => exact ⟨_, _, rfl, .inl ⟨SqL.of (af.gh _ _ k1), k _ _ (.refl af.gh af.hd) _ (wd_enL k1 k2)⟩⟩
  · cases e
    obtain ⟨v, rfl, dv1⟩ := one_of dv
    cases dv1 with
    | tup k1 k2 => exact ⟨_, _, rfl, .inr ⟨Evl.ex_t af.gh k1, k _ _ (.refl af.gh af.hd) _ (wd_enT k1 k2)⟩⟩
  · cases e
end
end Fw
namespace Fw
open PySem PySem.Spec PyProof.Rows L2 Dz Vz
/-- nothing gets out -/
def WF : WX := fun _ _ _ _ => False
def Ex.nox {α : Type} : Ex α → Ex α
  | .ok a h => .ok a h
  | _ => .bad
def wipeD (δ : DE) : List Nat → DE
  | [] => δ
  | v :: vs => (wipeD δ vs).set v none
def lcGo (bind : D → DE → Option DE) (test : EF Bool) (elt : EF D) (δ : DE) : List D → D → Ex (List D)
  | [], h => .ok [] h
  | x :: xs, h => match bind x δ with
    | none => .bad
    | some δ2 => (test δ2 h).nox.bind fun b h2 => if b then (elt δ2 h2).nox.bind fun y h3 => (lcGo bind test elt δ xs h3).bind fun ys h4 => .ok (y :: ys) h4 else lcGo bind test elt δ xs h2
def eLcL (vs : List Nat) (it : EF (List D)) (bind : D → DE → Option DE) (test : EF Bool) (elt : EF D) : EF (List D) := fun δ h => (it δ h).bind fun ds h1 => if szOk ds.length then lcGo bind test elt (wipeD δ vs) ds h1 else .bad
def eLc (vs : List Nat) (it : EF (List D)) (bind : D → DE → Option DE) (test : EF Bool) (elt : EF D) : EF D := fun δ h => (eLcL vs it bind test elt δ h).bind fun ys h2 => .ok (.hl ys) h2
def tYesD : EF Bool := fun _ h => .ok true h
section
variable {X : Cx} {W : WX} {c : Cn} {e a b e2 : Expr} {es : List Expr} {pos : Pos} {ta tb te : TE} {f fa fb fc : EF D} {ga gb : EF Bool} {fs : EF (List D)}
theorem wipe_set {i : Nat} {o : Option V} : ∀ {vs : List Nat} {σ : L2.St}, (i ∈ vs → wipe (σ.set i o) vs = wipe σ vs) ∧ (i ∉ vs → wipe (σ.set i o) vs = (wipe σ vs).set i o)
  | [], σ => ⟨fun h => (List.not_mem_nil h).elim, fun _ => rfl⟩
  | v :: vs, σ => by
    obtain ⟨h1, h2⟩ := wipe_set (i := i) (o := o) (vs := vs) (σ := σ)
    constructor
    · intro hm
      show (wipe (σ.set i o) vs).set v none = (wipe σ vs).set v none
      by_cases hi : i ∈ vs
      · rw [h1 hi]
      · rw [h2 hi]
        rcases List.mem_cons.mp hm with e | e
        · subst e
          rw [List.set_set]
        · exact absurd e hi
    · intro hm
      have hv : i ≠ v := fun z => hm (by rw [z]; exact List.mem_cons_self)
      have hi : i ∉ vs := fun z => hm (List.mem_cons_of_mem _ z)
      show (wipe (σ.set i o) vs).set v none = ((wipe σ vs).set v none).set i o
      rw [h2 hi, List.set_comm _ _ hv]
theorem wipe_sub {σ : L2.St} {vs : List Nat} : ∀ {us : List Nat}, (∀ u ∈ us, u ∈ vs) → wipe (wipe σ us) vs = wipe σ vs
  | [], _ => rfl
  | u :: us, h => by
    show wipe ((wipe σ us).set u none) vs = wipe σ vs
    rw [wipe_set.1 (h u List.mem_cons_self)]
    exact wipe_sub fun x hx => h x (List.mem_cons_of_mem _ hx)
theorem wipe_wipe {σ : L2.St} {vs : List Nat} : wipe (wipe σ vs) vs = wipe σ vs := wipe_sub fun _ h => h
theorem Sta.wipe1 {ha : Option Addr} {G0 B G H : Hp} {σ : L2.St} {δ : DE} {h : D} (st : Sta c ha G0 B G H σ δ h) (i : Nat) (o : Option V) : Sta c ha G0 B G H (σ.set i o) (δ.set i none) h := by
  obtain ⟨fp, os, n, k⟩ := st.sl
  obtain ⟨fp', o', sb⟩ := ownS_wipe (i := i) o os
  exact ⟨⟨fp', o', n.sublist sb, fun a ha => k a (sb.subset ha)⟩, st.mv, st.bt, st.hd, st.hb⟩
theorem Sta.wipe {ha : Option Addr} {G0 B G H : Hp} {σ : L2.St} {δ : DE} {h : D} (st : Sta c ha G0 B G H σ δ h) : ∀ vs : List Nat, Sta c ha G0 B G H (L2.wipe σ vs) (wipeD δ vs) h
  | [] => st
  | v :: vs => (st.wipe vs).wipe1 v none
/-- a slot is stored with a thing at rest -/
theorem Sta.setD {ha : Option Addr} {G0 B G H : Hp} {σ : L2.St} {δ : DE} {h : D} {v : V} {d : D} (st : Sta c ha G0 B G H σ δ h) (i : Nat) (dv : Dq c ha G v d) : Sta c ha G0 B G H (σ.set i (some v)) (δ.set i (some d)) h := by
  obtain ⟨fp, os, n, k⟩ := st.sl
  obtain ⟨fp', o', h2⟩ := ownS_set (i := i) (.frz dv) os
  obtain ⟨n2, k2⟩ := h2 [] n
  exact ⟨⟨fp', o', n2, fun a hx => by rcases k2 a hx with z | z; exact nomatch z; exact k a z⟩, st.mv, st.bt, st.hd, st.hb⟩
/-- a target's binding -/
def BindD (c : Cn) (vs : List Nat) (g : TG) (bind : D → DE → Option DE) : Prop := ∀ {ha : Option Addr} {G0 B G H : Hp} {σ : L2.St} {δ δ2 : DE} {h d : D} {v : V} {Q : L2.St → Hp → Prop}, Sta c ha G0 B G H σ δ h → Dq c ha G v d → bind d δ = some δ2 → (∀ σ2, Sta c ha G0 B G H σ2 δ2 h → wipe σ2 vs = wipe σ vs → Q σ2 H) → g v σ H Q
def bNm (i : Nat) : D → DE → Option DE := fun d δ => some (δ.set i (some d))
theorem bd_nm {i : Nat} {vs : List Nat} (hi : i ∈ vs) : BindD c vs (gName i) (bNm i) := by
  intro ha G0 B G H σ δ δ2 h d v Q st dv e fin
  cases e
  exact fin _ (st.setD i dv) (wipe_set.1 hi)
def bAll : List (D → DE → Option DE) → List D → DE → Option DE
  | [], [], δ => some δ
  | b :: bs, d :: ds, δ => match b d δ with
    | some δ2 => bAll bs ds δ2
    | none => none
  | _, _, _ => none
def bTp (bs : List (D → DE → Option DE)) : D → DE → Option DE := fun d δ => match d with
  | .tup ds => bAll bs ds δ
  | _ => none
def BindA (c : Cn) (vs : List Nat) (g : TGs) (bs : List (D → DE → Option DE)) : Prop := ∀ {ha : Option Addr} {G0 B G H : Hp} {σ : L2.St} {δ δ2 : DE} {h : D} {ds : List D} {xs : List V} {Q : L2.St → Hp → Prop}, Sta c ha G0 B G H σ δ h → DqAll c ha G xs ds → bAll bs ds δ = some δ2 → (∀ σ2, Sta c ha G0 B G H σ2 δ2 h → wipe σ2 vs = wipe σ vs → Q σ2 H) → g xs σ H Q
theorem ba_nil {vs : List Nat} : BindA c vs gNil [] := by
  intro ha G0 B G H σ δ δ2 h ds xs Q st dv e fin
  cases dv with
  | nil => cases e; exact ⟨rfl, fin _ st rfl⟩
  | cons _ _ => cases e
theorem ba_cons {vs : List Nat} {g : TG} {gs : TGs} {b : D → DE → Option DE} {bs : List (D → DE → Option DE)} (h1 : BindD c vs g b) (h2 : BindA c vs gs bs) : BindA c vs (gCons g gs) (b :: bs) := by
  intro ha G0 B G H σ δ δ2 h ds xs Q st dv e fin
  cases dv with
  | nil => cases e
  | cons d1 d2 =>
    rename_i v d xs ds
    unfold bAll at e
    cases q : b d δ with
    | none => rw [q] at e; cases e
    | some δ1 =>
      rw [q] at e
      exact ⟨_, _, rfl, h1 st d1 q fun σ1 s1 w1 => h2 s1 d2 e fun σ2 s2 w2 => fin σ2 s2 (w2.trans w1)⟩
theorem bAll_len : ∀ {bs : List (D → DE → Option DE)} {ds : List D} {δ δ2 : DE}, bAll bs ds δ = some δ2 → ds.length = bs.length
  | [], [], _, _, _ => rfl
  | b :: bs, d :: ds, δ, δ2, e => by
    unfold bAll at e
    cases q : b d δ with
    | none => rw [q] at e; cases e
    | some δ1 =>
      rw [q] at e
      rw [List.length_cons, List.length_cons, bAll_len e]
  | [], _ :: _, _, _, e => by cases e
  | _ :: _, [], _, _, e => by cases e
theorem bd_tp {vs : List Nat} {gs : TGs} {bs : List (D → DE → Option DE)} {n : Nat} (hn : bs.length = n) (h2 : BindA c vs gs bs) : BindD c vs (gTup c.K n gs) (bTp bs) := by
  intro ha G0 B G H σ δ δ2 h d v Q st dv e fin
  cases dv with
  | tup h3 h4 => exact ⟨_, _, rfl, Evl.ex_t st.gh h3, by rw [dqAll_len h4, bAll_len e, hn], h2 st h4 e fin⟩
  | _ => cases e
theorem nox_ok {α : Type} {r : Ex α} {a : α} {h : D} (e : r.nox = .ok a h) : r = .ok a h := by
  cases r <;> first | exact e | cases e
theorem bind_ok {α β : Type} {r : Ex α} {k : α → D → Ex β} {b : β} {h : D} (e : r.bind k = .ok b h) : ∃ a h1, r = .ok a h1 ∧ k a h1 = .ok b h := by
  cases r with
  | ok a h1 => exact ⟨a, h1, rfl, e⟩
  | exc _ _ _ => cases e
  | bad => cases e
theorem lcGo_ne {bind : D → DE → Option DE} {test : EF Bool} {elt : EF D} {δ : DE} : ∀ {ds : List D} {h : D} {n : Str} {fs : List (Str × D)} {h2 : D}, lcGo bind test elt δ ds h ≠ .exc n fs h2
  | [], h, n, fs, h2, e => by cases e
  | d :: ds, h, n, fs, h2, e => by
    unfold lcGo at e
    cases q : bind d δ with
    | none => rw [q] at e; cases e
    | some δ2 =>
      simp only [q] at e
      cases q2 : test δ2 h with
      | ok b h3 =>
        rw [q2] at e
        cases b with
        | true =>
          have e' : ((elt δ2 h3).nox.bind fun y h3 => (lcGo bind test elt δ ds h3).bind fun ys h4 => .ok (y :: ys) h4) = .exc n fs h2 := e
          cases q3 : elt δ2 h3 with
          | ok y h4 =>
            rw [q3] at e'
            have e2 : ((lcGo bind test elt δ ds h4).bind fun ys h4 => Ex.ok (y :: ys) h4) = .exc n fs h2 := e'
            cases q4 : lcGo bind test elt δ ds h4 with
            | ok ys h5 => rw [q4] at e2; cases e2
            | exc n2 f2 h5 => exact lcGo_ne q4
            | bad => rw [q4] at e2; cases e2
          | exc _ _ _ => rw [q3] at e'; cases e'
          | bad => rw [q3] at e'; cases e'
        | false =>
          have e' : lcGo bind test elt δ ds h3 = .exc n fs h2 := e
          exact lcGo_ne e'
      | exc _ _ _ => rw [q2] at e; cases e
      | bad => rw [q2] at e; cases e
/-- a step of the walk: what was taken, what is left -/
structure LcI (c : Cn) (ha : Option Addr) (bind : D → DE → Option DE) (test : EF Bool) (elt : EF D) (δw : DE) (items all : List D) (hE : D) (G1 H1 : Hp) (Da : Addr) (i : Nat) (H : Hp) : Prop where
  ex : ∃ G h acc ds ys, Af c ha G1 H1 G H h ∧ H Da = some (.lst acc) ∧ G Da = none ∧ DqAll c ha G acc ds ∧ ds.length ≤ i ∧ lcGo bind test elt δw (items.drop i) h = .ok ys hE ∧ ds ++ ys = all
theorem af_put {ha : Option Addr} {G1 H1 G H : Hp} {h : D} {p : Addr} {o : HO} (af : Af c ha G1 H1 G H h) (hp : H1 p = none) (gp : G p = none) (hk : ∀ a, ha = some a → H1 a ≠ none) (hn : H p ≠ none) : Af c ha G1 H1 G (upd H p o) h := by
  refine ⟨af.mv.trans (Mv.put af.gh gp hn), fun b u n e => ?_, hok_keep af.hd (Same.refl _) fun a e => ?_⟩
  · rw [upd_ne fun z => by rw [z, hp] at e; cases e]
    exact af.bt b u n e
  · have hne := hk a e
    refine ⟨?_, upd_ne fun z => hne (by rw [z]; exact hp)⟩
    subst e
    exact (hok_at af.hd).1
theorem lc_run {ha : Option Addr} {bind : D → DE → Option DE} {g : TG} {vs : List Nat} {J : It} {items all : List D} {hE h1 : D} {G0 B G1 H1 : Hp} {σ : L2.St} {δ : DE} {Da : Addr} {Qd : Hp → Prop} (st : Sta c ha G0 B G1 H1 σ δ h1) (w : WalkD c ha G1 J items) (bd : BindD c vs g bind) (sz : szOk items.length = true)
    (hD : H1 Da = none) (go : lcGo bind ga f (wipeD δ vs) items h1 = .ok all hE)
    (fin : ∀ G H acc, Af c ha G1 H1 G H hE → H Da = some (.lst acc) → G Da = none → DqAll c ha G acc all → Qd H) : LcW J g (rt c WF ga) (rd c WF f) vs σ H1 Da Qd := by
  have hk := st.hne
  refine ⟨fun i m H => m = items.length - i ∧ i ≤ items.length ∧ LcI c ha bind ga f (wipeD δ vs) items all hE G1 H1 Da i H, ⟨_, rfl, Nat.zero_le _, ⟨G1, h1, [], [], all, ?_⟩⟩, ?_⟩
  · have a0 : Af c ha G1 H1 G1 (upd H1 Da (.lst [])) h1 := .of st.gh st.hd (Mv.hid st.gh hD) (same_new hD)
    exact ⟨a0, upd_same, old_none st.gh hD, .nil, Nat.zero_le _, go, rfl⟩
  · rintro i m H ⟨rfl, hi, ⟨G, h, acc, ds, ys, af, hDa, gD, da, hl, go, ea⟩⟩
    by_cases hlt : i < items.length
    · refine .inr ⟨w.go i G H af.gg af.gh hlt, fun H' => i + 1 ≤ items.length ∧ LcI c ha bind ga f (wipeD δ vs) items all hE G1 H1 Da (i + 1) H', fun H' hn => ⟨_, by omega, rfl, hn⟩, fun x H' y => ?_⟩
      have ei : items[i]? = some items[i] := List.getElem?_eq_getElem hlt
      obtain ⟨G2, m2, s2, dx⟩ := w.yld i G H x H' _ af.gg af.gh ei y
      have af2 : Af c ha G H G2 H' h := .of af.gh af.hd m2 s2
      have st2 := ((st.wipe vs).to af).to af2
      have ed : items.drop i = items[i] :: items.drop (i + 1) := (List.drop_eq_getElem_cons hlt)
      rw [ed] at go
      unfold lcGo at go
      cases qb : bind items[i] (wipeD δ vs) with
      | none => rw [qb] at go; cases go
      | some δ2 =>
        simp only [qb] at go
        obtain ⟨b, h2, e1, go2⟩ := bind_ok go
        have e1' := nox_ok e1
        refine bd st2 dx qb fun σ2 st3 we => ⟨we.trans (by rw [wipe_wipe]), ha, G0, B, G2, δ2, h, st3, ?_⟩
        rw [e1']
        intro G3 H3 af3
        have d03 := (af.trans af2).trans af3
        have hD3 : H3 Da = some (.lst acc) := af3.bt _ _ (fun z => hk Da z hD) (s2 _ _ hDa)
        have gD3 : G3 Da = none := (af3.mv.nw Da (some_ne (s2 _ _ hDa))).trans ((m2.nw Da (some_ne hDa)).trans gD)
        cases b with
        | false =>
          have go3 : lcGo bind ga f (wipeD δ vs) (items.drop (i + 1)) h2 = .ok ys hE := go2
          exact ⟨hlt, ⟨G3, h2, acc, ds, ys, d03, hD3, gD3, dqAll_mono (af2.gg.trans af3.gg) da, by omega, go3, ea⟩⟩
        | true =>
          have go3 : ((f δ2 h2).nox.bind fun y h3 => (lcGo bind ga f (wipeD δ vs) (items.drop (i + 1)) h3).bind fun ys h4 => .ok (y :: ys) h4) = Ex.ok ys hE := go2
          obtain ⟨y1, h3, e3, go4⟩ := bind_ok go3
          obtain ⟨ys1, h4, e4, go5⟩ := bind_ok go4
          cases go5
          have e3' := nox_ok e3
          refine ⟨ha, G0, B, G3, δ2, h2, st3.to af3, ?_⟩
          rw [e3']
          intro G4 H4 af4 v dv
          have hD4 : H4 Da = some (.lst acc) := af4.bt _ _ (fun z => hk Da z hD) hD3
          have gD4 : G4 Da = none := (af4.mv.nw Da (some_ne hD3)).trans gD3
          have gg := (af2.gg.trans af3.gg).trans af4.gg
          refine ⟨acc, hD4, ?_, hlt, ⟨G4, h3, acc ++ [v], ds ++ [y1], ys1, af_put (d03.trans af4) hD gD4 hk (some_ne hD4), upd_same, gD4, dqAll_app (dqAll_mono gg da) (.cons dv .nil), ?_, e4, by rw [List.append_assoc]; exact ea⟩⟩
          · rw [dqAll_len da, sizeLine_eq]
            have := of_decide_eq_true sz
            omega
          · rw [List.length_append, List.length_singleton]
            omega
    · have hi2 : i = items.length := by omega
      subst hi2
      rw [List.drop_length] at go
      cases go
      rw [List.append_nil] at ea
      subst ea
      exact .inl ⟨w.stop G H af.gg af.gh, fin G H acc af hDa gD da⟩
theorem post_lcL {ha : Option Addr} {G1 H1 : Hp} {h1 : D} {σ : L2.St} {vs : List Nat} {bind : D → DE → Option DE} {δ : DE} {ds : List D} {β : Type} {k : List D → D → Ex β} {K : β → D → Hp → Hp → Prop} (p : Post c ha W σ G1 H1 ((if szOk ds.length then lcGo bind ga f (wipeD δ vs) ds h1 else .bad).bind k) K) :
    szOk ds.length = true ∧ ∃ ys h2, lcGo bind ga f (wipeD δ vs) ds h1 = .ok ys h2 ∧ Post c ha W σ G1 H1 (k ys h2) K := by
  by_cases hz : szOk ds.length = true
  · rw [if_pos hz] at p
    cases q : lcGo bind ga f (wipeD δ vs) ds h1 with
    | ok ys h2 => rw [q] at p; exact ⟨hz, ys, h2, rfl, p⟩
    | exc n fs h2 => exact absurd q lcGo_ne
    | bad => rw [q] at p; exact p.elim
  · rw [if_neg hz] at p
    exact p.elim
theorem bind_assoc {α β γ : Type} {r : Ex α} {k : α → D → Ex β} {l : β → D → Ex γ} : (r.bind k).bind l = r.bind fun a h => (k a h).bind l := by cases r <;> rfl
theorem rn_lc {vs : List Nat} {bind : D → DE → Option DE} {g : TG} (bd : BindD c vs g bind) (σ : L2.St) (H : Hp) (Q : VK) (x : rn c W (eLc vs fs bind ga f) σ H Q) : tLc (ri c W fs) g (rt c WF ga) (rd c WF f) vs σ H Q := by
  obtain ⟨ha, G0, B, G, δ, h, st, p⟩ := x
  unfold eLc eLcL at p
  rw [bind_assoc] at p
  refine ⟨ha, G0, B, G, δ, h, st, post_imp (post_bind p) fun ds h1 G1 H1 af p1 J w Da hD => ?_⟩
  obtain ⟨hz, ys, h2, go, p2⟩ := post_lcL p1
  refine lc_run (st.to af) w bd hz hD go fun G2 H2 acc af2 hDa gD da => ?_
  exact p2 G2 H2 af2 _ (.inr ⟨Da, acc, ys, rfl, rfl, hDa, gD, af_old af hD, da⟩)
theorem dn_lc {elt tg iter : Expr} {ifs : List Expr} {scope : Scope} {own : List (Str × Nat)} {bind : D → DE → Option DE} {g : TG} (hc : X.calm = true) (hN : X.N.Nodup) (hi : PI X tg iter (ri c W fs)) (ok : BlkOk X.N X.env.scope scope own) (bd : BindD c (own.map (·.2)) g bind)
    (hg : ∀ (s : Shared) (H : Hp) (C : Addr) (cl : List (Str × Addr)) (fp : List Addr), PG (X.blk s H scope (compEnvC scope cl C X.env) fp) tg g) (ht : ∀ (s : Shared) (H : Hp) (C : Addr) (cl : List (Str × Addr)) (fp : List Addr), PTs (X.blk s H scope (compEnvC scope cl C X.env) fp) ifs (rt c WF ga))
    (he : ∀ (s : Shared) (H : Hp) (C : Addr) (cl : List (Str × Addr)) (fp : List Addr), PE (X.blk s H scope (compEnvC scope cl C X.env) fp) elt (rd c WF f)) (hs : ∀ x, foldedSetIterable iter X.env x = pure x := by intro _; rfl) :
    PE X (.ListComp elt [⟨tg, iter, ifs, 0⟩] scope pos) (rn c W (eLc (own.map (·.2)) fs bind ga f)) := pn_to (pe_lc hc hN hi ok hg ht he hs) (rn_lc bd)
theorem pts_no {X : Cx} : PTs X [] (rt c WF tYesD) := ⟨fun pins s σ H Q I x => by
  obtain ⟨ha, G0, B, G, δ, h, st, p⟩ := x
  exact pts_nil.run pins s σ H Q I (post_ok p st.gh st.hd)⟩
theorem pts_if {X : Cx} {e : Expr} (p : PT X e (rt c WF ga)) : PTs X [e] (rt c WF ga) := pts_one p
end
end Fw
namespace Fw
open PySem PySem.Spec PyProof.Rows L2 Dz Vz
inductive Fl where
  | nx (δ : DE) (h : D)
  | ret (d : D) (h : D)
  | brk (δ : DE) (h : D)
  | ct (δ : DE) (h : D)
  | exc (n : Str) (fs : List (Str × D)) (δ : DE) (h : D)
  | bad
abbrev SF := DE → D → Fl
/-- what a def hands back: a thing at rest; or lists that nobody else holds -/
def Res (nw : Bool) (c : Cn) (ha : Option Addr) (B G' H' : Hp) (v : V) (d : D) : Prop := match nw with
  | false => Dq c ha G' v d
  | true => ∃ fp, Own c ha G' H' v d fp ∧ fp.Nodup ∧ ∀ a ∈ fp, B a = none ∧ ha ≠ some a
def PostS (c : Cn) (ha : Option Addr) (W : WX) (nw : Bool) (G0 B G : Hp) (r : Fl) (Dn : Ends) : Prop := match r with
  | .nx δ' h' => ∀ σ' G' H', Sta c ha G0 B G' H' σ' δ' h' → Same G G' → Dn.nx σ' H'
  | .brk δ' h' => ∀ σ' G' H', Sta c ha G0 B G' H' σ' δ' h' → Same G G' → Dn.bk σ' H'
  | .ct δ' h' => ∀ σ' G' H', Sta c ha G0 B G' H' σ' δ' h' → Same G G' → Dn.ct σ' H'
  | .ret d h' => ∀ v G' H', Af c ha G0 B G' H' h' → Res nw c ha B G' H' v d → Dn.rt v H'
  | .exc n fs δ' h' => ∀ σ' C dd G1 H1 h1 G' H', Sta c ha G0 B G1 H1 σ' δ' h1 → Same G G1 → Af c ha G1 H1 G' H' h' → c.mg n = some (.ref C) → XR c ha G' H1 H' C dd fs → W (.ref C) dd σ' H'
  | .bad => False
def rs (c : Cn) (W : WX) (nw : Bool) (f : SF) : TS := fun Dn σ H => ∃ ha G0 B G δ h, Sta c ha G0 B G H σ δ h ∧ PostS c ha W nw G0 B G (f δ h) Dn
/-- an expression's outcome within a statement -/
def Ex.fl {α : Type} (r : Ex α) (δ : DE) (k : α → D → Fl) : Fl := match r with
  | .ok a h => k a h
  | .exc n fs h => .exc n fs δ h
  | .bad => .bad
section
variable {X : Cx} {W : WX} {c : Cn} {nw : Bool} {e a b e2 : Expr} {es : List Expr} {pos : Pos} {ta tb te : TE} {f fa fb fc : EF D} {g ga gb : EF Bool} {fs : EF (List D)} {s : Stmt} {ss : List Stmt} {u v : SF}
section
variable {ha : Option Addr} {G0 B G H G1 H1 G' H' : Hp} {σ : L2.St} {δ : DE} {h h1 h' : D} {Dn : Ends}
theorem Sta.af (st : Sta c ha G0 B G H σ δ h) : Af c ha G0 B G H h := ⟨st.mv, st.bt, st.hd⟩
theorem posts_from {r : Fl} (s : Same G G1) (p : PostS c ha W nw G0 B G r Dn) : PostS c ha W nw G0 B G1 r Dn := by
  cases r with
  | nx δ' h' => exact fun σ' G' H' st t => p σ' G' H' st (s.trans t)
  | brk δ' h' => exact fun σ' G' H' st t => p σ' G' H' st (s.trans t)
  | ct δ' h' => exact fun σ' G' H' st t => p σ' G' H' st (s.trans t)
  | exc n fs δ' h' => exact fun σ' C dd G1 H1 h1 G' H' st t => p σ' C dd G1 H1 h1 G' H' st (s.trans t)
  | _ => exact p
/-- from an expression's outcome -/
theorem post_fl {α : Type} {r : Ex α} {k : α → D → Fl} (st : Sta c ha G0 B G H σ δ h) (p : PostS c ha W nw G0 B G (r.fl δ k) Dn) : Post c ha W σ G H r fun a h1 G1 H1 => PostS c ha W nw G0 B G1 (k a h1) Dn := by
  cases r with
  | ok a h1 => exact fun G1 H1 af => posts_from af.gg p
  | exc n fs h1 => exact fun C dd G1 H1 af m x => p σ C dd G H h G1 H1 st (Same.refl _) af m x
  | bad => exact p
end
theorem ps_to {t : TS} (p : PS X s t) (i : ∀ Dn σ H, rs c W nw u Dn σ H → t Dn σ H) : PS X s (rs c W nw u) := ⟨fun pins s σ H Dn I h => p.run pins s σ H Dn I (i Dn σ H h)⟩
theorem pss_to {t : TS} (p : PSs X ss t) (i : ∀ Dn σ H, rs c W nw u Dn σ H → t Dn σ H) : PSs X ss (rs c W nw u) := ⟨fun pins s σ H Dn I h => p.run pins s σ H Dn I (i Dn σ H h)⟩
def sNil : SF := fun δ h => .nx δ h
def Fl.bind (r : Fl) (k : SF) : Fl := match r with
  | .nx δ h => k δ h
  | r => r
def sSeq (u v : SF) : SF := fun δ h => (u δ h).bind v
theorem ds_nil : PSs X [] (rs c W nw sNil) := pss_to pss_nil fun Dn σ H ⟨ha, G0, B, G, δ, h, st, p⟩ => p σ G H st (Same.refl _)
theorem ds_cons (p : PS X s (rs c W nw u)) (q : PSs X ss (rs c W nw v)) : PSs X (s :: ss) (rs c W nw (sSeq u v)) := pss_to (pss_cons p q) fun Dn σ H x => by
  obtain ⟨ha, G0, B, G, δ, h, st, p⟩ := x
  refine ⟨ha, G0, B, G, δ, h, st, ?_⟩
  unfold sSeq at p
  cases r : u δ h with
  | nx δ' h' =>
    rw [r] at p
    exact fun σ' G' H' st' t => ⟨ha, G0, B, G', δ', h', st', posts_from t p⟩
  | ret d h' => rw [r] at p; exact p
  | brk δ' h' => rw [r] at p; exact p
  | ct δ' h' => rw [r] at p; exact p
  | exc n fs δ' h' => rw [r] at p; exact p
  | bad => rw [r] at p; exact p
theorem ds_one (p : PS X s (rs c W nw u)) : PSs X [s] (rs c W nw u) := pss_one p
def sSet (i : Nat) (f : EF D) : SF := fun δ h => (f δ h).fl δ fun d h1 => .nx (δ.set i (some d)) h1
theorem rs_set {i : Nat} (Dn : Ends) (σ : L2.St) (H : Hp) (x : rs c W nw (sSet i f) Dn σ H) : tAsg (rd c W f) (gName i) Dn σ H := by
  obtain ⟨ha, G0, B, G, δ, h, st, p⟩ := x
  exact ⟨ha, G0, B, G, δ, h, st, post_imp (post_fl st p) fun d h1 G1 H1 af q v dv => q _ G1 H1 ((st.to af).setD i dv) (Same.refl _)⟩
theorem ds_set {i : Nat} {x : Str} {pos' : Pos} (hN : X.N.Nodup) (hi : X.N[i]? = some x) (hx : Loc X.env.scope x) (he : PE X e (rd c W f)) (hs : swapsWith e (some (.Name x pos')) pos.line X.env = pure false := by rfl) (hf : X.fn x = true ∨ X.env.scope.names.lookup x = some .local := by first | exact .inl rfl | exact .inr rfl | assumption) :
    PS X (.Assign [.Name x pos'] e pos) (rs c W nw (sSet i f)) := ps_to (ps_set hN hi hx he hs hf) rs_set
theorem Sta.old {ha : Option Addr} {G0 B G H : Hp} {σ : L2.St} {δ : DE} {h : D} {a : Addr} (st : Sta c ha G0 B G H σ δ h) (e : H a = none) : B a = none := by
  cases z : B a with
  | none => rfl
  | some o => exact absurd e (st.mv.dm a (some_ne z))
theorem Sta.ne_ha {ha : Option Addr} {G0 B G H : Hp} {σ : L2.St} {δ : DE} {h : D} {a : Addr} (st : Sta c ha G0 B G H σ δ h) (e : H a = none) : ha ≠ some a := fun z => st.hne a z e
/-- the slots' lists behind an expression -/
theorem Sta.keep {ha : Option Addr} {B G H G1 H1 : Hp} {σ : L2.St} {δ : DE} {h1 : D} {fp : List Addr} (af : Af c ha G H G1 H1 h1) (o : OwnS c ha G H σ δ fp) (k : ∀ a ∈ fp, B a = none ∧ ha ≠ some a) : OwnS c ha G1 H1 σ δ fp := by
  refine ownS_keep af.gg o fun b hb => ?_
  obtain ⟨g, hne⟩ := ownS_at o b hb
  obtain ⟨u, e⟩ := ne_some hne
  exact ⟨by rw [e]; exact af.bt b u (k b hb).2 e, (af.mv.nw b hne).trans g⟩
/-- a slot takes what an expression made -/
theorem Sta.setO {ha : Option Addr} {G0 B G H G1 H1 : Hp} {σ : L2.St} {δ : DE} {h h1 : D} {v : V} {d : D} {f : List Addr} (st : Sta c ha G0 B G H σ δ h) (af : Af c ha G H G1 H1 h1) (i : Nat) (o : Own c ha G1 H1 v d f) (nf : f.Nodup) (kf : ∀ a ∈ f, H a = none) : Sta c ha G0 B G1 H1 (σ.set i (some v)) (δ.set i (some d)) h1 := by
  obtain ⟨fp, os, n, k⟩ := st.sl
  have os1 := Sta.keep (B := B) af os k
  obtain ⟨fp', o', h2'⟩ := ownS_set (i := i) o os1
  obtain ⟨n2, k2⟩ := h2' [] (by
    show (f ++ fp).Nodup
    refine List.nodup_append.mpr ⟨nf, n, fun a hx b hy => ?_⟩
    rintro rfl
    exact (ownS_at os a hy).2 (kf a hx))
  have st1 := st.to af
  refine ⟨⟨fp', o', n2, fun b hx => ?_⟩, st1.mv, st1.bt, st1.hd, st1.hb⟩
  rcases k2 b hx with z | z
  · exact ⟨st.old (kf b z), st.ne_ha (kf b z)⟩
  · exact k b z
theorem nw_own {ha : Option Addr} {H G1 H1 : Hp} {v : V} {d : D} (n : Nw c ha H G1 H1 v d) : ∃ f, Own c ha G1 H1 v d f ∧ f.Nodup ∧ ∀ a ∈ f, H a = none := by
  rcases n with n | ⟨a, xs, ds, rfl, rfl, k1, k2, k3, k4⟩
  · exact ⟨[], .frz n, by simp, fun a hx => nomatch hx⟩
  · exact ⟨[a], .hl k1 k2 (ownAll_of k4), by simp, fun b hx => by rw [List.mem_singleton.mp hx]; exact k3⟩
theorem Sta.setN {ha : Option Addr} {G0 B G H G1 H1 : Hp} {σ : L2.St} {δ : DE} {h h1 : D} {v : V} {d : D} (st : Sta c ha G0 B G H σ δ h) (af : Af c ha G H G1 H1 h1) (i : Nat) (n : Nw c ha H G1 H1 v d) : Sta c ha G0 B G1 H1 (σ.set i (some v)) (δ.set i (some d)) h1 := by
  obtain ⟨f, o, n1, n2⟩ := nw_own n
  exact st.setO af i o n1 n2
theorem rs_setN {i : Nat} (Dn : Ends) (σ : L2.St) (H : Hp) (x : rs c W nw (sSet i f) Dn σ H) : tAsg (rn c W f) (gName i) Dn σ H := by
  obtain ⟨ha, G0, B, G, δ, h, st, p⟩ := x
  exact ⟨ha, G0, B, G, δ, h, st, post_imp (post_fl st p) fun d h1 G1 H1 af q v n => q _ G1 H1 (st.setN af i n) (Same.refl _)⟩
theorem ds_setN {i : Nat} {x : Str} {pos' : Pos} (hN : X.N.Nodup) (hi : X.N[i]? = some x) (hx : Loc X.env.scope x) (he : PE X e (rn c W f)) (hs : swapsWith e (some (.Name x pos')) pos.line X.env = pure false := by rfl) (hf : X.fn x = true ∨ X.env.scope.names.lookup x = some .local := by first | exact .inl rfl | exact .inr rfl | assumption) :
    PS X (.Assign [.Name x pos'] e pos) (rs c W nw (sSet i f)) := ps_to (ps_set hN hi hx he hs hf) rs_setN
/-- x = [.. for ..], on one line -/
theorem rs_setLc {i : Nat} {vs : List Nat} {bind : D → DE → Option DE} {g : TG} (bd : BindD c vs g bind) (Dn : Ends) (σ : L2.St) (H : Hp) (x : rs c W nw (sSet i (eLc vs fs bind ga f)) Dn σ H) : tAsg (tLc (ri c W fs) g (rt c WF ga) (rd c WF f) vs) (gName i) Dn σ H := by
  obtain ⟨ha, G0, B, G, δ, h, st, p⟩ := x
  exact rn_lc bd σ H _ ⟨ha, G0, B, G, δ, h, st, post_imp (post_fl st p) fun d h1 G1 H1 af q v n => q _ G1 H1 (st.setN af i n) (Same.refl _)⟩
theorem rs_setLcF {i : Nat} {vs : List Nat} {bind : D → DE → Option DE} {g : TG} (bd : BindD c vs g bind) (Dn : Ends) (σ : L2.St) (H : Hp) (x : rs c W nw (sSet i (eFz (eLc vs fs bind ga f))) Dn σ H) : tAsg (tLc (ri c W fs) g (rt c WF ga) (rd c WF f) vs) (gName i) Dn σ H := by
  obtain ⟨ha, G0, B, G, δ, h, st, p⟩ := x
  refine rn_lc bd σ H _ ⟨ha, G0, B, G, δ, h, st, ?_⟩
  have p2 := post_fl st p
  unfold eFz at p2
  cases q : eLc vs fs bind ga f δ h with
  | ok d h1 =>
    rw [q] at p2
    intro G1 H1 af v n
    obtain ⟨G2, af2, dv⟩ := af_fz st.hne af n
    exact p2 G2 H1 af2 _ G2 H1 ((st.to af2).setD i dv) (Same.refl _)
  | exc n fs h1 => rw [q] at p2; exact p2
  | bad => rw [q] at p2; exact p2
section
variable {i : Nat} {y : Str} {py : Pos} {elt tg iter : Expr} {ifs : List Expr} {scope : Scope} {own : List (Str × Nat)} {spos : Pos} {bind : D → DE → Option DE} {g : TG}
theorem ds_setLc (hc : X.calm = true) (hN : X.N.Nodup) (hy : X.N[i]? = some y) (hyl : X.env.scope.names.lookup y = some .local)
    (hsw : swapsWith (.ListComp elt [⟨tg, iter, ifs, 0⟩] scope pos) (some (.Name y py)) spos.line X.env = pure true) (hi : PI X tg iter (ri c W fs)) (ok : BlkOk X.N X.env.scope scope own) (bd : BindD c (own.map (·.2)) g bind)
    (hg : ∀ (s : Shared) (H : Hp) (C : Addr) (cl : List (Str × Addr)) (fp : List Addr), PG (X.blk s H scope (compEnvC scope cl C X.env) fp) tg g) (ht : ∀ (s : Shared) (H : Hp) (C : Addr) (cl : List (Str × Addr)) (fp : List Addr), PTs (X.blk s H scope (compEnvC scope cl C X.env) fp) ifs (rt c WF ga))
    (he : ∀ (s : Shared) (H : Hp) (C : Addr) (cl : List (Str × Addr)) (fp : List Addr), PE (X.blk s H scope (compEnvC scope cl C X.env) fp) elt (rd c WF f)) (hs : ∀ x, foldedSetIterable iter X.env x = pure x := by intro _; rfl) :
    PS X (.Assign [.Name y py] (.ListComp elt [⟨tg, iter, ifs, 0⟩] scope pos) spos) (rs c W nw (sSet i (eLc (own.map (·.2)) fs bind ga f))) := ps_to (ps_setLc hc hN hy hyl hsw hi ok hg ht he hs) (rs_setLc bd)
theorem ds_setLcF (hc : X.calm = true) (hN : X.N.Nodup) (hy : X.N[i]? = some y) (hyl : X.env.scope.names.lookup y = some .local)
    (hsw : swapsWith (.ListComp elt [⟨tg, iter, ifs, 0⟩] scope pos) (some (.Name y py)) spos.line X.env = pure true) (hi : PI X tg iter (ri c W fs)) (ok : BlkOk X.N X.env.scope scope own) (bd : BindD c (own.map (·.2)) g bind)
    (hg : ∀ (s : Shared) (H : Hp) (C : Addr) (cl : List (Str × Addr)) (fp : List Addr), PG (X.blk s H scope (compEnvC scope cl C X.env) fp) tg g) (ht : ∀ (s : Shared) (H : Hp) (C : Addr) (cl : List (Str × Addr)) (fp : List Addr), PTs (X.blk s H scope (compEnvC scope cl C X.env) fp) ifs (rt c WF ga))
    (he : ∀ (s : Shared) (H : Hp) (C : Addr) (cl : List (Str × Addr)) (fp : List Addr), PE (X.blk s H scope (compEnvC scope cl C X.env) fp) elt (rd c WF f)) (hs : ∀ x, foldedSetIterable iter X.env x = pure x := by intro _; rfl) :
    PS X (.Assign [.Name y py] (.ListComp elt [⟨tg, iter, ifs, 0⟩] scope pos) spos) (rs c W nw (sSet i (eFz (eLc (own.map (·.2)) fs bind ga f)))) := ps_to (ps_setLc hc hN hy hyl hsw hi ok hg ht he hs) (rs_setLcF bd)
end
mutual
def frz : D → D
  | .hl ds => .lst (frzL ds)
  | d => d
def frzL : List D → List D
  | [] => []
  | d :: ds => frz d :: frzL ds
end
def addG (G H : Hp) (fp : List Addr) : Hp := fun b => if b ∈ fp then H b else G b
theorem addG_in {G H : Hp} {fp : List Addr} {b : Addr} (h : b ∈ fp) : addG G H fp b = H b := if_pos h
theorem addG_out {G H : Hp} {fp : List Addr} {b : Addr} (h : b ∉ fp) : addG G H fp b = G b := if_neg h
theorem addG_same {G H : Hp} {fp : List Addr} (s : Same G H) : Same G (addG G H fp) := fun b o e => by
  by_cases h : b ∈ fp
  · rw [addG_in h]; exact s b o e
  · rw [addG_out h]; exact e
theorem addG_gh {G H : Hp} {fp : List Addr} (s : Same G H) : Same (addG G H fp) H := fun b o e => by
  by_cases h : b ∈ fp
  · rw [addG_in h] at e; exact e
  · rw [addG_out h] at e; exact s b o e
theorem frz_id {d : D} (h : d.fr = true) : frz d = d := by
  cases d <;> first | rfl | (unfold frz; rfl) | cases h
theorem own_frz {ha : Option Addr} {G H : Hp} {v : V} {d : D} {fp : List Addr} {all : List Addr} (s : Same G H) (o : Own c ha G H v d fp) : (∀ b ∈ fp, b ∈ all) → Dq c ha (addG G H all) v (frz d) := by
  refine Own.rec (motive_1 := fun v d fp _ => (∀ b ∈ fp, b ∈ all) → Dq c ha (addG G H all) v (frz d)) (motive_2 := fun xs ds fp _ => (∀ b ∈ fp, b ∈ all) → DqAll c ha (addG G H all) xs (frzL ds)) ?_ ?_ ?_ ?_ o
  · intro v d h _
    rw [frz_id (dq_fr h)]
    exact dq_mono (addG_same s) h
  · intro a xs ds fp h1 h2 _ ih k
    unfold frz
    exact .lst ((addG_in (k a List.mem_cons_self)).trans h1) (ih fun b hb => k b (List.mem_cons_of_mem _ hb))
  · intro _
    unfold frzL
    exact .nil
  · intro v d f xs ds fp _ _ i1 i2 k
    unfold frzL
    exact .cons (i1 fun b hb => k b (List.mem_append_left _ hb)) (i2 fun b hb => k b (List.mem_append_right _ hb))
def frzS (i : Nat) (δ : DE) : DE := match δ[i]? with
  | some (some (.hl ds)) => δ.set i (some (.lst (frzL ds)))
  | _ => δ
theorem Sta.frz {ha : Option Addr} {G0 B G H : Hp} {σ : L2.St} {δ : DE} {h : D} (st : Sta c ha G0 B G H σ δ h) (i : Nat) : ∃ G', Sta c ha G0 B G' H σ (frzS i δ) h ∧ Same G G' := by
  unfold frzS
  split
  · rename_i ds e
    obtain ⟨fp, os, n, k⟩ := st.sl
    obtain ⟨v, f1, f, f2, e1, rfl, o, zoom⟩ := ownS_slot os e rfl
    have sG := addG_same (fp := f) st.gh
    have n2 := List.nodup_append.mp n
    have n3 := List.nodup_append.mp n2.2.1
    have hf : ∀ b ∈ f, b ∈ f1 ++ (f ++ f2) := fun b hb => List.mem_append_right _ (List.mem_append_left _ hb)
    refine ⟨addG G H f, ⟨⟨f1 ++ ([] ++ f2), ?_, ?_, fun a hx => k a ?_⟩, ⟨st.mv.gg.trans sG, addG_gh st.gh, fun a hn => ?_, st.mv.dm⟩, st.bt, hok_keep st.hd sG fun a e => ⟨?_, rfl⟩, st.hb⟩, sG⟩
    · have z := zoom (G' := addG G H f) (H' := H) sG (fun b hb => ⟨rfl, ?_⟩) (.frz (by have z := own_frz (all := f) st.gh o fun b hb => hb; unfold Fw.frz at z; exact z))
      · have e2 : σ.set i (some v) = σ := by
          refine List.ext_getElem? fun j => ?_
          by_cases hj : i = j
          · subst hj
            rw [e1, List.getElem?_set_self (List.getElem?_eq_some_iff.mp e1).1]
          · rw [List.getElem?_set_ne hj]
        rw [e2] at z
        exact z
      · have hb2 : b ∈ f1 ++ (f ++ f2) := (List.mem_append.mp hb).elim (List.mem_append_left _) fun z => List.mem_append_right _ (List.mem_append_right _ z)
        rw [addG_out fun z => (List.mem_append.mp hb).elim (fun q => n2.2.2 b q b (List.mem_append_left _ z) rfl) fun q => n3.2.2 b z b q rfl]
        exact (ownS_at os b hb2).1
    · rw [List.nil_append]
      exact List.nodup_append.mpr ⟨n2.1, n3.2.1, fun a h1 b h2 => n2.2.2 a h1 b (List.mem_append_right _ h2)⟩
    · rw [List.nil_append] at hx
      exact (List.mem_append.mp hx).elim (List.mem_append_left _) fun z => List.mem_append_right _ (List.mem_append_right _ z)
    · rw [addG_out fun z => hn (k a (hf a z)).1]
      exact st.mv.nw a hn
    · rw [addG_out fun z => (k a (hf a z)).2 e]
      subst e
      exact (hok_at st.hd).1
  · exact ⟨G, st, Same.refl _⟩
/-- ahead of a statement -/
def sFrz (i : Nat) (u : SF) : SF := fun δ h => u (frzS i δ) h
theorem ds_frz (i : Nat) (p : PS X s (rs c W nw u)) : PS X s (rs c W nw (sFrz i u)) := ps_to p fun Dn σ H x => by
  obtain ⟨ha, G0, B, G, δ, h, st, q⟩ := x
  obtain ⟨G', st', sG⟩ := st.frz i
  exact ⟨ha, G0, B, G', _, h, st', posts_from sG q⟩
def sRet (f : EF D) : SF := fun δ h => (f δ h).fl δ fun d h1 => .ret d h1
theorem ds_ret (he : PE X e (rd c W f)) : PS X (.Return (some e) pos) (rs c W false (sRet f)) := ps_to (ps_ret he) fun Dn σ H x => by
  obtain ⟨ha, G0, B, G, δ, h, st, p⟩ := x
  exact ⟨ha, G0, B, G, δ, h, st, post_imp (post_fl st p) fun d h1 G1 H1 af q v dv => q v G1 H1 (st.to af).af dv⟩
theorem ds_retW (he : PE X e (rn c W f)) : PS X (.Return (some e) pos) (rs c W true (sRet f)) := ps_to (ps_ret he) fun Dn σ H x => by
  obtain ⟨ha, G0, B, G, δ, h, st, p⟩ := x
  refine ⟨ha, G0, B, G, δ, h, st, post_imp (post_fl st p) fun d h1 G1 H1 af q v n => q v G1 H1 (st.to af).af ?_⟩
  obtain ⟨fp, o, n1, n2⟩ := nw_own n
  exact ⟨fp, o, n1, fun a hx => ⟨st.old (n2 a hx), st.ne_ha (n2 a hx)⟩⟩
/-- return x, the lists in x with it -/
def sRetV (i : Nat) : SF := fun δ h => match δ[i]? with
  | some (some (.hl ds)) => .ret (.hl ds) h
  | _ => .bad
theorem ds_retV {i : Nat} {x : Str} {p : Pos} (hN : X.N[i]? = some x) (hv : Vis X.env.scope x) (hd : (x == ("__debug__" : Str)) = false := by decide) (hcd : (x == ("__classdict__" : Str)) = false := by decide) : PS X (.Return (some (.Name x p)) pos) (rs c W true (sRetV i)) := ps_to (ps_ret (pe_var hN hv hd hcd)) fun Dn σ H x => by
  obtain ⟨ha, G0, B, G, δ, h, st, p⟩ := x
  unfold sRetV at p
  split at p
  · rename_i d e
    obtain ⟨fp, os, n, k⟩ := st.sl
    obtain ⟨v, f1, f, f2, e1, rfl, o, _⟩ := ownS_slot os e rfl
    exact ⟨v, e1, p v G H st.af ⟨f, o, (List.nodup_append.mp (List.nodup_append.mp n).2.1).1, fun a hx => k a (List.mem_append_right _ (List.mem_append_left _ hx))⟩⟩
  · exact p.elim
def sRetN : SF := fun _ h => .ret .non h
theorem ds_retN : PS X (.Return none pos) (rs c W false sRetN) := ps_to ps_retN fun Dn σ H x => by
  obtain ⟨ha, G0, B, G, δ, h, st, p⟩ := x
  exact p .non G H st.af .non
def sIf (g : EF Bool) (u v : SF) : SF := fun δ h => (g δ h).fl δ fun b h1 => if b then u δ h1 else v δ h1
theorem ds_if {ss2 : List Stmt} (hg : PT X e (rt c W g)) (p : PSs X ss (rs c W nw u)) (q : PSs X ss2 (rs c W nw v)) : PS X (.If e ss ss2 pos) (rs c W nw (sIf g u v)) := ps_to (ps_if hg p q) fun Dn σ H x => by
  obtain ⟨ha, G0, B, G, δ, h, st, p⟩ := x
  refine ⟨ha, G0, B, G, δ, h, st, post_imp (post_fl st p) fun b h1 G1 H1 af q => ?_⟩
  cases b with
  | true => exact ⟨ha, G0, B, G1, δ, h1, st.to af, q⟩
  | false => exact ⟨ha, G0, B, G1, δ, h1, st.to af, q⟩
theorem ds_pass : PS X (.Pass pos) (rs c W nw sNil) := ps_to ps_pass fun Dn σ H ⟨ha, G0, B, G, δ, h, st, p⟩ => p σ G H st (Same.refl _)
def sBrk : SF := fun δ h => .brk δ h
def sCt : SF := fun δ h => .ct δ h
theorem ds_brk : PS X (.Break pos) (rs c W nw sBrk) := ps_to ps_break fun Dn σ H ⟨ha, G0, B, G, δ, h, st, p⟩ => p σ G H st (Same.refl _)
theorem ds_ct : PS X (.Continue pos) (rs c W nw sCt) := ps_to ps_continue fun Dn σ H ⟨ha, G0, B, G, δ, h, st, p⟩ => p σ G H st (Same.refl _)
def sDrop (f : EF D) : SF := fun δ h => (f δ h).fl δ fun _ h1 => .nx δ h1
theorem ds_drop (he : PE X e (rd c W f)) (hs : swapsWith e none pos.line X.env = pure false := by rfl) : PS X (.Expr e pos) (rs c W nw (sDrop f)) := ps_to (ps_expr he hs) fun Dn σ H x => by
  obtain ⟨ha, G0, B, G, δ, h, st, p⟩ := x
  exact ⟨ha, G0, B, G, δ, h, st, post_imp (post_fl st p) fun d h1 G1 H1 af q v dv => q σ G1 H1 (st.to af) (Same.refl _)⟩
def sAug (i : Nat) (k : D → D → Option D) (f : EF D) : SF := fun δ h => match δ[i]? with
  | some (some x) => if x.fr then (f δ h).fl δ fun y h1 => match k x y with
    | some z => .nx (δ.set i (some z)) h1
    | none => .bad
    else .bad
  | _ => .bad
theorem ip_mul : PIp X .Mult (rI CMulW fun i j => .int (i * j)) := fun pins s σ H x y v u Q I rx ry h => by
  obtain ⟨i, j, rfl, rfl, hc, q⟩ := h
  obtain ⟨t, rfl⟩ := rx
  obtain ⟨t', rfl⟩ := ry
  exact imul_int ⟨.int _, H, I.tok _, ⟨_, rfl⟩, q⟩ hc.ok
theorem rs_aug {i : Nat} {ti : TIp} {k : D → D → Option D} (hr : OpD c ti k) (Dn : Ends) (σ : L2.St) (H : Hp) (x : rs c W nw (sAug i k f) Dn σ H) : tAug i (rd c W f) ti Dn σ H := by
  obtain ⟨ha, G0, B, G, δ, h, st, p⟩ := x
  unfold sAug at p
  split at p
  · rename_i d e
    split at p
    · rename_i hf
      obtain ⟨fp, o, n, kk⟩ := st.sl
      obtain ⟨v, f1, f, f2, h1, _, h3, _⟩ := ownS_slot o e (fr_nm hf)
      have dv := (own_fr h3 hf).1
      refine ⟨v, h1, ha, G0, B, G, δ, h, st, post_imp (post_fl st p) fun y h1 G1 H1 af q w dw => ?_⟩
      cases z : k d y with
      | none => rw [z] at q; exact q.elim
      | some r =>
        rw [z] at q
        refine hr af.gh (dq_mono af.gg dv) dw z fun u G' H' m s du => ?_
        exact q _ G' H' ((((st.to af).to (.of af.gh af.hd m s))).setD i du) m.gg
    · exact p.elim
  · exact p.elim
theorem ds_aug {i : Nat} {x : Str} {op : Operator} {ti : TIp} {k : D → D → Option D} {pos' : Pos} (hr : OpD c ti k) (hN : X.N.Nodup) (hi : X.N[i]? = some x) (hx : Loc X.env.scope x) (he : PE X e (rd c W f)) (ho : PIp X op ti) (hf : X.fn x = true ∨ X.env.scope.names.lookup x = some .local := by first | exact .inl rfl | exact .inr rfl | assumption) :
    PS X (.AugAssign (.Name x pos') op e pos) (rs c W nw (sAug i k f)) := ps_to (ps_aug hN hi hx he ho hf) (rs_aug hr)
def sAsg (bind : D → DE → Option DE) (f : EF D) : SF := fun δ h => (f δ h).fl δ fun d h1 => match bind d δ with
  | some δ2 => .nx δ2 h1
  | none => .bad
theorem ds_asg {tg : Expr} {gg : TG} {vs : List Nat} {bind : D → DE → Option DE} (bd : BindD c vs gg bind) (he : PE X e (rd c W f)) (hg : PG X tg gg) (hs : swapsWithSole [tg] e pos.line X.env = pure false := by rfl) (hw : swappedStores [tg] e X.env = pure none := by rfl)
    (h1 : (assignEach [tg] X.env).map (·.2) = [assign tg X.env] := by rfl) : PS X (.Assign [tg] e pos) (rs c W nw (sAsg bind f)) := ps_to (ps_asg he hg hs hw h1) fun Dn σ H x => by
  obtain ⟨ha, G0, B, G, δ, h, st, p⟩ := x
  refine ⟨ha, G0, B, G, δ, h, st, post_imp (post_fl st p) fun d h1 G1 H1 af q v dv => ?_⟩
  cases z : bind d δ with
  | none => rw [z] at q; exact q.elim
  | some δ2 =>
    rw [z] at q
    exact bd (st.to af) dv z fun σ2 st2 _ => q σ2 G1 H1 st2 (Same.refl _)
def sPar (i j : Nat) (fs : EF (List D)) : SF := fun δ h => (fs δ h).fl δ fun ds h1 => match ds with
  | [x, y] => .nx ((δ.set i (some x)).set j (some y)) h1
  | _ => .bad
theorem ds_par {i j : Nat} {x y : Str} {px py pt : Pos} {kt k2 pt2} (hc : X.calm = true) (hN : X.N.Nodup) (hi : X.N[i]? = some x) (hj : X.N[j]? = some y) (hij : i ≠ j)
    (hx : X.env.scope.names.lookup x = some .local) (hy : X.env.scope.names.lookup y = some .local) (ha : PA X [a, b] (ra c W fs))
    (hw : swappedStores [.Tuple [.Name x px, .Name y py] kt pt] (.Tuple [a, b] k2 pt2) X.env = pure (some [x, y]) := by rfl)
    (hs : swapsWithSole [.Tuple [.Name x px, .Name y py] kt pt] (.Tuple [a, b] k2 pt2) pos.line X.env = pure false := by rfl) :
    PS X (.Assign [.Tuple [.Name x px, .Name y py] kt pt] (.Tuple [a, b] k2 pt2) pos) (rs c W nw (sPar i j fs)) := ps_to (ps_par hc hN hi hj hij hx hy ha hw hs) fun Dn σ H x => by
  obtain ⟨ha, G0, B, G, δ, h, st, p⟩ := x
  refine ⟨ha, G0, B, G, δ, h, st, post_imp (post_fl st p) fun ds h1 G1 H1 af q vs dvs => ?_⟩
  split at q
  · obtain ⟨v, w, rfl, dv, dw⟩ := two_of dvs
    exact ⟨v, w, rfl, q _ G1 H1 (((st.to af).setD i dv).setD j dw) (Same.refl _)⟩
  · exact q.elim
def sPar3 (i j l : Nat) (fs : EF (List D)) : SF := fun δ h => (fs δ h).fl δ fun ds h1 => match ds with
  | [x, y, z] => .nx (((δ.set i (some x)).set j (some y)).set l (some z)) h1
  | _ => .bad
def forGo (bind : D → DE → Option DE) (body : SF) : List D → SF
  | [], δ, h => .nx δ h
  | x :: xs, δ, h => match bind x δ with
    | none => .bad
    | some δ2 => match body δ2 h with
      | .nx δ3 h3 => forGo bind body xs δ3 h3
      | .ct δ3 h3 => forGo bind body xs δ3 h3
      | .brk δ3 h3 => .nx δ3 h3
      | r => r
def sFor (it : EF (List D)) (bind : D → DE → Option DE) (body : SF) : SF := fun δ h => (it δ h).fl δ fun ds h1 => forGo bind body ds δ h1
theorem rs_for {vs : List Nat} {bind : D → DE → Option DE} {gg : TG} (bd : BindD c vs gg bind) (Dn : Ends) (σ : L2.St) (H : Hp) (x : rs c W nw (sFor fs bind u) Dn σ H) : tFor (ri c W fs) gg (rs c W nw u) Dn σ H := by
  obtain ⟨ha, G0, B, G, δ, h, st, p⟩ := x
  refine ⟨ha, G0, B, G, δ, h, st, post_imp (post_fl st p) fun ds h1 G1 H1 af q J w => ?_⟩
  refine ⟨fun i m σ H => m = ds.length - i ∧ i ≤ ds.length ∧ ∃ G δ h, Sta c ha G0 B G H σ δ h ∧ Same G1 G ∧ PostS c ha W nw G0 B G (forGo bind u (ds.drop i) δ h) Dn, ⟨_, rfl, Nat.zero_le _, G1, δ, h1, st.to af, Same.refl _, q⟩, ?_⟩
  rintro i m σ H ⟨rfl, hi, G, δ, h, st, s1, q⟩
  by_cases hlt : i < ds.length
  · refine .inr ⟨w.go i G H s1 st.gh hlt, fun σ' H' => i + 1 ≤ ds.length ∧ ∃ G δ h, Sta c ha G0 B G H' σ' δ h ∧ Same G1 G ∧ PostS c ha W nw G0 B G (forGo bind u (ds.drop (i + 1)) δ h) Dn, fun σ' H' hn => ⟨_, by omega, rfl, hn⟩, fun x H' y => ?_⟩
    have ei : ds[i]? = some ds[i] := List.getElem?_eq_getElem hlt
    obtain ⟨G2, m2, s2, dx⟩ := w.yld i G H x H' _ s1 st.gh ei y
    have af2 : Af c ha G H G2 H' h := .of st.gh st.hd m2 s2
    have ed : ds.drop i = ds[i] :: ds.drop (i + 1) := (List.drop_eq_getElem_cons hlt)
    rw [ed] at q
    unfold forGo at q
    cases qb : bind ds[i] δ with
    | none => rw [qb] at q; exact q.elim
    | some δ2 =>
      simp only [qb] at q
      refine bd (st.to af2) dx qb fun σ2 st2 _ => ⟨ha, G0, B, G2, δ2, h, st2, ?_⟩
      cases e : u δ2 h with
      | nx δ3 h3 =>
        rw [e] at q
        exact fun σ3 G3 H3 st3 s3 => ⟨hlt, G3, δ3, h3, st3, (s1.trans m2.gg).trans s3, posts_from (m2.gg.trans s3) q⟩
      | ct δ3 h3 =>
        rw [e] at q
        exact fun σ3 G3 H3 st3 s3 => ⟨hlt, G3, δ3, h3, st3, (s1.trans m2.gg).trans s3, posts_from (m2.gg.trans s3) q⟩
      | brk δ3 h3 =>
        rw [e] at q
        exact fun σ3 G3 H3 st3 s3 => q σ3 G3 H3 st3 (m2.gg.trans s3)
      | ret d h3 => rw [e] at q; exact q
      | exc n f δ3 h3 => rw [e] at q; exact posts_from m2.gg q
      | bad => rw [e] at q; exact q.elim
  · have hi2 : i = ds.length := by omega
    subst hi2
    rw [List.drop_length] at q
    exact .inl ⟨w.stop G H s1 st.gh, q σ G H st (Same.refl _)⟩
theorem ds_for {tg iter : Expr} {vs : List Nat} {bind : D → DE → Option DE} {gg : TG} (hp : PassesOwn (model X.prog X.w) X.A X.env X.xe) (hc : X.calm = true) (bd : BindD c vs gg bind) (hi : PI X tg iter (ri c W fs)) (hg : PG X tg gg) (hb : PSs X ss (rs c W nw u))
    (hs : ∀ x, foldedSetIterable iter X.env x = pure x := by intro _; rfl) : PS X (.For tg iter ss [] pos) (rs c W nw (sFor fs bind u)) := ps_to (ps_for hp hc hi hg hb hs) (rs_for bd)
def whGo (g : EF Bool) (body : SF) : Nat → SF
  | 0, _, _ => .bad
  | n + 1, δ, h => (g δ h).fl δ fun b h1 => if b then match body δ h1 with
      | .nx δ3 h3 => whGo g body n δ3 h3
      | .ct δ3 h3 => whGo g body n δ3 h3
      | .brk δ3 h3 => .nx δ3 h3
      | r => r
    else .nx δ h1
def sWh (n : Nat) (g : EF Bool) (body : SF) : SF := whGo g body n
theorem rs_wh {n : Nat} (Dn : Ends) (σ : L2.St) (H : Hp) (x : rs c W nw (sWh n g u) Dn σ H) : tWhile (rt c W g) (rs c W nw u) Dn σ H := by
  obtain ⟨ha, G0, B, G, δ, h, st, p⟩ := x
  refine ⟨fun m σ H => ∃ G δ h, Sta c ha G0 B G H σ δ h ∧ PostS c ha W nw G0 B G (whGo g u m δ h) Dn, ⟨n, G, δ, h, st, p⟩, ?_⟩
  rintro m σ H ⟨G, δ, h, st, q⟩
  cases m with
  | zero => exact q.elim
  | succ m =>
    unfold whGo at q
    refine ⟨ha, G0, B, G, δ, h, st, post_imp (post_fl st q) fun b h1 G1 H1 af q1 => ?_⟩
    cases b with
    | false => exact q1 σ G1 H1 (st.to af) (Same.refl _)
    | true =>
      refine ⟨fun σ' H' => ∃ G δ h, Sta c ha G0 B G H' σ' δ h ∧ PostS c ha W nw G0 B G (whGo g u m δ h) Dn, fun σ' H' hn => ⟨m, Nat.lt_succ_self _, hn⟩, ha, G0, B, G1, δ, h1, st.to af, ?_⟩
      rw [if_pos rfl] at q1
      cases e : u δ h1 with
      | nx δ3 h3 =>
        rw [e] at q1
        exact fun σ3 G3 H3 st3 s3 => ⟨G3, δ3, h3, st3, posts_from s3 q1⟩
      | ct δ3 h3 =>
        rw [e] at q1
        exact fun σ3 G3 H3 st3 s3 => ⟨G3, δ3, h3, st3, posts_from s3 q1⟩
      | brk δ3 h3 =>
        rw [e] at q1
        exact fun σ3 G3 H3 st3 s3 => q1 σ3 G3 H3 st3 s3
      | ret d h3 => rw [e] at q1; exact q1
      | exc n f δ3 h3 => rw [e] at q1; exact q1
      | bad => rw [e] at q1; exact q1.elim
theorem ds_wh {n : Nat} (hp : PassesOwn (model X.prog X.w) X.A X.env X.xe) (hg : PT X e (rt c W g)) (hb : PSs X ss (rs c W nw u)) : PS X (.While e ss [] pos) (rs c W nw (sWh n g u)) := ps_to (ps_while hp hg hb) rs_wh
end
end Fw
namespace Fw
open PySem PySem.Spec PyProof.Rows L2 Dz Vz
def getP : D → List Nat → Option D
  | d, [] => some d
  | .hl ds, j :: js => match ds[j]? with
    | some d => getP d js
    | none => none
  | _, _ :: _ => none
def setP : D → List Nat → D → D
  | _, [], x => x
  | .hl ds, j :: js, x => match ds[j]? with
    | some d => .hl (ds.set j (setP d js x))
    | none => .hl ds
  | d, _ :: _, _ => d
/-- v stands at the place js below v0 -/
def VAt (ha : Option Addr) (H : Hp) : V → List Nat → V → Prop
  | v0, [], v => v = v0
  | v0, j :: js, v => ∃ a xs x, v0 = .ref a ∧ ha ≠ some a ∧ H a = some (.lst xs) ∧ xs[j]? = some x ∧ VAt ha H x js v
section
variable {c : Cn} {ha : Option Addr} {G H G' H' : Hp}
theorem vat_keep (k : ∀ a o, ha ≠ some a → H a = some o → H' a = some o) : ∀ {js : List Nat} {v0 v : V}, VAt ha H v0 js v → VAt ha H' v0 js v
  | [], _, _, h => h
  | _ :: _, _, _, ⟨a, xs, x, h1, h2, h3, h4, h5⟩ => ⟨a, xs, x, h1, h2, k a _ h2 h3, h4, vat_keep k h5⟩
theorem vat_inj : ∀ {js : List Nat} {v0 v w : V}, VAt ha H v0 js v → VAt ha H v0 js w → v = w
  | [], _, _, _, h, h' => h.trans h'.symm
  | _ :: _, _, _, _, ⟨a, xs, x, h1, h2, h3, h4, h5⟩, ⟨b, ys, y, k1, k2, k3, k4, k5⟩ => by
    subst h1
    cases k1
    rw [h3] at k3
    cases k3
    rw [h4] at k4
    cases k4
    exact vat_inj h5 k5
theorem vat_app : ∀ {js : List Nat} {v0 v : V} {j : Nat} {a : Addr} {xs : List V} {x : V}, VAt ha H v0 js v → v = .ref a → ha ≠ some a → H a = some (.lst xs) → xs[j]? = some x → VAt ha H v0 (js ++ [j]) x
  | [], _, _, j, a, xs, x, h, e, n, h1, h2 => ⟨a, xs, x, by rw [← e]; exact h.symm, n, h1, h2, rfl⟩
  | _ :: _, _, _, j, a, xs, x, ⟨b, ys, y, k1, k2, k3, k4, k5⟩, e, n, h1, h2 => ⟨b, ys, y, k1, k2, k3, k4, vat_app k5 e n h1 h2⟩
theorem getP_app : ∀ {js : List Nat} {d : D} {j : Nat} {ds : List D} {x : D}, getP d js = some (.hl ds) → ds[j]? = some x → getP d (js ++ [j]) = some x
  | [], d, j, ds, x, e, h => by
    unfold getP at e
    cases e
    show getP (.hl ds) [j] = some x
    unfold getP
    rw [h]
    unfold getP
    rfl
  | i :: js, d, j, ds, x, e, h => by
    cases d with
    | hl es =>
      unfold getP at e
      show getP (.hl es) (i :: (js ++ [j])) = some x
      unfold getP
      cases q : es[i]? with
      | none => rw [q] at e; cases e
      | some y =>
        rw [q] at e
        exact getP_app (js := js) e h
    | _ => unfold getP at e; cases e
theorem own_zoom : ∀ {js : List Nat} {v0 : V} {d d' : D} {fp : List Addr}, Own c ha G H v0 d fp → (∀ b ∈ fp, ha ≠ some b) → getP d js = some d' →
    ∃ v f1 f f2, VAt ha H v0 js v ∧ fp = f1 ++ (f ++ f2) ∧ Own c ha G H v d' f ∧ ∀ {G' H' : Hp} {f' : List Addr} {d'' : D}, Same G G' → (∀ b ∈ f1 ++ f2, H' b = H b ∧ G' b = none) → Own c ha G' H' v d'' f' → Own c ha G' H' v0 (setP d js d'') (f1 ++ (f' ++ f2))
  | [], v0, d, d', fp, o, n, e => by
    unfold getP at e
    cases e
    refine ⟨v0, [], fp, [], rfl, by simp, o, fun {G' H' f' d''} s k o' => ?_⟩
    unfold setP
    rw [List.nil_append, List.append_nil]
    exact o'
  | j :: js, v0, d, d', fp, o, n, e => by
    cases o with
    | frz h => cases h <;> (unfold getP at e; cases e)
    | @hl a xs ds fpa h1 h2 h3 =>
      unfold getP at e
      cases q : ds[j]? with
      | none => rw [q] at e; cases e
      | some dj =>
        rw [q] at e
        obtain ⟨x, g1, g, g2, e1, e2, o2, zoom⟩ := ownAll_item h3 q
        subst e2
        obtain ⟨v, f1, f, f2, k1, k2, k3, zoom2⟩ := own_zoom (js := js) o2 (fun b hb => n b (List.mem_cons_of_mem _ (List.mem_append_right _ (List.mem_append_left _ hb)))) e
        subst k2
        refine ⟨v, a :: (g1 ++ f1), f, f2 ++ g2, ⟨a, xs, x, rfl, n a List.mem_cons_self, h1, e1, k1⟩, by simp [List.append_assoc], k3, fun {G' H' f' d''} s k o' => ?_⟩
        have o3 := zoom2 s (fun b hb => k b ?_) o'
        · have a3 := zoom s (fun b hb => k b ?_) o3
          · unfold setP
            rw [q]
            have ex : xs.set j x = xs := by
              refine List.ext_getElem? fun i => ?_
              by_cases hj : j = i
              · subst hj
                rw [e1, List.getElem?_set_self (List.getElem?_eq_some_iff.mp e1).1]
              · rw [List.getElem?_set_ne hj]
            rw [ex] at a3
            have ka := k a (List.mem_append_left _ List.mem_cons_self)
            have r := Own.hl (ka.1.trans h1) ka.2 a3
            have ef : a :: (g1 ++ ((f1 ++ (f' ++ f2)) ++ g2)) = (a :: (g1 ++ f1)) ++ (f' ++ (f2 ++ g2)) := by simp [List.append_assoc]
            rw [← ef]
            exact r
          · rcases List.mem_append.mp hb with z | z
            · exact List.mem_append_left _ (List.mem_cons_of_mem _ (List.mem_append_left _ z))
            · exact List.mem_append_right _ (List.mem_append_right _ z)
        · rcases List.mem_append.mp hb with z | z
          · exact List.mem_append_left _ (List.mem_cons_of_mem _ (List.mem_append_right _ z))
          · exact List.mem_append_right _ (List.mem_append_left _ z)
end
/-- a place: a slot, a way down -/
abbrev Pl := Nat × List Nat
def plD (δ : DE) (p : Pl) : Option D := match δ[p.1]? with
  | some (some d) => if d.nm then getP d p.2 else none
  | _ => none
def plS (δ : DE) (p : Pl) (x : D) : DE := match δ[p.1]? with
  | some (some d) => δ.set p.1 (some (setP d p.2 x))
  | _ => δ
def PlV (ha : Option Addr) (σ : L2.St) (H : Hp) (p : Pl) (v : V) : Prop := ∃ v0, σ[p.1]? = some (some v0) ∧ VAt ha H v0 p.2 v
section
variable {c : Cn} {ha : Option Addr} {G0 B G H G1 H1 : Hp} {σ : L2.St} {δ : DE} {h h1 : D}
/-- what stands at a place, and the place filled anew -/
theorem Sta.place {p : Pl} {d : D} (st : Sta c ha G0 B G H σ δ h) (e : plD δ p = some d) : ∃ v f1 f f2, PlV ha σ H p v ∧ Own c ha G H v d f ∧ (f1 ++ (f ++ f2)).Nodup ∧ (∀ a ∈ f1 ++ (f ++ f2), B a = none ∧ ha ≠ some a ∧ G a = none ∧ H a ≠ none) ∧
    ∀ {G' H' : Hp} {f' : List Addr} {d' : D}, Same G G' → (∀ b ∈ f1 ++ f2, H' b = H b ∧ G' b = none) → Own c ha G' H' v d' f' → OwnS c ha G' H' σ (plS δ p d') (f1 ++ (f' ++ f2)) := by
  obtain ⟨fp, os, n, k⟩ := st.sl
  unfold plD at e
  split at e
  · rename_i d0 e0
    by_cases nm : d0.nm = true
    case neg => rw [if_neg nm] at e; cases e
    rw [if_pos nm] at e
    obtain ⟨v0, a1, a, a2, e1, rfl, o, zoom⟩ := ownS_slot os e0 nm
    obtain ⟨v, f1, f, f2, k1, rfl, k3, zoom2⟩ := own_zoom o (fun b hb => (k b (List.mem_append_right _ (List.mem_append_left _ hb))).2) e
    have ef : a1 ++ ((f1 ++ (f ++ f2)) ++ a2) = (a1 ++ f1) ++ (f ++ (f2 ++ a2)) := by simp [List.append_assoc]
    refine ⟨v, a1 ++ f1, f, f2 ++ a2, ⟨v0, e1, k1⟩, k3, by rw [← ef]; exact n, fun b hb => ?_, fun {G' H' f' d'} s kk o' => ?_⟩
    · rw [← ef] at hb
      obtain ⟨z1, z2⟩ := k b hb
      obtain ⟨z3, z4⟩ := ownS_at os b hb
      exact ⟨z1, z2, z3, z4⟩
    · have o3 := zoom2 s (fun b hb => kk b ?_) o'
      · have os3 := zoom s (fun b hb => kk b ?_) o3
        · unfold plS
          rw [e0]
          have e2 : σ.set p.1 (some v0) = σ := by
            refine List.ext_getElem? fun j => ?_
            by_cases hj : p.1 = j
            · subst hj
              rw [e1, List.getElem?_set_self (List.getElem?_eq_some_iff.mp e1).1]
            · rw [List.getElem?_set_ne hj]
          rw [e2] at os3
          have eg : (a1 ++ f1) ++ (f' ++ (f2 ++ a2)) = a1 ++ ((f1 ++ (f' ++ f2)) ++ a2) := by simp [List.append_assoc]
          rw [eg]
          exact os3
        · rcases List.mem_append.mp hb with z | z
          · exact List.mem_append_left _ (List.mem_append_left _ z)
          · exact List.mem_append_right _ (List.mem_append_right _ z)
      · rcases List.mem_append.mp hb with z | z
        · exact List.mem_append_left _ (List.mem_append_right _ z)
        · exact List.mem_append_right _ (List.mem_append_left _ z)
  · cases e
theorem PlV.keep {p : Pl} {v : V} (x : PlV ha σ H p v) (af : Af c ha G H G1 H1 h1) : PlV ha σ H1 p v := by
  obtain ⟨v0, e, k⟩ := x
  exact ⟨v0, e, vat_keep (fun a o n e => af.bt a o n e) k⟩
theorem PlV.inj {p : Pl} {v w : V} (x : PlV ha σ H p v) (y : PlV ha σ H p w) : v = w := by
  obtain ⟨v0, e, k⟩ := x
  obtain ⟨w0, e', k'⟩ := y
  rw [e] at e'
  cases e'
  exact vat_inj k k'
/-- the list at a place is changed: new items es with their lists fe; the others stay -/
theorem Sta.change {p : Pl} {v : V} {ds : List D} (st : Sta c ha G0 B G H σ δ h) (e : plD δ p = some (.hl ds)) (pv : PlV ha σ H p v) :
    ∃ a xs f1 fd f2, v = .ref a ∧ H a = some (.lst xs) ∧ OwnAll c ha G H xs ds fd ∧ (f1 ++ ((a :: fd) ++ f2)).Nodup ∧ (∀ b ∈ f1 ++ ((a :: fd) ++ f2), B b = none ∧ ha ≠ some b ∧ G b = none ∧ H b ≠ none) ∧
      ∀ {G1 H1 : Hp} {h1 : D} {ys : List V} {es : List D} {fe : List Addr}, Af c ha G H G1 H1 h1 → OwnAll c ha G1 (upd H1 a (.lst ys)) ys es fe → (f1 ++ ((a :: fe) ++ f2)).Nodup → (∀ b ∈ fe, B b = none ∧ ha ≠ some b) → Sta c ha G0 B G1 (upd H1 a (.lst ys)) σ (plS δ p (.hl es)) h1 := by
  obtain ⟨w, f1, f, f2, k1, o, n, k, zoom⟩ := st.place e
  have ew := pv.inj k1
  subst ew
  cases o with
  | frz hq => cases hq
  | @hl a xs _ fd h1 h2 h3 =>
    refine ⟨a, xs, f1, fd, f2, rfl, h1, h3, n, k, fun {G1 H1 h1' ys es fe} af o2 n2 k2 => ?_⟩
    have ka := k a (List.mem_append_right _ (List.mem_append_left _ List.mem_cons_self))
    have na := List.nodup_append.mp n
    have nb := List.nodup_append.mp na.2.1
    have st1 := st.to af
    obtain ⟨ua, eua⟩ := ne_some ka.2.2.2
    have hna : H1 a ≠ none := some_ne (af.bt a _ ka.2.1 eua)
    have ga : G1 a = none := (af.mv.nw a ka.2.2.2).trans ka.2.2.1
    refine ⟨⟨f1 ++ ((a :: fe) ++ f2), zoom af.gg (fun b hb => ?_) (.hl upd_same ga o2), n2, fun b hb => ?_⟩, st1.mv.trans (Mv.put st1.gh ga hna), fun b o nb2 e2 => ?_, ?_, st1.hb⟩
    · have hb2 : b ∈ f1 ++ ((a :: fd) ++ f2) := (List.mem_append.mp hb).elim (List.mem_append_left _) fun z => List.mem_append_right _ (List.mem_append_right _ z)
      have kb := k b hb2
      have ne : b ≠ a := by
        rintro rfl
        rcases List.mem_append.mp hb with z | z
        · exact na.2.2 b z b (List.mem_append_left _ List.mem_cons_self) rfl
        · exact nb.2.2 b List.mem_cons_self b z rfl
      obtain ⟨u, eu⟩ := ne_some kb.2.2.2
      rw [upd_ne ne]
      exact ⟨by rw [eu]; exact af.bt b u kb.2.1 eu, (af.mv.nw b kb.2.2.2).trans kb.2.2.1⟩
    · rcases List.mem_append.mp hb with z | z
      · have := k b (List.mem_append_left _ z)
        exact ⟨this.1, this.2.1⟩
      · rcases List.mem_append.mp z with z | z
        · rcases List.mem_cons.mp z with z | z
          · rw [z]; exact ⟨ka.1, ka.2.1⟩
          · exact k2 b z
        · have := k b (List.mem_append_right _ (List.mem_append_right _ z))
          exact ⟨this.1, this.2.1⟩
    · rw [upd_ne fun z => by rw [z, ka.1] at e2; cases e2]
      exact st1.bt b o nb2 e2
    · refine hok_keep st1.hd (Same.refl _) fun b eb => ⟨?_, upd_ne fun z => ka.2.1 (by rw [← z]; exact eb)⟩
      subst eb
      exact (hok_at st1.hd).1
end
def rp (c : Cn) (W : WX) (f : EF Pl) : TE := fun σ H Q => ∃ ha G0 B G δ h, Sta c ha G0 B G H σ δ h ∧ Post c ha W σ G H (f δ h) fun p _ _ H' => ∀ v, PlV ha σ H' p v → Q v H'
section
variable {X : Cx} {W : WX} {c : Cn} {nw : Bool} {e a b e2 : Expr} {es : List Expr} {pos : Pos} {te : TE} {f fa fb fc : EF D} {k : EF Pl} {u : SF}
theorem pp_to (p : PE X e te) (i : ∀ σ H Q, rp c W k σ H Q → te σ H Q) : PE X e (rp c W k) := ⟨fun pins s σ H Q I h => p.run pins s σ H Q I (i σ H Q h)⟩
def pV (i : Nat) : EF Pl := fun δ h => match δ[i]? with
  | some (some d) => if d.nm then .ok (i, []) h else .bad
  | _ => .bad
theorem dp_v {i : Nat} {x : Str} (hN : X.N[i]? = some x) (hv : Vis X.env.scope x) (hd : (x == ("__debug__" : Str)) = false := by decide) (hcd : (x == ("__classdict__" : Str)) = false := by decide) : PE X (.Name x pos) (rp c W (pV i)) := pp_to (pe_var hN hv hd hcd) fun σ H Q x => by
  obtain ⟨ha, G0, B, G, δ, h, st, p⟩ := x
  unfold pV at p
  split at p
  · rename_i d e
    by_cases nm : d.nm = true
    case neg => rw [if_neg nm] at p; exact p.elim
    rw [if_pos nm] at p
    obtain ⟨fp, o, n, kk⟩ := st.sl
    obtain ⟨v, f1, f, f2, h1, _, h3, _⟩ := ownS_slot o e nm
    exact ⟨v, h1, post_ok p st.gh st.hd v ⟨v, h1, rfl⟩⟩
  · exact p.elim
/-- the place of an item -/
def pIx (k : EF Pl) (f : EF D) : EF Pl := fun δ h => (k δ h).bind fun p h1 => (f δ h1).bind fun y h2 => Ex.of (match plD δ p, y with
  | some (.hl ds), .int i => (ixN ds.length i).map fun j => (p.1, p.2 ++ [j])
  | _, _ => none) h2
theorem dp_ix (ha : PE X a (rp c W k)) (hb : PE X b (rd c W f)) (hs : PlainIx b := by exact fun _ _ => rfl) : PE X (.Subscript a b pos) (rp c W (pIx k f)) := pp_to (pe_ix ix_list ha hb hs) fun σ H Q x => by
  obtain ⟨ha, G0, B, G, δ, h, st, p⟩ := x
  refine ⟨ha, G0, B, G, δ, h, st, post_imp (post_bind p) fun pl h1 G1 H1 af1 p1 v pv => ?_⟩
  refine ⟨ha, G0, B, G1, δ, h1, st.to af1, post_imp (post_bind p1) fun y h2 G2 H2 af2 p2 w dw => ?_⟩
  obtain ⟨pl2, e, q⟩ := post_of p2
  split at e
  · rename_i ds i e1
    obtain ⟨j, e2, rfl⟩ := map_get e
    cases dw
    have st2 := (st.to af1).to af2
    obtain ⟨v', f1, fo, f2, k1, o, n, kk, _⟩ := st2.place e1
    have ev := (pv.keep af2).inj k1
    subst ev
    obtain ⟨v0, z1, z2⟩ := k1
    cases o with
    | frz hq => cases hq
    | @hl a xs _ fd g1 g2 g3 =>
      obtain ⟨_, hj, _, _⟩ := ixN_seq e2
      have hlen := ownAll_len g3
      obtain ⟨xj, ex⟩ : ∃ xj, xs[j]? = some xj := ⟨xs[j]'(by omega), List.getElem?_eq_getElem (by omega)⟩
      refine ⟨a, xs, i, xj, rfl, rfl, SqL.of g1, ?_, q _ _ (.refl af2.gh af2.hd) _ ⟨v0, z1, vat_app z2 rfl (kk a (List.mem_append_right _ (List.mem_append_left _ List.mem_cons_self))).2.1 g1 ex⟩⟩
      unfold atI
      rw [hlen, e2]
      exact ex
  · cases e
/-- a thing at rest at a place -/
def ePl (k : EF Pl) : EF D := fun δ h => (k δ h).bind fun p h1 => Ex.of (match plD δ p with
  | some d => if d.fr then some d else none
  | none => none) h1
theorem dx_pl (hk : PE X e (rp c W k)) : PE X e (rd c W (ePl k)) := pe_to hk fun σ H Q x => by
  obtain ⟨ha, G0, B, G, δ, h, st, p⟩ := x
  refine ⟨ha, G0, B, G, δ, h, st, post_imp (post_bind p) fun pl h1 G1 H1 af1 p1 v pv => ?_⟩
  obtain ⟨d, e, q⟩ := post_of p1
  split at e
  · rename_i d0 e0
    obtain ⟨hf, rfl⟩ := if_get e
    obtain ⟨v', f1, fo, f2, k1, o, n, kk, _⟩ := (st.to af1).place e0
    have ev := pv.inj k1
    subst ev
    exact q _ _ (.refl af1.gh af1.hd) _ (own_fr o hf).1
  · cases e
/-- len of a held list -/
def eLenP (k : EF Pl) : EF D := fun δ h => (k δ h).bind fun p h1 => Ex.of (match plD δ p with
  | some (.hl ds) => some (.int ds.length)
  | _ => none) h1
theorem dx_lenP {p : Pos} (hg : Gl X "len") (hm : X.mg "len" = none) (hk : PE X a (rp c W k)) (s1 : starEach (a :: []) X.env = (false, eval a X.env) :: starEach [] X.env := by rfl) (hpl : (backTo pos (starEach [] X.env)).any (·.1) = false := by rfl) : PE X (.Call (.Name "len" p) [a] [] pos) (rd c W (eLenP k)) := pe_to (pe_callB call_len_seq hg hm PySem.boot_len (pa_cons hk pa_nil s1) (by decide) (by decide) s1 hpl) fun σ H Q x => by
  obtain ⟨ha, G0, B, G, δ, h, st, p⟩ := x
  refine ⟨ha, G0, B, G, δ, h, st, post_imp (post_bind p) fun pl h1 G1 H1 af1 p1 v pv => ?_⟩
  obtain ⟨d, e, q⟩ := post_of p1
  split at e
  · rename_i ds e0
    cases e
    obtain ⟨v', f1, fo, f2, k1, o, n, kk, _⟩ := (st.to af1).place e0
    have ev := pv.inj k1
    subst ev
    cases o with
    | frz hq => cases hq
    | hl g1 g2 g3 => exact ⟨_, _, rfl, .inl (SqL.of g1), by rw [ownAll_len g3]; exact q _ _ (.refl af1.gh af1.hd) _ (.int _)⟩
  · cases e
def sApp (k : EF Pl) (f : EF D) : SF := fun δ h => (k δ h).fl δ fun p h1 => match plD δ p with
  | some (.hl ds) => (f δ h1).fl δ fun y h2 => if szOk ds.length then .nx (plS δ p (.hl (ds ++ [y]))) h2 else .bad
  | _ => .bad
theorem nodup_mid {α : Type} {f1 f2 g : List α} {a : α} {fd : List α} (n : (f1 ++ ((a :: fd) ++ f2)).Nodup) (ng : g.Nodup) (h : ∀ x ∈ g, x ∉ f1 ++ ((a :: fd) ++ f2)) : (f1 ++ ((a :: (fd ++ g)) ++ f2)).Nodup := by
  have e : (f1 ++ ((a :: (fd ++ g)) ++ f2)).Perm (g ++ (f1 ++ ((a :: fd) ++ f2))) := by
    have e1 : f1 ++ ((a :: (fd ++ g)) ++ f2) = (f1 ++ (a :: fd)) ++ (g ++ f2) := by simp [List.append_assoc]
    have e2 : f1 ++ ((a :: fd) ++ f2) = (f1 ++ (a :: fd)) ++ f2 := by simp [List.append_assoc]
    rw [e1, e2, ← List.append_assoc, ← List.append_assoc g]
    exact (List.perm_append_comm).append_right _
  refine e.nodup_iff.mpr (List.nodup_append.mpr ⟨ng, n, fun x hx y hy => ?_⟩)
  rintro rfl
  exact h x hx hy
/-- lists of items stay behind a deed that does not touch them -/
theorem ownAll_af {ha : Option Addr} {G H G1 H1 : Hp} {h1 : D} {xs : List V} {ds : List D} {fp : List Addr} {a : Addr} {o : HO} (af : Af c ha G H G1 H1 h1) (x : OwnAll c ha G H xs ds fp) (k : ∀ b ∈ fp, ha ≠ some b ∧ G b = none ∧ H b ≠ none ∧ b ≠ a) : OwnAll c ha G1 (upd H1 a o) xs ds fp := by
  refine ownAll_keep af.gg x fun b hb => ?_
  obtain ⟨k1, k2, k3, k4⟩ := k b hb
  obtain ⟨u, e⟩ := ne_some k3
  rw [upd_ne k4]
  exact ⟨by rw [e]; exact af.bt b u k1 e, (af.mv.nw b k3).trans k2⟩
theorem own_upd {ha : Option Addr} {G1 H1 : Hp} {v : V} {d : D} {fp : List Addr} {a : Addr} {o : HO} (x : Own c ha G1 H1 v d fp) (k : a ∉ fp) : Own c ha G1 (upd H1 a o) v d fp := by
  refine own_keep (Same.refl _) x fun b hb => ⟨upd_ne fun z => k (by rw [← z]; exact hb), (own_at x b hb).1⟩
theorem rs_app (Dn : Ends) (σ : L2.St) (H : Hp) (x : rs c W nw (sApp k f) Dn σ H) : tDrop (tBM c.K "list" rAppend (rp c W k) (tCons (rn c W f) tNil)) Dn σ H := by
  obtain ⟨ha, G0, B, G, δ, h, st, p⟩ := x
  refine ⟨ha, G0, B, G, δ, h, st, post_imp (post_fl st p) fun pl h1 G1 H1 af1 p1 v pv => ?_⟩
  have st1 := st.to af1
  split at p1
  · rename_i ds e0
    obtain ⟨a, xs, f1, fd, f2, rfl, hl, oa, n, kk, ch⟩ := st1.change e0 pv
    refine ⟨.inl ⟨rfl, xs, SqL.of hl⟩, ha, G0, B, G1, δ, h1, st1, post_imp (post_fl st1 p1) fun y h2 G2 H2 af2 q w nw => ?_⟩
    by_cases hz : szOk ds.length = true
    · rw [if_pos hz] at q
      obtain ⟨fe, oe, ne, ke⟩ := nw_own nw
      have ka := kk a (List.mem_append_right _ (List.mem_append_left _ List.mem_cons_self))
      have hl2 : H2 a = some (.lst xs) := af2.bt a _ ka.2.1 hl
      have nb := List.nodup_append.mp (List.nodup_append.mp n).2.1
      have na : a ∉ fe := fun z => by rw [ke a z] at hl; cases hl
      refine ⟨a, xs, w, rfl, rfl, hl2, ?_, q σ G2 _ (ch (es := ds ++ [y]) (fe := fd ++ (fe ++ [])) af2 (ownAll_app (ownAll_af af2 oa fun b hb => ?_) (.cons (own_upd oe na) .nil)) ?_ fun b hb => ?_) (Same.refl _)⟩
      · rw [ownAll_len oa, sizeLine_eq]
        have := of_decide_eq_true hz
        omega
      · have kb := kk b (List.mem_append_right _ (List.mem_append_left _ (List.mem_cons_of_mem _ hb)))
        refine ⟨kb.2.1, kb.2.2.1, kb.2.2.2, ?_⟩
        rintro rfl
        exact (List.nodup_cons.mp nb.1).1 hb
      · rw [List.append_nil]
        exact nodup_mid n ne fun x hx hy => (kk x hy).2.2.2 (ke x hx)
      · rw [List.append_nil] at hb
        rcases List.mem_append.mp hb with z | z
        · have := kk b (List.mem_append_right _ (List.mem_append_left _ (List.mem_cons_of_mem _ z)))
          exact ⟨this.1, this.2.1⟩
        · exact ⟨st1.old (ke b z), st1.ne_ha (ke b z)⟩
    · rw [if_neg hz] at q
      exact q.elim
  · exact p1.elim
theorem ds_app {apos pos2 : Pos} (hk : PE X a (rp c W k)) (he : PE X e (rn c W f)) (hK : X.K = c.K := by rfl) (hbase : attributeBase a "append" X.env (eval a X.env) = eval a X.env := by rfl)
    (hfew : ((backTo pos (starEach [e] X.env)).all (fun x => !x.1) && (backToKw pos (keywordEach [] X.env)).all (fun x => x.1.isSome)
      && decide ([e].length + ([] : List Keyword).length + (if ([] : List Keyword).isEmpty then 0 else 1) < 30)) = true := by rfl)
    (hline : (apos.endLine == pos.line) = true := by rfl) (s1 : starEach [e] X.env = (false, eval e X.env) :: starEach [] X.env := by rfl) (hplain : (backTo pos (starEach [] X.env)).any (·.1) = false := by rfl)
    (hs : swapsWith (.Call (.Attribute a "append" apos) [e] [] pos) none pos2.line X.env = pure false := by rfl) : PS X (.Expr (.Call (.Attribute a "append" apos) [e] [] pos) pos2) (rs c W nw (sApp k f)) :=
  ps_to (ps_expr (pe_bm PySem.F.plainAttrs_list PySem.F.slot_list_append PySem.F.type_list_append mt_append hk (pa_cons he pa_nil s1) hbase hfew hline s1 hplain) hs) (by rw [hK]; exact rs_app)
def sSt (k : EF Pl) (fi f : EF D) : SF := fun δ h => (f δ h).fl δ fun y h1 => (k δ h1).fl δ fun p h2 => (fi δ h2).fl δ fun z h3 => match plD δ p, z with
  | some (.hl ds), .int i => match ixN ds.length i with
    | some j => .nx (plS δ p (.hl (ds.set j y))) h3
    | none => .bad
  | _, _ => .bad
theorem nodup_ins {α : Type} {l1 l2 g : List α} (n : (l1 ++ l2).Nodup) (ng : g.Nodup) (h : ∀ x ∈ g, x ∉ l1 ++ l2) : (l1 ++ (g ++ l2)).Nodup := by
  have e : (l1 ++ (g ++ l2)).Perm (g ++ (l1 ++ l2)) := by
    rw [← List.append_assoc, ← List.append_assoc]
    exact (List.perm_append_comm).append_right _
  refine e.nodup_iff.mpr (List.nodup_append.mpr ⟨ng, n, fun x hx y hy => ?_⟩)
  rintro rfl
  exact h x hx hy
theorem rs_st (Dn : Ends) (σ : L2.St) (H : Hp) (x : rs c W nw (sSt k fb f) Dn σ H) : tAsg (rd c W f) (gSub (rp c W k) (rd c W fb) rSetL) Dn σ H := by
  obtain ⟨ha, G0, B, G, δ, h, st, p⟩ := x
  refine ⟨ha, G0, B, G, δ, h, st, post_imp (post_fl st p) fun y h1 G1 H1 af1 p1 w dw => ?_⟩
  have st1 := st.to af1
  refine ⟨ha, G0, B, G1, δ, h1, st1, post_imp (post_fl st1 p1) fun pl h2 G2 H2 af2 p2 v pv => ?_⟩
  have st2 := st1.to af2
  refine ⟨ha, G0, B, G2, δ, h2, st2, post_imp (post_fl st2 p2) fun z h3 G3 H3 af3 p3 iv di => ?_⟩
  have st3 := st2.to af3
  split at p3
  · rename_i ds i e0
    split at p3
    · rename_i j ej
      cases di
      obtain ⟨a, xs, f1, fd, f2, rfl, hl, oa, n, kk, ch⟩ := st3.change e0 (pv.keep af3)
      obtain ⟨_, hj, _, _⟩ := ixN_seq ej
      obtain ⟨dj, edj⟩ : ∃ dj, ds[j]? = some dj := ⟨ds[j], List.getElem?_eq_getElem hj⟩
      obtain ⟨vj, g1, g, g2, e1, rfl, oj, zoom⟩ := ownAll_item oa edj
      have nb := List.nodup_append.mp n
      have nc := List.nodup_append.mp nb.2.1
      have na := (List.nodup_cons.mp nc.1)
      have hm : ∀ b, b ∈ g1 ++ g2 → b ∈ g1 ++ (g ++ g2) := fun b hb => (List.mem_append.mp hb).elim (List.mem_append_left _) fun z => List.mem_append_right _ (List.mem_append_right _ z)
      refine ⟨a, xs, i, j, rfl, rfl, hl, by rw [ownAll_len oa]; exact ej, p3 σ G3 _ (ch (es := ds.set j y) (fe := g1 ++ ([] ++ g2)) (.refl st3.gh st3.hd) (zoom (Same.refl _) (fun b hb => ⟨upd_ne fun z => na.1 (by rw [← z]; exact hm b hb), ?_⟩) (.frz (dq_mono (af2.gg.trans af3.gg) dw))) ?_ fun b hb => ?_) (Same.refl _)⟩
      · exact (ownAll_at oa b (hm b hb)).1
      · have sb : (f1 ++ ((a :: (g1 ++ ([] ++ g2))) ++ f2)).Sublist (f1 ++ ((a :: (g1 ++ (g ++ g2))) ++ f2)) := by
          refine List.Sublist.append (List.Sublist.refl _) (List.Sublist.append ((List.Sublist.append (List.Sublist.refl _) (List.Sublist.append (List.nil_sublist _) (List.Sublist.refl _))).cons_cons a) (List.Sublist.refl _))
        exact n.sublist sb
      · have hb2 : b ∈ g1 ++ (g ++ g2) := hm b (by rw [List.nil_append] at hb; exact hb)
        have := kk b (List.mem_append_right _ (List.mem_append_left _ (List.mem_cons_of_mem _ hb2)))
        exact ⟨this.1, this.2.1⟩
    · exact p3.elim
  · exact p3.elim
theorem ds_st {tpos : Pos} (he : PE X e (rd c W f)) (hk : PE X a (rp c W k)) (hb : PE X b (rd c W fb))
    (hs : swapsWithSole [.Subscript a b tpos] e pos.line X.env = pure false := by rfl) (hw : swappedStores [.Subscript a b tpos] e X.env = pure none := by rfl)
    (h1 : (assignEach [.Subscript a b tpos] X.env).map (·.2) = [assign (.Subscript a b tpos) X.env] := by rfl)
    (ha : ∀ v, assign (.Subscript a b tpos) X.env v = (do
      let ov ← holding [v] (eval a X.env)
      let iv ← holding [v, ov] (eval b X.env)
      standAt tpos
      holding [v, ov, iv] (setItem ov iv v)
      release [v, ov, iv] []) := by intro _; rfl) : PS X (.Assign [.Subscript a b tpos] e pos) (rs c W nw (sSt k fb f)) := ps_to (ps_asg he (pg_sub hk hb set_list ha) hs hw h1) rs_st
def sStM (o : Nat) (fi f : EF D) : SF := fun δ h => (f δ h).fl δ fun y h1 => (eM o δ h1).fl δ fun _ h2 => (fi δ h2).fl δ fun z h3 => match z, h3 with
  | .int i, .hl ds => match ixN ds.length i with
    | some j => .nx δ (.hl (ds.set j y))
    | none => .bad
  | _, _ => .bad
theorem Sta.handed {ha : Option Addr} {G0 B G H : Hp} {σ : L2.St} {δ : DE} {h h' : D} {a : Addr} {o : HO} (st : Sta c ha G0 B G H σ δ h) (e : ha = some a) (k : Hok c ha G (upd H a o) h') : Sta c ha G0 B G (upd H a o) σ δ h' := by
  obtain ⟨fp, os, n, kk⟩ := st.sl
  subst e
  obtain ⟨g, hne⟩ := hok_at st.hd
  refine ⟨⟨fp, ownS_keep (Same.refl _) os fun b hb => ⟨upd_ne fun z => (kk b hb).2 (by rw [z]), (ownS_at os b hb).1⟩, n, kk⟩, st.mv.trans (Mv.put st.gh g hne), fun b u n e => ?_, k, st.hb⟩
  rw [upd_ne fun z => n (by rw [z])]
  exact st.bt b u n e
theorem rs_stM {o : Nat} (Dn : Ends) (σ : L2.St) (H : Hp) (x : rs c W nw (sStM o fb f) Dn σ H) : tAsg (rd c W f) (gSub (rm c W (eM o)) (rd c W fb) rSetL) Dn σ H := by
  obtain ⟨ha, G0, B, G, δ, h, st, p⟩ := x
  refine ⟨ha, G0, B, G, δ, h, st, post_imp (post_fl st p) fun y h1 G1 H1 af1 p1 w dw => ?_⟩
  have st1 := st.to af1
  refine ⟨ha, G0, B, G1, δ, h1, st1, post_imp (post_fl st1 p1) fun _ h2 G2 H2 af2 p2 v e1 => ?_⟩
  have st2 := st1.to af2
  refine ⟨ha, G0, B, G2, δ, h2, st2, post_imp (post_fl st2 p2) fun z h3 G3 H3 af3 p3 iv di => ?_⟩
  have st3 := st2.to af3
  split at p3
  · rename_i i ds
    split at p3
    · rename_i j ej
      cases di
      cases id st3.hd with
      | hand e2 g hl da =>
        rw [e1] at e2
        cases e2
        exact ⟨_, _, i, j, rfl, rfl, hl, by rw [dqAll_len da]; exact ej, p3 σ G3 _ (st3.handed e1 (.hand e1 g upd_same (dqAll_set (dq_mono (af2.gg.trans af3.gg) dw) j da))) (Same.refl _)⟩
    · exact p3.elim
  · exact p3.elim
theorem ds_stM {o : Nat} {tpos : Pos} (he : PE X e (rd c W f)) (hk : PE X a (rm c W (eM o))) (hb : PE X b (rd c W fb))
    (hs : swapsWithSole [.Subscript a b tpos] e pos.line X.env = pure false := by rfl) (hw : swappedStores [.Subscript a b tpos] e X.env = pure none := by rfl)
    (h1 : (assignEach [.Subscript a b tpos] X.env).map (·.2) = [assign (.Subscript a b tpos) X.env] := by rfl)
    (ha : ∀ v, assign (.Subscript a b tpos) X.env v = (do
      let ov ← holding [v] (eval a X.env)
      let iv ← holding [v, ov] (eval b X.env)
      standAt tpos
      holding [v, ov, iv] (setItem ov iv v)
      release [v, ov, iv] []) := by intro _; rfl) : PS X (.Assign [.Subscript a b tpos] e pos) (rs c W nw (sStM o fb f)) := ps_to (ps_asg he (pg_sub hk hb set_list ha) hs hw h1) rs_stM
def putD (f : Str) (v : D) : List (Str × D) → List (Str × D)
  | [] => [(f, v)]
  | (g, x) :: r => if g = f then (g, v) :: r else (g, x) :: putD f v r
theorem dqF_put {ha : Option Addr} {G : Hp} {C : Addr} {f : Str} {v : V} {d : D} (na : NoAttr c.K C f) (dv : Dq c ha G v d) : ∀ {xs : List (Str × V)} {fs : List (Str × D)}, DqF c ha G C xs fs → DqF c ha G C (putF f v xs) (putD f d fs)
  | _, _, .nil => .cons na dv .nil
  | _, _, .cons (n := m) h0 h t => by
    unfold putF putD
    by_cases e : m = f
    · rw [if_pos e, if_pos e]
      exact .cons h0 dv t
    · rw [if_neg e, if_neg e]
      exact .cons h0 h (dqF_put na dv t)
/-- self.f = e, self of the class n -/
def sAt (n : Str) (o : Nat) (m : Str) (f : EF D) : SF := fun δ h => (f δ h).fl δ fun y h1 => (eM o δ h1).fl δ fun _ h2 => match h2 with
  | .ins n' fs => if n' = n then (if szOk fs.length then (if fs.length < 900 then .nx δ (.ins n' (putD m y fs)) else .bad) else .bad) else .bad
  | _ => .bad
theorem ds_at {o : Nat} {n m : Str} {pos' : Pos} (na : ∀ C, c.mg n = some (.ref C) → NoAttr c.K C m) (ha : PE X a (rm c W (eM o))) (he : PE X e (rd c W f)) (hK : X.K = c.K := by rfl) (hs : swapsWith e (some (.Attribute a m pos')) pos.line X.env = pure false := by rfl) :
    PS X (.Assign [.Attribute a m pos'] e pos) (rs c W nw (sAt n o m f)) := ps_to (ps_fld ha he hs) fun Dn σ H x => by
  rw [hK]
  obtain ⟨ha, G0, B, G, δ, h, st, p⟩ := x
  refine ⟨ha, G0, B, G, δ, h, st, post_imp (post_fl st p) fun y h1 G1 H1 af1 p1 w dw => ?_⟩
  have st1 := st.to af1
  refine ⟨ha, G0, B, G1, δ, h1, st1, post_imp (post_fl st1 p1) fun _ h2 G2 H2 af2 p2 v e1 => ?_⟩
  have st2 := st1.to af2
  split at p2
  · rename_i n' fs
    by_cases hn : n' = n
    · rw [if_pos hn] at p2
      subst hn
      by_cases hz : szOk fs.length = true
      · rw [if_pos hz] at p2
        by_cases hl : fs.length < 900
        · rw [if_pos hl] at p2
          cases id st2.hd with
          | self e2 g k1 k2 k3 k4 =>
            rw [e1] at e2
            cases e2
            exact ⟨_, _, _, _, rfl, k3, k2.cl, na _ k1, by rw [dqF_len k4]; omega, p2 σ G2 _ (st2.handed e1 (.self e1 g k1 k2 upd_same (dqF_put (na _ k1) (dq_mono af2.gg dw) k4))) (Same.refl _)⟩
        · rw [if_neg hl] at p2
          exact p2.elim
      · rw [if_neg hz] at p2
        exact p2.elim
    · rw [if_neg hn] at p2
      exact p2.elim
  · exact p2.elim
end
end Fw
namespace Rm
open PySem PySem.Spec PyProof.Rows L2
/-- nothing gets out -/
theorem passN {X : Cx} : Passes (L2.CX X.prog X.w) X E0 := by
  intro a b c d e f I h
  obtain ⟨_, _, _, _, _, _, _, _, _, _, _, _, no⟩ := h
  exact no.elim
section
variable {X : Cx} {CT : CXT} {n : Nat} {g C : Addr} {fd : FuncData} {ps : List Str} {sp : Sp} {E : L2.St → XK} {m x : Str} {p pos ap : Pos} {e o : Expr} {es : List Expr} {ta : TE} {t : TA}
def tMT (C : Addr) (m : Str) (sp : Sp) (E : L2.St → XK) (ta : TE) (t : TA) : TE := fun σ H Q =>
  ta σ H fun x H1 => ∃ a dx fs, x = .ref a ∧ H1 a = some (.ins C dx fs) ∧ fs.lookup m = none ∧
    t σ H1 fun vs H2 => sp (x :: vs) H2 Q (E σ)
/-- o.m(..) within a try -/
theorem pe_methT {pl : Sem Bool} (ho : PE X o ta) (c : Cls X.K C) (M : Meth X.K C m g)
    (F : FnOk X.prog X.w X.K X.mg X.base CT n g fd ps sp) (hr : Room n X.A) (B : L2.Binds X.K fd ps [])
    (hx : ∀ σ, PassesAt CT X σ (E σ)) (ha : PA X (e :: es) t)
    (h1 : starEach (e :: es) X.env = (false, eval e X.env) :: starEach es X.env := by rfl)
    (h2 : (backTo pos (starEach es X.env)).any (·.1) = false := by rfl)
    (h3 : eval (.Call (.Attribute o m ap) (e :: es) [] pos) X.env = (eval o X.env >>= fun ov => standAt ap.atName >>= fun _ => holding [ov] (getMethod ov m pl) >>= fun fo => callWith pos fo.1 fo.2 (backTo pos (starEach (e :: es) X.env)) (backToKw pos (keywordEach [] X.env))) := by rfl) :
    PE X (.Call (.Attribute o m ap) (e :: es) [] pos) (tMT C m sp E ta t) := by
  constructor
  intro pins s σ H Q I h
  refine PySem.W.methodCall_KW (pl := pl) (thn (ho.run pins s σ H _ I h) ?_) h3
  rintro u s1 ⟨y, H1, I1, ry, a, dx, fs, ey, ea, l, q⟩
  subst ey
  cases (show u = Value.ref a from ry)
  refine getmeth_ok I1 ea c M l (PySem.W.callWith_K (first := [.ref a]) (h₀ := X.base) I.ok.mod.kin M.kp (thn (ha.run pos pins s1 σ H1 _ I1 q) ?_) h1 h2)
  rintro us s2 ⟨vs, H2, I2, r, q2⟩
  exact ⟨I2.kIn, run_fnS (us := .ref a :: us) (vs := .ref a :: vs) F hr B (hx σ) I2 (.cons rfl r) q2⟩
def tMkT (C : Addr) (sp : Sp) (E : L2.St → XK) (t : TA) : TE := fun σ H Q =>
  t σ H fun vs H1 => ∀ x dx, H1 x = none → H1 dx = none → dx ≠ x →
    sp (.ref x :: vs) (upd (upd H1 dx (.own x)) x (.ins C dx [])) (fun v H2 => v = .non ∧ Q (.ref x) H2) (E σ)
/-- C(..) within a try -/
theorem pe_makeT (M : Mk X.K C g) (F : FnOk X.prog X.w X.K X.mg X.base CT n g fd ps sp) (hr : Room (n + 1) X.A) (hg : Gl X x) (hm : X.mg x = some (.ref C)) (B : L2.Binds X.K fd ps [])
    (hx : ∀ σ, PassesAt CT X σ (E σ)) (ha : PA X (e :: es) t) (hdb : (x == ("__debug__" : Str)) = false := by decide)
    (h1 : starEach (e :: es) X.env = (false, eval e X.env) :: starEach es X.env := by rfl)
    (h2 : (backTo pos (starEach es X.env)).any (·.1) = false := by rfl) :
    PE X (.Call (.Name x p) (e :: es) [] pos) (tMkT C sp E t) := by
  constructor
  intro pins s0 σ H0 Q I0 h0
  refine wpAny_Call_Name_kw (ld_glob I0 hg hm (PySem.W.callWith_K (h₀ := X.base) I0.ok.mod.kin M.kp (thn (ha.run pos pins s0 σ H0 _ I0 h0) ?_) h1 h2) hdb)
  rintro us s ⟨vs, H, I, r, h⟩
  refine ⟨I.kIn, ?_⟩
  show wpAny _ _ (call (.ref C) us) _ _ _
  have q := h (s.heap.objs.size + 1) s.heap.objs.size (I.hok.fresh (Nat.le_succ _)) (I.hok.fresh (Nat.le_refl _)) (Nat.ne_of_lt (Nat.lt_succ_self _))
  have I2 := Inv.made (C := C) I
  have r2 : Vals (V.ref (s.heap.objs.size + 1) :: vs) (Value.ref (s.heap.objs.size + 1) :: us) := .cons rfl r
  have hl : (Value.ref (s.heap.objs.size + 1) :: us).length = ps.length := by
    rw [← r2.length]
    exact F.len _ _ _ _ q
  have b2 := B _ (Value.ref (s.heap.objs.size + 1) :: us) I2.kIn (by rw [List.append_nil]; exact hl)
  rw [List.append_nil] at b2
  have run := F.run _ X.stack _ _ ⟨Value.ref (s.heap.objs.size + 1) :: us, []⟩ _ _ _ (E σ) (hr.make C us []) (I2.env0.make C us []) b2 r2 q
  refine wpAny_call (make_map (f := g) I.kIn M.makes M.init (beq_iff_eq.mp M.fn) (codeAny_mono run ?_))
  intro z s' hz
  cases z with
  | error er => exact hx σ pins _ _ er s' I2 hz
  | ok fl =>
    cases fl with
    | ret u =>
      obtain ⟨v, H', I3, rv, ev, q3⟩ := I2.after hz
      subst ev
      exact ⟨rv, V.ref (s.heap.objs.size + 1), H', I3, rfl, q3⟩
    | _ => exact False.elim hz
end
end Rm
namespace Fw
open PySem PySem.Spec PyProof.Rows L2 Dz Vz
/-- what is handed to a def: things at rest, and the handed thing -/
inductive DmAll (c : Cn) (ha : Option Addr) (G : Hp) : List V → List D → Prop
  | nil : DmAll c ha G [] []
  | cons {v : V} {d : D} {xs : List V} {ds : List D} : Dq c ha G v d → DmAll c ha G xs ds → DmAll c ha G (v :: xs) (d :: ds)
  | me {a : Addr} {xs : List V} {ds : List D} : ha = some a → DmAll c ha G xs ds → DmAll c ha G (.ref a :: xs) (.me :: ds)
theorem dm_mono {c : Cn} {ha : Option Addr} {G G' : Hp} (s : Same G G') : ∀ {xs : List V} {ds : List D}, DmAll c ha G xs ds → DmAll c ha G' xs ds
  | _, _, .nil => .nil
  | _, _, .cons h t => .cons (dq_mono s h) (dm_mono s t)
  | _, _, .me h t => .me h (dm_mono s t)
theorem dm_of {c : Cn} {ha : Option Addr} {G : Hp} : ∀ {xs : List V} {ds : List D}, DqAll c ha G xs ds → DmAll c ha G xs ds
  | _, _, .nil => .nil
  | _, _, .cons h t => .cons h (dm_of t)
theorem dm_len {c : Cn} {ha : Option Addr} {G : Hp} : ∀ {xs : List V} {ds : List D}, DmAll c ha G xs ds → xs.length = ds.length
  | _, _, .nil => rfl
  | _, _, .cons _ t => congrArg Nat.succ (dm_len t)
  | _, _, .me _ t => congrArg Nat.succ (dm_len t)
theorem dm_app {c : Cn} {ha : Option Addr} {G : Hp} {ys : List V} {es : List D} (k : DqAll c ha G ys es) : ∀ {xs : List V} {ds : List D}, DmAll c ha G xs ds → DmAll c ha G (xs ++ ys) (ds ++ es)
  | _, _, .nil => dm_of k
  | _, _, .cons h t => .cons h (dm_app k t)
  | _, _, .me h t => .me h (dm_app k t)
theorem dm_start {c : Cn} {ha : Option Addr} {G H : Hp} (m : Nat) : ∀ {xs : List V} {ds : List D}, DmAll c ha G xs ds → OwnS c ha G H (xs.map some ++ List.replicate m none) (ds.map some ++ List.replicate m none) []
  | _, _, .nil => by
    show OwnS c ha G H (List.replicate m none) (List.replicate m none) []
    induction m with
    | zero => exact .nil
    | succ m ih => exact .non none ih
  | _, _, .cons h t => OwnS.some (f := []) (fp := []) (.frz h) (dm_start m t)
  | _, _, .me h t => .me h (dm_start m t)
abbrev Fn := List D → D → Ex D
def EndF (nw : Bool) (c : Cn) (ha : Option Addr) (G H : Hp) (r : Ex D) (Q : VK) (E : XK) : Prop := match r with
  | .ok d h' => ∀ v G' H', Af c ha G H G' H' h' → Res nw c ha H G' H' v d → Q v H'
  | .exc n fs h' => ∀ C dd G' H', Af c ha G H G' H' h' → c.mg n = some (.ref C) → XR c ha G' H H' C dd fs → E (.ref C) dd H'
  | .bad => False
/-- a def's promise: on n things it does as F -/
def spD (c : Cn) (nw : Bool) (n : Nat) (F : Fn) : Sp := fun vs H Q E => ∃ ha G ds h, ds.length = n ∧ Same G H ∧ Hok c ha G H h ∧ DmAll c ha G vs ds ∧ EndF nw c ha G H (F ds h) Q E
/-- what a body makes of a def -/
def runF (N : Nat) (body : SF) : Fn := fun ds h => match body (ds.map some ++ List.replicate (N - ds.length) none) h with
  | .ret d h' => .ok d h'
  | .nx _ h' => .ok .non h'
  | .exc n fs _ h' => .exc n fs h'
  | _ => .bad
section
variable {P : Program} {w : World} {c : Cn} {base : Heap} {nw : Bool} {x qual : Str} {params : Arguments} {body : List Stmt} {scope : Scope} {dvs : List V} {kws : List (Str × V)} {f : Addr} {fd : FuncData} {N ps : List Str} {k : Nat} {u : SF}
theorem ok_def (F : FunD c.K x qual params body scope dvs kws f fd) (S : FnScope N ps scope)
    (hb : ∀ (cdv : Value) (A : Around) (outer : List Env) (s : Shared) (H : Hp) (E : XK), Room k (A.deeper (envOfC qual scope s.heap.objs.size f cdv)) → PSs (cxOf (L2.CX P w) P w c.K c.mg base N qual scope f cdv A outer s H E) body (rs c (fun cls dd _ H' => E cls dd H') nw u)) (hnw : nw = true → ∀ δ h δ' h', u δ h ≠ .nx δ' h' := by intro z; cases z) :
    FnOk P w c.K c.mg base (L2.CX P w) (k + 1) f fd ps (spD c nw ps.length (runF N.length u)) := by
  refine F.ok S (fun vs H Q E h => ?_) (fun cdv A outer s H vs Q E hr h => ?_)
  · obtain ⟨ha, G, ds, hh, hl, _, _, dv, _⟩ := h
    rw [dm_len dv, hl]
  · obtain ⟨ha, G, ds, hh, hl, s1, ok, dv, fin⟩ := h
    refine ⟨_, hb cdv A outer s H E hr, ha, G, H, G, _, hh, ⟨⟨[], by unfold L2.start; rw [dm_len dv]; exact dm_start (N.length - ds.length) dv, by simp, fun a z => nomatch z⟩, Mv.refl s1, fun _ _ _ e => e, ok, fun a e => ?_⟩, ?_⟩
    · subst e
      exact (hok_at ok).2
    · unfold runF at fin
      cases e : u (ds.map some ++ List.replicate (N.length - ds.length) none) hh with
      | ret d h' => rw [e] at fin; exact fin
      | nx δ' h' =>
        rw [e] at fin
        cases nw with
        | false => exact fun σ' G' H' st _ => fin .non G' H' st.af .non
        | true => exact absurd e (hnw rfl _ _ _ _)
      | exc n fs δ' h' => rw [e] at fin; exact fun σ' C dd G1 H1 h1 G' H' st _ af m xr => fin C dd G' H' (st.af.trans af) m (xr.from fun _ e => st.old e)
      | brk δ' h' => rw [e] at fin; exact fin.elim
      | ct δ' h' => rw [e] at fin; exact fin.elim
      | bad => rw [e] at fin; exact fin.elim
theorem spD_len {n : Nat} {F : Fn} {vs : List V} {H : Hp} {Q : VK} {E : XK} (h : spD c nw n F vs H Q E) : vs.length = n := by
  obtain ⟨ha, G, ds, hh, hl, _, _, dv, _⟩ := h
  rw [dm_len dv, hl]
end
section
variable {X : Cx} {W : WX} {c : Cn} {nw : Bool} {e a b o : Expr} {es : List Expr} {pos : Pos} {te : TE} {f fa fb fo : EF D} {fs : EF (List D)}
def rg (c : Cn) (W : WX) (f : EF (List D)) : TA := fun σ H Q => ∃ ha G0 B G δ h, Sta c ha G0 B G H σ δ h ∧ Post c ha W σ G H (f δ h) fun ds _ G' H' => ∀ vs, DmAll c ha G' vs ds → Q vs H'
theorem pg_to {t : TA} (p : PA X es t) (i : ∀ σ H Q, rg c W fs σ H Q → t σ H Q) : PA X es (rg c W fs) := ⟨fun ps pins s σ H Q I h => p.run ps pins s σ H Q I (i σ H Q h)⟩
theorem dg_nil : PA X [] (rg c W eNil) := pg_to pa_nil fun σ H Q x => by
  obtain ⟨ha, G0, B, G, δ, h, st, p⟩ := x
  exact post_ok p st.gh st.hd [] .nil
theorem dg_cons (he : PE X e (rd c W f)) (hs : PA X es (rg c W fs)) (hst : starEach (e :: es) X.env = (false, eval e X.env) :: starEach es X.env := by rfl) : PA X (e :: es) (rg c W (eCons f fs)) := pg_to (pa_cons he hs hst) fun σ H Q x => by
  obtain ⟨ha, G0, B, G, δ, h, st, p⟩ := x
  refine ⟨ha, G0, B, G, δ, h, st, post_imp (post_bind p) fun d h1 G1 H1 af1 p1 v dv => ?_⟩
  refine ⟨ha, G0, B, G1, δ, h1, st.to af1, post_imp (post_bind p1) fun ds h2 G2 H2 af2 p2 vs dvs => ?_⟩
  exact post_ok p2 af2.gh af2.hd _ (.cons (dq_mono af2.gg dv) dvs)
/-- a name, which may hold the handed thing -/
def eVm (i : Nat) : EF D := fun δ h => match δ[i]? with
  | some (some .me) => .ok .me h
  | some (some d) => if d.fr then .ok d h else .bad
  | _ => .bad
theorem dg_v {i : Nat} {x : Str} {p : Pos} (hN : X.N[i]? = some x) (hv : Vis X.env.scope x) (hs : PA X es (rg c W fs)) (hd : (x == ("__debug__" : Str)) = false := by decide) (hcd : (x == ("__classdict__" : Str)) = false := by decide) (hst : starEach (.Name x p :: es) X.env = (false, eval (.Name x p) X.env) :: starEach es X.env := by rfl) : PA X (.Name x p :: es) (rg c W (eCons (eVm i) fs)) := pg_to (pa_cons (pe_var hN hv hd hcd) hs hst) fun σ H Q x => by
  obtain ⟨ha, G0, B, G, δ, h, st, p⟩ := x
  obtain ⟨fp, o, n, k⟩ := st.sl
  unfold eCons eVm at p
  split at p
  · rename_i e
    obtain ⟨a, h1, h2⟩ := ownS_me o e
    refine ⟨_, h1, ha, G0, B, G, δ, h, st, post_imp (post_bind p) fun ds h2' G2 H2 af2 p2 vs dvs => ?_⟩
    exact post_ok p2 af2.gh af2.hd _ (.me h2 dvs)
  · rename_i d nm e
    by_cases hf : d.fr = true
    · rw [if_pos hf] at p
      obtain ⟨v, f1, f, f2, h1, _, h3, _⟩ := ownS_slot o e (fr_nm hf)
      refine ⟨v, h1, ha, G0, B, G, δ, h, st, post_imp (post_bind p) fun ds h2 G2 H2 af2 p2 vs dvs => ?_⟩
      exact post_ok p2 af2.gh af2.hd _ (.cons (dq_mono af2.gg (own_fr h3 hf).1) dvs)
    · rw [if_neg hf] at p
      exact p.elim
  · exact p.elim
theorem run_fnD {CX : CXT} {k : Nat} {f : Addr} {fd : FuncData} {ps : List Str} {sp : Sp} {ds : List Value} {dvs : List V} {E : XK} {pins : List (Addr × Obj)} {σ : L2.St} {H : Hp} {s : Shared} {Q : VK} {us : List Value} {vs : List V} (F : FnOk X.prog X.w X.K X.mg X.base CX k f fd ps sp) (hr : Room k X.A) (hb : L2.Binds X.K fd ps ds) (hd : Vals dvs ds) (hx : PassesAt CX X σ E)
    (I : Inv X pins σ H s) (r : Vals vs us) (h : sp (vs ++ dvs) H Q E) : wpAny (model X.prog X.w) X.A (call (.ref f) us) (EP X pins σ Q) X.xe s := by
  have r2 : Vals (vs ++ dvs) (us ++ ds) := r.append hd
  have hl : (us ++ ds).length = ps.length := by rw [← r2.length]; exact F.len _ _ _ _ h
  refine wpAny_call (codeAny_mono (F.run X.A X.stack s H ⟨us, []⟩ (us ++ ds) (vs ++ dvs) Q E hr I.env0 (hb s us I.kIn hl) r2 h) fun r s' hq => ?_)
  cases r with
  | error e => exact hx pins H s e s' I hq
  | ok fl =>
    cases fl with
    | ret u => exact I.after hq
    | next => exact False.elim hq
    | brk => exact False.elim hq
    | cont => exact False.elim hq
def tCallD (sp : Sp) (dvs : List V) (E : L2.St → XK) (t : TA) : TE := fun σ H Q => t σ H fun vs H1 => sp (vs ++ dvs) H1 Q (E σ)
section
variable {CX : CXT} {k : Nat} {g C : Addr} {fd : FuncData} {ps : List Str} {sp : Sp} {ds : List Value} {dvs : List V} {E : L2.St → XK} {x m : Str} {p apos : Pos} {t : TA}
theorem pe_callD (F : FnOk X.prog X.w X.K X.mg X.base CX k g fd ps sp) (hr : Room k X.A) (hg : Gl X x) (hm : X.mg x = some (.ref g)) (hk : PySem.W.keepIn X.K (.ref g) = true) (hb : L2.Binds X.K fd ps ds) (hd : Vals dvs ds) (hx : ∀ σ, PassesAt CX X σ (E σ))
    (ha : PA X (e :: es) t) (hdb : (x == ("__debug__" : Str)) = false := by decide) (he : starEach (e :: es) X.env = (false, eval e X.env) :: starEach es X.env := by rfl) (hpl : (backTo pos (starEach es X.env)).any (·.1) = false := by rfl) :
    PE X (.Call (.Name x p) (e :: es) [] pos) (tCallD sp dvs E t) := by
  refine ⟨fun pins s σ H Q I h => ?_⟩
  refine wpAny_Call_Name_kw (ld_glob I hg hm ?_ hdb)
  refine PySem.W.callWith_K (h₀ := X.base) I.ok.mod.kin hk (thn (ha.run pos pins s σ H _ I h) fun us s1 ⟨vs, H1, I1, r, q⟩ => ⟨I1.kIn, ?_⟩) he hpl
  exact run_fnD F hr hb hd (hx σ) I1 r q
theorem pe_callD0 (F : FnOk X.prog X.w X.K X.mg X.base CX k g fd ps sp) (hr : Room k X.A) (hg : Gl X x) (hm : X.mg x = some (.ref g)) (hk : PySem.W.keepIn X.K (.ref g) = true) (hb : L2.Binds X.K fd ps ds) (hd : Vals dvs ds) (hx : ∀ σ, PassesAt CX X σ (E σ))
    (hdb : (x == ("__debug__" : Str)) = false := by decide) : PE X (.Call (.Name x p) [] [] pos) (tCallD sp dvs E tNil) := by
  refine ⟨fun pins s σ H Q I h => ?_⟩
  refine wpAny_Call_Name_kw (ld_glob I hg hm ?_ hdb)
  exact PySem.W.callWith_K0 I.kIn hk (run_fnD (us := []) F hr hb hd (hx σ) I .nil h)
def tMethD (C : Addr) (m : Str) (sp : Sp) (dvs : List V) (E : L2.St → XK) (ta : TE) (t : TA) : TE := fun σ H Q => ta σ H fun x H1 => ∃ a dx fs, x = .ref a ∧ H1 a = some (.ins C dx fs) ∧ fs.lookup m = none ∧ t σ H1 fun vs H2 => sp (x :: (vs ++ dvs)) H2 Q (E σ)
theorem pe_methD {pl : Sem Bool} {to : TE} (he : PE X o to) (c : Cls X.K C) (hm : Meth X.K C m g) (F : FnOk X.prog X.w X.K X.mg X.base CX k g fd ps sp) (hr : Room k X.A) (hb : L2.Binds X.K fd ps ds) (hd : Vals dvs ds) (hx : ∀ σ, PassesAt CX X σ (E σ)) (ha : PA X (e :: es) t)
    (hst : starEach (e :: es) X.env = (false, eval e X.env) :: starEach es X.env := by rfl) (hpl : (backTo pos (starEach es X.env)).any (·.1) = false := by rfl)
    (ht : eval (.Call (.Attribute o m apos) (e :: es) [] pos) X.env = (do
      let ov ← eval o X.env
      standAt apos.atName
      let (f, first) ← holding [ov] (getMethod ov m pl)
      callWith pos f first (backTo pos (starEach (e :: es) X.env)) (backToKw pos (keywordEach [] X.env))) := by rfl) :
    PE X (.Call (.Attribute o m apos) (e :: es) [] pos) (tMethD C m sp dvs E to t) := by
  refine ⟨fun pins s σ H Q I h => ?_⟩
  refine PySem.W.methodCall_KW (pl := pl) (thn (he.run pins s σ H _ I h) fun u s1 ⟨x, H1, I1, rx, a, dx, fs, ex, ea, l, q⟩ => ?_) ht
  subst ex
  obtain rfl : u = Value.ref a := rx
  refine getmeth_ok I1 ea c hm l ?_
  refine PySem.W.callWith_K (first := [.ref a]) (h₀ := X.base) I.ok.mod.kin hm.kp (thn (ha.run pos pins s1 σ H1 _ I1 q) fun us s2 ⟨vs, H2, I2, r, q2⟩ => ⟨I2.kIn, ?_⟩) hst hpl
  exact run_fnD (us := .ref a :: us) (vs := .ref a :: vs) F hr hb hd (hx σ) I2 (.cons rfl r) q2
theorem pe_methD0 {pl : Sem Bool} {to : TE} (he : PE X o to) (c : Cls X.K C) (hm : Meth X.K C m g) (F : FnOk X.prog X.w X.K X.mg X.base CX k g fd ps sp) (hr : Room k X.A) (hb : L2.Binds X.K fd ps ds) (hd : Vals dvs ds) (hx : ∀ σ, PassesAt CX X σ (E σ))
    (ht : eval (.Call (.Attribute o m apos) [] [] pos) X.env = (do
      let ov ← eval o X.env
      standAt apos.atName
      let (f, first) ← holding [ov] (getMethod ov m pl)
      callWith pos f first (backTo pos (starEach [] X.env)) (backToKw pos (keywordEach [] X.env))) := by rfl) :
    PE X (.Call (.Attribute o m apos) [] [] pos) (tMethD C m sp dvs E to tNil) := by
  refine ⟨fun pins s σ H Q I h => ?_⟩
  refine PySem.W.methodCall_KW (pl := pl) (thn (he.run pins s σ H _ I h) fun u s1 ⟨x, H1, I1, rx, a, dx, fs, ex, ea, l, q⟩ => ?_) ht
  subst ex
  obtain rfl : u = Value.ref a := rx
  refine getmeth_ok I1 ea c hm l ?_
  exact PySem.W.callWith_K0 (first := [.ref a]) I1.kIn hm.kp (run_fnD (us := [.ref a]) (vs := [.ref a]) F hr hb hd (hx σ) I1 (.cons rfl .nil) q)
def tMakeD (C : Addr) (sp : Sp) (dvs : List V) (E : L2.St → XK) (t : TA) : TE := fun σ H Q => t σ H fun vs H1 => ∀ x dx, H1 x = none → H1 dx = none → dx ≠ x →
  sp (.ref x :: (vs ++ dvs)) (upd (upd H1 dx (.own x)) x (.ins C dx [])) (fun v H2 => v = .non ∧ Q (.ref x) H2) (E σ)
theorem run_makeD {pins : List (Addr × Obj)} {σ : L2.St} {H : Hp} {s : Shared} {Q : VK} {us : List Value} {vs : List V} {E : XK} (M : Mk X.K C g) (F : FnOk X.prog X.w X.K X.mg X.base CX k g fd ps sp) (hr : Room (k + 1) X.A) (hb : L2.Binds X.K fd ps ds) (hd : Vals dvs ds)
    (hx : PassesAt CX X σ E) (I : Inv X pins σ H s) (r : Vals vs us)
    (h : ∀ x dx, H x = none → H dx = none → dx ≠ x → sp (.ref x :: (vs ++ dvs)) (upd (upd H dx (.own x)) x (.ins C dx [])) (fun v H2 => v = .non ∧ Q (.ref x) H2) E) :
    wpAny (model X.prog X.w) X.A (call (.ref C) us) (EP X pins σ Q) X.xe s := by
  have hq := h (s.heap.objs.size + 1) s.heap.objs.size (I.hok.fresh (Nat.le_succ _)) (I.hok.fresh (Nat.le_refl _)) (Nat.ne_of_lt (Nat.lt_succ_self _))
  have I2 := Inv.made (C := C) I
  have r2 : Vals (V.ref (s.heap.objs.size + 1) :: (vs ++ dvs)) (Value.ref (s.heap.objs.size + 1) :: (us ++ ds)) := .cons rfl (r.append hd)
  have hl : (Value.ref (s.heap.objs.size + 1) :: us ++ ds).length = ps.length := by
    have e := r2.length
    rw [F.len _ _ _ _ hq] at e
    exact e.symm
  refine wpAny_call (make_map (f := g) I.kIn M.makes M.init (beq_iff_eq.mp M.fn) (codeAny_mono (F.run _ X.stack _ _ ⟨Value.ref (s.heap.objs.size + 1) :: us, []⟩ (Value.ref (s.heap.objs.size + 1) :: (us ++ ds)) _ _ E (hr.make C us [])
    (I2.env0.make C us []) (hb _ (Value.ref (s.heap.objs.size + 1) :: us) I2.kIn hl) r2 hq) fun r s' hq' => ?_))
  cases r with
  | error e => exact hx pins _ _ e s' I2 hq'
  | ok fl =>
    cases fl with
    | ret u =>
      obtain ⟨v, H', I3, rv, ev, q3⟩ := I2.after hq'
      subst ev
      exact ⟨rv, ⟨V.ref (s.heap.objs.size + 1), H', I3, rfl, q3⟩⟩
    | next => exact False.elim hq'
    | brk => exact False.elim hq'
    | cont => exact False.elim hq'
theorem pe_makeD (M : Mk X.K C g) (F : FnOk X.prog X.w X.K X.mg X.base CX k g fd ps sp) (hr : Room (k + 1) X.A) (hg : Gl X x) (hm : X.mg x = some (.ref C)) (hb : L2.Binds X.K fd ps ds) (hd : Vals dvs ds) (hx : ∀ σ, PassesAt CX X σ (E σ))
    (ha : PA X (e :: es) t) (hdb : (x == ("__debug__" : Str)) = false := by decide) (he : starEach (e :: es) X.env = (false, eval e X.env) :: starEach es X.env := by rfl) (hpl : (backTo pos (starEach es X.env)).any (·.1) = false := by rfl) :
    PE X (.Call (.Name x p) (e :: es) [] pos) (tMakeD C sp dvs E t) := by
  refine ⟨fun pins s σ H Q I h => ?_⟩
  refine wpAny_Call_Name_kw (ld_glob I hg hm ?_ hdb)
  refine PySem.W.callWith_K (h₀ := X.base) I.ok.mod.kin M.kp (thn (ha.run pos pins s σ H _ I h) fun us s1 ⟨vs, H1, I1, r, q⟩ => ⟨I1.kIn, ?_⟩) he hpl
  exact run_makeD M F hr hb hd (hx σ) I1 r q
end
/-- what a call's end gives -/
theorem endF_of {ha : Option Addr} {σ : L2.St} {G H : Hp} {r : Ex D} {Q : VK} (p : Post c ha W σ G H r fun d _ G' H' => ∀ v, Dq c ha G' v d → Q v H') : EndF false c ha G H r Q (WE W σ) := by
  cases r with
  | ok d h' => exact fun v G' H' af res => p G' H' af v res
  | exc n fs h' => exact fun C dd G' H' af m x => p C dd G' H' af m x
  | bad => exact p
/-- a call: n things in all -/
def eCall (n : Nat) (F : Fn) (dd : List D) (fs : EF (List D)) : EF D := fun δ h => (fs δ h).bind fun ds h1 => if (ds ++ dd).length = n then F (ds ++ dd) h1 else .bad
theorem Post.arg {α β : Type} {ha : Option Addr} {σ : L2.St} {G H : Hp} {r : Ex α} {g : α → D → Ex β} {k : β → D → Hp → Hp → Prop} (p : Post c ha W σ G H (r.bind g) k) : Post c ha W σ G H r fun a h1 G1 H1 => Same G1 H1 ∧ Hok c ha G1 H1 h1 ∧ Post c ha W σ G1 H1 (g a h1) k := post_imp (post_bind p) fun a h1 G1 H1 af q => ⟨af.gh, af.hd, q⟩
section
variable {k n : Nat} {g C : Addr} {fd : FuncData} {ps : List Str} {F : Fn} {ds : List Value} {dvs : List V} {dd : List D} {x m : Str} {p apos : Pos}
theorem if_post {α : Type} {ha : Option Addr} {σ : L2.St} {G H : Hp} {p : Prop} [Decidable p] {r : Ex α} {K : α → D → Hp → Hp → Prop} (q : Post c ha W σ G H (if p then r else .bad) K) : p ∧ Post c ha W σ G H r K := by
  by_cases hp : p
  · rw [if_pos hp] at q
    exact ⟨hp, q⟩
  · rw [if_neg hp] at q
    exact q.elim
theorem rd_call (hd : ∀ ha G, DqAll c ha G dvs dd) (σ : L2.St) (H : Hp) (Q : VK) (x : rd c W (eCall n F dd fs) σ H Q) : tCallD (spD c false n F) dvs (WE W) (rg c W fs) σ H Q := by
  obtain ⟨ha, G0, B, G, δ, h, st, p⟩ := x
  refine ⟨ha, G0, B, G, δ, h, st, post_imp (Post.arg p) fun ds h1 G1 H1 af ⟨s1, o1, p1⟩ vs dv => ?_⟩
  obtain ⟨hl, p2⟩ := if_post p1
  exact ⟨ha, G1, ds ++ dd, h1, hl, s1, o1, dm_app (hd ha G1) dv, endF_of p2⟩
theorem dx_call (G : FnOk X.prog X.w X.K X.mg X.base (L2.CX X.prog X.w) k g fd ps (spD c false n F)) (hr : Room k X.A) (hg : Gl X x) (hm : X.mg x = some (.ref g)) (hk : PySem.W.keepIn X.K (.ref g) = true) (hb : L2.Binds X.K fd ps ds) (hv : Vals dvs ds) (hd : ∀ ha G, DqAll c ha G dvs dd) (hx : ∀ σ, PassesAt (L2.CX X.prog X.w) X σ (WE W σ))
    (ha : PA X (e :: es) (rg c W fs)) (hdb : (x == ("__debug__" : Str)) = false := by decide) (he : starEach (e :: es) X.env = (false, eval e X.env) :: starEach es X.env := by rfl) (hpl : (backTo pos (starEach es X.env)).any (·.1) = false := by rfl) :
    PE X (.Call (.Name x p) (e :: es) [] pos) (rd c W (eCall n F dd fs)) := pe_to (pe_callD G hr hg hm hk hb hv hx ha hdb he hpl) (rd_call hd)
theorem dx_call0 (G : FnOk X.prog X.w X.K X.mg X.base (L2.CX X.prog X.w) k g fd ps (spD c false n F)) (hr : Room k X.A) (hg : Gl X x) (hm : X.mg x = some (.ref g)) (hk : PySem.W.keepIn X.K (.ref g) = true) (hb : L2.Binds X.K fd ps ds) (hv : Vals dvs ds) (hd : ∀ ha G, DqAll c ha G dvs dd) (hx : ∀ σ, PassesAt (L2.CX X.prog X.w) X σ (WE W σ))
    (hdb : (x == ("__debug__" : Str)) = false := by decide) : PE X (.Call (.Name x p) [] [] pos) (rd c W (eCall n F dd eNil)) := pe_to (pe_callD0 G hr hg hm hk hb hv hx hdb) fun σ H Q x => by
  obtain ⟨ha, G0, B, G, δ, h, st, p⟩ := x
  simp only [eCall, eNil, Ex.bind] at p
  obtain ⟨hl, p2⟩ := if_post p
  exact ⟨ha, G, [] ++ dd, h, hl, st.gh, st.hd, dm_of (hd ha G), endF_of p2⟩
/-- o.m(..), o of the class nm -/
def eMeth (nm m : Str) (n : Nat) (F : Fn) (dd : List D) (fo : EF D) (fs : EF (List D)) : EF D := fun δ h => (fo δ h).bind fun d h1 => match d with
  | .ins n' xs => if n' = nm ∧ xs.lookup m = none then (fs δ h1).bind fun ds h2 => if (d :: (ds ++ dd)).length = n then F (d :: (ds ++ dd)) h2 else .bad else .bad
  | _ => .bad
theorem rd_meth {nm : Str} (mC : c.mg nm = some (.ref C)) (hd : ∀ ha G, DqAll c ha G dvs dd) (σ : L2.St) (H : Hp) (Q : VK) (x : rd c W (eMeth nm m n F dd fo fs) σ H Q) : tMethD C m (spD c false n F) dvs (WE W) (rd c W fo) (rg c W fs) σ H Q := by
  obtain ⟨ha, G0, B, G, δ, h, st, p⟩ := x
  refine ⟨ha, G0, B, G, δ, h, st, post_imp (post_bind p) fun d h1 G1 H1 af p1 v dv => ?_⟩
  cases dv with
  | ins k1 k2 k3 k4 =>
    obtain ⟨⟨rfl, hno⟩, p2⟩ := if_post p1
    rw [k1] at mC
    cases mC
    refine ⟨_, _, _, rfl, af.gh _ _ k2, dqF_no k4 hno, ha, G0, B, G1, δ, h1, st.to af, post_imp (Post.arg p2) fun ds h2 G2 H2 af2 ⟨s2, o2, p3⟩ vs dvs' => ?_⟩
    obtain ⟨hl, p4⟩ := if_post p3
    exact ⟨ha, G2, _, h2, hl, s2, o2, .cons (.ins k1 (af2.gg _ _ k2) k3 (dqF_mono af2.gg k4)) (dm_app (hd ha G2) dvs'), endF_of p4⟩
  | _ => exact p1.elim
theorem dx_meth {nm : Str} {pl : Sem Bool} (mC : c.mg nm = some (.ref C)) (he : PE X o (rd c W fo)) (cl : Cls X.K C) (hm : Meth X.K C m g) (G : FnOk X.prog X.w X.K X.mg X.base (L2.CX X.prog X.w) k g fd ps (spD c false n F)) (hr : Room k X.A) (hb : L2.Binds X.K fd ps ds) (hv : Vals dvs ds) (hd : ∀ ha G, DqAll c ha G dvs dd) (hx : ∀ σ, PassesAt (L2.CX X.prog X.w) X σ (WE W σ)) (ha : PA X (e :: es) (rg c W fs))
    (hst : starEach (e :: es) X.env = (false, eval e X.env) :: starEach es X.env := by rfl) (hpl : (backTo pos (starEach es X.env)).any (·.1) = false := by rfl)
    (ht : eval (.Call (.Attribute o m apos) (e :: es) [] pos) X.env = (do
      let ov ← eval o X.env
      standAt apos.atName
      let (f, first) ← holding [ov] (getMethod ov m pl)
      callWith pos f first (backTo pos (starEach (e :: es) X.env)) (backToKw pos (keywordEach [] X.env))) := by rfl) :
    PE X (.Call (.Attribute o m apos) (e :: es) [] pos) (rd c W (eMeth nm m n F dd fo fs)) := pe_to (pe_methD he cl hm G hr hb hv hx ha hst hpl ht) (rd_meth mC hd)
theorem dx_meth0 {nm : Str} {pl : Sem Bool} (mC : c.mg nm = some (.ref C)) (he : PE X o (rd c W fo)) (cl : Cls X.K C) (hm : Meth X.K C m g) (G : FnOk X.prog X.w X.K X.mg X.base (L2.CX X.prog X.w) k g fd ps (spD c false n F)) (hr : Room k X.A) (hb : L2.Binds X.K fd ps ds) (hv : Vals dvs ds) (hd : ∀ ha G, DqAll c ha G dvs dd) (hx : ∀ σ, PassesAt (L2.CX X.prog X.w) X σ (WE W σ))
    (ht : eval (.Call (.Attribute o m apos) [] [] pos) X.env = (do
      let ov ← eval o X.env
      standAt apos.atName
      let (f, first) ← holding [ov] (getMethod ov m pl)
      callWith pos f first (backTo pos (starEach [] X.env)) (backToKw pos (keywordEach [] X.env))) := by rfl) :
    PE X (.Call (.Attribute o m apos) [] [] pos) (rd c W (eMeth nm m n F dd fo eNil)) := pe_to (pe_methD0 he cl hm G hr hb hv hx ht) fun σ H Q x => by
  obtain ⟨ha, G0, B, G1, δ, h, st, p⟩ := rd_meth (dvs := dvs) mC hd σ H Q x
  refine ⟨ha, G0, B, G1, δ, h, st, post_imp p fun d h1 G2 H2 af q v dv => ?_⟩
  obtain ⟨a, dx, fs, e1, e2, e3, ha', G0', B', G', δ', h', st', p'⟩ := q v dv
  exact ⟨a, dx, fs, e1, e2, e3, post_ok p' st'.gh st'.hd [] .nil⟩
/-- C(..), C the class nm -/
def eMake (nm : Str) (n : Nat) (F : Fn) (dd : List D) (fs : EF (List D)) : EF D := fun δ h => (fs δ h).bind fun ds h1 => if (D.me :: (ds ++ dd)).length = n then
  match F (.me :: (ds ++ dd)) (.ins nm []) with
  | .ok .non (.ins n' xs) => if n' = nm then .ok (.ins n' xs) h1 else .bad
  | .exc n' xs _ => .exc n' xs h1
  | _ => .bad
  else .bad
theorem dqAll_ha {ha hb : Option Addr} {G : Hp} : ∀ {xs : List V} {ds : List D}, DqAll c ha G xs ds → DqAll c hb G xs ds
  | _, _, .nil => .nil
  | _, _, .cons h t => .cons (dq_ha h) (dqAll_ha t)
theorem XR.ha {ha hb : Option Addr} {G H0 H : Hp} {C : Addr} {dd : Option Addr} {fs : List (Str × D)} (x : XR c ha G H0 H C dd fs) : XR c hb G H0 H C dd fs := by
  rcases x with x | ⟨d, xs, h1, h2, h3, h4, h5⟩
  · exact .inl x
  · exact .inr ⟨d, xs, h1, h2, h3, h4, dqF_ha h5⟩
theorem rd_make {nm : Str} (mC : c.mg nm = some (.ref C)) (co : COk c.K C) (hd : ∀ ha G, DqAll c ha G dvs dd) (σ : L2.St) (H : Hp) (Q : VK) (x : rd c W (eMake nm n F dd fs) σ H Q) : tMakeD C (spD c false n F) dvs (WE W) (ra c W fs) σ H Q := by
  obtain ⟨ha, G0, B, G, δ, h, st, p⟩ := x
  refine ⟨ha, G0, B, G, δ, h, st, post_imp (post_bind p) fun ds h1 G1 H1 af p1 vs dv => fun x dx hx hdx hne => ?_⟩
  obtain ⟨hl, p2⟩ := if_post p1
  have gx : G1 x = none := old_none af.gh hx
  have gdx : G1 dx = none := old_none af.gh hdx
  have hk : ∀ a, ha = some a → H1 a ≠ none := fun a e => by
    subst e
    exact (hok_at af.hd).2
  -- the heap in which the new thing stands bare
  have hx2 : (upd H1 dx (.own x)) x = none := by rw [upd_ne hne.symm]; exact hx
  have m0 : Mv G1 H1 G1 (upd (upd H1 dx (.own x)) x (.ins C dx [])) := (Mv.hid af.gh hdx).trans (Mv.hid ((Mv.hid (o := .own x) af.gh hdx).gh) hx2)
  have s0 : Same H1 (upd (upd H1 dx (.own x)) x (.ins C dx [])) := (same_new hdx).trans (same_new hx2)
  refine ⟨some x, G1, .me :: (ds ++ dd), .ins nm [], hl, m0.gh, .self rfl gx mC co upd_same .nil, .me rfl (dm_of (dqAll_app (dqAll_ha dv) (hd _ G1))), ?_⟩
  have back : ∀ {G2 H2 : Hp} {h2 : D}, Af c (some x) G1 (upd (upd H1 dx (.own x)) x (.ins C dx [])) G2 H2 h2 → Same H1 H2 := fun {G2 H2 h2} a b o e => a.bt b o (fun z => by cases z; rw [hx] at e; cases e) (s0 b o e)
  have view : ∀ {G2 H2 : Hp} {h2 : D}, Af c (some x) G1 (upd (upd H1 dx (.own x)) x (.ins C dx [])) G2 H2 h2 → Af c ha G1 H1 G2 H2 h1 := fun {G2 H2 h2} a => .of af.gh af.hd (m0.trans a.mv) (back a)
  generalize eF : F (.me :: (ds ++ dd)) (.ins nm []) = r at p2
  cases r with
  | bad => exact p2.elim
  | exc n' xs h2 => exact fun C' dd' G2 H2 a m xr => p2 C' dd' G2 H2 (view a) m (xr.ha.from fun d e => by
    cases z : H1 d with
    | none => rfl
    | some o => rw [s0 d o z] at e; cases e)
  | ok d h2 =>
    cases d <;> first | (exact p2.elim) | skip
    cases h2 <;> first | (exact p2.elim) | skip
    rename_i n' xs
    obtain ⟨rfl, p3⟩ := if_post p2
    intro v G2 H2 a res
    cases (show Dq c (some x) G2 v .non from res)
    refine ⟨rfl, ?_⟩
    have af2 := view a
    cases a.hd with
    | @self a0 C0 dx0 n0 xs0 fs0 e1 g2 k1 k2 k3 k4 =>
      cases e1
      have sh : Same G2 (upd G2 x (.ins C0 dx0 xs0)) := same_new g2
      refine p3 (upd G2 x (.ins C0 dx0 xs0)) H2 ⟨Mv.shut af2.mv hx g2 k3, af2.bt, hok_keep af2.hd sh fun b eb => ⟨?_, rfl⟩⟩ _ (.ins k1 upd_same k2 (dqF_mono sh (dqF_ha k4)))
      rw [upd_ne fun z => hk b eb (by rw [z]; exact hx)]
      subst eb
      exact (hok_at af2.hd).1
theorem dx_make {nm : Str} (mC : c.mg nm = some (.ref C)) (co : COk c.K C) (M : Mk X.K C g) (G : FnOk X.prog X.w X.K X.mg X.base (L2.CX X.prog X.w) k g fd ps (spD c false n F)) (hr : Room (k + 1) X.A) (hg : Gl X nm) (hm : X.mg nm = some (.ref C)) (hb : L2.Binds X.K fd ps ds) (hv : Vals dvs ds) (hd : ∀ ha G, DqAll c ha G dvs dd) (hx : ∀ σ, PassesAt (L2.CX X.prog X.w) X σ (WE W σ))
    (ha : PA X (e :: es) (ra c W fs)) (hdb : (nm == ("__debug__" : Str)) = false := by decide) (he : starEach (e :: es) X.env = (false, eval e X.env) :: starEach es X.env := by rfl) (hpl : (backTo pos (starEach es X.env)).any (·.1) = false := by rfl) :
    PE X (.Call (.Name nm p) (e :: es) [] pos) (rd c W (eMake nm n F dd fs)) := pe_to (pe_makeD M G hr hg hm hb hv hx ha hdb he hpl) (rd_make mC co hd)
end
def No (c : Cn) (ha : Option Addr) (H G' H' : Hp) (v : V) (d : D) : Prop := ∃ fp, Own c ha G' H' v d fp ∧ fp.Nodup ∧ ∀ a ∈ fp, H a = none
def rw' (c : Cn) (W : WX) (f : EF D) : TE := fun σ H Q => ∃ ha G0 B G δ h, Sta c ha G0 B G H σ δ h ∧ Post c ha W σ G H (f δ h) fun d _ G' H' => ∀ v, No c ha H G' H' v d → Q v H'
theorem pw_to' (p : PE X e te) (i : ∀ σ H Q, rw' c W f σ H Q → te σ H Q) : PE X e (rw' c W f) := ⟨fun pins s σ H Q I h => p.run pins s σ H Q I (i σ H Q h)⟩
theorem no_from {ha : Option Addr} {G H G1 H1 G2 H2 : Hp} {h1 : D} {v : V} {d : D} (af : Af c ha G H G1 H1 h1) (n : No c ha H1 G2 H2 v d) : No c ha H G2 H2 v d := by
  obtain ⟨fp, o, n, k⟩ := n
  exact ⟨fp, o, n, fun a hx => af_old af (k a hx)⟩
theorem endW_of {ha : Option Addr} {σ : L2.St} {G H : Hp} {r : Ex D} {Q : VK} (p : Post c ha W σ G H r fun d _ G' H' => ∀ v, No c ha H G' H' v d → Q v H') : EndF true c ha G H r Q (WE W σ) := by
  cases r with
  | ok d h' => exact fun v G' H' af ⟨fp, o, n, k⟩ => p G' H' af v ⟨fp, o, n, fun a hx => (k a hx).1⟩
  | exc n fs h' => exact fun C dd G' H' af m x => p C dd G' H' af m x
  | bad => exact p
section
variable {k n : Nat} {g C : Addr} {fd : FuncData} {ps : List Str} {F : Fn} {ds : List Value} {dvs : List V} {dd : List D} {x m : Str} {p apos : Pos}
theorem rw_call (hd : ∀ ha G, DqAll c ha G dvs dd) (σ : L2.St) (H : Hp) (Q : VK) (x : rw' c W (eCall n F dd fs) σ H Q) : tCallD (spD c true n F) dvs (WE W) (rg c W fs) σ H Q := by
  obtain ⟨ha, G0, B, G, δ, h, st, p⟩ := x
  refine ⟨ha, G0, B, G, δ, h, st, post_imp (post_bind p) fun ds h1 G1 H1 af p1 vs dv => ?_⟩
  obtain ⟨hl, p2⟩ := if_post p1
  exact ⟨ha, G1, ds ++ dd, h1, hl, af.gh, af.hd, dm_app (hd ha G1) dv, endW_of (post_imp p2 fun d h2 G2 H2 af2 q v n => q v (no_from af n))⟩
theorem dw_call (G : FnOk X.prog X.w X.K X.mg X.base (L2.CX X.prog X.w) k g fd ps (spD c true n F)) (hr : Room k X.A) (hg : Gl X x) (hm : X.mg x = some (.ref g)) (hk : PySem.W.keepIn X.K (.ref g) = true) (hb : L2.Binds X.K fd ps ds) (hv : Vals dvs ds) (hd : ∀ ha G, DqAll c ha G dvs dd) (hx : ∀ σ, PassesAt (L2.CX X.prog X.w) X σ (WE W σ))
    (ha : PA X (e :: es) (rg c W fs)) (hdb : (x == ("__debug__" : Str)) = false := by decide) (he : starEach (e :: es) X.env = (false, eval e X.env) :: starEach es X.env := by rfl) (hpl : (backTo pos (starEach es X.env)).any (·.1) = false := by rfl) :
    PE X (.Call (.Name x p) (e :: es) [] pos) (rw' c W (eCall n F dd fs)) := pw_to' (pe_callD G hr hg hm hk hb hv hx ha hdb he hpl) (rw_call hd)
end
/-- all let rest -/
def eFw (f : EF D) : EF D := fun δ h => (f δ h).bind fun d h1 => .ok (frz d) h1
theorem dx_fw (p : PE X e (rw' c W f)) : PE X e (rd c W (eFw f)) := pe_to p fun σ H Q x => by
  obtain ⟨ha, G0, B, G, δ, h, st, p⟩ := x
  refine ⟨ha, G0, B, G, δ, h, st, ?_⟩
  unfold eFw at p
  cases e : f δ h with
  | ok d h1 =>
    rw [e] at p
    intro G1 H1 af1 v ⟨fp, o, nd, k⟩
    have s1 : Same G1 (addG G1 H1 fp) := addG_same af1.gh
    refine p (addG G1 H1 fp) H1 ⟨⟨af1.gg.trans s1, addG_gh af1.gh, fun a hn => ?_, af1.mv.dm⟩, af1.bt, hok_keep af1.hd s1 fun a e => ⟨?_, rfl⟩⟩ v (own_frz af1.gh o fun b hb => hb)
    · rw [addG_out fun z => hn (k a z)]
      exact af1.mv.nw a hn
    · rw [addG_out fun z => st.hne a e (k a z)]
      subst e
      exact (hok_at af1.hd).1
  | exc n fs h1 => rw [e] at p; exact p
  | bad => rw [e] at p; exact p
theorem dw_of (p : PE X e (rn c W f)) : PE X e (rw' c W f) := pw_to' p fun σ H Q x => by
  obtain ⟨ha, G0, B, G, δ, h, st, p⟩ := x
  exact ⟨ha, G0, B, G, δ, h, st, post_imp p fun d h1 G1 H1 af q v n => q v (nw_own n)⟩
theorem ds_setW {i : Nat} {x : Str} {pos' : Pos} (hN : X.N.Nodup) (hi : X.N[i]? = some x) (hx : Loc X.env.scope x) (he : PE X e (rw' c W f)) (hs : swapsWith e (some (.Name x pos')) pos.line X.env = pure false := by rfl) (hf : X.fn x = true ∨ X.env.scope.names.lookup x = some .local := by first | exact .inl rfl | exact .inr rfl | assumption) :
    PS X (.Assign [.Name x pos'] e pos) (rs c W nw (sSet i f)) := ps_to (ps_set hN hi hx he hs hf) fun Dn σ H x => by
  obtain ⟨ha, G0, B, G, δ, h, st, p⟩ := x
  exact ⟨ha, G0, B, G, δ, h, st, post_imp (post_fl st p) fun d h1 G1 H1 af q v ⟨f, o, n1, n2⟩ => q _ G1 H1 (st.setO af i o n1 n2) (Same.refl _)⟩
theorem ds_retWW (he : PE X e (rw' c W f)) : PS X (.Return (some e) pos) (rs c W true (sRet f)) := ps_to (ps_ret he) fun Dn σ H x => by
  obtain ⟨ha, G0, B, G, δ, h, st, p⟩ := x
  exact ⟨ha, G0, B, G, δ, h, st, post_imp (post_fl st p) fun d h1 G1 H1 af q v ⟨fp, o, n1, n2⟩ => q v G1 H1 (st.to af).af ⟨fp, o, n1, fun a hx => ⟨st.old (n2 a hx), st.ne_ha (n2 a hx)⟩⟩⟩
end
end Fw
namespace Wy
open PySem PySem.Spec PyProof.Rows L2
/-- a clause: its class, the slot of its name, what its suite does -/
structure Cl where
  c : Value
  i : Option Nat
  ts : Addr → Value → Option Addr → TS
/-- what the clauses ask, one behind the other -/
def wCl (K : PySem.W.Frag) (Wo : WX) (D : Ends) : List Cl → WX
  | [] => Wo
  | ⟨c, some i, ts⟩ :: r => wAs K c i ts (wCl K Wo D r) D
  | ⟨c, none, ts⟩ :: r => wOnly K c ts (wCl K Wo D r) D
inductive ClOk (X : Cx) : List ExceptHandler → List Cl → Prop
  | nil : ClOk X [] []
  | cons {x n : Str} {c : Value} {i : Nat} {ts : Addr → Value → Option Addr → TS} {b : Stmt} {bs : List Stmt} {p1 p2 : Pos} {hs : List ExceptHandler} {r : List Cl} (hn : X.N[i]? = some n) (hk : X.env.kindOf n = some .local) (nm : Names X x c)
      (su : ∀ (e : Addr) (ob : Obj) (k : Value) (dd : Option Addr) (ps : List (Addr × Obj)), Zc k dd ob → (∃ us, ob.data = .fields us) → PSs (X.suite e ((e, ob) :: ps)) (b :: bs) (ts e k dd)) (rest : ClOk X hs r) :
      ClOk X (.ExceptHandler (some (.Name x p1)) (some n) (b :: bs) p2 :: hs) (⟨c, some i, ts⟩ :: r)
  | bare {x : Str} {c : Value} {ts : Addr → Value → Option Addr → TS} {b : Stmt} {bs : List Stmt} {p1 p2 : Pos} {hs : List ExceptHandler} {r : List Cl} (nm : Names X x c)
      (su : ∀ (e : Addr) (ob : Obj) (k : Value) (dd : Option Addr) (ps : List (Addr × Obj)), Zc k dd ob → (∃ us, ob.data = .fields us) → PSs (X.suite e ((e, ob) :: ps)) (b :: bs) (ts e k dd)) (rest : ClOk X hs r) :
      ClOk X (.ExceptHandler (some (.Name x p1)) none (b :: bs) p2 :: hs) (⟨c, none, ts⟩ :: r)
section
variable {X : Cx} {body : List Stmt} {h0 : ExceptHandler} {hr : List ExceptHandler} {l : List Cl} {pos : Pos} {tb : WX → TS} {Wo : WX}
/-- the clauses, asked from left to right, of an exception that has landed -/
theorem asked {ps : List (Addr × Obj)} {B : Heap} {sI s0 s' : Shared} {σ σ0 : L2.St} {H H0 : Hp} {D : Ends} {e : Addr} {k : Value} {dd : Option Addr} {hp : Heap} (I0 : Inv X ps σ0 H0 s0)
    (st : X.stack = X.env :: X.outer) (fr : X.env.frame = some X.env.locals) (nd : X.N.Nodup) (tko : Takes X Wo)
    (J : Inv X ps σ H sI) (nb : ∀ c u, sI.heap.get? c = some u → c ∉ frs X.stack → B.get? c = some u) (up : sI.heap.UpToSlots hp) (fly : HandSPX.FlyingZ B (X.env :: X.outer) e (Zc k dd) hp) (na : H e = none) (os : s'.os = sI.os) (ag : AllBare s'.gens) :
    ∀ {hs : List ExceptHandler} {l : List Cl}, ClOk X hs l → wCl X.K Wo D l k dd σ H → wpAny (model X.prog X.w) X.A (handleBy (.ref e) X.env hs) (SP X ps D) X.xe { s' with heap := hp } := by
  have okI := I0.ok
  obtain ⟨ob, us, gob, zob, dob⟩ := fly.there
  have away : ∀ {h : Heap} {o : Obj} {ws : Array Value}, h.FunFrames B (X.env :: X.outer) → h.get? e = some o → o.data = .fields ws → e ∉ frs (X.env :: X.outer) := by
    intro h o ws ff eo ed hm
    obtain ⟨_, o2, eo2, hne⟩ := ff.mem hm
    rw [eo] at eo2
    cases eo2
    exact hne _ ed
  have out := away fly.2.2.1 gob dob
  have neL : e ≠ X.env.locals := fun z => out (List.mem_filterMap.mpr ⟨X.env, List.mem_cons_self, by rw [fr, z]⟩)
  have neF : e ∉ X.fs := by
    intro hm
    obtain ⟨v, hv, q⟩ := List.mem_filterMap.mp hm
    exact out (List.mem_filterMap.mpr ⟨v, List.mem_cons_of_mem _ hv, q⟩)
  have JL : Inv X ps σ H { s' with heap := hp } := J.landed nb fly.1 up os ag
  have JS := JL.suite gob dob na neL neF
  have Lk : PySem.W.Looks (model X.prog X.w) hp (typeOf (.ref e)) k := by
    intro A Q E s keeps q
    exact wpAny_typeOf_ref (keeps _ _ gob) (by rw [zob.1]; exact q)
  intro hs l hok
  induction hok with
  | nil =>
    intro wish
    refine wpAny_handleBy_nil ?_
    obtain ⟨_, _, _, ob1, us1, T, oT, ts1, g1, _, d1, a1, _⟩ := id fly
    unfold PySem.passOn
    refine wpAny_bind (wpAny_field g1 d1 a1 ?_)
    rw [if_neg (by simp : ¬ ((Value.ref T == Value.none) = true))]
    have leave : wpAny (model X.prog X.w) X.A (setFlight (.ref e) X.env.frame) (fun _ s4 => wpAny (model X.prog X.w) X.A (throw (.ref e) : Sem Flow) (SP X ps D) X.xe s4) X.xe { s' with heap := hp } := by
      rw [fr]
      refine HandSPX.setFlight_upZ fly fun hq held upq => wpAny_throw (tko _ _ ?_)
      exact ⟨e, B, sI, ps, σ, H, k, dd, rfl, J, nb, up.trans upq, .inr (.inr (by rw [st]; exact held)), na, os, ag, wish⟩
    first
      | exact wpAny_bind (wpAny_pure (wpAny_bind leave))
      | exact wpAny_bind leave
  | @cons x n qc qi qts b bs p1 p2 hs2 r hn hk nm su rest ih =>
    rintro ⟨t, et, yes, no⟩
    refine wpAny_handleBy_cons (codeAny_handlers_test ?_) (fun z => by cases z)
    have mt := PySem.W.exm_one (M := model X.prog X.w) JL.kIn Lk et
    have nameIs : ∀ {Q : Value → Shared → Prop} {E : Value → Shared → Prop}, Q qc { s' with heap := hp } → wpAny (model X.prog X.w) (X.A.mark (some (.ref e))) (eval (.Name x p1) X.env) Q E { s' with heap := hp } := by
      intro Q E ask
      obtain ⟨hg, hdb, hm | ⟨hm, hv, hnn⟩⟩ := nm
      · exact ld_glob (X := X.suite e ((e, ob) :: (X.pn ++ ps))) JS hg hm ask hdb
      · exact ld_blt (X := X.suite e ((e, ob) :: (X.pn ++ ps))) JS hg hm hv ask hnn hdb
    refine nameIs (mt.here ?_)
    cases t with
    | false => exact ih (no rfl)
    | true =>
      refine codeAny_handlers_suite_as (HandSPX.lands_againZ fly fun h4 fl4 up4 => ?_)
      have JN : Inv X ps σ H { s' with heap := h4 } := J.landed nb fl4.1 (up.trans up4) os ag
      obtain ⟨ob4, us4, gob4, zob4, dob4⟩ := fl4.there
      have SN := JN.suite gob4 dob4 na neL neF
      refine store_ok (X := X.suite e ((e, ob4) :: (X.pn ++ ps))) (v := .ref e) SN nd hn (Or.inl hk) rfl (fun s5 S5 => ?_) (.inr hk)
      refine wpAny_mono ((su e ob4 k dd (X.pn ++ ps) zob4 ⟨_, dob4⟩).run [] s5 _ H _ S5 (yes rfl e na)) (fun f s6 hf => ?_) (fun _ _ z => z.elim)
      have done : ∀ {σ6 : L2.St} {H6 : Hp} {Q : Shared → Prop}, Inv (X.suite e ((e, ob4) :: (X.pn ++ ps))) [] σ6 H6 s6 → (∀ s7, Inv X ps (σ6.set qi none) H6 s7 → Q s7) →
          wpAny (model X.prog X.w) X.A (do bindName X.env n .none; unbindBehindTheSuite X.env n p2) (fun _ s7 => Q s7) X.xe s6 := by
        intro σ6 H6 Q S6 ask
        exact gone_ok (S6.unsuite okI) nd hn hk ask
      cases f with
      | ret u =>
        obtain ⟨v, σ6, H6, S6, rv, fin⟩ := hf
        exact done S6 fun s7 J7 => ⟨v, _, _, J7, rv, fin⟩
      | next =>
        obtain ⟨σ6, H6, S6, fin⟩ := hf
        exact done S6 fun s7 J7 => ⟨_, _, J7, fin⟩
      | brk =>
        obtain ⟨σ6, H6, S6, fin⟩ := hf
        exact done S6 fun s7 J7 => ⟨_, _, J7, fin⟩
      | cont =>
        obtain ⟨σ6, H6, S6, fin⟩ := hf
        exact done S6 fun s7 J7 => ⟨_, _, J7, fin⟩
  | @bare x qc qts b bs p1 p2 hs2 r nm su rest ih =>
    rintro ⟨t, et, yes, no⟩
    refine wpAny_handleBy_cons (codeAny_handlers_test ?_) (fun z => by cases z)
    have mt := PySem.W.exm_one (M := model X.prog X.w) JL.kIn Lk et
    have nameIs : ∀ {Q : Value → Shared → Prop} {E : Value → Shared → Prop}, Q qc { s' with heap := hp } → wpAny (model X.prog X.w) (X.A.mark (some (.ref e))) (eval (.Name x p1) X.env) Q E { s' with heap := hp } := by
      intro Q E ask
      obtain ⟨hg, hdb, hm | ⟨hm, hv, hnn⟩⟩ := nm
      · exact ld_glob (X := X.suite e ((e, ob) :: (X.pn ++ ps))) JS hg hm ask hdb
      · exact ld_blt (X := X.suite e ((e, ob) :: (X.pn ++ ps))) JS hg hm hv ask hnn hdb
    refine nameIs (mt.here ?_)
    cases t with
    | false => exact ih (no rfl)
    | true =>
      refine codeAny_handlers_suite (HandSPX.lands_againZ fly fun h4 fl4 up4 => ?_)
      have JN : Inv X ps σ H { s' with heap := h4 } := J.landed nb fl4.1 (up.trans up4) os ag
      obtain ⟨ob4, us4, gob4, zob4, dob4⟩ := fl4.there
      have SN := JN.suite gob4 dob4 na neL neF
      refine wpAny_mono ((su e ob4 k dd (X.pn ++ ps) zob4 ⟨_, dob4⟩).run [] _ _ H _ SN (yes rfl e na)) (fun f s6 hf => ?_) (fun _ _ z => z.elim)
      cases f with
      | ret u =>
        obtain ⟨v, σ6, H6, S6, rv, fin⟩ := hf
        exact ⟨v, _, _, S6.unsuite okI, rv, fin⟩
      | next =>
        obtain ⟨σ6, H6, S6, fin⟩ := hf
        exact ⟨_, _, S6.unsuite okI, fin⟩
      | brk =>
        obtain ⟨σ6, H6, S6, fin⟩ := hf
        exact ⟨_, _, S6.unsuite okI, fin⟩
      | cont =>
        obtain ⟨σ6, H6, S6, fin⟩ := hf
        exact ⟨_, _, S6.unsuite okI, fin⟩
/-- try: body / except A as n: .. / except B as m: .. -/
theorem ps_try_named (st : X.stack = X.env :: X.outer) (fr : X.env.frame = some X.env.locals) (nd : X.N.Nodup) (tko : Takes X Wo)
    (bd : ∀ (W : WX) (ps : List (Addr × Obj)) (xs : Value → Shared → Prop), Takes (X.tr ps xs) W → PassesOwn (model X.prog X.w) X.A X.env xs → PSs (X.tr ps xs) body (tb W))
    (cl : ClOk X (h0 :: hr) l) : PS X (.Try body (h0 :: hr) [] [] pos) (fun D σ H => tb (wCl X.K Wo D l) D σ H) := by
  refine ⟨fun ps s σ H D I ask => ?_⟩
  have okI := I.ok
  have frames : X.A.frames = some (X.env :: X.outer) := by rw [okI.frames, st]
  refine wpAny_Try_except ?_
  have catch_ : ∀ u s', XE (X.tr (X.pn ++ ps) (fun z s₁ => wpAny (model X.prog X.w) X.A (noteFrame z X.env) (fun _ s₂ => wpAny (model X.prog X.w) X.A (setFlight z none) (fun _ s₃ => wpAny (model X.prog X.w) X.A (handleBy z X.env (h0 :: hr)) (SP X ps D) X.xe s₃) X.xe s₂) X.xe s₁)) (wCl X.K Wo D l) u s' →
      wpAny (model X.prog X.w) X.A (noteFrame u X.env) (fun _ s₂ => wpAny (model X.prog X.w) X.A (setFlight u none) (fun _ s₃ => wpAny (model X.prog X.w) X.A (handleBy u X.env (h0 :: hr)) (SP X ps D) X.xe s₃) X.xe s₂) X.xe s' := by
    rintro u s' ⟨e, B, sI, ps', σ', H', k, dd, rfl, J', nb, up, sky, na, os, ag, wish⟩
    have J : Inv X ps σ' H' sI := J'.ofTry okI
    have sky1 : Sky B (X.env :: X.outer) e (Zc k dd) X.env.locals s'.heap := by rw [← st]; exact sky
    refine Sky.land Zc.steady frames fr sky1 fun hp fly uq => ?_
    exact asked I st fr nd tko J nb (up.trans uq) fly na os ag cl wish
  refine wpAny_mono ((bd (wCl X.K Wo D l) (X.pn ++ ps) _ catch_ PassesOwn.looking).run [] s σ H D (I.toTry _) ask) (fun f s1 hf => ?_) (fun z s1 hz => hz)
  cases f with
  | ret u =>
    obtain ⟨v, σ', H', J', rv, fin⟩ := hf
    exact ⟨v, σ', H', J'.ofTry okI, rv, fin⟩
  | next =>
    obtain ⟨σ', H', J', fin⟩ := hf
    exact wpAny_execs_nil ⟨σ', H', J'.ofTry okI, fin⟩
  | brk =>
    obtain ⟨σ', H', J', fin⟩ := hf
    exact ⟨σ', H', J'.ofTry okI, fin⟩
  | cont =>
    obtain ⟨σ', H', J', fin⟩ := hf
    exact ⟨σ', H', J'.ofTry okI, fin⟩
end
end Wy
namespace Kx
open PySem PySem.Spec PyProof.Rows L2
/-- what is asked of an error class at C, a child of the class at P -/
structure Er (K : PySem.W.Frag) (P C : Addr) : Prop where
  ox : OexC K C
  mro : ∃ cd, PySem.W.clsIn K C = some cd ∧ cd.mro = .ref C :: .ref P :: PySem.HandSPX.veTail
  ga : PySem.W.findIn K (.ref C) "__getattribute__" = some (some (.builtin "BaseException.__getattribute__"))
  gg : PySem.W.findIn K (.ref C) "__getattr__" = some none
  hd : PySem.W.hasDictIn K C = true
  ca : PySem.W.findIn K (.ref C) "__class__" = some (some (.builtin "object.__class__"))
/-- what is asked of object.__class__ -/
structure Gt (K : PySem.W.Frag) : Prop where
  hn : PySem.W.specialIn K (.builtin "object.__class__") "__get__" = some (some (.builtin "getset_descriptor.__get__"))
  ht : PySem.W.takesIn K (.builtin "object.__class__") = some true
section
variable {K : PySem.W.Frag} {P C D : Addr}
theorem Er.xf (e : Er K P C) : XfC K C := ⟨e.ga, e.gg, e.ox.exC, e.hd⟩
theorem Er.mroIn (e : Er K P C) (b : Value) : PySem.W.mroIn K C b = some ((Value.ref C :: .ref P :: PySem.HandSPX.veTail).contains b) := by
  obtain ⟨cd, h1, h2⟩ := e.mro
  unfold PySem.W.mroIn
  rw [h1, Option.bind_some, h2]
  rfl
theorem Er.kit (e : Er K P C) (g : Gt K) {x : Addr} {ox : Obj} {od : Option Obj} : PySem.W.KitX K (.ref x) (.ref C) (fun h => PySem.W.InstAt h x ox C od) :=
  PySem.W.kitx_exc (by obtain ⟨cd, h1, _⟩ := e.mro; rw [h1]; rfl) e.ga e.gg e.ox.exC e.ca g.hn g.ht (by rw [e.mroIn]; rfl)
/-- isinstance of an instance of C against the class at D -/
theorem Er.one (e : Er K P C) (d : Er K P D) (hP : D ≠ P) : PySem.W.kitOne K (.ref C) (.ref D) = some (decide (C = D)) := by
  unfold PySem.W.kitOne
  by_cases h : C = D
  · subst h
    rw [if_pos (beq_self_eq_true _), decide_eq_true rfl]
  · have hb : (Value.ref C == Value.ref D) = false := beq_eq_false_iff_ne.mpr fun z => h (Value.ref.inj z)
    rw [if_neg (by rw [hb]; exact Bool.false_ne_true), decide_eq_false h]
    unfold PySem.W.kitCls
    obtain ⟨cd, h1, _⟩ := d.mro
    have z : ((PySem.W.clsIn K D).isSome && PySem.W.typeIn K (.ref D) == some (.type "type")) = true := by rw [h1, d.ox.tyC]; rfl
    show (if ((PySem.W.clsIn K D).isSome && PySem.W.typeIn K (.ref D) == some (.type "type")) = true then PySem.W.subIn K (.ref C) (.ref D) else none) = some false
    rw [if_pos z]
    show PySem.W.mroIn K C (.ref D) = some false
    rw [e.mroIn]
    have h2 : (Value.ref D == Value.ref C) = false := beq_eq_false_iff_ne.mpr fun z => h (Value.ref.inj z).symm
    have h3 : (Value.ref D == Value.ref P) = false := beq_eq_false_iff_ne.mpr fun z => hP (Value.ref.inj z)
    rw [List.contains_cons, List.contains_cons, h2, h3]
    rfl
/-- .. against their parent -/
theorem Er.up (e : Er K P C) (hP : (PySem.W.clsIn K P).isSome = true ∧ PySem.W.typeIn K (.ref P) = some (.type "type")) (h : C ≠ P) : PySem.W.kitOne K (.ref C) (.ref P) = some true := by
  unfold PySem.W.kitOne
  have hb : (Value.ref C == Value.ref P) = false := beq_eq_false_iff_ne.mpr fun z => h (Value.ref.inj z)
  rw [if_neg (by rw [hb]; exact Bool.false_ne_true)]
  have z : ((PySem.W.clsIn K P).isSome && PySem.W.typeIn K (.ref P) == some (.type "type")) = true := by rw [hP.1, hP.2]; rfl
  show (if ((PySem.W.clsIn K P).isSome && PySem.W.typeIn K (.ref P) == some (.type "type")) = true then PySem.W.subIn K (.ref C) (.ref P) else none) = some true
  rw [if_pos z]
  show PySem.W.mroIn K C (.ref P) = some true
  rw [e.mroIn, List.contains_cons, List.contains_cons, beq_self_eq_true, Bool.true_or, Bool.or_true]
theorem Er.ve (e : Er K P C) : PySem.W.kitOne K (.ref C) (.type "ValueError") = some true := by
  unfold PySem.W.kitOne
  rw [if_neg (by rw [show (Value.ref C == Value.type "ValueError") = false from rfl]; exact Bool.false_ne_true)]
  show (if PySem.W.kitMeta "ValueError" = true then PySem.W.subIn K (.ref C) (.type "ValueError") else none) = some true
  rw [if_pos (by decide +kernel)]
  show PySem.W.mroIn K C (.type "ValueError") = some true
  rw [e.mroIn]
  rfl
end
/-- at a an exception of the class at C whose fields are fs -/
def ExAt (H : Hp) (a C : Addr) (fs : List (Str × V)) : Prop := (fs = [] ∧ H a = some (exo a C none)) ∨ ∃ d, H a = some (exo a C (some d)) ∧ H d = some (exd d fs)
theorem ExAt.same {H H' : Hp} {a C : Addr} {fs : List (Str × V)} (s : Same H H') (e : ExAt H a C fs) : ExAt H' a C fs := by
  rcases e with ⟨h, e⟩ | ⟨d, e1, e2⟩
  · exact .inl ⟨h, s _ _ e⟩
  · exact .inr ⟨d, s _ _ e1, s _ _ e2⟩
section
variable {X : Cx} {P C : Addr} {pins : List (Addr × Obj)} {σ : L2.St} {H : Hp} {s : Shared}
theorem ExAt.inst {a : Addr} {fs : List (Str × V)} (I : Inv X pins σ H s) (e : ExAt H a C fs) :
    ∃ (ox : Obj) (od : Option Obj), PySem.W.InstAt s.heap a ox C od ∧ ∀ n v, fs.lookup n = some v → ∃ (o : Obj) (u : Value), od = some o ∧ PySem.W.lookIn n o = some (some u) ∧ RelV v u := by
  rcases e with ⟨rfl, e⟩ | ⟨d, e1, e2⟩
  · obtain ⟨t1, ho⟩ := exo_at I.hok e
    exact ⟨_, none, ⟨ho, rfl, rfl, trivial⟩, fun n v h => nomatch h⟩
  · obtain ⟨t1, ho⟩ := exo_at I.hok e1
    obtain ⟨mA, hns, rel⟩ := exd_at I.hok e2
    obtain ⟨od, hod, hl⟩ := lookIn_ns hns
    refine ⟨_, some od, ⟨ho, rfl, rfl, hod⟩, fun n v h => ?_⟩
    obtain ⟨u, hu, ru⟩ := RelO.some_of (v := v) (o := mA n) (by rw [← h]; exact rel n)
    exact ⟨od, u, rfl, by rw [hl, hu], ru⟩
/-- isinstance(e, c), e such an exception -/
def rIsX (K : PySem.W.Frag) (P : Addr) : List V → Hp → VK → Prop := fun xs H Q => ∃ (a C : Addr) (fs : List (Str × V)) (c : V) (cv : Value) (b : Bool), xs = [.ref a, c] ∧ ExAt H a C fs ∧ Er K P C ∧ ClsW c cv ∧ PySem.W.kitOne K (.ref C) cv = some b ∧ Q (.bl b) H
where ClsW : V → Value → Prop
  | .ty n, u => u = .type n
  | .ref C, u => u = .ref C
  | _, _ => False
theorem call_isX (g : Gt X.K) : CallR X (.builtin "isinstance") (rIsX X.K P) := by
  intro pins s σ H xs us Q I r h
  obtain ⟨a, C, fs, c, cv, b, rfl, ea, er, hc, e, q⟩ := h
  obtain ⟨u1, u2, rfl, r1, r2⟩ := vals2 r
  cases (show u1 = Value.ref a from r1)
  have e2 : u2 = cv := by
    cases c with
    | ty n => exact (show u2 = Value.type n from r2).trans (show cv = Value.type n from hc).symm
    | ref D => exact (show u2 = Value.ref D from r2).trans (show cv = Value.ref D from hc).symm
    | _ => exact False.elim hc
  subst e2
  obtain ⟨ox, od, J, _⟩ := ea.inst I
  exact PySem.W.kia_one (er.kit g) I.kIn J e (fun z => nomatch z) fun tk => ⟨.bl b, H, I.tok tk, rfl, q⟩
/-- e.f, e such an exception -/
def tXv (K : PySem.W.Frag) (P : Addr) (f : Str) (te : TE) : TE := fun σ H Q => te σ H fun x H1 => ∃ (a C : Addr) (fs : List (Str × V)) (v : V), x = .ref a ∧ ExAt H1 a C fs ∧ Er K P C ∧ PySem.W.findIn K (.ref C) f = some none ∧ fs.lookup f = some v ∧ Q v H1
theorem pe_xv {e : Expr} {te : TE} {f : Str} {pos : Pos} (he : PE X e te) (hb : attributeBase e f X.env (eval e X.env) = eval e X.env := by rfl) : PE X (.Attribute e f pos) (tXv X.K P f te) := by
  refine ⟨fun pins s σ H Q I h => attr_of hb (thn (he.run pins s σ H _ I h) fun u s1 hh => ?_)⟩
  obtain ⟨x, H1, I1, rx, a, C, fs, v, ex, ea, er, hno, hl, q⟩ := hh
  subst ex
  cases (show u = Value.ref a from rx)
  obtain ⟨ox, od, J, hv⟩ := ea.inst I1
  obtain ⟨o, u, rfl, hu, ru⟩ := hv f v hl
  exact PySem.HandSPX.exc_get I1.kIn J er.ga er.gg er.ox.exC (PySem.W.findObj_own er.hd hno rfl hu) (handed_of ru) ⟨v, H1, I1.tok _, ru, q⟩
/-- C(), no __init__ of its own -/
theorem pe_bare {x : Str} {p pos : Pos} (q : PySem.W.excIn X.K C PySem.HandSPX.veTail "ValueError.__new__" = true) (gC : X.mg x = some (.ref C)) (kC : PySem.W.keepIn X.K (.ref C) = true) (hg : Gl X x) (hdb : (x == ("__debug__" : Str)) = false := by decide) :
    PE X (.Call (.Name x p) [] [] pos) (fun _ H Q => ∀ a, H a = none → Q (.ref a) (upd H a (exo a C none))) := by
  refine ⟨fun pins s σ H Q I h => wpAny_Call_Name_kw (ld_glob I hg gC (PySem.W.callWith_K0 I.kIn kC ?_) hdb)⟩
  show wpAny _ _ (call (.ref C) []) _ _ _
  obtain ⟨bm, N, nm, qn, bs, hdct, sn, sub, ab, col, dd, k0, k1, k2, k3, k5, mN, hC, hN, hni, T⟩ := exc_obj I.kIn q
  refine wpAny_call_exc_subT PySem.F.excBase_ValueError T hC hN hni (fun h' a hm => ?_) (Nat.zero_le _)
  have hn : H a = none := I.hok.gone hm.new
  obtain ⟨t, ht, _, _⟩ := hm.there
  exact ⟨.ref a, _, I.laidN hm.keeps hm.new hn (exo_ok ht), rfl, h a hn⟩
end
end Kx
namespace Ky
open PySem PySem.Spec PyProof.Rows L2 Kx
/-- __init__ of the class at C keeps what it is handed, under names fl gives -/
def spIn (C : Addr) (n : Nat) (fl : List V → List (Str × V)) : Sp := fun vs H Q _ => ∃ (a : Addr) (xs : List V), vs = .ref a :: xs ∧ xs.length = n ∧ H a = some (exo a C none) ∧
  ∀ (d : Addr) (H' : Hp), H d = none → (∀ b o, b ≠ a → H b = some o → H' b = some o) → H' a = some (exo a C (some d)) → H' d = some (exd d (fl xs)) → Q .non H'
def fl1 (f : Str) : List V → List (Str × V)
  | [x] => [(f, x)]
  | _ => []
def fl2 (f g : Str) : List V → List (Str × V)
  | [x, y] => [(g, y), (f, x)]
  | _ => []
section
variable {X : Cx} {K : PySem.W.Frag} {P C : Addr}
/-- the reading of: self.f = (slot 1) -/
theorem rd1 {f : Str} {Q : VK} {E : XK} {vs : List V} {H : Hp} {N : List Str} (hN : N.length = 2) (er : Er K P C) (n1 : PySem.W.findIn K (.ref C) f = some none) (h : spIn C 1 (fl1 f) vs H Q E) :
    tOst K f (tVar 0) (tVar 1) { nx := fun _ H' => Q .non H', rt := Q } (start N vs) H := by
  obtain ⟨a, xs, rfl, hl, ha, k⟩ := h
  match xs, hl, k with
  | [x], _, k =>
    refine ⟨x, rfl, .ref a, rfl, a, C, rfl, er.ox, n1, .inl ⟨ha, fun d hd hne => ?_⟩⟩
    refine k d _ hd (fun b o hb e => ?_) upd_same ?_
    · rw [upd_ne hb, upd_ne (ne_of_none e hd)]
      exact e
    · rw [upd_ne hne, upd_same]
      rfl
/-- .. self.f = (slot 1); self.g = (slot 2) -/
theorem rd2 {f g : Str} {Q : VK} {E : XK} {vs : List V} {H : Hp} {N : List Str} (hN : N.length = 3) (er : Er K P C) (n1 : PySem.W.findIn K (.ref C) f = some none) (n2 : PySem.W.findIn K (.ref C) g = some none) (h : spIn C 2 (fl2 f g) vs H Q E) :
    tSeq (tOst K f (tVar 0) (tVar 1)) (tOst K g (tVar 0) (tVar 2)) { nx := fun _ H' => Q .non H', rt := Q } (start N vs) H := by
  obtain ⟨a, xs, rfl, hl, ha, k⟩ := h
  match xs, hl, k with
  | [x, y], _, k =>
    refine ⟨x, rfl, .ref a, rfl, a, C, rfl, er.ox, n1, .inl ⟨ha, fun d hd hne => ?_⟩⟩
    refine ⟨y, rfl, .ref a, rfl, a, C, rfl, er.ox, n2, .inr ⟨d, [(f, x)], upd_same, by rw [upd_ne hne, upd_same], by show 1 ≤ 900; decide, ?_⟩⟩
    refine k d _ hd (fun b o hb e => ?_) ?_ upd_same
    · rw [upd_ne (ne_of_none e hd), upd_ne hb, upd_ne (ne_of_none e hd)]
      exact e
    · rw [upd_ne hne.symm, upd_same]
/-- C(e, ..) as a value -/
def tMkV (C : Addr) (sp : Sp) (ta : TA) : TE := fun σ H Q => ta σ H fun vs H1 => ∀ a, H1 a = none → sp (.ref a :: vs) (upd H1 a (exo a C none)) (fun v H2 => v = .non ∧ Q (.ref a) H2) (fun _ _ _ => False)
theorem pe_oex {CX : CXT} {x : Str} {fI : Addr} {k : Nat} {fd : FuncData} {ps : List Str} {sp : Sp} {e : Expr} {es : List Expr} {ta : TA} {p pos : Pos} (T : OexC X.K C) (iC : PySem.W.findIn X.K (.ref C) "__init__" = some (some (.ref fI))) (tI : PySem.W.typeIn X.K (.ref fI) = some (.type "function"))
    (F1 : FnOk X.prog X.w X.K X.mg X.base CX k fI fd ps sp) (hr : Room (k + 1) X.A) (hb : L2.Binds X.K fd ps []) (hx : Passes CX X (fun _ _ _ => False)) (hg : Gl X x) (hm : X.mg x = some (.ref C)) (ha : PA X (e :: es) ta) (hps : ps.length ≤ 100)
    (hdb : (x == ("__debug__" : Str)) = false := by decide) (he : starEach (e :: es) X.env = (false, eval e X.env) :: starEach es X.env := by rfl) (hpl : (backTo pos (starEach es X.env)).any (·.1) = false := by rfl) :
    PE X (.Call (.Name x p) (e :: es) [] pos) (tMkV C sp ta) := by
  refine ⟨fun pins s σ H Q I h => wpAny_Call_Name_kw (ld_glob I hg hm (PySem.W.callWith_K (h₀ := X.base) I.ok.mod.kin T.kC (thn (ha.run pos pins s σ H _ I h) fun us s1 ⟨vs, H1, I1, r1, q1⟩ => ⟨I1.kIn, ?_⟩) he hpl) hdb)⟩
  obtain ⟨nm, q, N, bs, bm, sn, sub, ab, col, dd, k0, k1, k2, k3, k5, hC, hbm⟩ := T.cls
  show wpAny _ _ (call (.ref C) us) _ _ _
  obtain ⟨hp, g, dr, tk, os⟩ := s1
  have hn : H1 (hp.objs.size + 1) = none := I1.hok.fresh (Nat.le_succ _)
  have hq := q1 (hp.objs.size + 1) hn
  have I2 : Inv X pins σ (upd H1 (hp.objs.size + 1) (exo (hp.objs.size + 1) C none)) ⟨(hp.push (PySem.W.kdv_tup us)).push (PySem.HandSPX.excO C hp.objs.size), g, dr, tk, os⟩ :=
    I1.laid (t' := tk) (a := hp.objs.size + 1) (fun b o e => Heap.get?_push_of_some _ (Heap.get?_push_of_some _ e)) (Nat.le_succ _) (exo_ok (t1 := hp.objs.size) (by heap_get))
  have r2 : Vals (V.ref (hp.objs.size + 1) :: vs) (Value.ref (hp.objs.size + 1) :: us) := .cons rfl r1
  have hl : (Value.ref (hp.objs.size + 1) :: us).length = ps.length := by
    rw [← r2.length]
    exact F1.len _ _ _ _ hq
  have hus : us.length ≤ sizeLine := by
    rw [List.length_cons] at hl
    rw [sizeLine_eq]
    omega
  have hb2 := hb ⟨(hp.push (PySem.W.kdv_tup us)).push (PySem.HandSPX.excO C hp.objs.size), g, dr, tk, os⟩ (Value.ref (hp.objs.size + 1) :: us) I2.kIn (by rw [List.append_nil]; exact hl)
  rw [List.append_nil] at hb2
  refine wpAny_call (PySem.HandSPX.call_own F.excBase_ValueError (fun Y => PySem.HandSPX.refsVE_contains Y bm hbm) (I1.kIn _ _ hC) (PySem.W.looks_findIn I1.kIn iC) (fun self => PySem.W.bind_fn I1.kIn self tI) hus ?_)
  refine codeAny_mono (F1.run _ X.stack _ _ ⟨Value.ref (hp.objs.size + 1) :: us, []⟩ _ _ _ (fun _ _ _ => False) (hr.make C us []) (I2.env0.make C us []) hb2 r2 hq) fun r s' hq' => ?_
  cases r with
  | error er => exact hx pins σ _ _ er s' I2 hq'
  | ok fl =>
    cases fl with
    | ret u =>
      obtain ⟨v, H', I3, rv, ev, q3⟩ := I2.after hq'
      subst ev
      exact ⟨rv, .ref (hp.objs.size + 1), H', I3, rfl, q3⟩
    | next => exact False.elim hq'
    | brk => exact False.elim hq'
    | cont => exact False.elim hq'
end
end Ky
namespace Re
open PySem PySem.Spec PyProof.Rows L2 Kx Ky
section
variable {X : Cx} {C : Addr}
theorem pmk_bare {x : Str} {p pos : Pos} (q : PySem.W.excIn X.K C PySem.HandSPX.veTail "ValueError.__new__" = true) (gC : X.mg x = some (.ref C)) (kC : PySem.W.keepIn X.K (.ref C) = true) (r : Raises X (.ref C)) (hg : Gl X x) (hdb : (x == ("__debug__" : Str)) = false := by decide) :
    PMk X (.Call (.Name x p) [] [] pos) (fun _ H Q => Q (.ref C) none H) := by
  intro pins s σ H Q I h
  refine wpAny_Call_Name_kw (ld_glob I hg gC (PySem.W.callWith_K0 I.kIn kC ?_) hdb)
  show wpAny _ _ (call (.ref C) []) _ _ _
  obtain ⟨bm, N, nm, qn, bs, hdct, sn, sub, ab, col, dd, k0, k1, k2, k3, k5, mN, hC, hN, hni, T⟩ := exc_obj I.kIn q
  exact wpAny_call_exc_subT PySem.F.excBase_ValueError T hC hN hni (fun h' e hm => mk_of I hm r h (I.hok.gone hm.new)) (Nat.zero_le _)
end
/-- what the held exception is: of the class at C; its dict, where it has one, holds fs -/
def Hd (H : Hp) (cls : Value) (d : Option Addr) (C : Addr) : Prop := cls = .ref C ∧ (d = none ∨ ∃ dd fs, d = some dd ∧ H dd = some (.xd fs))
/-- isinstance(e, c), e the exception that a suite holds -/
def rIsS (K : PySem.W.Frag) (P a : Addr) (cls : Value) (d : Option Addr) : List V → Hp → VK → Prop := fun xs H Q => ∃ (C : Addr) (c : V) (cv : Value) (b : Bool), xs = [.ref a, c] ∧ Hd H cls d C ∧ Er K P C ∧ rIsX.ClsW c cv ∧ PySem.W.kitOne K (.ref C) cv = some b ∧ Q (.bl b) H
theorem call_isS {X : Cx} {P a : Addr} {oe : Obj} {cls : Value} {d : Option Addr} {pn : List (Addr × Obj)} (g : Gt X.K) (hz : Zc cls d oe) (hf : ∃ vs, oe.data = .fields vs) : CallR (X.suite a ((a, oe) :: pn)) (.builtin "isinstance") (rIsS X.K P a cls d) := by
  intro pins s σ H xs us Q I r h
  obtain ⟨C, c, cv, b, rfl, ⟨rfl, hd⟩, er, hc, e, q⟩ := h
  obtain ⟨u1, u2, rfl, r1, r2⟩ := vals2 r
  cases (show u1 = Value.ref a from r1)
  have e2 : u2 = cv := by
    cases c with
    | ty n => exact (show u2 = Value.type n from r2).trans (show cv = Value.type n from hc).symm
    | ref D => exact (show u2 = Value.ref D from r2).trans (show cv = Value.ref D from hc).symm
    | _ => exact False.elim hc
  subst e2
  obtain ⟨ho, _⟩ := I.pin (a, oe) (List.mem_append_left _ (List.mem_cons_self ..))
  obtain ⟨vs, hv⟩ := hf
  have no : PySem.W.notCls oe = true := by unfold PySem.W.notCls; rw [hv] <;> rfl
  have fin : ∀ od, PySem.W.InstAt s.heap a oe C od → wpAny (model X.prog X.w) (X.suite a ((a, oe) :: pn)).A (call (.builtin "isinstance") [.ref a, u2]) (EP (X.suite a ((a, oe) :: pn)) pins σ Q) (X.suite a ((a, oe) :: pn)).xe s := fun od J =>
    PySem.W.kia_one (er.kit g) I.kIn J e (fun z => nomatch z) fun tk => ⟨.bl b, H, I.tok tk, rfl, q⟩
  rcases hd with rfl | ⟨dd, fs, rfl, hd⟩
  · exact fin none ⟨ho, hz.1, no, by rw [hz.2]; trivial⟩
  · obtain ⟨mA, hns, rel⟩ := (show ObjOk X.prog X.w H s.heap dd (.xd fs) from I.hok dd _ hd)
    obtain ⟨od, hod, _⟩ := lookIn_ns hns
    exact fin (some od) ⟨ho, hz.1, no, by rw [hz.2]; exact hod⟩
end Re
namespace Re
open PySem PySem.Spec PyProof.Rows L2 Kx Ky
theorem same_in {H H' : Hp} {a : Addr} {o : HO} (h : H a = none) (k : ∀ b u, b ≠ a → (upd H a o) b = some u → H' b = some u) : Same H H' := fun b u e =>
  k b u (ne_of_none e h) (by rw [upd_ne (ne_of_none e h)]; exact e)
theorem same_gone {H H' : Hp} {a d : Addr} {o o2 : HO} (ha : H a = none) (hd : H d = none) (k : ∀ b u, b ≠ a → (upd H a o) b = some u → H' b = some u) : Same H (upd (del H' a) d o2) := fun b u e => by
  rw [upd_ne (ne_of_none e hd), del_ne (ne_of_none e ha)]
  exact same_in ha k b u e
/-- what is asked where an error with one field is raised -/
theorem rd_mk1 {C : Addr} {f : Str} {v : V} {H : Hp} {Q : XK} (k : ∀ d H', Same H H' → H' d = some (.xd [(f, v)]) → Q (.ref C) (some d) H') :
    [v].length ≤ 1000 ∧ ∀ a, H a = none → spIn C 1 (fl1 f) (.ref a :: ([v] ++ [])) (upd H a (exo a C none))
      (fun v' H2 => v' = .non ∧ ∃ (d : Addr) (fs : List (Str × V)), H2 a = some (exo a C (some d)) ∧ H2 d = some (exd d fs) ∧ H d = none ∧ Q (.ref C) (some d) (upd (del H2 a) d (.xd fs))) (fun _ _ _ => False) := by
  refine ⟨by show 1 ≤ 1000; decide, fun a ha => ⟨a, [v], rfl, rfl, upd_same, fun q H1 hq kq e1 e2 => ⟨rfl, q, _, e1, e2, ?_, ?_⟩⟩⟩
  · have hqa : q ≠ a := fun z => by
      rw [z, upd_same] at hq
      cases hq
    rw [upd_ne hqa] at hq
    exact hq
  · have hqa : q ≠ a := fun z => by
      rw [z, upd_same] at hq
      cases hq
    rw [upd_ne hqa] at hq
    exact k q _ (same_gone ha hq kq) upd_same
end Re
namespace Fw
open PySem PySem.Spec PyProof.Rows L2 Dz Vz
abbrev Cn.at (c : Cn) (x : Option (Addr × Value × Option Addr)) : Cn := ⟨c.K, c.mg, x⟩
section
variable {c c' : Cn} {ha : Option Addr} {G G' H H' G0 B : Hp}
theorem dq_c (hK : c'.K = c.K) (hm : c'.mg = c.mg) {v : V} {d : D} (h : Dq c ha G v d) : Dq c' ha G v d := by
  refine Dq.rec (motive_1 := fun v d _ => Dq c' ha G v d) (motive_2 := fun xs ds _ => DqAll c' ha G xs ds) (motive_3 := fun C xs fs _ => DqF c' ha G C xs fs) ?_ ?_ ?_ ?_ ?_ ?_ ?_ ?_ ?_ ?_ ?_ h
  · exact .non
  · exact fun b => .bl b
  · exact fun i => .int i
  · exact fun x => .str x
  · exact fun h1 _ h2 => .tup (by rw [hK]; exact h1) h2
  · exact fun h1 _ h2 => .lst h1 h2
  · exact fun h1 h2 h3 _ h4 => .ins (by rw [hm]; exact h1) h2 (by rw [hK]; exact h3) h4
  · exact .nil
  · exact fun _ _ h1 h2 => .cons h1 h2
  · exact .nil
  · exact fun h0 _ _ h1 h2 => .cons (by rw [hK]; exact h0) h1 h2
theorem dqAll_c (hK : c'.K = c.K) (hm : c'.mg = c.mg) : ∀ {xs : List V} {ds : List D}, DqAll c ha G xs ds → DqAll c' ha G xs ds
  | _, _, .nil => .nil
  | _, _, .cons h t => .cons (dq_c hK hm h) (dqAll_c hK hm t)
theorem dqF_c (hK : c'.K = c.K) (hm : c'.mg = c.mg) {C : Addr} : ∀ {xs : List (Str × V)} {fs : List (Str × D)}, DqF c ha G C xs fs → DqF c' ha G C xs fs
  | _, _, .nil => .nil
  | _, _, .cons h0 h t => .cons (by rw [hK]; exact h0) (dq_c hK hm h) (dqF_c hK hm t)
theorem own_c (hK : c'.K = c.K) (hm : c'.mg = c.mg) {v : V} {d : D} {fp : List Addr} (h : Own c ha G H v d fp) : Own c' ha G H v d fp := by
  refine Own.rec (motive_1 := fun v d fp _ => Own c' ha G H v d fp) (motive_2 := fun xs ds fp _ => OwnAll c' ha G H xs ds fp) ?_ ?_ ?_ ?_ h
  · exact fun h => .frz (dq_c hK hm h)
  · exact fun h1 h2 _ ih => .hl h1 h2 ih
  · exact .nil
  · exact fun _ _ i1 i2 => .cons i1 i2
/-- into a suite: no slot holds an error yet -/
theorem ownS_in (hK : c'.K = c.K) (hm : c'.mg = c.mg) (hx : c.xa = none) : ∀ {σ : L2.St} {δ : DE} {fp : List Addr}, OwnS c ha G H σ δ fp → OwnS c' ha G H σ δ fp
  | _, _, _, .nil => .nil
  | _, _, _, .non o t => .non o (ownS_in hK hm hx t)
  | _, _, _, .me e t => .me e (ownS_in hK hm hx t)
  | _, _, _, .ex e _ _ _ => by rw [hx] at e; cases e
  | _, _, _, .some h t => .some (own_c hK hm h) (ownS_in hK hm hx t)
def dropX : Option D → Option D
  | some (.ex _ _) => none
  | o => o
theorem dropX_own {v : V} {d : D} {fp : List Addr} (h : Own c ha G H v d fp) : dropX (some d) = some d := by
  cases h with
  | frz h => cases h <;> rfl
  | hl _ _ _ => rfl
/-- out of a suite: the held error is forgotten -/
theorem ownS_out (hK : c'.K = c.K) (hm : c'.mg = c.mg) : ∀ {σ : L2.St} {δ : DE} {fp : List Addr}, OwnS c ha G H σ δ fp → ∃ fp', OwnS c' ha G H σ (δ.map dropX) fp' ∧ fp'.Sublist fp
  | _, _, _, .nil => ⟨[], .nil, List.Sublist.refl _⟩
  | _, _, _, .non o t => by
    obtain ⟨fp', h1, h2⟩ := ownS_out hK hm t
    exact ⟨fp', .non o h1, h2⟩
  | _, _, _, .me e t => by
    obtain ⟨fp', h1, h2⟩ := ownS_out hK hm t
    exact ⟨fp', .me e h1, h2⟩
  | _, _, _, .ex _ _ _ t => by
    obtain ⟨fp', h1, h2⟩ := ownS_out hK hm t
    exact ⟨fp', .non _ h1, h2.trans (List.sublist_append_right ..)⟩
  | _, _, _, .some h t => by
    obtain ⟨fp', h1, h2⟩ := ownS_out hK hm t
    refine ⟨_, ?_, List.Sublist.append (List.Sublist.refl _) h2⟩
    rw [List.map_cons, dropX_own h]
    exact .some (own_c hK hm h) h1
theorem hok_c (hK : c'.K = c.K) (hm : c'.mg = c.mg) {h : D} (x : Hok c ha G H h) : Hok c' ha G H h := by
  cases x with
  | non e => exact .non e
  | hand e g h d => exact .hand e g h (dqAll_c hK hm d)
  | self e g m cl h d => exact .self e g (by rw [hm]; exact m) (by rw [hK]; exact cl) h (dqF_c hK hm d)
/-- an empty slot takes the held error -/
theorem ownS_fill {a C : Addr} {dd : Option Addr} {n : Str} {fs : List (Str × D)} {fx : List Addr} (e1 : c.xa = some (a, .ref C, dd)) (e2 : c.mg n = some (.ref C)) (x : ExH c ha G H dd C fs fx) : ∀ {i : Nat} {σ : L2.St} {δ : DE} {fp : List Addr}, OwnS c ha G H σ δ fp → δ[i]? = some none →
    ∃ f1 f2, fp = f1 ++ f2 ∧ OwnS c ha G H (σ.set i (some (.ref a))) (δ.set i (some (.ex n fs))) (f1 ++ (fx ++ f2))
  | i, _, _, _, .nil, e => by simp at e
  | 0, _, _, _, .non o t, e => ⟨[], _, rfl, by rw [List.nil_append]; exact OwnS.ex e1 e2 x t⟩
  | 0, _, _, _, .me _ t, e => by simp at e
  | 0, _, _, _, .ex _ _ _ t, e => by simp at e
  | 0, _, _, _, .some _ t, e => by simp at e
  | i + 1, _, _, _, .non o t, e => by
    obtain ⟨f1, f2, h1, h2⟩ := ownS_fill e1 e2 x (i := i) t e
    exact ⟨f1, f2, h1, .non o h2⟩
  | i + 1, _, _, _, .me o t, e => by
    obtain ⟨f1, f2, h1, h2⟩ := ownS_fill e1 e2 x (i := i) t e
    exact ⟨f1, f2, h1, .me o h2⟩
  | i + 1, _, _, _, .ex (fx := g) o m y t, e => by
    obtain ⟨f1, f2, rfl, h2⟩ := ownS_fill e1 e2 x (i := i) t e
    refine ⟨g ++ f1, f2, by rw [List.append_assoc], ?_⟩
    rw [List.append_assoc]
    exact .ex o m y h2
  | i + 1, _, _, _, .some (f := g) h t, e => by
    obtain ⟨f1, f2, rfl, h2⟩ := ownS_fill e1 e2 x (i := i) t e
    refine ⟨g ++ f1, f2, by rw [List.append_assoc], ?_⟩
    rw [List.append_assoc]
    exact .some h h2
end
section
variable {X : Cx} {W : WX} {c : Cn} {nw : Bool} {e a b o : Expr} {es : List Expr} {pos : Pos} {te : TE} {f fa fb fo : EF D} {fs : EF (List D)} {u : SF} {ss : List Stmt}
/-- the fields as they lie behind an __init__ that keeps what it is handed -/
def flD1 (f : Str) : List D → Option (List (Str × D))
  | [x] => some [(f, x)]
  | _ => none
def flD2 (f g : Str) : List D → Option (List (Str × D))
  | [x, y] => some [(g, y), (f, x)]
  | _ => none
def sRaise (n : Str) (fl : List D → Option (List (Str × D))) (fs : EF (List D)) : SF := fun δ h => (fs δ h).fl δ fun ds h1 => match fl ds with
  | some fx => .exc n fx δ h1
  | none => .bad
def sRaise0 (n : Str) : SF := fun δ h => .exc n [] δ h
/-- what is asked of an error class that keeps its fields -/
structure Er1 (P : Program) (w : World) (c : Cn) (base : Heap) (gP : Addr) (x f : Str) (C fI : Addr) (fd : FuncData) : Prop where
  er : Kx.Er c.K gP C
  m : c.mg x = some (.ref C)
  na : NoAttr c.K C f
  iC : PySem.W.findIn c.K (.ref C) "__init__" = some (some (.ref fI))
  tI : PySem.W.typeIn c.K (.ref fI) = some (.type "function")
  G : FnOk P w c.K c.mg base CX0 1 fI fd ["self", f] (Ky.spIn C 1 (Ky.fl1 f))
  b : L2.Binds c.K fd ["self", f] []
structure Er2 (P : Program) (w : World) (c : Cn) (base : Heap) (gP : Addr) (x f g : Str) (C fI : Addr) (fd : FuncData) : Prop where
  er : Kx.Er c.K gP C
  m : c.mg x = some (.ref C)
  na : NoAttr c.K C f
  na2 : NoAttr c.K C g
  iC : PySem.W.findIn c.K (.ref C) "__init__" = some (some (.ref fI))
  tI : PySem.W.typeIn c.K (.ref fI) = some (.type "function")
  G : FnOk P w c.K c.mg base CX0 1 fI fd ["self", f, g] (Ky.spIn C 2 (Ky.fl2 f g))
  b : L2.Binds c.K fd ["self", f, g] []
theorem rd_mkN {C : Addr} {n : Nat} {fl : List V → List (Str × V)} {vs : List V} {H : Hp} {Q : XK} (hl : vs.length = n) (hn : n ≤ 1000) (k : ∀ d H', H d = none → Same H H' → H' d = some (.xd (fl vs)) → Q (.ref C) (some d) H') :
    vs.length ≤ 1000 ∧ ∀ a, H a = none → Ky.spIn C n fl (.ref a :: (vs ++ [])) (upd H a (exo a C none))
      (fun v' H2 => v' = .non ∧ ∃ (d : Addr) (fs : List (Str × V)), H2 a = some (exo a C (some d)) ∧ H2 d = some (exd d fs) ∧ H d = none ∧ Q (.ref C) (some d) (upd (del H2 a) d (.xd fs))) (fun _ _ _ => False) := by
  refine ⟨by omega, fun a ha => ⟨a, vs, by rw [List.append_nil], hl, upd_same, fun q H1 hq kq e1 e2 => ?_⟩⟩
  have hqa : q ≠ a := fun z => by
    rw [z, upd_same] at hq
    cases hq
  rw [upd_ne hqa] at hq
  exact ⟨rfl, q, _, e1, e2, hq, k q _ hq (Re.same_gone ha hq kq) upd_same⟩
theorem posts_exc {ha : Option Addr} {G0 B G1 H1 : Hp} {σ : L2.St} {δ : DE} {h1 : D} {n : Str} {fx : List (Str × D)} {Dn : Ends} {C : Addr} {xs : List (Str × V)} (st : Sta c ha G0 B G1 H1 σ δ h1) (m : c.mg n = some (.ref C)) (p : PostS c ha W nw G0 B G1 (.exc n fx δ h1) Dn) (df : DqF c ha G1 C xs fx) :
    ∀ d H', H1 d = none → Same H1 H' → H' d = some (.xd xs) → W (.ref C) (some d) σ H' := fun d H' hd s hx =>
  p σ C (some d) G1 H1 h1 G1 H' st (Same.refl _) (.of st.gh st.hd (Mv.of st.gh s) s) m (.inr ⟨d, xs, rfl, hx, old_none st.gh hd, hd, df⟩)
theorem rs_raise1 {x f : Str} {C : Addr} (m : c.mg x = some (.ref C)) (na : NoAttr c.K C f) (Dn : Ends) (σ : L2.St) (H : Hp) (z : rs c W nw (sRaise x (flD1 f) fs) Dn σ H) : tMkO C (Ky.spIn C 1 (Ky.fl1 f)) [] (ra c W fs) σ H fun cls d H' => W cls d σ H' := by
  obtain ⟨ha, G0, B, G, δ, h, st, p⟩ := z
  refine ⟨ha, G0, B, G, δ, h, st, post_imp (post_fl st p) fun ds h1 G1 H1 af q vs dv => ?_⟩
  split at q
  · rename_i fx e
    unfold flD1 at e
    split at e
    · cases e
      obtain ⟨v, rfl, dv1⟩ := one_of dv
      exact rd_mkN (n := 1) (C := C) (Q := fun cls d H' => W cls d σ H') (fl := Ky.fl1 f) (vs := [v]) rfl (by decide) (posts_exc (st.to af) m q (.cons na dv1 .nil))
    · cases e
  · exact q.elim
theorem rs_raise2 {x f g : Str} {C : Addr} (m : c.mg x = some (.ref C)) (na : NoAttr c.K C f) (na2 : NoAttr c.K C g) (Dn : Ends) (σ : L2.St) (H : Hp) (z : rs c W nw (sRaise x (flD2 f g) fs) Dn σ H) : tMkO C (Ky.spIn C 2 (Ky.fl2 f g)) [] (ra c W fs) σ H fun cls d H' => W cls d σ H' := by
  obtain ⟨ha, G0, B, G, δ, h, st, p⟩ := z
  refine ⟨ha, G0, B, G, δ, h, st, post_imp (post_fl st p) fun ds h1 G1 H1 af q vs dv => ?_⟩
  split at q
  · rename_i fx e
    unfold flD2 at e
    split at e
    · cases e
      obtain ⟨v, w, rfl, dv1, dw⟩ := two_of dv
      exact rd_mkN (n := 2) (C := C) (Q := fun cls d H' => W cls d σ H') (fl := Ky.fl2 f g) (vs := [v, w]) rfl (by decide) (posts_exc (st.to af) m q (.cons na2 dw (.cons na dv1 .nil)))
    · cases e
  · exact q.elim
section
variable {x n g : Str} {C fI gP : Addr} {fd : FuncData} {p : Pos}
theorem ds_raise1 (E : Er1 X.prog X.w c X.base gP x n C fI fd) (hc : X.calm = true) (tk : Takes X W) (hr : Room 2 X.A) (hg : Gl X x) (ha : PA X (e :: es) (ra c W fs)) (hK : X.K = c.K := by rfl) (hM : X.mg = c.mg := by rfl)
    (hdb : (x == ("__debug__" : Str)) = false := by decide) (he : starEach (e :: es) X.env = (false, eval e X.env) :: starEach es X.env := by rfl) {pos2 : Pos} (hpl : (backTo pos (starEach es X.env)).any (·.1) = false := by rfl) : PS X (.Raise (some (.Call (.Name x p) (e :: es) [] pos)) none pos2) (rs c W nw (sRaise x (flD1 n) fs)) := by
  obtain ⟨er, m, na, iC, tI, G, b⟩ := E
  rw [← hK] at er iC tI b
  have G' : FnOk X.prog X.w X.K X.mg X.base CX0 1 fI fd ["self", n] (Ky.spIn C 1 (Ky.fl1 n)) := by rw [hK, hM]; exact G
  exact ps_to (ps_raise hc tk (pmk_oex er.ox iC tI G' hr b .nil pass0 hg (by rw [hM]; exact m) ha hdb he hpl)) fun Dn σ H z => rs_raise1 m na Dn σ H z
theorem ds_raise2 (E : Er2 X.prog X.w c X.base gP x n g C fI fd) (hc : X.calm = true) (tk : Takes X W) (hr : Room 2 X.A) (hg : Gl X x) (ha : PA X (e :: es) (ra c W fs)) (hK : X.K = c.K := by rfl) (hM : X.mg = c.mg := by rfl)
    (hdb : (x == ("__debug__" : Str)) = false := by decide) (he : starEach (e :: es) X.env = (false, eval e X.env) :: starEach es X.env := by rfl) {pos2 : Pos} (hpl : (backTo pos (starEach es X.env)).any (·.1) = false := by rfl) : PS X (.Raise (some (.Call (.Name x p) (e :: es) [] pos)) none pos2) (rs c W nw (sRaise x (flD2 n g) fs)) := by
  obtain ⟨er, m, na, na2, iC, tI, G, b⟩ := E
  rw [← hK] at er iC tI b
  have G' : FnOk X.prog X.w X.K X.mg X.base CX0 1 fI fd ["self", n, g] (Ky.spIn C 2 (Ky.fl2 n g)) := by rw [hK, hM]; exact G
  exact ps_to (ps_raise hc tk (pmk_oex er.ox iC tI G' hr b .nil pass0 hg (by rw [hM]; exact m) ha hdb he hpl)) fun Dn σ H z => rs_raise2 m na na2 Dn σ H z
/-- an error class without fields -/
structure Er0 (c : Cn) (gP : Addr) (x : Str) (C : Addr) : Prop where
  er : Kx.Er c.K gP C
  m : c.mg x = some (.ref C)
  q : PySem.W.excIn c.K C PySem.HandSPX.veTail "ValueError.__new__" = true
  kC : PySem.W.keepIn c.K (.ref C) = true
theorem ds_raise0 (E : Er0 c gP x C) (hc : X.calm = true) (tk : Takes X W) (hg : Gl X x) (hK : X.K = c.K := by rfl) (hM : X.mg = c.mg := by rfl)
    (hdb : (x == ("__debug__" : Str)) = false := by decide) {pos2 : Pos} : PS X (.Raise (some (.Call (.Name x p) [] [] pos)) none pos2) (rs c W nw (sRaise0 x)) := by
  obtain ⟨er, m, q, kC⟩ := E
  rw [← hK] at er q kC
  refine ps_to (ps_raise hc tk (Re.pmk_bare q (by rw [hM]; exact m) kC (raises_own er.ox.exC er.ox.tyC) hg hdb)) fun Dn σ H z => ?_
  obtain ⟨ha, G0, B, G, δ, h, st, p⟩ := z
  exact p σ C none G H h G H st (Same.refl _) st.here m (.inl ⟨rfl, rfl⟩)
end
structure Cz where
  ms : Str → Option Bool
  i : Option Nat
  u : SF
def dropFl (i : Option Nat) (r : Fl) : Fl := match i, r with
  | some i, .nx δ h => .nx ((δ.map dropX).set i none) h
  | some i, .brk δ h => .brk ((δ.map dropX).set i none) h
  | some i, .ct δ h => .ct ((δ.map dropX).set i none) h
  | _, .exc _ _ _ _ => .bad
  | _, r => r
def exIn (i : Option Nat) (n : Str) (fs : List (Str × D)) (δ : DE) : DE := match i with
  | some i => δ.set i (some (.ex n fs))
  | none => δ
def Cz.here (z : Cz) (δ : DE) : Bool := match z.i with
  | some i => decide (i < δ.length)
  | none => true
def hdGo : List Cz → Str → List (Str × D) → SF
  | [], n, fs, δ, h => .exc n fs δ h
  | z :: r, n, fs, δ, h => match z.ms n with
    | some true => if z.here δ then dropFl z.i (z.u (exIn z.i n fs δ) h) else .bad
    | some false => hdGo r n fs δ h
    | none => .bad
def sTry (u : SF) (cs : List Cz) : SF := fun δ h => match u δ h with
  | .exc n fs δ' h' => hdGo cs n fs δ' h'
  | r => r
/-- the clauses, each with its suite's reading -/
inductive CzOk (X : Cx) (c : Cn) (nw : Bool) : List ExceptHandler → List Cz → List Wy.Cl → Prop
  | nil : CzOk X c nw [] [] []
  | cons {x n : Str} {Cc : Addr} {i : Nat} {ms : Str → Option Bool} {u : SF} {b : Stmt} {bs : List Stmt} {p1 p2 : Pos} {hs : List ExceptHandler} {r : List Cz} {l : List Wy.Cl} (hn : X.N[i]? = some n) (hk : X.env.kindOf n = some .local) (nm : Names X x (.ref Cc))
      (hm : ∀ n b C, ms n = some b → c.mg n = some (.ref C) → PySem.W.exmOne c.K (.ref C) (.ref Cc) = some b)
      (su : ∀ (e : Addr) (ob : Obj) (k : Value) (dd : Option Addr) (ps : List (Addr × Obj)), Zc k dd ob → (∃ us, ob.data = .fields us) → PSs (X.suite e ((e, ob) :: ps)) (b :: bs) (rs (c.at (some (e, k, dd))) WF nw u)) (rest : CzOk X c nw hs r l) :
      CzOk X c nw (.ExceptHandler (some (.Name x p1)) (some n) (b :: bs) p2 :: hs) (⟨ms, some i, u⟩ :: r) (⟨.ref Cc, some i, fun e k dd => rs (c.at (some (e, k, dd))) WF nw u⟩ :: l)
  | bare {x : Str} {Cc : Addr} {ms : Str → Option Bool} {u : SF} {b : Stmt} {bs : List Stmt} {p1 p2 : Pos} {hs : List ExceptHandler} {r : List Cz} {l : List Wy.Cl} (nm : Names X x (.ref Cc))
      (hm : ∀ n b C, ms n = some b → c.mg n = some (.ref C) → PySem.W.exmOne c.K (.ref C) (.ref Cc) = some b)
      (su : ∀ (e : Addr) (ob : Obj) (k : Value) (dd : Option Addr) (ps : List (Addr × Obj)), Zc k dd ob → (∃ us, ob.data = .fields us) → PSs (X.suite e ((e, ob) :: ps)) (b :: bs) (rs c WF nw u)) (rest : CzOk X c nw hs r l) :
      CzOk X c nw (.ExceptHandler (some (.Name x p1)) none (b :: bs) p2 :: hs) (⟨ms, none, u⟩ :: r) (⟨.ref Cc, none, fun e k dd => rs c WF nw u⟩ :: l)
theorem CzOk.cl {X : Cx} {c : Cn} {nw : Bool} {hs : List ExceptHandler} {cs : List Cz} {l : List Wy.Cl} (k : CzOk X c nw hs cs l) : Wy.ClOk X hs l := by
  induction k with
  | nil => exact .nil
  | cons hn hk nm hm su _ ih => exact .cons hn hk nm su ih
  | bare nm hm su _ ih => exact .bare nm su ih
theorem Sta.out {ha : Option Addr} {G0 B G H : Hp} {σ : L2.St} {δ : DE} {h : D} {x : Option (Addr × Value × Option Addr)} (st : Sta (c.at x) ha G0 B G H σ δ h) (i : Nat) : Sta c ha G0 B G H (σ.set i none) ((δ.map dropX).set i none) h := by
  obtain ⟨fp, os, n, k⟩ := st.sl
  obtain ⟨fp', o', sb⟩ := ownS_out (c := c.at x) (c' := c) rfl rfl os
  have st2 : Sta c ha G0 B G H σ (δ.map dropX) h := ⟨⟨fp', o', n.sublist sb, fun a hx => k a (sb.subset hx)⟩, st.mv, st.bt, hok_c (c := c.at x) (c' := c) rfl rfl st.hd, st.hb⟩
  exact st2.wipe1 i none
theorem res_c {ha : Option Addr} {B G' H' : Hp} {v : V} {d : D} {x : Option (Addr × Value × Option Addr)} (r : Res nw (c.at x) ha B G' H' v d) : Res nw c ha B G' H' v d := by
  cases nw with
  | false => exact dq_c (c := c.at x) (c' := c) rfl rfl (show Dq (c.at x) ha G' v d from r)
  | true =>
    obtain ⟨fp, o, n, k⟩ := r
    exact ⟨fp, own_c (c := c.at x) (c' := c) rfl rfl o, n, k⟩
theorem af_c {ha : Option Addr} {G H G' H' : Hp} {h' : D} {x : Option (Addr × Value × Option Addr)} (a : Af (c.at x) ha G H G' H' h') : Af c ha G H G' H' h' := ⟨a.mv, a.bt, hok_c (c := c.at x) (c' := c) rfl rfl a.hd⟩
/-- the held error comes into its slot -/
theorem Sta.exin {ha : Option Addr} {G0 B G1 H1 G' H' : Hp} {σ : L2.St} {δ : DE} {h1 h' : D} {C a : Addr} {dd : Option Addr} {n : Str} {fs : List (Str × D)} {i : Nat} (hx : c.xa = none) (st : Sta c ha G0 B G1 H1 σ δ h1) (af : Af c ha G1 H1 G' H' h') (m : c.mg n = some (.ref C)) (xr : XR c ha G' H1 H' C dd fs) (hi : i < δ.length) :
    Sta (c.at (some (a, .ref C, dd))) ha G0 B G' H' (σ.set i (some (.ref a))) (δ.set i (some (.ex n fs))) h' := by
  obtain ⟨fp, os, nn, k⟩ := st.sl
  have st2 := st.to af
  have os1 : OwnS c ha G' H' σ δ fp := Sta.keep (B := B) af os k
  obtain ⟨fp1, os2, sb⟩ := ownS_wipe (i := i) none os1
  have os3 := ownS_in (c := c) (c' := c.at (some (a, .ref C, dd))) rfl rfl hx os2
  have hs : (δ.set i none)[i]? = some none := by rw [List.getElem?_set_self hi]
  have key : ∀ fx, ExH (c.at (some (a, .ref C, dd))) ha G' H' dd C fs fx → (∀ d ∈ fx, H1 d = none) → fx.Nodup → Sta (c.at (some (a, .ref C, dd))) ha G0 B G' H' (σ.set i (some (.ref a))) (δ.set i (some (.ex n fs))) h' := by
    intro fx x kx nx
    obtain ⟨f1, f2, rfl, o4⟩ := ownS_fill (c := c.at (some (a, .ref C, dd))) (a := a) rfl m x os3 hs
    rw [List.set_set, List.set_set] at o4
    refine ⟨⟨_, o4, nodup_ins (nn.sublist sb) nx fun d hd hm => ?_, fun b hb => ?_⟩, st2.mv, st2.bt, hok_c (c := c) (c' := c.at (some (a, .ref C, dd))) rfl rfl st2.hd, st2.hb⟩
    · exact (ownS_at os d (sb.subset hm)).2 (kx d hd)
    · have hb2 : b ∈ fx ∨ b ∈ f1 ++ f2 := by
        rcases List.mem_append.mp hb with z | z
        · exact .inr (List.mem_append_left _ z)
        · exact (List.mem_append.mp z).imp id fun q => List.mem_append_right _ q
      rcases hb2 with z | z
      · exact ⟨st.old (kx b z), st.ne_ha (kx b z)⟩
      · exact k b (sb.subset z)
  rcases xr with ⟨rfl, rfl⟩ | ⟨d, xs, rfl, h2, h3, h4, h5⟩
  · exact key [] .none (fun d z => nomatch z) (by simp)
  · exact key [d] (.some h2 h3 (dqF_c (c := c) (c' := c.at (some (a, .ref C, some d))) rfl rfl h5)) (fun b z => by rw [List.mem_singleton.mp z]; exact h4) (by simp)
theorem try_ask {ha : Option Addr} {G0 B G : Hp} {Dn : Ends} {n : Str} {fs : List (Str × D)} {δ : DE} {h : D} (hx : c.xa = none) (hK : X.K = c.K) : ∀ {hs : List ExceptHandler} {cs : List Cz} {l : List Wy.Cl}, CzOk X c nw hs cs l → PostS c ha W nw G0 B G (hdGo cs n fs δ h) Dn →
    ∀ σ C dd G1 H1 h1 G' H', Sta c ha G0 B G1 H1 σ δ h1 → Same G G1 → Af c ha G1 H1 G' H' h → c.mg n = some (.ref C) → XR c ha G' H1 H' C dd fs → Wy.wCl X.K W Dn l (.ref C) dd σ H' := by
  intro hs cs l k
  induction k with
  | nil => exact fun p => p
  | @cons x nm0 Cc i ms u b bs p1 p2 hs r l hn hk nm hm su rest ih =>
    intro p σ C dd G1 H1 h1 G' H' st sg af m xr
    unfold hdGo at p
    cases e : ms n with
    | none => simp only [e] at p; exact p.elim
    | some t =>
      simp only [e] at p
      refine ⟨t, by rw [hK]; exact hm n t C e m, fun et a hna => ?_, fun et => ?_⟩
      · subst et
        have p0 : PostS c ha W nw G0 B G (if decide (i < δ.length) = true then dropFl (some i) (u (δ.set i (some (.ex n fs))) h) else .bad) Dn := p
        by_cases hi0 : decide (i < δ.length) = true
        case neg => rw [if_neg hi0] at p0; exact p0.elim
        rw [if_pos hi0] at p0
        have hi : i < δ.length := of_decide_eq_true hi0
        refine ⟨ha, G0, B, G', δ.set i (some (.ex n fs)), h, st.exin hx af m xr hi, ?_⟩
        have p2 := p0
        generalize u (δ.set i (some (.ex n fs))) h = r at p2
        have gg : Same G G' := sg.trans af.gg
        cases r with
        | nx δ' h' => exact fun σ' G2 H2 st2 s2 => p2 _ G2 H2 (st2.out i) (gg.trans s2)
        | brk δ' h' => exact fun σ' G2 H2 st2 s2 => p2 _ G2 H2 (st2.out i) (gg.trans s2)
        | ct δ' h' => exact fun σ' G2 H2 st2 s2 => p2 _ G2 H2 (st2.out i) (gg.trans s2)
        | ret d h' => exact fun v G2 H2 a2 r2 => p2 v G2 H2 (af_c a2) (res_c r2)
        | exc _ _ _ _ => exact p2.elim
        | bad => exact p2.elim
      · subst et
        exact ih p σ C dd G1 H1 h1 G' H' st sg af m xr
  | @bare x Cc ms u b bs p1 p2 hs r l nm hm su rest ih =>
    intro p σ C dd G1 H1 h1 G' H' st sg af m xr
    unfold hdGo at p
    cases e : ms n with
    | none => simp only [e] at p; exact p.elim
    | some t =>
      simp only [e] at p
      refine ⟨t, by rw [hK]; exact hm n t C e m, fun et a hna => ?_, fun et => ?_⟩
      · subst et
        refine ⟨ha, G0, B, G', δ, h, st.to af, ?_⟩
        have p2 : PostS c ha W nw G0 B G (dropFl none (u δ h)) Dn := p
        generalize u δ h = r at p2
        have gg : Same G G' := sg.trans af.gg
        cases r with
        | nx δ' h' => exact fun σ' G2 H2 st2 s2 => p2 _ G2 H2 st2 (gg.trans s2)
        | brk δ' h' => exact fun σ' G2 H2 st2 s2 => p2 _ G2 H2 st2 (gg.trans s2)
        | ct δ' h' => exact fun σ' G2 H2 st2 s2 => p2 _ G2 H2 st2 (gg.trans s2)
        | ret d h' => exact fun v G2 H2 a2 r2 => p2 v G2 H2 a2 r2
        | exc _ _ _ _ => exact p2.elim
        | bad => exact p2.elim
      · subst et
        exact ih p σ C dd G1 H1 h1 G' H' st sg af m xr
theorem ds_try {body : List Stmt} {h0 : ExceptHandler} {hr : List ExceptHandler} {cs : List Cz} {l : List Wy.Cl} (hx : c.xa = none) (st : X.stack = X.env :: X.outer) (fr : X.env.frame = some X.env.locals) (nd : X.N.Nodup) (tko : Takes X W)
    (bd : ∀ (W' : WX) (ps : List (Addr × Obj)) (xs : Value → Shared → Prop), Takes (X.tr ps xs) W' → PassesOwn (model X.prog X.w) X.A X.env xs → PSs (X.tr ps xs) body (rs c W' nw u))
    (cl : CzOk X c nw (h0 :: hr) cs l) (hK : X.K = c.K := by rfl) : PS X (.Try body (h0 :: hr) [] [] pos) (rs c W nw (sTry u cs)) := by
  refine ⟨fun pins s σ H Dn I z => (Wy.ps_try_named (tb := fun W' => rs c W' nw u) st fr nd tko bd cl.cl).run pins s σ H Dn I ?_⟩
  obtain ⟨ha, G0, B, G, δ, h, st', p⟩ := z
  refine ⟨ha, G0, B, G, δ, h, st', ?_⟩
  unfold sTry at p
  cases e : u δ h with
  | exc n fs δ' h' =>
    rw [e] at p
    intro σ' C dd G1 H1 h1 G' H' st1 sg af m xr
    exact try_ask hx hK cl p σ' C dd G1 H1 h1 G' H' st1 sg af m xr
  | nx δ' h' => rw [e] at p; exact p
  | brk δ' h' => rw [e] at p; exact p
  | ct δ' h' => rw [e] at p; exact p
  | ret d h' => rw [e] at p; exact p
  | bad => rw [e] at p; exact p
def eXf (ns : List Str) (i : Nat) (f : Str) : EF D := fun δ h => Ex.of (match δ[i]? with
  | some (some (.ex n fs)) => if ns.contains n then fs.lookup f else none
  | _ => none) h
theorem dx_xf {ns : List Str} {i : Nat} {x f : Str} {a : Addr} {oe : Obj} {k : Value} {dd : Option Addr} {pn : List (Addr × Obj)} {p : Pos} (hT : ∀ n C, ns.contains n = true → c.mg n = some (.ref C) → XfC X.K C) (hz : Zc k dd oe) (hf : ∃ vs, oe.data = .fields vs)
    (hN : X.N[i]? = some x) (hv : Vis X.env.scope x) (hK : X.K = c.K := by rfl) (hd : (x == ("__debug__" : Str)) = false := by decide) (hcd : (x == ("__classdict__" : Str)) = false := by decide) (hb : attributeBase (.Name x p) f (X.suite a ((a, oe) :: pn)).env (eval (.Name x p) (X.suite a ((a, oe) :: pn)).env) = eval (.Name x p) (X.suite a ((a, oe) :: pn)).env := by rfl) :
    PE (X.suite a ((a, oe) :: pn)) (.Attribute (.Name x p) f pos) (rd (c.at (some (a, k, dd))) W (eXf ns i f)) := by
  refine ⟨fun pins s σ H Q I z => ?_⟩
  obtain ⟨ha, G0, B, G, δ, h, st, q⟩ := z
  obtain ⟨d, e, q⟩ := post_of q
  split at e
  · rename_i n fs e1
    by_cases hns : ns.contains n = true
    case neg => rw [if_neg hns] at e; cases e
    rw [if_pos hns] at e
    obtain ⟨fp, os, nn, kk⟩ := st.sl
    obtain ⟨a', dd', C, fx, h1, h2, h3, h4⟩ := ownS_ex os e1
    cases h2
    cases h4 with
    | none => cases e
    | @some d0 _ xs _ g1 g2 g3 =>
      obtain ⟨na, w, g4, g5⟩ := dqF_look g3 e
      exact (pe_xf (hT n C hns h3) (by rw [hK]; exact na) hz hf (pe_var (X := X.suite a ((a, oe) :: pn)) hN hv hd hcd) hb).run pins s σ H Q I ⟨_, h1, rfl, rfl, d0, xs, w, rfl, g1, g4, q _ _ st.here _ g5⟩
  · cases e
/-- isinstance(e, C) -/
def eXi (ms : Str → Option Bool) (i : Nat) : EF D := fun δ h => Ex.of (match δ[i]? with
  | some (some (.ex n _)) => (ms n).map .bl
  | _ => none) h
theorem dx_xi {ms : Str → Option Bool} {i : Nat} {x y : Str} {a P Ct : Addr} {oe : Obj} {k : Value} {dd : Option Addr} {pn : List (Addr × Obj)} {p p1 p2 : Pos} (gt : Kx.Gt X.K) (hT : ∀ n C b, ms n = some b → c.mg n = some (.ref C) → Kx.Er X.K P C ∧ PySem.W.kitOne X.K (.ref C) (.ref Ct) = some b) (hz : Zc k dd oe) (hf : ∃ vs, oe.data = .fields vs)
    (hN : X.N[i]? = some x) (hv : Vis X.env.scope x) (hg : Gl X "isinstance") (hm : X.mg "isinstance" = none) (hgt : Gl X y) (hmt : X.mg y = some (.ref Ct)) (hd : (x == ("__debug__" : Str)) = false := by decide) (hcd : (x == ("__classdict__" : Str)) = false := by decide) (hdy : (y == ("__debug__" : Str)) = false := by decide)
    (s1 : starEach [.Name x p, .Name y p1] (X.suite a ((a, oe) :: pn)).env = (false, eval (.Name x p) (X.suite a ((a, oe) :: pn)).env) :: starEach [.Name y p1] (X.suite a ((a, oe) :: pn)).env := by rfl) (s2 : starEach [.Name y p1] (X.suite a ((a, oe) :: pn)).env = (false, eval (.Name y p1) (X.suite a ((a, oe) :: pn)).env) :: starEach [] (X.suite a ((a, oe) :: pn)).env := by rfl) (hpl : (backTo pos (starEach [.Name y p1] (X.suite a ((a, oe) :: pn)).env)).any (·.1) = false := by rfl) :
    PE (X.suite a ((a, oe) :: pn)) (.Call (.Name "isinstance" p2) [.Name x p, .Name y p1] [] pos) (rd (c.at (some (a, k, dd))) W (eXi ms i)) := by
  refine ⟨fun pins s σ H Q I z => ?_⟩
  obtain ⟨ha, G0, B, G, δ, h, st, q⟩ := z
  obtain ⟨d, e, q⟩ := post_of q
  split at e
  · rename_i n fs e1
    obtain ⟨b, e2, rfl⟩ := map_get e
    obtain ⟨fp, os, nn, kk⟩ := st.sl
    obtain ⟨a', dd', C, fx, h1, h2, h3, h4⟩ := ownS_ex os e1
    cases h2
    obtain ⟨er, kit⟩ := hT n C b e2 h3
    refine (pe_callB (X := X.suite a ((a, oe) :: pn)) (Re.call_isS (P := P) gt hz hf) hg hm PyProof.Rows.boot_isinstance (pa_cons (pe_var (X := X.suite a ((a, oe) :: pn)) hN hv hd hcd) (pa_cons (pe_glob (X := X.suite a ((a, oe) :: pn)) (v := .ref Ct) hgt hmt rfl hdy) pa_nil s2) s1) (by decide) (by decide) s1 hpl).run pins s σ H Q I ?_
    refine ⟨_, h1, C, .ref Ct, .ref Ct, b, rfl, ⟨rfl, ?_⟩, er, rfl, kit, q _ _ st.here _ (.bl b)⟩
    cases h4 with
    | none => exact .inl rfl
    | some g1 g2 g3 => exact .inr ⟨_, _, rfl, g1⟩
  · cases e
end
end Fw
namespace Wi
open PySem PySem.Spec PyProof.Rows L2 ItX
/-- a longer heap with the same objects: the new places stand empty -/
theorem pad_heap (B : Heap) {n : Nat} (h : B.objs.size ≤ n) : ∃ G : Heap, (∀ b, G.get? b = B.get? b) ∧ G.objs.size = n := by
  refine ⟨⟨B.objs ++ Array.replicate (n - B.objs.size) ⟨.none, none, .freed, #[]⟩, B.life⟩, fun b => ?_, ?_⟩
  · by_cases hb : b < B.objs.size
    · have e : (B.objs ++ Array.replicate (n - B.objs.size) (⟨.none, none, .freed, #[]⟩ : Obj))[b]? = B.objs[b]? := Array.getElem?_append_left hb
      unfold Heap.get?
      rw [e]
    · have e1 : B.objs[b]? = none := Array.getElem?_eq_none (Nat.le_of_not_lt hb)
      have e2 : B.get? b = none := by
        unfold Heap.get?
        rw [e1]
      rw [e2]
      unfold Heap.get?
      rw [show (B.objs ++ Array.replicate (n - B.objs.size) (⟨.none, none, .freed, #[]⟩ : Obj))[b]? = (Array.replicate (n - B.objs.size) (⟨.none, none, .freed, #[]⟩ : Obj))[b - B.objs.size]? from Array.getElem?_append_right (Nat.le_of_not_lt hb), Array.getElem?_replicate]
      by_cases h2 : b - B.objs.size < n - B.objs.size
      · rw [if_pos h2]
      · rw [if_neg h2]
  · show (B.objs ++ Array.replicate (n - B.objs.size) (⟨.none, none, .freed, #[]⟩ : Obj)).size = n
    rw [Array.size_append, Array.size_replicate]
    omega
def tItObj (t : Addr) : Obj := { cls := .type "tuple_iterator", data := .fields #[.ref t, .int 0 0] }
/-- at it an iterator over the tuple at t, at its start -/
def ItT (t it : Addr) : HO := .ext fun h => h.get? it = some (tItObj t)
section
variable {X : Cx} {pins : List (Addr × Obj)} {σ : L2.St} {H : Hp} {s : Shared} {t it : Addr}
theorem itT_ok {P : Program} {w : World} {H : Hp} {h : Heap} (e : h.get? it = some (tItObj t)) : ObjOk P w H h it (ItT t it) := ⟨e, ⟨_, e⟩, fun h1 h2 q k => k _ q⟩
theorem itT_get (I : Inv X pins σ H s) (e : H it = some (ItT t it)) : s.heap.get? it = some (tItObj t) := (I.hok it _ e).1
/-- iter(t), t a tuple; n: the base's size -/
def rIterT (K : PySem.W.Frag) (n : Nat) : List V → Hp → VK → Prop := fun xs H Q => ∃ (l : Addr) (zs : List V), xs = [.ref l] ∧ SqT K H l zs ∧ ∀ it, H it = Option.none → n ≤ it → Q (.ref it) (upd H it (ItT l it))
theorem iter_tup {prog : Program} {w : World} {A : Around} {E : Value → Shared → Prop} {s : Shared} {l : Addr} {items : Array Value} {Q : Value → Shared → Prop} (hl : s.heap.IsTuple l items) (h : Q (.ref s.heap.objs.size) { s with heap := s.heap.push (tItObj l) }) :
    wpAny (model prog w) A (call (.builtin "iter") [.ref l]) Q E s := by
  refine Calls.call_function_entry (by decide +kernel) (by decide +kernel) PySem.W.kdk_entry_iter (PySem.W.kdk_args_iter _) ?_
  unfold Builtin.«iter»
  refine wpAny_bind (m := someArgs "iter" 1 2 _) (wpAny_of_eq (a := [Value.ref l]) (by first | rfl | kernel_rfl!) ?_)
  show wpAny _ _ (pyIter (.ref l) >>= _) _ _ _
  refine wpAny_bind (wpAny_pyIter_tuple hl ?_)
  exact wpAny_pure ⟨_, rfl, h⟩
theorem call_iterT : CallR X (.builtin "iter") (rIterT X.K X.base.objs.size) := by
  intro pins s σ H xs us Q I r h
  obtain ⟨l, zs, rfl, hq, q⟩ := h
  obtain ⟨u, rfl, ru⟩ := vals1 r
  cases ru
  obtain ⟨its, rv, pl, hz⟩ := I.tuple hq
  refine iter_tup (show s.heap.IsTuple l its.toArray from pl) ?_
  exact ⟨.ref s.heap.objs.size, _, I.laid (t' := s.toks) (fun b u e => Heap.get?_push_of_some _ e) (Nat.le_refl _) (itT_ok (Heap.get?_push_size _ rfl)), rfl, q _ (I.hok.fresh (Nat.le_refl _)) (Nat.le_trans I.ok.bsz I.sz)⟩
end
/-- what is asked of the class: __iter__ is the def at fi -/
structure It1 (K : PySem.W.Frag) (C fi : Addr) : Prop where
  it : PySem.W.findIn K (.ref C) "__iter__" = some (some (.ref fi))
  itF : PySem.W.isFn K (.ref fi) = true
/-- for over an instance: the iterator that __iter__ gives -/
def iOwn (K : PySem.W.Frag) (C : Addr) (sp : Nat → Sp) (te : TE) : TI := fun σ H R => te σ H fun x H1 => ∃ a dx fs l, x = .ref a ∧ H1 a = some (.ins C dx fs) ∧ (∃ xs, SqT K H1 l xs) ∧
  (∀ n, sp n [.ref a] H1 (fun v H2 => ∃ it, v = .ref it ∧ H1 it = none ∧ n ≤ it ∧ H2 = upd H1 it (ItT l it)) fun _ _ _ => False) ∧ R (Itt K l) H1
section
variable {X : Cx} {tg e : Expr} {te : TE} {C fi : Addr} {fdI : FuncData} {psI : List Str} {k : Nat} {sp : Nat → Sp}
theorem env_pad {P : Program} {w : World} {K : PySem.W.Frag} {mg : Str → Option Value} {base G : Heap} {A : Around} {outer : List Env} {s : Shared} {H : Hp} (e : Env0 P w K mg base A outer s H) (g1 : ∀ b, G.get? b = base.get? b) (g2 : G.objs.size ≤ s.heap.objs.size) : Env0 P w K mg G A outer s H where
  frames := e.frames
  mod := by
    have k : ∀ b o, base.get? b = some o → G.get? b = some o := fun b o q => (g1 b).trans q
    obtain ⟨mb, q1, q2⟩ := e.mod.blt
    exact ⟨e.mod.kin.keeps k, e.mod.glob.keeps k, ⟨mb, q1.keeps k, q2⟩, e.mod.nolimit.keeps k⟩
  bs := fun b o q => e.bs b o ((g1 b).symm.trans q)
  bsz := g2
  funs := funFrames_none e.funs fun L hL => by
    rw [g1]
    exact (e.funs.mem hL).1
  frf := e.frf
  hok := e.hok
  bare := e.bare
theorem pi_own (hc : It1 X.K C fi) (FI : ∀ B : Heap, FnOk X.prog X.w X.K X.mg B CX0 k fi fdI psI (sp B.objs.size)) (bI : Binds X.K fdI psI []) (hr : Room k X.A) (he : PE X e te) : PI X tg e (iOwn X.K C sp te) := by
  refine ⟨fun pins s σ H R I h => ?_⟩
  refine thn (he.run pins s σ H _ I h) fun v s1 ⟨x, H1, I1, r1, q1⟩ => ?_
  obtain ⟨a, dx, fs, l, rfl, ha, ⟨xs, hl⟩, hsp, q⟩ := q1
  cases r1
  obtain ⟨mA, J, _⟩ := ins_get I1.hok ha
  obtain ⟨od, J, _⟩ := J.look
  obtain ⟨m0, hF⟩ := I1.fr
  refine PySem.W.owit_iter hF I1.ok.mod.kin J hc.it hc.itF ?_
  obtain ⟨G, g1, g2⟩ := pad_heap X.base (n := s1.heap.objs.size) (Nat.le_trans I1.ok.bsz I1.sz)
  have e1 : Env0 X.prog X.w X.K X.mg X.base X.A X.stack s1 H1 := I1.env0
  have e0 := env_pad e1 g1 (Nat.le_of_eq g2)
  have hspG := hsp G.objs.size
  have hlen := (FI G).len _ _ _ _ hspG
  have r2 : Vals [V.ref a] [Value.ref a] := .cons rfl .nil
  refine wpAny_call (codeAny_mono ((FI G).run X.A X.stack s1 H1 ⟨[.ref a], []⟩ [.ref a] [.ref a] _ _ hr e0 (by
    have := bI s1 [.ref a] I1.kIn (by simpa using hlen)
    simpa using this) r2 hspG) fun r s' hq' => ?_)
  cases r with
  | error e => exact False.elim hq'
  | ok fl =>
    cases fl with
    | next => exact False.elim hq'
    | brk => exact False.elim hq'
    | cont => exact False.elim hq'
    | ret u =>
      obtain ⟨v, H', I', rv, it, rfl, hn, hge, rfl⟩ := I1.after hq'
      cases rv
      have hi : (upd H1 it (ItT l it)) it = some (ItT l it) := upd_same
      have eo := itT_get I' hi
      have st : s'.heap.IsTupleIter it l 0 := ⟨_, eo, rfl, rfl⟩
      unfold PySem.W.OwitIt
      show wpAny _ _ (specialOf (.ref it) (Str.ofString "__next__")) _ _ _
      refine wpAny_specialOf st.typeIs F.slot_tuple_iterator_next.lookup ?_
      have hi' := hi
      unfold ItT at hi'
      have ed : dropH (upd H1 it (ItT l it)) it = H1 := dropH_upd hn
      have I2 := inv_drop I' hi'
      have fp := inv_fp I' hi' (Nat.le_trans I1.sz (by rw [g2] at hge; exact hge))
      rw [show dropH (upd H1 it (ItT l it)) it = H1 from ed] at fp
      have I3 : Inv X pins σ H1 s' := by
        have z : dropH (upd H1 it (.ext fun h => h.get? it = some (tItObj l))) it = H1 := ed
        rw [← z]
        exact I2
      refine ⟨it, [it], _, _, H1, rfl, I3, turn_tuple l it, st, fun b hb => ?_, q⟩
      have e : b = it := by simpa using hb
      rw [e]
      exact fp
/-- len(o), o of a class whose __len__ is the def at fl -/
structure Ln1 (K : PySem.W.Frag) (C fl : Addr) : Prop where
  ln : PySem.W.findIn K (.ref C) "__len__" = some (some (.ref fl))
  lnF : PySem.W.isFn K (.ref fl) = true
def rLenO (C : Addr) (sp : Sp) : List V → Hp → VK → Prop := fun xs H Q => ∃ a dx fs, xs = [.ref a] ∧ H a = some (.ins C dx fs) ∧ sp [.ref a] H (fun v H2 => ∃ n : Nat, v = .int n ∧ n < 2 ^ 62 ∧ Q (.int n) H2) fun _ _ _ => False
theorem call_lenO {sp : Sp} (hc : Ln1 X.K C fi) (FI : FnOk X.prog X.w X.K X.mg X.base CX0 k fi fdI psI sp) (bI : Binds X.K fdI psI []) (hr : Room (k + 1) X.A) : CallR X (.builtin "len") (rLenO C sp) := by
  intro pins s σ H xs us Q I r h
  obtain ⟨a, dx, fs, rfl, ha, hsp⟩ := h
  obtain ⟨u, rfl, ru⟩ := vals1 r
  cases ru
  obtain ⟨mA, J, _⟩ := ins_get I.hok ha
  obtain ⟨od, J, _⟩ := J.look
  obtain ⟨m0, hF⟩ := I.fr
  refine PySem.W.len_K hF I.ok.mod.kin J hc.ln hc.lnF ?_
  have e1 : Env0 X.prog X.w X.K X.mg X.base X.A.in1 X.stack s H := I.env0.in1
  have hlen := FI.len _ _ _ _ hsp
  have r2 : Vals [V.ref a] [Value.ref a] := .cons rfl .nil
  have sb : Sub X k X.A.in1 := Sub.in1 (⟨hr, rfl⟩ : Sub X (k + 1) X.A)
  refine wpAny_call (codeAny_mono (FI.run X.A.in1 X.stack s H ⟨[.ref a], []⟩ [.ref a] [.ref a] _ _ sb.room e1 (by
    have := bI s [.ref a] I.kIn (by simpa using hlen)
    simpa using this) r2 hsp) fun r s' hq' => ?_)
  cases r with
  | error e => exact False.elim hq'
  | ok fl =>
    cases fl with
    | next => exact False.elim hq'
    | brk => exact False.elim hq'
    | cont => exact False.elim hq'
    | ret u =>
      obtain ⟨v, H', I', rv, n, rfl, hn, q⟩ := I.after hq'
      obtain ⟨t, rfl⟩ := rv
      refine ⟨⟨by omega, by omega⟩, ?_⟩
      exact ⟨.int n, H', I'.tok _, ⟨_, rfl⟩, q⟩
end
end Wi
namespace Rp
open SlX
open PySem PySem.Spec PyProof.Rows L2
section
variable {X : Cx} {CT : CXT} {n : Nat} {C g : Addr} {sp : Sp}
def rOwnI (C : Addr) (sp : Sp) : R2 := fun x y H Q =>
  ∃ a b dx dy fs gs, x = .ref a ∧ y = .ref b ∧ H a = some (.ins C dx fs) ∧ H b = some (.ins C dy gs) ∧ sp [.ref a, .ref b] H Q L2.E0
theorem op_ownI (find : PySem.W.findIn X.K (.ref C) "__eq__" = some (some (.ref g))) (isf : PySem.W.isFn X.K (.ref g) = true)
    (F : FnR X.prog X.w X.K X.mg X.base CT n g sp) (room : Room n X.A) (out : Passes CT X L2.E0) : OpR X (compareOp .Eq) (rOwnI C sp) := by
  intro pins s σ H x y v u Q I rx ry h
  obtain ⟨a, b, dx, dy, fs, gs, ex, ey, ha, hb, q⟩ := h
  subst ex ey
  cases (show v = Value.ref a from rx)
  cases (show u = Value.ref b from ry)
  obtain ⟨mA, J0, _⟩ := ins_get I.hok ha
  obtain ⟨mB, J1, _⟩ := ins_get I.hok hb
  obtain ⟨od, J, _⟩ := J0.look
  obtain ⟨od', J', _⟩ := J1.look
  obtain ⟨m, hF⟩ := I.fr
  show wpAny (model X.prog X.w) X.A (richCompare .Eq (.ref a) (.ref b)) (EP X pins σ Q) X.xe s
  have nf : PySem.W.notFirst X.K C (.ref C) = true := by
    unfold PySem.W.notFirst
    simp
  refine PySem.W.cmp_K (op := .Eq) (tb := .ref C) room.units0 hF I.ok.mod.kin J J'.type nf find isf ?_
  have run := run_fnR (us := [.ref a, .ref b]) (vs := [.ref a, .ref b]) F room out I (.cons rfl (.cons rfl .nil)) q
  refine wpAny_mono (wpAny_call run) ?_ fun _ _ x => x
  rintro w s' ⟨z, H', I', rz, qz⟩
  exact cmpback rz ⟨z, H', I', rz, qz⟩
end
end Rp
namespace Wn
open PySem PySem.Spec PyProof.Rows L2
section
variable {prog : Program} {w : World} {A : Around} {E : Value → Shared → Prop} {s : Shared} {K : PySem.W.Frag} {x y C L f : Addr} {h₀ : Heap} {m : Str → Option Value} {ox oy : Obj} {od od' : Option Obj}
theorem ne_slot (self : Value) : bindSpecial (.builtin "object.__ne__") self = pure (.builtin "object.__ne__", [self]) :=
  (Slot.of (T := "object") (name := "__ne__") (owner := "object") (n := "__ne__") (by rw [typeLookup_type, builtinLookup_eq_fast]; kernel_rfl) (by decide +kernel) (by decide +kernel) (by decide +kernel)
    (.inl (by decide +kernel)) (by rw [isSubtype_type]; kernel_rfl)).bind self
theorem obj_ne {h1 : Heap} {g : Array GenState} {d : Drawn} {t : Nat} {os : OsState} (X : K.In h1) (I : PySem.W.InstAt h1 x ox C od) (he : PySem.W.findIn K (.ref C) "__eq__" = some (some (.ref f))) (hf : PySem.W.isFn K (.ref f) = true) (hu : A.units < cLine) {Q : Fin → Shared → Prop}
    (hcall : wpAny (model prog w) A (call (.ref f) [.ref x, .ref y]) (fun v s' => ∃ b, v = .bool b ∧ Q (.done (.ret (.bool (!b)))) s') E ⟨h1, g, d, t, os⟩) :
    wpAny (model prog w) A (Builtin.«object.__ne__» ⟨[.ref x, .ref y], []⟩) Q E ⟨h1, g, d, t, os⟩ := by
  unfold Builtin.«object.__ne__»
  repeat (first
    | with_reducible refine wpAny_cRoomFor hu ?_
    | (refine wpAny_bind (m := callSpecialIfBound? (.ref x) (Str.ofString "__eq__") [.ref y])
        (PySem.W.ifBound_K X I he hf (wpAny_mono hcall (fun r s' hr => by
          obtain ⟨b, rfl, hq⟩ := hr
          repeat (first | exact hq | exact wpAny_pure hq | exact wpAny_truthy_bool hq | (refine wpAny_bind (m := truthy (.bool _)) (wpAny_truthy_bool ?_)) | wp_step)) fun _ _ e => e)))
    | wp_step)
theorem ne_K {Q : Value → Shared → Prop} (hu : A.units + 1 < cLine) (F : Fr h₀ L s.heap m) (X₀ : K.In h₀) (I : PySem.W.InstAt s.heap x ox C od) (J : PySem.W.InstAt s.heap y oy C od') (hne : PySem.W.findIn K (.ref C) "__ne__" = some (some (.builtin "object.__ne__")))
    (he : PySem.W.findIn K (.ref C) "__eq__" = some (some (.ref f))) (hf : PySem.W.isFn K (.ref f) = true) (hm : PySem.W.mroIn K C (.type "object") = some true)
    (h : wpAny (model prog w) A.in1 (call (.ref f) [.ref x, .ref y]) (fun v s' => ∃ b, v = .bool b ∧ Q (.bool (!b)) s') E s) : wpAny (model prog w) A (richCompare .NotEq (.ref x) (.ref y)) Q E s := by
  have X := X₀.keeps F.keep
  obtain ⟨h1, g, d, t, os⟩ := s
  have fin : wpAny (model prog w) A (call (.builtin "object.__ne__") [.ref x, .ref y]) (fun v s' => ∃ b, v = .bool (!b) ∧ Q (.bool (!b)) s') E ⟨h1, g, d, t, os⟩ := by
    refine wpAny_call (codeAny_call_builtin (by decide +kernel) PySem.F.cmpEntry_ne (PySem.W.check_slot PySem.F.cmpKind_ne PySem.F.cmpSplit_ne ?_ (PySem.F.cmpArgs_ne _ _) ?_))
    · exact (I.type).andThen (PySem.W.looks_mroIn X hm)
    · refine obj_ne (A := A.in1) X I he hf hu (wpAny_mono h (fun v s' hv => ?_) fun _ _ e => e)
      obtain ⟨b, rfl, hq⟩ := hv
      exact ⟨b, rfl, b, rfl, hq⟩
  have one : wpAny (model prog w) A (tryCompare (.ref x) "__ne__" (.ref y)) (fun r s' => ∃ v, r = some v ∧ Q v s') E ⟨h1, g, d, t, os⟩ := by
    unfold tryCompare
    have bd : wpAny (model prog w) A (callSpecialIfBound? (.ref x) "__ne__" [.ref y]) (fun r s' => ∃ b, r = some (.bool (!b)) ∧ Q (.bool (!b)) s') E ⟨h1, g, d, t, os⟩ := by
      simp only [callSpecialIfBound?, bindSpecialIfBound?]
      refine wpAny_holding (wpAny_bind (wpAny_bind (wpAny_bind (I.type.here ((PySem.W.looks_findIn X hne).here ?_)))))
      simp only [ne_slot]
      refine wpAny_bind (wpAny_askSetting (wpAny_ite ?_))
      have fin2 : wpAny (model prog w) A (call (.builtin "object.__ne__") ([.ref x] ++ [.ref y]) >>= fun v => pure (some v)) (fun r s' => ∃ b, r = some (.bool (!b)) ∧ Q (.bool (!b)) s') E ⟨h1, g, d, t, os⟩ :=
        wpAny_bind (wpAny_mono fin (fun v s' h' => by obtain ⟨b, rfl, hq⟩ := h'; exact wpAny_pure ⟨b, rfl, hq⟩) fun _ _ h' => h')
      split
      · exact wpAny_bind (wpAny_pure (wpAny_pure (by exact fin2)))
      · exact wpAny_tryCatch (wpAny_bind (wpAny_pure (wpAny_pure (by exact fin2))))
    refine wpAny_bind (wpAny_mono bd (fun r s' hr => ?_) fun _ _ e => e)
    obtain ⟨b, rfl, hq⟩ := hr
    exact wpAny_pure ⟨_, rfl, hq⟩
  have nf : PySem.W.notFirst K C (.ref C) = true := by
    unfold PySem.W.notFirst
    simp
  unfold richCompare
  simp only [oneThing_ref]
  refine wpAny_holding (wpAny_bind (wpAny_cRoomFor (Nat.lt_of_succ_lt hu) ?_))
  refine wpAny_bind (I.type.here (wpAny_bind (J.type.here ?_)))
  rw [show (Value.ref C != Value.ref C) = false from by simp]
  simp only [Bool.false_eq_true, if_false]
  refine wpAny_bind (wpAny_pure ?_)
  simp only [Bool.false_eq_true, if_false]
  refine wpAny_bind (wpAny_mono one (fun r s' z => ?_) fun _ _ e => e)
  obtain ⟨v, rfl, hq⟩ := z
  exact wpAny_pure hq
end
section
variable {X : Cx} {n k : Nat} {C g : Addr} {sp : Sp} {fd : FuncData} {ps : List Str}
def rNeI (C : Addr) (sp : Sp) : R2 := fun x y H Q =>
  ∃ a b dx dy fs gs, x = .ref a ∧ y = .ref b ∧ H a = some (.ins C dx fs) ∧ H b = some (.ins C dy gs) ∧ sp [.ref a, .ref b] H (fun v H' => ∃ r, v = .bl r ∧ Q (.bl (!r)) H') L2.E0
theorem op_neI (fne : PySem.W.findIn X.K (.ref C) "__ne__" = some (some (.builtin "object.__ne__"))) (find : PySem.W.findIn X.K (.ref C) "__eq__" = some (some (.ref g))) (isf : PySem.W.isFn X.K (.ref g) = true) (hm : PySem.W.mroIn X.K C (.type "object") = some true)
    (F : FnOk X.prog X.w X.K X.mg X.base CX0 n g fd ps sp) (bI : Binds X.K fd ps []) (room : Room (n + 1) X.A) : OpR X (compareOp .NotEq) (rNeI C sp) := by
  intro pins s σ H x y v u Q I rx ry h
  obtain ⟨a, b, dx, dy, fs, gs, ex, ey, ha, hb, hsp⟩ := h
  subst ex ey
  cases (show v = Value.ref a from rx)
  cases (show u = Value.ref b from ry)
  obtain ⟨mA, J0, _⟩ := ins_get I.hok ha
  obtain ⟨mB, J1, _⟩ := ins_get I.hok hb
  obtain ⟨od, J, _⟩ := J0.look
  obtain ⟨od', J', _⟩ := J1.look
  obtain ⟨m, hF⟩ := I.fr
  show wpAny (model X.prog X.w) X.A (richCompare .NotEq (.ref a) (.ref b)) (EP X pins σ Q) X.xe s
  refine ne_K (by have := room.units; omega) hF I.ok.mod.kin J J' fne find isf hm ?_
  have e1 : Env0 X.prog X.w X.K X.mg X.base X.A.in1 X.stack s H := I.env0.in1
  have hlen := F.len _ _ _ _ hsp
  have r2 : Vals [V.ref a, V.ref b] [Value.ref a, Value.ref b] := .cons rfl (.cons rfl .nil)
  have sb : Sub X n X.A.in1 := Sub.in1 (⟨room, rfl⟩ : Sub X (n + 1) X.A)
  refine wpAny_call (codeAny_mono (F.run X.A.in1 X.stack s H ⟨[.ref a, .ref b], []⟩ [.ref a, .ref b] [.ref a, .ref b] _ _ sb.room e1 (by
    have := bI s [.ref a, .ref b] I.kIn (by simpa using hlen)
    simpa using this) r2 hsp) fun r s' hq' => ?_)
  cases r with
  | error e => exact False.elim hq'
  | ok fl =>
    cases fl with
    | next => exact False.elim hq'
    | brk => exact False.elim hq'
    | cont => exact False.elim hq'
    | ret u =>
      obtain ⟨v, H', I', rv, r, rfl, q⟩ := I.after hq'
      have eu : u = .bool r := rv
      subst eu
      exact ⟨r, rfl, .bl (!r), H', I', rfl, q⟩
end
end Wn
namespace Fw
open PySem PySem.Spec PyProof.Rows L2 Dz Vz
/-- a def that may be called; dd: what lacks -/
structure Cal (P : Program) (w : World) (c : Cn) (base : Heap) (nw : Bool) (k : Nat) (g : Addr) (n : Nat) (F : Fn) (dd : List D) : Prop where
  ex : ∃ (fd : FuncData) (ps : List Str) (ds : List Value) (dvs : List V), FnOk P w c.K c.mg base (L2.CX P w) k g fd ps (spD c nw n F) ∧ L2.Binds c.K fd ps ds ∧ Vals dvs ds ∧ ∀ ha G, DqAll c ha G dvs dd
  kp : PySem.W.keepIn c.K (.ref g) = true
theorem passF {X : Cx} : ∀ σ, PassesAt (L2.CX X.prog X.w) X σ (WE WF σ) := fun σ pins H s e s' I h => by
  obtain ⟨a, B, H', cls, d, _, _, _, _, _, _, _, q⟩ := h
  exact q.elim
section
variable {P : Program} {w : World} {c : Cn} {base : Heap} {nw : Bool} {k n : Nat} {g : Addr} {F : Fn} {fd : FuncData} {ps : List Str} {x qual : Str} {params : Arguments} {body : List Stmt} {scope : Scope} {dvs : List V} {kws : List (Str × V)}
theorem cal_of (D : FunD c.K x qual params body scope dvs kws g fd) (G : FnOk P w c.K c.mg base (L2.CX P w) k g fd ps (spD c nw n F)) (b : L2.Binds c.K fd ps []) : Cal P w c base nw k g n F [] :=
  ⟨⟨fd, ps, [], [], G, b, .nil, fun _ _ => .nil⟩, D.kp⟩
theorem cal_of1 {dv : List V} {dd : List D} (D : FunD c.K x qual params body scope dvs kws g fd) (G : FnOk P w c.K c.mg base (L2.CX P w) k g fd ps (spD c nw n F)) (b : ∃ ds, Vals dv ds ∧ L2.Binds c.K fd ps ds) (hd : ∀ ha G, DqAll c ha G dv dd) : Cal P w c base nw k g n F dd := by
  obtain ⟨ds, v, b⟩ := b
  exact ⟨⟨fd, ps, ds, dv, G, b, v, hd⟩, D.kp⟩
end
section
variable {X : Cx} {W : WX} {c : Cn} {nw : Bool} {e a b o : Expr} {es : List Expr} {pos : Pos} {te : TE} {f fa fb fo : EF D} {fs : EF (List D)} {k n : Nat} {g C : Addr} {F : Fn} {dd : List D} {x m : Str} {p apos : Pos}
theorem cc_call (G : Cal X.prog X.w c X.base false k g n F dd) (hr : Room k X.A) (hm : c.mg x = some (.ref g)) (hx : ∀ σ, PassesAt (L2.CX X.prog X.w) X σ (WE W σ)) (ha : PA X (e :: es) (rg c W fs)) (hg : Gl X x := by rfl) (hK : X.K = c.K := by rfl) (hM : X.mg = c.mg := by rfl)
    (hdb : (x == ("__debug__" : Str)) = false := by decide) (he : starEach (e :: es) X.env = (false, eval e X.env) :: starEach es X.env := by rfl) (hpl : (backTo pos (starEach es X.env)).any (·.1) = false := by rfl) :
    PE X (.Call (.Name x p) (e :: es) [] pos) (rd c W (eCall n F dd fs)) := by
  obtain ⟨K, mg, xa⟩ := c
  cases hK
  cases hM
  obtain ⟨fd, ps, ds, dvs, F1, b1, v1, d1⟩ := G.ex
  exact dx_call F1 hr hg hm G.kp b1 v1 d1 hx ha hdb he hpl
theorem cc_call0 (G : Cal X.prog X.w c X.base false k g n F dd) (hr : Room k X.A) (hm : c.mg x = some (.ref g)) (hx : ∀ σ, PassesAt (L2.CX X.prog X.w) X σ (WE W σ)) (hg : Gl X x := by rfl) (hK : X.K = c.K := by rfl) (hM : X.mg = c.mg := by rfl)
    (hdb : (x == ("__debug__" : Str)) = false := by decide) : PE X (.Call (.Name x p) [] [] pos) (rd c W (eCall n F dd eNil)) := by
  obtain ⟨K, mg, xa⟩ := c
  cases hK
  cases hM
  obtain ⟨fd, ps, ds, dvs, F1, b1, v1, d1⟩ := G.ex
  exact dx_call0 F1 hr hg hm G.kp b1 v1 d1 hx hdb
theorem cw_call (G : Cal X.prog X.w c X.base true k g n F dd) (hr : Room k X.A) (hm : c.mg x = some (.ref g)) (hx : ∀ σ, PassesAt (L2.CX X.prog X.w) X σ (WE W σ)) (ha : PA X (e :: es) (rg c W fs)) (hg : Gl X x := by rfl) (hK : X.K = c.K := by rfl) (hM : X.mg = c.mg := by rfl)
    (hdb : (x == ("__debug__" : Str)) = false := by decide) (he : starEach (e :: es) X.env = (false, eval e X.env) :: starEach es X.env := by rfl) (hpl : (backTo pos (starEach es X.env)).any (·.1) = false := by rfl) :
    PE X (.Call (.Name x p) (e :: es) [] pos) (rw' c W (eCall n F dd fs)) := by
  obtain ⟨K, mg, xa⟩ := c
  cases hK
  cases hM
  obtain ⟨fd, ps, ds, dvs, F1, b1, v1, d1⟩ := G.ex
  exact dw_call F1 hr hg hm G.kp b1 v1 d1 hx ha hdb he hpl
theorem cc_meth {nm : Str} {pl : Sem Bool} (mC : c.mg nm = some (.ref C)) (he : PE X o (rd c W fo)) (cl : Cls c.K C) (hm : Meth c.K C m g) (G : Cal X.prog X.w c X.base false k g n F dd) (hr : Room k X.A) (hx : ∀ σ, PassesAt (L2.CX X.prog X.w) X σ (WE W σ)) (ha : PA X (e :: es) (rg c W fs)) (hK : X.K = c.K := by rfl) (hM : X.mg = c.mg := by rfl)
    (hst : starEach (e :: es) X.env = (false, eval e X.env) :: starEach es X.env := by rfl) (hpl : (backTo pos (starEach es X.env)).any (·.1) = false := by rfl)
    (ht : eval (.Call (.Attribute o m apos) (e :: es) [] pos) X.env = (do
      let ov ← eval o X.env
      standAt apos.atName
      let (f, first) ← holding [ov] (getMethod ov m pl)
      callWith pos f first (backTo pos (starEach (e :: es) X.env)) (backToKw pos (keywordEach [] X.env))) := by rfl) :
    PE X (.Call (.Attribute o m apos) (e :: es) [] pos) (rd c W (eMeth nm m n F dd fo fs)) := by
  obtain ⟨K, mg, xa⟩ := c
  cases hK
  cases hM
  obtain ⟨fd, ps, ds, dvs, F1, b1, v1, d1⟩ := G.ex
  exact dx_meth mC he cl hm F1 hr b1 v1 d1 hx ha hst hpl ht
theorem cc_meth0 {nm : Str} {pl : Sem Bool} (mC : c.mg nm = some (.ref C)) (he : PE X o (rd c W fo)) (cl : Cls c.K C) (hm : Meth c.K C m g) (G : Cal X.prog X.w c X.base false k g n F dd) (hr : Room k X.A) (hx : ∀ σ, PassesAt (L2.CX X.prog X.w) X σ (WE W σ)) (hK : X.K = c.K := by rfl) (hM : X.mg = c.mg := by rfl)
    (ht : eval (.Call (.Attribute o m apos) [] [] pos) X.env = (do
      let ov ← eval o X.env
      standAt apos.atName
      let (f, first) ← holding [ov] (getMethod ov m pl)
      callWith pos f first (backTo pos (starEach [] X.env)) (backToKw pos (keywordEach [] X.env))) := by rfl) :
    PE X (.Call (.Attribute o m apos) [] [] pos) (rd c W (eMeth nm m n F dd fo eNil)) := by
  obtain ⟨K, mg, xa⟩ := c
  cases hK
  cases hM
  obtain ⟨fd, ps, ds, dvs, F1, b1, v1, d1⟩ := G.ex
  exact dx_meth0 mC he cl hm F1 hr b1 v1 d1 hx ht
theorem cc_make {nm : Str} (mC : c.mg nm = some (.ref C)) (co : COk c.K C) (M : Mk c.K C g) (G : Cal X.prog X.w c X.base false k g n F dd) (hr : Room (k + 1) X.A) (hx : ∀ σ, PassesAt (L2.CX X.prog X.w) X σ (WE W σ))
    (ha : PA X (e :: es) (ra c W fs)) (hg : Gl X nm := by rfl) (hK : X.K = c.K := by rfl) (hM : X.mg = c.mg := by rfl) (hdb : (nm == ("__debug__" : Str)) = false := by decide) (he : starEach (e :: es) X.env = (false, eval e X.env) :: starEach es X.env := by rfl) (hpl : (backTo pos (starEach es X.env)).any (·.1) = false := by rfl) :
    PE X (.Call (.Name nm p) (e :: es) [] pos) (rd c W (eMake nm n F dd fs)) := by
  obtain ⟨K, mg, xa⟩ := c
  cases hK
  cases hM
  obtain ⟨fd, ps, ds, dvs, F1, b1, v1, d1⟩ := G.ex
  exact dx_make mC co M F1 hr hg mC b1 v1 d1 hx ha hdb he hpl
end
theorem fn_calm {P : Program} {w : World} {K : PySem.W.Frag} {mg : Str → Option Value} {base : Heap} {k : Nat} {f : Addr} {fd : FuncData} {ps : List Str} {sp : Sp} (F : FnOk P w K mg base (L2.CX P w) k f fd ps sp) : FnOk P w K mg base CX0 k f fd ps (fun vs H Q _ => sp vs H Q fun _ _ _ => False) := by
  refine ⟨fun vs H Q E h => F.len vs H Q _ h, fun A outer s H args us vs Q E r e b v h => codeAny_mono (F.run A outer s H args us vs Q _ r e b v h) fun z s' q => ?_⟩
  cases z with
  | error u =>
    obtain ⟨a, B, H', cls, d, _, _, _, _, _, _, _, q⟩ := q
    exact q.elim
  | ok fl => cases fl <;> exact q
end Fw
namespace Fw
open PySem PySem.Spec PyProof.Rows L2 Dz Vz
section
variable {X : Cx} {W : WX} {c : Cn} {nw : Bool} {e a b o : Expr} {es : List Expr} {pos : Pos} {te : TE} {f fa fb fo : EF D} {fs : EF (List D)} {k n : Nat} {g C : Addr} {F : Fn} {dd : List D} {x m : Str} {p apos : Pos}
def eLenI (nm : Str) (F : Fn) (f : EF D) : EF D := fun δ h => (f δ h).bind fun d h1 => match d with
  | .ins n' fs => if n' = nm then (F [.ins n' fs] h1).nox.bind fun y h2 => match y with
    | .int i => if 0 ≤ i ∧ i < 1000000 then .ok (.int i) h2 else .bad
    | _ => .bad
    else .bad
  | _ => .bad
theorem nox_end {nw : Bool} {ha : Option Addr} {σ : L2.St} {G H : Hp} {r : Ex D} {Q : VK} (p : Post c ha W σ G H r.nox fun d _ G' H' => ∀ v, Res nw c ha H G' H' v d → Q v H') : EndF nw c ha G H r Q fun _ _ _ => False := by
  cases r with
  | ok d h' => exact fun v G' H' af res => p G' H' af v res
  | exc n fs h' => exact p.elim
  | bad => exact p
theorem cc_lenI {nm : Str} (hc : Wi.Ln1 c.K C g) (mC : c.mg nm = some (.ref C)) (G : Cal X.prog X.w c X.base false k g 1 F []) (hr : Room (k + 1) X.A) (he : PE X a (rd c W f)) (hm : X.mg "len" = none) (hg : Gl X "len" := by rfl) (hK : X.K = c.K := by rfl) (hM : X.mg = c.mg := by rfl)
    (s1 : starEach (a :: []) X.env = (false, eval a X.env) :: starEach [] X.env := by rfl) (hpl : (backTo pos (starEach [] X.env)).any (·.1) = false := by rfl) : PE X (.Call (.Name "len" p) [a] [] pos) (rd c W (eLenI nm F f)) := by
  obtain ⟨K, mg, xa⟩ := c
  cases hK
  cases hM
  obtain ⟨fd, ps, ds, dvs, F1, b1, v1, d1⟩ := G.ex
  have dn : dvs = [] := by cases dvs with
    | nil => rfl
    | cons v vs => cases d1 none fun _ => none
  subst dn
  cases v1
  refine pe_to (pe_callB (Wi.call_lenO hc (fn_calm F1) b1 hr) hg hm PySem.boot_len (pa_cons he pa_nil s1) (by decide) (by decide) s1 hpl) fun σ H Q x => ?_
  obtain ⟨ha, G0, B, G, δ, h, st, p⟩ := x
  refine ⟨ha, G0, B, G, δ, h, st, post_imp (Post.arg p) fun d h1 G1 H1 af ⟨sm, ok, p1⟩ v dv => ?_⟩
  cases dv with
  | ins k1 k2 k3 k4 =>
    obtain ⟨rfl, p2⟩ := if_post p1
    rw [k1] at mC
    cases mC
    refine ⟨_, _, _, rfl, sm _ _ k2, ha, G1, [.ins _ _], h1, rfl, sm, ok, .cons (.ins k1 k2 k3 k4) .nil, nox_end (W := W) (σ := σ) (post_imp (post_bind p2) fun y h2 G2 H2 af2 q v dv => ?_)⟩
    cases (show Dq _ ha G2 v y from dv) with
    | int i =>
      obtain ⟨hi, q2⟩ := if_post q
      refine ⟨i.toNat, by rw [Int.toNat_of_nonneg hi.1], by omega, ?_⟩
      rw [Int.toNat_of_nonneg hi.1]
      exact post_ok q2 af2.gh af2.hd _ (.int i)
    | _ => exact q.elim
  | _ => exact p1.elim
def spIt (K : PySem.W.Frag) (C : Addr) (fld : Str) (n : Nat) : Sp := fun vs H Q _ => ∃ a dx fs l xs, vs = [.ref a] ∧ H a = some (.ins C dx fs) ∧ Cls K C ∧ NoAttr K C fld ∧ fs.lookup fld = some (.ref l) ∧ SqT K H l xs ∧ ∀ it, H it = none → n ≤ it → Q (.ref it) (upd H it (Wi.ItT l it))
def iOwnI (nm fld : Str) (f : EF D) : EF (List D) := fun δ h => (f δ h).bind fun d h1 => Ex.of (match d with
  | .ins n' fs => if n' = nm then match fs.lookup fld with
    | some (.tup ds) => some ds
    | _ => none
    else none
  | _ => none) h1
theorem di_own {nm fld : Str} {fd : FuncData} {ps : List Str} {tg : Expr} (hc : Wi.It1 c.K C g) (mC : c.mg nm = some (.ref C)) (FI : ∀ B : Heap, FnOk X.prog X.w c.K c.mg B CX0 k g fd ps (spIt c.K C fld B.objs.size)) (bI : Binds c.K fd ps []) (hr : Room k X.A) (he : PE X e (rd c W f)) (hK : X.K = c.K := by rfl) (hM : X.mg = c.mg := by rfl) : PI X tg e (ri c W (iOwnI nm fld f)) := by
  obtain ⟨K, mg, xa⟩ := c
  cases hK
  cases hM
  refine pi_to (Wi.pi_own hc FI bI hr he) fun σ H R x => ?_
  obtain ⟨ha, G0, B, G, δ, h, st, p⟩ := x
  refine ⟨ha, G0, B, G, δ, h, st, post_imp (post_bind p) fun d h1 G1 H1 af p1 v dv => ?_⟩
  obtain ⟨ds, e1, q⟩ := post_of p1
  cases dv with
  | ins k1 k2 k3 k4 =>
    rename_i a C' dx n' xs fs'
    replace e1 : (if n' = nm then match List.lookup fld fs' with | some (D.tup ds) => some ds | _ => none else none) = some ds := e1
    by_cases hn : n' = nm
    · rw [if_pos hn] at e1
      subst hn
      rw [k1] at mC
      cases mC
      split at e1
      · rename_i ds2 e2
        cases e1
        obtain ⟨na, w, g1, g2⟩ := dqF_look k4 e2
        cases g2 with
        | tup t1 t2 =>
          refine ⟨_, _, _, _, rfl, af.gh _ _ k2, ⟨_, Evl.ex_t af.gh t1⟩, fun n => ?_, ?_⟩
          · exact ⟨_, _, _, _, _, rfl, af.gh _ _ k2, k3.cl, na, g1, Evl.ex_t af.gh t1, fun it h1 h2 => ⟨it, rfl, h1, h2, rfl⟩⟩
          · exact q G1 H1 (.refl af.gh af.hd) _ (wd_tup t1 t2)
      · cases e1
    · rw [if_neg hn] at e1
      cases e1
  | _ => cases e1
def eNeI (nm : Str) (F : Fn) (fa fb : EF D) : EF D := fun δ h => (fa δ h).bind fun x h1 => (fb δ h1).bind fun y h2 => match x, y with
  | .ins n1 f1, .ins n2 f2 => if n1 = nm ∧ n2 = nm then (F [.ins n1 f1, .ins n2 f2] h2).nox.bind fun z h3 => match z with
    | .bl r => .ok (.bl (!r)) h3
    | _ => .bad
    else .bad
  | _, _ => .bad
theorem cc_neI {nm : Str} (fne : PySem.W.findIn c.K (.ref C) "__ne__" = some (some (.builtin "object.__ne__"))) (find : PySem.W.findIn c.K (.ref C) "__eq__" = some (some (.ref g))) (isf : PySem.W.isFn c.K (.ref g) = true) (hmo : PySem.W.mroIn c.K C (.type "object") = some true)
    (mC : c.mg nm = some (.ref C)) (G : Cal X.prog X.w c X.base false k g 2 F []) (room : Room (k + 1) X.A) (ha : PE X a (rd c W fa)) (hb : PE X b (rd c W fb)) (hK : X.K = c.K := by rfl) (hM : X.mg = c.mg := by rfl) (hm : behindInMarks .NotEq b = false := by rfl) : PE X (.Compare a [.NotEq] [b] pos) (rd c W (eNeI nm F fa fb)) := by
  obtain ⟨K, mg, xa⟩ := c
  cases hK
  cases hM
  obtain ⟨fd, ps, ds, dvs, F1, b1, v1, d1⟩ := G.ex
  have dn : dvs = [] := by cases dvs with
    | nil => rfl
    | cons v vs => cases d1 none fun _ => none
  subst dn
  cases v1
  refine pe_to (pe_cmpR (Wn.op_neI fne find isf hmo (fn_calm F1) b1 room) ha hb hm) fun σ H Q x => ?_
  obtain ⟨ha, G0, B, G, δ, h, st, p⟩ := x
  refine ⟨ha, G0, B, G, δ, h, st, post_imp (post_bind p) fun d h1 G1 H1 af p1 v dv => ?_⟩
  refine ⟨ha, G0, B, G1, δ, h1, st.to af, post_imp (Post.arg p1) fun d2 h2 G2 H2 af2 ⟨sm, ok, p2⟩ v2 dv2 => ?_⟩
  cases dv with
  | ins k1 k2 k3 k4 =>
    cases dv2 with
    | ins l1 l2 l3 l4 =>
      obtain ⟨⟨rfl, e2⟩, p3⟩ := if_post p2
      subst e2
      rw [k1] at mC
      cases mC
      rw [k1] at l1
      cases l1
      refine ⟨_, _, _, _, _, _, rfl, rfl, sm _ _ (af2.gg _ _ k2), sm _ _ l2, ha, G2, [.ins _ _, .ins _ _], h2, rfl, sm, ok, .cons (.ins k1 (af2.gg _ _ k2) k3 (dqF_mono af2.gg k4)) (.cons (.ins k1 l2 l3 l4) .nil), nox_end (W := W) (σ := σ) (post_imp (post_bind p3) fun y h3 G3 H3 af3 q v dv => ?_)⟩
      cases (show Dq _ ha G3 v y from dv) with
      | bl r => exact ⟨r, rfl, post_ok q af3.gh af3.hd _ (.bl _)⟩
      | _ => exact q.elim
    | _ => exact p2.elim
  | _ => exact p2.elim
theorem ct_neI {nm : Str} (fne : PySem.W.findIn c.K (.ref C) "__ne__" = some (some (.builtin "object.__ne__"))) (find : PySem.W.findIn c.K (.ref C) "__eq__" = some (some (.ref g))) (isf : PySem.W.isFn c.K (.ref g) = true) (hmo : PySem.W.mroIn c.K C (.type "object") = some true)
    (mC : c.mg nm = some (.ref C)) (G : Cal X.prog X.w c X.base false k g 2 F []) (room : Room (k + 1) X.A) (ha : PE X a (rd c W fa)) (hb : PE X b (rd c W fb)) (hK : X.K = c.K := by rfl) (hM : X.mg = c.mg := by rfl) (hm : behindInMarks .NotEq b = false := by rfl) : PT X (.Compare a [.NotEq] [b] pos) (rt c W (eT (eNeI nm F fa fb))) := by
  obtain ⟨K, mg, xa⟩ := c
  cases hK
  cases hM
  obtain ⟨fd, ps, ds, dvs, F1, b1, v1, d1⟩ := G.ex
  have dn : dvs = [] := by cases dvs with
    | nil => rfl
    | cons v vs => cases d1 none fun _ => none
  subst dn
  cases v1
  refine pt_to (pt_cmpR (Wn.op_neI fne find isf hmo (fn_calm F1) b1 room) ha hb hm) fun σ H Q x => ?_
  obtain ⟨ha, G0, B, G, δ, h, st, p⟩ := rt_T σ H Q x
  refine ⟨ha, G0, B, G, δ, h, st, post_imp (post_bind p) fun d h1 G1 H1 af p1 v dv => ?_⟩
  refine ⟨ha, G0, B, G1, δ, h1, st.to af, post_imp (Post.arg p1) fun d2 h2 G2 H2 af2 ⟨sm, ok, p2⟩ v2 dv2 => ?_⟩
  cases dv with
  | ins k1 k2 k3 k4 =>
    cases dv2 with
    | ins l1 l2 l3 l4 =>
      obtain ⟨⟨rfl, e2⟩, p3⟩ := if_post p2
      subst e2
      rw [k1] at mC
      cases mC
      rw [k1] at l1
      cases l1
      refine ⟨_, _, _, _, _, _, rfl, rfl, sm _ _ (af2.gg _ _ k2), sm _ _ l2, ha, G2, [.ins _ _, .ins _ _], h2, rfl, sm, ok, .cons (.ins k1 (af2.gg _ _ k2) k3 (dqF_mono af2.gg k4)) (.cons (.ins k1 l2 l3 l4) .nil), nox_end (W := W) (σ := σ) (post_imp (post_bind p3) fun y h3 G3 H3 af3 q v dv => ?_)⟩
      cases (show Dq _ ha G3 v y from dv) with
      | bl r => exact ⟨r, rfl, post_ok q af3.gh af3.hd _ (.bl _)⟩
      | _ => exact q.elim
    | _ => exact p2.elim
  | _ => exact p2.elim
end
end Fw
namespace Fw
open PySem PySem.Spec PyProof.Rows L2 Dz Vz
section
variable {X : Cx} {W : WX} {c : Cn} {nw : Bool} {e a b o : Expr} {es : List Expr} {pos : Pos} {te : TE} {f fa fb fo elt : EF D} {ga gb : EF Bool} {fs fs1 : EF (List D)}
def rao (c : Cn) (W : WX) (f : EF (List D)) : TA := fun σ H Q => ∃ ha G0 B G δ h, Sta c ha G0 B G H σ δ h ∧ Post c ha W σ G H (f δ h) fun ds _ G' H' => ∀ vs, (∃ fp, OwnAll c ha G' H' vs ds fp ∧ fp.Nodup ∧ ∀ a ∈ fp, H a = none) → Q vs H'
theorem pao_to {t : TA} (p : PA X es t) (i : ∀ σ H Q, rao c W fs σ H Q → t σ H Q) : PA X es (rao c W fs) := ⟨fun ps pins s σ H Q I h => p.run ps pins s σ H Q I (i σ H Q h)⟩
theorem dao_nil : PA X [] (rao c W eNil) := pao_to pa_nil fun σ H Q x => by
  obtain ⟨ha, G0, B, G, δ, h, st, p⟩ := x
  exact post_ok p st.gh st.hd [] ⟨[], .nil, by simp, fun a z => nomatch z⟩
/-- what is held stays behind a deed -/
theorem own_af {ha : Option Addr} {G0 B G H G1 H1 G2 H2 : Hp} {σ : L2.St} {δ : DE} {h h1 h2 : D} {v : V} {d : D} {fp : List Addr} (st : Sta c ha G0 B G H σ δ h) (af2 : Af c ha G1 H1 G2 H2 h2) (o : Own c ha G1 H1 v d fp) (k : ∀ a ∈ fp, H a = none) : Own c ha G2 H2 v d fp := by
  refine own_keep af2.gg o fun b hb => ?_
  obtain ⟨g, hne⟩ := own_at o b hb
  obtain ⟨u, e⟩ := ne_some hne
  exact ⟨by rw [e]; exact af2.bt b u (fun z => st.hne b z (k b hb)) e, (af2.mv.nw b hne).trans g⟩
theorem dao_cons (he : PE X e (rw' c W f)) (hs : PA X es (rao c W fs)) (hst : starEach (e :: es) X.env = (false, eval e X.env) :: starEach es X.env := by rfl) : PA X (e :: es) (rao c W (eCons f fs)) := pao_to (pa_cons he hs hst) fun σ H Q x => by
  obtain ⟨ha, G0, B, G, δ, h, st, p⟩ := x
  refine ⟨ha, G0, B, G, δ, h, st, post_imp (post_bind p) fun d h1 G1 H1 af1 p1 v ⟨f1, o1, n1, k1⟩ => ?_⟩
  refine ⟨ha, G0, B, G1, δ, h1, st.to af1, post_imp (post_bind p1) fun ds h2 G2 H2 af2 p2 vs ⟨f2, o2, n2, k2⟩ => ?_⟩
  refine post_ok p2 af2.gh af2.hd _ ⟨f1 ++ f2, .cons (own_af (h1 := h1) st af2 o1 k1) o2, List.nodup_append.mpr ⟨n1, n2, fun x hx y hy => ?_⟩, fun x hx => ?_⟩
  · rintro rfl
    exact (own_at o1 x hx).2 (k2 x hy)
  · rcases List.mem_append.mp hx with z | z
    · exact k1 x z
    · exact af_old af1 (k2 x z)
theorem dw_lst (hs : PA X es (rao c W fs)) : PE X (.List es pos) (rw' c W (eLst fs)) := pw_to' (pe_lst hs) fun σ H Q x => by
  obtain ⟨ha, G0, B, G, δ, h, st, p⟩ := x
  refine ⟨ha, G0, B, G, δ, h, st, post_imp (post_bind p) fun ds h1 G1 H1 af1 p1 vs ⟨fp, o, n, k⟩ => ?_⟩
  obtain ⟨d, e, q⟩ := post_of p1
  obtain ⟨z, rfl⟩ := if_get e
  refine ⟨by rw [ownAll_len o]; exact szOk_le z, fun l hl => ?_⟩
  have m := Mv.hid (o := .lst vs) af1.gh hl
  have nl : l ∉ fp := fun z => (ownAll_at o l z).2 hl
  refine q _ _ (.of af1.gh af1.hd m (same_new hl)) _ ⟨l :: fp, .hl upd_same (old_none af1.gh hl) (ownAll_keep (Same.refl _) o fun b hb => ⟨upd_ne fun z => nl (by rw [← z]; exact hb), (ownAll_at o b hb).1⟩), List.nodup_cons.mpr ⟨nl, n⟩, fun b hb => ?_⟩
  rcases List.mem_cons.mp hb with z | z
  · rw [z]; exact af_old af1 hl
  · exact k b z
structure LcJ (c : Cn) (ha : Option Addr) (bind : D → DE → Option DE) (test : EF Bool) (elt : EF D) (δw : DE) (items all : List D) (hE : D) (G1 H1 : Hp) (Da : Addr) (i : Nat) (H : Hp) : Prop where
  ex : ∃ G h acc ds ys fp, Af c ha G1 H1 G H h ∧ H Da = some (.lst acc) ∧ G Da = none ∧ OwnAll c ha G H acc ds fp ∧ fp.Nodup ∧ (∀ a ∈ fp, H1 a = none ∧ a ≠ Da) ∧ ds.length ≤ i ∧ lcGo bind test elt δw (items.drop i) h = .ok ys hE ∧ ds ++ ys = all
theorem lcw_run {ha : Option Addr} {bind : D → DE → Option DE} {g : TG} {vs : List Nat} {J : It} {items all : List D} {hE h1 : D} {G0 B G1 H1 : Hp} {σ : L2.St} {δ : DE} {Da : Addr} {Qd : Hp → Prop} (st : Sta c ha G0 B G1 H1 σ δ h1) (w : WalkD c ha G1 J items) (bd : BindD c vs g bind) (sz : szOk items.length = true)
    (hD : H1 Da = none) (go : lcGo bind ga f (wipeD δ vs) items h1 = .ok all hE)
    (fin : ∀ G H acc fp, Af c ha G1 H1 G H hE → H Da = some (.lst acc) → G Da = none → OwnAll c ha G H acc all fp → fp.Nodup → (∀ a ∈ fp, H1 a = none ∧ a ≠ Da) → Qd H) : LcW J g (rt c WF ga) (rw' c WF f) vs σ H1 Da Qd := by
  have hk := st.hne
  refine ⟨fun i m H => m = items.length - i ∧ i ≤ items.length ∧ LcJ c ha bind ga f (wipeD δ vs) items all hE G1 H1 Da i H, ⟨_, rfl, Nat.zero_le _, ⟨G1, h1, [], [], all, [], ?_⟩⟩, ?_⟩
  · have a0 : Af c ha G1 H1 G1 (upd H1 Da (.lst [])) h1 := .of st.gh st.hd (Mv.hid st.gh hD) (same_new hD)
    exact ⟨a0, upd_same, old_none st.gh hD, .nil, by simp, (fun a z => nomatch z), Nat.zero_le _, go, rfl⟩
  · rintro i m H ⟨rfl, hi, ⟨G, h, acc, ds, ys, fp, af, hDa, gD, da, nf, kf, hl, go, ea⟩⟩
    by_cases hlt : i < items.length
    · refine .inr ⟨w.go i G H af.gg af.gh hlt, fun H' => i + 1 ≤ items.length ∧ LcJ c ha bind ga f (wipeD δ vs) items all hE G1 H1 Da (i + 1) H', fun H' hn => ⟨_, by omega, rfl, hn⟩, fun x H' y => ?_⟩
      have ei : items[i]? = some items[i] := List.getElem?_eq_getElem hlt
      obtain ⟨G2, m2, s2, dx⟩ := w.yld i G H x H' _ af.gg af.gh ei y
      have af2 : Af c ha G H G2 H' h := .of af.gh af.hd m2 s2
      have st2 := ((st.wipe vs).to af).to af2
      have ed : items.drop i = items[i] :: items.drop (i + 1) := (List.drop_eq_getElem_cons hlt)
      rw [ed] at go
      unfold lcGo at go
      have keep : ∀ {G3 H3 : Hp} {h3 : D}, Af c ha G H G3 H3 h3 → OwnAll c ha G3 H3 acc ds fp := fun {G3 H3 h3} a3 => ownAll_keep a3.gg da fun b hb => by
        obtain ⟨g, hne⟩ := ownAll_at da b hb
        obtain ⟨u, e⟩ := ne_some hne
        exact ⟨by rw [e]; exact a3.bt b u (fun z => hk b z (kf b hb).1) e, (a3.mv.nw b hne).trans g⟩
      cases qb : bind items[i] (wipeD δ vs) with
      | none => rw [qb] at go; cases go
      | some δ2 =>
        simp only [qb] at go
        obtain ⟨b, h2, e1, go2⟩ := bind_ok go
        have e1' := nox_ok e1
        refine bd st2 dx qb fun σ2 st3 we => ⟨we.trans (by rw [wipe_wipe]), ha, G0, B, G2, δ2, h, st3, ?_⟩
        rw [e1']
        intro G3 H3 af3
        have d03 := (af.trans af2).trans af3
        have hD3 : H3 Da = some (.lst acc) := af3.bt _ _ (fun z => hk Da z hD) (s2 _ _ hDa)
        have gD3 : G3 Da = none := (af3.mv.nw Da (some_ne (s2 _ _ hDa))).trans ((m2.nw Da (some_ne hDa)).trans gD)
        cases b with
        | false =>
          have go3 : lcGo bind ga f (wipeD δ vs) (items.drop (i + 1)) h2 = .ok ys hE := go2
          exact ⟨hlt, ⟨G3, h2, acc, ds, ys, fp, d03, hD3, gD3, keep (af2.trans af3), nf, kf, by omega, go3, ea⟩⟩
        | true =>
          have go3 : ((f δ2 h2).nox.bind fun y h3 => (lcGo bind ga f (wipeD δ vs) (items.drop (i + 1)) h3).bind fun ys h4 => .ok (y :: ys) h4) = Ex.ok ys hE := go2
          obtain ⟨y1, h3, e3, go4⟩ := bind_ok go3
          obtain ⟨ys1, h4, e4, go5⟩ := bind_ok go4
          cases go5
          have e3' := nox_ok e3
          refine ⟨ha, G0, B, G3, δ2, h2, st3.to af3, ?_⟩
          rw [e3']
          intro G4 H4 af4 v ⟨fv, ov, nv, kv⟩
          have hD4 : H4 Da = some (.lst acc) := af4.bt _ _ (fun z => hk Da z hD) hD3
          have gD4 : G4 Da = none := (af4.mv.nw Da (some_ne hD3)).trans gD3
          have o3 := keep (af2.trans af3)
          have o4 := keep ((af2.trans af3).trans af4)
          have nDv : Da ∉ fv := fun z => by rw [kv Da z] at hD3; cases hD3
          refine ⟨acc, hD4, ?_, hlt, ⟨G4, h3, acc ++ [v], ds ++ [y1], ys1, fp ++ (fv ++ []), af_put (d03.trans af4) hD gD4 hk (some_ne hD4), upd_same, gD4, ownAll_app (ownAll_keep (Same.refl _) o4 fun b hb => ⟨upd_ne (kf b hb).2, (ownAll_at o4 b hb).1⟩) (.cons (own_upd ov nDv) .nil), ?_, fun b hb => ?_, ?_, e4, by rw [List.append_assoc]; exact ea⟩⟩
          · rw [ownAll_len da, sizeLine_eq]
            have := of_decide_eq_true sz
            omega
          · rw [List.append_nil]
            refine List.nodup_append.mpr ⟨nf, nv, fun x hx y hy => ?_⟩
            rintro rfl
            exact (ownAll_at o3 x hx).2 (kv x hy)
          · rw [List.append_nil] at hb
            rcases List.mem_append.mp hb with z | z
            · exact kf b z
            · exact ⟨af_old ((af.trans af2).trans af3) (kv b z), fun e => nDv (by rw [← e]; exact z)⟩
          · rw [List.length_append, List.length_singleton]
            omega
    · have hi2 : i = items.length := by omega
      subst hi2
      rw [List.drop_length] at go
      cases go
      rw [List.append_nil] at ea
      subst ea
      exact .inl ⟨w.stop G H af.gg af.gh, fin G H acc fp af hDa gD da nf kf⟩
theorem rw_lc {vs : List Nat} {bind : D → DE → Option DE} {g : TG} (bd : BindD c vs g bind) (σ : L2.St) (H : Hp) (Q : VK) (x : rw' c W (eLc vs fs bind ga f) σ H Q) : tLc (ri c W fs) g (rt c WF ga) (rw' c WF f) vs σ H Q := by
  obtain ⟨ha, G0, B, G, δ, h, st, p⟩ := x
  unfold eLc eLcL at p
  rw [bind_assoc] at p
  refine ⟨ha, G0, B, G, δ, h, st, post_imp (post_bind p) fun ds h1 G1 H1 af p1 J w Da hD => ?_⟩
  obtain ⟨hz, ys, h2, go, p2⟩ := post_lcL p1
  refine lcw_run (st.to af) w bd hz hD go fun G2 H2 acc fp af2 hDa gD da nf kf => ?_
  refine p2 G2 H2 af2 _ ⟨Da :: fp, .hl hDa gD da, List.nodup_cons.mpr ⟨fun z => (kf Da z).2 rfl, nf⟩, fun b hb => ?_⟩
  rcases List.mem_cons.mp hb with z | z
  · rw [z]; exact af_old af hD
  · exact af_old af (kf b z).1
theorem dw_lc {elt tg iter : Expr} {ifs : List Expr} {scope : Scope} {own : List (Str × Nat)} {bind : D → DE → Option DE} {g : TG} (hc : X.calm = true) (hN : X.N.Nodup) (hi : PI X tg iter (ri c W fs)) (ok : BlkOk X.N X.env.scope scope own) (bd : BindD c (own.map (·.2)) g bind)
    (hg : ∀ (s : Shared) (H : Hp) (C : Addr) (cl : List (Str × Addr)) (fp : List Addr), PG (X.blk s H scope (compEnvC scope cl C X.env) fp) tg g) (ht : ∀ (s : Shared) (H : Hp) (C : Addr) (cl : List (Str × Addr)) (fp : List Addr), PTs (X.blk s H scope (compEnvC scope cl C X.env) fp) ifs (rt c WF ga))
    (he : ∀ (s : Shared) (H : Hp) (C : Addr) (cl : List (Str × Addr)) (fp : List Addr), PE (X.blk s H scope (compEnvC scope cl C X.env) fp) elt (rw' c WF f)) (hs : ∀ x, foldedSetIterable iter X.env x = pure x := by intro _; rfl) :
    PE X (.ListComp elt [⟨tg, iter, ifs, 0⟩] scope pos) (rw' c W (eLc (own.map (·.2)) fs bind ga f)) := pw_to' (pe_lc hc hN hi ok hg ht he hs) (rw_lc bd)
theorem rw_setLc {i : Nat} {vs : List Nat} {bind : D → DE → Option DE} {g : TG} (bd : BindD c vs g bind) (Dn : Ends) (σ : L2.St) (H : Hp) (x : rs c W nw (sSet i (eLc vs fs bind ga f)) Dn σ H) : tAsg (tLc (ri c W fs) g (rt c WF ga) (rw' c WF f) vs) (gName i) Dn σ H := by
  obtain ⟨ha, G0, B, G, δ, h, st, p⟩ := x
  exact rw_lc bd σ H _ ⟨ha, G0, B, G, δ, h, st, post_imp (post_fl st p) fun d h1 G1 H1 af q v ⟨f, o, n1, n2⟩ => q _ G1 H1 (st.setO af i o n1 n2) (Same.refl _)⟩
theorem ds_setLcW {i : Nat} {y : Str} {py : Pos} {elt tg iter : Expr} {ifs : List Expr} {scope : Scope} {own : List (Str × Nat)} {spos : Pos} {bind : D → DE → Option DE} {g : TG} (hc : X.calm = true) (hN : X.N.Nodup) (hy : X.N[i]? = some y) (hyl : X.env.scope.names.lookup y = some .local)
    (hsw : swapsWith (.ListComp elt [⟨tg, iter, ifs, 0⟩] scope pos) (some (.Name y py)) spos.line X.env = pure true) (hi : PI X tg iter (ri c W fs)) (ok : BlkOk X.N X.env.scope scope own) (bd : BindD c (own.map (·.2)) g bind)
    (hg : ∀ (s : Shared) (H : Hp) (C : Addr) (cl : List (Str × Addr)) (fp : List Addr), PG (X.blk s H scope (compEnvC scope cl C X.env) fp) tg g) (ht : ∀ (s : Shared) (H : Hp) (C : Addr) (cl : List (Str × Addr)) (fp : List Addr), PTs (X.blk s H scope (compEnvC scope cl C X.env) fp) ifs (rt c WF ga))
    (he : ∀ (s : Shared) (H : Hp) (C : Addr) (cl : List (Str × Addr)) (fp : List Addr), PE (X.blk s H scope (compEnvC scope cl C X.env) fp) elt (rw' c WF f)) (hs : ∀ x, foldedSetIterable iter X.env x = pure x := by intro _; rfl) :
    PS X (.Assign [.Name y py] (.ListComp elt [⟨tg, iter, ifs, 0⟩] scope pos) spos) (rs c W nw (sSet i (eLc (own.map (·.2)) fs bind ga f))) := ps_to (ps_setLc hc hN hy hyl hsw hi ok hg ht he hs) (rw_setLc bd)
end
end Fw
namespace Fw
open PySem PySem.Spec PyProof.Rows L2 Dz Vz
def lc2Go (bind : D → DE → Option DE) (test : EF Bool) (inner : EF (List D)) (δ : DE) : List D → D → Ex (List D)
  | [], h => .ok [] h
  | x :: xs, h => match bind x δ with
    | none => .bad
    | some δ2 => (test δ2 h).nox.bind fun b h2 => if b then (inner δ2 h2).nox.bind fun ys h3 => (lc2Go bind test inner δ xs h3).bind fun zs h4 => .ok (ys ++ zs) h4 else lc2Go bind test inner δ xs h2
/-- no slot holds a list of its own -/
def slF (δ : DE) : Bool := δ.all fun o => match o with
  | some .me => true
  | some d => d.fr
  | none => true
def eInn (g : EF (List D)) : EF (List D) := fun δ h => if slF δ then g δ h else .bad
def eLc2 (vs vs1 : List Nat) (it : EF (List D)) (bind : D → DE → Option DE) (test : EF Bool) (it1 : EF (List D)) (bind1 : D → DE → Option DE) (test1 : EF Bool) (elt : EF D) : EF D := fun δ h => (it δ h).bind fun ds h1 => (lc2Go bind test (eInn (eLcL vs1 it1 bind1 test1 elt)) (wipeD δ vs) ds h1).bind fun ys h2 => if szOk ys.length then .ok (.hl ys) h2 else .bad
section
variable {X : Cx} {W : WX} {c : Cn} {nw : Bool} {f : EF D} {ga gb : EF Bool} {fs fs1 : EF (List D)} {inner : EF (List D)}
theorem lc2Go_ne {bind : D → DE → Option DE} {test : EF Bool} {δ : DE} : ∀ {ds : List D} {h : D} {n : Str} {fs : List (Str × D)} {h2 : D}, lc2Go bind test inner δ ds h ≠ .exc n fs h2
  | [], h, n, fs, h2, e => by cases e
  | d :: ds, h, n, fs, h2, e => by
    unfold lc2Go at e
    cases q : bind d δ with
    | none => rw [q] at e; cases e
    | some δ2 =>
      simp only [q] at e
      cases q2 : test δ2 h with
      | ok b h3 =>
        rw [q2] at e
        cases b with
        | true =>
          have e' : ((inner δ2 h3).nox.bind fun y h3 => (lc2Go bind test inner δ ds h3).bind fun ys h4 => .ok (y ++ ys) h4) = .exc n fs h2 := e
          cases q3 : inner δ2 h3 with
          | ok y h4 =>
            rw [q3] at e'
            have e2 : ((lc2Go bind test inner δ ds h4).bind fun ys h4 => Ex.ok (y ++ ys) h4) = .exc n fs h2 := e'
            cases q4 : lc2Go bind test inner δ ds h4 with
            | ok ys h5 => rw [q4] at e2; cases e2
            | exc n2 f2 h5 => exact lc2Go_ne q4
            | bad => rw [q4] at e2; cases e2
          | exc _ _ _ => rw [q3] at e'; cases e'
          | bad => rw [q3] at e'; cases e'
        | false =>
          have e' : lc2Go bind test inner δ ds h3 = .exc n fs h2 := e
          exact lc2Go_ne e'
      | exc _ _ _ => rw [q2] at e; cases e
      | bad => rw [q2] at e; cases e
theorem ownS_all {ha : Option Addr} {G H : Hp} : ∀ {σ : L2.St} {δ : DE} {fp : List Addr}, OwnS c ha G H σ δ fp → slF δ = true → OwnS c ha G H σ δ [] ∧ fp = []
  | _, _, _, .nil, _ => ⟨.nil, rfl⟩
  | _, _, _, .non o t, k => by
    obtain ⟨h, rfl⟩ := ownS_all t (by unfold slF at k ⊢; rw [List.all_cons] at k; exact k)
    exact ⟨.non o h, rfl⟩
  | _, _, _, .me e t, k => by
    obtain ⟨h, rfl⟩ := ownS_all t (by unfold slF at k ⊢; rw [List.all_cons] at k; exact k)
    exact ⟨.me e h, rfl⟩
  | _, _, _, .ex e m x t, k => by
    unfold slF at k
    rw [List.all_cons, Bool.and_eq_true] at k
    cases k.1
  | _, _, _, .some (d := d) h t, k => by
    unfold slF at k
    rw [List.all_cons, Bool.and_eq_true] at k
    obtain ⟨h2, rfl⟩ := ownS_all t k.2
    have hf : d.fr = true := by
      cases h with
      | frz h => exact dq_fr h
      | hl _ _ _ => cases k.1
    obtain ⟨q, rfl⟩ := own_fr h hf
    exact ⟨.some (f := []) (fp := []) (.frz q) h2, rfl⟩
theorem ownS_g {ha : Option Addr} {G H G' H' : Hp} {σ : L2.St} {δ : DE} (o : OwnS c ha G H σ δ []) (s : Same G G') : OwnS c ha G' H' σ δ [] := ownS_keep s o fun b hb => nomatch hb
theorem Sta.jump {ha : Option Addr} {G0 B G H G1 H1 G' H' : Hp} {σ : L2.St} {δ : DE} {h h' : D} (st : Sta c ha G0 B G H σ δ h) (k : slF δ = true) (s : Same G G') (af : Af c ha G1 H1 G' H' h') (hk : ∀ a, ha = some a → H1 a ≠ none) : Sta c ha G1 H1 G' H' σ δ h' := by
  obtain ⟨fp, os, n, kk⟩ := st.sl
  obtain ⟨o, rfl⟩ := ownS_all os k
  exact ⟨⟨[], ownS_g o s, by simp, fun a z => nomatch z⟩, af.mv, af.bt, af.hd, hk⟩
/-- the state within: what has come, at heap H -/
structure Lc2A (c : Cn) (ha : Option Addr) (G1 H1 : Hp) (Da : Addr) (ds : List D) (h : D) (H : Hp) : Prop where
  ex : ∃ G acc, Af c ha G1 H1 G H h ∧ H Da = some (.lst acc) ∧ G Da = none ∧ DqAll c ha G acc ds
theorem szOk_pre {ds ys : List D} (h : szOk (ds ++ ys).length = true) (hy : ys ≠ []) : ds.length < 1000000 := by
  have := of_decide_eq_true h
  rw [List.length_append] at this
  have : 0 < ys.length := List.length_pos_iff.mpr hy
  omega
theorem lc2_run {ha : Option Addr} {bind bind1 : D → DE → Option DE} {g g1 : TG} {vs vs1 : List Nat} {J : It} {items all : List D} {hE h1 : D} {G0 B G1 H1 : Hp} {σ : L2.St} {δ : DE} {Da : Addr} {Qd : Hp → Prop} (st : Sta c ha G0 B G1 H1 σ δ h1) (w : WalkD c ha G1 J items) (bd : BindD c vs g bind) (bd1 : BindD c vs1 g1 bind1) (sz : szOk all.length = true)
    (hD : H1 Da = none) (go : lc2Go bind ga (eInn (eLcL vs1 fs1 bind1 gb f)) (wipeD δ vs) items h1 = .ok all hE)
    (fin : ∀ G H acc, Af c ha G1 H1 G H hE → H Da = some (.lst acc) → G Da = none → DqAll c ha G acc all → Qd H) : ∃ Wi : Nat → Nat → Hp → Prop, (∃ m, Wi 0 m (upd H1 Da (.lst []))) ∧ ∀ i m H, Wi i m H →
      (J.stop i H ∧ Qd H) ∨ (J.go i H ∧ ∃ Nx : Hp → Prop, (∀ H', Nx H' → ∃ m', m' < m ∧ Wi (i + 1) m' H') ∧ ∀ x H', J.yld i H x H' → g x (wipe σ vs) H' fun σ2 H2 => wipe σ2 vs = wipe σ vs ∧ rt c WF ga σ2 H2 fun b H3 =>
        if b = true then ri c WF fs1 σ2 H3 fun J1 H4 => ∃ W1 : Nat → Nat → Hp → Prop, (∃ m, W1 0 m H4) ∧ ∀ j k H, W1 j k H →
          (J1.stop j H ∧ Nx H) ∨ (J1.go j H ∧ ∃ Nx1 : Hp → Prop, (∀ H', Nx1 H' → ∃ k', k' < k ∧ W1 (j + 1) k' H') ∧ ∀ x H', J1.yld j H x H' → g1 x (wipe σ2 vs1) H' fun σ3 H5 => wipe σ3 vs1 = wipe σ2 vs1 ∧ rt c WF gb σ3 H5 fun b H6 =>
            if b = true then rd c WF f σ3 H6 fun y H7 => ∃ acc, H7 Da = some (.lst acc) ∧ acc.length < sizeLine ∧ Nx1 (upd H7 Da (.lst (acc ++ [y]))) else Nx1 H6)
        else Nx H3) := by
  have hk := st.hne
  refine ⟨fun i m H => m = items.length - i ∧ i ≤ items.length ∧ ∃ ds ys h, Lc2A c ha G1 H1 Da ds h H ∧ lc2Go bind ga (eInn (eLcL vs1 fs1 bind1 gb f)) (wipeD δ vs) (items.drop i) h = .ok ys hE ∧ ds ++ ys = all, ⟨_, rfl, Nat.zero_le _, [], all, h1, ⟨G1, [], ?_⟩, go, rfl⟩, ?_⟩
  · exact ⟨.of st.gh st.hd (Mv.hid st.gh hD) (same_new hD), upd_same, old_none st.gh hD, .nil⟩
  · rintro i m H ⟨rfl, hi, ds, ys, h, ⟨G, acc, af, hDa, gD, da⟩, go, ea⟩
    by_cases hlt : i < items.length
    · refine .inr ⟨w.go i G H af.gg af.gh hlt, fun H' => i + 1 ≤ items.length ∧ ∃ ds ys h, Lc2A c ha G1 H1 Da ds h H' ∧ lc2Go bind ga (eInn (eLcL vs1 fs1 bind1 gb f)) (wipeD δ vs) (items.drop (i + 1)) h = .ok ys hE ∧ ds ++ ys = all, fun H' hn => ⟨_, by omega, rfl, hn⟩, fun x H' y => ?_⟩
      have ei : items[i]? = some items[i] := List.getElem?_eq_getElem hlt
      obtain ⟨G2, m2, s2, dx⟩ := w.yld i G H x H' _ af.gg af.gh ei y
      have af2 : Af c ha G H G2 H' h := .of af.gh af.hd m2 s2
      have st2 := ((st.wipe vs).to af).to af2
      have ed : items.drop i = items[i] :: items.drop (i + 1) := (List.drop_eq_getElem_cons hlt)
      rw [ed] at go
      unfold lc2Go at go
      cases qb : bind items[i] (wipeD δ vs) with
      | none => rw [qb] at go; cases go
      | some δ2 =>
        simp only [qb] at go
        obtain ⟨b, h2, e1, go2⟩ := bind_ok go
        have e1' := nox_ok e1
        refine bd st2 dx qb fun σ2 st3 we => ⟨we.trans (by rw [wipe_wipe]), ha, G0, B, G2, δ2, h, st3, ?_⟩
        rw [e1']
        intro G3 H3 af3
        have d03 := (af.trans af2).trans af3
        have hD3 : H3 Da = some (.lst acc) := af3.bt _ _ (fun z => hk Da z hD) (s2 _ _ hDa)
        have gD3 : G3 Da = none := (af3.mv.nw Da (some_ne (s2 _ _ hDa))).trans ((m2.nw Da (some_ne hDa)).trans gD)
        cases b with
        | false =>
          have go3 : lc2Go bind ga (eInn (eLcL vs1 fs1 bind1 gb f)) (wipeD δ vs) (items.drop (i + 1)) h2 = .ok ys hE := go2
          exact ⟨hlt, ds, ys, h2, ⟨G3, acc, d03, hD3, gD3, dqAll_mono (af2.gg.trans af3.gg) da⟩, go3, ea⟩
        | true =>
          have go3 : ((eInn (eLcL vs1 fs1 bind1 gb f) δ2 h2).nox.bind fun y h3 => (lc2Go bind ga (eInn (eLcL vs1 fs1 bind1 gb f)) (wipeD δ vs) (items.drop (i + 1)) h3).bind fun ys h4 => .ok (y ++ ys) h4) = Ex.ok ys hE := go2
          obtain ⟨y1, hI, e3, go4⟩ := bind_ok go3
          obtain ⟨ys1, hJ, e4, go5⟩ := bind_ok go4
          cases go5
          have e3' := nox_ok e3
          unfold eInn at e3'
          by_cases hsl : slF δ2 = true
          case neg => rw [if_neg hsl] at e3'; cases e3'
          rw [if_pos hsl] at e3'
          unfold eLcL at e3'
          obtain ⟨it1, h3, e5, e6⟩ := bind_ok e3'
          by_cases hz1 : szOk it1.length = true
          case neg => rw [if_neg hz1] at e6; cases e6
          rw [if_pos hz1] at e6
          have st4 := st3.to af3
          refine ⟨ha, G0, B, G3, δ2, h2, st4, ?_⟩
          rw [e5]
          intro G4 H4 af4 J1 w1
          have hD4 : H4 Da = some (.lst acc) := af4.bt _ _ (fun z => hk Da z hD) hD3
          have gD4 : G4 Da = none := (af4.mv.nw Da (some_ne hD3)).trans gD3
          have st5 := st4.to af4
          refine ⟨fun j k H => k = it1.length - j ∧ j ≤ it1.length ∧ ∃ G h acc ds' ys', Same G4 G ∧ Af c ha G1 H1 G H h ∧ H Da = some (.lst acc) ∧ G Da = none ∧ DqAll c ha G acc (ds ++ ds') ∧ lcGo bind1 gb f (wipeD δ2 vs1) (it1.drop j) h = .ok ys' hI ∧ ds' ++ ys' = y1, ⟨_, rfl, Nat.zero_le _, G4, h3, acc, [], y1, Same.refl _, d03.trans af4, hD4, gD4, by rw [List.append_nil]; exact dqAll_mono ((af2.gg.trans af3.gg).trans af4.gg) da, e6, rfl⟩, ?_⟩
          rintro j k H5 ⟨rfl, hj, G5, h5, acc5, ds', ys', sg5, af5, hD5, gD5, da5, go5, ea5⟩
          by_cases hlt1 : j < it1.length
          · refine .inr ⟨w1.go j G5 H5 sg5 af5.gh hlt1, fun H' => j + 1 ≤ it1.length ∧ ∃ G h acc ds' ys', Same G4 G ∧ Af c ha G1 H1 G H' h ∧ H' Da = some (.lst acc) ∧ G Da = none ∧ DqAll c ha G acc (ds ++ ds') ∧ lcGo bind1 gb f (wipeD δ2 vs1) (it1.drop (j + 1)) h = .ok ys' hI ∧ ds' ++ ys' = y1, fun H' hn => ⟨_, by omega, rfl, hn⟩, fun x6 H6 y6 => ?_⟩
            have ej : it1[j]? = some it1[j] := List.getElem?_eq_getElem hlt1
            obtain ⟨G6, m6, s6, dx6⟩ := w1.yld j G5 H5 x6 H6 _ sg5 af5.gh ej y6
            have af6 : Af c ha G5 H5 G6 H6 h5 := .of af5.gh af5.hd m6 s6
            have st6 := ((st5.jump (h' := h5) (G' := G5) (H' := H5) hsl sg5 af5 hk).wipe vs1).to af6
            have ed1 : it1.drop j = it1[j] :: it1.drop (j + 1) := (List.drop_eq_getElem_cons hlt1)
            rw [ed1] at go5
            unfold lcGo at go5
            cases qb1 : bind1 it1[j] (wipeD δ2 vs1) with
            | none => rw [qb1] at go5; cases go5
            | some δ3 =>
              simp only [qb1] at go5
              obtain ⟨b1, h7, f1, go6⟩ := bind_ok go5
              have f1' := nox_ok f1
              refine bd1 st6 dx6 qb1 fun σ3 st7 we1 => ⟨we1.trans (by rw [wipe_wipe]), ha, G1, H1, G6, δ3, h5, st7, ?_⟩
              rw [f1']
              intro G7 H7 af7
              have d57 := (af5.trans af6).trans af7
              have hD7 : H7 Da = some (.lst acc5) := af7.bt _ _ (fun z => hk Da z hD) (s6 _ _ hD5)
              have gD7 : G7 Da = none := (af7.mv.nw Da (some_ne (s6 _ _ hD5))).trans ((m6.nw Da (some_ne hD5)).trans gD5)
              cases b1 with
              | false =>
                have go7 : lcGo bind1 gb f (wipeD δ2 vs1) (it1.drop (j + 1)) h7 = .ok ys' hI := go6
                exact ⟨hlt1, G7, h7, acc5, ds', ys', sg5.trans (af6.gg.trans af7.gg), d57, hD7, gD7, dqAll_mono (af6.gg.trans af7.gg) da5, go7, ea5⟩
              | true =>
                have go7 : ((f δ3 h7).nox.bind fun y h3 => (lcGo bind1 gb f (wipeD δ2 vs1) (it1.drop (j + 1)) h3).bind fun ys h4 => .ok (y :: ys) h4) = Ex.ok ys' hI := go6
                obtain ⟨y8, h8, e8, go8⟩ := bind_ok go7
                obtain ⟨ys8, h9, e9, go9⟩ := bind_ok go8
                cases go9
                have e8' := nox_ok e8
                refine ⟨ha, G1, H1, G7, δ3, h7, st7.to af7, ?_⟩
                rw [e8']
                intro G8 H8 af8 v dv
                have hD8 : H8 Da = some (.lst acc5) := af8.bt _ _ (fun z => hk Da z hD) hD7
                have gD8 : G8 Da = none := (af8.mv.nw Da (some_ne hD7)).trans gD7
                have gg := (af6.gg.trans af7.gg).trans af8.gg
                have d48 := d57.trans af8
                refine ⟨acc5, hD8, ?_, hlt1, G8, h8, acc5 ++ [v], ds' ++ [y8], ys8, sg5.trans gg, ?_, upd_same, gD8, ?_, e9, by rw [List.append_assoc]; exact ea5⟩
                · have lt : (ds ++ ds').length < 1000000 := by
                    refine szOk_pre (ys := y8 :: ys8 ++ ys1) ?_ (by simp)
                    rw [← ea, ← ea5] at sz
                    rw [List.append_assoc]
                    rw [List.append_assoc] at sz
                    exact sz
                  rw [dqAll_len da5, sizeLine_eq]
                  omega
                · exact af_put d48 hD gD8 hk (some_ne hD8)
                · rw [← List.append_assoc]
                  exact dqAll_app (dqAll_mono gg da5) (.cons dv .nil)
          · have hj2 : j = it1.length := by omega
            subst hj2
            rw [List.drop_length] at go5
            cases go5
            rw [List.append_nil] at ea5
            subst ea5
            exact .inl ⟨w1.stop G5 H5 sg5 af5.gh, hlt, ds ++ ds', ys1, hI, ⟨G5, acc5, af5, hD5, gD5, da5⟩, e4, by rw [List.append_assoc]; exact ea⟩
    · have hi2 : i = items.length := by omega
      subst hi2
      rw [List.drop_length] at go
      cases go
      rw [List.append_nil] at ea
      subst ea
      exact .inl ⟨w.stop G H af.gg af.gh, fin G H acc af hDa gD da⟩
theorem rn_lc2 {vs vs1 : List Nat} {bind bind1 : D → DE → Option DE} {g g1 : TG} (bd : BindD c vs g bind) (bd1 : BindD c vs1 g1 bind1) (σ : L2.St) (H : Hp) (Q : VK) (x : rn c W (eLc2 vs vs1 fs bind ga fs1 bind1 gb f) σ H Q) : tLc2 (ri c W fs) g (rt c WF ga) (ri c WF fs1) g1 (rt c WF gb) (rd c WF f) vs vs1 σ H Q := by
  obtain ⟨ha, G0, B, G, δ, h, st, p⟩ := x
  unfold eLc2 at p
  refine ⟨ha, G0, B, G, δ, h, st, post_imp (post_bind p) fun ds h1 G1 H1 af p1 J w Da hD => ?_⟩
  cases q : lc2Go bind ga (eInn (eLcL vs1 fs1 bind1 gb f)) (wipeD δ vs) ds h1 with
  | bad => rw [q] at p1; exact p1.elim
  | exc n xs h2 => exact absurd q lc2Go_ne
  | ok ys h2 =>
    rw [q] at p1
    obtain ⟨hz, p2⟩ := if_post (show Post c ha W σ G1 H1 (if szOk ys.length = true then Ex.ok (D.hl ys) h2 else .bad) _ from p1)
    exact lc2_run (st.to af) w bd bd1 hz hD q fun G2 H2 acc af2 hDa gD da => p2 G2 H2 af2 _ (.inr ⟨Da, acc, ys, rfl, rfl, hDa, gD, af_old af hD, da⟩)
theorem dn_lc2 {elt tg iter tg1 iter1 : Expr} {ifs ifs1 : List Expr} {scope : Scope} {own : List (Str × Nat)} {vs1 : List Nat} {pos : Pos} {bind bind1 : D → DE → Option DE} {g g1 : TG} (hc : X.calm = true) (hN : X.N.Nodup) (hi : PI X tg iter (ri c W fs)) (ok : BlkOk X.N X.env.scope scope own) (hv : ∀ i ∈ vs1, i ∈ own.map (·.2)) (bd : BindD c (own.map (·.2)) g bind) (bd1 : BindD c vs1 g1 bind1)
    (hg : ∀ (s : Shared) (H : Hp) (C : Addr) (cl : List (Str × Addr)) (fp : List Addr), PG (X.blk s H scope (compEnvC scope cl C X.env) fp) tg g) (ht : ∀ (s : Shared) (H : Hp) (C : Addr) (cl : List (Str × Addr)) (fp : List Addr), PTs (X.blk s H scope (compEnvC scope cl C X.env) fp) ifs (rt c WF ga))
    (hi1 : ∀ (s : Shared) (H : Hp) (C : Addr) (cl : List (Str × Addr)) (fp : List Addr), PI (X.blk s H scope (compEnvC scope cl C X.env) fp) tg1 iter1 (ri c WF fs1))
    (hg1 : ∀ (s : Shared) (H : Hp) (C : Addr) (cl : List (Str × Addr)) (fp : List Addr), PG (X.blk s H scope (compEnvC scope cl C X.env) fp) tg1 g1) (ht1 : ∀ (s : Shared) (H : Hp) (C : Addr) (cl : List (Str × Addr)) (fp : List Addr), PTs (X.blk s H scope (compEnvC scope cl C X.env) fp) ifs1 (rt c WF gb))
    (he : ∀ (s : Shared) (H : Hp) (C : Addr) (cl : List (Str × Addr)) (fp : List Addr), PE (X.blk s H scope (compEnvC scope cl C X.env) fp) elt (rd c WF f)) (hs : ∀ x, foldedSetIterable iter X.env x = pure x := by intro _; rfl) (hs1 : ∀ env x, foldedSetIterable iter1 env x = pure x := by intro _ _; rfl) :
    PE X (.ListComp elt [⟨tg, iter, ifs, 0⟩, ⟨tg1, iter1, ifs1, 0⟩] scope pos) (rn c W (eLc2 (own.map (·.2)) vs1 fs bind ga fs1 bind1 gb f)) := pn_to (pe_lc2 hc hN hi ok hv hg ht hi1 hg1 ht1 he hs hs1) (rn_lc2 bd bd1)
theorem ds_setLc2F {i : Nat} {y : Str} {py : Pos} {elt tg iter tg1 iter1 : Expr} {ifs ifs1 : List Expr} {scope : Scope} {own : List (Str × Nat)} {vs1 : List Nat} {pos spos : Pos} {bind bind1 : D → DE → Option DE} {g g1 : TG} (hc : X.calm = true) (hN : X.N.Nodup) (hy : X.N[i]? = some y) (hyl : X.env.scope.names.lookup y = some .local)
    (hsw : swapsWith (.ListComp elt [⟨tg, iter, ifs, 0⟩, ⟨tg1, iter1, ifs1, 0⟩] scope pos) (some (.Name y py)) spos.line X.env = pure true) (hi : PI X tg iter (ri c W fs)) (ok : BlkOk X.N X.env.scope scope own) (hv : ∀ i ∈ vs1, i ∈ own.map (·.2)) (bd : BindD c (own.map (·.2)) g bind) (bd1 : BindD c vs1 g1 bind1)
    (hg : ∀ (s : Shared) (H : Hp) (C : Addr) (cl : List (Str × Addr)) (fp : List Addr), PG (X.blk s H scope (compEnvC scope cl C X.env) fp) tg g) (ht : ∀ (s : Shared) (H : Hp) (C : Addr) (cl : List (Str × Addr)) (fp : List Addr), PTs (X.blk s H scope (compEnvC scope cl C X.env) fp) ifs (rt c WF ga))
    (hi1 : ∀ (s : Shared) (H : Hp) (C : Addr) (cl : List (Str × Addr)) (fp : List Addr), PI (X.blk s H scope (compEnvC scope cl C X.env) fp) tg1 iter1 (ri c WF fs1))
    (hg1 : ∀ (s : Shared) (H : Hp) (C : Addr) (cl : List (Str × Addr)) (fp : List Addr), PG (X.blk s H scope (compEnvC scope cl C X.env) fp) tg1 g1) (ht1 : ∀ (s : Shared) (H : Hp) (C : Addr) (cl : List (Str × Addr)) (fp : List Addr), PTs (X.blk s H scope (compEnvC scope cl C X.env) fp) ifs1 (rt c WF gb))
    (he : ∀ (s : Shared) (H : Hp) (C : Addr) (cl : List (Str × Addr)) (fp : List Addr), PE (X.blk s H scope (compEnvC scope cl C X.env) fp) elt (rd c WF f)) (hs : ∀ x, foldedSetIterable iter X.env x = pure x := by intro _; rfl) (hs1 : ∀ env x, foldedSetIterable iter1 env x = pure x := by intro _ _; rfl) :
    PS X (.Assign [.Name y py] (.ListComp elt [⟨tg, iter, ifs, 0⟩, ⟨tg1, iter1, ifs1, 0⟩] scope pos) spos) (rs c W nw (sSet i (eFz (eLc2 (own.map (·.2)) vs1 fs bind ga fs1 bind1 gb f)))) := ps_to (ps_setLc2 hc hN hy hyl hsw hi ok hv hg ht hi1 hg1 ht1 he hs hs1) fun Dn σ H x => by
  obtain ⟨ha, G0, B, G, δ, h, st, p⟩ := x
  refine rn_lc2 bd bd1 σ H _ ⟨ha, G0, B, G, δ, h, st, ?_⟩
  have p2 := post_fl st p
  unfold eFz at p2
  cases q : eLc2 (own.map (·.2)) vs1 fs bind ga fs1 bind1 gb f δ h with
  | ok d h1 =>
    rw [q] at p2
    intro G1 H1 af v n
    obtain ⟨G2, af2, dv⟩ := af_fz st.hne af n
    exact p2 G2 H1 af2 _ G2 H1 ((st.to af2).setD i dv) (Same.refl _)
  | exc n fs h1 => rw [q] at p2; exact p2
  | bad => rw [q] at p2; exact p2
end
end Fw
namespace Kf
open PySem PySem.Spec PyProof.Rows L2 Kx
def erB (K : PySem.W.Frag) (P C : Addr) : Bool :=
  (match K.lookup C with
    | some ⟨.type t, _, .cls cd, sl⟩ => (match sl.toList with
      | [_, _, _, _, some (.builtin n), _] => t == "type" && (cd.mro == (Value.ref C :: .ref P :: PySem.HandSPX.veTail) && (n == "ValueError.__new__" && (!cd.hasDel && cd.hasDict)))
      | _ => false)
    | _ => false) &&
  (He.eqO (PySem.W.findIn K (.ref C) "__setattr__") (some (some (.builtin "object.__setattr__"))) &&
  (He.eqO (PySem.W.findIn K (.ref C) "__getattribute__") (some (some (.builtin "BaseException.__getattribute__"))) &&
  (He.eqO (PySem.W.findIn K (.ref C) "__getattr__") (some none) &&
  (He.eqO (PySem.W.findIn K (.ref C) "__class__") (some (some (.builtin "object.__class__"))) &&
  (decide (PySem.W.typeIn K (.ref C) = some (.type "type")) && PySem.W.keepIn K (.ref C))))))
theorem erB_ok {K : PySem.W.Frag} {P C : Addr} (h : erB K P C = true) : Er K P C := by
  obtain ⟨h1, h⟩ := He.ba h
  obtain ⟨h2, h⟩ := He.ba h
  obtain ⟨h3, h⟩ := He.ba h
  obtain ⟨h4, h⟩ := He.ba h
  obtain ⟨h5, h⟩ := He.ba h
  obtain ⟨h6, h7⟩ := He.ba h
  cases e : K.lookup C with
  | none =>
    rw [e] at h1
    cases h1
  | some o =>
    obtain ⟨oc, od, dt, sl⟩ := o
    rw [e] at h1
    cases oc with
    | type t =>
      cases dt with
      | cls cd =>
        obtain ⟨sl⟩ := sl
        match sl, h1, e with
        | [k0, k1, k2, k3, some (.builtin n), k5], h1, e =>
          obtain ⟨g1, g⟩ := He.ba (show (t == "type" && (cd.mro == (Value.ref C :: .ref P :: PySem.HandSPX.veTail) && (n == "ValueError.__new__" && (!cd.hasDel && cd.hasDict)))) = true from h1)
          obtain ⟨g2, g⟩ := He.ba g
          obtain ⟨g3, g⟩ := He.ba g
          obtain ⟨g4, g5⟩ := He.ba g
          obtain ⟨nm, bs, mro, ns, qn, hd, sn, sub, ab, col, del⟩ := cd
          have e1 : t = "type" := eq_of_beq g1
          have e2 : mro = Value.ref C :: .ref P :: PySem.HandSPX.veTail := beq_iff_eq.mp g2
          have e3 : n = "ValueError.__new__" := eq_of_beq g3
          have e4 : del = false := by
            cases del with
            | false => rfl
            | true => cases g4
          have e5 : hd = true := g5
          subst e1 e2 e3 e4 e5
          have hcl : PySem.W.clsIn K C = some { name := nm, bases := bs, mro := Value.ref C :: .ref P :: PySem.HandSPX.veTail, ns := ns, qualname := qn, hasDict := true, slotNames := sn, subclasses := sub, abstract := ab, collection := col, hasDel := false } := by
            unfold PySem.W.clsIn
            rw [e] <;> rfl
          have hsub : PySem.W.subIn K (.ref C) (.type "BaseException") = some true := by
            show PySem.W.mroIn K C (.type "BaseException") = some true
            unfold PySem.W.mroIn
            rw [hcl]
            rfl
          exact ⟨⟨⟨nm, qn, ns, bs, .ref P :: PySem.HandSPX.veTail, sn, sub, ab, col, od, k0, k1, k2, k3, k5, e, rfl⟩, He.eqO_ok h2, hsub, of_decide_eq_true h6, h7⟩, ⟨_, hcl, rfl⟩, He.eqO_ok h3, He.eqO_ok h4, by unfold PySem.W.hasDictIn; rw [hcl]; rfl, He.eqO_ok h5⟩
      | _ => cases h1
    | _ => cases dt <;> cases h1
/-- the hook: a check of the written part, and the defs -/
def hookX (n : Nat) (ck : PySem.W.Frag → Bool) (fn : List He.DefD) : PySem.W.Hook where
  α := Bool × He.AlD
  obs := fun s => (ck (He.frG s.heap.get? (He.asD s.heap.get? n)), He.obsD [] fn (He.frG s.heap.get? (He.asD s.heap.get? n)))
  val := fun _ => (true, He.valD fn)
  says := fun _ h => ∃ K : PySem.W.Frag, K.In h ∧ ck K = true ∧ He.SaysD [] fn K
  of := fun _ _ e => ⟨_, He.frG_in, (Prod.mk.inj e).1, (Prod.mk.inj e).2⟩
  keeps := fun _ _ _ ⟨K, hK, c⟩ k => ⟨K, PySem.W.Frag.In.keeps hK k, c⟩
def obX (n : Nat) (ck : PySem.W.Frag → Bool) (fn : List He.DefD) (g : Addr → Option Obj) : Bool × He.AlD := (ck (He.frG g (He.asD g n)), He.obsD [] fn (He.frG g (He.asD g n)))
theorem obX_eq {n : Nat} {ck : PySem.W.Frag → Bool} {fn : List He.DefD} {g : Addr → Option Obj} {s : Shared} (h : ∀ a, g a = s.heap.get? a) : obX n ck fn g = (hookX n ck fn).obs s := by
  have e : g = s.heap.get? := funext h
  rw [e] <;> rfl
end Kf
namespace Fw
open PySem PySem.Spec PyProof.Rows L2 Dz Vz
section
variable {X : Cx} {W : WX} {c : Cn} {nw : Bool} {e a b o : Expr} {es : List Expr} {pos : Pos} {f fa fb fo : EF D} {fs : EF (List D)}
theorem xv (i : Nat) {x : Str} (hN : X.N[i]? = some x := by rfl) (hv : Vis X.env.scope x := by first | exact Or.inl rfl | exact Or.inr (Or.inl rfl) | exact Or.inr (Or.inr rfl)) (hd : (x == ("__debug__" : Str)) = false := by decide) (hcd : (x == ("__classdict__" : Str)) = false := by decide) : PE X (.Name x pos) (rd c W (eV i)) := dx_v hN hv hd hcd
theorem xM (i : Nat) {x : Str} (hN : X.N[i]? = some x := by rfl) (hv : Vis X.env.scope x := by first | exact Or.inl rfl | exact Or.inr (Or.inl rfl) | exact Or.inr (Or.inr rfl)) (hd : (x == ("__debug__" : Str)) = false := by decide) (hcd : (x == ("__classdict__" : Str)) = false := by decide) : PE X (.Name x pos) (rm c W (eM i)) := dm_v hN hv hd hcd
theorem xP (i : Nat) {x : Str} (hN : X.N[i]? = some x := by rfl) (hv : Vis X.env.scope x := by first | exact Or.inl rfl | exact Or.inr (Or.inl rfl) | exact Or.inr (Or.inr rfl)) (hd : (x == ("__debug__" : Str)) = false := by decide) (hcd : (x == ("__classdict__" : Str)) = false := by decide) : PE X (.Name x pos) (rp c W (pV i)) := dp_v hN hv hd hcd
theorem xA (i : Nat) {x n : Str} {p : Pos} (hN : X.N[i]? = some x := by rfl) (hv : Vis X.env.scope x := by first | exact Or.inl rfl | exact Or.inr (Or.inl rfl) | exact Or.inr (Or.inr rfl)) (hd : (x == ("__debug__" : Str)) = false := by decide) (hcd : (x == ("__classdict__" : Str)) = false := by decide) (hb : attributeBase (.Name x p) n X.env (eval (.Name x p) X.env) = eval (.Name x p) X.env := by rfl) (hK : X.K = c.K := by rfl) : PE X (.Attribute (.Name x p) n pos) (rd c W (eAtV i n)) := dx_atV hN hv hd hcd hb hK
theorem xG (i : Nat) {x : Str} {p : Pos} (hs : PA X es (rg c W fs)) (hN : X.N[i]? = some x := by rfl) (hv : Vis X.env.scope x := by first | exact Or.inl rfl | exact Or.inr (Or.inl rfl) | exact Or.inr (Or.inr rfl)) (hd : (x == ("__debug__" : Str)) = false := by decide) (hcd : (x == ("__classdict__" : Str)) = false := by decide) (hst : starEach (.Name x p :: es) X.env = (false, eval (.Name x p) X.env) :: starEach es X.env := by rfl) : PA X (.Name x p :: es) (rg c W (eCons (eVm i) fs)) := dg_v hN hv hs hd hcd hst
theorem xRV (i : Nat) {x : Str} {p : Pos} (hN : X.N[i]? = some x := by rfl) (hv : Vis X.env.scope x := by first | exact Or.inl rfl | exact Or.inr (Or.inl rfl) | exact Or.inr (Or.inr rfl)) (hd : (x == ("__debug__" : Str)) = false := by decide) (hcd : (x == ("__classdict__" : Str)) = false := by decide) : PS X (.Return (some (.Name x p)) pos) (rs c W true (sRetV i)) := ds_retV hN hv hd hcd
/-- a module's int, string, tuple of flat things -/
theorem xgI {x : Str} {i : Int} (hm : ∃ t, c.mg x = some (.int i t)) (hg : Gl X x := by rfl) (hM : X.mg = c.mg := by rfl) (hdb : (x == ("__debug__" : Str)) = false := by decide) : PE X (.Name x pos) (rd c W (eC (.int i))) := by
  obtain ⟨t, e⟩ := hm
  exact dx_c (pe_glob (v := .int i) hg (by rw [hM]; exact e) ⟨_, rfl⟩ hdb) fun _ _ => .int i
theorem xgS {x z : Str} (hm : ∃ t, c.mg x = some (.str z t)) (hg : Gl X x := by rfl) (hM : X.mg = c.mg := by rfl) (hdb : (x == ("__debug__" : Str)) = false := by decide) : PE X (.Name x pos) (rd c W (eC (.str z))) := by
  obtain ⟨t, e⟩ := hm
  exact dx_c (pe_glob (v := .str z) hg (by rw [hM]; exact e) ⟨_, rfl⟩ hdb) fun _ _ => .str z
theorem xgT {x : Str} {ds : List D} {g : Addr} (hm : c.mg x = some (.ref g) ∧ ∀ ha G, Dq c ha G (.ref g) (.tup ds)) (hg : Gl X x := by rfl) (hM : X.mg = c.mg := by rfl) (hdb : (x == ("__debug__" : Str)) = false := by decide) : PE X (.Name x pos) (rd c W (eC (.tup ds))) :=
  dx_c (pe_glob (v := .ref g) hg (by rw [hM]; exact hm.1) rfl hdb) hm.2
end
structure CT where
  x : Str
  as : List Str
  ms : List Str
structure Tb where
  fn : List He.DefD
  gl : List Str
  frs : List Str
  nI : List (Str × Int)
  nS : List (Str × Str)
  nT : List (Str × List He.Dv)
  cls : List CT
  bas : Str
  errs : List Str
  bare : List Str
  ini : List (Str × List Str)
  exm : List (Str × Str × Bool)
  kit : List (Str × Str × Bool)
  /-- class and special method -/
  spc : List (Str × Str)
  nes : List Str
  vcl : List Str
abbrev nb6 : List String := ["int", "bool", "str", "list", "tuple", "dict"]
abbrev six : List String := ["NoneType", "bool", "int", "str", "list", "tuple"]
def gtB (K : PySem.W.Frag) : Bool := He.eqO (PySem.W.specialIn K (.builtin "object.__class__") "__get__") (some (some (.builtin "getset_descriptor.__get__"))) && decide (PySem.W.takesIn K (.builtin "object.__class__") = some true)
def clsB (K : PySem.W.Frag) (t : CT) : Bool := (He.Fa.cls t.x).ok K && (t.as.all (fun f => (He.Fa.noat t.x f).ok K) && ((He.Fa.mkr t.x).ok K && (t.ms.all (fun m => (He.Fa.meth t.x m).ok K) && (He.eqO (PySem.W.findIn K (.ref (He.ga K t.x)) "__class__") (some (some (.builtin "object.__class__"))) && (decide (PySem.W.mroIn K (He.ga K t.x) (.type "object") = some true) && nb6.all (fun n => decide (PySem.W.kitOne K (.ref (He.ga K t.x)) (.type n) = some false)))))))
def iniB (K : PySem.W.Frag) (p : Str × List Str) : Bool := He.eqO (PySem.W.findIn K (.ref (He.ga K p.1)) "__init__") (some (some (.ref (He.ma K (He.ga K p.1) "__init__")))) && (decide (PySem.W.typeIn K (.ref (He.ma K (He.ga K p.1) "__init__")) = some (.type "function")) && p.2.all (fun f => He.eqO (PySem.W.findIn K (.ref (He.ga K p.1)) f) (some none)))
def spcB (K : PySem.W.Frag) (p : Str × Str) : Bool := He.eqO (PySem.W.findIn K (.ref (He.ga K p.1)) p.2) (some (some (.ref (He.ma K (He.ga K p.1) p.2)))) && PySem.W.isFn K (.ref (He.ma K (He.ga K p.1) p.2))
def gcdB (K : PySem.W.Frag) : Bool := He.eqO (PySem.W.nsIn K mainGlobals "gcd") (some (some (.builtin "math.gcd")))
def Tb.ck (t : Tb) (K : PySem.W.Frag) : Bool := t.gl.all (fun x => (He.Fa.glo x).ok K) && (t.frs.all (fun x => (He.Fa.free x).ok K) && (t.nI.all (fun p => (He.Fa.int p.1 p.2).ok K) && (t.nS.all (fun p => (He.Fa.str p.1 p.2).ok K) && (t.nT.all (fun p => He.tupB K p.1 p.2) && (t.cls.all (clsB K) && (t.errs.all (fun x => Kf.erB K (He.ga K t.bas) (He.ga K x)) && (t.bare.all (fun x => PySem.W.excIn K (He.ga K x) PySem.HandSPX.veTail "ValueError.__new__") && (t.ini.all (iniB K) &&
  (t.exm.all (fun p => decide (PySem.W.exmOne K (.ref (He.ga K p.1)) (.ref (He.ga K p.2.1)) = some p.2.2)) && (t.kit.all (fun p => decide (PySem.W.kitOne K (.ref (He.ga K p.1)) (.ref (He.ga K p.2.1)) = some p.2.2)) && (t.spc.all (spcB K) && (t.nes.all (fun x => He.eqO (PySem.W.findIn K (.ref (He.ga K x)) "__ne__") (some (some (.builtin "object.__ne__")))) && (t.vcl.all (fun x => six.all fun n => decide (PySem.W.kitOne K (.type n) (.ref (He.ga K x)) = some false)) && (gtB K && gcdB K))))))))))))))
structure Fs (t : Tb) (K : PySem.W.Frag) (mg : Str → Option Value) : Prop where
  says : He.SaysD [] t.fn K
  gl : ∀ (i : Nat) (x : Str), t.gl[i]? = some x → mg x = some (.ref (He.ga K x))
  fr : ∀ (i : Nat) (x : Str), t.frs[i]? = some x → mg x = none
  int : ∀ (i : Nat) (p : Str × Int), t.nI[i]? = some p → ∃ k, mg p.1 = some (.int p.2 k)
  str : ∀ (i : Nat) (p : Str × Str), t.nS[i]? = some p → ∃ k, mg p.1 = some (.str p.2 k)
  tup : ∀ (i : Nat) (p : Str × List He.Dv), t.nT[i]? = some p → ∀ H, SqT K H (He.ga K p.1) (p.2.map (He.Dv.v K))
  cls : ∀ (i : Nat) (p : CT), t.cls[i]? = some p → COk K (He.ga K p.x) ∧ Mk K (He.ga K p.x) (He.ma K (He.ga K p.x) "__init__")
  noat : ∀ (i : Nat) (p : CT), t.cls[i]? = some p → ∀ m ∈ p.as, NoAttr K (He.ga K p.x) m
  meth : ∀ (i : Nat) (p : CT), t.cls[i]? = some p → ∀ m ∈ p.ms, Meth K (He.ga K p.x) m (He.ma K (He.ga K p.x) m)
  er : ∀ (i : Nat) (x : Str), t.errs[i]? = some x → Kx.Er K (He.ga K t.bas) (He.ga K x)
  bare : ∀ (i : Nat) (x : Str), t.bare[i]? = some x → PySem.W.excIn K (He.ga K x) PySem.HandSPX.veTail "ValueError.__new__" = true
  ini : ∀ (i : Nat) (p : Str × List Str), t.ini[i]? = some p → iniB K p = true
  exm : ∀ p ∈ t.exm, PySem.W.exmOne K (.ref (He.ga K p.1)) (.ref (He.ga K p.2.1)) = some p.2.2
  kit : ∀ p ∈ t.kit, PySem.W.kitOne K (.ref (He.ga K p.1)) (.ref (He.ga K p.2.1)) = some p.2.2
  spc : ∀ (i : Nat) (p : Str × Str), t.spc[i]? = some p → PySem.W.findIn K (.ref (He.ga K p.1)) p.2 = some (some (.ref (He.ma K (He.ga K p.1) p.2))) ∧ PySem.W.isFn K (.ref (He.ma K (He.ga K p.1) p.2)) = true
  ne : ∀ (i : Nat) (x : Str), t.nes[i]? = some x → PySem.W.findIn K (.ref (He.ga K x)) "__ne__" = some (some (.builtin "object.__ne__"))
  vcl : ∀ x ∈ t.vcl, ∀ n ∈ six, PySem.W.kitOne K (.type n) (.ref (He.ga K x)) = some false
  gt : GtK K
  gcd : mg "gcd" = some (.builtin "math.gcd")
theorem Fs.of {t : Tb} {K : PySem.W.Frag} {h : Heap} {mg : Str → Option Value} (X : K.In h) (G : h.Ns mainGlobals mg) (k : t.ck K = true) (c : He.SaysD [] t.fn K) : Fs t K mg := by
  obtain ⟨k1, k⟩ := He.ba k
  obtain ⟨k2, k⟩ := He.ba k
  obtain ⟨k3, k⟩ := He.ba k
  obtain ⟨k4, k⟩ := He.ba k
  obtain ⟨k5, k⟩ := He.ba k
  obtain ⟨k6, k⟩ := He.ba k
  obtain ⟨k7, k⟩ := He.ba k
  obtain ⟨k8, k⟩ := He.ba k
  obtain ⟨k9, k⟩ := He.ba k
  obtain ⟨k10, k⟩ := He.ba k
  obtain ⟨k11, k⟩ := He.ba k
  obtain ⟨k12, k⟩ := He.ba k
  obtain ⟨k13, k⟩ := He.ba k
  obtain ⟨kv, k⟩ := He.ba k
  obtain ⟨k14, k15⟩ := He.ba k
  obtain ⟨g1, g2⟩ := He.ba k14
  have cc : ∀ (i : Nat) (p : CT), t.cls[i]? = some p → clsB K p = true := fun i p e => List.all_eq_true.mp k6 p (List.mem_of_getElem? e)
  refine ⟨c, fun i x e => He.glo_ok X G (List.all_eq_true.mp k1 x (List.mem_of_getElem? e)), fun i x e => He.free_ok X G (List.all_eq_true.mp k2 x (List.mem_of_getElem? e)), fun i p e => He.int_ok X G (List.all_eq_true.mp k3 p (List.mem_of_getElem? e)), fun i p e => He.str_ok X G (List.all_eq_true.mp k4 p (List.mem_of_getElem? e)),
    fun i p e H => He.tupB_ok (List.all_eq_true.mp k5 p (List.mem_of_getElem? e)) H, fun i p e => ?_, fun i p e m hm => ?_, fun i p e m hm => ?_, fun i x e => Kf.erB_ok (List.all_eq_true.mp k7 x (List.mem_of_getElem? e)), fun i x e => List.all_eq_true.mp k8 x (List.mem_of_getElem? e), fun i p e => List.all_eq_true.mp k9 p (List.mem_of_getElem? e),
    fun p hp => of_decide_eq_true (List.all_eq_true.mp k10 p hp), fun p hp => of_decide_eq_true (List.all_eq_true.mp k11 p hp), fun i p e => ?_, fun i x e => He.eqO_ok (List.all_eq_true.mp k13 x (List.mem_of_getElem? e)), fun x hx n hn => of_decide_eq_true (List.all_eq_true.mp (List.all_eq_true.mp kv x hx) n hn), ⟨He.eqO_ok g1, of_decide_eq_true g2⟩, PySem.W.mg_of X G (He.eqO_ok k15)⟩
  · obtain ⟨c1, z⟩ := He.ba (cc i p e)
    obtain ⟨c2, z⟩ := He.ba z
    obtain ⟨c3, z⟩ := He.ba z
    obtain ⟨c4, z⟩ := He.ba z
    obtain ⟨c5, z⟩ := He.ba z
    obtain ⟨c6, c7⟩ := He.ba z
    exact ⟨⟨He.cls_ok c1, He.eqO_ok c5, of_decide_eq_true c6, fun n hn => of_decide_eq_true (List.all_eq_true.mp c7 n hn)⟩, He.mkr_ok c3⟩
  · obtain ⟨c1, z⟩ := He.ba (cc i p e)
    obtain ⟨c2, z⟩ := He.ba z
    exact He.noat_ok (List.all_eq_true.mp c2 m hm)
  · obtain ⟨c1, z⟩ := He.ba (cc i p e)
    obtain ⟨c2, z⟩ := He.ba z
    obtain ⟨c3, z⟩ := He.ba z
    obtain ⟨c4, z⟩ := He.ba z
    exact He.meth_ok (List.all_eq_true.mp c4 m hm)
  · obtain ⟨c1, c2⟩ := He.ba (List.all_eq_true.mp k12 p (List.mem_of_getElem? e))
    exact ⟨He.eqO_ok c1, c2⟩
def msOf (l : List (Str × Bool)) : Str → Option Bool := fun n => l.lookup n
theorem lookup_mem {α : Type} : ∀ {l : List (Str × α)} {n : Str} {b : α}, l.lookup n = some b → (n, b) ∈ l
  | [], n, b, h => nomatch h
  | (m, x) :: l, n, b, h => by
    rw [List.lookup_cons] at h
    cases q : n == m with
    | true =>
      rw [q] at h
      cases h
      rw [eq_of_beq q]
      exact List.mem_cons_self
    | false =>
      rw [q] at h
      exact List.mem_cons_of_mem _ (lookup_mem h)
theorem ms_ok {t : Tb} {c : Cn} (T : Fs t c.K c.mg) {l : List (Str × Bool)} {y : Str} (h : l.all (fun p => t.gl.contains p.1 && t.exm.any (fun q => decide (q = (p.1, y, p.2)))) = true) (n : Str) (b : Bool) (C : Addr) (e : msOf l n = some b) (m : c.mg n = some (.ref C)) : PySem.W.exmOne c.K (.ref C) (.ref (He.ga c.K y)) = some b := by
  obtain ⟨h1, h2⟩ := He.ba (List.all_eq_true.mp h _ (lookup_mem e))
  obtain ⟨q, hq, eq⟩ := List.any_eq_true.mp h2
  have eq := of_decide_eq_true eq
  subst eq
  obtain ⟨i, hi⟩ := List.getElem?_of_mem (List.contains_iff_mem.mp h1)
  rw [T.gl i n hi] at m
  cases m
  exact T.exm _ hq
theorem xi_ok {t : Tb} {c : Cn} (T : Fs t c.K c.mg) {l : List (Str × Bool)} {y : Str} (h : l.all (fun p => t.gl.contains p.1 && (t.errs.contains p.1 && t.kit.any (fun q => decide (q = (p.1, y, p.2))))) = true) (n : Str) (C : Addr) (b : Bool) (e : msOf l n = some b) (m : c.mg n = some (.ref C)) : Kx.Er c.K (He.ga c.K t.bas) C ∧ PySem.W.kitOne c.K (.ref C) (.ref (He.ga c.K y)) = some b := by
  obtain ⟨h1, h2⟩ := He.ba (List.all_eq_true.mp h _ (lookup_mem e))
  obtain ⟨h2, h3⟩ := He.ba h2
  obtain ⟨q, hq, eq⟩ := List.any_eq_true.mp h3
  have eq := of_decide_eq_true eq
  subst eq
  obtain ⟨i, hi⟩ := List.getElem?_of_mem (List.contains_iff_mem.mp h1)
  obtain ⟨j, hj⟩ := List.getElem?_of_mem (List.contains_iff_mem.mp h2)
  rw [T.gl i n hi] at m
  cases m
  exact ⟨T.er j n hj, T.kit _ hq⟩
theorem xf_ok {t : Tb} {c : Cn} (T : Fs t c.K c.mg) {l : List Str} (h : l.all (fun p => t.gl.contains p && t.errs.contains p) = true) (n : Str) (C : Addr) (e : l.contains n = true) (m : c.mg n = some (.ref C)) : XfC c.K C := by
  obtain ⟨h1, h2⟩ := He.ba (List.all_eq_true.mp h _ (List.contains_iff_mem.mp e))
  obtain ⟨i, hi⟩ := List.getElem?_of_mem (List.contains_iff_mem.mp h1)
  obtain ⟨j, hj⟩ := List.getElem?_of_mem (List.contains_iff_mem.mp h2)
  rw [T.gl i n hi] at m
  cases m
  exact (T.er j n hj).xf
structure EA1 (P : Program) (w : World) (c : Cn) (base : Heap) (x f : Str) : Prop where
  ex : ∃ gP C fI fd, Er1 P w c base gP x f C fI fd
structure EA2 (P : Program) (w : World) (c : Cn) (base : Heap) (x f g : Str) : Prop where
  ex : ∃ gP C fI fd, Er2 P w c base gP x f g C fI fd
structure EA0 (c : Cn) (x : Str) : Prop where
  ex : ∃ gP C, Er0 c gP x C
section
variable {P : Program} {w : World} {K : PySem.W.Frag} {mg : Str → Option Value} {base : Heap} {t : Tb} {fd : FuncData} {x n n2 : Str} {params : Arguments} {body : List Stmt} {scope : Scope} {qual nm : Str} {kws : List (Str × V)}
theorem lenN {C : Addr} {n : Nat} {fl : List V → List (Str × V)} {vs : List V} {H : Hp} {Q : VK} {E : XK} (h : Ky.spIn C n fl vs H Q E) : vs.length = n + 1 := by
  obtain ⟨a, xs, rfl, hl, _⟩ := h
  rw [List.length_cons, hl]
theorem ea1 (T : Fs t K mg) (i j k : Nat) (h1 : t.errs[i]? = some x) (h2 : t.ini[j]? = some (x, [n])) (h3 : t.gl[k]? = some x) (G : FnOk P w K mg base CX0 1 (He.ma K (He.ga K x) "__init__") fd ["self", n] (Ky.spIn (He.ga K x) 1 (Ky.fl1 n))) (b : L2.Binds K fd ["self", n] []) : EA1 P w ⟨K, mg, none⟩ base x n := by
  obtain ⟨c1, c⟩ := He.ba (T.ini j _ h2)
  obtain ⟨c2, c3⟩ := He.ba c
  have c4 := He.eqO_ok (List.all_eq_true.mp c3 n List.mem_cons_self)
  exact ⟨_, _, _, fd, ⟨T.er i x h1, T.gl k x h3, c4, He.eqO_ok c1, of_decide_eq_true c2, G, b⟩⟩
theorem ea2 (T : Fs t K mg) (i j k : Nat) (h1 : t.errs[i]? = some x) (h2 : t.ini[j]? = some (x, [n, n2])) (h3 : t.gl[k]? = some x) (G : FnOk P w K mg base CX0 1 (He.ma K (He.ga K x) "__init__") fd ["self", n, n2] (Ky.spIn (He.ga K x) 2 (Ky.fl2 n n2))) (b : L2.Binds K fd ["self", n, n2] []) : EA2 P w ⟨K, mg, none⟩ base x n n2 := by
  obtain ⟨c1, c⟩ := He.ba (T.ini j _ h2)
  obtain ⟨c2, c3⟩ := He.ba c
  have c4 := He.eqO_ok (List.all_eq_true.mp c3 n List.mem_cons_self)
  have c5 := He.eqO_ok (List.all_eq_true.mp c3 n2 (List.mem_cons_of_mem _ List.mem_cons_self))
  exact ⟨_, _, _, fd, ⟨T.er i x h1, T.gl k x h3, c4, c5, He.eqO_ok c1, of_decide_eq_true c2, G, b⟩⟩
theorem ea0 (T : Fs t K mg) (i j k : Nat) (h1 : t.errs[i]? = some x) (h2 : t.bare[j]? = some x) (h3 : t.gl[k]? = some x) : EA0 ⟨K, mg, none⟩ x := ⟨_, _, ⟨T.er i x h1, T.gl k x h3, T.bare j x h2, (T.er i x h1).ox.kC⟩⟩
theorem noatI (T : Fs t K mg) (j : Nat) {l : List Str} (h2 : t.ini[j]? = some (x, l)) (hn : n ∈ l) : PySem.W.findIn K (.ref (He.ga K x)) n = some none := by
  obtain ⟨c1, c⟩ := He.ba (T.ini j _ h2)
  obtain ⟨c2, c3⟩ := He.ba c
  exact He.eqO_ok (List.all_eq_true.mp c3 n hn)
end
section
variable {X : Cx} {W : WX} {c : Cn} {nw : Bool} {e : Expr} {es : List Expr} {pos : Pos} {fs : EF (List D)} {x n g : Str} {p : Pos}
theorem xr1 (E : EA1 X.prog X.w c X.base x n) (tk : Takes X W) (hr : Room 2 X.A) (ha : PA X (e :: es) (ra c W fs)) (hc : X.calm = true := by rfl) (hg : Gl X x := by rfl) (hK : X.K = c.K := by rfl) (hM : X.mg = c.mg := by rfl)
    (hdb : (x == ("__debug__" : Str)) = false := by decide) (he : starEach (e :: es) X.env = (false, eval e X.env) :: starEach es X.env := by rfl) {pos2 : Pos} (hpl : (backTo pos (starEach es X.env)).any (·.1) = false := by rfl) : PS X (.Raise (some (.Call (.Name x p) (e :: es) [] pos)) none pos2) (rs c W nw (sRaise x (flD1 n) fs)) := by
  obtain ⟨gP, C, fI, fd, E⟩ := E.ex
  exact ds_raise1 E hc tk hr hg ha hK hM hdb he hpl
theorem xr2 (E : EA2 X.prog X.w c X.base x n g) (tk : Takes X W) (hr : Room 2 X.A) (ha : PA X (e :: es) (ra c W fs)) (hc : X.calm = true := by rfl) (hg : Gl X x := by rfl) (hK : X.K = c.K := by rfl) (hM : X.mg = c.mg := by rfl)
    (hdb : (x == ("__debug__" : Str)) = false := by decide) (he : starEach (e :: es) X.env = (false, eval e X.env) :: starEach es X.env := by rfl) {pos2 : Pos} (hpl : (backTo pos (starEach es X.env)).any (·.1) = false := by rfl) : PS X (.Raise (some (.Call (.Name x p) (e :: es) [] pos)) none pos2) (rs c W nw (sRaise x (flD2 n g) fs)) := by
  obtain ⟨gP, C, fI, fd, E⟩ := E.ex
  exact ds_raise2 E hc tk hr hg ha hK hM hdb he hpl
theorem xr0 (E : EA0 c x) (tk : Takes X W) (hc : X.calm = true := by rfl) (hg : Gl X x := by rfl) (hK : X.K = c.K := by rfl) (hM : X.mg = c.mg := by rfl)
    (hdb : (x == ("__debug__" : Str)) = false := by decide) {pos2 : Pos} : PS X (.Raise (some (.Call (.Name x p) [] [] pos)) none pos2) (rs c W nw (sRaise0 x)) := by
  obtain ⟨gP, C, E⟩ := E.ex
  exact ds_raise0 E hc tk hg hK hM hdb
end
end Fw
namespace Fw
open PySem PySem.Spec PyProof.Rows L2 Dz Vz
section
variable {X : Cx} {W : WX} {c : Cn} {nw : Bool} {e a b o iter elt tg : Expr} {es ifs : List Expr} {pos p : Pos} {f fa fb fo : EF D} {fs : EF (List D)} {ga : EF Bool} {s : Stmt} {u : SF} {ss : List Stmt}
/-- isinstance(e, C) for things at rest; ms: what is known of instances; bf: plain things are none -/
def eIsC (ms : Str → Option Bool) (bf : Bool) (f : EF D) : EF D := fun δ h => (f δ h).bind fun d h1 => Ex.of (match d with
  | .ins n _ => (ms n).map .bl
  | d => match tyS d with
    | some _ => if bf then some (.bl false) else none
    | none => none) h1
theorem dx_isC {t : Tb} {y : Str} {ms : List (Str × Bool)} {bf : Bool} {p1 : Pos} (T : Fs t c.K c.mg) (iy : Nat) (hy : t.gl[iy]? = some y) (hms : ms.all (fun p => t.gl.contains p.1 && t.kit.any (fun q => decide (q = (p.1, y, p.2)))) = true) (hbf : (!bf || t.vcl.contains y) = true) (hm : X.mg "isinstance" = none) (ha : PE X a (rd c W f)) (hg : Gl X "isinstance" := by rfl) (hgy : Gl X y := by rfl) (hK : X.K = c.K := by rfl) (hM : X.mg = c.mg := by rfl) (hdy : (y == ("__debug__" : Str)) = false := by decide)
    (s1 : starEach (a :: [.Name y p1]) X.env = (false, eval a X.env) :: starEach [.Name y p1] X.env := by rfl) (s2 : starEach (.Name y p1 :: []) X.env = (false, eval (.Name y p1) X.env) :: starEach [] X.env := by rfl) (hpl : (backTo pos (starEach [.Name y p1] X.env)).any (·.1) = false := by rfl) : PE X (.Call (.Name "isinstance" p) [a, .Name y p1] [] pos) (rd c W (eIsC (msOf ms) bf f)) :=
  pe_to (pe_callB call_isi hg hm PyProof.Rows.boot_isinstance (pa_cons ha (pa_cons (pe_glob (v := .ref (He.ga c.K y)) hgy (by rw [hM]; exact T.gl iy y hy) rfl hdy) pa_nil s2) s1) (by decide) (by decide) s1 hpl) fun σ H Q x => by
    obtain ⟨ha, G0, B, G, δ, h, st, p⟩ := x
    refine ⟨ha, G0, B, G, δ, h, st, post_imp (post_bind p) fun d h1 G1 H1 af p1 v dv => ?_⟩
    obtain ⟨z, e, q⟩ := post_of p1
    have key : ∀ b tt, z = .bl b → TyX c.K H1 v tt → PySem.W.kitOne c.K tt (.ref (He.ga c.K y)) = some b → rIsi X.K [v, .ref (He.ga c.K y)] H1 Q := fun b tt ez ty k => by
      subst ez
      rw [hK]
      exact ⟨v, _, tt, _, b, rfl, .own _, ty, k, q _ _ (.refl af.gh af.hd) _ (.bl b)⟩
    have plain : ∀ t0, tyS d = some t0 → (if bf then some (D.bl false) else none) = some z → rIsi X.K [v, .ref (He.ga c.K y)] H1 Q := fun t0 e0 e1 => by
      obtain ⟨hb, rfl⟩ := if_get e1
      obtain ⟨ty, hin⟩ := ty_dq (H := H1) af.gh dv e0
      rw [hb] at hbf
      exact key false _ rfl ty (T.vcl y (List.contains_iff_mem.mp (by simpa using hbf)) _ hin)
    cases dv with
    | ins k1 k2 k3 k4 =>
      obtain ⟨b, e1, rfl⟩ := map_get e
      obtain ⟨h1, h2⟩ := He.ba (List.all_eq_true.mp hms _ (lookup_mem e1))
      obtain ⟨r, hr, er⟩ := List.any_eq_true.mp h2
      have er := of_decide_eq_true er
      subst er
      obtain ⟨i, hi⟩ := List.getElem?_of_mem (List.contains_iff_mem.mp h1)
      have g := T.gl i _ hi
      rw [k1] at g
      cases g
      exact key b _ rfl (.base (.ins (af.gh _ _ k2) k3.cl k3.ca T.gt.hn T.gt.ht k3.mo)) (T.kit _ hr)
    | non => exact plain _ rfl e
    | bl b => exact plain _ rfl e
    | int i => exact plain _ rfl e
    | str x => exact plain _ rfl e
    | tup h1 h2 => exact plain _ rfl e
    | lst h1 h2 => exact plain _ rfl e
def kMin3 : List D → Option D
  | [.int i, .int j, .int k] => some (.int (let m := if j < i then j else i; if k < m then k else m))
  | _ => none
def kMax3 : List D → Option D
  | [.int i, .int j, .int k] => some (.int (let m := if j > i then j else i; if k > m then k else m))
  | _ => none
theorem three_of {ha : Option Addr} {G : Hp} {vs : List V} {d1 d2 d3 : D} (h : DqAll c ha G vs [d1, d2, d3]) : ∃ u v w, vs = [u, v, w] ∧ Dq c ha G u d1 ∧ Dq c ha G v d2 ∧ Dq c ha G w d3 := by
  cases h with
  | cons h t =>
    obtain ⟨v, w, rfl, h2, h3⟩ := two_of t
    exact ⟨_, v, w, rfl, h, h2, h3⟩
theorem nu_min2 (i j : Int) : nuMin2 (.int i) (.int j) = some (.int (if j < i then j else i)) := by
  show (some (decide (j < i))).map (fun c => if c = true then V.int j else V.int i) = _
  by_cases h : j < i
  · simp [h]
  · simp [h]
theorem nu_max2 (i j : Int) : nuMax2 (.int i) (.int j) = some (.int (if j > i then j else i)) := by
  show (some (decide (i < j))).map (fun c => if c = true then V.int j else V.int i) = _
  by_cases h : i < j
  · simp [h]
  · simp [h]
theorem k_min3 : CaD c (rNuC3 nuMin3) kMin3 := by
  intro ha G H ds d vs Q s dv e fin
  unfold kMin3 at e
  split at e <;> cases e
  obtain ⟨u, v, w, rfl, d1, d2, d3⟩ := three_of dv
  cases d1
  cases d2
  cases d3
  refine ⟨_, _, _, _, rfl, ?_, fin _ G H (Mv.refl s) (Same.refl _) (.int _)⟩
  unfold nuMin3
  rw [nu_min2, Option.bind_some, nu_min2]
theorem k_max3 : CaD c (rNuC3 nuMax3) kMax3 := by
  intro ha G H ds d vs Q s dv e fin
  unfold kMax3 at e
  split at e <;> cases e
  obtain ⟨u, v, w, rfl, d1, d2, d3⟩ := three_of dv
  cases d1
  cases d2
  cases d3
  refine ⟨_, _, _, _, rfl, ?_, fin _ G H (Mv.refl s) (Same.refl _) (.int _)⟩
  unfold nuMax3
  rw [nu_max2, Option.bind_some, nu_max2]
def kMaxL : List D → Option D
  | [.lst (.int i :: ds)] => (intL ds).map fun ns => .int (ns.foldl (fun m x => if m < x then x else m) i)
  | _ => none
def kMinL : List D → Option D
  | [.lst (.int i :: ds)] => (intL ds).map fun ns => .int (ns.foldl (fun m x => if x < m then x else m) i)
  | _ => none
section
variable {x y : Str} {pos' py : Pos} {scope : Scope} {own : List (Str × Nat)} {bind : D → DE → Option DE} {g : TG}
theorem sS (i : Nat) (hN : X.N.Nodup) (he : PE X e (rd c W f)) (hi : X.N[i]? = some x := by rfl) (hx : Loc X.env.scope x := by first | exact Or.inl rfl | exact Or.inr rfl) (hs : swapsWith e (some (.Name x pos')) pos.line X.env = pure false := by rfl) (hf : X.fn x = true ∨ X.env.scope.names.lookup x = some .local := by first | exact .inr rfl | exact .inl rfl | assumption) : PS X (.Assign [.Name x pos'] e pos) (rs c W nw (sSet i f)) := ds_set hN hi hx he hs hf
theorem sSN (i : Nat) (hN : X.N.Nodup) (he : PE X e (rn c W f)) (hi : X.N[i]? = some x := by rfl) (hx : Loc X.env.scope x := by first | exact Or.inl rfl | exact Or.inr rfl) (hs : swapsWith e (some (.Name x pos')) pos.line X.env = pure false := by rfl) (hf : X.fn x = true ∨ X.env.scope.names.lookup x = some .local := by first | exact .inr rfl | exact .inl rfl | assumption) : PS X (.Assign [.Name x pos'] e pos) (rs c W nw (sSet i f)) := ds_setN hN hi hx he hs hf
theorem sSW (i : Nat) (hN : X.N.Nodup) (he : PE X e (rw' c W f)) (hi : X.N[i]? = some x := by rfl) (hx : Loc X.env.scope x := by first | exact Or.inl rfl | exact Or.inr rfl) (hs : swapsWith e (some (.Name x pos')) pos.line X.env = pure false := by rfl) (hf : X.fn x = true ∨ X.env.scope.names.lookup x = some .local := by first | exact .inr rfl | exact .inl rfl | assumption) : PS X (.Assign [.Name x pos'] e pos) (rs c W nw (sSet i f)) := ds_setW hN hi hx he hs hf
theorem sA (i : Nat) {op : Operator} {ti : TIp} {k : D → D → Option D} (hr : OpD c ti k) (ho : PIp X op ti) (hN : X.N.Nodup) (he : PE X e (rd c W f)) (hi : X.N[i]? = some x := by rfl) (hx : Loc X.env.scope x := by first | exact Or.inl rfl | exact Or.inr rfl) (hf : X.fn x = true ∨ X.env.scope.names.lookup x = some .local := by first | exact .inr rfl | exact .inl rfl | assumption) :
    PS X (.AugAssign (.Name x pos') op e pos) (rs c W nw (sAug i k f)) := ds_aug hr hN hi hx he ho hf
/-- a loop's or a clause's own name -/
theorem gN (i : Nat) (hN : X.N.Nodup) (hi : X.N[i]? = some x := by rfl) (hx : Loc X.env.scope x := by first | exact Or.inl rfl | exact Or.inr rfl) (hf : X.fn x = true ∨ X.env.scope.names.lookup x = some .local := by first | exact .inr rfl | exact .inl rfl | assumption) : PG X (.Name x pos) (gName i) := pg_name hN hi hx hf
end
end
end Fw
namespace Fw
open PySem PySem.Spec PyProof.Rows L2 Dz Vz
theorem noat_of {t : Tb} {K : PySem.W.Frag} {mg : Str → Option Value} (T : Fs t K mg) (i : Nat) {p : CT} (hp : t.cls[i]? = some p) (hg : mg p.x = some (.ref (He.ga K p.x))) {m : Str} (hm : m ∈ p.as) {C : Addr} (e : mg p.x = some (.ref C)) : NoAttr K C m := by
  rw [hg] at e
  cases e
  exact T.noat i p hp m hm
abbrev NoNx (u : SF) : Prop := ∀ δ h δ' h', u δ h ≠ .nx δ' h'
theorem nx_seq {u v : SF} (k : NoNx v) : NoNx (sSeq u v) := fun δ h δ' h' e => by
  unfold sSeq at e
  cases q : u δ h with
  | nx δ1 h1 => rw [q] at e; exact k _ _ _ _ e
  | _ => rw [q] at e; cases e
theorem nx_ret {f : EF D} : NoNx (sRet f) := fun δ h δ' h' e => by
  unfold sRet at e
  cases q : f δ h <;> (rw [q] at e; cases e)
theorem nx_retV {i : Nat} : NoNx (sRetV i) := fun δ h δ' h' e => by
  unfold sRetV at e
  split at e <;> cases e
theorem nx_frz {i : Nat} {u : SF} (k : NoNx u) : NoNx (sFrz i u) := fun δ h δ' h' e => k _ _ _ _ e
theorem nx_if {g : EF Bool} {u v : SF} (k1 : NoNx u) (k2 : NoNx v) : NoNx (sIf g u v) := fun δ h δ' h' e => by
  unfold sIf at e
  cases q : g δ h with
  | ok b h1 =>
    rw [q] at e
    cases b with
    | true => exact k1 _ _ _ _ e
    | false => exact k2 _ _ _ _ e
  | _ => rw [q] at e; cases e
section
variable {P : Program} {w : World} {c : Cn} {base : Heap} {nw : Bool} {x qual : Str} {params : Arguments} {body : List Stmt} {scope : Scope} {dvs : List V} {kws : List (Str × V)} {f : Addr} {fd : FuncData} {N ps : List Str} {k n : Nat}
/-- a def of which nothing is known -/
theorem bad_def (F : FunD c.K x qual params body scope dvs kws f fd) (S : FnScope N ps scope) (hn : ps.length = n := by rfl) : FnOk P w c.K c.mg base (L2.CX P w) k f fd ps (spD c nw n fun _ _ => .bad) := by
  refine ⟨fun vs H Q E h => ?_, fun A outer s H args us vs Q E r e b v h => ?_⟩
  · obtain ⟨ha, G, ds, hh, hl, _, _, dv, _⟩ := h
    rw [dm_len dv, hl, hn]
  · obtain ⟨ha, G, ds, hh, hl, _, _, dv, fin⟩ := h
    exact fin.elim
end
structure ItA (P : Program) (w : World) (K : PySem.W.Frag) (mg : Str → Option Value) (C g : Addr) (fld : Str) : Prop where
  ex : ∃ fd ps, (∀ B : Heap, FnOk P w K mg B CX0 1 g fd ps (spIt K C fld B.objs.size)) ∧ Binds K fd ps []
section
variable {X : Cx} {W : WX} {c : Cn} {tg e : Expr} {f : EF D} {C g : Addr} {nm fld : Str}
theorem di_ownP (hc : Wi.It1 c.K C g) (mC : c.mg nm = some (.ref C)) (I : ItA X.prog X.w c.K c.mg C g fld) (hr : Room 1 X.A) (he : PE X e (rd c W f)) (hK : X.K = c.K := by rfl) (hM : X.mg = c.mg := by rfl) : PI X tg e (ri c W (iOwnI nm fld f)) := by
  obtain ⟨fd, ps, F, b⟩ := I.ex
  exact di_own hc mC F b hr he hK hM
theorem rd_iter {K : PySem.W.Frag} {n : Nat} {N : List Str} {vs : List V} {H : Hp} {Q : VK} {E : XK} (hN : N.length = 1) (h : spIt K C fld n vs H Q E) : tFld K (tVar 0) fld (start N vs) H fun v H1 => Wi.rIterT K n [v] H1 Q := by
  obtain ⟨a, dx, fs, l, xs, rfl, h1, h2, h3, h4, h5, h6⟩ := h
  exact ⟨.ref a, rfl, a, C, dx, fs, .ref l, rfl, h1, h2, h3, h4, l, xs, rfl, h5, h6⟩
theorem len_it {K : PySem.W.Frag} {n : Nat} {vs : List V} {H : Hp} {Q : VK} {E : XK} (h : spIt K C fld n vs H Q E) : vs.length = 1 := by
  obtain ⟨a, dx, fs, l, xs, rfl, _⟩ := h
  rfl
end
end Fw
namespace Fw
open PySem PySem.Spec PyProof.Rows L2 Dz Vz
def sHand (i : Nat) (u : SF) : SF := fun δ h => match δ[i]?, h with
  | some (some (.hl ds)), .non => if slF (δ.set i none) && ds.all D.fr then match u (δ.set i (some .me)) (.hl ds) with
    | .ret d _ => .ret d .non
    | _ => .bad
    else .bad
  | _, _ => .bad
section
variable {X : Cx} {W : WX} {c : Cn} {ss : List Stmt} {u : SF}
theorem slF_cons {o : Option D} {δ : DE} (h : slF (o :: δ) = true) : slF [o] = true ∧ slF δ = true := by
  unfold slF at h ⊢
  rw [List.all_cons, Bool.and_eq_true] at h
  exact ⟨by rw [List.all_cons, h.1]; rfl, h.2⟩
theorem slF_own {ha : Option Addr} {G H : Hp} {v : V} {d : D} {f : List Addr} (h : Own c ha G H v d f) (k : slF [some d] = true) : Dq c ha G v d := by
  cases h with
  | frz h => exact h
  | hl _ _ _ => cases k
theorem ownS_rest {G H : Hp} {hb : Option Addr} : ∀ {σ : L2.St} {δ : DE} {fp : List Addr}, OwnS c none G H σ δ fp → slF δ = true → OwnS c hb G H σ δ []
  | _, _, _, .nil, _ => .nil
  | _, _, _, .non o t, k => .non o (ownS_rest t (slF_cons k).2)
  | _, _, _, .me e t, k => nomatch e
  | _, _, _, .ex e m x t, k => nomatch (slF_cons k).1
  | _, _, _, .some h t, k => .some (f := []) (fp := []) (.frz (dq_ha (slF_own h (slF_cons k).1))) (ownS_rest t (slF_cons k).2)
theorem ownS_hand {G H : Hp} {a : Addr} : ∀ {i : Nat} {σ : L2.St} {δ : DE} {fp : List Addr}, OwnS c none G H σ δ fp → σ[i]? = some (some (.ref a)) → slF (δ.set i none) = true → OwnS c (some a) G H σ (δ.set i (some .me)) []
  | _, _, _, _, .nil, e, _ => by simp at e
  | 0, _, _, _, .non o t, e, k => by
    have e := Option.some.inj e
    subst e
    exact .me rfl (ownS_rest t (slF_cons k).2)
  | 0, _, _, _, .me e0 t, e, k => nomatch e0
  | 0, _, _, _, .ex e1 m x t, e, k => by
    cases Option.some.inj e
    exact .me rfl (ownS_rest t (slF_cons k).2)
  | 0, _, _, _, .some h t, e, k => by
    cases Option.some.inj e
    exact .me rfl (ownS_rest t (slF_cons k).2)
  | i + 1, _, _, _, .non o t, e, k => .non o (ownS_hand (i := i) t e (slF_cons k).2)
  | i + 1, _, _, _, .me e0 t, e, k => nomatch e0
  | i + 1, _, _, _, .ex e1 m x t, e, k => nomatch (slF_cons k).1
  | i + 1, _, _, _, .some h t, e, k => .some (f := []) (fp := []) (.frz (dq_ha (slF_own h (slF_cons k).1))) (ownS_hand (i := i) t e (slF_cons k).2)
theorem dss_hand (i : Nat) (p : PSs X ss (rs c W false u)) : PSs X ss (rs c W false (sHand i u)) := pss_to p fun Dn σ H x => by
  obtain ⟨ha, G0, B, G, δ, h, st, q⟩ := x
  unfold sHand at q
  split at q
  · rename_i ds e
    by_cases hc : (slF (δ.set i none) && ds.all D.fr) = true
    case neg => rw [if_neg hc] at q; exact q.elim
    rw [if_pos hc] at q
    rw [Bool.and_eq_true] at hc
    have hn : ha = none := by cases st.hd; assumption
    subst hn
    obtain ⟨fp, os, n, k⟩ := st.sl
    obtain ⟨v, f1, f, f2, h1, ef, ho, _⟩ := ownS_slot os e rfl
    cases ho with
    | frz z => cases z
    | @hl a xs _ fq g1 g2 g3 =>
      obtain ⟨da, rfl⟩ := ownAll_fr g3 hc.2
      have hB : B a = none := (k a (by rw [ef]; simp)).1
      refine ⟨some a, G, H, G, δ.set i (some .me), .hl ds, ⟨⟨[], ownS_hand os h1 hc.1, by simp, fun a z => nomatch z⟩, Mv.refl st.gh, fun _ _ _ e => e, .hand rfl g2 g1 (dqAll_ha da), fun b e => by cases e; rw [g1]; exact fun z => nomatch z⟩, ?_⟩
      cases r : u (δ.set i (some .me)) (.hl ds) with
      | ret d h' =>
        rw [r] at q
        intro v G' H' af res
        refine q v G' H' ⟨st.mv.trans af.mv, fun b o _ eb => ?_, .non rfl⟩ (dq_ha res)
        exact af.bt b o (fun z => by cases z; rw [hB] at eb; cases eb) (st.bt b o (fun z => nomatch z) eb)
      | _ => rw [r] at q; exact q.elim
  · exact q.elim
end
end Fw
namespace Fw
open PySem PySem.Spec PyProof.Rows L2 Dz Vz
/-- a hand at a: its cells at c -/
structure HandAt (H : Hp) (a c : Addr) (cs : List Int) (p g t : Int) : Prop where
  l : H a = some (.lst [.ref c, .int p, .int g, .int t])
  c : H c = some (.lst (cs.map V.int))
  n : ∀ z ∈ cs, 0 ≤ z
  le : cs.length ≤ 63
  t0 : 0 ≤ t
  t1 : t < 2147483648
theorem HandAt.ne {H : Hp} {a c : Addr} {cs : List Int} {p g t : Int} (h : HandAt H a c cs p g t) : c ≠ a := fun z => by
  have e := h.l
  rw [← z, h.c] at e
  have e2 := HO.lst.inj (Option.some.inj e)
  cases cs with
  | nil => cases e2
  | cons y ys => cases e2
def spHand (K : PySem.W.Frag) : Sp := fun vs H Q _ => ∃ (s : Addr) (ns : List Int), vs = [.ref s] ∧ SqL K H s (ns.map V.int) ∧ ns.length ≤ 63 ∧
  ∀ (a c : Addr) (cs : List Int) (t : Int) (H' : Hp), Same H H' → HandAt H' a c cs 0 0 t → Q (.ref a) H'
structure HandOk (P : Program) (w : World) (K : PySem.W.Frag) (mg : Str → Option Value) (base : Heap) (g : Addr) : Prop where
  ex : ∃ fd, FnOk P w K mg base CX0 1 g fd ["_law_script"] (spHand K) ∧ Binds K fd ["_law_script"] []
  kp : PySem.W.keepIn K (.ref g) = true
/-- what a hand is at the start -/
def hand0 (cs : List Int) (t : Int) : D := .hl [.lst (cs.map D.int), .int 0, .int 0, .int t]
/-- the law's body, behind its hand, ends in True -/
def LawB (N : Nat) (u : SF) : Prop := ∀ (cs : List Int) (t : Int), (∀ z ∈ cs, 0 ≤ z) → cs.length ≤ 63 → 0 ≤ t → t < 2147483648 → ∃ h', u (none :: some .me :: List.replicate N none) (hand0 cs t) = .ret (.bl true) h'
def spLaw (K : PySem.W.Frag) : Sp := fun vs H Q _ => ∃ (s : Addr) (ns : List Int), vs = [.ref s] ∧ SqL K H s (ns.map V.int) ∧ ns.length ≤ 63 ∧ ∀ H', Q (.bl true) H'
theorem ownS_none {c : Cn} {ha : Option Addr} {G H : Hp} : ∀ (σ : L2.St), OwnS c ha G H σ (List.replicate σ.length none) []
  | [] => .nil
  | o :: σ => .non o (ownS_none σ)
theorem ints_dq {c : Cn} {ha : Option Addr} {G : Hp} : ∀ (cs : List Int), DqAll c ha G (cs.map V.int) (cs.map D.int)
  | [] => .nil
  | i :: cs => .cons (.int i) (ints_dq cs)
theorem law_read {c : Cn} {N : Nat} {u : SF} {W : WX} {E : XK} {vs : List V} {H : Hp} {Q : VK} {names : List Str} {CXE : XK} (hN : names.length = N + 2) (hu : LawB N u) (h : spLaw c.K vs H Q E) :
    tSeq (tAsg (tCall (spHand c.K) [] CXE (tCons (tVar 0) tNil)) (gName 1)) (rs c W false u) { nx := fun _ H' => Q .non H', rt := Q } (start names vs) H := by
  obtain ⟨s, ns, rfl, hS, hl, q⟩ := h
  refine ⟨.ref s, rfl, s, ns, rfl, hS, hl, fun a cc cs t H' sm hd => ?_⟩
  obtain ⟨h', e⟩ := hu cs t hd.n hd.le hd.t0 hd.t1
  have hG : Same (fun b => if b = a then none else H' b) H' := fun b o e => by
    replace e : (if b = a then none else H' b) = some o := e
    by_cases hb : b = a
    · rw [if_pos hb] at e; cases e
    · rw [if_neg hb] at e; exact e
  have hst : (start names [.ref s]).set 1 (some (.ref a)) = some (.ref s) :: some (.ref a) :: List.replicate N none := by
    unfold L2.start
    rw [hN]
    rfl
  show rs c W false u _ ((start names [.ref s]).set 1 (some (.ref a))) H'
  rw [hst]
  refine ⟨some a, fun b => if b = a then none else H' b, H', fun b => if b = a then none else H' b, none :: some .me :: List.replicate N none, hand0 cs t, ⟨⟨[], ?_, by simp, fun a z => nomatch z⟩, Mv.refl hG, fun _ _ _ e => e, .hand rfl (if_pos rfl) hd.l ?_, fun b e => by cases e; rw [hd.l]; exact fun z => nomatch z⟩, ?_⟩
  · refine .non _ (.me rfl ?_)
    have z := ownS_none (c := c) (ha := some a) (G := fun b => if b = a then none else H' b) (H := H') (List.replicate N none)
    rw [List.length_replicate] at z
    exact z
  · exact .cons (.lst (by show (if cc = a then none else H' cc) = _; rw [if_neg hd.ne]; exact hd.c) (ints_dq cs)) (.cons (.int _) (.cons (.int _) (.cons (.int _) .nil)))
  · rw [e]
    intro v G' H2 af res
    cases (show Dq c (some a) G' v (.bl true) from res)
    exact q H2
theorem len_law {K : PySem.W.Frag} {vs : List V} {H : Hp} {Q : VK} {E : XK} (h : spLaw K vs H Q E) : vs.length = 1 := by
  obtain ⟨s, ns, rfl, _⟩ := h
  rfl
end Fw
namespace Fw
open PySem PySem.Spec PyProof.Rows L2
theorem fn_calm0 {P : Program} {w : World} {K : PySem.W.Frag} {mg : Str → Option Value} {base : Heap} {k : Nat} {f : Addr} {fd : FuncData} {ps : List Str} (F : FnOk P w K mg base (L2.CX P w) k f fd ps (spLaw K)) : FnOk P w K mg base CX0 k f fd ps (spLaw K) := by
  have z := fn_calm F
  exact ⟨fun vs H Q E h => z.len vs H Q E h, fun A outer s H args us vs Q E r e b v h => z.run A outer s H args us vs Q E r e b v h⟩
end Fw
namespace Fw
open PySem PySem.Spec PyProof.Rows L2 Dz Vz
def seqP : PyData → Option (List PyData)
  | .list ds => some ds
  | .tuple ds => some ds
  | _ => none
def inP (x y : D) : Option Bool := match toPy x, toPy y with
  | some d, some p => match seqP p with
    | some ds => if SeqAt.shaped d && SeqAt.shaped p then some (ds.any fun z => PyData.eqv z d) else none
    | none => none
  | _, _ => none
def oInP (x y : D) : Option D := (inP x y).map .bl
def oNinP (x y : D) : Option D := (inP x y).map fun b => .bl (!b)
def rInP (K : PySem.W.Frag) (n : Bool) : R2 := fun x y H Q => ∃ d p ds, Dp K H x d ∧ Dp K H y p ∧ seqP p = some ds ∧ SeqAt.shaped d = true ∧ SeqAt.shaped p = true ∧ Q (.bl (n ^^ (ds.any fun z => PyData.eqv z d))) H
theorem room_in_shapedT {d : PyData} {ds : List PyData} {u : Nat} (sd : SeqAt.shaped d = true) (hu : u + 65 < cLine) : u + 1 + min (PyData.depthAll ds) d.depth < cLine := by
  unfold SeqAt.shaped at sd
  rw [Bool.and_eq_true, decide_eq_true_eq] at sd
  have := sd.2
  omega
section
variable {X : Cx}
theorem op_inP (hu : X.A.units + 65 < cLine) : OpR X (compareOp .In) (rInP X.K false) := by
  intro pins s σ H x y v u Q I rx ry h
  obtain ⟨d, p, ds, hd, he, es, sd, se, q⟩ := h
  rw [Bool.false_xor] at q
  obtain ⟨as, r1⟩ := Dp.reads I d x v hd rx
  obtain ⟨bs, r2⟩ := Dp.reads I p y u he ry
  cases p <;> cases es
  · exact SeqAt.in_list_reads r2 r1 (SeqAt.canLay_of_shaped se) (SeqAt.canLay_of_shaped sd) (room_in_shapedT sd hu) ⟨.bl _, H, I, rfl, q⟩
  · exact SeqAt.in_tuple_reads r2 r1 (SeqAt.canLay_of_shaped se) (SeqAt.canLay_of_shaped sd) (room_in_shapedT sd hu) ⟨.bl _, H, I, rfl, q⟩
theorem op_ninP (hu : X.A.units + 65 < cLine) : OpR X (compareOp .NotIn) (rInP X.K true) := by
  intro pins s σ H x y v u Q I rx ry h
  obtain ⟨d, p, ds, hd, he, es, sd, se, q⟩ := h
  rw [Bool.true_xor] at q
  obtain ⟨as, r1⟩ := Dp.reads I d x v hd rx
  obtain ⟨bs, r2⟩ := Dp.reads I p y u he ry
  cases p <;> cases es
  · exact SeqAt.notIn_list_reads r2 r1 (SeqAt.canLay_of_shaped se) (SeqAt.canLay_of_shaped sd) (room_in_shapedT sd hu) ⟨.bl _, H, I, rfl, q⟩
  · exact SeqAt.notIn_tuple_reads r2 r1 (SeqAt.canLay_of_shaped se) (SeqAt.canLay_of_shaped sd) (room_in_shapedT sd hu) ⟨.bl _, H, I, rfl, q⟩
end
theorem inP_get {x y : D} {b : Bool} (h : inP x y = some b) : ∃ d p ds, toPy x = some d ∧ toPy y = some p ∧ seqP p = some ds ∧ SeqAt.shaped d = true ∧ SeqAt.shaped p = true ∧ (ds.any fun z => PyData.eqv z d) = b := by
  unfold inP at h
  split at h
  · rename_i d p e1 e2
    split at h
    · rename_i ds e3
      split at h
      · rename_i s
        rw [Bool.and_eq_true] at s
        cases h
        exact ⟨d, p, ds, e1, e2, e3, s.1, s.2, rfl⟩
      · cases h
    · cases h
  · cases h
section
variable {X : Cx} {c : Cn}
theorem d_inP : OpD c (rInP c.K false) oInP := by
  intro ha G H x y d v w Q s dx dy q fin
  unfold oInP at q
  cases e : inP x y with
  | none => rw [e] at q; cases q
  | some b =>
    rw [e] at q
    cases q
    obtain ⟨p1, p2, ds, e1, e2, e3, s1, s2, rfl⟩ := inP_get e
    refine ⟨p1, p2, ds, dp_of (dq_mono s dx) p1 e1, dp_of (dq_mono s dy) p2 e2, e3, s1, s2, ?_⟩
    rw [Bool.false_xor]
    exact fin _ G H (Mv.refl s) (Same.refl _) (.bl _)
theorem d_ninP : OpD c (rInP c.K true) oNinP := by
  intro ha G H x y d v w Q s dx dy q fin
  unfold oNinP at q
  cases e : inP x y with
  | none => rw [e] at q; cases q
  | some b =>
    rw [e] at q
    cases q
    obtain ⟨p1, p2, ds, e1, e2, e3, s1, s2, rfl⟩ := inP_get e
    refine ⟨p1, p2, ds, dp_of (dq_mono s dx) p1 e1, dp_of (dq_mono s dy) p2 e2, e3, s1, s2, ?_⟩
    rw [Bool.true_xor]
    exact fin _ G H (Mv.refl s) (Same.refl _) (.bl _)
theorem c_inP (hu : X.A.units + 65 < cLine) (hK : X.K = c.K) : OpR X (compareOp .In) (rInP c.K false) := by rw [← hK]; exact op_inP hu
theorem c_ninP (hu : X.A.units + 65 < cLine) (hK : X.K = c.K) : OpR X (compareOp .NotIn) (rInP c.K true) := by rw [← hK]; exact op_ninP hu
end
def rgB (a b : Int) : Bool := rgOk a && rgOk b
def eRg1 (mk : List D → D) (f : EF D) : EF D := fun δ h => (f δ h).bind fun y h1 => Ex.of (match y with
  | .int j => if rgB 0 j then some (mk (rgD 0 j.toNat)) else none
  | _ => none) h1
def eRg2 (mk : List D → D) (fa fb : EF D) : EF D := fun δ h => (fa δ h).bind fun x h1 => (fb δ h1).bind fun y h2 => Ex.of (match x, y with
  | .int i, .int j => if rgB i j then some (mk (rgD i (j - i).toNat)) else none
  | _, _ => none) h2
theorem rg_dq {c : Cn} {ha : Option Addr} {G : Hp} (a b : Int) : DqAll c ha G (rgV a b) (rgD a (b - a).toNat) := by
  unfold rgV rgD
  generalize List.range (b - a).toNat = l
  induction l with
  | nil => exact .nil
  | cons i l ih => exact .cons (.int _) ih
theorem rgB_ok {a b : Int} (h : rgB a b = true) : RgOk a b := by
  unfold rgB at h
  rw [Bool.and_eq_true] at h
  obtain ⟨x1, x2⟩ := rgOk_get h.1
  obtain ⟨x3, x4⟩ := rgOk_get h.2
  exact ⟨by omega, by omega, by omega, by omega, by omega⟩
section
variable {X : Cx} {W : WX} {c : Cn} {a b : Expr} {p p2 pos pos2 : Pos} {f fa fb : EF D}
theorem dx_rgT1 (hc : X.calm = true) (hg : Gl X "tuple") (hm : X.mg "tuple" = none) (hg2 : Gl X "range") (hm2 : X.mg "range" = none) (ha : PE X a (rd c W f)) (na : starEach [a] X.env = (false, eval a X.env) :: starEach [] X.env := by rfl)
    (ne : starEach [.Call (.Name "range" p2) [a] [] pos2] X.env = (false, eval (.Call (.Name "range" p2) [a] [] pos2) X.env) :: starEach [] X.env := by rfl) : PE X (.Call (.Name "tuple" p) [.Call (.Name "range" p2) [a] [] pos2] [] pos) (rd c W (eRg1 .tup f)) := pe_to (pe_tupRg hc hg hm (prg_1 hg2 hm2 ha na) ne) fun σ H Q x => by
  obtain ⟨ha, G0, B, G, δ, h, st, p⟩ := x
  refine ⟨ha, G0, B, G, δ, h, st, post_imp (post_bind p) fun y h1 G1 H1 af p1 v dv => ?_⟩
  obtain ⟨d, e, q⟩ := post_of p1
  split at e
  · rename_i j
    obtain ⟨z, rfl⟩ := if_get e
    cases dv
    refine ⟨j, rfl, rgB_ok z, fun t ht => ?_⟩
    have m := Mv.new (o := .tup (rgV 0 j)) af.gh ht
    refine q _ _ (.of af.gh af.hd m (same_new ht)) _ (.tup (SqT.of upd_same) ?_)
    have := rg_dq (c := c) (ha := ha) (G := upd G1 t (.tup (rgV 0 j))) 0 j
    rw [Int.sub_zero] at this
    exact this
  · cases e
theorem dn_rgL1 (hc : X.calm = true) (hg : Gl X "list") (hm : X.mg "list" = none) (hg2 : Gl X "range") (hm2 : X.mg "range" = none) (ha : PE X a (rd c W f)) (na : starEach [a] X.env = (false, eval a X.env) :: starEach [] X.env := by rfl)
    (ne : starEach [.Call (.Name "range" p2) [a] [] pos2] X.env = (false, eval (.Call (.Name "range" p2) [a] [] pos2) X.env) :: starEach [] X.env := by rfl) : PE X (.Call (.Name "list" p) [.Call (.Name "range" p2) [a] [] pos2] [] pos) (rn c W (eRg1 .hl f)) := pn_to (pe_listRg hc hg hm (prg_1 hg2 hm2 ha na) ne) fun σ H Q x => by
  obtain ⟨ha, G0, B, G, δ, h, st, p⟩ := x
  refine ⟨ha, G0, B, G, δ, h, st, post_imp (post_bind p) fun y h1 G1 H1 af p1 v dv => ?_⟩
  obtain ⟨d, e, q⟩ := post_of p1
  split at e
  · rename_i j
    obtain ⟨z, rfl⟩ := if_get e
    cases dv
    refine ⟨j, rfl, rgB_ok z, fun t ht => ?_⟩
    have := rg_dq (c := c) (ha := ha) (G := G1) 0 j
    rw [Int.sub_zero] at this
    exact q _ _ (.of af.gh af.hd (Mv.hid af.gh ht) (same_new ht)) _ (nw_from af (nw_lst af.gh ht this))
  · cases e
theorem dx_rgT2 (hc : X.calm = true) (hg : Gl X "tuple") (hm : X.mg "tuple" = none) (hg2 : Gl X "range") (hm2 : X.mg "range" = none) (ha : PE X a (rd c W fa)) (hb : PE X b (rd c W fb)) (na : starEach [a, b] X.env = (false, eval a X.env) :: starEach [b] X.env := by rfl)
    (nb : starEach [b] X.env = (false, eval b X.env) :: starEach [] X.env := by rfl) (hp : (backTo pos2 (starEach [b] X.env)).any (·.1) = false := by rfl)
    (ne : starEach [.Call (.Name "range" p2) [a, b] [] pos2] X.env = (false, eval (.Call (.Name "range" p2) [a, b] [] pos2) X.env) :: starEach [] X.env := by rfl) : PE X (.Call (.Name "tuple" p) [.Call (.Name "range" p2) [a, b] [] pos2] [] pos) (rd c W (eRg2 .tup fa fb)) := pe_to (pe_tupRg hc hg hm (prg_2 hg2 hm2 ha hb na nb hp) ne) fun σ H Q x => by
  obtain ⟨ha, G0, B, G, δ, h, st, p⟩ := x
  refine ⟨ha, G0, B, G, δ, h, st, post_imp (post_bind p) fun x h1 G1 H1 af p1 v dv => ⟨ha, G0, B, G1, δ, h1, st.to af, post_imp (post_bind p1) fun y h2 G2 H2 af2 p2 w dw => ?_⟩⟩
  obtain ⟨d, e, q⟩ := post_of p2
  split at e
  · rename_i i j
    obtain ⟨z, rfl⟩ := if_get e
    cases dv
    cases dw
    refine ⟨i, j, rfl, rfl, rgB_ok z, fun t ht => ?_⟩
    have m := Mv.new (o := .tup (rgV i j)) af2.gh ht
    exact q _ _ (.of af2.gh af2.hd m (same_new ht)) _ (.tup (SqT.of upd_same) (rg_dq i j))
  · cases e
theorem dn_rgL2 (hc : X.calm = true) (hg : Gl X "list") (hm : X.mg "list" = none) (hg2 : Gl X "range") (hm2 : X.mg "range" = none) (ha : PE X a (rd c W fa)) (hb : PE X b (rd c W fb)) (na : starEach [a, b] X.env = (false, eval a X.env) :: starEach [b] X.env := by rfl)
    (nb : starEach [b] X.env = (false, eval b X.env) :: starEach [] X.env := by rfl) (hp : (backTo pos2 (starEach [b] X.env)).any (·.1) = false := by rfl)
    (ne : starEach [.Call (.Name "range" p2) [a, b] [] pos2] X.env = (false, eval (.Call (.Name "range" p2) [a, b] [] pos2) X.env) :: starEach [] X.env := by rfl) : PE X (.Call (.Name "list" p) [.Call (.Name "range" p2) [a, b] [] pos2] [] pos) (rn c W (eRg2 .hl fa fb)) := pn_to (pe_listRg hc hg hm (prg_2 hg2 hm2 ha hb na nb hp) ne) fun σ H Q x => by
  obtain ⟨ha, G0, B, G, δ, h, st, p⟩ := x
  refine ⟨ha, G0, B, G, δ, h, st, post_imp (post_bind p) fun x h1 G1 H1 af p1 v dv => ⟨ha, G0, B, G1, δ, h1, st.to af, post_imp (post_bind p1) fun y h2 G2 H2 af2 p2 w dw => ?_⟩⟩
  obtain ⟨d, e, q⟩ := post_of p2
  split at e
  · rename_i i j
    obtain ⟨z, rfl⟩ := if_get e
    cases dv
    cases dw
    refine ⟨i, j, rfl, rfl, rgB_ok z, fun t ht => ?_⟩
    exact q _ _ (.of af2.gh af2.hd (Mv.hid af2.gh ht) (same_new ht)) _ (nw_from (af.trans af2) (nw_lst af2.gh ht (rg_dq i j)))
  · cases e
end
end Fw
namespace L2
open PySem PySem.Spec
theorem Room.units65 {k : Nat} {A : Around} (r : Room k A) : A.units + 65 < cLine := by have := r.un; omega
end L2
namespace Fw
open PySem PySem.Spec PyProof.Rows L2 Dz Vz
def stGo (k : EF Pl) (fi : EF D) (y : D) : SF := fun δ h => (k δ h).fl δ fun p h2 => (fi δ h2).fl δ fun z h3 => match plD δ p, z with
  | some (.hl ds), .int i => match ixN ds.length i with
    | some j => .nx (plS δ p (.hl (ds.set j y))) h3
    | none => .bad
  | _, _ => .bad
section
variable {X : Cx} {W : WX} {c : Cn} {nw : Bool} {e a b a1 b1 a2 b2 e1 e2 : Expr} {es : List Expr} {pos : Pos} {te : TE} {f fa fb fc f1 f2 : EF D} {k k1 k2 : EF Pl} {u : SF} {fs : EF (List D)}
theorem gs_st {ha : Option Addr} {G0 B G H : Hp} {σ : L2.St} {δ : DE} {h y : D} {w : V} {Dn : Ends} (st : Sta c ha G0 B G H σ δ h) (dw : Dq c ha G w y) (p1 : PostS c ha W nw G0 B G (stGo k fb y δ h) Dn) : gSub (rp c W k) (rd c W fb) rSetL w σ H Dn.nx := by
  refine ⟨ha, G0, B, G, δ, h, st, post_imp (post_fl st p1) fun pl h2 G2 H2 af2 p2 v pv => ?_⟩
  have st2 := st.to af2
  refine ⟨ha, G0, B, G2, δ, h2, st2, post_imp (post_fl st2 p2) fun z h3 G3 H3 af3 p3 iv di => ?_⟩
  have st3 := st2.to af3
  split at p3
  · rename_i ds i e0
    split at p3
    · rename_i j ej
      cases di
      obtain ⟨a, xs, f1, fd, f2, rfl, hl, oa, n, kk, ch⟩ := st3.change e0 (pv.keep af3)
      obtain ⟨_, hj, _, _⟩ := ixN_seq ej
      obtain ⟨dj, edj⟩ : ∃ dj, ds[j]? = some dj := ⟨ds[j], List.getElem?_eq_getElem hj⟩
      obtain ⟨vj, g1, g, g2, e1, rfl, oj, zoom⟩ := ownAll_item oa edj
      have nb := List.nodup_append.mp n
      have nc := List.nodup_append.mp nb.2.1
      have na := (List.nodup_cons.mp nc.1)
      have hm : ∀ b, b ∈ g1 ++ g2 → b ∈ g1 ++ (g ++ g2) := fun b hb => (List.mem_append.mp hb).elim (List.mem_append_left _) fun z => List.mem_append_right _ (List.mem_append_right _ z)
      refine ⟨a, xs, i, j, rfl, rfl, hl, by rw [ownAll_len oa]; exact ej, p3 σ G3 _ (ch (es := ds.set j y) (fe := g1 ++ ([] ++ g2)) (.refl st3.gh st3.hd) (zoom (Same.refl _) (fun b hb => ⟨upd_ne fun z => na.1 (by rw [← z]; exact hm b hb), ?_⟩) (.frz (dq_mono (af2.gg.trans af3.gg) dw))) ?_ fun b hb => ?_) (Same.refl _)⟩
      · exact (ownAll_at oa b (hm b hb)).1
      · have sb : (f1 ++ ((a :: (g1 ++ ([] ++ g2))) ++ f2)).Sublist (f1 ++ ((a :: (g1 ++ (g ++ g2))) ++ f2)) := by
          refine List.Sublist.append (List.Sublist.refl _) (List.Sublist.append ((List.Sublist.append (List.Sublist.refl _) (List.Sublist.append (List.nil_sublist _) (List.Sublist.refl _))).cons_cons a) (List.Sublist.refl _))
        exact n.sublist sb
      · have hb2 : b ∈ g1 ++ (g ++ g2) := hm b (by rw [List.nil_append] at hb; exact hb)
        have := kk b (List.mem_append_right _ (List.mem_append_left _ (List.mem_cons_of_mem _ hb2)))
        exact ⟨this.1, this.2.1⟩
    · exact p3.elim
  · exact p3.elim
def sSwap (k1 : EF Pl) (f1 : EF D) (k2 : EF Pl) (f2 : EF D) (fs : EF (List D)) : SF := fun δ h => (fs δ h).fl δ fun ds h1 => match ds with
  | [x, y] => (stGo k1 f1 x δ h1).bind (stGo k2 f2 y)
  | _ => .bad
theorem stGo_end {k : EF Pl} {fi : EF D} {y : D} {δ : DE} {h : D} {r : Fl} (e : stGo k fi y δ h = r) : (∃ δ' h', r = .nx δ' h') ∨ (∃ n xs h', r = .exc n xs δ h') ∨ r = .bad := by
  unfold stGo at e
  cases q : k δ h with
  | ok p h2 =>
    rw [q] at e
    simp only [Ex.fl] at e
    cases q2 : fi δ h2 with
    | ok z h3 =>
      rw [q2] at e
      simp only at e
      split at e
      · split at e
        · exact .inl ⟨_, _, e.symm⟩
        · exact .inr (.inr e.symm)
      · exact .inr (.inr e.symm)
    | exc n xs h3 => rw [q2] at e; exact .inr (.inl ⟨n, xs, h3, e.symm⟩)
    | bad => rw [q2] at e; exact .inr (.inr e.symm)
  | exc n xs h2 => rw [q] at e; exact .inr (.inl ⟨n, xs, h2, e.symm⟩)
  | bad => rw [q] at e; exact .inr (.inr e.symm)
theorem ds_swap {p1 p2 pt pt2 : Pos} {kt kt2} (hc : X.calm = true) (hs : PA X es (ra c W fs)) (hk1 : PE X a1 (rp c W k1)) (hb1 : PE X b1 (rd c W f1)) (hk2 : PE X a2 (rp c W k2)) (hb2 : PE X b2 (rd c W f2)) (hK : X.K = c.K := by rfl)
    (hsw : swapsWithSole [.Tuple [.Subscript a1 b1 p1, .Subscript a2 b2 p2] kt pt] (.Tuple es kt2 pt2) pos.line X.env = pure false := by rfl)
    (hw : swappedStores [.Tuple [.Subscript a1 b1 p1, .Subscript a2 b2 p2] kt pt] (.Tuple es kt2 pt2) X.env = pure none := by rfl)
    (h1 : (assignEach [.Tuple [.Subscript a1 b1 p1, .Subscript a2 b2 p2] kt pt] X.env).map (·.2) = [assign (.Tuple [.Subscript a1 b1 p1, .Subscript a2 b2 p2] kt pt) X.env] := by rfl)
    (hn : (assignEach [.Subscript a1 b1 p1, .Subscript a2 b2 p2] X.env).length = 2 := by rfl) (hst : (assignEach [.Subscript a1 b1 p1, .Subscript a2 b2 p2] X.env).findIdx? (·.1) = none := by rfl)
    (hp1 : (assignEach [.Subscript a1 b1 p1, .Subscript a2 b2 p2] X.env).map (·.2) = assign (.Subscript a1 b1 p1) X.env :: (assignEach [.Subscript a2 b2 p2] X.env).map (·.2) := by rfl)
    (hp2 : (assignEach [.Subscript a2 b2 p2] X.env).map (·.2) = assign (.Subscript a2 b2 p2) X.env :: (assignEach [] X.env).map (·.2) := by rfl)
    (ha1 : ∀ v, assign (.Subscript a1 b1 p1) X.env v = (do
      let ov ← holding [v] (eval a1 X.env)
      let iv ← holding [v, ov] (eval b1 X.env)
      standAt p1
      holding [v, ov, iv] (setItem ov iv v)
      release [v, ov, iv] []) := by intro _; rfl)
    (ha2 : ∀ v, assign (.Subscript a2 b2 p2) X.env v = (do
      let ov ← holding [v] (eval a2 X.env)
      let iv ← holding [v, ov] (eval b2 X.env)
      standAt p2
      holding [v, ov, iv] (setItem ov iv v)
      release [v, ov, iv] []) := by intro _; rfl) : PS X (.Assign [.Tuple [.Subscript a1 b1 p1, .Subscript a2 b2 p2] kt pt] (.Tuple es kt2 pt2) pos) (rs c W nw (sSwap k1 f1 k2 f2 fs)) :=
  ps_to (ps_asg (dx_tup hs) (pg_tup hc (pgs_cons (pg_sub hk1 hb1 set_list ha1) (pgs_cons (pg_sub hk2 hb2 set_list ha2) pgs_nil hp2) hp1) hn hst) hsw hw h1) fun Dn σ H x => by
    obtain ⟨ha, G0, B, G, δ, h, st, p⟩ := x
    unfold sSwap at p
    refine ⟨ha, G0, B, G, δ, h, st, ?_⟩
    unfold eTup
    cases r : fs δ h with
    | ok ds hh =>
      rw [r] at p
      rcases ds with _ | ⟨x, _ | ⟨y, _ | ⟨zz, zs⟩⟩⟩
      · exact p.elim
      · exact p.elim
      · replace p : PostS c ha W nw G0 B G ((stGo k1 f1 x δ hh).bind (stGo k2 f2 y)) Dn := p
        show Post c ha W σ G H (Ex.of (if szOk ([x, y] : List D).length = true then some (D.tup [x, y]) else none) hh) _
        have z : szOk ([x, y] : List D).length = true := rfl
        rw [if_pos z]
        intro G1 H1 af v dv
        have st1 := st.to af
        cases dv with
        | tup hq hd =>
          rename_i t xs
          obtain ⟨v1, v2, rfl, d1, d2⟩ := two_of hd
          refine ⟨t, [v1, v2], rfl, by rw [hK]; exact Evl.ex_t st1.gh hq, rfl, v1, [v2], rfl, ?_⟩
          have p' := posts_from (nw := nw) (W := W) (Dn := Dn) (G0 := G0) (B := B) af.gg p
          refine gs_st (nw := nw) (Dn := { Dn with nx := fun σ' H' => gCons (gSub (rp c W k2) (rd c W f2) rSetL) gNil [v2] σ' H' Dn.nx }) st1 d1 ?_
          rcases stGo_end (rfl : stGo k1 f1 x δ hh = _) with ⟨δ', h', e⟩ | ⟨n, xs, h', e⟩ | e
          · rw [e] at p' ⊢
            replace p' : PostS c ha W nw G0 B G1 (stGo k2 f2 y δ' h') Dn := p'
            intro σ' G' H' st' sm
            refine ⟨v2, [], rfl, gs_st (nw := nw) (Dn := { Dn with nx := fun σ' H' => gNil [] σ' H' Dn.nx }) st' (dq_mono sm d2) ?_⟩
            have p2 := posts_from (nw := nw) (W := W) (Dn := Dn) (G0 := G0) (B := B) sm p'
            cases q : stGo k2 f2 y δ' h' with
            | nx δ2 h2 => rw [q] at p2; exact fun σ2 G2 H2 s2 t2 => ⟨rfl, p2 σ2 G2 H2 s2 t2⟩
            | _ => rw [q] at p2; exact p2
          · rw [e] at p' ⊢
            exact p'
          · rw [e] at p'
            exact p'.elim
      · exact p.elim
    | exc n xs hh =>
      rw [r] at p
      exact fun C dd G1 H1 af m x => p σ C dd G H h G1 H1 st (Same.refl _) af m x
    | bad => rw [r] at p; exact p
end
end Fw
namespace Fw
open PySem PySem.Spec PyProof.Rows L2 Dz Vz
def flatD : D → Bool
  | .non => true
  | .bl _ => true
  | .int _ => true
  | .str _ => true
  | _ => false
def forgetO : Option D → Option D
  | some d => if d.fr then some d else none
  | none => none
def lendS (is : List Nat) (δ : DE) : DE := (is.foldr frzS δ).map forgetO
def eLend (is : List Nat) (f : EF D) : EF D := fun δ h => match f (lendS is δ) .non with
  | .ok d _ => if flatD d then .ok d h else .bad
  | _ => .bad
section
variable {X : Cx} {W : WX} {c : Cn} {e : Expr} {f : EF D} {ha hb : Option Addr} {G G0 B H G' H' : Hp} {σ : L2.St} {δ : DE} {h : D}
theorem ownS_forget : ∀ {σ : L2.St} {δ : DE} {fp : List Addr}, OwnS c ha G H σ δ fp → OwnS c none G H σ (δ.map forgetO) []
  | _, _, _, .nil => .nil
  | _, _, _, .non o t => .non o (ownS_forget t)
  | _, _, _, .me e t => .non _ (ownS_forget t)
  | _, _, _, .ex e m x t => .non _ (ownS_forget t)
  | _, _, _, .some (d := d) ho t => by
    rw [List.map_cons]
    unfold forgetO
    by_cases k : d.fr = true
    · simp only [k, if_true]
      exact .some (f := []) (fp := []) (.frz (dq_ha (own_fr ho k).1)) (ownS_forget t)
    · simp only [k, if_false]
      exact .non _ (ownS_forget t)
theorem Sta.frzs : ∀ (is : List Nat), Sta c ha G0 B G H σ δ h → ∃ G', Sta c ha G0 B G' H σ (is.foldr frzS δ) h ∧ Same G G'
  | [], st => ⟨G, st, Same.refl _⟩
  | i :: is, st => by
    obtain ⟨G1, st1, s1⟩ := Sta.frzs is st
    obtain ⟨G2, st2, s2⟩ := st1.frz i
    exact ⟨G2, st2, s1.trans s2⟩
theorem flat_dq {v : V} {d : D} (hd : Dq c ha G v d) (k : flatD d = true) : Dq c hb G' v d := by
  cases hd with
  | non => exact .non
  | bl b => exact .bl b
  | int i => exact .int i
  | str x => exact .str x
  | _ => cases k
theorem dx_lend (is : List Nat) (he : PE X e (rd c W f)) : PE X e (rd c W (eLend is f)) := pe_to he fun σ H Q x => by
  obtain ⟨ha, G0, B, G, δ, h, st, p⟩ := x
  obtain ⟨G1, st1, s1⟩ := st.frzs is
  obtain ⟨fp, os, _, _⟩ := st1.sl
  refine ⟨none, G1, H, G1, lendS is δ, .non, ⟨⟨[], ownS_forget os, by simp, fun a z => nomatch z⟩, Mv.refl st1.gh, fun _ _ _ e => e, .non rfl, fun a z => nomatch z⟩, ?_⟩
  unfold eLend at p
  cases r : f (lendS is δ) .non with
  | ok d h2 =>
    rw [r] at p
    by_cases k : flatD d = true
    · simp only [k, if_true] at p
      intro G2 H2 af v dv
      refine p G H2 ⟨⟨Same.refl _, s1.trans (af.mv.gg.trans af.mv.gh), fun _ _ => rfl, af.mv.dm⟩, fun b o _ eb => af.bt b o (fun z => nomatch z) eb, ?_⟩ v (flat_dq dv k)
      have kb : ∀ b o, H b = some o → H2 b = some o := fun b o eb => af.bt b o (fun z => nomatch z) eb
      cases st.hd with
      | non e => exact .non e
      | hand e g hl dq => exact .hand e g (kb _ _ hl) dq
      | self e g m co hl dq => exact .self e g m co (kb _ _ hl) dq
    · simp only [k, if_false] at p
      exact p.elim
  | exc n xs h2 => rw [r] at p; exact p.elim
  | bad => rw [r] at p; exact p.elim
end
end Fw
namespace Pd
open PySem PySem.Spec Fw
def tup_OFFERED : List D := [.int 0, .int 2, .int 3, .int 5, .int 7, .int 11, .int 13]
def F_is_whole : Fn := runF 3 (sSeq (sIf (eOr (eNot (eTru (eIs "int" (eV 0)))) (eTru (eIs "bool" (eV 0)))) (sRet (eC (.bl false))) sNil)
    (sRet (eB (eAnd (eT (eB (eOr (eT (eOp oIsN (eV 1) (eC .non))) (eT (eOp oGe (eV 0) (eV 1)))))) (eT (eB (eOr (eT (eOp oIsN (eV 2) (eC .non))) (eT (eOp oLe (eV 0) (eV 2))))))))))
def F_is_sequence : Fn := runF 1 (sRet (eIs2 "list" "tuple" (eV 0)))
def F_is_ratio : Fn := runF 3 (sSeq (sIf (eOr (eNot (eTru (eIs "tuple" (eV 0)))) (eT (eOp oNe (eBi kLen (eCons (eV 0) eNil)) (eC (.int 2))))) (sRet (eC (.bl false))) sNil)
    (sSeq (sAsg (bTp [(bNm 1), (bNm 2)]) (eV 0))
    (sRet (eB (eAnd (eT (eCall 3 F_is_whole [.non, .non] (eCons (eVm 1) eNil))) (eAnd (eT (eCall 3 F_is_whole [.non] (eCons (eVm 2) (eCons (eC (.int 1)) eNil)))) (eT (eOp oEq (eBi kGcd (eCons (eV 1) (eCons (eV 2) eNil))) (eC (.int 1))))))))))
def F_in_lowest_terms : Fn := runF 3 (sSeq (sSet 2 (eBi kGcd (eCons (eV 0) (eCons (eV 1) eNil))))
    (sSeq (sIf (eT (eOp oLt (eV 1) (eC (.int 0)))) (sSet 2 (eUn oNeg (eV 2))) sNil)
    (sRet (eTup (eCons (eOp oDiv (eV 0) (eV 2)) (eCons (eOp oDiv (eV 1) (eV 2)) eNil))))))
def F_ratio_times : Fn := runF 2 (sRet (eCall 2 F_in_lowest_terms [] (eCons (eOp oMul (eOp oIx (eV 0) (eC (.int 0))) (eOp oIx (eV 1) (eC (.int 0)))) (eCons (eOp oMul (eOp oIx (eV 0) (eC (.int 1))) (eOp oIx (eV 1) (eC (.int 1)))) eNil))))
def F_ratio_over : Fn := runF 2 (sSeq (sIf (eT (eOp oEq (eOp oIx (eV 1) (eC (.int 0))) (eC (.int 0)))) (sRaise0 "DividedByNought") sNil)
    (sRet (eCall 2 F_in_lowest_terms [] (eCons (eOp oMul (eOp oIx (eV 0) (eC (.int 0))) (eOp oIx (eV 1) (eC (.int 1)))) (eCons (eOp oMul (eOp oIx (eV 0) (eC (.int 1))) (eOp oIx (eV 1) (eC (.int 0)))) eNil)))))
def F_over_one_bottom : Fn := runF 5 (sSeq (sSet 1 (eC (.int 1)))
    (sSeq (sFor (iSeq (eV 0)) (bTp [(bNm 2), (bNm 3)]) (sSet 1 (eOp oDiv (eOp oMul (eV 1) (eV 3)) (eBi kGcd (eCons (eV 1) (eCons (eV 3) eNil))))))
    (sRet (eTup (eCons (eFz (eLc [4, 3] (iSeq (eV 0)) (bTp [(bNm 4), (bNm 3)]) tYesD (eOp oMul (eV 4) (eOp oDiv (eV 1) (eV 3))))) (eCons (eV 1) eNil))))))
def F_content_of : Fn := runF 3 (sSeq (sSet 1 (eC (.int 0)))
    (sSeq (sFor (iSeq (eV 0)) (bNm 2) (sSet 1 (eBi kGcd (eCons (eV 1) (eCons (eV 2) eNil)))))
    (sRet (eV 1))))
def F_in_low_terms : Fn := runF 3 (sSeq (sSet 1 (eCall 1 F_content_of [] (eCons (eVm 0) eNil)))
    (sRet (eFz (eIf (eT (eOp oGt (eV 1) (eC (.int 1)))) (eLc [2] (iSeq (eV 0)) (bNm 2) tYesD (eOp oDiv (eV 2) (eV 1))) (eV 0)))))
def F_in_proportion : Fn := runF 4 (sRet (eBi kTup (eCons (eFz (eLc [3] (iSeq (eV 0)) (bNm 3) tYesD (eCall 2 F_in_lowest_terms [] (eCons (eOp oMul (eV 3) (eV 2)) (eCons (eVm 1) eNil))))) eNil)))
def F_whole_row : Fn := runF 2 (sSeq (sIf (eT (eOp oNe (eAtV 0 "prime") (eC (.int 0)))) (sRet (eFz (eBi kList (eCons (eV 1) eNil)))) sNil)
    (sRet (eCall 1 F_in_low_terms [] (eCons (eOp oIx (eCall 1 F_over_one_bottom [] (eCons (eVm 1) eNil)) (eC (.int 0))) eNil))))
def F_undone_rest : Fn := runF 3 (sSeq (sFor (iRg rg2 (eCons (eC (.int 1)) (eCons (eV 1) eNil))) (bNm 2) (sIf (eT (eOp oEq (eOp oMod (eOp oMul (eV 0) (eV 2)) (eV 1)) (eC (.int 1)))) (sRet (eV 2)) sNil))
    (sRaise0 "DividedByNought"))
def F_Figures_over : Fn := runF 3 (sSeq (sIf (eT (eOp oEq (eAtV 0 "prime") (eC (.int 0)))) (sRet (eCall 2 F_ratio_over [] (eCons (eVm 1) (eCons (eVm 2) eNil)))) sNil)
    (sRet (eOp oMod (eOp oMul (eV 1) (eCall 2 F_undone_rest [] (eCons (eVm 2) (eCons (eAtV 0 "prime") eNil)))) (eAtV 0 "prime"))))
def F_Figures_times : Fn := runF 3 (sSeq (sIf (eT (eOp oEq (eAtV 0 "prime") (eC (.int 0)))) (sRet (eCall 2 F_ratio_times [] (eCons (eVm 1) (eCons (eVm 2) eNil)))) sNil)
    (sRet (eOp oMod (eOp oMul (eV 1) (eV 2)) (eAtV 0 "prime"))))
def F_row_of_wholes : Fn := runF 5 (sSeq (sIf (eT (eOp oEq (eAtV 0 "prime") (eC (.int 0)))) (sRet (eCall 3 F_in_proportion [] (eCons (eVm 1) (eCons (eVm 2) (eCons (eC (.int 1)) eNil))))) sNil)
    (sSeq (sSet 3 (eMeth "Figures" "over" 3 F_Figures_over [] (eV 0) (eCons (eAtV 0 "one") (eCons (eVm 2) eNil))))
    (sRet (eBi kTup (eCons (eFz (eLc [4] (iSeq (eV 1)) (bNm 4) tYesD (eMeth "Figures" "times" 3 F_Figures_times [] (eV 0) (eCons (eVm 3) (eCons (eVm 4) eNil))))) eNil)))))
def F_less_wholes : Fn := runF 10 (sSeq (sSet 4 (eBi kGcd (eCons (eOp oIx (eV 1) (eV 3)) (eCons (eOp oIx (eV 2) (eV 3)) eNil))))
    (sSeq (sSet 5 (eOp oDiv (eOp oIx (eV 2) (eV 3)) (eV 4)))
    (sSeq (sSet 6 (eOp oDiv (eOp oIx (eV 1) (eV 3)) (eV 4)))
    (sSeq (sSet 7 (eFz (eLc [8, 9] (iRg kZip (eCons (eV 1) (eCons (eV 2) eNil))) (bTp [(bNm 8), (bNm 9)]) tYesD (eOp oSub (eOp oMul (eV 5) (eV 8)) (eOp oMul (eV 6) (eV 9))))))
    (sSeq (sIf (eT (eOp oNe (eAtV 0 "prime") (eC (.int 0)))) (sRet (eFz (eLc [8] (iSeq (eV 7)) (bNm 8) tYesD (eOp oMod (eV 8) (eAtV 0 "prime"))))) sNil)
    (sRet (eCall 1 F_in_low_terms [] (eCons (eVm 7) eNil))))))))
def F_zero_row : Fn := runF 2 (sRet (eFz (eOn oTimes (eTup (eCons (eAtV 0 "zero") eNil)) (eV 1))))
def F_unit_row : Fn := runF 3 (sRet (eFz (eOn oPlus (eFz (eOn oPlus (eCall 2 F_zero_row [] (eCons (eVm 0) (eCons (eVm 2) eNil))) (eTup (eCons (eAtV 0 "one") eNil)))) (eCall 2 F_zero_row [] (eCons (eVm 0) (eCons (eOp oSub (eOp oSub (eV 1) (eV 2)) (eC (.int 1))) eNil))))))
def F_unit_table : Fn := runF 3 (sRet (eBi kTup (eCons (eFz (eLc [2] (iRg rg1 (eCons (eV 1) eNil)) (bNm 2) tYesD (eCall 3 F_unit_row [] (eCons (eVm 0) (eCons (eVm 1) (eCons (eVm 2) eNil)))))) eNil)))
def F_first_filled : Fn := runF 4 (sSeq (sFor (iRg rg2 (eCons (eV 1) (eCons (eBi kLen (eCons (eV 0) eNil)) eNil))) (bNm 3) (sIf (eT (eOp oNe (eOp oIx (eOp oIx (eV 0) (eV 3)) (eV 2)) (eC (.int 0)))) (sRet (eV 3)) sNil))
    (sRet (eC .non)))
def F_cleared_rows : Fn := runF 7 (sSeq (sSet 4 (eOp oIx (eV 1) (eV 2)))
    (sRet (eLc [5, 6] (iRg kEnum (eCons (eV 1) eNil)) (bTp [(bNm 5), (bNm 6)]) tYesD (eIf (eOr (eT (eOp oEq (eV 5) (eV 2))) (eT (eOp oEq (eOp oIx (eV 6) (eV 3)) (eC (.int 0))))) (eV 6) (eCall 4 F_less_wholes [] (eCons (eVm 0) (eCons (eVm 6) (eCons (eVm 4) (eCons (eVm 3) eNil)))))))))
def F_reduced_table : Fn := runF 11 (sSeq (sSet 2 (eLc [3] (iSeq (eV 1)) (bNm 3) tYesD (eCall 2 F_whole_row [] (eCons (eVm 0) (eCons (eVm 3) eNil)))))
    (sSeq (sSet 4 (eLst eNil))
    (sSeq (sSet 5 (eIf (eT (eOp oEq (eLenP (pV 2)) (eC (.int 0)))) (eC (.int 0)) (eBi kLen (eCons (ePl (pIx (pV 2) (eC (.int 0)))) eNil))))
    (sSeq (sFor (iRg rg1 (eCons (eV 5) eNil)) (bNm 6) (sSeq (sSet 7 (eLenP (pV 4)))
    (sSeq (sSet 8 (eLend [2] (eCall 3 F_first_filled [] (eCons (eVm 2) (eCons (eVm 7) (eCons (eVm 6) eNil))))))
    (sIf (eT (eOp oNotN (eV 8) (eC .non))) (sSeq (sSwap (pV 2) (eV 7) (pV 2) (eV 8) (eCons (ePl (pIx (pV 2) (eV 8))) (eCons (ePl (pIx (pV 2) (eV 7))) eNil)))
    (sSeq (sFrz 2 (sSet 2 (eCall 4 F_cleared_rows [] (eCons (eVm 0) (eCons (eVm 2) (eCons (eVm 7) (eCons (eVm 6) eNil)))))))
    (sApp (pV 4) (eV 6)))) sNil))))
    (sSeq (sFrz 4 (sFrz 2 (sSet 9 (eFz (eLc [3, 10] (iRg kZip (eCons (eV 2) (eCons (eV 4) eNil))) (bTp [(bNm 3), (bNm 10)]) tYesD (eCall 3 F_row_of_wholes [] (eCons (eVm 0) (eCons (eVm 3) (eCons (eOp oIx (eV 3) (eV 10)) eNil)))))))))
    (sRet (eTup (eCons (eBi kTup (eCons (eFz (eOn oPlus (eV 9) (eFz (eOn oTimes (eFz (eLst (eCons (eCall 2 F_zero_row [] (eCons (eVm 0) (eCons (eVm 5) eNil))) eNil))) (eOp oSub (eBi kLen (eCons (eV 2) eNil)) (eBi kLen (eCons (eV 9) eNil))))))) eNil)) (eCons (eBi kTup (eCons (eV 4) eNil)) eNil)))))))))
def F_beside_unit : Fn := runF 5 (sSeq (sSet 2 (eCall 2 F_unit_table [] (eCons (eVm 0) (eCons (eBi kLen (eCons (eV 1) eNil)) eNil))))
    (sRet (eBi kTup (eCons (eFz (eLc [3, 4] (iRg kZip (eCons (eV 1) (eCons (eV 2) eNil))) (bTp [(bNm 3), (bNm 4)]) tYesD (eFz (eOn oPlus (eBi kTup (eCons (eV 3) eNil)) (eV 4))))) eNil))))
def F_undone_table : Fn := runF 6 (sSeq (sSet 2 (eBi kLen (eCons (eV 1) eNil)))
    (sSeq (sIf (eAnd (eT (eOp oGt (eV 2) (eC (.int 0)))) (eT (eOp oNe (eBi kLen (eCons (eOp oIx (eV 1) (eC (.int 0))) eNil)) (eV 2)))) (sRaise0 "NotOnce") sNil)
    (sSeq (sAsg (bTp [(bNm 3), (bNm 4)]) (eCall 2 F_reduced_table [] (eCons (eVm 0) (eCons (eCall 2 F_beside_unit [] (eCons (eVm 0) (eCons (eVm 1) eNil))) eNil))))
    (sSeq (sIf (eT (eOp oNe (eV 4) (eRg1 .tup (eV 2)))) (sRaise0 "NotOnce") sNil)
    (sRet (eBi kTup (eCons (eFz (eLc [5] (iSeq (eV 3)) (bNm 5) tYesD (eFz (eSl (eV 5) (eOpt (eV 2)) eNo)))) eNil)))))))
def F_Figures_is_number : Fn := runF 2 (sSeq (sIf (eT (eOp oEq (eAtV 0 "prime") (eC (.int 0)))) (sRet (eCall 1 F_is_ratio [] (eCons (eVm 1) eNil))) sNil)
    (sRet (eCall 3 F_is_whole [] (eCons (eVm 1) (eCons (eC (.int 0)) (eCons (eOp oSub (eAtV 0 "prime") (eC (.int 1))) eNil))))))
def F_is_point : Fn := runF 2 (sRet (eB (eOr (eT (eMeth "Figures" "is_number" 2 F_Figures_is_number [] (eV 0) (eCons (eVm 1) eNil))) (eT (eOp oEq (eV 1) (eC (.str "last")))))))
def F_Figures_whole_number : Fn := runF 2 (sSeq (sIf (eT (eOp oEq (eAtV 0 "prime") (eC (.int 0)))) (sRet (eTup (eCons (eV 1) (eCons (eC (.int 1)) eNil)))) sNil)
    (sRet (eOp oMod (eV 1) (eAtV 0 "prime"))))
def F_Figures_all_numbers : Fn := runF 1 (sRet (eRg1 .tup (eAtV 0 "prime")))
def F_points_for : Fn := runF 4 (sSeq (sSet 2 (eIf (eT (eOp oEq (eAtV 0 "prime") (eC (.int 0)))) (eC (.int 6)) (eBi kMin2 (eCons (eC (.int 6)) (eCons (eOp oAdd (eAtV 0 "prime") (eC (.int 1))) eNil)))))
    (sSeq (sIf (eNot (eTru (eCall 3 F_is_whole [] (eCons (eVm 1) (eCons (eC (.int 0)) (eCons (eVm 2) eNil)))))) (sRaise "BadMany" (flD1 "most") (eCons (eV 2) eNil)) sNil)
    (sSeq (sIf (eT (eOp oNe (eAtV 0 "prime") (eC (.int 0)))) (sRet (eFz (eSl (eFz (eOn oPlus (eMeth "Figures" "all_numbers" 1 F_Figures_all_numbers [] (eV 0) eNil) (eTup (eCons (eC (.str "last")) eNil)))) eNo (eOpt (eV 1))))) sNil)
    (sRet (eBi kTup (eCons (eFz (eLc [3] (iRg rg1 (eCons (eV 1) eNil)) (bNm 3) tYesD (eMeth "Figures" "whole_number" 2 F_Figures_whole_number [] (eV 0) (eCons (eVm 3) eNil)))) eNil))))))
def F_check_points : Fn := runF 6 (sSeq (sIf (eOr (eNot (eTru (eCall 1 F_is_sequence [] (eCons (eVm 1) eNil)))) (eT (eOp oNe (eBi kLen (eCons (eV 1) eNil)) (eV 2)))) (sRaise "BadPoints" (flD1 "index") (eCons (eC (.int 0)) eNil)) sNil)
    (sSeq (sFor (iRg kEnum (eCons (eV 1) eNil)) (bTp [(bNm 4), (bNm 5)]) (sSeq (sIf (eOr (eNot (eTru (eCall 2 F_is_point [] (eCons (eVm 0) (eCons (eVm 5) eNil))))) (eT (eOp oInP (eV 5) (eFz (eSl (eV 1) eNo (eOpt (eV 4))))))) (sRaise "BadPoints" (flD1 "index") (eCons (eV 4) eNil)) sNil)
    (sIf (eAnd (eT (eOp oEq (eV 5) (eC (.str "last")))) (eNot (eTru (eV 3)))) (sRaise "BadPoints" (flD1 "index") (eCons (eV 4) eNil)) sNil)))
    (sRet (eBi kTup (eCons (eV 1) eNil)))))
def F_powers_at : Fn := runF 4 (sSeq (sIf (eT (eOp oEq (eV 1) (eC (.str "last")))) (sRet (eCall 3 F_unit_row [] (eCons (eVm 0) (eCons (eVm 2) (eCons (eOp oSub (eV 2) (eC (.int 1))) eNil))))) sNil)
    (sSeq (sSet 3 (eLst (eCons (eAtV 0 "one") eNil)))
    (sSeq (sWh 100 (eT (eOp oLt (eLenP (pV 3)) (eV 2))) (sApp (pV 3) (eMeth "Figures" "times" 3 F_Figures_times [] (eV 0) (eCons (ePl (pIx (pV 3) (eUn oNeg (eC (.int 1))))) (eCons (eVm 1) eNil)))))
    (sFrz 3 (sRet (eBi kTup (eCons (eV 3) eNil)))))))
def F_power_row : Fn := runF 3 (sSeq (sIf (eNot (eTru (eCall 2 F_is_point [] (eCons (eVm 0) (eCons (eVm 1) eNil))))) (sRaise "BadPoints" (flD1 "index") (eCons (eC (.int 0)) eNil)) sNil)
    (sSeq (sIf (eNot (eTru (eCall 3 F_is_whole [] (eCons (eVm 2) (eCons (eC (.int 1)) (eCons (eC (.int 6)) eNil)))))) (sRaise "BadMany" (flD1 "most") (eCons (eC (.int 6)) eNil)) sNil)
    (sRet (eCall 3 F_powers_at [] (eCons (eVm 0) (eCons (eVm 1) (eCons (eVm 2) eNil)))))))
def F_power_table : Fn := runF 3 (sSeq (sIf (eOr (eNot (eTru (eCall 1 F_is_sequence [] (eCons (eVm 1) eNil)))) (eNot (eT (eCh oLe oLe (eC (.int 1)) (eBi kLen (eCons (eV 1) eNil)) (eC (.int 6)))))) (sRaise "BadPoints" (flD1 "index") (eCons (eC (.int 0)) eNil)) sNil)
    (sSeq (sSet 1 (eCall 4 F_check_points [(.bl true)] (eCons (eVm 0) (eCons (eVm 1) (eCons (eBi kLen (eCons (eV 1) eNil)) eNil)))))
    (sRet (eBi kTup (eCons (eFz (eLc [2] (iSeq (eV 1)) (bNm 2) tYesD (eCall 3 F_powers_at [] (eCons (eVm 0) (eCons (eVm 2) (eCons (eBi kLen (eCons (eV 1) eNil)) eNil)))))) eNil)))))
def F_undone_powers : Fn := runF 2 (sRet (eCall 2 F_undone_table [] (eCons (eVm 0) (eCons (eCall 2 F_power_table [] (eCons (eVm 0) (eCons (eVm 1) eNil))) eNil))))
def F_Figures___init__ : Fn := runF 2 (sSeq (sIf (eOr (eNot (eTru (eCall 3 F_is_whole [.non, .non] (eCons (eVm 1) eNil)))) (eT (eOp oNinP (eV 1) (eC (.tup tup_OFFERED))))) (sRaise "BadFigures" (flD1 "prime") (eCons (eV 1) eNil)) sNil)
    (sSeq (sAt "Figures" 0 "prime" (eV 1))
    (sSeq (sAt "Figures" 0 "zero" (eIf (eT (eOp oEq (eV 1) (eC (.int 0)))) (eTup (eCons (eC (.int 0)) (eCons (eC (.int 1)) eNil))) (eC (.int 0))))
    (sAt "Figures" 0 "one" (eIf (eT (eOp oEq (eV 1) (eC (.int 0)))) (eTup (eCons (eC (.int 1)) (eCons (eC (.int 1)) eNil))) (eC (.int 1)))))))
def F__law_mixed : Fn := runF 4 (sSeq (sSet 2 (eOp oMod (eBi kInt (eCons (eOp oAdd (eOp oAdd (eOp oMul (eV 0) (eC (.int 39373))) (eOp oMul (eV 1) (eC (.int 6151)))) (eC (.int 50021))) eNil)) (eC (.int 2147483399))))
    (sSeq (sSet 3 (eOp oMod (eBi kInt (eCons (eOp oAdd (eOp oAdd (eOp oMul (eV 2) (eV 2)) (eOp oMul (eV 1) (eC (.int 81071)))) (eOp oDiv (eV 2) (eC (.int 137)))) eNil)) (eC (.int 2147483629))))
    (sRet (eOp oDiv (eBi kInt (eCons (eOp oMod (eBi kInt (eCons (eOp oAdd (eOp oMul (eV 3) (eC (.int 62089))) (eOp oDiv (eV 2) (eC (.int 11)))) eNil)) (eC (.int 2147483587))) eNil)) (eC (.int 64))))))
def F__law_take : Fn := runF 4 (sSeq (sIf (eAnd (eT (eOp oEq (eIxM 0 (eC (.int 2))) (eC (.int 0)))) (eT (eOp oLt (eIxM 0 (eC (.int 1))) (eBi kLen (eCons (eIxM 0 (eC (.int 0))) eNil))))) (sSeq (sSet 2 (eOp oIx (eIxM 0 (eC (.int 0))) (eIxM 0 (eC (.int 1)))))
    (sSeq (sStM 0 (eC (.int 1)) (eOp oAdd (eIxM 0 (eC (.int 1))) (eC (.int 1))))
    (sSeq (sIf (eT (eOp oLt (eV 2) (eOp oPow (eC (.int 10)) (eC (.int 18))))) (sRet (eOp oMod (eBi kInt (eCons (eCall 2 F__law_mixed [] (eCons (eOp oMod (eBi kInt (eCons (eV 2) eNil)) (eC (.int 2147483399))) (eCons (eIxM 0 (eC (.int 1))) eNil))) eNil)) (eV 1))) sNil)
    (sStM 0 (eC (.int 2)) (eV 2))))) sNil)
    (sSeq (sIf (eT (eOp oGt (eIxM 0 (eC (.int 2))) (eC (.int 0)))) (sSeq (sSet 3 (eIxM 0 (eC (.int 2))))
    (sSeq (sStM 0 (eC (.int 2)) (eOp oDiv (eBi kInt (eCons (eV 3) eNil)) (eV 1)))
    (sRet (eOp oMod (eBi kInt (eCons (eV 3) eNil)) (eV 1))))) sNil)
    (sSeq (sStM 0 (eC (.int 3)) (eOp oMod (eBi kInt (eCons (eOp oAdd (eIxM 0 (eC (.int 3))) (eC (.int 1))) eNil)) (eC (.int 2147483549))))
    (sRet (eOp oMod (eBi kInt (eCons (eCall 2 F__law_mixed [] (eCons (eIxM 0 (eC (.int 3))) (eCons (eIxM 0 (eC (.int 1))) eNil))) eNil)) (eV 1))))))
def F__law_gcd : Fn := runF 6 (sSeq (sSet 2 (eBi kAbs (eCons (eV 0) eNil)))
    (sSeq (sSet 3 (eBi kAbs (eCons (eV 1) eNil)))
    (sSeq (sFor (iRg rg1 (eCons (eC (.int 60000)) eNil)) (bNm 4) (sSeq (sIf (eT (eOp oEq (eV 3) (eC (.int 0)))) (sRet (eV 2)) sNil)
    (sSeq (sSet 5 (eOp oMod (eBi kInt (eCons (eV 2) eNil)) (eV 3)))
    (sSeq (sSet 2 (eV 3))
    (sSet 3 (eV 5))))))
    (sRet (eC (.int 1))))))
def F__law_ratio : Fn := runF 3 (sSeq (sSet 2 (eCall 2 F__law_gcd [] (eCons (eVm 0) (eCons (eVm 1) eNil))))
    (sSeq (sIf (eT (eOp oLt (eV 1) (eC (.int 0)))) (sSet 2 (eUn oNeg (eV 2))) sNil)
    (sRet (eTup (eCons (eOp oDiv (eV 0) (eV 2)) (eCons (eOp oDiv (eV 1) (eV 2)) eNil))))))
def F__law_num : Fn := runF 2 (sSeq (sIf (eT (eOp oEq (eV 0) (eC (.int 0)))) (sRet (eTup (eCons (eV 1) (eCons (eC (.int 1)) eNil)))) sNil)
    (sRet (eOp oMod (eBi kInt (eCons (eV 1) eNil)) (eV 0))))
def F__law_plus : Fn := runF 3 (sSeq (sIf (eT (eOp oEq (eV 0) (eC (.int 0)))) (sSeq (sIf (eAnd (eT (eOp oEq (eOp oIx (eV 1) (eC (.int 1))) (eC (.int 1)))) (eT (eOp oEq (eOp oIx (eV 2) (eC (.int 1))) (eC (.int 1))))) (sRet (eTup (eCons (eOp oAdd (eOp oIx (eV 1) (eC (.int 0))) (eOp oIx (eV 2) (eC (.int 0)))) (eCons (eC (.int 1)) eNil)))) sNil)
    (sRet (eCall 2 F__law_ratio [] (eCons (eOp oAdd (eOp oMul (eOp oIx (eV 1) (eC (.int 0))) (eOp oIx (eV 2) (eC (.int 1)))) (eOp oMul (eOp oIx (eV 2) (eC (.int 0))) (eOp oIx (eV 1) (eC (.int 1))))) (eCons (eOp oMul (eOp oIx (eV 1) (eC (.int 1))) (eOp oIx (eV 2) (eC (.int 1)))) eNil))))) sNil)
    (sRet (eOp oMod (eBi kInt (eCons (eOp oAdd (eV 1) (eV 2)) eNil)) (eV 0))))
def F__law_times : Fn := runF 3 (sSeq (sIf (eT (eOp oEq (eV 0) (eC (.int 0)))) (sSeq (sIf (eAnd (eT (eOp oEq (eOp oIx (eV 1) (eC (.int 1))) (eC (.int 1)))) (eT (eOp oEq (eOp oIx (eV 2) (eC (.int 1))) (eC (.int 1))))) (sRet (eTup (eCons (eOp oMul (eOp oIx (eV 1) (eC (.int 0))) (eOp oIx (eV 2) (eC (.int 0)))) (eCons (eC (.int 1)) eNil)))) sNil)
    (sRet (eCall 2 F__law_ratio [] (eCons (eOp oMul (eOp oIx (eV 1) (eC (.int 0))) (eOp oIx (eV 2) (eC (.int 0)))) (eCons (eOp oMul (eOp oIx (eV 1) (eC (.int 1))) (eOp oIx (eV 2) (eC (.int 1)))) eNil))))) sNil)
    (sRet (eOp oMod (eBi kInt (eCons (eOp oMul (eV 1) (eV 2)) eNil)) (eV 0))))
def F__law_less : Fn := runF 3 (sSeq (sIf (eT (eOp oEq (eV 0) (eC (.int 0)))) (sRet (eCall 3 F__law_plus [] (eCons (eVm 0) (eCons (eVm 1) (eCons (eTup (eCons (eUn oNeg (eOp oIx (eV 2) (eC (.int 0)))) (eCons (eOp oIx (eV 2) (eC (.int 1))) eNil))) eNil))))) sNil)
    (sRet (eOp oMod (eBi kInt (eCons (eOp oSub (eV 1) (eV 2)) eNil)) (eV 0))))
def F__law_over : Fn := runF 5 (sSeq (sIf (eT (eOp oEq (eV 0) (eC (.int 0)))) (sRet (eCall 2 F__law_ratio [] (eCons (eOp oMul (eOp oIx (eV 1) (eC (.int 0))) (eOp oIx (eV 2) (eC (.int 1)))) (eCons (eOp oMul (eOp oIx (eV 1) (eC (.int 1))) (eOp oIx (eV 2) (eC (.int 0)))) eNil)))) sNil)
    (sSeq (sSet 3 (eV 1))
    (sSeq (sFor (iRg rg1 (eCons (eOp oSub (eV 0) (eC (.int 2))) eNil)) (bNm 4) (sSet 3 (eOp oMod (eBi kInt (eCons (eOp oMul (eV 3) (eV 2)) eNil)) (eV 0))))
    (sRet (eV 3)))))
def F__law_figures : Fn := runF 1 (sRet (eOp oIx (eTup (eCons (eC (.int 0)) (eCons (eC (.int 5)) (eCons (eC (.int 3)) (eCons (eC (.int 7)) (eCons (eC (.int 0)) (eCons (eC (.int 5)) (eCons (eC (.int 2)) (eCons (eC (.int 13)) (eCons (eC (.int 5)) (eCons (eC (.int 3)) (eCons (eC (.int 0)) (eCons (eC (.int 11)) eNil))))))))))))) (eCall 2 F__law_take [] (eCons (eVm 0) (eCons (eC (.int 12)) eNil)))))
def F__law_rooted : Fn := runF 6 (sSeq (sSet 2 (eFz (eLst (eCons (eCall 2 F__law_num [] (eCons (eVm 0) (eCons (eC (.int 1)) eNil))) eNil))))
    (sSeq (sFor (iSeq (eV 1)) (bNm 3) (sSeq (sSet 4 (eFz (eOn oPlus (eFz (eLst (eCons (eCall 2 F__law_num [] (eCons (eVm 0) (eCons (eC (.int 0)) eNil))) eNil))) (eV 2))))
    (sSet 2 (eFz (eLc [5] (iRg rg1 (eCons (eBi kLen (eCons (eV 4) eNil)) eNil)) (bNm 5) tYesD (eCall 3 F__law_less [] (eCons (eVm 0) (eCons (eOp oIx (eV 4) (eV 5)) (eCons (eCall 3 F__law_times [] (eCons (eVm 0) (eCons (eVm 3) (eCons (eOp oIx (eFz (eOn oPlus (eV 2) (eFz (eLst (eCons (eCall 2 F__law_num [] (eCons (eVm 0) (eCons (eC (.int 0)) eNil))) eNil))))) (eV 5)) eNil)))) eNil)))))))))
    (sRet (eV 2))))
def F__law_exact : Nat → Fn
  | 0 => fun _ _ => .bad
  | fu + 1 => runF 3 (sSeq (sIf (eTru (eIs "tuple" (eV 1))) (sSeq (sIf (eOr (eNot (eTru (eIs "tuple" (eV 0)))) (eT (eOp oNe (eBi kLen (eCons (eV 0) eNil)) (eBi kLen (eCons (eV 1) eNil))))) (sRet (eC (.bl false))) sNil)
    (sRet (eOp oEq (eFz (eLc [2] (iRg rg1 (eCons (eBi kLen (eCons (eV 1) eNil)) eNil)) (bNm 2) (eNot (eTru (eCall 2 (F__law_exact fu) [] (eCons (eOp oIx (eV 0) (eV 2)) (eCons (eOp oIx (eV 1) (eV 2)) eNil))))) (eV 2))) (eFz (eLst eNil))))) sNil)
    (sSeq (sIf (eT (eOp oIsN (eV 1) (eC .non))) (sRet (eOp oIsN (eV 0) (eC .non))) sNil)
    (sSeq (sIf (eTru (eIs "bool" (eV 1))) (sRet (eIf (eTru (eV 1)) (eOp oIsB (eV 0) (eC (.bl true))) (eOp oIsB (eV 0) (eC (.bl false))))) sNil)
    (sSeq (sIf (eTru (eIs "str" (eV 1))) (sRet (eB (eAnd (eT (eIs "str" (eV 0))) (eT (eOp oEq (eV 0) (eV 1)))))) sNil)
    (sRet (eB (eAnd (eT (eIs "int" (eV 0))) (eAnd (eT (eB (eNot (eT (eIs "bool" (eV 0)))))) (eT (eOp oEq (eV 0) (eV 1)))))))))))
def F__law_list : Fn := runF 2 (sRet (eFz (eIf (eTru (eCall 2 F__law_take [] (eCons (eVm 0) (eCons (eC (.int 2)) eNil)))) (eBi kList (eCons (eV 1) eNil)) (eBi kTup (eCons (eV 1) eNil)))))
def F__law_points : Fn := runF 8 (sSeq (sIf (eT (eOp oGt (eV 1) (eC (.int 0)))) (sSet 4 (eFz (eRg1 .hl (eV 1)))) (sSet 4 (eFz (eOn oPlus (eFz (eLc [5] (iRg rg1 (eCons (eC (.int 8)) eNil)) (bNm 5) tYesD (eTup (eCons (eOp oSub (eV 5) (eC (.int 3))) (eCons (eC (.int 1)) eNil))))) (eFz (eLst (eCons (eTup (eCons (eC (.int 1)) (eCons (eC (.int 2)) eNil))) (eCons (eTup (eCons (eUn oNeg (eC (.int 1))) (eCons (eC (.int 2)) eNil))) (eCons (eTup (eCons (eC (.int 3)) (eCons (eC (.int 2)) eNil))) (eCons (eTup (eCons (eUn oNeg (eC (.int 2))) (eCons (eC (.int 3)) eNil))) (eCons (eTup (eCons (eOp oAdd (eC (.int 5)) (eCall 2 F__law_take [] (eCons (eVm 0) (eCons (eC (.int 95)) eNil)))) (eCons (eC (.int 1)) eNil))) eNil)))))))))))
    (sSeq (sIf (eTru (eV 3)) (sSet 4 (eFz (eOn oPlus (eFz (eLst (eCons (eC (.str "last")) eNil))) (eV 4)))) sNil)
    (sSeq (sSet 6 (eLst eNil))
    (sSeq (sFor (iRg rg1 (eCons (eV 2) eNil)) (bNm 5) (sSeq (sSet 7 (eCall 2 F__law_take [] (eCons (eVm 0) (eCons (eBi kLen (eCons (eV 4) eNil)) eNil))))
    (sSeq (sApp (pV 6) (eOp oIx (eV 4) (eV 7)))
    (sSet 4 (eFz (eOn oPlus (eFz (eSl (eV 4) eNo (eOpt (eV 7)))) (eFz (eSl (eV 4) (eOpt (eOp oAdd (eV 7) (eC (.int 1)))) eNo))))))))
    (sFrz 6 (sRet (eV 6)))))))
def F__law_powers : Fn := runF 5 (sSeq (sIf (eT (eOp oEq (eV 1) (eC (.str "last")))) (sRet (eFz (eLc [3] (iRg rg1 (eCons (eV 2) eNil)) (bNm 3) tYesD (eCall 2 F__law_num [] (eCons (eVm 0) (eCons (eBi kInt (eCons (eOp oEq (eV 3) (eOp oSub (eV 2) (eC (.int 1)))) eNil)) eNil)))))) sNil)
    (sSeq (sSet 4 (eLst (eCons (eCall 2 F__law_num [] (eCons (eVm 0) (eCons (eC (.int 1)) eNil))) eNil)))
    (sSeq (sFor (iRg rg1 (eCons (eOp oSub (eV 2) (eC (.int 1))) eNil)) (bNm 3) (sApp (pV 4) (eCall 3 F__law_times [] (eCons (eVm 0) (eCons (ePl (pIx (pV 4) (eV 3))) (eCons (eVm 1) eNil))))))
    (sFrz 4 (sRet (eV 4))))))
def F__law_lone : Fn := runF 8 (sSeq (sSet 3 (eLst eNil))
    (sSeq (sSet 4 (eCall 2 F__law_num [] (eCons (eVm 0) (eCons (eC (.int 1)) eNil))))
    (sSeq (sFor (iRg rg1 (eCons (eBi kLen (eCons (eV 1) eNil)) eNil)) (bNm 5) (sIf (eAnd (eT (eOp oNe (eV 5) (eV 2))) (eT (eOp oNe (eOp oIx (eV 1) (eV 5)) (eC (.str "last"))))) (sSeq (sApp (pV 3) (eOp oIx (eV 1) (eV 5)))
    (sIf (eT (eOp oNe (eOp oIx (eV 1) (eV 2)) (eC (.str "last")))) (sSet 4 (eCall 3 F__law_times [] (eCons (eVm 0) (eCons (eVm 4) (eCons (eCall 3 F__law_less [] (eCons (eVm 0) (eCons (eOp oIx (eV 1) (eV 2)) (eCons (eOp oIx (eV 1) (eV 5)) eNil)))) eNil))))) sNil)) sNil))
    (sSeq (sFrz 3 (sSet 6 (eFz (eLc [7] (iSeq (eCall 2 F__law_rooted [] (eCons (eVm 0) (eCons (eVm 3) eNil)))) (bNm 7) tYesD (eCall 3 F__law_over [] (eCons (eVm 0) (eCons (eVm 7) (eCons (eVm 4) eNil))))))))
    (sRet (eFz (eOn oPlus (eV 6) (eFz (eOn oTimes (eFz (eLst (eCons (eCall 2 F__law_num [] (eCons (eVm 0) (eCons (eC (.int 0)) eNil))) eNil))) (eOp oSub (eBi kLen (eCons (eV 1) eNil)) (eBi kLen (eCons (eV 6) eNil))))))))))))
def F__law_first_points : Fn := runF 3 (sRet (eFz (eLc [2] (iRg rg1 (eCons (eV 1) eNil)) (bNm 2) tYesD (eIf (eOr (eT (eOp oEq (eV 0) (eC (.int 0)))) (eT (eOp oLt (eV 2) (eV 0)))) (eCall 2 F__law_num [] (eCons (eVm 0) (eCons (eVm 2) eNil))) (eC (.str "last"))))))
def F__law_numbers : Fn := runF 4 (sSeq (sIf (eOr (eNot (eTru (eIs "tuple" (eV 1)))) (eT (eOp oNe (eBi kLen (eCons (eV 1) eNil)) (eV 2)))) (sRet (eC (.bl false))) sNil)
    (sSeq (sFor (iSeq (eV 1)) (bNm 3) (sIf (eT (eOp oGt (eV 0) (eC (.int 0)))) (sIf (eOr (eNot (eTru (eIs "int" (eV 3)))) (eOr (eTru (eIs "bool" (eV 3))) (eNot (eT (eCh oLe oLt (eC (.int 0)) (eV 3) (eV 0)))))) (sRet (eC (.bl false))) sNil) (sIf (eOr (eNot (eTru (eIs "tuple" (eV 3)))) (eT (eOp oNe (eBi kLen (eCons (eV 3) eNil)) (eC (.int 2))))) (sRet (eC (.bl false))) (sIf (eOr (eNot (eTru (eIs "int" (eOp oIx (eV 3) (eC (.int 0)))))) (eOr (eNot (eTru (eIs "int" (eOp oIx (eV 3) (eC (.int 1)))))) (eT (eOp oLt (eOp oIx (eV 3) (eC (.int 1))) (eC (.int 1)))))) (sRet (eC (.bl false))) (sIf (eOr (eTru (eIs "bool" (eOp oIx (eV 3) (eC (.int 0))))) (eOr (eTru (eIs "bool" (eOp oIx (eV 3) (eC (.int 1))))) (eT (eOp oNe (eCall 2 F__law_gcd [] (eCons (eOp oIx (eV 3) (eC (.int 0))) (eCons (eOp oIx (eV 3) (eC (.int 1))) eNil))) (eC (.int 1)))))) (sRet (eC (.bl false))) sNil)))))
    (sRet (eC (.bl true)))))
def F__law_first_bad : Fn := runF 7 (sSeq (sIf (eOr (eNot (eTru (eIs2 "list" "tuple" (eV 1)))) (eT (eOp oNe (eBi kLen (eCons (eV 1) eNil)) (eV 2)))) (sRet (eC (.int 0))) sNil)
    (sSeq (sFor (iRg rg1 (eCons (eV 2) eNil)) (bNm 4) (sSeq (sSet 5 (eOp oIx (eV 1) (eV 4)))
    (sSeq (sSet 6 (eIf (eT (eOp oEq (eV 5) (eC (.str "last")))) (eV 3) (eB (eAnd (eT (eB (eNot (eT (eIs "str" (eV 5)))))) (eT (eCall 3 F__law_numbers [] (eCons (eVm 0) (eCons (eTup (eCons (eV 5) eNil)) (eCons (eC (.int 1)) eNil)))))))))
    (sIf (eOr (eNot (eTru (eV 6))) (eT (eOp oInP (eV 5) (eFz (eSl (eV 1) eNo (eOpt (eV 4))))))) (sRet (eV 4)) sNil))))
    (sRet (eC .non))))
def F__law_checking : Fn := runF 5 (sTry (sSeq (sIf (eTru (eV 3)) (sRet (eCall 4 F_check_points [(.bl true)] (eCons (eVm 0) (eCons (eVm 1) (eCons (eVm 2) eNil))))) sNil)
    (sRet (eCall 4 F_check_points [] (eCons (eVm 0) (eCons (eVm 1) (eCons (eVm 2) (eCons (eC (.bl false)) eNil))))))) [⟨(msOf [("DividedByNought", false), ("BadFigures", false), ("NotOnce", false), ("BadPoints", true), ("BadMany", false)]), some 4, (sRet (eTup (eCons (eC (.str "bad")) (eCons (eXf ["BadPoints"] 4 "index") (eCons (eXi (msOf [("DividedByNought", true), ("BadFigures", true), ("NotOnce", true), ("BadPoints", true), ("BadMany", true)]) 4) eNil)))))⟩])
def F__law_count : Fn := runF 3 (sTry (sRet (eCall 2 F_points_for [] (eCons (eVm 0) (eCons (eVm 1) eNil)))) [⟨(msOf [("DividedByNought", false), ("BadFigures", false), ("NotOnce", false), ("BadPoints", false), ("BadMany", true)]), some 2, (sRet (eTup (eCons (eC (.str "many")) (eCons (eXf ["BadMany"] 2 "most") (eCons (eXi (msOf [("DividedByNought", true), ("BadFigures", true), ("NotOnce", true), ("BadPoints", true), ("BadMany", true)]) 2) eNil)))))⟩])
def F__law_one_row : Fn := runF 4 (sTry (sRet (eCall 3 F_power_row [] (eCons (eVm 0) (eCons (eVm 1) (eCons (eVm 2) eNil))))) [⟨(msOf [("DividedByNought", false), ("BadFigures", false), ("NotOnce", false), ("BadPoints", true), ("BadMany", false)]), some 3, (sRet (eTup (eCons (eC (.str "bad")) (eCons (eXf ["BadPoints"] 3 "index") (eCons (eC (.bl true)) eNil)))))⟩, ⟨(msOf [("DividedByNought", false), ("BadFigures", false), ("NotOnce", false), ("BadPoints", false), ("BadMany", true)]), some 3, (sRet (eTup (eCons (eC (.str "many")) (eCons (eXf ["BadMany"] 3 "most") (eCons (eC (.bl true)) eNil)))))⟩])
def F__law_two_tables : Fn := runF 4 (sSeq (sSet 2 (eLst eNil))
    (sSeq (sTry (sApp (pV 2) (eCall 2 F_power_table [] (eCons (eVm 0) (eCons (eVm 1) eNil)))) [⟨(msOf [("DividedByNought", false), ("BadFigures", false), ("NotOnce", false), ("BadPoints", true), ("BadMany", false)]), some 3, (sApp (pV 2) (eTup (eCons (eC (.str "bad")) (eCons (eXf ["BadPoints"] 3 "index") (eCons (eC (.bl true)) eNil)))))⟩])
    (sSeq (sTry (sApp (pV 2) (eCall 2 F_undone_powers [] (eCons (eVm 0) (eCons (eVm 1) eNil)))) [⟨(msOf [("DividedByNought", false), ("BadFigures", false), ("NotOnce", false), ("BadPoints", true), ("BadMany", false)]), some 3, (sApp (pV 2) (eTup (eCons (eC (.str "bad")) (eCons (eXf ["BadPoints"] 3 "index") (eCons (eC (.bl true)) eNil)))))⟩])
    (sFrz 2 (sRet (eV 2))))))
def F__law_no_point : Fn := runF 3 (sSeq (sSet 2 (eFz (eIf (eT (eOp oEq (eV 1) (eC (.int 0)))) (eLst (eCons (eC (.bl true)) (eCons (eC .non) (eCons (eC (.str "Last")) (eCons (eC (.str "0")) (eCons (eUn oNeg (eC (.int 1))) (eCons (eFz (eLst (eCons (eC (.int 0)) (eCons (eC (.int 1)) eNil)))) (eCons (eV 1) (eCons (eC (.int 1)) eNil))))))))) (eLst (eCons (eC (.bl true)) (eCons (eC .non) (eCons (eC (.str "Last")) (eCons (eC (.str "0")) (eCons (eUn oNeg (eC (.int 1))) (eCons (eTup (eCons (eC (.int 0)) (eCons (eC (.int 1)) eNil))) (eCons (eV 1) (eCons (eOp oAdd (eV 1) (eC (.int 2))) eNil))))))))))))
    (sRet (eOp oIx (eV 2) (eCall 2 F__law_take [] (eCons (eVm 0) (eCons (eC (.int 8)) eNil))))))
def F__law_spoilt : Fn := runF 6 (sSeq (sSet 3 (eBi kList (eCons (eV 2) eNil)))
    (sSeq (sSet 4 (eCall 2 F__law_take [] (eCons (eVm 0) (eCons (eC (.int 5)) eNil))))
    (sSeq (sSet 5 (eCall 2 F__law_take [] (eCons (eVm 0) (eCons (eLenP (pV 3)) eNil))))
    (sSeq (sIf (eT (eOp oLt (eV 4) (eC (.int 2)))) (sSt (pV 3) (eV 5) (eCall 2 F__law_no_point [] (eCons (eVm 0) (eCons (eVm 1) eNil)))) (sIf (eAnd (eT (eOp oEq (eV 4) (eC (.int 2)))) (eT (eOp oGt (eV 5) (eC (.int 0))))) (sSt (pV 3) (eV 5) (ePl (pIx (pV 3) (eCall 2 F__law_take [] (eCons (eVm 0) (eCons (eVm 5) eNil)))))) (sIf (eT (eOp oEq (eV 4) (eC (.int 3)))) (sSt (pV 3) (eV 5) (eC (.str "last"))) sNil)))
    (sSeq (sIf (eT (eOp oEq (eCall 2 F__law_take [] (eCons (eVm 0) (eCons (eC (.int 4)) eNil))) (eC (.int 0)))) (sSt (pV 3) (eCall 2 F__law_take [] (eCons (eVm 0) (eCons (eLenP (pV 3)) eNil))) (eCall 2 F__law_no_point [] (eCons (eVm 0) (eCons (eVm 1) eNil)))) sNil)
    (sFrz 3 (sRet (eV 3))))))))
def F__law_counts : Fn := runF 7 (sSeq (sFor (iRg rg2 (eCons (eUn oNeg (eC (.int 1))) (eCons (eOp oAdd (eV 3) (eC (.int 2))) eNil))) (bNm 4) (sSeq (sSet 5 (eCall 2 F__law_count [] (eCons (eVm 2) (eCons (eVm 4) eNil))))
    (sIf (eNot (eT (eCh oLe oLe (eC (.int 0)) (eV 4) (eV 3)))) (sIf (eT (eOp oNe (eV 5) (eTup (eCons (eC (.str "many")) (eCons (eV 3) (eCons (eC (.bl true)) eNil)))))) (sRet (eC (.bl false))) sNil) (sIf (eNot (eTru (eCall 2 (F__law_exact 5) [] (eCons (eVm 5) (eCons (eBi kTup (eCons (eCall 2 F__law_first_points [] (eCons (eVm 1) (eCons (eVm 4) eNil))) eNil)) eNil))))) (sRet (eC (.bl false))) sNil))))
    (sSeq (sSet 6 (eOp oIx (eTup (eCons (eC (.bl true)) (eCons (eC .non) (eCons (eC (.str "2")) (eCons (eTup (eCons (eC (.int 1)) (eCons (eC (.int 1)) eNil))) (eCons (eOp oPow (eC (.int 10)) (eC (.int 9))) eNil)))))) (eCall 2 F__law_take [] (eCons (eVm 0) (eCons (eC (.int 5)) eNil)))))
    (sRet (eOp oEq (eCall 2 F__law_count [] (eCons (eVm 2) (eCons (eVm 6) eNil))) (eTup (eCons (eC (.str "many")) (eCons (eV 3) (eCons (eC (.bl true)) eNil))))))))
def F__law_checks : Fn := runF 11 (sSeq (sFor (iRg rg1 (eCons (eC (.int 3)) eNil)) (bNm 4) (sSeq (sSet 5 (eOp oEq (eCall 2 F__law_take [] (eCons (eVm 0) (eCons (eC (.int 2)) eNil))) (eC (.int 0))))
    (sSeq (sSet 6 (eFz (eIf (eT (eOp oEq (eV 4) (eC (.int 0)))) (eBi kList (eCons (eV 3) eNil)) (eCall 3 F__law_spoilt [] (eCons (eVm 0) (eCons (eVm 1) (eCons (eVm 3) eNil)))))))
    (sSeq (sSet 7 (eOp oAdd (eBi kLen (eCons (eV 6) eNil)) (eOp oIx (eTup (eCons (eC (.int 0)) (eCons (eC (.int 0)) (eCons (eC (.int 0)) (eCons (eC (.int 1)) (eCons (eUn oNeg (eC (.int 1))) eNil)))))) (eCall 2 F__law_take [] (eCons (eVm 0) (eCons (eC (.int 5)) eNil))))))
    (sSeq (sSet 8 (eCall 2 F__law_list [] (eCons (eVm 0) (eCons (eVm 6) eNil))))
    (sSeq (sIf (eAnd (eT (eOp oEq (eV 4) (eC (.int 2)))) (eT (eOp oEq (eCall 2 F__law_take [] (eCons (eVm 0) (eCons (eC (.int 4)) eNil))) (eC (.int 0))))) (sSet 8 (eOp oIx (eTup (eCons (eC .non) (eCons (eC (.str "last")) (eCons (eC (.int 3)) eNil)))) (eCall 2 F__law_take [] (eCons (eVm 0) (eCons (eC (.int 3)) eNil))))) sNil)
    (sSeq (sSet 9 (eCall 4 F__law_first_bad [] (eCons (eVm 1) (eCons (eVm 8) (eCons (eVm 7) (eCons (eVm 5) eNil))))))
    (sSeq (sSet 10 (eCall 4 F__law_checking [] (eCons (eVm 2) (eCons (eVm 8) (eCons (eVm 7) (eCons (eVm 5) eNil))))))
    (sIf (eT (eOp oNotN (eV 9) (eC .non))) (sIf (eT (eOp oNe (eV 10) (eTup (eCons (eC (.str "bad")) (eCons (eV 9) (eCons (eC (.bl true)) eNil)))))) (sRet (eC (.bl false))) sNil) (sIf (eNot (eTru (eCall 2 (F__law_exact 5) [] (eCons (eVm 10) (eCons (eBi kTup (eCons (eV 6) eNil)) eNil))))) (sRet (eC (.bl false))) sNil))))))))))
    (sRet (eC (.bl true))))
def F__law_powers_told : Fn := runF 15 (sSeq (sSet 4 (eBi kLen (eCons (eV 3) eNil)))
    (sSeq (sSet 5 (eCall 2 F__law_list [] (eCons (eVm 0) (eCons (eVm 3) eNil))))
    (sSeq (sSet 6 (eBi kTup (eCons (eFz (eLc [7] (iSeq (eV 3)) (bNm 7) tYesD (eBi kTup (eCons (eCall 3 F__law_powers [] (eCons (eVm 1) (eCons (eVm 7) (eCons (eVm 4) eNil)))) eNil)))) eNil)))
    (sSeq (sSet 8 (eFz (eLc [9] (iRg rg1 (eCons (eV 4) eNil)) (bNm 9) tYesD (eCall 3 F__law_lone [] (eCons (eVm 1) (eCons (eVm 3) (eCons (eVm 9) eNil)))))))
    (sSeq (sSet 10 (eBi kTup (eCons (eFz (eLc [12] (iRg rg1 (eCons (eV 4) eNil)) (bNm 12) tYesD (eBi kTup (eCons (eFz (eLc [11] (iSeq (eV 8)) (bNm 11) tYesD (eOp oIx (eV 11) (eV 12)))) eNil)))) eNil)))
    (sSeq (sSet 13 (eCall 2 F__law_two_tables [] (eCons (eVm 2) (eCons (eVm 5) eNil))))
    (sSeq (sIf (eOr (eNot (eTru (eCall 2 (F__law_exact 5) [] (eCons (eOp oIx (eV 13) (eC (.int 0))) (eCons (eVm 6) eNil))))) (eOr (eNot (eTru (eCall 2 (F__law_exact 5) [] (eCons (eOp oIx (eV 13) (eC (.int 1))) (eCons (eVm 10) eNil))))) (eT (eOp oNe (eFz (eBi kList (eCons (eV 5) eNil))) (eFz (eBi kList (eCons (eV 3) eNil))))))) (sRet (eC (.bl false))) sNil)
    (sSeq (sSet 14 (eCall 3 F__law_spoilt [] (eCons (eVm 0) (eCons (eVm 1) (eCons (eVm 3) eNil)))))
    (sSeq (sIf (eT (eOp oEq (eCall 2 F__law_take [] (eCons (eVm 0) (eCons (eC (.int 6)) eNil))) (eC (.int 0)))) (sSet 14 (eOp oIx (eTup (eCons (eFz (eLst eNil)) (eCons (eCall 2 F__law_first_points [] (eCons (eVm 1) (eCons (eC (.int 7)) eNil))) (eCons (eC .non) eNil)))) (eCall 2 F__law_take [] (eCons (eVm 0) (eCons (eC (.int 3)) eNil))))) sNil)
    (sSeq (sSet 4 (eIf (eAnd (eTru (eIs "list" (eV 14))) (eT (eCh oLe oLe (eC (.int 1)) (eBi kLen (eCons (eV 14) eNil)) (eC (.int 6))))) (eBi kLen (eCons (eV 14) eNil)) (eUn oNeg (eC (.int 1)))))
    (sSeq (sSet 6 (eCall 4 F__law_first_bad [] (eCons (eVm 1) (eCons (eVm 14) (eCons (eVm 4) (eCons (eC (.bl true)) eNil))))))
    (sSeq (sSet 13 (eCall 2 F__law_two_tables [] (eCons (eVm 2) (eCons (eVm 14) eNil))))
    (sRet (eB (eOr (eT (eOp oIsN (eV 6) (eC .non))) (eT (eOp oEq (eV 13) (eFz (eLst (eCons (eTup (eCons (eC (.str "bad")) (eCons (eV 6) (eCons (eC (.bl true)) eNil)))) (eCons (eTup (eCons (eC (.str "bad")) (eCons (eV 6) (eCons (eC (.bl true)) eNil)))) eNil)))))))))))))))))))))
def F__law_rows_told : Fn := runF 9 (sSeq (sFor (iSeq (eFz (eOn oPlus (eV 3) (eFz (eLst (eCons (eCall 2 F__law_no_point [] (eCons (eVm 0) (eCons (eVm 1) eNil))) eNil)))))) (bNm 4) (sSeq (sSet 5 (eOp oAdd (eC (.int 1)) (eCall 2 F__law_take [] (eCons (eVm 0) (eCons (eC (.int 6)) eNil)))))
    (sSeq (sSet 6 (eCall 3 F__law_one_row [] (eCons (eVm 2) (eCons (eVm 4) (eCons (eVm 5) eNil)))))
    (sSeq (sSet 7 (eOp oIx (eTup (eCons (eC (.int 0)) (eCons (eC (.int 7)) (eCons (eUn oNeg (eC (.int 1))) (eCons (eC (.bl true)) (eCons (eC .non) (eCons (eC (.str "3")) eNil))))))) (eCall 2 F__law_take [] (eCons (eVm 0) (eCons (eC (.int 6)) eNil)))))
    (sSeq (sSet 8 (eCall 3 F__law_one_row [] (eCons (eVm 2) (eCons (eVm 4) (eCons (eVm 7) eNil)))))
    (sIf (eT (eOp oNotN (eCall 4 F__law_first_bad [] (eCons (eVm 1) (eCons (eFz (eLst (eCons (eV 4) eNil))) (eCons (eC (.int 1)) (eCons (eC (.bl true)) eNil))))) (eC .non))) (sIf (eOr (eT (eOp oNe (eV 6) (eTup (eCons (eC (.str "bad")) (eCons (eC (.int 0)) (eCons (eC (.bl true)) eNil)))))) (eT (eOp oNe (eV 8) (eTup (eCons (eC (.str "bad")) (eCons (eC (.int 0)) (eCons (eC (.bl true)) eNil))))))) (sRet (eC (.bl false))) sNil) (sIf (eOr (eNot (eTru (eCall 2 (F__law_exact 5) [] (eCons (eVm 6) (eCons (eBi kTup (eCons (eCall 3 F__law_powers [] (eCons (eVm 1) (eCons (eVm 4) (eCons (eVm 5) eNil)))) eNil)) eNil))))) (eT (eOp oNe (eV 8) (eTup (eCons (eC (.str "many")) (eCons (eC (.int 6)) (eCons (eC (.bl true)) eNil))))))) (sRet (eC (.bl false))) sNil)))))))
    (sRet (eC (.bl true))))
end Pd
namespace N16
open PySem PySem.Spec Fw Pd
def B_law : SF := (sSeq (sFor (iRg rg1 (eCons (eC (.int 3)) eNil)) (bNm 2) (sSeq (sSet 3 (eCall 1 F__law_figures [] (eCons (eVm 1) eNil)))
    (sSeq (sSet 4 (eMake "Figures" 2 F_Figures___init__ [] (eCons (eV 3) eNil)))
    (sSeq (sSet 5 (eIf (eT (eOp oGt (eV 3) (eC (.int 0)))) (eBi kMin2 (eCons (eC (.int 6)) (eCons (eOp oAdd (eV 3) (eC (.int 1))) eNil))) (eC (.int 6))))
    (sSeq (sSet 6 (eCall 4 F__law_points [] (eCons (eVm 1) (eCons (eVm 3) (eCons (eOp oAdd (eC (.int 1)) (eCall 2 F__law_take [] (eCons (eVm 1) (eCons (eVm 5) eNil)))) (eCons (eC (.bl true)) eNil))))))
    (sSeq (sIf (eOr (eNot (eTru (eCall 4 F__law_counts [] (eCons (eVm 1) (eCons (eVm 3) (eCons (eVm 4) (eCons (eVm 5) eNil))))))) (eNot (eTru (eCall 4 F__law_checks [] (eCons (eVm 1) (eCons (eVm 3) (eCons (eVm 4) (eCons (eVm 6) eNil)))))))) (sRet (eC (.bl false))) sNil)
    (sIf (eOr (eNot (eTru (eCall 4 F__law_powers_told [] (eCons (eVm 1) (eCons (eVm 3) (eCons (eVm 4) (eCons (eVm 6) eNil))))))) (eNot (eTru (eCall 4 F__law_rows_told [] (eCons (eVm 1) (eCons (eVm 3) (eCons (eVm 4) (eCons (eVm 6) eNil)))))))) (sRet (eC (.bl false))) sNil)))))))
    (sRet (eC (.bl true))))
end N16
namespace N16
open PySem PySem.Spec PyProof.Rows L2 Fw Pd
def top (i : Nat) : Stmt := PySem.Challenge.pw_sparedproducts_k16_whole_points_powers_a.main.body.getD i (.Pass ⟨0, 0, 0, 0⟩)
def fn0 : List He.DefD := [⟨("is_whole", none), "is_whole", "is_whole", defArgs (top 10), defBody (top 10), defScope (top 10), [.non, .non], []⟩,
  ⟨("is_sequence", none), "is_sequence", "is_sequence", defArgs (top 11), defBody (top 11), defScope (top 11), [], []⟩,
  ⟨("is_ratio", none), "is_ratio", "is_ratio", defArgs (top 12), defBody (top 12), defScope (top 12), [], []⟩,
  ⟨("in_lowest_terms", none), "in_lowest_terms", "in_lowest_terms", defArgs (top 13), defBody (top 13), defScope (top 13), [], []⟩,
  ⟨("ratio_times", none), "ratio_times", "ratio_times", defArgs (top 14), defBody (top 14), defScope (top 14), [], []⟩,
  ⟨("ratio_over", none), "ratio_over", "ratio_over", defArgs (top 15), defBody (top 15), defScope (top 15), [], []⟩,
  ⟨("over_one_bottom", none), "over_one_bottom", "over_one_bottom", defArgs (top 17), defBody (top 17), defScope (top 17), [], []⟩,
  ⟨("content_of", none), "content_of", "content_of", defArgs (top 18), defBody (top 18), defScope (top 18), [], []⟩,
  ⟨("in_low_terms", none), "in_low_terms", "in_low_terms", defArgs (top 19), defBody (top 19), defScope (top 19), [], []⟩,
  ⟨("in_proportion", none), "in_proportion", "in_proportion", defArgs (top 20), defBody (top 20), defScope (top 20), [], []⟩,
  ⟨("whole_row", none), "whole_row", "whole_row", defArgs (top 21), defBody (top 21), defScope (top 21), [], []⟩,
  ⟨("undone_rest", none), "undone_rest", "undone_rest", defArgs (top 45), defBody (top 45), defScope (top 45), [], []⟩,
  ⟨("Figures", some "over"), "over", "Figures.over", defArgs (inClass (top 46) 5), defBody (inClass (top 46) 5), defScope (inClass (top 46) 5), [], []⟩,
  ⟨("Figures", some "times"), "times", "Figures.times", defArgs (inClass (top 46) 4), defBody (inClass (top 46) 4), defScope (inClass (top 46) 4), [], []⟩,
  ⟨("row_of_wholes", none), "row_of_wholes", "row_of_wholes", defArgs (top 22), defBody (top 22), defScope (top 22), [], []⟩]
def fn1 : List He.DefD := [⟨("less_wholes", none), "less_wholes", "less_wholes", defArgs (top 23), defBody (top 23), defScope (top 23), [], []⟩,
  ⟨("zero_row", none), "zero_row", "zero_row", defArgs (top 25), defBody (top 25), defScope (top 25), [], []⟩,
  ⟨("unit_row", none), "unit_row", "unit_row", defArgs (top 26), defBody (top 26), defScope (top 26), [], []⟩,
  ⟨("unit_table", none), "unit_table", "unit_table", defArgs (top 27), defBody (top 27), defScope (top 27), [], []⟩,
  ⟨("first_filled", none), "first_filled", "first_filled", defArgs (top 28), defBody (top 28), defScope (top 28), [], []⟩,
  ⟨("cleared_rows", none), "cleared_rows", "cleared_rows", defArgs (top 29), defBody (top 29), defScope (top 29), [], []⟩,
  ⟨("reduced_table", none), "reduced_table", "reduced_table", defArgs (top 30), defBody (top 30), defScope (top 30), [], []⟩,
  ⟨("beside_unit", none), "beside_unit", "beside_unit", defArgs (top 31), defBody (top 31), defScope (top 31), [], []⟩,
  ⟨("undone_table", none), "undone_table", "undone_table", defArgs (top 32), defBody (top 32), defScope (top 32), [], []⟩,
  ⟨("Figures", some "is_number"), "is_number", "Figures.is_number", defArgs (inClass (top 46) 10), defBody (inClass (top 46) 10), defScope (inClass (top 46) 10), [], []⟩,
  ⟨("is_point", none), "is_point", "is_point", defArgs (top 36), defBody (top 36), defScope (top 36), [], []⟩,
  ⟨("Figures", some "whole_number"), "whole_number", "Figures.whole_number", defArgs (inClass (top 46) 8), defBody (inClass (top 46) 8), defScope (inClass (top 46) 8), [], []⟩,
  ⟨("Figures", some "all_numbers"), "all_numbers", "Figures.all_numbers", defArgs (inClass (top 46) 11), defBody (inClass (top 46) 11), defScope (inClass (top 46) 11), [], []⟩,
  ⟨("points_for", none), "points_for", "points_for", defArgs (top 37), defBody (top 37), defScope (top 37), [], []⟩,
  ⟨("check_points", none), "check_points", "check_points", defArgs (top 38), defBody (top 38), defScope (top 38), [.bl true], []⟩]
def fn2 : List He.DefD := [⟨("powers_at", none), "powers_at", "powers_at", defArgs (top 39), defBody (top 39), defScope (top 39), [], []⟩,
  ⟨("power_row", none), "power_row", "power_row", defArgs (top 40), defBody (top 40), defScope (top 40), [], []⟩,
  ⟨("power_table", none), "power_table", "power_table", defArgs (top 41), defBody (top 41), defScope (top 41), [], []⟩,
  ⟨("undone_powers", none), "undone_powers", "undone_powers", defArgs (top 42), defBody (top 42), defScope (top 42), [], []⟩,
  ⟨("Figures", some "__init__"), "__init__", "Figures.__init__", defArgs (inClass (top 46) 0), defBody (inClass (top 46) 0), defScope (inClass (top 46) 0), [], []⟩,
  ⟨("_law_hand", none), "_law_hand", "_law_hand", defArgs (top 48), defBody (top 48), defScope (top 48), [], []⟩,
  ⟨("_law_mixed", none), "_law_mixed", "_law_mixed", defArgs (top 49), defBody (top 49), defScope (top 49), [], []⟩,
  ⟨("_law_take", none), "_law_take", "_law_take", defArgs (top 50), defBody (top 50), defScope (top 50), [], []⟩,
  ⟨("_law_gcd", none), "_law_gcd", "_law_gcd", defArgs (top 51), defBody (top 51), defScope (top 51), [], []⟩,
  ⟨("_law_ratio", none), "_law_ratio", "_law_ratio", defArgs (top 52), defBody (top 52), defScope (top 52), [], []⟩,
  ⟨("_law_num", none), "_law_num", "_law_num", defArgs (top 53), defBody (top 53), defScope (top 53), [], []⟩,
  ⟨("_law_plus", none), "_law_plus", "_law_plus", defArgs (top 54), defBody (top 54), defScope (top 54), [], []⟩,
  ⟨("_law_times", none), "_law_times", "_law_times", defArgs (top 55), defBody (top 55), defScope (top 55), [], []⟩,
  ⟨("_law_less", none), "_law_less", "_law_less", defArgs (top 56), defBody (top 56), defScope (top 56), [], []⟩,
  ⟨("_law_over", none), "_law_over", "_law_over", defArgs (top 57), defBody (top 57), defScope (top 57), [], []⟩]
def fn3 : List He.DefD := [⟨("_law_figures", none), "_law_figures", "_law_figures", defArgs (top 58), defBody (top 58), defScope (top 58), [], []⟩,
  ⟨("_law_rooted", none), "_law_rooted", "_law_rooted", defArgs (top 59), defBody (top 59), defScope (top 59), [], []⟩,
  ⟨("_law_exact", none), "_law_exact", "_law_exact", defArgs (top 60), defBody (top 60), defScope (top 60), [], []⟩,
  ⟨("_law_list", none), "_law_list", "_law_list", defArgs (top 61), defBody (top 61), defScope (top 61), [], []⟩,
  ⟨("_law_points", none), "_law_points", "_law_points", defArgs (top 62), defBody (top 62), defScope (top 62), [], []⟩,
  ⟨("_law_powers", none), "_law_powers", "_law_powers", defArgs (top 63), defBody (top 63), defScope (top 63), [], []⟩,
  ⟨("_law_lone", none), "_law_lone", "_law_lone", defArgs (top 64), defBody (top 64), defScope (top 64), [], []⟩,
  ⟨("_law_first_points", none), "_law_first_points", "_law_first_points", defArgs (top 65), defBody (top 65), defScope (top 65), [], []⟩,
  ⟨("_law_numbers", none), "_law_numbers", "_law_numbers", defArgs (top 66), defBody (top 66), defScope (top 66), [], []⟩,
  ⟨("_law_first_bad", none), "_law_first_bad", "_law_first_bad", defArgs (top 67), defBody (top 67), defScope (top 67), [], []⟩,
  ⟨("_law_checking", none), "_law_checking", "_law_checking", defArgs (top 68), defBody (top 68), defScope (top 68), [], []⟩,
  ⟨("_law_count", none), "_law_count", "_law_count", defArgs (top 69), defBody (top 69), defScope (top 69), [], []⟩,
  ⟨("_law_one_row", none), "_law_one_row", "_law_one_row", defArgs (top 70), defBody (top 70), defScope (top 70), [], []⟩,
  ⟨("_law_two_tables", none), "_law_two_tables", "_law_two_tables", defArgs (top 71), defBody (top 71), defScope (top 71), [], []⟩,
  ⟨("_law_no_point", none), "_law_no_point", "_law_no_point", defArgs (top 72), defBody (top 72), defScope (top 72), [], []⟩]
def fn4 : List He.DefD := [⟨("_law_spoilt", none), "_law_spoilt", "_law_spoilt", defArgs (top 73), defBody (top 73), defScope (top 73), [], []⟩,
  ⟨("_law_counts", none), "_law_counts", "_law_counts", defArgs (top 74), defBody (top 74), defScope (top 74), [], []⟩,
  ⟨("_law_checks", none), "_law_checks", "_law_checks", defArgs (top 75), defBody (top 75), defScope (top 75), [], []⟩,
  ⟨("_law_powers_told", none), "_law_powers_told", "_law_powers_told", defArgs (top 76), defBody (top 76), defScope (top 76), [], []⟩,
  ⟨("_law_rows_told", none), "_law_rows_told", "_law_rows_told", defArgs (top 77), defBody (top 77), defScope (top 77), [], []⟩,
  ⟨("law", none), "law", "law", defArgs (top 78), defBody (top 78), defScope (top 78), [], []⟩,
  ⟨("BadFigures", some "__init__"), "__init__", "BadFigures.__init__", defArgs (inClass (top 5) 0), defBody (inClass (top 5) 0), defScope (inClass (top 5) 0), [], []⟩,
  ⟨("BadPoints", some "__init__"), "__init__", "BadPoints.__init__", defArgs (inClass (top 7) 0), defBody (inClass (top 7) 0), defScope (inClass (top 7) 0), [], []⟩,
  ⟨("BadMany", some "__init__"), "__init__", "BadMany.__init__", defArgs (inClass (top 8) 0), defBody (inClass (top 8) 0), defScope (inClass (top 8) 0), [], []⟩]
def fns : List He.DefD := fn0 ++ fn1 ++ fn2 ++ fn3 ++ fn4
def gls : List Str := (["is_whole", "is_sequence", "is_ratio", "in_lowest_terms", "ratio_times", "ratio_over", "over_one_bottom", "content_of", "in_low_terms", "in_proportion", "whole_row", "row_of_wholes", "less_wholes", "zero_row", "unit_row", "unit_table", "first_filled", "cleared_rows", "reduced_table", "beside_unit", "undone_table", "is_point", "points_for", "check_points", "powers_at"] : List Str) ++ (["power_row", "power_table", "undone_powers", "undone_rest", "_law_hand", "_law_mixed", "_law_take", "_law_gcd", "_law_ratio", "_law_num", "_law_plus", "_law_times", "_law_less", "_law_over", "_law_figures", "_law_rooted", "_law_exact", "_law_list", "_law_points", "_law_powers", "_law_lone", "_law_first_points", "_law_numbers", "_law_first_bad", "_law_checking"] : List Str) ++ (["_law_count", "_law_one_row", "_law_two_tables", "_law_no_point", "_law_spoilt", "_law_counts", "_law_checks", "_law_powers_told", "_law_rows_told", "law", "OFFERED", "PairError", "DividedByNought", "BadFigures", "NotOnce", "BadPoints", "BadMany", "Figures"] : List Str)
def tb : Tb where
  fn := fns
  gl := gls
  frs := (["abs", "bool", "enumerate", "int", "isinstance", "len", "list", "min", "range", "str", "tuple", "zip"] : List Str)
  nI := [("MOST_POINTS", 6)]
  nS := [("LAST", "last")]
  nT := [("OFFERED", [.int 0, .int 2, .int 3, .int 5, .int 7, .int 11, .int 13])]
  cls := [⟨"Figures", ["prime", "zero", "one"], ["times", "over", "whole_number", "is_number", "all_numbers"]⟩]
  bas := "PairError"
  errs := ["DividedByNought", "BadFigures", "NotOnce", "BadPoints", "BadMany"]
  bare := ["DividedByNought", "NotOnce"]
  ini := [("BadFigures", ["prime"]), ("BadPoints", ["index"]), ("BadMany", ["most"])]
  exm := [("DividedByNought", "BadPoints", false), ("BadFigures", "BadPoints", false), ("NotOnce", "BadPoints", false), ("BadPoints", "BadPoints", true), ("BadMany", "BadPoints", false), ("DividedByNought", "BadMany", false), ("BadFigures", "BadMany", false), ("NotOnce", "BadMany", false), ("BadPoints", "BadMany", false), ("BadMany", "BadMany", true)]
  kit := [("DividedByNought", "PairError", true), ("BadFigures", "PairError", true), ("NotOnce", "PairError", true), ("BadPoints", "PairError", true), ("BadMany", "PairError", true)]
  spc := []
  nes := []
  vcl := []
section
variable {P : Program} {w : World} {K : PySem.W.Frag} {mg : Str → Option Value} {base : Heap}
theorem tupOk_OFFERED (T : Fs tb K mg) : mg "OFFERED" = some (.ref (He.ga K "OFFERED")) ∧ ∀ ha G, Dq ⟨K, mg, none⟩ ha G (.ref (He.ga K "OFFERED")) (.tup tup_OFFERED) := ⟨T.gl 60 "OFFERED" rfl, fun ha G => .tup (T.tup 0 _ rfl G) (.cons (.int _) (.cons (.int _) (.cons (.int _) (.cons (.int _) (.cons (.int _) (.cons (.int _) (.cons (.int _) .nil)))))))⟩
theorem er_DividedByNought (T : Fs tb K mg) : EA0 ⟨K, mg, none⟩ "DividedByNought" := ea0 T 0 0 62 rfl rfl rfl
theorem er_BadFigures (T : Fs tb K mg) : EA1 P w ⟨K, mg, none⟩ base "BadFigures" "prime" := by
  obtain ⟨fd, D⟩ : ∃ fd, FunD K "__init__" "BadFigures.__init__" (defArgs (inClass (top 5) 0)) (defBody (inClass (top 5) 0)) (defScope (inClass (top 5) 0)) [] [] (He.ma K (He.ga K "BadFigures") "__init__") fd := T.says.def_ 66 rfl
  exact ea1 T 1 0 63 rfl rfl rfl (FunD.ok D (N := ["self", "prime"]) ⟨rfl, rfl, rfl, by decide +kernel, rfl, by decide +kernel, by decide +kernel⟩ (fun vs H Q E h => lenN h) (fun cdv A outer s H vs Q E hr h => ⟨_, PSs.nox (pss_one (ps_ost (pv 0) (pv 1))), Ky.rd1 rfl (T.er 1 _ rfl) (noatI T 0 rfl (by decide)) h⟩)) (FunD.bindsN D (fun _ _ _ _ _ _ us hl => match us, hl with | [_, _], _ => rfl))
theorem er_NotOnce (T : Fs tb K mg) : EA0 ⟨K, mg, none⟩ "NotOnce" := ea0 T 2 1 64 rfl rfl rfl
theorem er_BadPoints (T : Fs tb K mg) : EA1 P w ⟨K, mg, none⟩ base "BadPoints" "index" := by
  obtain ⟨fd, D⟩ : ∃ fd, FunD K "__init__" "BadPoints.__init__" (defArgs (inClass (top 7) 0)) (defBody (inClass (top 7) 0)) (defScope (inClass (top 7) 0)) [] [] (He.ma K (He.ga K "BadPoints") "__init__") fd := T.says.def_ 67 rfl
  exact ea1 T 3 1 65 rfl rfl rfl (FunD.ok D (N := ["self", "index"]) ⟨rfl, rfl, rfl, by decide +kernel, rfl, by decide +kernel, by decide +kernel⟩ (fun vs H Q E h => lenN h) (fun cdv A outer s H vs Q E hr h => ⟨_, PSs.nox (pss_one (ps_ost (pv 0) (pv 1))), Ky.rd1 rfl (T.er 3 _ rfl) (noatI T 1 rfl (by decide)) h⟩)) (FunD.bindsN D (fun _ _ _ _ _ _ us hl => match us, hl with | [_, _], _ => rfl))
theorem er_BadMany (T : Fs tb K mg) : EA1 P w ⟨K, mg, none⟩ base "BadMany" "most" := by
  obtain ⟨fd, D⟩ : ∃ fd, FunD K "__init__" "BadMany.__init__" (defArgs (inClass (top 8) 0)) (defBody (inClass (top 8) 0)) (defScope (inClass (top 8) 0)) [] [] (He.ma K (He.ga K "BadMany") "__init__") fd := T.says.def_ 68 rfl
  exact ea1 T 4 2 66 rfl rfl rfl (FunD.ok D (N := ["self", "most"]) ⟨rfl, rfl, rfl, by decide +kernel, rfl, by decide +kernel, by decide +kernel⟩ (fun vs H Q E h => lenN h) (fun cdv A outer s H vs Q E hr h => ⟨_, PSs.nox (pss_one (ps_ost (pv 0) (pv 1))), Ky.rd1 rfl (T.er 4 _ rfl) (noatI T 2 rfl (by decide)) h⟩)) (FunD.bindsN D (fun _ _ _ _ _ _ us hl => match us, hl with | [_, _], _ => rfl))
theorem scH : FnScope ["_law_script", "_law_total", "_law_cells", "_law_cell"] ["_law_script"] (defScope (top 48)) := ⟨rfl, rfl, rfl, by decide +kernel, rfl, by decide +kernel, by decide +kernel⟩
theorem ok_hand {fd : FuncData} {f : Addr} (T : Fs tb K mg) (F : FunD K "_law_hand" "_law_hand" (defArgs (top 48)) (defBody (top 48)) (defScope (top 48)) [] [] f fd) : FnOk P w K mg base CX0 1 f fd ["_law_script"] (spHand K) := by
  refine F.ok scH (fun vs H Q E h => ?_) (fun cdv A outer s H vs Q E hr h => ?_)
  · obtain ⟨a, ns, rfl, _⟩ := h
    rfl
  · obtain ⟨a, ns, rfl, hS, hlen, k⟩ := h
    refine ⟨_, PSs.nox (pss_cons (ps_set (i := 1) scH.nd rfl (Or.inl rfl) (pe_op op_add (pe_callB call_len (by rfl) (T.fr 5 "len" rfl) PySem.boot_len (pa_cons (pv 0) pa_nil)) pe_int))
      (pss_cons (ps_set (i := 2) scH.nd rfl (Or.inl rfl) (pe_lst pa_nil))
      (pss_cons (ps_for PassesOwn.never rfl (pi_list (pv 0)) (pg_name (i := 3) scH.nd rfl (Or.inl rfl))
        (pss_cons (ps_set (i := 1) scH.nd rfl (Or.inl rfl) (pe_op op_mod (pe_callTy call_int1 (by rfl) (T.fr 3 "int" rfl) PyProof.Rows.boot_int (pa_cons (pe_op op_add (pe_op op_mul (pv 1) pe_int) (pe_callTy call_int1 (by rfl) (T.fr 3 "int" rfl) PyProof.Rows.boot_int (pa_cons (pv 3) pa_nil))) pa_nil)) pe_int))
        (pss_one (ps_expr (pe_bm PySem.F.plainAttrs_list PySem.F.slot_list_append PySem.F.type_list_append mt_append (pv 2) (pa_cons (pe_callB call_abs (by rfl) (T.fr 0 "abs" rfl) (by decide +kernel) (pa_cons (pe_callTy call_int1 (by rfl) (T.fr 3 "int" rfl) PyProof.Rows.boot_int (pa_cons (pv 3) pa_nil)) pa_nil)) pa_nil))))))
      (pss_one (ps_ret (pe_lst (pa_cons (pv 2) (pa_cons pe_int (pa_cons pe_int (pa_cons (pv 1) pa_nil)))))))))), ?_⟩
    have hn2 : (ns.map V.int).length ≤ 63 := by rw [List.length_map]; exact hlen
    refine ⟨_, rfl, _, _, rfl, Or.inl ⟨_, hS, rfl⟩, _, _, rfl, rfl, Nat.zero_le _, fun c hc => ?_⟩
    have s0 : Same H (upd H c (.lst [])) := fun b o e => by
      rw [upd_ne (ne_of_none e hc)]
      exact e
    refine ⟨_, rfl, a, rfl, ⟨_, s0.seq hS⟩, for_list (K := K) (a := a) (xs := ns.map V.int) (fun i σ H2 => ∃ (cs : List Int) (t : Int) (v : Option V), σ = [some (.ref a), some (.int t), some (.ref c), v] ∧ Same H H2 ∧ H2 c = some (.lst (cs.map V.int)) ∧ (∀ z ∈ cs, 0 ≤ z) ∧ cs.length = i ∧ 0 ≤ t ∧ t < 2147483648)
      ⟨[], _, none, rfl, s0, upd_same, (fun z hz => nomatch hz), rfl, by omega, by omega⟩ (fun i σ H2 _ ⟨_, _, _, _, s2, _⟩ => s2.seq hS) ?_ ?_⟩
    · rintro i y σ H2 hi ⟨cs, t, v, rfl, s2, h2, hz, hk, t0, t1⟩
      obtain ⟨z, rfl⟩ : ∃ z, y = V.int z := by
        rw [List.getElem?_map] at hi
        cases e : ns[i]? with
        | none =>
          rw [e] at hi
          cases hi
        | some z =>
          rw [e] at hi
          exact ⟨z, (Option.some.inj hi).symm⟩
      have hil : i < (ns.map V.int).length := (List.getElem?_eq_some_iff.mp hi).1
      refine ⟨_, rfl, _, _, rfl, rfl, .inr ⟨by decide, by decide⟩, _, rfl, .inl ⟨_, rfl, _, _, rfl, rfl, .inl ⟨_, rfl, _, _, rfl, rfl, (by show (0 : Int) < 2147483563; decide), ?_⟩⟩⟩
      refine ⟨_, rfl, .inl ⟨rfl, _, SqL.of h2⟩, _, rfl, .inl ⟨_, rfl, _, rfl, c, _, _, rfl, rfl, h2, ?_, ?_⟩⟩
      · rw [List.length_map]
        exact small1000 (by omega)
      · refine ⟨cs ++ [if z < 0 then -z else z], _, _, rfl, ?_, ?_, ?_, ?_, ?_, ?_⟩
        · intro b o e
          by_cases hb : b = c
          · rw [hb, hc] at e
            cases e
          · rw [upd_ne hb]
            exact s2 b o e
        · rw [upd_same, List.map_append]
          rfl
        · intro x hx
          rcases List.mem_append.mp hx with hx | hx
          · exact hz x hx
          · rw [List.mem_singleton.mp hx]
            split <;> omega
        · rw [List.length_append, hk]
          rfl
        · exact Int.emod_nonneg _ (by decide)
        · exact Int.lt_trans (Int.emod_lt_of_pos _ (by decide)) (by decide)
    · rintro σ H2 ⟨cs, t, v, rfl, s2, h2, hz, hk, t0, t1⟩
      refine ⟨_, rfl, _, rfl, (by show 4 ≤ sizeLine; decide), fun p hp => ?_⟩
      have hcp : c ≠ p := ne_of_none h2 hp
      refine k p c cs t _ (fun b o e => ?_) ⟨upd_same, by rw [upd_ne hcp]; exact h2, hz, by omega, t0, t1⟩
      rw [upd_ne (ne_of_none (s2 b o e) hp)]
      exact s2 b o e
theorem hand_ok (T : Fs tb K mg) : HandOk P w K mg base (He.ga K "_law_hand") := by
  obtain ⟨fd, D⟩ : ∃ fd, FunD K "_law_hand" "_law_hand" (defArgs (top 48)) (defBody (top 48)) (defScope (top 48)) [] [] (He.ga K "_law_hand") fd := T.says.def_ 35 rfl
  exact ⟨⟨fd, ok_hand T D, FunD.bindsN D (fun _ _ _ _ _ _ us hl => match us, hl with | [_], _ => rfl)⟩, D.kp⟩
end
end N16
namespace Kf
open PySem PySem.Spec PyProof.Rows L2 Kx
def hookL (as : List Addr) (ck : PySem.W.Frag → Bool) (fn : List He.DefD) : PySem.W.Hook where
  α := Bool × He.AlD
  obs := fun s => (ck (He.frG s.heap.get? as), He.obsD [] fn (He.frG s.heap.get? as))
  val := fun _ => (true, He.valD fn)
  says := fun _ h => ∃ K : PySem.W.Frag, K.In h ∧ ck K = true ∧ He.SaysD [] fn K
  of := fun _ _ e => ⟨_, He.frG_in, (Prod.mk.inj e).1, (Prod.mk.inj e).2⟩
  keeps := fun _ _ _ ⟨K, hK, c⟩ k => ⟨K, PySem.W.Frag.In.keeps hK k, c⟩
def obL (as : List Addr) (ck : PySem.W.Frag → Bool) (fn : List He.DefD) (g : Addr → Option Obj) : Bool × He.AlD := (ck (He.frG g as), He.obsD [] fn (He.frG g as))
theorem obL_eq {as : List Addr} {ck : PySem.W.Frag → Bool} {fn : List He.DefD} {g : Addr → Option Obj} {s : Shared} (h : ∀ a, g a = s.heap.get? a) : obL as ck fn g = (hookL as ck fn).obs s := by
  have e : g = s.heap.get? := funext h
  rw [e] <;> rfl
end Kf
namespace X16
open PySem PySem.Spec PyProof.Rows L2 Fw Kf
def loose : List Str := (["_wall", "PairError", "DividedByNought", "BadFigures", "NotOnce", "BadPoints", "BadMany", "is_whole", "is_sequence", "is_ratio", "in_lowest_terms", "ratio_times", "ratio_over", "over_one_bottom", "content_of", "in_low_terms", "in_proportion", "whole_row", "row_of_wholes", "less_wholes", "zero_row", "unit_row", "unit_table", "first_filled", "cleared_rows", "reduced_table", "beside_unit", "undone_table", "is_point", "points_for"] : List Str) ++ (["check_points", "powers_at", "power_row", "power_table", "undone_powers", "undone_rest", "Figures", "_law_hand", "_law_mixed", "_law_take", "_law_gcd", "_law_ratio", "_law_num", "_law_plus", "_law_times", "_law_less", "_law_over", "_law_figures", "_law_rooted", "_law_exact", "_law_list", "_law_points", "_law_powers", "_law_lone", "_law_first_points", "_law_numbers", "_law_first_bad", "_law_checking", "_law_count", "_law_one_row"] : List Str) ++ (["_law_two_tables", "_law_no_point", "_law_spoilt", "_law_counts", "_law_checks", "_law_powers_told", "_law_rows_told", "OFFERED", "MOST_POINTS", "LAST", "gcd"] : List Str)
abbrev R : PySem.W.OpenRow := PySem.W.OpenLaw.row PySem.Challenge.rw_sparedproducts_k16_whole_points_powers_a
def as : List Addr := ([3,  59,  72,  91,  103,  122,  141,  151,  158,  165,  172,  179,  186,  191,  198,  203,  208,  215,  220,  225,  232,  239,  244,  251,  256,  261,  266,  271,  278,  283,  291,  298,  305,  310,  317,  318,  325,  419,  430,  437,  444,  451,  458,  465,  472,  479,  486,  493,  500,  505,  510,  517,  522,  527,  532,  537,  544,  551,  558,  565,  572,  579,  586,  593,  600,  607,  612,  619,  626,  58,  71,  90,  102,  121,  140,  150,  144,  157,  164,  171,  178,  185,  190,  197,  202,  207,  214,  219,  224,  231,  238,  243,  250,  255,  260,  265,  270,  277,  282,  290,  284,  297,  304,  309,  316,  324,  418,  429,  436,  443,  450,  457,  464,  471,  478,  485,  492,  499,  504,  509,  516,  521,  526,  531,  536,  543,  550,  557,  564,  571,  578,  585,  592,  599,  606,  611,  618,  625,  88,  119,  138,  339,  367,  374,  395,  409,  416,  87,  118,  137,  338,  366,  373,  394,  408,  415] : List Nat)
abbrev hk : PySem.W.Hook := hookL as N16.tb.ck N16.fns
def ob (s : PySem.W.SharedT) : Bool × He.AlD := obL as N16.tb.ck N16.fns (HandSHeadRun.getT s)
theorem ob_eq (s : PySem.W.SharedT) : ob s = hk.obs s.abs := obL_eq (HandSHeadRun.getT_eq s)
noncomputable def whl (w : World) := HandSHeadRun.wholeF (fun p => HandSHeadRun.stepQ (HandSHeadRun.denQ HandSHeadRun.tabQ) p w) HandSHeadRun.fenceQ 20000 R.prog
open HandSHeadRun PySem.W PySem.Calls PyProof.Rows in
theorem run1 (w : World) : (whl w).map (fun x => (looksF R.prog x.1.heap x.2.abs, seenQ (PySem.W.view R.prog [78]) loose (importedModules R.prog.main.body) (fun s => PySem.W.xlAt (PySem.W.view R.prog [78]) [] s && PySem.W.recOk R.toRowW.records s) x.2.abs)) = some (true, PySem.W.openGood (PySem.W.view R.prog [78]) loose) := by
  kernel_rfl
theorem run2 (w : World) : (whl w).map (fun x => ob x.2) = some (hk.val w) := by
  kernel_rfl
theorem both3 {α β γ δ : Type} {o : Option α} {f : α → β} {g : α → γ} {k : α → δ} {a : β} {b : γ} {c : δ} (h1 : o.map (fun x => (f x, g x)) = some (a, b)) (h2 : o.map k = some c) : o.map (fun x => (f x, g x, k x)) = some (a, b, c) := by
  cases o with
  | none => cases h1
  | some x =>
    have e1 : (f x, g x) = (a, b) := Option.some.inj h1
    have e2 : k x = c := Option.some.inj h2
    show some (f x, g x, k x) = some (a, b, c)
    rw [(Prod.mk.inj e1).1, (Prod.mk.inj e1).2, e2]
theorem run (w : World) : HandSHeadRun.RunEqI R (PySem.W.view R.prog [78]) hk ob 20000 loose w := by
  unfold HandSHeadRun.RunEqI
  exact both3 (run1 w) (run2 w)
end X16
namespace N16
open PySem PySem.Spec PyProof.Rows L2 Fw Pd
section
variable {P : Program} {w : World} {K : PySem.W.Frag} {mg : Str → Option Value} {base : Heap}
theorem sc_is_whole : FnScope ["thing", "low", "high"] ["thing", "low", "high"] (defScope (top 10)) := ⟨rfl, rfl, rfl, by decide +kernel, rfl, by decide +kernel, by decide +kernel⟩
theorem fok_is_whole {fd : FuncData} (T : Fs tb K mg) (D : FunD K "is_whole" "is_whole" (defArgs (top 10)) (defBody (top 10)) (defScope (top 10)) [.non, .non] [] (He.ga K "is_whole") fd) : FnOk P w K mg base (L2.CX P w) 1 (He.ga K "is_whole") fd ["thing", "low", "high"] (spD ⟨K, mg, none⟩ false 3 F_is_whole) :=
  (ok_def (N := ["thing", "low", "high"]) (ps := ["thing", "low", "high"]) (k := 0) (c := ⟨K, mg, none⟩) D sc_is_whole (fun cdv A outer s H E hr => (ds_cons (ds_if (PW.pt (dw_or (dt_not (dt_tru rfl (dx_is T.gt (by decide) (by rfl) (T.fr 4 "isinstance" rfl) (xv 0) (pe_bltn (v := .ty "int") (by rfl) (T.fr 3 "int" rfl) (by decide +kernel) rfl)))) (dw_or1 (dt_tru rfl (dx_is T.gt (by decide) (by rfl) (T.fr 4 "isinstance" rfl) (xv 0) (pe_bltn (v := .ty "bool") (by rfl) (T.fr 1 "bool" rfl) (by decide +kernel) rfl)))))) (ds_one (ds_ret dx_b)) ds_nil)
      (ds_one (ds_ret (dx_and (dx_or (dx_cmp op_isN d_isN (xv 1) dx_n) (dx_one (dx_cmp op_ge d_ge (xv 0) (xv 1)))) (dx_one (dx_or (dx_cmp op_isN d_isN (xv 2) dx_n) (dx_one (dx_cmp op_le d_le (xv 0) (xv 2)))))))))))
theorem cal_is_whole_0 (T : Fs tb K mg) : Cal P w ⟨K, mg, none⟩ base false 1 (He.ga K "is_whole") 3 F_is_whole [] := by
  obtain ⟨fd, D⟩ : ∃ fd, FunD K "is_whole" "is_whole" (defArgs (top 10)) (defBody (top 10)) (defScope (top 10)) [.non, .non] [] (He.ga K "is_whole") fd := T.says.def_ 0 rfl
  exact cal_of1 D (fok_is_whole T D) (FunD.binds1 D 3 2 (by simp) rfl fun T kV doc pm an cdv ct us its h1 h2 => by
    match us, its, h1, h2 with
    | [_, _, _], [_, _], _, _ => exact ⟨_, rfl, by first | rfl | kernel_rfl⟩) fun _ _ => .nil
theorem cal_is_whole_1 (T : Fs tb K mg) : Cal P w ⟨K, mg, none⟩ base false 1 (He.ga K "is_whole") 3 F_is_whole [.non] := by
  obtain ⟨fd, D⟩ : ∃ fd, FunD K "is_whole" "is_whole" (defArgs (top 10)) (defBody (top 10)) (defScope (top 10)) [.non, .non] [] (He.ga K "is_whole") fd := T.says.def_ 0 rfl
  exact cal_of1 D (fok_is_whole T D) (FunD.binds1 D 2 1 (by simp) rfl fun T kV doc pm an cdv ct us its h1 h2 => by
    match us, its, h1, h2 with
    | [_, _], [_, _], _, _ => exact ⟨_, rfl, by first | rfl | kernel_rfl⟩) fun _ _ => (.cons .non .nil)
theorem cal_is_whole_2 (T : Fs tb K mg) : Cal P w ⟨K, mg, none⟩ base false 1 (He.ga K "is_whole") 3 F_is_whole [.non, .non] := by
  obtain ⟨fd, D⟩ : ∃ fd, FunD K "is_whole" "is_whole" (defArgs (top 10)) (defBody (top 10)) (defScope (top 10)) [.non, .non] [] (He.ga K "is_whole") fd := T.says.def_ 0 rfl
  exact cal_of1 D (fok_is_whole T D) (FunD.binds1 D 1 0 (by simp) rfl fun T kV doc pm an cdv ct us its h1 h2 => by
    match us, its, h1, h2 with
    | [_], [_, _], _, _ => exact ⟨_, rfl, by first | rfl | kernel_rfl⟩) fun _ _ => (.cons .non (.cons .non .nil))
theorem sc_is_sequence : FnScope ["thing"] ["thing"] (defScope (top 11)) := ⟨rfl, rfl, rfl, by decide +kernel, rfl, by decide +kernel, by decide +kernel⟩
theorem cal_is_sequence (T : Fs tb K mg) : Cal P w ⟨K, mg, none⟩ base false 1 (He.ga K "is_sequence") 1 F_is_sequence [] := by
  obtain ⟨fd, D⟩ : ∃ fd, FunD K "is_sequence" "is_sequence" (defArgs (top 11)) (defBody (top 11)) (defScope (top 11)) [] [] (He.ga K "is_sequence") fd := T.says.def_ 1 rfl
  exact cal_of D (ok_def (N := ["thing"]) (ps := ["thing"]) (k := 0) (c := ⟨K, mg, none⟩) D sc_is_sequence (fun cdv A outer s H E hr => (ds_one (ds_ret (dx_is2 T.gt (by decide) (by decide) (by rfl) (T.fr 4 "isinstance" rfl) (xv 0) (pe_bltn (v := .ty "list") (by rfl) (T.fr 6 "list" rfl) (by decide +kernel) rfl) (pe_bltn (v := .ty "tuple") (by rfl) (T.fr 10 "tuple" rfl) (by decide +kernel) rfl)))))) (FunD.bindsN D (fun _ _ _ _ _ _ us hl => match us, hl with | [_], _ => rfl))
theorem sc_is_ratio : FnScope ["thing", "top", "bottom"] ["thing"] (defScope (top 12)) := ⟨rfl, rfl, rfl, by decide +kernel, rfl, by decide +kernel, by decide +kernel⟩
theorem cal_is_ratio (T : Fs tb K mg) : Cal P w ⟨K, mg, none⟩ base false 2 (He.ga K "is_ratio") 1 F_is_ratio [] := by
  obtain ⟨fd, D⟩ : ∃ fd, FunD K "is_ratio" "is_ratio" (defArgs (top 12)) (defBody (top 12)) (defScope (top 12)) [] [] (He.ga K "is_ratio") fd := T.says.def_ 2 rfl
  exact cal_of D (ok_def (N := ["thing", "top", "bottom"]) (ps := ["thing"]) (k := 1) (c := ⟨K, mg, none⟩) D sc_is_ratio (fun cdv A outer s H E hr => (ds_cons (ds_if (PW.pt (dw_or (dt_not (dt_tru rfl (dx_is T.gt (by decide) (by rfl) (T.fr 4 "isinstance" rfl) (xv 0) (pe_bltn (v := .ty "tuple") (by rfl) (T.fr 10 "tuple" rfl) (by decide +kernel) rfl)))) (dw_or1 (dt_cmp (c_neD hr.units rfl) d_ne (dx_bi (c_len rfl) k_len (by rfl) (T.fr 5 "len" rfl) PySem.boot_len (da_cons (xv 0) da_nil)) dx_i)))) (ds_one (ds_ret dx_b)) ds_nil)
      (ds_cons (ds_asg (vs := [1, 2]) (gg := (gTup K 2 (gCons (gName 1) (gCons (gName 2) gNil)))) (bind := (bTp [(bNm 1), (bNm 2)])) (bd_tp rfl (ba_cons (bd_nm (by decide)) (ba_cons (bd_nm (by decide)) ba_nil))) (xv 0) (pg_tup rfl (pgs_cons (gN 1 sc_is_ratio.nd) (pgs_cons (gN 2 sc_is_ratio.nd) pgs_nil))))
      (ds_one (ds_ret (dx_and (cc_call (cal_is_whole_2 T) (hr.mono (by decide)) (T.gl 0 "is_whole" rfl) (fun σ => passAt (takes_of rfl rfl rfl rfl) σ) (xG 1 dg_nil)) (dx_and (cc_call (cal_is_whole_1 T) (hr.mono (by decide)) (T.gl 0 "is_whole" rfl) (fun σ => passAt (takes_of rfl rfl rfl rfl) σ) (xG 2 (dg_cons dx_i dg_nil))) (dx_one (dx_cmp (c_eqD hr.units rfl) d_eq (dx_fun cr_gcd k_gcd (by rfl) T.gcd (da_cons (xv 1) (da_cons (xv 2) da_nil))) dx_i)))))))))) (FunD.bindsN D (fun _ _ _ _ _ _ us hl => match us, hl with | [_], _ => rfl))
theorem sc_in_lowest_terms : FnScope ["top", "bottom", "divisor"] ["top", "bottom"] (defScope (top 13)) := ⟨rfl, rfl, rfl, by decide +kernel, rfl, by decide +kernel, by decide +kernel⟩
theorem cal_in_lowest_terms (T : Fs tb K mg) : Cal P w ⟨K, mg, none⟩ base false 1 (He.ga K "in_lowest_terms") 2 F_in_lowest_terms [] := by
  obtain ⟨fd, D⟩ : ∃ fd, FunD K "in_lowest_terms" "in_lowest_terms" (defArgs (top 13)) (defBody (top 13)) (defScope (top 13)) [] [] (He.ga K "in_lowest_terms") fd := T.says.def_ 3 rfl
  exact cal_of D (ok_def (N := ["top", "bottom", "divisor"]) (ps := ["top", "bottom"]) (k := 0) (c := ⟨K, mg, none⟩) D sc_in_lowest_terms (fun cdv A outer s H E hr => (ds_cons (sS 2 sc_in_lowest_terms.nd (dx_fun cr_gcd k_gcd (by rfl) T.gcd (da_cons (xv 0) (da_cons (xv 1) da_nil))))
      (ds_cons (ds_if (dt_cmp op_lt d_lt (xv 1) dx_i) (ds_one (sS 2 sc_in_lowest_terms.nd (dx_neg (xv 2)))) ds_nil)
      (ds_one (ds_ret (dx_tup (da_cons (dx_op op_fdivG d_div (xv 0) (xv 2)) (da_cons (dx_op op_fdivG d_div (xv 1) (xv 2)) da_nil))))))))) (FunD.bindsN D (fun _ _ _ _ _ _ us hl => match us, hl with | [_, _], _ => rfl))
theorem sc_ratio_times : FnScope ["one", "other"] ["one", "other"] (defScope (top 14)) := ⟨rfl, rfl, rfl, by decide +kernel, rfl, by decide +kernel, by decide +kernel⟩
theorem cal_ratio_times (T : Fs tb K mg) : Cal P w ⟨K, mg, none⟩ base false 2 (He.ga K "ratio_times") 2 F_ratio_times [] := by
  obtain ⟨fd, D⟩ : ∃ fd, FunD K "ratio_times" "ratio_times" (defArgs (top 14)) (defBody (top 14)) (defScope (top 14)) [] [] (He.ga K "ratio_times") fd := T.says.def_ 4 rfl
  exact cal_of D (ok_def (N := ["one", "other"]) (ps := ["one", "other"]) (k := 1) (c := ⟨K, mg, none⟩) D sc_ratio_times (fun cdv A outer s H E hr => (ds_one (ds_ret (cc_call (cal_in_lowest_terms T) (hr.mono (by decide)) (T.gl 3 "in_lowest_terms" rfl) (fun σ => passAt (takes_of rfl rfl rfl rfl) σ) (dg_cons (dx_op op_mulW d_mul (dx_ix (xv 0) dx_i) (dx_ix (xv 1) dx_i)) (dg_cons (dx_op op_mulW d_mul (dx_ix (xv 0) dx_i) (dx_ix (xv 1) dx_i)) dg_nil))))))) (FunD.bindsN D (fun _ _ _ _ _ _ us hl => match us, hl with | [_, _], _ => rfl))
theorem sc_ratio_over : FnScope ["one", "other"] ["one", "other"] (defScope (top 15)) := ⟨rfl, rfl, rfl, by decide +kernel, rfl, by decide +kernel, by decide +kernel⟩
theorem cal_ratio_over (T : Fs tb K mg) : Cal P w ⟨K, mg, none⟩ base false 3 (He.ga K "ratio_over") 2 F_ratio_over [] := by
  obtain ⟨fd, D⟩ : ∃ fd, FunD K "ratio_over" "ratio_over" (defArgs (top 15)) (defBody (top 15)) (defScope (top 15)) [] [] (He.ga K "ratio_over") fd := T.says.def_ 5 rfl
  exact cal_of D (ok_def (N := ["one", "other"]) (ps := ["one", "other"]) (k := 2) (c := ⟨K, mg, none⟩) D sc_ratio_over (fun cdv A outer s H E hr => (ds_cons (ds_if (dt_cmp (c_eqD hr.units rfl) d_eq (dx_ix (xv 1) dx_i) dx_i) (ds_one (xr0 (er_DividedByNought T) (takes_of rfl rfl rfl rfl))) ds_nil)
      (ds_one (ds_ret (cc_call (cal_in_lowest_terms T) (hr.mono (by decide)) (T.gl 3 "in_lowest_terms" rfl) (fun σ => passAt (takes_of rfl rfl rfl rfl) σ) (dg_cons (dx_op op_mulW d_mul (dx_ix (xv 0) dx_i) (dx_ix (xv 1) dx_i)) (dg_cons (dx_op op_mulW d_mul (dx_ix (xv 0) dx_i) (dx_ix (xv 1) dx_i)) dg_nil)))))))) (FunD.bindsN D (fun _ _ _ _ _ _ us hl => match us, hl with | [_, _], _ => rfl))
theorem sc_over_one_bottom : FnScope ["row", "bottom", "_", "part", "top"] ["row"] (defScope (top 17)) := ⟨rfl, rfl, rfl, by decide +kernel, rfl, by decide +kernel, by decide +kernel⟩
theorem cal_over_one_bottom (T : Fs tb K mg) : Cal P w ⟨K, mg, none⟩ base false 1 (He.ga K "over_one_bottom") 1 F_over_one_bottom [] := by
  obtain ⟨fd, D⟩ : ∃ fd, FunD K "over_one_bottom" "over_one_bottom" (defArgs (top 17)) (defBody (top 17)) (defScope (top 17)) [] [] (He.ga K "over_one_bottom") fd := T.says.def_ 6 rfl
  exact cal_of D (ok_def (N := ["row", "bottom", "_", "part", "top"]) (ps := ["row"]) (k := 0) (c := ⟨K, mg, none⟩) D sc_over_one_bottom (fun cdv A outer s H E hr => (ds_cons (sS 1 sc_over_one_bottom.nd dx_i)
      (ds_cons (ds_for (vs := [2, 3]) (gg := (gTup K 2 (gCons (gName 2) (gCons (gName 3) gNil)))) (bind := (bTp [(bNm 2), (bNm 3)])) (passes_of rfl) rfl (bd_tp rfl (ba_cons (bd_nm (by decide)) (ba_cons (bd_nm (by decide)) ba_nil))) (di_seq (xv 0)) (pg_tup rfl (pgs_cons (gN 2 sc_over_one_bottom.nd) (pgs_cons (gN 3 sc_over_one_bottom.nd) pgs_nil))) (ds_one (sS 1 sc_over_one_bottom.nd (dx_op op_fdivG d_div (dx_op op_mulW d_mul (xv 1) (xv 3)) (dx_fun cr_gcd k_gcd (by rfl) T.gcd (da_cons (xv 1) (da_cons (xv 3) da_nil)))))))
      (ds_one (ds_ret (dx_tup (da_cons (dx_fz (dn_lc (own := [("top", 4), ("part", 3)]) (g := (gTup K 2 (gCons (gName 4) (gCons (gName 3) gNil)))) (bind := (bTp [(bNm 4), (bNm 3)])) rfl sc_over_one_bottom.nd (di_seq (xv 0)) (blkOk_by (own := [("top", 4), ("part", 3)]) (N := ["row", "bottom", "_", "part", "top"]) (sc := defScope (top 17)) (by decide +kernel)) (bd_tp rfl (ba_cons (bd_nm (by decide)) (ba_cons (bd_nm (by decide)) ba_nil))) (fun _ _ _ _ _ => (pg_tup rfl (pgs_cons (gN 4 sc_over_one_bottom.nd) (pgs_cons (gN 3 sc_over_one_bottom.nd) pgs_nil)))) (fun _ _ _ _ _ => pts_no) (fun _ _ _ _ _ => (dx_op op_mulW d_mul (xv 4) (dx_op op_fdivG d_div (xv 1) (xv 3)))))) (da_cons (xv 1) da_nil))))))))) (FunD.bindsN D (fun _ _ _ _ _ _ us hl => match us, hl with | [_], _ => rfl))
theorem sc_content_of : FnScope ["wholes", "content", "whole"] ["wholes"] (defScope (top 18)) := ⟨rfl, rfl, rfl, by decide +kernel, rfl, by decide +kernel, by decide +kernel⟩
theorem cal_content_of (T : Fs tb K mg) : Cal P w ⟨K, mg, none⟩ base false 1 (He.ga K "content_of") 1 F_content_of [] := by
  obtain ⟨fd, D⟩ : ∃ fd, FunD K "content_of" "content_of" (defArgs (top 18)) (defBody (top 18)) (defScope (top 18)) [] [] (He.ga K "content_of") fd := T.says.def_ 7 rfl
  exact cal_of D (ok_def (N := ["wholes", "content", "whole"]) (ps := ["wholes"]) (k := 0) (c := ⟨K, mg, none⟩) D sc_content_of (fun cdv A outer s H E hr => (ds_cons (sS 1 sc_content_of.nd dx_i)
      (ds_cons (ds_for (vs := [2]) (gg := (gName 2)) (bind := (bNm 2)) (passes_of rfl) rfl (bd_nm (by decide)) (di_seq (xv 0)) (gN 2 sc_content_of.nd) (ds_one (sS 1 sc_content_of.nd (dx_fun cr_gcd k_gcd (by rfl) T.gcd (da_cons (xv 1) (da_cons (xv 2) da_nil))))))
      (ds_one (ds_ret (xv 1))))))) (FunD.bindsN D (fun _ _ _ _ _ _ us hl => match us, hl with | [_], _ => rfl))
theorem sc_in_low_terms : FnScope ["wholes", "content", "whole"] ["wholes"] (defScope (top 19)) := ⟨rfl, rfl, rfl, by decide +kernel, rfl, by decide +kernel, by decide +kernel⟩
theorem cal_in_low_terms (T : Fs tb K mg) : Cal P w ⟨K, mg, none⟩ base false 2 (He.ga K "in_low_terms") 1 F_in_low_terms [] := by
  obtain ⟨fd, D⟩ : ∃ fd, FunD K "in_low_terms" "in_low_terms" (defArgs (top 19)) (defBody (top 19)) (defScope (top 19)) [] [] (He.ga K "in_low_terms") fd := T.says.def_ 8 rfl
  exact cal_of D (ok_def (N := ["wholes", "content", "whole"]) (ps := ["wholes"]) (k := 1) (c := ⟨K, mg, none⟩) D sc_in_low_terms (fun cdv A outer s H E hr => (ds_cons (sS 1 sc_in_low_terms.nd (cc_call (cal_content_of T) (hr.mono (by decide)) (T.gl 7 "content_of" rfl) (fun σ => passAt (takes_of rfl rfl rfl rfl) σ) (xG 0 dg_nil)))
      (ds_one (ds_ret (dx_fz (dn_if (dt_cmp op_gt d_gt (xv 1) dx_i) (dn_lc (own := [("whole", 2)]) (g := (gName 2)) (bind := (bNm 2)) rfl sc_in_low_terms.nd (di_seq (xv 0)) (blkOk_by (own := [("whole", 2)]) (N := ["wholes", "content", "whole"]) (sc := defScope (top 19)) (by decide +kernel)) (bd_nm (by decide)) (fun _ _ _ _ _ => (gN 2 sc_in_low_terms.nd)) (fun _ _ _ _ _ => pts_no) (fun _ _ _ _ _ => (dx_op op_fdivG d_div (xv 2) (xv 1)))) (dn_of (xv 0))))))))) (FunD.bindsN D (fun _ _ _ _ _ _ us hl => match us, hl with | [_], _ => rfl))
theorem sc_in_proportion : FnScope ["wholes", "one", "other", "whole"] ["wholes", "one", "other"] (defScope (top 20)) := ⟨rfl, rfl, rfl, by decide +kernel, rfl, by decide +kernel, by decide +kernel⟩
theorem cal_in_proportion (T : Fs tb K mg) : Cal P w ⟨K, mg, none⟩ base false 2 (He.ga K "in_proportion") 3 F_in_proportion [] := by
  obtain ⟨fd, D⟩ : ∃ fd, FunD K "in_proportion" "in_proportion" (defArgs (top 20)) (defBody (top 20)) (defScope (top 20)) [] [] (He.ga K "in_proportion") fd := T.says.def_ 9 rfl
  exact cal_of D (ok_def (N := ["wholes", "one", "other", "whole"]) (ps := ["wholes", "one", "other"]) (k := 1) (c := ⟨K, mg, none⟩) D sc_in_proportion (fun cdv A outer s H E hr => (ds_one (ds_ret (dx_ty (c_tup rfl) k_tup (by rfl) (T.fr 10 "tuple" rfl) PyProof.Rows.boot_tuple (da_cons (dx_fz (dn_lc (own := [("whole", 3)]) (g := (gName 3)) (bind := (bNm 3)) rfl sc_in_proportion.nd (di_seq (xv 0)) (blkOk_by (own := [("whole", 3)]) (N := ["wholes", "one", "other", "whole"]) (sc := defScope (top 20)) (by decide +kernel)) (bd_nm (by decide)) (fun _ _ _ _ _ => (gN 3 sc_in_proportion.nd)) (fun _ _ _ _ _ => pts_no) (fun _ _ _ _ _ => (cc_call (cal_in_lowest_terms T) (hr.mono (by decide)) (T.gl 3 "in_lowest_terms" rfl) passF (dg_cons (dx_op op_mulW d_mul (xv 3) (xv 2)) (xG 1 dg_nil)))))) da_nil)))))) (FunD.bindsN D (fun _ _ _ _ _ _ us hl => match us, hl with | [_, _, _], _ => rfl))
theorem sc_whole_row : FnScope ["figures", "row"] ["figures", "row"] (defScope (top 21)) := ⟨rfl, rfl, rfl, by decide +kernel, rfl, by decide +kernel, by decide +kernel⟩
theorem cal_whole_row (T : Fs tb K mg) : Cal P w ⟨K, mg, none⟩ base false 3 (He.ga K "whole_row") 2 F_whole_row [] := by
  obtain ⟨fd, D⟩ : ∃ fd, FunD K "whole_row" "whole_row" (defArgs (top 21)) (defBody (top 21)) (defScope (top 21)) [] [] (He.ga K "whole_row") fd := T.says.def_ 10 rfl
  exact cal_of D (ok_def (N := ["figures", "row"]) (ps := ["figures", "row"]) (k := 2) (c := ⟨K, mg, none⟩) D sc_whole_row (fun cdv A outer s H E hr => (ds_cons (ds_if (dt_cmp (c_neD hr.units rfl) d_ne (xA 0) dx_i) (ds_one (ds_ret (dx_fz (dn_ty (c_list rfl) k_list (by rfl) (T.fr 6 "list" rfl) (by decide +kernel) (da_cons (xv 1) da_nil))))) ds_nil)
      (ds_one (ds_ret (cc_call (cal_in_low_terms T) (hr.mono (by decide)) (T.gl 8 "in_low_terms" rfl) (fun σ => passAt (takes_of rfl rfl rfl rfl) σ) (dg_cons (dx_ix (cc_call (cal_over_one_bottom T) (hr.mono (by decide)) (T.gl 6 "over_one_bottom" rfl) (fun σ => passAt (takes_of rfl rfl rfl rfl) σ) (xG 1 dg_nil)) dx_i) dg_nil))))))) (FunD.bindsN D (fun _ _ _ _ _ _ us hl => match us, hl with | [_, _], _ => rfl))
theorem sc_undone_rest : FnScope ["number", "prime", "rest"] ["number", "prime"] (defScope (top 45)) := ⟨rfl, rfl, rfl, by decide +kernel, rfl, by decide +kernel, by decide +kernel⟩
theorem cal_undone_rest (T : Fs tb K mg) : Cal P w ⟨K, mg, none⟩ base false 3 (He.ga K "undone_rest") 2 F_undone_rest [] := by
  obtain ⟨fd, D⟩ : ∃ fd, FunD K "undone_rest" "undone_rest" (defArgs (top 45)) (defBody (top 45)) (defScope (top 45)) [] [] (He.ga K "undone_rest") fd := T.says.def_ 11 rfl
  exact cal_of D (ok_def (N := ["number", "prime", "rest"]) (ps := ["number", "prime"]) (k := 2) (c := ⟨K, mg, none⟩) D sc_undone_rest (fun cdv A outer s H E hr => (ds_cons (ds_for (vs := [2]) (gg := (gName 2)) (bind := (bNm 2)) (passes_of rfl) rfl (bd_nm (by decide)) (di_rg2 (by rfl) (T.fr 8 "range" rfl) (da_cons dx_i (da_cons (xv 1) da_nil))) (gN 2 sc_undone_rest.nd) (ds_one (ds_if (dt_cmp (c_eqD hr.units rfl) d_eq (dx_op op_modN d_mod (dx_op op_mulW d_mul (xv 0) (xv 2)) (xv 1)) dx_i) (ds_one (ds_ret (xv 2))) ds_nil)))
      (ds_one (xr0 (er_DividedByNought T) (takes_of rfl rfl rfl rfl)))))) (FunD.bindsN D (fun _ _ _ _ _ _ us hl => match us, hl with | [_, _], _ => rfl))
theorem sc_Figures_over : FnScope ["self", "one", "other"] ["self", "one", "other"] (defScope (inClass (top 46) 5)) := ⟨rfl, rfl, rfl, by decide +kernel, rfl, by decide +kernel, by decide +kernel⟩
theorem cal_Figures_over (T : Fs tb K mg) : Cal P w ⟨K, mg, none⟩ base false 4 (He.ma K (He.ga K "Figures") "over") 3 F_Figures_over [] := by
  obtain ⟨fd, D⟩ : ∃ fd, FunD K "over" "Figures.over" (defArgs (inClass (top 46) 5)) (defBody (inClass (top 46) 5)) (defScope (inClass (top 46) 5)) [] [] (He.ma K (He.ga K "Figures") "over") fd := T.says.def_ 12 rfl
  exact cal_of D (ok_def (N := ["self", "one", "other"]) (ps := ["self", "one", "other"]) (k := 3) (c := ⟨K, mg, none⟩) D sc_Figures_over (fun cdv A outer s H E hr => (ds_cons (ds_if (dt_cmp (c_eqD hr.units rfl) d_eq (xA 0) dx_i) (ds_one (ds_ret (cc_call (cal_ratio_over T) (hr.mono (by decide)) (T.gl 5 "ratio_over" rfl) (fun σ => passAt (takes_of rfl rfl rfl rfl) σ) (xG 1 (xG 2 dg_nil))))) ds_nil)
      (ds_one (ds_ret (dx_op op_modN d_mod (dx_op op_mulW d_mul (xv 1) (cc_call (cal_undone_rest T) (hr.mono (by decide)) (T.gl 28 "undone_rest" rfl) (fun σ => passAt (takes_of rfl rfl rfl rfl) σ) (xG 2 (dg_cons (xA 0) dg_nil)))) (xA 0))))))) (FunD.bindsN D (fun _ _ _ _ _ _ us hl => match us, hl with | [_, _, _], _ => rfl))
theorem sc_Figures_times : FnScope ["self", "one", "other"] ["self", "one", "other"] (defScope (inClass (top 46) 4)) := ⟨rfl, rfl, rfl, by decide +kernel, rfl, by decide +kernel, by decide +kernel⟩
theorem cal_Figures_times (T : Fs tb K mg) : Cal P w ⟨K, mg, none⟩ base false 3 (He.ma K (He.ga K "Figures") "times") 3 F_Figures_times [] := by
  obtain ⟨fd, D⟩ : ∃ fd, FunD K "times" "Figures.times" (defArgs (inClass (top 46) 4)) (defBody (inClass (top 46) 4)) (defScope (inClass (top 46) 4)) [] [] (He.ma K (He.ga K "Figures") "times") fd := T.says.def_ 13 rfl
  exact cal_of D (ok_def (N := ["self", "one", "other"]) (ps := ["self", "one", "other"]) (k := 2) (c := ⟨K, mg, none⟩) D sc_Figures_times (fun cdv A outer s H E hr => (ds_cons (ds_if (dt_cmp (c_eqD hr.units rfl) d_eq (xA 0) dx_i) (ds_one (ds_ret (cc_call (cal_ratio_times T) (hr.mono (by decide)) (T.gl 4 "ratio_times" rfl) (fun σ => passAt (takes_of rfl rfl rfl rfl) σ) (xG 1 (xG 2 dg_nil))))) ds_nil)
      (ds_one (ds_ret (dx_op op_modN d_mod (dx_op op_mulW d_mul (xv 1) (xv 2)) (xA 0))))))) (FunD.bindsN D (fun _ _ _ _ _ _ us hl => match us, hl with | [_, _, _], _ => rfl))
theorem sc_row_of_wholes : FnScope ["figures", "wholes", "lead", "undone", "whole"] ["figures", "wholes", "lead"] (defScope (top 22)) := ⟨rfl, rfl, rfl, by decide +kernel, rfl, by decide +kernel, by decide +kernel⟩
theorem cal_row_of_wholes (T : Fs tb K mg) : Cal P w ⟨K, mg, none⟩ base false 5 (He.ga K "row_of_wholes") 3 F_row_of_wholes [] := by
  obtain ⟨fd, D⟩ : ∃ fd, FunD K "row_of_wholes" "row_of_wholes" (defArgs (top 22)) (defBody (top 22)) (defScope (top 22)) [] [] (He.ga K "row_of_wholes") fd := T.says.def_ 14 rfl
  exact cal_of D (ok_def (N := ["figures", "wholes", "lead", "undone", "whole"]) (ps := ["figures", "wholes", "lead"]) (k := 4) (c := ⟨K, mg, none⟩) D sc_row_of_wholes (fun cdv A outer s H E hr => (ds_cons (ds_if (dt_cmp (c_eqD hr.units rfl) d_eq (xA 0) dx_i) (ds_one (ds_ret (cc_call (cal_in_proportion T) (hr.mono (by decide)) (T.gl 9 "in_proportion" rfl) (fun σ => passAt (takes_of rfl rfl rfl rfl) σ) (xG 1 (xG 2 (dg_cons dx_i dg_nil)))))) ds_nil)
      (ds_cons (sS 3 sc_row_of_wholes.nd (cc_meth (T.gl 67 "Figures" rfl) (xv 0) (T.cls 0 _ rfl).1.cl (T.meth 0 _ rfl "over" (by decide)) (cal_Figures_over T) (hr.mono (by decide)) (fun σ => passAt (takes_of rfl rfl rfl rfl) σ) (dg_cons (xA 0) (xG 2 dg_nil))))
      (ds_one (ds_ret (dx_ty (c_tup rfl) k_tup (by rfl) (T.fr 10 "tuple" rfl) PyProof.Rows.boot_tuple (da_cons (dx_fz (dn_lc (own := [("whole", 4)]) (g := (gName 4)) (bind := (bNm 4)) rfl sc_row_of_wholes.nd (di_seq (xv 1)) (blkOk_by (own := [("whole", 4)]) (N := ["figures", "wholes", "lead", "undone", "whole"]) (sc := defScope (top 22)) (by decide +kernel)) (bd_nm (by decide)) (fun _ _ _ _ _ => (gN 4 sc_row_of_wholes.nd)) (fun _ _ _ _ _ => pts_no) (fun _ _ _ _ _ => (cc_meth (T.gl 67 "Figures" rfl) (xv 0) (T.cls 0 _ rfl).1.cl (T.meth 0 _ rfl "times" (by decide)) (cal_Figures_times T) (hr.mono (by decide)) passF (xG 3 (xG 4 dg_nil)))))) da_nil)))))))) (FunD.bindsN D (fun _ _ _ _ _ _ us hl => match us, hl with | [_, _, _], _ => rfl))
theorem sc_less_wholes : FnScope ["figures", "row", "other", "column", "divisor", "factor", "times", "made", "whole", "less"] ["figures", "row", "other", "column"] (defScope (top 23)) := ⟨rfl, rfl, rfl, by decide +kernel, rfl, by decide +kernel, by decide +kernel⟩
theorem cal_less_wholes (T : Fs tb K mg) : Cal P w ⟨K, mg, none⟩ base false 3 (He.ga K "less_wholes") 4 F_less_wholes [] := by
  obtain ⟨fd, D⟩ : ∃ fd, FunD K "less_wholes" "less_wholes" (defArgs (top 23)) (defBody (top 23)) (defScope (top 23)) [] [] (He.ga K "less_wholes") fd := T.says.def_ 15 rfl
  exact cal_of D (ok_def (N := ["figures", "row", "other", "column", "divisor", "factor", "times", "made", "whole", "less"]) (ps := ["figures", "row", "other", "column"]) (k := 2) (c := ⟨K, mg, none⟩) D sc_less_wholes (fun cdv A outer s H E hr => (ds_cons (sS 4 sc_less_wholes.nd (dx_fun cr_gcd k_gcd (by rfl) T.gcd (da_cons (dx_ix (xv 1) (xv 3)) (da_cons (dx_ix (xv 2) (xv 3)) da_nil))))
      (ds_cons (sS 5 sc_less_wholes.nd (dx_op op_fdivG d_div (dx_ix (xv 2) (xv 3)) (xv 4)))
      (ds_cons (sS 6 sc_less_wholes.nd (dx_op op_fdivG d_div (dx_ix (xv 1) (xv 3)) (xv 4)))
      (ds_cons (ds_setLcF (i := 7) (own := [("whole", 8), ("less", 9)]) (g := (gTup K 2 (gCons (gName 8) (gCons (gName 9) gNil)))) (bind := (bTp [(bNm 8), (bNm 9)])) rfl sc_less_wholes.nd rfl rfl (sw_true rfl rfl rfl (by decide +kernel)) (di_zip (by rfl) (T.fr 11 "zip" rfl) (da_cons (xv 1) (da_cons (xv 2) da_nil))) (blkOk_by (own := [("whole", 8), ("less", 9)]) (N := ["figures", "row", "other", "column", "divisor", "factor", "times", "made", "whole", "less"]) (sc := defScope (top 23)) (by decide +kernel)) (bd_tp rfl (ba_cons (bd_nm (by decide)) (ba_cons (bd_nm (by decide)) ba_nil))) (fun _ _ _ _ _ => (pg_tup rfl (pgs_cons (gN 8 sc_less_wholes.nd) (pgs_cons (gN 9 sc_less_wholes.nd) pgs_nil)))) (fun _ _ _ _ _ => pts_no) (fun _ _ _ _ _ => (dx_op op_sub d_sub (dx_op op_mulW d_mul (xv 5) (xv 8)) (dx_op op_mulW d_mul (xv 6) (xv 9)))))
      (ds_cons (ds_if (dt_cmp (c_neD hr.units rfl) d_ne (xA 0) dx_i) (ds_one (ds_ret (dx_fz (dn_lc (own := [("whole", 8)]) (g := (gName 8)) (bind := (bNm 8)) rfl sc_less_wholes.nd (di_seq (xv 7)) (blkOk_by (own := [("whole", 8)]) (N := ["figures", "row", "other", "column", "divisor", "factor", "times", "made", "whole", "less"]) (sc := defScope (top 23)) (by decide +kernel)) (bd_nm (by decide)) (fun _ _ _ _ _ => (gN 8 sc_less_wholes.nd)) (fun _ _ _ _ _ => pts_no) (fun _ _ _ _ _ => (dx_op op_modN d_mod (xv 8) (xA 0))))))) ds_nil)
      (ds_one (ds_ret (cc_call (cal_in_low_terms T) (hr.mono (by decide)) (T.gl 8 "in_low_terms" rfl) (fun σ => passAt (takes_of rfl rfl rfl rfl) σ) (xG 7 dg_nil))))))))))) (FunD.bindsN D (fun _ _ _ _ _ _ us hl => match us, hl with | [_, _, _, _], _ => rfl))
theorem sc_zero_row : FnScope ["figures", "many"] ["figures", "many"] (defScope (top 25)) := ⟨rfl, rfl, rfl, by decide +kernel, rfl, by decide +kernel, by decide +kernel⟩
theorem cal_zero_row (T : Fs tb K mg) : Cal P w ⟨K, mg, none⟩ base false 1 (He.ga K "zero_row") 2 F_zero_row [] := by
  obtain ⟨fd, D⟩ : ∃ fd, FunD K "zero_row" "zero_row" (defArgs (top 25)) (defBody (top 25)) (defScope (top 25)) [] [] (He.ga K "zero_row") fd := T.says.def_ 16 rfl
  exact cal_of D (ok_def (N := ["figures", "many"]) (ps := ["figures", "many"]) (k := 0) (c := ⟨K, mg, none⟩) D sc_zero_row (fun cdv A outer s H E hr => (ds_one (ds_ret (dx_fz (dn_times (dx_tup (da_cons (xA 0) da_nil)) (xv 1))))))) (FunD.bindsN D (fun _ _ _ _ _ _ us hl => match us, hl with | [_, _], _ => rfl))
theorem sc_unit_row : FnScope ["figures", "many", "place"] ["figures", "many", "place"] (defScope (top 26)) := ⟨rfl, rfl, rfl, by decide +kernel, rfl, by decide +kernel, by decide +kernel⟩
theorem cal_unit_row (T : Fs tb K mg) : Cal P w ⟨K, mg, none⟩ base false 2 (He.ga K "unit_row") 3 F_unit_row [] := by
  obtain ⟨fd, D⟩ : ∃ fd, FunD K "unit_row" "unit_row" (defArgs (top 26)) (defBody (top 26)) (defScope (top 26)) [] [] (He.ga K "unit_row") fd := T.says.def_ 17 rfl
  exact cal_of D (ok_def (N := ["figures", "many", "place"]) (ps := ["figures", "many", "place"]) (k := 1) (c := ⟨K, mg, none⟩) D sc_unit_row (fun cdv A outer s H E hr => (ds_one (ds_ret (dx_fz (dn_plus (dx_fz (dn_plus (cc_call (cal_zero_row T) (hr.mono (by decide)) (T.gl 13 "zero_row" rfl) (fun σ => passAt (takes_of rfl rfl rfl rfl) σ) (xG 0 (xG 2 dg_nil))) (dx_tup (da_cons (xA 0) da_nil)))) (cc_call (cal_zero_row T) (hr.mono (by decide)) (T.gl 13 "zero_row" rfl) (fun σ => passAt (takes_of rfl rfl rfl rfl) σ) (xG 0 (dg_cons (dx_op op_sub d_sub (dx_op op_sub d_sub (xv 1) (xv 2)) dx_i) dg_nil))))))))) (FunD.bindsN D (fun _ _ _ _ _ _ us hl => match us, hl with | [_, _, _], _ => rfl))
theorem sc_unit_table : FnScope ["figures", "size", "place"] ["figures", "size"] (defScope (top 27)) := ⟨rfl, rfl, rfl, by decide +kernel, rfl, by decide +kernel, by decide +kernel⟩
theorem cal_unit_table (T : Fs tb K mg) : Cal P w ⟨K, mg, none⟩ base false 3 (He.ga K "unit_table") 2 F_unit_table [] := by
  obtain ⟨fd, D⟩ : ∃ fd, FunD K "unit_table" "unit_table" (defArgs (top 27)) (defBody (top 27)) (defScope (top 27)) [] [] (He.ga K "unit_table") fd := T.says.def_ 18 rfl
  exact cal_of D (ok_def (N := ["figures", "size", "place"]) (ps := ["figures", "size"]) (k := 2) (c := ⟨K, mg, none⟩) D sc_unit_table (fun cdv A outer s H E hr => (ds_one (ds_ret (dx_ty (c_tup rfl) k_tup (by rfl) (T.fr 10 "tuple" rfl) PyProof.Rows.boot_tuple (da_cons (dx_fz (dn_lc (own := [("place", 2)]) (g := (gName 2)) (bind := (bNm 2)) rfl sc_unit_table.nd (di_rg1 (by rfl) (T.fr 8 "range" rfl) (da_cons (xv 1) da_nil)) (blkOk_by (own := [("place", 2)]) (N := ["figures", "size", "place"]) (sc := defScope (top 27)) (by decide +kernel)) (bd_nm (by decide)) (fun _ _ _ _ _ => (gN 2 sc_unit_table.nd)) (fun _ _ _ _ _ => pts_no) (fun _ _ _ _ _ => (cc_call (cal_unit_row T) (hr.mono (by decide)) (T.gl 14 "unit_row" rfl) passF (xG 0 (xG 1 (xG 2 dg_nil))))))) da_nil)))))) (FunD.bindsN D (fun _ _ _ _ _ _ us hl => match us, hl with | [_, _], _ => rfl))
theorem sc_first_filled : FnScope ["rows", "start", "column", "index"] ["rows", "start", "column"] (defScope (top 28)) := ⟨rfl, rfl, rfl, by decide +kernel, rfl, by decide +kernel, by decide +kernel⟩
theorem cal_first_filled (T : Fs tb K mg) : Cal P w ⟨K, mg, none⟩ base false 1 (He.ga K "first_filled") 3 F_first_filled [] := by
  obtain ⟨fd, D⟩ : ∃ fd, FunD K "first_filled" "first_filled" (defArgs (top 28)) (defBody (top 28)) (defScope (top 28)) [] [] (He.ga K "first_filled") fd := T.says.def_ 19 rfl
  exact cal_of D (ok_def (N := ["rows", "start", "column", "index"]) (ps := ["rows", "start", "column"]) (k := 0) (c := ⟨K, mg, none⟩) D sc_first_filled (fun cdv A outer s H E hr => (ds_cons (ds_for (vs := [3]) (gg := (gName 3)) (bind := (bNm 3)) (passes_of rfl) rfl (bd_nm (by decide)) (di_rg2 (by rfl) (T.fr 8 "range" rfl) (da_cons (xv 1) (da_cons (dx_bi (c_len rfl) k_len (by rfl) (T.fr 5 "len" rfl) PySem.boot_len (da_cons (xv 0) da_nil)) da_nil))) (gN 3 sc_first_filled.nd) (ds_one (ds_if (dt_cmp (c_neD hr.units rfl) d_ne (dx_ix (dx_ix (xv 0) (xv 3)) (xv 2)) dx_i) (ds_one (ds_ret (xv 3))) ds_nil)))
      (ds_one (ds_ret dx_n))))) (FunD.bindsN D (fun _ _ _ _ _ _ us hl => match us, hl with | [_, _, _], _ => rfl))
end
end N16
namespace N16
open PySem PySem.Spec PyProof.Rows L2 Fw Pd
section
variable {P : Program} {w : World} {K : PySem.W.Frag} {mg : Str → Option Value} {base : Heap}
theorem sc_cleared_rows : FnScope ["figures", "rows", "at", "column", "leader", "index", "row"] ["figures", "rows", "at", "column"] (defScope (top 29)) := ⟨rfl, rfl, rfl, by decide +kernel, rfl, by decide +kernel, by decide +kernel⟩
theorem cal_cleared_rows (T : Fs tb K mg) : Cal P w ⟨K, mg, none⟩ base true 4 (He.ga K "cleared_rows") 4 F_cleared_rows [] := by
  obtain ⟨fd, D⟩ : ∃ fd, FunD K "cleared_rows" "cleared_rows" (defArgs (top 29)) (defBody (top 29)) (defScope (top 29)) [] [] (He.ga K "cleared_rows") fd := T.says.def_ 20 rfl
  exact cal_of D (ok_def (N := ["figures", "rows", "at", "column", "leader", "index", "row"]) (ps := ["figures", "rows", "at", "column"]) (k := 3) (c := ⟨K, mg, none⟩) D sc_cleared_rows (fun cdv A outer s H E hr => (ds_cons (sS 4 sc_cleared_rows.nd (dx_ix (xv 1) (xv 2)))
      (ds_one (ds_retWW (dw_of (dn_lc (own := [("index", 5), ("row", 6)]) (g := (gTup K 2 (gCons (gName 5) (gCons (gName 6) gNil)))) (bind := (bTp [(bNm 5), (bNm 6)])) rfl sc_cleared_rows.nd (di_enum (by rfl) (T.fr 2 "enumerate" rfl) (da_cons (xv 1) da_nil)) (blkOk_by (own := [("index", 5), ("row", 6)]) (N := ["figures", "rows", "at", "column", "leader", "index", "row"]) (sc := defScope (top 29)) (by decide +kernel)) (bd_tp rfl (ba_cons (bd_nm (by decide)) (ba_cons (bd_nm (by decide)) ba_nil))) (fun _ _ _ _ _ => (pg_tup rfl (pgs_cons (gN 5 sc_cleared_rows.nd) (pgs_cons (gN 6 sc_cleared_rows.nd) pgs_nil)))) (fun _ _ _ _ _ => pts_no) (fun _ _ _ _ _ => (dx_if (PW.pt (dw_or (dt_cmp (c_eqD hr.units rfl) d_eq (xv 5) (xv 2)) (dw_or1 (dt_cmp (c_eqD hr.units rfl) d_eq (dx_ix (xv 6) (xv 3)) dx_i)))) (xv 6) (cc_call (cal_less_wholes T) (hr.mono (by decide)) (T.gl 12 "less_wholes" rfl) passF (xG 0 (xG 6 (xG 4 (xG 3 dg_nil))))))))))))) (fun _ => by repeat (first | exact nx_ret | exact nx_retV | apply nx_seq | apply nx_frz | apply nx_if))) (FunD.bindsN D (fun _ _ _ _ _ _ us hl => match us, hl with | [_, _, _, _], _ => rfl))
theorem sc_reduced_table : FnScope ["figures", "table", "rows", "row", "leading", "wide", "column", "at", "found", "made", "lead"] ["figures", "table"] (defScope (top 30)) := ⟨rfl, rfl, rfl, by decide +kernel, rfl, by decide +kernel, by decide +kernel⟩
theorem cal_reduced_table (T : Fs tb K mg) : Cal P w ⟨K, mg, none⟩ base false 6 (He.ga K "reduced_table") 2 F_reduced_table [] := by
  obtain ⟨fd, D⟩ : ∃ fd, FunD K "reduced_table" "reduced_table" (defArgs (top 30)) (defBody (top 30)) (defScope (top 30)) [] [] (He.ga K "reduced_table") fd := T.says.def_ 21 rfl
  exact cal_of D (ok_def (N := ["figures", "table", "rows", "row", "leading", "wide", "column", "at", "found", "made", "lead"]) (ps := ["figures", "table"]) (k := 5) (c := ⟨K, mg, none⟩) D sc_reduced_table (fun cdv A outer s H E hr => (ds_cons (ds_setLc (i := 2) (own := [("row", 3)]) (g := (gName 3)) (bind := (bNm 3)) rfl sc_reduced_table.nd rfl rfl (sw_true rfl rfl rfl (by decide +kernel)) (di_seq (xv 1)) (blkOk_by (own := [("row", 3)]) (N := ["figures", "table", "rows", "row", "leading", "wide", "column", "at", "found", "made", "lead"]) (sc := defScope (top 30)) (by decide +kernel)) (bd_nm (by decide)) (fun _ _ _ _ _ => (gN 3 sc_reduced_table.nd)) (fun _ _ _ _ _ => pts_no) (fun _ _ _ _ _ => (cc_call (cal_whole_row T) (hr.mono (by decide)) (T.gl 10 "whole_row" rfl) passF (xG 0 (xG 3 dg_nil)))))
      (ds_cons (sSN 4 sc_reduced_table.nd (dn_lst da_nil))
      (ds_cons (sS 5 sc_reduced_table.nd (dx_if (dt_cmp (c_eqD hr.units rfl) d_eq (dx_lenP (by rfl) (T.fr 5 "len" rfl) (xP 2)) dx_i) dx_i (dx_bi (c_len rfl) k_len (by rfl) (T.fr 5 "len" rfl) PySem.boot_len (da_cons (dx_pl (dp_ix (xP 2) dx_i)) da_nil))))
      (ds_cons (ds_for (vs := [6]) (gg := (gName 6)) (bind := (bNm 6)) (passes_of rfl) rfl (bd_nm (by decide)) (di_rg1 (by rfl) (T.fr 8 "range" rfl) (da_cons (xv 5) da_nil)) (gN 6 sc_reduced_table.nd) (ds_cons (sS 7 sc_reduced_table.nd (dx_lenP (by rfl) (T.fr 5 "len" rfl) (xP 4)))
      (ds_cons (sS 8 sc_reduced_table.nd (dx_lend [2] (cc_call (cal_first_filled T) (hr.mono (by decide)) (T.gl 16 "first_filled" rfl) (fun σ => passAt (takes_of rfl rfl rfl rfl) σ) (xG 2 (xG 7 (xG 6 dg_nil))))))
      (ds_one (ds_if (dt_cmp op_notN d_notN (xv 8) dx_n) (ds_cons (ds_swap rfl (da_cons (dx_pl (dp_ix (xP 2) (xv 8))) (da_cons (dx_pl (dp_ix (xP 2) (xv 7))) da_nil)) (xP 2) (xv 7) (xP 2) (xv 8))
      (ds_cons (ds_frz 2 (sSW 2 sc_reduced_table.nd (cw_call (cal_cleared_rows T) (hr.mono (by decide)) (T.gl 17 "cleared_rows" rfl) (fun σ => passAt (takes_of rfl rfl rfl rfl) σ) (xG 0 (xG 2 (xG 7 (xG 6 dg_nil)))))))
      (ds_one (ds_app (xP 4) (dn_of (xv 6)))))) ds_nil)))))
      (ds_cons (ds_frz 4 (ds_frz 2 (ds_setLcF (i := 9) (own := [("row", 3), ("lead", 10)]) (g := (gTup K 2 (gCons (gName 3) (gCons (gName 10) gNil)))) (bind := (bTp [(bNm 3), (bNm 10)])) rfl sc_reduced_table.nd rfl rfl (sw_true rfl rfl rfl (by decide +kernel)) (di_zip (by rfl) (T.fr 11 "zip" rfl) (da_cons (xv 2) (da_cons (xv 4) da_nil))) (blkOk_by (own := [("row", 3), ("lead", 10)]) (N := ["figures", "table", "rows", "row", "leading", "wide", "column", "at", "found", "made", "lead"]) (sc := defScope (top 30)) (by decide +kernel)) (bd_tp rfl (ba_cons (bd_nm (by decide)) (ba_cons (bd_nm (by decide)) ba_nil))) (fun _ _ _ _ _ => (pg_tup rfl (pgs_cons (gN 3 sc_reduced_table.nd) (pgs_cons (gN 10 sc_reduced_table.nd) pgs_nil)))) (fun _ _ _ _ _ => pts_no) (fun _ _ _ _ _ => (cc_call (cal_row_of_wholes T) (hr.mono (by decide)) (T.gl 11 "row_of_wholes" rfl) passF (xG 0 (xG 3 (dg_cons (dx_ix (xv 3) (xv 10)) dg_nil))))))))
      (ds_one (ds_ret (dx_tup (da_cons (dx_ty (c_tup rfl) k_tup (by rfl) (T.fr 10 "tuple" rfl) PyProof.Rows.boot_tuple (da_cons (dx_fz (dn_plus (xv 9) (dx_fz (dn_times (dx_fz (dn_lst (da_cons (cc_call (cal_zero_row T) (hr.mono (by decide)) (T.gl 13 "zero_row" rfl) (fun σ => passAt (takes_of rfl rfl rfl rfl) σ) (xG 0 (xG 5 dg_nil))) da_nil))) (dx_op op_sub d_sub (dx_bi (c_len rfl) k_len (by rfl) (T.fr 5 "len" rfl) PySem.boot_len (da_cons (xv 2) da_nil)) (dx_bi (c_len rfl) k_len (by rfl) (T.fr 5 "len" rfl) PySem.boot_len (da_cons (xv 9) da_nil))))))) da_nil)) (da_cons (dx_ty (c_tup rfl) k_tup (by rfl) (T.fr 10 "tuple" rfl) PyProof.Rows.boot_tuple (da_cons (xv 4) da_nil)) da_nil)))))))))))) (FunD.bindsN D (fun _ _ _ _ _ _ us hl => match us, hl with | [_, _], _ => rfl))
theorem sc_beside_unit : FnScope ["figures", "table", "unit", "row", "more"] ["figures", "table"] (defScope (top 31)) := ⟨rfl, rfl, rfl, by decide +kernel, rfl, by decide +kernel, by decide +kernel⟩
theorem cal_beside_unit (T : Fs tb K mg) : Cal P w ⟨K, mg, none⟩ base false 4 (He.ga K "beside_unit") 2 F_beside_unit [] := by
  obtain ⟨fd, D⟩ : ∃ fd, FunD K "beside_unit" "beside_unit" (defArgs (top 31)) (defBody (top 31)) (defScope (top 31)) [] [] (He.ga K "beside_unit") fd := T.says.def_ 22 rfl
  exact cal_of D (ok_def (N := ["figures", "table", "unit", "row", "more"]) (ps := ["figures", "table"]) (k := 3) (c := ⟨K, mg, none⟩) D sc_beside_unit (fun cdv A outer s H E hr => (ds_cons (sS 2 sc_beside_unit.nd (cc_call (cal_unit_table T) (hr.mono (by decide)) (T.gl 15 "unit_table" rfl) (fun σ => passAt (takes_of rfl rfl rfl rfl) σ) (xG 0 (dg_cons (dx_bi (c_len rfl) k_len (by rfl) (T.fr 5 "len" rfl) PySem.boot_len (da_cons (xv 1) da_nil)) dg_nil))))
      (ds_one (ds_ret (dx_ty (c_tup rfl) k_tup (by rfl) (T.fr 10 "tuple" rfl) PyProof.Rows.boot_tuple (da_cons (dx_fz (dn_lc (own := [("row", 3), ("more", 4)]) (g := (gTup K 2 (gCons (gName 3) (gCons (gName 4) gNil)))) (bind := (bTp [(bNm 3), (bNm 4)])) rfl sc_beside_unit.nd (di_zip (by rfl) (T.fr 11 "zip" rfl) (da_cons (xv 1) (da_cons (xv 2) da_nil))) (blkOk_by (own := [("row", 3), ("more", 4)]) (N := ["figures", "table", "unit", "row", "more"]) (sc := defScope (top 31)) (by decide +kernel)) (bd_tp rfl (ba_cons (bd_nm (by decide)) (ba_cons (bd_nm (by decide)) ba_nil))) (fun _ _ _ _ _ => (pg_tup rfl (pgs_cons (gN 3 sc_beside_unit.nd) (pgs_cons (gN 4 sc_beside_unit.nd) pgs_nil)))) (fun _ _ _ _ _ => pts_no) (fun _ _ _ _ _ => (dx_fz (dn_plus (dx_ty (c_tup rfl) k_tup (by rfl) (T.fr 10 "tuple" rfl) PyProof.Rows.boot_tuple (da_cons (xv 3) da_nil)) (xv 4)))))) da_nil))))))) (FunD.bindsN D (fun _ _ _ _ _ _ us hl => match us, hl with | [_, _], _ => rfl))
theorem sc_undone_table : FnScope ["figures", "table", "size", "reduced", "leading", "row"] ["figures", "table"] (defScope (top 32)) := ⟨rfl, rfl, rfl, by decide +kernel, rfl, by decide +kernel, by decide +kernel⟩
theorem cal_undone_table (T : Fs tb K mg) : Cal P w ⟨K, mg, none⟩ base false 7 (He.ga K "undone_table") 2 F_undone_table [] := by
  obtain ⟨fd, D⟩ : ∃ fd, FunD K "undone_table" "undone_table" (defArgs (top 32)) (defBody (top 32)) (defScope (top 32)) [] [] (He.ga K "undone_table") fd := T.says.def_ 23 rfl
  exact cal_of D (ok_def (N := ["figures", "table", "size", "reduced", "leading", "row"]) (ps := ["figures", "table"]) (k := 6) (c := ⟨K, mg, none⟩) D sc_undone_table (fun cdv A outer s H E hr => (ds_cons (sS 2 sc_undone_table.nd (dx_bi (c_len rfl) k_len (by rfl) (T.fr 5 "len" rfl) PySem.boot_len (da_cons (xv 1) da_nil)))
      (ds_cons (ds_if (PW.pt (dw_and (dt_cmp op_gt d_gt (xv 2) dx_i) (dw_and1 (dt_cmp (c_neD hr.units rfl) d_ne (dx_bi (c_len rfl) k_len (by rfl) (T.fr 5 "len" rfl) PySem.boot_len (da_cons (dx_ix (xv 1) dx_i) da_nil)) (xv 2))))) (ds_one (xr0 (er_NotOnce T) (takes_of rfl rfl rfl rfl))) ds_nil)
      (ds_cons (ds_asg (vs := [3, 4]) (gg := (gTup K 2 (gCons (gName 3) (gCons (gName 4) gNil)))) (bind := (bTp [(bNm 3), (bNm 4)])) (bd_tp rfl (ba_cons (bd_nm (by decide)) (ba_cons (bd_nm (by decide)) ba_nil))) (cc_call (cal_reduced_table T) (hr.mono (by decide)) (T.gl 18 "reduced_table" rfl) (fun σ => passAt (takes_of rfl rfl rfl rfl) σ) (xG 0 (dg_cons (cc_call (cal_beside_unit T) (hr.mono (by decide)) (T.gl 19 "beside_unit" rfl) (fun σ => passAt (takes_of rfl rfl rfl rfl) σ) (xG 0 (xG 1 dg_nil))) dg_nil))) (pg_tup rfl (pgs_cons (gN 3 sc_undone_table.nd) (pgs_cons (gN 4 sc_undone_table.nd) pgs_nil))))
      (ds_cons (ds_if (dt_cmp (c_neD hr.units rfl) d_ne (xv 4) (dx_rgT1 rfl (by rfl) (T.fr 10 "tuple" rfl) (by rfl) (T.fr 8 "range" rfl) (xv 2))) (ds_one (xr0 (er_NotOnce T) (takes_of rfl rfl rfl rfl))) ds_nil)
      (ds_one (ds_ret (dx_ty (c_tup rfl) k_tup (by rfl) (T.fr 10 "tuple" rfl) PyProof.Rows.boot_tuple (da_cons (dx_fz (dn_lc (own := [("row", 5)]) (g := (gName 5)) (bind := (bNm 5)) rfl sc_undone_table.nd (di_seq (xv 3)) (blkOk_by (own := [("row", 5)]) (N := ["figures", "table", "size", "reduced", "leading", "row"]) (sc := defScope (top 32)) (by decide +kernel)) (bd_nm (by decide)) (fun _ _ _ _ _ => (gN 5 sc_undone_table.nd)) (fun _ _ _ _ _ => pts_no) (fun _ _ _ _ _ => (dx_fz (dn_sl (xv 5) (do_e (xv 2)) do_no))))) da_nil)))))))))) (FunD.bindsN D (fun _ _ _ _ _ _ us hl => match us, hl with | [_, _], _ => rfl))
theorem sc_Figures_is_number : FnScope ["self", "thing"] ["self", "thing"] (defScope (inClass (top 46) 10)) := ⟨rfl, rfl, rfl, by decide +kernel, rfl, by decide +kernel, by decide +kernel⟩
theorem cal_Figures_is_number (T : Fs tb K mg) : Cal P w ⟨K, mg, none⟩ base false 3 (He.ma K (He.ga K "Figures") "is_number") 2 F_Figures_is_number [] := by
  obtain ⟨fd, D⟩ : ∃ fd, FunD K "is_number" "Figures.is_number" (defArgs (inClass (top 46) 10)) (defBody (inClass (top 46) 10)) (defScope (inClass (top 46) 10)) [] [] (He.ma K (He.ga K "Figures") "is_number") fd := T.says.def_ 24 rfl
  exact cal_of D (ok_def (N := ["self", "thing"]) (ps := ["self", "thing"]) (k := 2) (c := ⟨K, mg, none⟩) D sc_Figures_is_number (fun cdv A outer s H E hr => (ds_cons (ds_if (dt_cmp (c_eqD hr.units rfl) d_eq (xA 0) dx_i) (ds_one (ds_ret (cc_call (cal_is_ratio T) (hr.mono (by decide)) (T.gl 2 "is_ratio" rfl) (fun σ => passAt (takes_of rfl rfl rfl rfl) σ) (xG 1 dg_nil)))) ds_nil)
      (ds_one (ds_ret (cc_call (cal_is_whole_0 T) (hr.mono (by decide)) (T.gl 0 "is_whole" rfl) (fun σ => passAt (takes_of rfl rfl rfl rfl) σ) (xG 1 (dg_cons dx_i (dg_cons (dx_op op_sub d_sub (xA 0) dx_i) dg_nil))))))))) (FunD.bindsN D (fun _ _ _ _ _ _ us hl => match us, hl with | [_, _], _ => rfl))
theorem sc_is_point : FnScope ["figures", "thing"] ["figures", "thing"] (defScope (top 36)) := ⟨rfl, rfl, rfl, by decide +kernel, rfl, by decide +kernel, by decide +kernel⟩
theorem cal_is_point (T : Fs tb K mg) : Cal P w ⟨K, mg, none⟩ base false 4 (He.ga K "is_point") 2 F_is_point [] := by
  obtain ⟨fd, D⟩ : ∃ fd, FunD K "is_point" "is_point" (defArgs (top 36)) (defBody (top 36)) (defScope (top 36)) [] [] (He.ga K "is_point") fd := T.says.def_ 25 rfl
  exact cal_of D (ok_def (N := ["figures", "thing"]) (ps := ["figures", "thing"]) (k := 3) (c := ⟨K, mg, none⟩) D sc_is_point (fun cdv A outer s H E hr => (ds_one (ds_ret (dx_or (cc_meth (T.gl 67 "Figures" rfl) (xv 0) (T.cls 0 _ rfl).1.cl (T.meth 0 _ rfl "is_number" (by decide)) (cal_Figures_is_number T) (hr.mono (by decide)) (fun σ => passAt (takes_of rfl rfl rfl rfl) σ) (xG 1 dg_nil)) (dx_one (dx_cmp (c_eqD hr.units rfl) d_eq (xv 1) (xgS (T.str 0 _ rfl))))))))) (FunD.bindsN D (fun _ _ _ _ _ _ us hl => match us, hl with | [_, _], _ => rfl))
theorem sc_Figures_whole_number : FnScope ["self", "many"] ["self", "many"] (defScope (inClass (top 46) 8)) := ⟨rfl, rfl, rfl, by decide +kernel, rfl, by decide +kernel, by decide +kernel⟩
theorem cal_Figures_whole_number (T : Fs tb K mg) : Cal P w ⟨K, mg, none⟩ base false 1 (He.ma K (He.ga K "Figures") "whole_number") 2 F_Figures_whole_number [] := by
  obtain ⟨fd, D⟩ : ∃ fd, FunD K "whole_number" "Figures.whole_number" (defArgs (inClass (top 46) 8)) (defBody (inClass (top 46) 8)) (defScope (inClass (top 46) 8)) [] [] (He.ma K (He.ga K "Figures") "whole_number") fd := T.says.def_ 26 rfl
  exact cal_of D (ok_def (N := ["self", "many"]) (ps := ["self", "many"]) (k := 0) (c := ⟨K, mg, none⟩) D sc_Figures_whole_number (fun cdv A outer s H E hr => (ds_cons (ds_if (dt_cmp (c_eqD hr.units rfl) d_eq (xA 0) dx_i) (ds_one (ds_ret (dx_tup (da_cons (xv 1) (da_cons dx_i da_nil))))) ds_nil)
      (ds_one (ds_ret (dx_op op_modN d_mod (xv 1) (xA 0))))))) (FunD.bindsN D (fun _ _ _ _ _ _ us hl => match us, hl with | [_, _], _ => rfl))
theorem sc_Figures_all_numbers : FnScope ["self"] ["self"] (defScope (inClass (top 46) 11)) := ⟨rfl, rfl, rfl, by decide +kernel, rfl, by decide +kernel, by decide +kernel⟩
theorem cal_Figures_all_numbers (T : Fs tb K mg) : Cal P w ⟨K, mg, none⟩ base false 1 (He.ma K (He.ga K "Figures") "all_numbers") 1 F_Figures_all_numbers [] := by
  obtain ⟨fd, D⟩ : ∃ fd, FunD K "all_numbers" "Figures.all_numbers" (defArgs (inClass (top 46) 11)) (defBody (inClass (top 46) 11)) (defScope (inClass (top 46) 11)) [] [] (He.ma K (He.ga K "Figures") "all_numbers") fd := T.says.def_ 27 rfl
  exact cal_of D (ok_def (N := ["self"]) (ps := ["self"]) (k := 0) (c := ⟨K, mg, none⟩) D sc_Figures_all_numbers (fun cdv A outer s H E hr => (ds_one (ds_ret (dx_rgT1 rfl (by rfl) (T.fr 10 "tuple" rfl) (by rfl) (T.fr 8 "range" rfl) (xA 0)))))) (FunD.bindsN D (fun _ _ _ _ _ _ us hl => match us, hl with | [_], _ => rfl))
theorem sc_points_for : FnScope ["figures", "many", "most", "place"] ["figures", "many"] (defScope (top 37)) := ⟨rfl, rfl, rfl, by decide +kernel, rfl, by decide +kernel, by decide +kernel⟩
theorem cal_points_for (T : Fs tb K mg) : Cal P w ⟨K, mg, none⟩ base false 3 (He.ga K "points_for") 2 F_points_for [] := by
  obtain ⟨fd, D⟩ : ∃ fd, FunD K "points_for" "points_for" (defArgs (top 37)) (defBody (top 37)) (defScope (top 37)) [] [] (He.ga K "points_for") fd := T.says.def_ 28 rfl
  exact cal_of D (ok_def (N := ["figures", "many", "most", "place"]) (ps := ["figures", "many"]) (k := 2) (c := ⟨K, mg, none⟩) D sc_points_for (fun cdv A outer s H E hr => (ds_cons (sS 2 sc_points_for.nd (dx_if (dt_cmp (c_eqD hr.units rfl) d_eq (xA 0) dx_i) (xgI (T.int 0 _ rfl)) (dx_bi (call_min2 rfl) k_min2 (by rfl) (T.fr 7 "min" rfl) (by decide +kernel) (da_cons (xgI (T.int 0 _ rfl)) (da_cons (dx_op op_add d_add (xA 0) dx_i) da_nil)))))
      (ds_cons (ds_if (dt_not (dt_tru rfl (cc_call (cal_is_whole_0 T) (hr.mono (by decide)) (T.gl 0 "is_whole" rfl) (fun σ => passAt (takes_of rfl rfl rfl rfl) σ) (xG 1 (dg_cons dx_i (xG 2 dg_nil)))))) (ds_one (xr1 (er_BadMany T) (takes_of rfl rfl rfl rfl) (hr.mono (by decide)) (da_cons (xv 2) da_nil))) ds_nil)
      (ds_cons (ds_if (dt_cmp (c_neD hr.units rfl) d_ne (xA 0) dx_i) (ds_one (ds_ret (dx_fz (dn_sl (dx_fz (dn_plus (cc_meth0 (T.gl 67 "Figures" rfl) (xv 0) (T.cls 0 _ rfl).1.cl (T.meth 0 _ rfl "all_numbers" (by decide)) (cal_Figures_all_numbers T) (hr.mono (by decide)) (fun σ => passAt (takes_of rfl rfl rfl rfl) σ)) (dx_tup (da_cons (xgS (T.str 0 _ rfl)) da_nil)))) do_no (do_e (xv 1)))))) ds_nil)
      (ds_one (ds_ret (dx_ty (c_tup rfl) k_tup (by rfl) (T.fr 10 "tuple" rfl) PyProof.Rows.boot_tuple (da_cons (dx_fz (dn_lc (own := [("place", 3)]) (g := (gName 3)) (bind := (bNm 3)) rfl sc_points_for.nd (di_rg1 (by rfl) (T.fr 8 "range" rfl) (da_cons (xv 1) da_nil)) (blkOk_by (own := [("place", 3)]) (N := ["figures", "many", "most", "place"]) (sc := defScope (top 37)) (by decide +kernel)) (bd_nm (by decide)) (fun _ _ _ _ _ => (gN 3 sc_points_for.nd)) (fun _ _ _ _ _ => pts_no) (fun _ _ _ _ _ => (cc_meth (T.gl 67 "Figures" rfl) (xv 0) (T.cls 0 _ rfl).1.cl (T.meth 0 _ rfl "whole_number" (by decide)) (cal_Figures_whole_number T) (hr.mono (by decide)) passF (xG 3 dg_nil))))) da_nil))))))))) (FunD.bindsN D (fun _ _ _ _ _ _ us hl => match us, hl with | [_, _], _ => rfl))
theorem sc_check_points : FnScope ["figures", "points", "many", "last", "index", "point"] ["figures", "points", "many", "last"] (defScope (top 38)) := ⟨rfl, rfl, rfl, by decide +kernel, rfl, by decide +kernel, by decide +kernel⟩
theorem fok_check_points {fd : FuncData} (T : Fs tb K mg) (D : FunD K "check_points" "check_points" (defArgs (top 38)) (defBody (top 38)) (defScope (top 38)) [(.bl true)] [] (He.ga K "check_points") fd) : FnOk P w K mg base (L2.CX P w) 5 (He.ga K "check_points") fd ["figures", "points", "many", "last"] (spD ⟨K, mg, none⟩ false 4 F_check_points) :=
  (ok_def (N := ["figures", "points", "many", "last", "index", "point"]) (ps := ["figures", "points", "many", "last"]) (k := 4) (c := ⟨K, mg, none⟩) D sc_check_points (fun cdv A outer s H E hr => (ds_cons (ds_if (PW.pt (dw_or (dt_not (dt_tru rfl (cc_call (cal_is_sequence T) (hr.mono (by decide)) (T.gl 1 "is_sequence" rfl) (fun σ => passAt (takes_of rfl rfl rfl rfl) σ) (xG 1 dg_nil)))) (dw_or1 (dt_cmp (c_neD hr.units rfl) d_ne (dx_bi (c_len rfl) k_len (by rfl) (T.fr 5 "len" rfl) PySem.boot_len (da_cons (xv 1) da_nil)) (xv 2))))) (ds_one (xr1 (er_BadPoints T) (takes_of rfl rfl rfl rfl) (hr.mono (by decide)) (da_cons dx_i da_nil))) ds_nil)
      (ds_cons (ds_for (vs := [4, 5]) (gg := (gTup K 2 (gCons (gName 4) (gCons (gName 5) gNil)))) (bind := (bTp [(bNm 4), (bNm 5)])) (passes_of rfl) rfl (bd_tp rfl (ba_cons (bd_nm (by decide)) (ba_cons (bd_nm (by decide)) ba_nil))) (di_enum (by rfl) (T.fr 2 "enumerate" rfl) (da_cons (xv 1) da_nil)) (pg_tup rfl (pgs_cons (gN 4 sc_check_points.nd) (pgs_cons (gN 5 sc_check_points.nd) pgs_nil))) (ds_cons (ds_if (PW.pt (dw_or (dt_not (dt_tru rfl (cc_call (cal_is_point T) (hr.mono (by decide)) (T.gl 21 "is_point" rfl) (fun σ => passAt (takes_of rfl rfl rfl rfl) σ) (xG 0 (xG 5 dg_nil))))) (dw_or1 (dt_cmp (c_inP hr.units65 rfl) d_inP (xv 5) (dx_fz (dn_sl (xv 1) do_no (do_e (xv 4)))))))) (ds_one (xr1 (er_BadPoints T) (takes_of rfl rfl rfl rfl) (hr.mono (by decide)) (da_cons (xv 4) da_nil))) ds_nil)
      (ds_one (ds_if (PW.pt (dw_and (dt_cmp (c_eqD hr.units rfl) d_eq (xv 5) (xgS (T.str 0 _ rfl))) (dw_and1 (dt_not (dt_tru rfl (xv 3)))))) (ds_one (xr1 (er_BadPoints T) (takes_of rfl rfl rfl rfl) (hr.mono (by decide)) (da_cons (xv 4) da_nil))) ds_nil))))
      (ds_one (ds_ret (dx_ty (c_tup rfl) k_tup (by rfl) (T.fr 10 "tuple" rfl) PyProof.Rows.boot_tuple (da_cons (xv 1) da_nil))))))))
theorem cal_check_points_0 (T : Fs tb K mg) : Cal P w ⟨K, mg, none⟩ base false 5 (He.ga K "check_points") 4 F_check_points [] := by
  obtain ⟨fd, D⟩ : ∃ fd, FunD K "check_points" "check_points" (defArgs (top 38)) (defBody (top 38)) (defScope (top 38)) [(.bl true)] [] (He.ga K "check_points") fd := T.says.def_ 29 rfl
  exact cal_of1 D (fok_check_points T D) (FunD.binds1 D 4 1 (by simp) rfl fun T kV doc pm an cdv ct us its h1 h2 => by
    match us, its, h1, h2 with
    | [_, _, _, _], [_], _, _ => exact ⟨_, rfl, by first | rfl | kernel_rfl⟩) fun _ _ => .nil
theorem cal_check_points_1 (T : Fs tb K mg) : Cal P w ⟨K, mg, none⟩ base false 5 (He.ga K "check_points") 4 F_check_points [(.bl true)] := by
  obtain ⟨fd, D⟩ : ∃ fd, FunD K "check_points" "check_points" (defArgs (top 38)) (defBody (top 38)) (defScope (top 38)) [(.bl true)] [] (He.ga K "check_points") fd := T.says.def_ 29 rfl
  exact cal_of1 D (fok_check_points T D) (FunD.binds1 D 3 0 (by simp) rfl fun T kV doc pm an cdv ct us its h1 h2 => by
    match us, its, h1, h2 with
    | [_, _, _], [_], _, _ => exact ⟨_, rfl, by first | rfl | kernel_rfl⟩) fun _ _ => (.cons (.bl true) .nil)
theorem sc_powers_at : FnScope ["figures", "point", "size", "row"] ["figures", "point", "size"] (defScope (top 39)) := ⟨rfl, rfl, rfl, by decide +kernel, rfl, by decide +kernel, by decide +kernel⟩
theorem cal_powers_at (T : Fs tb K mg) : Cal P w ⟨K, mg, none⟩ base false 4 (He.ga K "powers_at") 3 F_powers_at [] := by
  obtain ⟨fd, D⟩ : ∃ fd, FunD K "powers_at" "powers_at" (defArgs (top 39)) (defBody (top 39)) (defScope (top 39)) [] [] (He.ga K "powers_at") fd := T.says.def_ 30 rfl
  exact cal_of D (ok_def (N := ["figures", "point", "size", "row"]) (ps := ["figures", "point", "size"]) (k := 3) (c := ⟨K, mg, none⟩) D sc_powers_at (fun cdv A outer s H E hr => (ds_cons (ds_if (dt_cmp (c_eqD hr.units rfl) d_eq (xv 1) (xgS (T.str 0 _ rfl))) (ds_one (ds_ret (cc_call (cal_unit_row T) (hr.mono (by decide)) (T.gl 14 "unit_row" rfl) (fun σ => passAt (takes_of rfl rfl rfl rfl) σ) (xG 0 (xG 2 (dg_cons (dx_op op_sub d_sub (xv 2) dx_i) dg_nil)))))) ds_nil)
      (ds_cons (sSN 3 sc_powers_at.nd (dn_lst (da_cons (xA 0) da_nil)))
      (ds_cons (ds_wh (n := 100) (passes_of rfl) (dt_cmp op_lt d_lt (dx_lenP (by rfl) (T.fr 5 "len" rfl) (xP 3)) (xv 2)) (ds_one (ds_app (xP 3) (dn_of (cc_meth (T.gl 67 "Figures" rfl) (xv 0) (T.cls 0 _ rfl).1.cl (T.meth 0 _ rfl "times" (by decide)) (cal_Figures_times T) (hr.mono (by decide)) (fun σ => passAt (takes_of rfl rfl rfl rfl) σ) (dg_cons (dx_pl (dp_ix (xP 3) (dx_neg dx_i))) (xG 1 dg_nil)))))))
      (ds_one (ds_frz 3 (ds_ret (dx_ty (c_tup rfl) k_tup (by rfl) (T.fr 10 "tuple" rfl) PyProof.Rows.boot_tuple (da_cons (xv 3) da_nil)))))))))) (FunD.bindsN D (fun _ _ _ _ _ _ us hl => match us, hl with | [_, _, _], _ => rfl))
theorem sc_power_row : FnScope ["figures", "point", "size"] ["figures", "point", "size"] (defScope (top 40)) := ⟨rfl, rfl, rfl, by decide +kernel, rfl, by decide +kernel, by decide +kernel⟩
theorem cal_power_row (T : Fs tb K mg) : Cal P w ⟨K, mg, none⟩ base false 5 (He.ga K "power_row") 3 F_power_row [] := by
  obtain ⟨fd, D⟩ : ∃ fd, FunD K "power_row" "power_row" (defArgs (top 40)) (defBody (top 40)) (defScope (top 40)) [] [] (He.ga K "power_row") fd := T.says.def_ 31 rfl
  exact cal_of D (ok_def (N := ["figures", "point", "size"]) (ps := ["figures", "point", "size"]) (k := 4) (c := ⟨K, mg, none⟩) D sc_power_row (fun cdv A outer s H E hr => (ds_cons (ds_if (dt_not (dt_tru rfl (cc_call (cal_is_point T) (hr.mono (by decide)) (T.gl 21 "is_point" rfl) (fun σ => passAt (takes_of rfl rfl rfl rfl) σ) (xG 0 (xG 1 dg_nil))))) (ds_one (xr1 (er_BadPoints T) (takes_of rfl rfl rfl rfl) (hr.mono (by decide)) (da_cons dx_i da_nil))) ds_nil)
      (ds_cons (ds_if (dt_not (dt_tru rfl (cc_call (cal_is_whole_0 T) (hr.mono (by decide)) (T.gl 0 "is_whole" rfl) (fun σ => passAt (takes_of rfl rfl rfl rfl) σ) (xG 2 (dg_cons dx_i (dg_cons (xgI (T.int 0 _ rfl)) dg_nil)))))) (ds_one (xr1 (er_BadMany T) (takes_of rfl rfl rfl rfl) (hr.mono (by decide)) (da_cons (xgI (T.int 0 _ rfl)) da_nil))) ds_nil)
      (ds_one (ds_ret (cc_call (cal_powers_at T) (hr.mono (by decide)) (T.gl 24 "powers_at" rfl) (fun σ => passAt (takes_of rfl rfl rfl rfl) σ) (xG 0 (xG 1 (xG 2 dg_nil)))))))))) (FunD.bindsN D (fun _ _ _ _ _ _ us hl => match us, hl with | [_, _, _], _ => rfl))
theorem sc_power_table : FnScope ["figures", "points", "point"] ["figures", "points"] (defScope (top 41)) := ⟨rfl, rfl, rfl, by decide +kernel, rfl, by decide +kernel, by decide +kernel⟩
theorem cal_power_table (T : Fs tb K mg) : Cal P w ⟨K, mg, none⟩ base false 6 (He.ga K "power_table") 2 F_power_table [] := by
  obtain ⟨fd, D⟩ : ∃ fd, FunD K "power_table" "power_table" (defArgs (top 41)) (defBody (top 41)) (defScope (top 41)) [] [] (He.ga K "power_table") fd := T.says.def_ 32 rfl
  exact cal_of D (ok_def (N := ["figures", "points", "point"]) (ps := ["figures", "points"]) (k := 5) (c := ⟨K, mg, none⟩) D sc_power_table (fun cdv A outer s H E hr => (ds_cons (ds_if (PW.pt (dw_or (dt_not (dt_tru rfl (cc_call (cal_is_sequence T) (hr.mono (by decide)) (T.gl 1 "is_sequence" rfl) (fun σ => passAt (takes_of rfl rfl rfl rfl) σ) (xG 1 dg_nil)))) (dw_or1 (dt_not (dt_ch op_le op_le d_le d_le dx_i (dx_bi (c_len rfl) k_len (by rfl) (T.fr 5 "len" rfl) PySem.boot_len (da_cons (xv 1) da_nil)) (xgI (T.int 0 _ rfl))))))) (ds_one (xr1 (er_BadPoints T) (takes_of rfl rfl rfl rfl) (hr.mono (by decide)) (da_cons dx_i da_nil))) ds_nil)
      (ds_cons (sS 1 sc_power_table.nd (cc_call (cal_check_points_1 T) (hr.mono (by decide)) (T.gl 23 "check_points" rfl) (fun σ => passAt (takes_of rfl rfl rfl rfl) σ) (xG 0 (xG 1 (dg_cons (dx_bi (c_len rfl) k_len (by rfl) (T.fr 5 "len" rfl) PySem.boot_len (da_cons (xv 1) da_nil)) dg_nil)))))
      (ds_one (ds_ret (dx_ty (c_tup rfl) k_tup (by rfl) (T.fr 10 "tuple" rfl) PyProof.Rows.boot_tuple (da_cons (dx_fz (dn_lc (own := [("point", 2)]) (g := (gName 2)) (bind := (bNm 2)) rfl sc_power_table.nd (di_seq (xv 1)) (blkOk_by (own := [("point", 2)]) (N := ["figures", "points", "point"]) (sc := defScope (top 41)) (by decide +kernel)) (bd_nm (by decide)) (fun _ _ _ _ _ => (gN 2 sc_power_table.nd)) (fun _ _ _ _ _ => pts_no) (fun _ _ _ _ _ => (cc_call (cal_powers_at T) (hr.mono (by decide)) (T.gl 24 "powers_at" rfl) passF (xG 0 (xG 2 (dg_cons (dx_bi (c_len rfl) k_len (by rfl) (T.fr 5 "len" rfl) PySem.boot_len (da_cons (xv 1) da_nil)) dg_nil))))))) da_nil)))))))) (FunD.bindsN D (fun _ _ _ _ _ _ us hl => match us, hl with | [_, _], _ => rfl))
theorem sc_undone_powers : FnScope ["figures", "points"] ["figures", "points"] (defScope (top 42)) := ⟨rfl, rfl, rfl, by decide +kernel, rfl, by decide +kernel, by decide +kernel⟩
theorem cal_undone_powers (T : Fs tb K mg) : Cal P w ⟨K, mg, none⟩ base false 8 (He.ga K "undone_powers") 2 F_undone_powers [] := by
  obtain ⟨fd, D⟩ : ∃ fd, FunD K "undone_powers" "undone_powers" (defArgs (top 42)) (defBody (top 42)) (defScope (top 42)) [] [] (He.ga K "undone_powers") fd := T.says.def_ 33 rfl
  exact cal_of D (ok_def (N := ["figures", "points"]) (ps := ["figures", "points"]) (k := 7) (c := ⟨K, mg, none⟩) D sc_undone_powers (fun cdv A outer s H E hr => (ds_one (ds_ret (cc_call (cal_undone_table T) (hr.mono (by decide)) (T.gl 20 "undone_table" rfl) (fun σ => passAt (takes_of rfl rfl rfl rfl) σ) (xG 0 (dg_cons (cc_call (cal_power_table T) (hr.mono (by decide)) (T.gl 26 "power_table" rfl) (fun σ => passAt (takes_of rfl rfl rfl rfl) σ) (xG 0 (xG 1 dg_nil))) dg_nil))))))) (FunD.bindsN D (fun _ _ _ _ _ _ us hl => match us, hl with | [_, _], _ => rfl))
theorem sc_Figures___init__ : FnScope ["self", "prime"] ["self", "prime"] (defScope (inClass (top 46) 0)) := ⟨rfl, rfl, rfl, by decide +kernel, rfl, by decide +kernel, by decide +kernel⟩
theorem cal_Figures___init__ (T : Fs tb K mg) : Cal P w ⟨K, mg, none⟩ base false 3 (He.ma K (He.ga K "Figures") "__init__") 2 F_Figures___init__ [] := by
  obtain ⟨fd, D⟩ : ∃ fd, FunD K "__init__" "Figures.__init__" (defArgs (inClass (top 46) 0)) (defBody (inClass (top 46) 0)) (defScope (inClass (top 46) 0)) [] [] (He.ma K (He.ga K "Figures") "__init__") fd := T.says.def_ 34 rfl
  exact cal_of D (ok_def (N := ["self", "prime"]) (ps := ["self", "prime"]) (k := 2) (c := ⟨K, mg, none⟩) D sc_Figures___init__ (fun cdv A outer s H E hr => (ds_cons (ds_if (PW.pt (dw_or (dt_not (dt_tru rfl (cc_call (cal_is_whole_2 T) (hr.mono (by decide)) (T.gl 0 "is_whole" rfl) (fun σ => passAt (takes_of rfl rfl rfl rfl) σ) (xG 1 dg_nil)))) (dw_or1 (dt_cmp (c_ninP hr.units65 rfl) d_ninP (xv 1) (xgT (tupOk_OFFERED T)))))) (ds_one (xr1 (er_BadFigures T) (takes_of rfl rfl rfl rfl) (hr.mono (by decide)) (da_cons (xv 1) da_nil))) ds_nil)
      (ds_cons (ds_at (fun C e => noat_of T 0 rfl (T.gl 67 "Figures" rfl) (by decide) e) (xM 0) (xv 1))
      (ds_cons (ds_at (fun C e => noat_of T 0 rfl (T.gl 67 "Figures" rfl) (by decide) e) (xM 0) (dx_if (dt_cmp (c_eqD hr.units rfl) d_eq (xv 1) dx_i) (dx_tup (da_cons dx_i (da_cons dx_i da_nil))) dx_i))
      (ds_one (ds_at (fun C e => noat_of T 0 rfl (T.gl 67 "Figures" rfl) (by decide) e) (xM 0) (dx_if (dt_cmp (c_eqD hr.units rfl) d_eq (xv 1) dx_i) (dx_tup (da_cons dx_i (da_cons dx_i da_nil))) dx_i)))))))) (FunD.bindsN D (fun _ _ _ _ _ _ us hl => match us, hl with | [_, _], _ => rfl))
theorem sc__law_mixed : FnScope ["_law_number", "_law_turn", "_law_once", "_law_twice"] ["_law_number", "_law_turn"] (defScope (top 49)) := ⟨rfl, rfl, rfl, by decide +kernel, rfl, by decide +kernel, by decide +kernel⟩
theorem cal__law_mixed (T : Fs tb K mg) : Cal P w ⟨K, mg, none⟩ base false 1 (He.ga K "_law_mixed") 2 F__law_mixed [] := by
  obtain ⟨fd, D⟩ : ∃ fd, FunD K "_law_mixed" "_law_mixed" (defArgs (top 49)) (defBody (top 49)) (defScope (top 49)) [] [] (He.ga K "_law_mixed") fd := T.says.def_ 36 rfl
  exact cal_of D (ok_def (N := ["_law_number", "_law_turn", "_law_once", "_law_twice"]) (ps := ["_law_number", "_law_turn"]) (k := 0) (c := ⟨K, mg, none⟩) D sc__law_mixed (fun cdv A outer s H E hr => (ds_cons (sS 2 sc__law_mixed.nd (dx_op op_modN d_mod (dx_ty call_int1 k_int (by rfl) (T.fr 3 "int" rfl) PyProof.Rows.boot_int (da_cons (dx_op op_add d_add (dx_op op_add d_add (dx_op op_mulW d_mul (xv 0) dx_i) (dx_op op_mulW d_mul (xv 1) dx_i)) dx_i) da_nil)) dx_i))
      (ds_cons (sS 3 sc__law_mixed.nd (dx_op op_modN d_mod (dx_ty call_int1 k_int (by rfl) (T.fr 3 "int" rfl) PyProof.Rows.boot_int (da_cons (dx_op op_add d_add (dx_op op_add d_add (dx_op op_mulW d_mul (xv 2) (xv 2)) (dx_op op_mulW d_mul (xv 1) dx_i)) (dx_op op_fdivG d_div (xv 2) dx_i)) da_nil)) dx_i))
      (ds_one (ds_ret (dx_op op_fdivG d_div (dx_ty call_int1 k_int (by rfl) (T.fr 3 "int" rfl) PyProof.Rows.boot_int (da_cons (dx_op op_modN d_mod (dx_ty call_int1 k_int (by rfl) (T.fr 3 "int" rfl) PyProof.Rows.boot_int (da_cons (dx_op op_add d_add (dx_op op_mulW d_mul (xv 3) dx_i) (dx_op op_fdivG d_div (xv 2) dx_i)) da_nil)) dx_i) da_nil)) dx_i))))))) (FunD.bindsN D (fun _ _ _ _ _ _ us hl => match us, hl with | [_, _], _ => rfl))
theorem sc__law_take : FnScope ["_law_hand_here", "_law_many", "_law_cell", "_law_rest"] ["_law_hand_here", "_law_many"] (defScope (top 50)) := ⟨rfl, rfl, rfl, by decide +kernel, rfl, by decide +kernel, by decide +kernel⟩
theorem cal__law_take (T : Fs tb K mg) : Cal P w ⟨K, mg, none⟩ base false 2 (He.ga K "_law_take") 2 F__law_take [] := by
  obtain ⟨fd, D⟩ : ∃ fd, FunD K "_law_take" "_law_take" (defArgs (top 50)) (defBody (top 50)) (defScope (top 50)) [] [] (He.ga K "_law_take") fd := T.says.def_ 37 rfl
  exact cal_of D (ok_def (N := ["_law_hand_here", "_law_many", "_law_cell", "_law_rest"]) (ps := ["_law_hand_here", "_law_many"]) (k := 1) (c := ⟨K, mg, none⟩) D sc__law_take (fun cdv A outer s H E hr => (ds_cons (ds_if (PW.pt (dw_and (dt_cmp (c_eqD hr.units rfl) d_eq (dx_ixM (xM 0) dx_i) dx_i) (dw_and1 (dt_cmp op_lt d_lt (dx_ixM (xM 0) dx_i) (dx_bi (c_len rfl) k_len (by rfl) (T.fr 5 "len" rfl) PySem.boot_len (da_cons (dx_ixM (xM 0) dx_i) da_nil)))))) (ds_cons (sS 2 sc__law_take.nd (dx_ix (dx_ixM (xM 0) dx_i) (dx_ixM (xM 0) dx_i)))
      (ds_cons (ds_stM (dx_op op_add d_add (dx_ixM (xM 0) dx_i) dx_i) (xM 0) dx_i)
      (ds_cons (ds_if (dt_cmp op_lt d_lt (xv 2) (dx_op op_pow d_pow dx_i dx_i)) (ds_one (ds_ret (dx_op op_modN d_mod (dx_ty call_int1 k_int (by rfl) (T.fr 3 "int" rfl) PyProof.Rows.boot_int (da_cons (cc_call (cal__law_mixed T) (hr.mono (by decide)) (T.gl 30 "_law_mixed" rfl) (fun σ => passAt (takes_of rfl rfl rfl rfl) σ) (dg_cons (dx_op op_modN d_mod (dx_ty call_int1 k_int (by rfl) (T.fr 3 "int" rfl) PyProof.Rows.boot_int (da_cons (xv 2) da_nil)) dx_i) (dg_cons (dx_ixM (xM 0) dx_i) dg_nil))) da_nil)) (xv 1)))) ds_nil)
      (ds_one (ds_stM (xv 2) (xM 0) dx_i))))) ds_nil)
      (ds_cons (ds_if (dt_cmp op_gt d_gt (dx_ixM (xM 0) dx_i) dx_i) (ds_cons (sS 3 sc__law_take.nd (dx_ixM (xM 0) dx_i))
      (ds_cons (ds_stM (dx_op op_fdivG d_div (dx_ty call_int1 k_int (by rfl) (T.fr 3 "int" rfl) PyProof.Rows.boot_int (da_cons (xv 3) da_nil)) (xv 1)) (xM 0) dx_i)
      (ds_one (ds_ret (dx_op op_modN d_mod (dx_ty call_int1 k_int (by rfl) (T.fr 3 "int" rfl) PyProof.Rows.boot_int (da_cons (xv 3) da_nil)) (xv 1)))))) ds_nil)
      (ds_cons (ds_stM (dx_op op_modN d_mod (dx_ty call_int1 k_int (by rfl) (T.fr 3 "int" rfl) PyProof.Rows.boot_int (da_cons (dx_op op_add d_add (dx_ixM (xM 0) dx_i) dx_i) da_nil)) dx_i) (xM 0) dx_i)
      (ds_one (ds_ret (dx_op op_modN d_mod (dx_ty call_int1 k_int (by rfl) (T.fr 3 "int" rfl) PyProof.Rows.boot_int (da_cons (cc_call (cal__law_mixed T) (hr.mono (by decide)) (T.gl 30 "_law_mixed" rfl) (fun σ => passAt (takes_of rfl rfl rfl rfl) σ) (dg_cons (dx_ixM (xM 0) dx_i) (dg_cons (dx_ixM (xM 0) dx_i) dg_nil))) da_nil)) (xv 1))))))))) (FunD.bindsN D (fun _ _ _ _ _ _ us hl => match us, hl with | [_, _], _ => rfl))
theorem sc__law_gcd : FnScope ["_law_one", "_law_other", "_law_a", "_law_b", "_law_k", "_law_rest"] ["_law_one", "_law_other"] (defScope (top 51)) := ⟨rfl, rfl, rfl, by decide +kernel, rfl, by decide +kernel, by decide +kernel⟩
theorem cal__law_gcd (T : Fs tb K mg) : Cal P w ⟨K, mg, none⟩ base false 1 (He.ga K "_law_gcd") 2 F__law_gcd [] := by
  obtain ⟨fd, D⟩ : ∃ fd, FunD K "_law_gcd" "_law_gcd" (defArgs (top 51)) (defBody (top 51)) (defScope (top 51)) [] [] (He.ga K "_law_gcd") fd := T.says.def_ 38 rfl
  exact cal_of D (ok_def (N := ["_law_one", "_law_other", "_law_a", "_law_b", "_law_k", "_law_rest"]) (ps := ["_law_one", "_law_other"]) (k := 0) (c := ⟨K, mg, none⟩) D sc__law_gcd (fun cdv A outer s H E hr => (ds_cons (sS 2 sc__law_gcd.nd (dx_bi call_abs k_abs (by rfl) (T.fr 0 "abs" rfl) (by decide +kernel) (da_cons (xv 0) da_nil)))
      (ds_cons (sS 3 sc__law_gcd.nd (dx_bi call_abs k_abs (by rfl) (T.fr 0 "abs" rfl) (by decide +kernel) (da_cons (xv 1) da_nil)))
      (ds_cons (ds_for (vs := [4]) (gg := (gName 4)) (bind := (bNm 4)) (passes_of rfl) rfl (bd_nm (by decide)) (di_rg1 (by rfl) (T.fr 8 "range" rfl) (da_cons dx_i da_nil)) (gN 4 sc__law_gcd.nd) (ds_cons (ds_if (dt_cmp (c_eqD hr.units rfl) d_eq (xv 3) dx_i) (ds_one (ds_ret (xv 2))) ds_nil)
      (ds_cons (sS 5 sc__law_gcd.nd (dx_op op_modN d_mod (dx_ty call_int1 k_int (by rfl) (T.fr 3 "int" rfl) PyProof.Rows.boot_int (da_cons (xv 2) da_nil)) (xv 3)))
      (ds_cons (sS 2 sc__law_gcd.nd (xv 3))
      (ds_one (sS 3 sc__law_gcd.nd (xv 5)))))))
      (ds_one (ds_ret dx_i))))))) (FunD.bindsN D (fun _ _ _ _ _ _ us hl => match us, hl with | [_, _], _ => rfl))
theorem sc__law_ratio : FnScope ["_law_top", "_law_bottom", "_law_common"] ["_law_top", "_law_bottom"] (defScope (top 52)) := ⟨rfl, rfl, rfl, by decide +kernel, rfl, by decide +kernel, by decide +kernel⟩
theorem cal__law_ratio (T : Fs tb K mg) : Cal P w ⟨K, mg, none⟩ base false 2 (He.ga K "_law_ratio") 2 F__law_ratio [] := by
  obtain ⟨fd, D⟩ : ∃ fd, FunD K "_law_ratio" "_law_ratio" (defArgs (top 52)) (defBody (top 52)) (defScope (top 52)) [] [] (He.ga K "_law_ratio") fd := T.says.def_ 39 rfl
  exact cal_of D (ok_def (N := ["_law_top", "_law_bottom", "_law_common"]) (ps := ["_law_top", "_law_bottom"]) (k := 1) (c := ⟨K, mg, none⟩) D sc__law_ratio (fun cdv A outer s H E hr => (ds_cons (sS 2 sc__law_ratio.nd (cc_call (cal__law_gcd T) (hr.mono (by decide)) (T.gl 32 "_law_gcd" rfl) (fun σ => passAt (takes_of rfl rfl rfl rfl) σ) (xG 0 (xG 1 dg_nil))))
      (ds_cons (ds_if (dt_cmp op_lt d_lt (xv 1) dx_i) (ds_one (sS 2 sc__law_ratio.nd (dx_neg (xv 2)))) ds_nil)
      (ds_one (ds_ret (dx_tup (da_cons (dx_op op_fdivG d_div (xv 0) (xv 2)) (da_cons (dx_op op_fdivG d_div (xv 1) (xv 2)) da_nil))))))))) (FunD.bindsN D (fun _ _ _ _ _ _ us hl => match us, hl with | [_, _], _ => rfl))
theorem sc__law_num : FnScope ["_law_p", "_law_many"] ["_law_p", "_law_many"] (defScope (top 53)) := ⟨rfl, rfl, rfl, by decide +kernel, rfl, by decide +kernel, by decide +kernel⟩
theorem cal__law_num (T : Fs tb K mg) : Cal P w ⟨K, mg, none⟩ base false 1 (He.ga K "_law_num") 2 F__law_num [] := by
  obtain ⟨fd, D⟩ : ∃ fd, FunD K "_law_num" "_law_num" (defArgs (top 53)) (defBody (top 53)) (defScope (top 53)) [] [] (He.ga K "_law_num") fd := T.says.def_ 40 rfl
  exact cal_of D (ok_def (N := ["_law_p", "_law_many"]) (ps := ["_law_p", "_law_many"]) (k := 0) (c := ⟨K, mg, none⟩) D sc__law_num (fun cdv A outer s H E hr => (ds_cons (ds_if (dt_cmp (c_eqD hr.units rfl) d_eq (xv 0) dx_i) (ds_one (ds_ret (dx_tup (da_cons (xv 1) (da_cons dx_i da_nil))))) ds_nil)
      (ds_one (ds_ret (dx_op op_modN d_mod (dx_ty call_int1 k_int (by rfl) (T.fr 3 "int" rfl) PyProof.Rows.boot_int (da_cons (xv 1) da_nil)) (xv 0))))))) (FunD.bindsN D (fun _ _ _ _ _ _ us hl => match us, hl with | [_, _], _ => rfl))
end
end N16
namespace N16
open PySem PySem.Spec PyProof.Rows L2 Fw Pd
section
variable {P : Program} {w : World} {K : PySem.W.Frag} {mg : Str → Option Value} {base : Heap}
theorem sc__law_plus : FnScope ["_law_p", "_law_one", "_law_other"] ["_law_p", "_law_one", "_law_other"] (defScope (top 54)) := ⟨rfl, rfl, rfl, by decide +kernel, rfl, by decide +kernel, by decide +kernel⟩
theorem cal__law_plus (T : Fs tb K mg) : Cal P w ⟨K, mg, none⟩ base false 3 (He.ga K "_law_plus") 3 F__law_plus [] := by
  obtain ⟨fd, D⟩ : ∃ fd, FunD K "_law_plus" "_law_plus" (defArgs (top 54)) (defBody (top 54)) (defScope (top 54)) [] [] (He.ga K "_law_plus") fd := T.says.def_ 41 rfl
  exact cal_of D (ok_def (N := ["_law_p", "_law_one", "_law_other"]) (ps := ["_law_p", "_law_one", "_law_other"]) (k := 2) (c := ⟨K, mg, none⟩) D sc__law_plus (fun cdv A outer s H E hr => (ds_cons (ds_if (dt_cmp (c_eqD hr.units rfl) d_eq (xv 0) dx_i) (ds_cons (ds_if (PW.pt (dw_and (dt_cmp (c_eqD hr.units rfl) d_eq (dx_ix (xv 1) dx_i) dx_i) (dw_and1 (dt_cmp (c_eqD hr.units rfl) d_eq (dx_ix (xv 2) dx_i) dx_i)))) (ds_one (ds_ret (dx_tup (da_cons (dx_op op_add d_add (dx_ix (xv 1) dx_i) (dx_ix (xv 2) dx_i)) (da_cons dx_i da_nil))))) ds_nil)
      (ds_one (ds_ret (cc_call (cal__law_ratio T) (hr.mono (by decide)) (T.gl 33 "_law_ratio" rfl) (fun σ => passAt (takes_of rfl rfl rfl rfl) σ) (dg_cons (dx_op op_add d_add (dx_op op_mulW d_mul (dx_ix (xv 1) dx_i) (dx_ix (xv 2) dx_i)) (dx_op op_mulW d_mul (dx_ix (xv 2) dx_i) (dx_ix (xv 1) dx_i))) (dg_cons (dx_op op_mulW d_mul (dx_ix (xv 1) dx_i) (dx_ix (xv 2) dx_i)) dg_nil)))))) ds_nil)
      (ds_one (ds_ret (dx_op op_modN d_mod (dx_ty call_int1 k_int (by rfl) (T.fr 3 "int" rfl) PyProof.Rows.boot_int (da_cons (dx_op op_add d_add (xv 1) (xv 2)) da_nil)) (xv 0))))))) (FunD.bindsN D (fun _ _ _ _ _ _ us hl => match us, hl with | [_, _, _], _ => rfl))
theorem sc__law_times : FnScope ["_law_p", "_law_one", "_law_other"] ["_law_p", "_law_one", "_law_other"] (defScope (top 55)) := ⟨rfl, rfl, rfl, by decide +kernel, rfl, by decide +kernel, by decide +kernel⟩
theorem cal__law_times (T : Fs tb K mg) : Cal P w ⟨K, mg, none⟩ base false 3 (He.ga K "_law_times") 3 F__law_times [] := by
  obtain ⟨fd, D⟩ : ∃ fd, FunD K "_law_times" "_law_times" (defArgs (top 55)) (defBody (top 55)) (defScope (top 55)) [] [] (He.ga K "_law_times") fd := T.says.def_ 42 rfl
  exact cal_of D (ok_def (N := ["_law_p", "_law_one", "_law_other"]) (ps := ["_law_p", "_law_one", "_law_other"]) (k := 2) (c := ⟨K, mg, none⟩) D sc__law_times (fun cdv A outer s H E hr => (ds_cons (ds_if (dt_cmp (c_eqD hr.units rfl) d_eq (xv 0) dx_i) (ds_cons (ds_if (PW.pt (dw_and (dt_cmp (c_eqD hr.units rfl) d_eq (dx_ix (xv 1) dx_i) dx_i) (dw_and1 (dt_cmp (c_eqD hr.units rfl) d_eq (dx_ix (xv 2) dx_i) dx_i)))) (ds_one (ds_ret (dx_tup (da_cons (dx_op op_mulW d_mul (dx_ix (xv 1) dx_i) (dx_ix (xv 2) dx_i)) (da_cons dx_i da_nil))))) ds_nil)
      (ds_one (ds_ret (cc_call (cal__law_ratio T) (hr.mono (by decide)) (T.gl 33 "_law_ratio" rfl) (fun σ => passAt (takes_of rfl rfl rfl rfl) σ) (dg_cons (dx_op op_mulW d_mul (dx_ix (xv 1) dx_i) (dx_ix (xv 2) dx_i)) (dg_cons (dx_op op_mulW d_mul (dx_ix (xv 1) dx_i) (dx_ix (xv 2) dx_i)) dg_nil)))))) ds_nil)
      (ds_one (ds_ret (dx_op op_modN d_mod (dx_ty call_int1 k_int (by rfl) (T.fr 3 "int" rfl) PyProof.Rows.boot_int (da_cons (dx_op op_mulW d_mul (xv 1) (xv 2)) da_nil)) (xv 0))))))) (FunD.bindsN D (fun _ _ _ _ _ _ us hl => match us, hl with | [_, _, _], _ => rfl))
theorem sc__law_less : FnScope ["_law_p", "_law_one", "_law_other"] ["_law_p", "_law_one", "_law_other"] (defScope (top 56)) := ⟨rfl, rfl, rfl, by decide +kernel, rfl, by decide +kernel, by decide +kernel⟩
theorem cal__law_less (T : Fs tb K mg) : Cal P w ⟨K, mg, none⟩ base false 4 (He.ga K "_law_less") 3 F__law_less [] := by
  obtain ⟨fd, D⟩ : ∃ fd, FunD K "_law_less" "_law_less" (defArgs (top 56)) (defBody (top 56)) (defScope (top 56)) [] [] (He.ga K "_law_less") fd := T.says.def_ 43 rfl
  exact cal_of D (ok_def (N := ["_law_p", "_law_one", "_law_other"]) (ps := ["_law_p", "_law_one", "_law_other"]) (k := 3) (c := ⟨K, mg, none⟩) D sc__law_less (fun cdv A outer s H E hr => (ds_cons (ds_if (dt_cmp (c_eqD hr.units rfl) d_eq (xv 0) dx_i) (ds_one (ds_ret (cc_call (cal__law_plus T) (hr.mono (by decide)) (T.gl 35 "_law_plus" rfl) (fun σ => passAt (takes_of rfl rfl rfl rfl) σ) (xG 0 (xG 1 (dg_cons (dx_tup (da_cons (dx_neg (dx_ix (xv 2) dx_i)) (da_cons (dx_ix (xv 2) dx_i) da_nil))) dg_nil)))))) ds_nil)
      (ds_one (ds_ret (dx_op op_modN d_mod (dx_ty call_int1 k_int (by rfl) (T.fr 3 "int" rfl) PyProof.Rows.boot_int (da_cons (dx_op op_sub d_sub (xv 1) (xv 2)) da_nil)) (xv 0))))))) (FunD.bindsN D (fun _ _ _ _ _ _ us hl => match us, hl with | [_, _, _], _ => rfl))
theorem sc__law_over : FnScope ["_law_p", "_law_one", "_law_other", "_law_told", "_law_k"] ["_law_p", "_law_one", "_law_other"] (defScope (top 57)) := ⟨rfl, rfl, rfl, by decide +kernel, rfl, by decide +kernel, by decide +kernel⟩
theorem cal__law_over (T : Fs tb K mg) : Cal P w ⟨K, mg, none⟩ base false 3 (He.ga K "_law_over") 3 F__law_over [] := by
  obtain ⟨fd, D⟩ : ∃ fd, FunD K "_law_over" "_law_over" (defArgs (top 57)) (defBody (top 57)) (defScope (top 57)) [] [] (He.ga K "_law_over") fd := T.says.def_ 44 rfl
  exact cal_of D (ok_def (N := ["_law_p", "_law_one", "_law_other", "_law_told", "_law_k"]) (ps := ["_law_p", "_law_one", "_law_other"]) (k := 2) (c := ⟨K, mg, none⟩) D sc__law_over (fun cdv A outer s H E hr => (ds_cons (ds_if (dt_cmp (c_eqD hr.units rfl) d_eq (xv 0) dx_i) (ds_one (ds_ret (cc_call (cal__law_ratio T) (hr.mono (by decide)) (T.gl 33 "_law_ratio" rfl) (fun σ => passAt (takes_of rfl rfl rfl rfl) σ) (dg_cons (dx_op op_mulW d_mul (dx_ix (xv 1) dx_i) (dx_ix (xv 2) dx_i)) (dg_cons (dx_op op_mulW d_mul (dx_ix (xv 1) dx_i) (dx_ix (xv 2) dx_i)) dg_nil))))) ds_nil)
      (ds_cons (sS 3 sc__law_over.nd (xv 1))
      (ds_cons (ds_for (vs := [4]) (gg := (gName 4)) (bind := (bNm 4)) (passes_of rfl) rfl (bd_nm (by decide)) (di_rg1 (by rfl) (T.fr 8 "range" rfl) (da_cons (dx_op op_sub d_sub (xv 0) dx_i) da_nil)) (gN 4 sc__law_over.nd) (ds_one (sS 3 sc__law_over.nd (dx_op op_modN d_mod (dx_ty call_int1 k_int (by rfl) (T.fr 3 "int" rfl) PyProof.Rows.boot_int (da_cons (dx_op op_mulW d_mul (xv 3) (xv 2)) da_nil)) (xv 0)))))
      (ds_one (ds_ret (xv 3)))))))) (FunD.bindsN D (fun _ _ _ _ _ _ us hl => match us, hl with | [_, _, _], _ => rfl))
theorem sc__law_figures : FnScope ["_law_hand_here"] ["_law_hand_here"] (defScope (top 58)) := ⟨rfl, rfl, rfl, by decide +kernel, rfl, by decide +kernel, by decide +kernel⟩
theorem cal__law_figures (T : Fs tb K mg) : Cal P w ⟨K, mg, none⟩ base false 3 (He.ga K "_law_figures") 1 F__law_figures [] := by
  obtain ⟨fd, D⟩ : ∃ fd, FunD K "_law_figures" "_law_figures" (defArgs (top 58)) (defBody (top 58)) (defScope (top 58)) [] [] (He.ga K "_law_figures") fd := T.says.def_ 45 rfl
  exact cal_of D (ok_def (N := ["_law_hand_here"]) (ps := ["_law_hand_here"]) (k := 2) (c := ⟨K, mg, none⟩) D sc__law_figures (fun cdv A outer s H E hr => (ds_one (ds_ret (dx_ix (dx_tup (da_cons dx_i (da_cons dx_i (da_cons dx_i (da_cons dx_i (da_cons dx_i (da_cons dx_i (da_cons dx_i (da_cons dx_i (da_cons dx_i (da_cons dx_i (da_cons dx_i (da_cons dx_i da_nil))))))))))))) (cc_call (cal__law_take T) (hr.mono (by decide)) (T.gl 31 "_law_take" rfl) (fun σ => passAt (takes_of rfl rfl rfl rfl) σ) (xG 0 (dg_cons dx_i dg_nil)))))))) (FunD.bindsN D (fun _ _ _ _ _ _ us hl => match us, hl with | [_], _ => rfl))
theorem sc__law_rooted : FnScope ["_law_p", "_law_roots", "_law_poly", "_law_root", "_law_up", "_law_k"] ["_law_p", "_law_roots"] (defScope (top 59)) := ⟨rfl, rfl, rfl, by decide +kernel, rfl, by decide +kernel, by decide +kernel⟩
theorem cal__law_rooted (T : Fs tb K mg) : Cal P w ⟨K, mg, none⟩ base false 5 (He.ga K "_law_rooted") 2 F__law_rooted [] := by
  obtain ⟨fd, D⟩ : ∃ fd, FunD K "_law_rooted" "_law_rooted" (defArgs (top 59)) (defBody (top 59)) (defScope (top 59)) [] [] (He.ga K "_law_rooted") fd := T.says.def_ 46 rfl
  exact cal_of D (ok_def (N := ["_law_p", "_law_roots", "_law_poly", "_law_root", "_law_up", "_law_k"]) (ps := ["_law_p", "_law_roots"]) (k := 4) (c := ⟨K, mg, none⟩) D sc__law_rooted (fun cdv A outer s H E hr => (ds_cons (sS 2 sc__law_rooted.nd (dx_fz (dn_lst (da_cons (cc_call (cal__law_num T) (hr.mono (by decide)) (T.gl 34 "_law_num" rfl) (fun σ => passAt (takes_of rfl rfl rfl rfl) σ) (xG 0 (dg_cons dx_i dg_nil))) da_nil))))
      (ds_cons (ds_for (vs := [3]) (gg := (gName 3)) (bind := (bNm 3)) (passes_of rfl) rfl (bd_nm (by decide)) (di_seq (xv 1)) (gN 3 sc__law_rooted.nd) (ds_cons (sS 4 sc__law_rooted.nd (dx_fz (dn_plus (dx_fz (dn_lst (da_cons (cc_call (cal__law_num T) (hr.mono (by decide)) (T.gl 34 "_law_num" rfl) (fun σ => passAt (takes_of rfl rfl rfl rfl) σ) (xG 0 (dg_cons dx_i dg_nil))) da_nil))) (xv 2))))
      (ds_one (sS 2 sc__law_rooted.nd (dx_fz (dn_lc (own := [("_law_k", 5)]) (g := (gName 5)) (bind := (bNm 5)) rfl sc__law_rooted.nd (di_rg1 (by rfl) (T.fr 8 "range" rfl) (da_cons (dx_bi (c_len rfl) k_len (by rfl) (T.fr 5 "len" rfl) PySem.boot_len (da_cons (xv 4) da_nil)) da_nil)) (blkOk_by (own := [("_law_k", 5)]) (N := ["_law_p", "_law_roots", "_law_poly", "_law_root", "_law_up", "_law_k"]) (sc := defScope (top 59)) (by decide +kernel)) (bd_nm (by decide)) (fun _ _ _ _ _ => (gN 5 sc__law_rooted.nd)) (fun _ _ _ _ _ => pts_no) (fun _ _ _ _ _ => (cc_call (cal__law_less T) (hr.mono (by decide)) (T.gl 37 "_law_less" rfl) passF (xG 0 (dg_cons (dx_ix (xv 4) (xv 5)) (dg_cons (cc_call (cal__law_times T) (hr.mono (by decide)) (T.gl 36 "_law_times" rfl) passF (xG 0 (xG 3 (dg_cons (dx_ix (dx_fz (dn_plus (xv 2) (dx_fz (dn_lst (da_cons (cc_call (cal__law_num T) (hr.mono (by decide)) (T.gl 34 "_law_num" rfl) passF (xG 0 (dg_cons dx_i dg_nil))) da_nil))))) (xv 5)) dg_nil)))) dg_nil)))))))))))
      (ds_one (ds_ret (xv 2))))))) (FunD.bindsN D (fun _ _ _ _ _ _ us hl => match us, hl with | [_, _], _ => rfl))
theorem sc__law_exact : FnScope ["_law_told", "_law_due", "_law_k"] ["_law_told", "_law_due"] (defScope (top 60)) := ⟨rfl, rfl, rfl, by decide +kernel, rfl, by decide +kernel, by decide +kernel⟩
theorem cal__law_exact (T : Fs tb K mg) : ∀ fu : Nat, Cal P w ⟨K, mg, none⟩ base false (1 + fu) (He.ga K "_law_exact") 2 (F__law_exact fu) [] := by
  obtain ⟨fd, D⟩ : ∃ fd, FunD K "_law_exact" "_law_exact" (defArgs (top 60)) (defBody (top 60)) (defScope (top 60)) [] [] (He.ga K "_law_exact") fd := T.says.def_ 47 rfl
  have bd : L2.Binds K fd ["_law_told", "_law_due"] [] := (FunD.bindsN D (fun _ _ _ _ _ _ us hl => match us, hl with | [_, _], _ => rfl))
  intro fu
  induction fu with
  | zero => exact cal_of D (bad_def (c := ⟨K, mg, none⟩) D sc__law_exact) bd
  | succ fu ih => exact cal_of D (ok_def (N := ["_law_told", "_law_due", "_law_k"]) (ps := ["_law_told", "_law_due"]) (k := 1 + fu) (c := ⟨K, mg, none⟩) D sc__law_exact (fun cdv A outer s H E hr => (ds_cons (ds_if (dt_tru rfl (dx_is T.gt (by decide) (by rfl) (T.fr 4 "isinstance" rfl) (xv 1) (pe_bltn (v := .ty "tuple") (by rfl) (T.fr 10 "tuple" rfl) (by decide +kernel) rfl))) (ds_cons (ds_if (PW.pt (dw_or (dt_not (dt_tru rfl (dx_is T.gt (by decide) (by rfl) (T.fr 4 "isinstance" rfl) (xv 0) (pe_bltn (v := .ty "tuple") (by rfl) (T.fr 10 "tuple" rfl) (by decide +kernel) rfl)))) (dw_or1 (dt_cmp (c_neD hr.units rfl) d_ne (dx_bi (c_len rfl) k_len (by rfl) (T.fr 5 "len" rfl) PySem.boot_len (da_cons (xv 0) da_nil)) (dx_bi (c_len rfl) k_len (by rfl) (T.fr 5 "len" rfl) PySem.boot_len (da_cons (xv 1) da_nil)))))) (ds_one (ds_ret dx_b)) ds_nil)
      (ds_one (ds_ret (dx_cmp (c_eqD hr.units rfl) d_eq (dx_fz (dn_lc (own := [("_law_k", 2)]) (g := (gName 2)) (bind := (bNm 2)) rfl sc__law_exact.nd (di_rg1 (by rfl) (T.fr 8 "range" rfl) (da_cons (dx_bi (c_len rfl) k_len (by rfl) (T.fr 5 "len" rfl) PySem.boot_len (da_cons (xv 1) da_nil)) da_nil)) (blkOk_by (own := [("_law_k", 2)]) (N := ["_law_told", "_law_due", "_law_k"]) (sc := defScope (top 60)) (by decide +kernel)) (bd_nm (by decide)) (fun _ _ _ _ _ => (gN 2 sc__law_exact.nd)) (fun _ _ _ _ _ => (pts_if (dt_not (dt_tru rfl (cc_call ih (hr.mono (by omega)) (T.gl 41 "_law_exact" rfl) passF (dg_cons (dx_ix (xv 0) (xv 2)) (dg_cons (dx_ix (xv 1) (xv 2)) dg_nil))))))) (fun _ _ _ _ _ => (xv 2)))) (dx_fz (dn_lst da_nil)))))) ds_nil)
      (ds_cons (ds_if (dt_cmp op_isN d_isN (xv 1) dx_n) (ds_one (ds_ret (dx_cmp op_isN d_isN (xv 0) dx_n))) ds_nil)
      (ds_cons (ds_if (dt_tru rfl (dx_is T.gt (by decide) (by rfl) (T.fr 4 "isinstance" rfl) (xv 1) (pe_bltn (v := .ty "bool") (by rfl) (T.fr 1 "bool" rfl) (by decide +kernel) rfl))) (ds_one (ds_ret (dx_if (dt_tru rfl (xv 1)) (dx_cmp op_isBl d_isB (xv 0) dx_b) (dx_cmp op_isBl d_isB (xv 0) dx_b)))) ds_nil)
      (ds_cons (ds_if (dt_tru rfl (dx_is T.gt (by decide) (by rfl) (T.fr 4 "isinstance" rfl) (xv 1) (pe_bltn (v := .ty "str") (by rfl) (T.fr 9 "str" rfl) (by decide +kernel) rfl))) (ds_one (ds_ret (dx_and (dx_is T.gt (by decide) (by rfl) (T.fr 4 "isinstance" rfl) (xv 0) (pe_bltn (v := .ty "str") (by rfl) (T.fr 9 "str" rfl) (by decide +kernel) rfl)) (dx_one (dx_cmp (c_eqD hr.units rfl) d_eq (xv 0) (xv 1)))))) ds_nil)
      (ds_one (ds_ret (dx_and (dx_is T.gt (by decide) (by rfl) (T.fr 4 "isinstance" rfl) (xv 0) (pe_bltn (v := .ty "int") (by rfl) (T.fr 3 "int" rfl) (by decide +kernel) rfl)) (dx_and (dx_not (dx_is T.gt (by decide) (by rfl) (T.fr 4 "isinstance" rfl) (xv 0) (pe_bltn (v := .ty "bool") (by rfl) (T.fr 1 "bool" rfl) (by decide +kernel) rfl))) (dx_one (dx_cmp (c_eqD hr.units rfl) d_eq (xv 0) (xv 1))))))))))))) bd
theorem sc__law_list : FnScope ["_law_hand_here", "_law_items"] ["_law_hand_here", "_law_items"] (defScope (top 61)) := ⟨rfl, rfl, rfl, by decide +kernel, rfl, by decide +kernel, by decide +kernel⟩
theorem cal__law_list (T : Fs tb K mg) : Cal P w ⟨K, mg, none⟩ base false 3 (He.ga K "_law_list") 2 F__law_list [] := by
  obtain ⟨fd, D⟩ : ∃ fd, FunD K "_law_list" "_law_list" (defArgs (top 61)) (defBody (top 61)) (defScope (top 61)) [] [] (He.ga K "_law_list") fd := T.says.def_ 48 rfl
  exact cal_of D (ok_def (N := ["_law_hand_here", "_law_items"]) (ps := ["_law_hand_here", "_law_items"]) (k := 2) (c := ⟨K, mg, none⟩) D sc__law_list (fun cdv A outer s H E hr => (ds_one (ds_ret (dx_fz (dn_if (dt_tru rfl (cc_call (cal__law_take T) (hr.mono (by decide)) (T.gl 31 "_law_take" rfl) (fun σ => passAt (takes_of rfl rfl rfl rfl) σ) (xG 0 (dg_cons dx_i dg_nil)))) (dn_ty (c_list rfl) k_list (by rfl) (T.fr 6 "list" rfl) (by decide +kernel) (da_cons (xv 1) da_nil)) (dn_of (dx_ty (c_tup rfl) k_tup (by rfl) (T.fr 10 "tuple" rfl) PyProof.Rows.boot_tuple (da_cons (xv 1) da_nil))))))))) (FunD.bindsN D (fun _ _ _ _ _ _ us hl => match us, hl with | [_, _], _ => rfl))
theorem sc__law_points : FnScope ["_law_hand_here", "_law_p", "_law_many", "_law_last", "_law_pool", "_law_k", "_law_told", "_law_at"] ["_law_hand_here", "_law_p", "_law_many", "_law_last"] (defScope (top 62)) := ⟨rfl, rfl, rfl, by decide +kernel, rfl, by decide +kernel, by decide +kernel⟩
theorem cal__law_points (T : Fs tb K mg) : Cal P w ⟨K, mg, none⟩ base false 3 (He.ga K "_law_points") 4 F__law_points [] := by
  obtain ⟨fd, D⟩ : ∃ fd, FunD K "_law_points" "_law_points" (defArgs (top 62)) (defBody (top 62)) (defScope (top 62)) [] [] (He.ga K "_law_points") fd := T.says.def_ 49 rfl
  exact cal_of D (ok_def (N := ["_law_hand_here", "_law_p", "_law_many", "_law_last", "_law_pool", "_law_k", "_law_told", "_law_at"]) (ps := ["_law_hand_here", "_law_p", "_law_many", "_law_last"]) (k := 2) (c := ⟨K, mg, none⟩) D sc__law_points (fun cdv A outer s H E hr => (ds_cons (ds_if (dt_cmp op_gt d_gt (xv 1) dx_i) (ds_one (sS 4 sc__law_points.nd (dx_fz (dn_rgL1 rfl (by rfl) (T.fr 6 "list" rfl) (by rfl) (T.fr 8 "range" rfl) (xv 1))))) (ds_one (sS 4 sc__law_points.nd (dx_fz (dn_plus (dx_fz (dn_lc (own := [("_law_k", 5)]) (g := (gName 5)) (bind := (bNm 5)) rfl sc__law_points.nd (di_rg1 (by rfl) (T.fr 8 "range" rfl) (da_cons dx_i da_nil)) (blkOk_by (own := [("_law_k", 5)]) (N := ["_law_hand_here", "_law_p", "_law_many", "_law_last", "_law_pool", "_law_k", "_law_told", "_law_at"]) (sc := defScope (top 62)) (by decide +kernel)) (bd_nm (by decide)) (fun _ _ _ _ _ => (gN 5 sc__law_points.nd)) (fun _ _ _ _ _ => pts_no) (fun _ _ _ _ _ => (dx_tup (da_cons (dx_op op_sub d_sub (xv 5) dx_i) (da_cons dx_i da_nil)))))) (dx_fz (dn_lst (da_cons (dx_tup (da_cons dx_i (da_cons dx_i da_nil))) (da_cons (dx_tup (da_cons (dx_neg dx_i) (da_cons dx_i da_nil))) (da_cons (dx_tup (da_cons dx_i (da_cons dx_i da_nil))) (da_cons (dx_tup (da_cons (dx_neg dx_i) (da_cons dx_i da_nil))) (da_cons (dx_tup (da_cons (dx_op op_add d_add dx_i (cc_call (cal__law_take T) (hr.mono (by decide)) (T.gl 31 "_law_take" rfl) (fun σ => passAt (takes_of rfl rfl rfl rfl) σ) (xG 0 (dg_cons dx_i dg_nil)))) (da_cons dx_i da_nil))) da_nil))))))))))))
      (ds_cons (ds_if (dt_tru rfl (xv 3)) (ds_one (sS 4 sc__law_points.nd (dx_fz (dn_plus (dx_fz (dn_lst (da_cons dx_s da_nil))) (xv 4))))) ds_nil)
      (ds_cons (sSN 6 sc__law_points.nd (dn_lst da_nil))
      (ds_cons (ds_for (vs := [5]) (gg := (gName 5)) (bind := (bNm 5)) (passes_of rfl) rfl (bd_nm (by decide)) (di_rg1 (by rfl) (T.fr 8 "range" rfl) (da_cons (xv 2) da_nil)) (gN 5 sc__law_points.nd) (ds_cons (sS 7 sc__law_points.nd (cc_call (cal__law_take T) (hr.mono (by decide)) (T.gl 31 "_law_take" rfl) (fun σ => passAt (takes_of rfl rfl rfl rfl) σ) (xG 0 (dg_cons (dx_bi (c_len rfl) k_len (by rfl) (T.fr 5 "len" rfl) PySem.boot_len (da_cons (xv 4) da_nil)) dg_nil))))
      (ds_cons (ds_app (xP 6) (dn_of (dx_ix (xv 4) (xv 7))))
      (ds_one (sS 4 sc__law_points.nd (dx_fz (dn_plus (dx_fz (dn_sl (xv 4) do_no (do_e (xv 7)))) (dx_fz (dn_sl (xv 4) (do_e (dx_op op_add d_add (xv 7) dx_i)) do_no)))))))))
      (ds_one (ds_frz 6 (ds_ret (xv 6)))))))))) (FunD.bindsN D (fun _ _ _ _ _ _ us hl => match us, hl with | [_, _, _, _], _ => rfl))
theorem sc__law_powers : FnScope ["_law_p", "_law_point", "_law_size", "_law_k", "_law_told"] ["_law_p", "_law_point", "_law_size"] (defScope (top 63)) := ⟨rfl, rfl, rfl, by decide +kernel, rfl, by decide +kernel, by decide +kernel⟩
theorem cal__law_powers (T : Fs tb K mg) : Cal P w ⟨K, mg, none⟩ base false 4 (He.ga K "_law_powers") 3 F__law_powers [] := by
  obtain ⟨fd, D⟩ : ∃ fd, FunD K "_law_powers" "_law_powers" (defArgs (top 63)) (defBody (top 63)) (defScope (top 63)) [] [] (He.ga K "_law_powers") fd := T.says.def_ 50 rfl
  exact cal_of D (ok_def (N := ["_law_p", "_law_point", "_law_size", "_law_k", "_law_told"]) (ps := ["_law_p", "_law_point", "_law_size"]) (k := 3) (c := ⟨K, mg, none⟩) D sc__law_powers (fun cdv A outer s H E hr => (ds_cons (ds_if (dt_cmp (c_eqD hr.units rfl) d_eq (xv 1) dx_s) (ds_one (ds_ret (dx_fz (dn_lc (own := [("_law_k", 3)]) (g := (gName 3)) (bind := (bNm 3)) rfl sc__law_powers.nd (di_rg1 (by rfl) (T.fr 8 "range" rfl) (da_cons (xv 2) da_nil)) (blkOk_by (own := [("_law_k", 3)]) (N := ["_law_p", "_law_point", "_law_size", "_law_k", "_law_told"]) (sc := defScope (top 63)) (by decide +kernel)) (bd_nm (by decide)) (fun _ _ _ _ _ => (gN 3 sc__law_powers.nd)) (fun _ _ _ _ _ => pts_no) (fun _ _ _ _ _ => (cc_call (cal__law_num T) (hr.mono (by decide)) (T.gl 34 "_law_num" rfl) passF (xG 0 (dg_cons (dx_ty call_int1 k_int (by rfl) (T.fr 3 "int" rfl) PyProof.Rows.boot_int (da_cons (dx_cmp (c_eqD hr.units rfl) d_eq (xv 3) (dx_op op_sub d_sub (xv 2) dx_i)) da_nil)) dg_nil)))))))) ds_nil)
      (ds_cons (sSN 4 sc__law_powers.nd (dn_lst (da_cons (cc_call (cal__law_num T) (hr.mono (by decide)) (T.gl 34 "_law_num" rfl) (fun σ => passAt (takes_of rfl rfl rfl rfl) σ) (xG 0 (dg_cons dx_i dg_nil))) da_nil)))
      (ds_cons (ds_for (vs := [3]) (gg := (gName 3)) (bind := (bNm 3)) (passes_of rfl) rfl (bd_nm (by decide)) (di_rg1 (by rfl) (T.fr 8 "range" rfl) (da_cons (dx_op op_sub d_sub (xv 2) dx_i) da_nil)) (gN 3 sc__law_powers.nd) (ds_one (ds_app (xP 4) (dn_of (cc_call (cal__law_times T) (hr.mono (by decide)) (T.gl 36 "_law_times" rfl) (fun σ => passAt (takes_of rfl rfl rfl rfl) σ) (xG 0 (dg_cons (dx_pl (dp_ix (xP 4) (xv 3))) (xG 1 dg_nil))))))))
      (ds_one (ds_frz 4 (ds_ret (xv 4))))))))) (FunD.bindsN D (fun _ _ _ _ _ _ us hl => match us, hl with | [_, _, _], _ => rfl))
theorem sc__law_lone : FnScope ["_law_p", "_law_points_here", "_law_k", "_law_roots", "_law_worth", "_law_m", "_law_told", "_law_number"] ["_law_p", "_law_points_here", "_law_k"] (defScope (top 64)) := ⟨rfl, rfl, rfl, by decide +kernel, rfl, by decide +kernel, by decide +kernel⟩
theorem cal__law_lone (T : Fs tb K mg) : Cal P w ⟨K, mg, none⟩ base false 6 (He.ga K "_law_lone") 3 F__law_lone [] := by
  obtain ⟨fd, D⟩ : ∃ fd, FunD K "_law_lone" "_law_lone" (defArgs (top 64)) (defBody (top 64)) (defScope (top 64)) [] [] (He.ga K "_law_lone") fd := T.says.def_ 51 rfl
  exact cal_of D (ok_def (N := ["_law_p", "_law_points_here", "_law_k", "_law_roots", "_law_worth", "_law_m", "_law_told", "_law_number"]) (ps := ["_law_p", "_law_points_here", "_law_k"]) (k := 5) (c := ⟨K, mg, none⟩) D sc__law_lone (fun cdv A outer s H E hr => (ds_cons (sSN 3 sc__law_lone.nd (dn_lst da_nil))
      (ds_cons (sS 4 sc__law_lone.nd (cc_call (cal__law_num T) (hr.mono (by decide)) (T.gl 34 "_law_num" rfl) (fun σ => passAt (takes_of rfl rfl rfl rfl) σ) (xG 0 (dg_cons dx_i dg_nil))))
      (ds_cons (ds_for (vs := [5]) (gg := (gName 5)) (bind := (bNm 5)) (passes_of rfl) rfl (bd_nm (by decide)) (di_rg1 (by rfl) (T.fr 8 "range" rfl) (da_cons (dx_bi (c_len rfl) k_len (by rfl) (T.fr 5 "len" rfl) PySem.boot_len (da_cons (xv 1) da_nil)) da_nil)) (gN 5 sc__law_lone.nd) (ds_one (ds_if (PW.pt (dw_and (dt_cmp (c_neD hr.units rfl) d_ne (xv 5) (xv 2)) (dw_and1 (dt_cmp (c_neD hr.units rfl) d_ne (dx_ix (xv 1) (xv 5)) dx_s)))) (ds_cons (ds_app (xP 3) (dn_of (dx_ix (xv 1) (xv 5))))
      (ds_one (ds_if (dt_cmp (c_neD hr.units rfl) d_ne (dx_ix (xv 1) (xv 2)) dx_s) (ds_one (sS 4 sc__law_lone.nd (cc_call (cal__law_times T) (hr.mono (by decide)) (T.gl 36 "_law_times" rfl) (fun σ => passAt (takes_of rfl rfl rfl rfl) σ) (xG 0 (xG 4 (dg_cons (cc_call (cal__law_less T) (hr.mono (by decide)) (T.gl 37 "_law_less" rfl) (fun σ => passAt (takes_of rfl rfl rfl rfl) σ) (xG 0 (dg_cons (dx_ix (xv 1) (xv 2)) (dg_cons (dx_ix (xv 1) (xv 5)) dg_nil)))) dg_nil)))))) ds_nil))) ds_nil)))
      (ds_cons (ds_frz 3 (ds_setLcF (i := 6) (own := [("_law_number", 7)]) (g := (gName 7)) (bind := (bNm 7)) rfl sc__law_lone.nd rfl rfl (sw_true rfl rfl rfl (by decide +kernel)) (di_seq (cc_call (cal__law_rooted T) (hr.mono (by decide)) (T.gl 40 "_law_rooted" rfl) (fun σ => passAt (takes_of rfl rfl rfl rfl) σ) (xG 0 (xG 3 dg_nil)))) (blkOk_by (own := [("_law_number", 7)]) (N := ["_law_p", "_law_points_here", "_law_k", "_law_roots", "_law_worth", "_law_m", "_law_told", "_law_number"]) (sc := defScope (top 64)) (by decide +kernel)) (bd_nm (by decide)) (fun _ _ _ _ _ => (gN 7 sc__law_lone.nd)) (fun _ _ _ _ _ => pts_no) (fun _ _ _ _ _ => (cc_call (cal__law_over T) (hr.mono (by decide)) (T.gl 38 "_law_over" rfl) passF (xG 0 (xG 7 (xG 4 dg_nil)))))))
      (ds_one (ds_ret (dx_fz (dn_plus (xv 6) (dx_fz (dn_times (dx_fz (dn_lst (da_cons (cc_call (cal__law_num T) (hr.mono (by decide)) (T.gl 34 "_law_num" rfl) (fun σ => passAt (takes_of rfl rfl rfl rfl) σ) (xG 0 (dg_cons dx_i dg_nil))) da_nil))) (dx_op op_sub d_sub (dx_bi (c_len rfl) k_len (by rfl) (T.fr 5 "len" rfl) PySem.boot_len (da_cons (xv 1) da_nil)) (dx_bi (c_len rfl) k_len (by rfl) (T.fr 5 "len" rfl) PySem.boot_len (da_cons (xv 6) da_nil))))))))))))))) (FunD.bindsN D (fun _ _ _ _ _ _ us hl => match us, hl with | [_, _, _], _ => rfl))
theorem sc__law_first_points : FnScope ["_law_p", "_law_many", "_law_k"] ["_law_p", "_law_many"] (defScope (top 65)) := ⟨rfl, rfl, rfl, by decide +kernel, rfl, by decide +kernel, by decide +kernel⟩
theorem cal__law_first_points (T : Fs tb K mg) : Cal P w ⟨K, mg, none⟩ base false 2 (He.ga K "_law_first_points") 2 F__law_first_points [] := by
  obtain ⟨fd, D⟩ : ∃ fd, FunD K "_law_first_points" "_law_first_points" (defArgs (top 65)) (defBody (top 65)) (defScope (top 65)) [] [] (He.ga K "_law_first_points") fd := T.says.def_ 52 rfl
  exact cal_of D (ok_def (N := ["_law_p", "_law_many", "_law_k"]) (ps := ["_law_p", "_law_many"]) (k := 1) (c := ⟨K, mg, none⟩) D sc__law_first_points (fun cdv A outer s H E hr => (ds_one (ds_ret (dx_fz (dn_lc (own := [("_law_k", 2)]) (g := (gName 2)) (bind := (bNm 2)) rfl sc__law_first_points.nd (di_rg1 (by rfl) (T.fr 8 "range" rfl) (da_cons (xv 1) da_nil)) (blkOk_by (own := [("_law_k", 2)]) (N := ["_law_p", "_law_many", "_law_k"]) (sc := defScope (top 65)) (by decide +kernel)) (bd_nm (by decide)) (fun _ _ _ _ _ => (gN 2 sc__law_first_points.nd)) (fun _ _ _ _ _ => pts_no) (fun _ _ _ _ _ => (dx_if (PW.pt (dw_or (dt_cmp (c_eqD hr.units rfl) d_eq (xv 0) dx_i) (dw_or1 (dt_cmp op_lt d_lt (xv 2) (xv 0))))) (cc_call (cal__law_num T) (hr.mono (by decide)) (T.gl 34 "_law_num" rfl) passF (xG 0 (xG 2 dg_nil))) dx_s)))))))) (FunD.bindsN D (fun _ _ _ _ _ _ us hl => match us, hl with | [_, _], _ => rfl))
theorem sc__law_numbers : FnScope ["_law_p", "_law_numbers_here", "_law_many", "_law_number"] ["_law_p", "_law_numbers_here", "_law_many"] (defScope (top 66)) := ⟨rfl, rfl, rfl, by decide +kernel, rfl, by decide +kernel, by decide +kernel⟩
theorem cal__law_numbers (T : Fs tb K mg) : Cal P w ⟨K, mg, none⟩ base false 2 (He.ga K "_law_numbers") 3 F__law_numbers [] := by
  obtain ⟨fd, D⟩ : ∃ fd, FunD K "_law_numbers" "_law_numbers" (defArgs (top 66)) (defBody (top 66)) (defScope (top 66)) [] [] (He.ga K "_law_numbers") fd := T.says.def_ 53 rfl
  exact cal_of D (ok_def (N := ["_law_p", "_law_numbers_here", "_law_many", "_law_number"]) (ps := ["_law_p", "_law_numbers_here", "_law_many"]) (k := 1) (c := ⟨K, mg, none⟩) D sc__law_numbers (fun cdv A outer s H E hr => (ds_cons (ds_if (PW.pt (dw_or (dt_not (dt_tru rfl (dx_is T.gt (by decide) (by rfl) (T.fr 4 "isinstance" rfl) (xv 1) (pe_bltn (v := .ty "tuple") (by rfl) (T.fr 10 "tuple" rfl) (by decide +kernel) rfl)))) (dw_or1 (dt_cmp (c_neD hr.units rfl) d_ne (dx_bi (c_len rfl) k_len (by rfl) (T.fr 5 "len" rfl) PySem.boot_len (da_cons (xv 1) da_nil)) (xv 2))))) (ds_one (ds_ret dx_b)) ds_nil)
      (ds_cons (ds_for (vs := [3]) (gg := (gName 3)) (bind := (bNm 3)) (passes_of rfl) rfl (bd_nm (by decide)) (di_seq (xv 1)) (gN 3 sc__law_numbers.nd) (ds_one (ds_if (dt_cmp op_gt d_gt (xv 0) dx_i) (ds_one (ds_if (PW.pt (dw_or (dt_not (dt_tru rfl (dx_is T.gt (by decide) (by rfl) (T.fr 4 "isinstance" rfl) (xv 3) (pe_bltn (v := .ty "int") (by rfl) (T.fr 3 "int" rfl) (by decide +kernel) rfl)))) (dw_or (dt_tru rfl (dx_is T.gt (by decide) (by rfl) (T.fr 4 "isinstance" rfl) (xv 3) (pe_bltn (v := .ty "bool") (by rfl) (T.fr 1 "bool" rfl) (by decide +kernel) rfl))) (dw_or1 (dt_not (dt_ch op_le op_lt d_le d_lt dx_i (xv 3) (xv 0))))))) (ds_one (ds_ret dx_b)) ds_nil)) (ds_one (ds_if (PW.pt (dw_or (dt_not (dt_tru rfl (dx_is T.gt (by decide) (by rfl) (T.fr 4 "isinstance" rfl) (xv 3) (pe_bltn (v := .ty "tuple") (by rfl) (T.fr 10 "tuple" rfl) (by decide +kernel) rfl)))) (dw_or1 (dt_cmp (c_neD hr.units rfl) d_ne (dx_bi (c_len rfl) k_len (by rfl) (T.fr 5 "len" rfl) PySem.boot_len (da_cons (xv 3) da_nil)) dx_i)))) (ds_one (ds_ret dx_b)) (ds_one (ds_if (PW.pt (dw_or (dt_not (dt_tru rfl (dx_is T.gt (by decide) (by rfl) (T.fr 4 "isinstance" rfl) (dx_ix (xv 3) dx_i) (pe_bltn (v := .ty "int") (by rfl) (T.fr 3 "int" rfl) (by decide +kernel) rfl)))) (dw_or (dt_not (dt_tru rfl (dx_is T.gt (by decide) (by rfl) (T.fr 4 "isinstance" rfl) (dx_ix (xv 3) dx_i) (pe_bltn (v := .ty "int") (by rfl) (T.fr 3 "int" rfl) (by decide +kernel) rfl)))) (dw_or1 (dt_cmp op_lt d_lt (dx_ix (xv 3) dx_i) dx_i))))) (ds_one (ds_ret dx_b)) (ds_one (ds_if (PW.pt (dw_or (dt_tru rfl (dx_is T.gt (by decide) (by rfl) (T.fr 4 "isinstance" rfl) (dx_ix (xv 3) dx_i) (pe_bltn (v := .ty "bool") (by rfl) (T.fr 1 "bool" rfl) (by decide +kernel) rfl))) (dw_or (dt_tru rfl (dx_is T.gt (by decide) (by rfl) (T.fr 4 "isinstance" rfl) (dx_ix (xv 3) dx_i) (pe_bltn (v := .ty "bool") (by rfl) (T.fr 1 "bool" rfl) (by decide +kernel) rfl))) (dw_or1 (dt_cmp (c_neD hr.units rfl) d_ne (cc_call (cal__law_gcd T) (hr.mono (by decide)) (T.gl 32 "_law_gcd" rfl) (fun σ => passAt (takes_of rfl rfl rfl rfl) σ) (dg_cons (dx_ix (xv 3) dx_i) (dg_cons (dx_ix (xv 3) dx_i) dg_nil))) dx_i))))) (ds_one (ds_ret dx_b)) ds_nil)))))))))
      (ds_one (ds_ret dx_b)))))) (FunD.bindsN D (fun _ _ _ _ _ _ us hl => match us, hl with | [_, _, _], _ => rfl))
theorem sc__law_first_bad : FnScope ["_law_p", "_law_points_here", "_law_many", "_law_lets", "_law_k", "_law_point", "_law_good"] ["_law_p", "_law_points_here", "_law_many", "_law_lets"] (defScope (top 67)) := ⟨rfl, rfl, rfl, by decide +kernel, rfl, by decide +kernel, by decide +kernel⟩
theorem cal__law_first_bad (T : Fs tb K mg) : Cal P w ⟨K, mg, none⟩ base false 3 (He.ga K "_law_first_bad") 4 F__law_first_bad [] := by
  obtain ⟨fd, D⟩ : ∃ fd, FunD K "_law_first_bad" "_law_first_bad" (defArgs (top 67)) (defBody (top 67)) (defScope (top 67)) [] [] (He.ga K "_law_first_bad") fd := T.says.def_ 54 rfl
  exact cal_of D (ok_def (N := ["_law_p", "_law_points_here", "_law_many", "_law_lets", "_law_k", "_law_point", "_law_good"]) (ps := ["_law_p", "_law_points_here", "_law_many", "_law_lets"]) (k := 2) (c := ⟨K, mg, none⟩) D sc__law_first_bad (fun cdv A outer s H E hr => (ds_cons (ds_if (PW.pt (dw_or (dt_not (dt_tru rfl (dx_is2 T.gt (by decide) (by decide) (by rfl) (T.fr 4 "isinstance" rfl) (xv 1) (pe_bltn (v := .ty "list") (by rfl) (T.fr 6 "list" rfl) (by decide +kernel) rfl) (pe_bltn (v := .ty "tuple") (by rfl) (T.fr 10 "tuple" rfl) (by decide +kernel) rfl)))) (dw_or1 (dt_cmp (c_neD hr.units rfl) d_ne (dx_bi (c_len rfl) k_len (by rfl) (T.fr 5 "len" rfl) PySem.boot_len (da_cons (xv 1) da_nil)) (xv 2))))) (ds_one (ds_ret dx_i)) ds_nil)
      (ds_cons (ds_for (vs := [4]) (gg := (gName 4)) (bind := (bNm 4)) (passes_of rfl) rfl (bd_nm (by decide)) (di_rg1 (by rfl) (T.fr 8 "range" rfl) (da_cons (xv 2) da_nil)) (gN 4 sc__law_first_bad.nd) (ds_cons (sS 5 sc__law_first_bad.nd (dx_ix (xv 1) (xv 4)))
      (ds_cons (sS 6 sc__law_first_bad.nd (dx_if (dt_cmp (c_eqD hr.units rfl) d_eq (xv 5) dx_s) (xv 3) (dx_and (dx_not (dx_is T.gt (by decide) (by rfl) (T.fr 4 "isinstance" rfl) (xv 5) (pe_bltn (v := .ty "str") (by rfl) (T.fr 9 "str" rfl) (by decide +kernel) rfl))) (dx_one (cc_call (cal__law_numbers T) (hr.mono (by decide)) (T.gl 47 "_law_numbers" rfl) (fun σ => passAt (takes_of rfl rfl rfl rfl) σ) (xG 0 (dg_cons (dx_tup (da_cons (xv 5) da_nil)) (dg_cons dx_i dg_nil))))))))
      (ds_one (ds_if (PW.pt (dw_or (dt_not (dt_tru rfl (xv 6))) (dw_or1 (dt_cmp (c_inP hr.units65 rfl) d_inP (xv 5) (dx_fz (dn_sl (xv 1) do_no (do_e (xv 4)))))))) (ds_one (ds_ret (xv 4))) ds_nil)))))
      (ds_one (ds_ret dx_n)))))) (FunD.bindsN D (fun _ _ _ _ _ _ us hl => match us, hl with | [_, _, _, _], _ => rfl))
theorem sc__law_checking : FnScope ["_law_figures_here", "_law_points_here", "_law_many", "_law_lets", "e"] ["_law_figures_here", "_law_points_here", "_law_many", "_law_lets"] (defScope (top 68)) := ⟨rfl, rfl, rfl, by decide +kernel, rfl, by decide +kernel, by decide +kernel⟩
theorem cal__law_checking (T : Fs tb K mg) : Cal P w ⟨K, mg, none⟩ base false 6 (He.ga K "_law_checking") 4 F__law_checking [] := by
  obtain ⟨fd, D⟩ : ∃ fd, FunD K "_law_checking" "_law_checking" (defArgs (top 68)) (defBody (top 68)) (defScope (top 68)) [] [] (He.ga K "_law_checking") fd := T.says.def_ 55 rfl
  exact cal_of D (ok_def (N := ["_law_figures_here", "_law_points_here", "_law_many", "_law_lets", "e"]) (ps := ["_law_figures_here", "_law_points_here", "_law_many", "_law_lets"]) (k := 5) (c := ⟨K, mg, none⟩) D sc__law_checking (fun cdv A outer s H E hr => (ds_one (ds_try rfl rfl rfl sc__law_checking.nd (takes_of rfl rfl rfl rfl) (fun W pn xe tk po => (ds_cons (ds_if (dt_tru rfl (xv 3)) (ds_one (ds_ret (cc_call (cal_check_points_1 T) (hr.mono (by decide)) (T.gl 23 "check_points" rfl) (fun σ => passAt tk σ) (xG 0 (xG 1 (xG 2 dg_nil)))))) ds_nil)
      (ds_one (ds_ret (cc_call (cal_check_points_0 T) (hr.mono (by decide)) (T.gl 23 "check_points" rfl) (fun σ => passAt tk σ) (xG 0 (xG 1 (xG 2 (dg_cons dx_b dg_nil))))))))) (.cons (i := 4) (ms := (msOf [("DividedByNought", false), ("BadFigures", false), ("NotOnce", false), ("BadPoints", true), ("BadMany", false)])) (u := (sRet (eTup (eCons (eC (.str "bad")) (eCons (eXf ["BadPoints"] 4 "index") (eCons (eXi (msOf [("DividedByNought", true), ("BadFigures", true), ("NotOnce", true), ("BadPoints", true), ("BadMany", true)]) 4) eNil)))))) rfl rfl ⟨by rfl, by decide, Or.inl (T.gl 65 "BadPoints" rfl)⟩ (ms_ok (y := "BadPoints") T (by decide +kernel)) (fun a oe k dd pn hz hf => (ds_one (ds_ret (dx_tup (da_cons dx_s (da_cons (dx_xf (xf_ok T (by decide +kernel)) hz hf rfl (by first | exact Or.inl rfl | exact Or.inr (Or.inl rfl))) (da_cons (dx_xi ⟨T.gt.hn, T.gt.ht⟩ (xi_ok (y := "PairError") T (by decide +kernel)) hz hf rfl (by first | exact Or.inl rfl | exact Or.inr (Or.inl rfl)) (by rfl) (T.fr 4 "isinstance" rfl) (by rfl) (T.gl 61 "PairError" rfl)) da_nil))))))) .nil))))) (FunD.bindsN D (fun _ _ _ _ _ _ us hl => match us, hl with | [_, _, _, _], _ => rfl))
theorem sc__law_count : FnScope ["_law_figures_here", "_law_many", "e"] ["_law_figures_here", "_law_many"] (defScope (top 69)) := ⟨rfl, rfl, rfl, by decide +kernel, rfl, by decide +kernel, by decide +kernel⟩
theorem cal__law_count (T : Fs tb K mg) : Cal P w ⟨K, mg, none⟩ base false 4 (He.ga K "_law_count") 2 F__law_count [] := by
  obtain ⟨fd, D⟩ : ∃ fd, FunD K "_law_count" "_law_count" (defArgs (top 69)) (defBody (top 69)) (defScope (top 69)) [] [] (He.ga K "_law_count") fd := T.says.def_ 56 rfl
  exact cal_of D (ok_def (N := ["_law_figures_here", "_law_many", "e"]) (ps := ["_law_figures_here", "_law_many"]) (k := 3) (c := ⟨K, mg, none⟩) D sc__law_count (fun cdv A outer s H E hr => (ds_one (ds_try rfl rfl rfl sc__law_count.nd (takes_of rfl rfl rfl rfl) (fun W pn xe tk po => (ds_one (ds_ret (cc_call (cal_points_for T) (hr.mono (by decide)) (T.gl 22 "points_for" rfl) (fun σ => passAt tk σ) (xG 0 (xG 1 dg_nil)))))) (.cons (i := 2) (ms := (msOf [("DividedByNought", false), ("BadFigures", false), ("NotOnce", false), ("BadPoints", false), ("BadMany", true)])) (u := (sRet (eTup (eCons (eC (.str "many")) (eCons (eXf ["BadMany"] 2 "most") (eCons (eXi (msOf [("DividedByNought", true), ("BadFigures", true), ("NotOnce", true), ("BadPoints", true), ("BadMany", true)]) 2) eNil)))))) rfl rfl ⟨by rfl, by decide, Or.inl (T.gl 66 "BadMany" rfl)⟩ (ms_ok (y := "BadMany") T (by decide +kernel)) (fun a oe k dd pn hz hf => (ds_one (ds_ret (dx_tup (da_cons dx_s (da_cons (dx_xf (xf_ok T (by decide +kernel)) hz hf rfl (by first | exact Or.inl rfl | exact Or.inr (Or.inl rfl))) (da_cons (dx_xi ⟨T.gt.hn, T.gt.ht⟩ (xi_ok (y := "PairError") T (by decide +kernel)) hz hf rfl (by first | exact Or.inl rfl | exact Or.inr (Or.inl rfl)) (by rfl) (T.fr 4 "isinstance" rfl) (by rfl) (T.gl 61 "PairError" rfl)) da_nil))))))) .nil))))) (FunD.bindsN D (fun _ _ _ _ _ _ us hl => match us, hl with | [_, _], _ => rfl))
theorem sc__law_one_row : FnScope ["_law_figures_here", "_law_point", "_law_size", "e"] ["_law_figures_here", "_law_point", "_law_size"] (defScope (top 70)) := ⟨rfl, rfl, rfl, by decide +kernel, rfl, by decide +kernel, by decide +kernel⟩
theorem cal__law_one_row (T : Fs tb K mg) : Cal P w ⟨K, mg, none⟩ base false 6 (He.ga K "_law_one_row") 3 F__law_one_row [] := by
  obtain ⟨fd, D⟩ : ∃ fd, FunD K "_law_one_row" "_law_one_row" (defArgs (top 70)) (defBody (top 70)) (defScope (top 70)) [] [] (He.ga K "_law_one_row") fd := T.says.def_ 57 rfl
  exact cal_of D (ok_def (N := ["_law_figures_here", "_law_point", "_law_size", "e"]) (ps := ["_law_figures_here", "_law_point", "_law_size"]) (k := 5) (c := ⟨K, mg, none⟩) D sc__law_one_row (fun cdv A outer s H E hr => (ds_one (ds_try rfl rfl rfl sc__law_one_row.nd (takes_of rfl rfl rfl rfl) (fun W pn xe tk po => (ds_one (ds_ret (cc_call (cal_power_row T) (hr.mono (by decide)) (T.gl 25 "power_row" rfl) (fun σ => passAt tk σ) (xG 0 (xG 1 (xG 2 dg_nil))))))) (.cons (i := 3) (ms := (msOf [("DividedByNought", false), ("BadFigures", false), ("NotOnce", false), ("BadPoints", true), ("BadMany", false)])) (u := (sRet (eTup (eCons (eC (.str "bad")) (eCons (eXf ["BadPoints"] 3 "index") (eCons (eC (.bl true)) eNil)))))) rfl rfl ⟨by rfl, by decide, Or.inl (T.gl 65 "BadPoints" rfl)⟩ (ms_ok (y := "BadPoints") T (by decide +kernel)) (fun a oe k dd pn hz hf => (ds_one (ds_ret (dx_tup (da_cons dx_s (da_cons (dx_xf (xf_ok T (by decide +kernel)) hz hf rfl (by first | exact Or.inl rfl | exact Or.inr (Or.inl rfl))) (da_cons dx_b da_nil))))))) (.cons (i := 3) (ms := (msOf [("DividedByNought", false), ("BadFigures", false), ("NotOnce", false), ("BadPoints", false), ("BadMany", true)])) (u := (sRet (eTup (eCons (eC (.str "many")) (eCons (eXf ["BadMany"] 3 "most") (eCons (eC (.bl true)) eNil)))))) rfl rfl ⟨by rfl, by decide, Or.inl (T.gl 66 "BadMany" rfl)⟩ (ms_ok (y := "BadMany") T (by decide +kernel)) (fun a oe k dd pn hz hf => (ds_one (ds_ret (dx_tup (da_cons dx_s (da_cons (dx_xf (xf_ok T (by decide +kernel)) hz hf rfl (by first | exact Or.inl rfl | exact Or.inr (Or.inl rfl))) (da_cons dx_b da_nil))))))) .nil)))))) (FunD.bindsN D (fun _ _ _ _ _ _ us hl => match us, hl with | [_, _, _], _ => rfl))
theorem sc__law_two_tables : FnScope ["_law_figures_here", "_law_points_here", "_law_told", "e"] ["_law_figures_here", "_law_points_here"] (defScope (top 71)) := ⟨rfl, rfl, rfl, by decide +kernel, rfl, by decide +kernel, by decide +kernel⟩
theorem cal__law_two_tables (T : Fs tb K mg) : Cal P w ⟨K, mg, none⟩ base false 9 (He.ga K "_law_two_tables") 2 F__law_two_tables [] := by
  obtain ⟨fd, D⟩ : ∃ fd, FunD K "_law_two_tables" "_law_two_tables" (defArgs (top 71)) (defBody (top 71)) (defScope (top 71)) [] [] (He.ga K "_law_two_tables") fd := T.says.def_ 58 rfl
  exact cal_of D (ok_def (N := ["_law_figures_here", "_law_points_here", "_law_told", "e"]) (ps := ["_law_figures_here", "_law_points_here"]) (k := 8) (c := ⟨K, mg, none⟩) D sc__law_two_tables (fun cdv A outer s H E hr => (ds_cons (sSN 2 sc__law_two_tables.nd (dn_lst da_nil))
      (ds_cons (ds_try rfl rfl rfl sc__law_two_tables.nd (takes_of rfl rfl rfl rfl) (fun W pn xe tk po => (ds_one (ds_app (xP 2) (dn_of (cc_call (cal_power_table T) (hr.mono (by decide)) (T.gl 26 "power_table" rfl) (fun σ => passAt tk σ) (xG 0 (xG 1 dg_nil))))))) (.cons (i := 3) (ms := (msOf [("DividedByNought", false), ("BadFigures", false), ("NotOnce", false), ("BadPoints", true), ("BadMany", false)])) (u := (sApp (pV 2) (eTup (eCons (eC (.str "bad")) (eCons (eXf ["BadPoints"] 3 "index") (eCons (eC (.bl true)) eNil)))))) rfl rfl ⟨by rfl, by decide, Or.inl (T.gl 65 "BadPoints" rfl)⟩ (ms_ok (y := "BadPoints") T (by decide +kernel)) (fun a oe k dd pn hz hf => (ds_one (ds_app (xP 2) (dn_of (dx_tup (da_cons dx_s (da_cons (dx_xf (xf_ok T (by decide +kernel)) hz hf rfl (by first | exact Or.inl rfl | exact Or.inr (Or.inl rfl))) (da_cons dx_b da_nil)))))))) .nil))
      (ds_cons (ds_try rfl rfl rfl sc__law_two_tables.nd (takes_of rfl rfl rfl rfl) (fun W pn xe tk po => (ds_one (ds_app (xP 2) (dn_of (cc_call (cal_undone_powers T) (hr.mono (by decide)) (T.gl 27 "undone_powers" rfl) (fun σ => passAt tk σ) (xG 0 (xG 1 dg_nil))))))) (.cons (i := 3) (ms := (msOf [("DividedByNought", false), ("BadFigures", false), ("NotOnce", false), ("BadPoints", true), ("BadMany", false)])) (u := (sApp (pV 2) (eTup (eCons (eC (.str "bad")) (eCons (eXf ["BadPoints"] 3 "index") (eCons (eC (.bl true)) eNil)))))) rfl rfl ⟨by rfl, by decide, Or.inl (T.gl 65 "BadPoints" rfl)⟩ (ms_ok (y := "BadPoints") T (by decide +kernel)) (fun a oe k dd pn hz hf => (ds_one (ds_app (xP 2) (dn_of (dx_tup (da_cons dx_s (da_cons (dx_xf (xf_ok T (by decide +kernel)) hz hf rfl (by first | exact Or.inl rfl | exact Or.inr (Or.inl rfl))) (da_cons dx_b da_nil)))))))) .nil))
      (ds_one (ds_frz 2 (ds_ret (xv 2))))))))) (FunD.bindsN D (fun _ _ _ _ _ _ us hl => match us, hl with | [_, _], _ => rfl))
theorem sc__law_no_point : FnScope ["_law_hand_here", "_law_p", "_law_things"] ["_law_hand_here", "_law_p"] (defScope (top 72)) := ⟨rfl, rfl, rfl, by decide +kernel, rfl, by decide +kernel, by decide +kernel⟩
theorem cal__law_no_point (T : Fs tb K mg) : Cal P w ⟨K, mg, none⟩ base false 3 (He.ga K "_law_no_point") 2 F__law_no_point [] := by
  obtain ⟨fd, D⟩ : ∃ fd, FunD K "_law_no_point" "_law_no_point" (defArgs (top 72)) (defBody (top 72)) (defScope (top 72)) [] [] (He.ga K "_law_no_point") fd := T.says.def_ 59 rfl
  exact cal_of D (ok_def (N := ["_law_hand_here", "_law_p", "_law_things"]) (ps := ["_law_hand_here", "_law_p"]) (k := 2) (c := ⟨K, mg, none⟩) D sc__law_no_point (fun cdv A outer s H E hr => (ds_cons (sS 2 sc__law_no_point.nd (dx_fz (dn_if (dt_cmp (c_eqD hr.units rfl) d_eq (xv 1) dx_i) (dn_lst (da_cons dx_b (da_cons dx_n (da_cons dx_s (da_cons dx_s (da_cons (dx_neg dx_i) (da_cons (dx_fz (dn_lst (da_cons dx_i (da_cons dx_i da_nil)))) (da_cons (xv 1) (da_cons dx_i da_nil))))))))) (dn_lst (da_cons dx_b (da_cons dx_n (da_cons dx_s (da_cons dx_s (da_cons (dx_neg dx_i) (da_cons (dx_tup (da_cons dx_i (da_cons dx_i da_nil))) (da_cons (xv 1) (da_cons (dx_op op_add d_add (xv 1) dx_i) da_nil))))))))))))
      (ds_one (ds_ret (dx_ix (xv 2) (cc_call (cal__law_take T) (hr.mono (by decide)) (T.gl 31 "_law_take" rfl) (fun σ => passAt (takes_of rfl rfl rfl rfl) σ) (xG 0 (dg_cons dx_i dg_nil))))))))) (FunD.bindsN D (fun _ _ _ _ _ _ us hl => match us, hl with | [_, _], _ => rfl))
theorem sc__law_spoilt : FnScope ["_law_hand_here", "_law_p", "_law_points_here", "_law_told", "_law_way", "_law_at"] ["_law_hand_here", "_law_p", "_law_points_here"] (defScope (top 73)) := ⟨rfl, rfl, rfl, by decide +kernel, rfl, by decide +kernel, by decide +kernel⟩
theorem cal__law_spoilt (T : Fs tb K mg) : Cal P w ⟨K, mg, none⟩ base false 4 (He.ga K "_law_spoilt") 3 F__law_spoilt [] := by
  obtain ⟨fd, D⟩ : ∃ fd, FunD K "_law_spoilt" "_law_spoilt" (defArgs (top 73)) (defBody (top 73)) (defScope (top 73)) [] [] (He.ga K "_law_spoilt") fd := T.says.def_ 60 rfl
  exact cal_of D (ok_def (N := ["_law_hand_here", "_law_p", "_law_points_here", "_law_told", "_law_way", "_law_at"]) (ps := ["_law_hand_here", "_law_p", "_law_points_here"]) (k := 3) (c := ⟨K, mg, none⟩) D sc__law_spoilt (fun cdv A outer s H E hr => (ds_cons (sSN 3 sc__law_spoilt.nd (dn_ty (c_list rfl) k_list (by rfl) (T.fr 6 "list" rfl) (by decide +kernel) (da_cons (xv 2) da_nil)))
      (ds_cons (sS 4 sc__law_spoilt.nd (cc_call (cal__law_take T) (hr.mono (by decide)) (T.gl 31 "_law_take" rfl) (fun σ => passAt (takes_of rfl rfl rfl rfl) σ) (xG 0 (dg_cons dx_i dg_nil))))
      (ds_cons (sS 5 sc__law_spoilt.nd (cc_call (cal__law_take T) (hr.mono (by decide)) (T.gl 31 "_law_take" rfl) (fun σ => passAt (takes_of rfl rfl rfl rfl) σ) (xG 0 (dg_cons (dx_lenP (by rfl) (T.fr 5 "len" rfl) (xP 3)) dg_nil))))
      (ds_cons (ds_if (dt_cmp op_lt d_lt (xv 4) dx_i) (ds_one (ds_st (cc_call (cal__law_no_point T) (hr.mono (by decide)) (T.gl 53 "_law_no_point" rfl) (fun σ => passAt (takes_of rfl rfl rfl rfl) σ) (xG 0 (xG 1 dg_nil))) (xP 3) (xv 5))) (ds_one (ds_if (PW.pt (dw_and (dt_cmp (c_eqD hr.units rfl) d_eq (xv 4) dx_i) (dw_and1 (dt_cmp op_gt d_gt (xv 5) dx_i)))) (ds_one (ds_st (dx_pl (dp_ix (xP 3) (cc_call (cal__law_take T) (hr.mono (by decide)) (T.gl 31 "_law_take" rfl) (fun σ => passAt (takes_of rfl rfl rfl rfl) σ) (xG 0 (xG 5 dg_nil))))) (xP 3) (xv 5))) (ds_one (ds_if (dt_cmp (c_eqD hr.units rfl) d_eq (xv 4) dx_i) (ds_one (ds_st dx_s (xP 3) (xv 5))) ds_nil)))))
      (ds_cons (ds_if (dt_cmp (c_eqD hr.units rfl) d_eq (cc_call (cal__law_take T) (hr.mono (by decide)) (T.gl 31 "_law_take" rfl) (fun σ => passAt (takes_of rfl rfl rfl rfl) σ) (xG 0 (dg_cons dx_i dg_nil))) dx_i) (ds_one (ds_st (cc_call (cal__law_no_point T) (hr.mono (by decide)) (T.gl 53 "_law_no_point" rfl) (fun σ => passAt (takes_of rfl rfl rfl rfl) σ) (xG 0 (xG 1 dg_nil))) (xP 3) (cc_call (cal__law_take T) (hr.mono (by decide)) (T.gl 31 "_law_take" rfl) (fun σ => passAt (takes_of rfl rfl rfl rfl) σ) (xG 0 (dg_cons (dx_lenP (by rfl) (T.fr 5 "len" rfl) (xP 3)) dg_nil))))) ds_nil)
      (ds_one (ds_frz 3 (ds_ret (xv 3))))))))))) (FunD.bindsN D (fun _ _ _ _ _ _ us hl => match us, hl with | [_, _, _], _ => rfl))
end
end N16
namespace N16
open PySem PySem.Spec PyProof.Rows L2 Fw Pd
section
variable {P : Program} {w : World} {K : PySem.W.Frag} {mg : Str → Option Value} {base : Heap}
theorem sc__law_counts : FnScope ["_law_hand_here", "_law_p", "_law_figures_here", "_law_most", "_law_many", "_law_told", "_law_odd"] ["_law_hand_here", "_law_p", "_law_figures_here", "_law_most"] (defScope (top 74)) := ⟨rfl, rfl, rfl, by decide +kernel, rfl, by decide +kernel, by decide +kernel⟩
theorem cal__law_counts (T : Fs tb K mg) : Cal P w ⟨K, mg, none⟩ base false 7 (He.ga K "_law_counts") 4 F__law_counts [] := by
  obtain ⟨fd, D⟩ : ∃ fd, FunD K "_law_counts" "_law_counts" (defArgs (top 74)) (defBody (top 74)) (defScope (top 74)) [] [] (He.ga K "_law_counts") fd := T.says.def_ 61 rfl
  exact cal_of D (ok_def (N := ["_law_hand_here", "_law_p", "_law_figures_here", "_law_most", "_law_many", "_law_told", "_law_odd"]) (ps := ["_law_hand_here", "_law_p", "_law_figures_here", "_law_most"]) (k := 6) (c := ⟨K, mg, none⟩) D sc__law_counts (fun cdv A outer s H E hr => (ds_cons (ds_for (vs := [4]) (gg := (gName 4)) (bind := (bNm 4)) (passes_of rfl) rfl (bd_nm (by decide)) (di_rg2 (by rfl) (T.fr 8 "range" rfl) (da_cons (dx_neg dx_i) (da_cons (dx_op op_add d_add (xv 3) dx_i) da_nil))) (gN 4 sc__law_counts.nd) (ds_cons (sS 5 sc__law_counts.nd (cc_call (cal__law_count T) (hr.mono (by decide)) (T.gl 50 "_law_count" rfl) (fun σ => passAt (takes_of rfl rfl rfl rfl) σ) (xG 2 (xG 4 dg_nil))))
      (ds_one (ds_if (dt_not (dt_ch op_le op_le d_le d_le dx_i (xv 4) (xv 3))) (ds_one (ds_if (dt_cmp (c_neD hr.units rfl) d_ne (xv 5) (dx_tup (da_cons dx_s (da_cons (xv 3) (da_cons dx_b da_nil))))) (ds_one (ds_ret dx_b)) ds_nil)) (ds_one (ds_if (dt_not (dt_tru rfl (cc_call (cal__law_exact T 5) (hr.mono (by decide)) (T.gl 41 "_law_exact" rfl) (fun σ => passAt (takes_of rfl rfl rfl rfl) σ) (xG 5 (dg_cons (dx_ty (c_tup rfl) k_tup (by rfl) (T.fr 10 "tuple" rfl) PyProof.Rows.boot_tuple (da_cons (cc_call (cal__law_first_points T) (hr.mono (by decide)) (T.gl 46 "_law_first_points" rfl) (fun σ => passAt (takes_of rfl rfl rfl rfl) σ) (xG 1 (xG 4 dg_nil))) da_nil)) dg_nil))))) (ds_one (ds_ret dx_b)) ds_nil))))))
      (ds_cons (sS 6 sc__law_counts.nd (dx_ix (dx_tup (da_cons dx_b (da_cons dx_n (da_cons dx_s (da_cons (dx_tup (da_cons dx_i (da_cons dx_i da_nil))) (da_cons (dx_op op_pow d_pow dx_i dx_i) da_nil)))))) (cc_call (cal__law_take T) (hr.mono (by decide)) (T.gl 31 "_law_take" rfl) (fun σ => passAt (takes_of rfl rfl rfl rfl) σ) (xG 0 (dg_cons dx_i dg_nil)))))
      (ds_one (ds_ret (dx_cmp (c_eqD hr.units rfl) d_eq (cc_call (cal__law_count T) (hr.mono (by decide)) (T.gl 50 "_law_count" rfl) (fun σ => passAt (takes_of rfl rfl rfl rfl) σ) (xG 2 (xG 6 dg_nil))) (dx_tup (da_cons dx_s (da_cons (xv 3) (da_cons dx_b da_nil))))))))))) (FunD.bindsN D (fun _ _ _ _ _ _ us hl => match us, hl with | [_, _, _, _], _ => rfl))
theorem sc__law_checks : FnScope ["_law_hand_here", "_law_p", "_law_figures_here", "_law_points_here", "_law_turn", "_law_lets", "_law_given", "_law_many", "_law_passed", "_law_due", "_law_told"] ["_law_hand_here", "_law_p", "_law_figures_here", "_law_points_here"] (defScope (top 75)) := ⟨rfl, rfl, rfl, by decide +kernel, rfl, by decide +kernel, by decide +kernel⟩
theorem cal__law_checks (T : Fs tb K mg) : Cal P w ⟨K, mg, none⟩ base false 7 (He.ga K "_law_checks") 4 F__law_checks [] := by
  obtain ⟨fd, D⟩ : ∃ fd, FunD K "_law_checks" "_law_checks" (defArgs (top 75)) (defBody (top 75)) (defScope (top 75)) [] [] (He.ga K "_law_checks") fd := T.says.def_ 62 rfl
  exact cal_of D (ok_def (N := ["_law_hand_here", "_law_p", "_law_figures_here", "_law_points_here", "_law_turn", "_law_lets", "_law_given", "_law_many", "_law_passed", "_law_due", "_law_told"]) (ps := ["_law_hand_here", "_law_p", "_law_figures_here", "_law_points_here"]) (k := 6) (c := ⟨K, mg, none⟩) D sc__law_checks (fun cdv A outer s H E hr => (ds_cons (ds_for (vs := [4]) (gg := (gName 4)) (bind := (bNm 4)) (passes_of rfl) rfl (bd_nm (by decide)) (di_rg1 (by rfl) (T.fr 8 "range" rfl) (da_cons dx_i da_nil)) (gN 4 sc__law_checks.nd) (ds_cons (sS 5 sc__law_checks.nd (dx_cmp (c_eqD hr.units rfl) d_eq (cc_call (cal__law_take T) (hr.mono (by decide)) (T.gl 31 "_law_take" rfl) (fun σ => passAt (takes_of rfl rfl rfl rfl) σ) (xG 0 (dg_cons dx_i dg_nil))) dx_i))
      (ds_cons (sS 6 sc__law_checks.nd (dx_fz (dn_if (dt_cmp (c_eqD hr.units rfl) d_eq (xv 4) dx_i) (dn_ty (c_list rfl) k_list (by rfl) (T.fr 6 "list" rfl) (by decide +kernel) (da_cons (xv 3) da_nil)) (dn_of (cc_call (cal__law_spoilt T) (hr.mono (by decide)) (T.gl 54 "_law_spoilt" rfl) (fun σ => passAt (takes_of rfl rfl rfl rfl) σ) (xG 0 (xG 1 (xG 3 dg_nil))))))))
      (ds_cons (sS 7 sc__law_checks.nd (dx_op op_add d_add (dx_bi (c_len rfl) k_len (by rfl) (T.fr 5 "len" rfl) PySem.boot_len (da_cons (xv 6) da_nil)) (dx_ix (dx_tup (da_cons dx_i (da_cons dx_i (da_cons dx_i (da_cons dx_i (da_cons (dx_neg dx_i) da_nil)))))) (cc_call (cal__law_take T) (hr.mono (by decide)) (T.gl 31 "_law_take" rfl) (fun σ => passAt (takes_of rfl rfl rfl rfl) σ) (xG 0 (dg_cons dx_i dg_nil))))))
      (ds_cons (sS 8 sc__law_checks.nd (cc_call (cal__law_list T) (hr.mono (by decide)) (T.gl 42 "_law_list" rfl) (fun σ => passAt (takes_of rfl rfl rfl rfl) σ) (xG 0 (xG 6 dg_nil))))
      (ds_cons (ds_if (PW.pt (dw_and (dt_cmp (c_eqD hr.units rfl) d_eq (xv 4) dx_i) (dw_and1 (dt_cmp (c_eqD hr.units rfl) d_eq (cc_call (cal__law_take T) (hr.mono (by decide)) (T.gl 31 "_law_take" rfl) (fun σ => passAt (takes_of rfl rfl rfl rfl) σ) (xG 0 (dg_cons dx_i dg_nil))) dx_i)))) (ds_one (sS 8 sc__law_checks.nd (dx_ix (dx_tup (da_cons dx_n (da_cons dx_s (da_cons dx_i da_nil)))) (cc_call (cal__law_take T) (hr.mono (by decide)) (T.gl 31 "_law_take" rfl) (fun σ => passAt (takes_of rfl rfl rfl rfl) σ) (xG 0 (dg_cons dx_i dg_nil)))))) ds_nil)
      (ds_cons (sS 9 sc__law_checks.nd (cc_call (cal__law_first_bad T) (hr.mono (by decide)) (T.gl 48 "_law_first_bad" rfl) (fun σ => passAt (takes_of rfl rfl rfl rfl) σ) (xG 1 (xG 8 (xG 7 (xG 5 dg_nil))))))
      (ds_cons (sS 10 sc__law_checks.nd (cc_call (cal__law_checking T) (hr.mono (by decide)) (T.gl 49 "_law_checking" rfl) (fun σ => passAt (takes_of rfl rfl rfl rfl) σ) (xG 2 (xG 8 (xG 7 (xG 5 dg_nil))))))
      (ds_one (ds_if (dt_cmp op_notN d_notN (xv 9) dx_n) (ds_one (ds_if (dt_cmp (c_neD hr.units rfl) d_ne (xv 10) (dx_tup (da_cons dx_s (da_cons (xv 9) (da_cons dx_b da_nil))))) (ds_one (ds_ret dx_b)) ds_nil)) (ds_one (ds_if (dt_not (dt_tru rfl (cc_call (cal__law_exact T 5) (hr.mono (by decide)) (T.gl 41 "_law_exact" rfl) (fun σ => passAt (takes_of rfl rfl rfl rfl) σ) (xG 10 (dg_cons (dx_ty (c_tup rfl) k_tup (by rfl) (T.fr 10 "tuple" rfl) PyProof.Rows.boot_tuple (da_cons (xv 6) da_nil)) dg_nil))))) (ds_one (ds_ret dx_b)) ds_nil))))))))))))
      (ds_one (ds_ret dx_b))))) (FunD.bindsN D (fun _ _ _ _ _ _ us hl => match us, hl with | [_, _, _, _], _ => rfl))
theorem sc__law_powers_told : FnScope ["_law_hand_here", "_law_p", "_law_figures_here", "_law_points_here", "_law_many", "_law_passed", "_law_due", "_law_point", "_law_lone_here", "_law_k", "_law_undone", "_law_column", "_law_j", "_law_told", "_law_spoilt_here"] ["_law_hand_here", "_law_p", "_law_figures_here", "_law_points_here"] (defScope (top 76)) := ⟨rfl, rfl, rfl, by decide +kernel, rfl, by decide +kernel, by decide +kernel⟩
theorem cal__law_powers_told (T : Fs tb K mg) : Cal P w ⟨K, mg, none⟩ base false 10 (He.ga K "_law_powers_told") 4 F__law_powers_told [] := by
  obtain ⟨fd, D⟩ : ∃ fd, FunD K "_law_powers_told" "_law_powers_told" (defArgs (top 76)) (defBody (top 76)) (defScope (top 76)) [] [] (He.ga K "_law_powers_told") fd := T.says.def_ 63 rfl
  exact cal_of D (ok_def (N := ["_law_hand_here", "_law_p", "_law_figures_here", "_law_points_here", "_law_many", "_law_passed", "_law_due", "_law_point", "_law_lone_here", "_law_k", "_law_undone", "_law_column", "_law_j", "_law_told", "_law_spoilt_here"]) (ps := ["_law_hand_here", "_law_p", "_law_figures_here", "_law_points_here"]) (k := 9) (c := ⟨K, mg, none⟩) D sc__law_powers_told (fun cdv A outer s H E hr => (ds_cons (sS 4 sc__law_powers_told.nd (dx_bi (c_len rfl) k_len (by rfl) (T.fr 5 "len" rfl) PySem.boot_len (da_cons (xv 3) da_nil)))
      (ds_cons (sS 5 sc__law_powers_told.nd (cc_call (cal__law_list T) (hr.mono (by decide)) (T.gl 42 "_law_list" rfl) (fun σ => passAt (takes_of rfl rfl rfl rfl) σ) (xG 0 (xG 3 dg_nil))))
      (ds_cons (sS 6 sc__law_powers_told.nd (dx_ty (c_tup rfl) k_tup (by rfl) (T.fr 10 "tuple" rfl) PyProof.Rows.boot_tuple (da_cons (dx_fz (dn_lc (own := [("_law_point", 7)]) (g := (gName 7)) (bind := (bNm 7)) rfl sc__law_powers_told.nd (di_seq (xv 3)) (blkOk_by (own := [("_law_point", 7)]) (N := ["_law_hand_here", "_law_p", "_law_figures_here", "_law_points_here", "_law_many", "_law_passed", "_law_due", "_law_point", "_law_lone_here", "_law_k", "_law_undone", "_law_column", "_law_j", "_law_told", "_law_spoilt_here"]) (sc := defScope (top 76)) (by decide +kernel)) (bd_nm (by decide)) (fun _ _ _ _ _ => (gN 7 sc__law_powers_told.nd)) (fun _ _ _ _ _ => pts_no) (fun _ _ _ _ _ => (dx_ty (c_tup rfl) k_tup (by rfl) (T.fr 10 "tuple" rfl) PyProof.Rows.boot_tuple (da_cons (cc_call (cal__law_powers T) (hr.mono (by decide)) (T.gl 44 "_law_powers" rfl) passF (xG 1 (xG 7 (xG 4 dg_nil)))) da_nil))))) da_nil)))
      (ds_cons (sS 8 sc__law_powers_told.nd (dx_fz (dn_lc (own := [("_law_k", 9)]) (g := (gName 9)) (bind := (bNm 9)) rfl sc__law_powers_told.nd (di_rg1 (by rfl) (T.fr 8 "range" rfl) (da_cons (xv 4) da_nil)) (blkOk_by (own := [("_law_k", 9)]) (N := ["_law_hand_here", "_law_p", "_law_figures_here", "_law_points_here", "_law_many", "_law_passed", "_law_due", "_law_point", "_law_lone_here", "_law_k", "_law_undone", "_law_column", "_law_j", "_law_told", "_law_spoilt_here"]) (sc := defScope (top 76)) (by decide +kernel)) (bd_nm (by decide)) (fun _ _ _ _ _ => (gN 9 sc__law_powers_told.nd)) (fun _ _ _ _ _ => pts_no) (fun _ _ _ _ _ => (cc_call (cal__law_lone T) (hr.mono (by decide)) (T.gl 45 "_law_lone" rfl) passF (xG 1 (xG 3 (xG 9 dg_nil))))))))
      (ds_cons (sS 10 sc__law_powers_told.nd (dx_ty (c_tup rfl) k_tup (by rfl) (T.fr 10 "tuple" rfl) PyProof.Rows.boot_tuple (da_cons (dx_fz (dn_lc (own := [("_law_j", 12)]) (g := (gName 12)) (bind := (bNm 12)) rfl sc__law_powers_told.nd (di_rg1 (by rfl) (T.fr 8 "range" rfl) (da_cons (xv 4) da_nil)) (blkOk_by (own := [("_law_j", 12)]) (N := ["_law_hand_here", "_law_p", "_law_figures_here", "_law_points_here", "_law_many", "_law_passed", "_law_due", "_law_point", "_law_lone_here", "_law_k", "_law_undone", "_law_column", "_law_j", "_law_told", "_law_spoilt_here"]) (sc := defScope (top 76)) (by decide +kernel)) (bd_nm (by decide)) (fun _ _ _ _ _ => (gN 12 sc__law_powers_told.nd)) (fun _ _ _ _ _ => pts_no) (fun _ _ _ _ _ => (dx_ty (c_tup rfl) k_tup (by rfl) (T.fr 10 "tuple" rfl) PyProof.Rows.boot_tuple (da_cons (dx_fz (dn_lc (own := [("_law_column", 11)]) (g := (gName 11)) (bind := (bNm 11)) rfl sc__law_powers_told.nd (di_seq (xv 8)) (blkOk_by (own := [("_law_column", 11)]) (N := ["_law_hand_here", "_law_p", "_law_figures_here", "_law_points_here", "_law_many", "_law_passed", "_law_due", "_law_point", "_law_lone_here", "_law_k", "_law_undone", "_law_column", "_law_j", "_law_told", "_law_spoilt_here"]) (sc := relS _ (defScope (top 76))) (by decide +kernel)) (bd_nm (by decide)) (fun _ _ _ _ _ => (gN 11 sc__law_powers_told.nd)) (fun _ _ _ _ _ => pts_no) (fun _ _ _ _ _ => (dx_ix (xv 11) (xv 12))))) da_nil))))) da_nil)))
      (ds_cons (sS 13 sc__law_powers_told.nd (cc_call (cal__law_two_tables T) (hr.mono (by decide)) (T.gl 52 "_law_two_tables" rfl) (fun σ => passAt (takes_of rfl rfl rfl rfl) σ) (xG 2 (xG 5 dg_nil))))
      (ds_cons (ds_if (PW.pt (dw_or (dt_not (dt_tru rfl (cc_call (cal__law_exact T 5) (hr.mono (by decide)) (T.gl 41 "_law_exact" rfl) (fun σ => passAt (takes_of rfl rfl rfl rfl) σ) (dg_cons (dx_ix (xv 13) dx_i) (xG 6 dg_nil))))) (dw_or (dt_not (dt_tru rfl (cc_call (cal__law_exact T 5) (hr.mono (by decide)) (T.gl 41 "_law_exact" rfl) (fun σ => passAt (takes_of rfl rfl rfl rfl) σ) (dg_cons (dx_ix (xv 13) dx_i) (xG 10 dg_nil))))) (dw_or1 (dt_cmp (c_neD hr.units rfl) d_ne (dx_fz (dn_ty (c_list rfl) k_list (by rfl) (T.fr 6 "list" rfl) (by decide +kernel) (da_cons (xv 5) da_nil))) (dx_fz (dn_ty (c_list rfl) k_list (by rfl) (T.fr 6 "list" rfl) (by decide +kernel) (da_cons (xv 3) da_nil)))))))) (ds_one (ds_ret dx_b)) ds_nil)
      (ds_cons (sS 14 sc__law_powers_told.nd (cc_call (cal__law_spoilt T) (hr.mono (by decide)) (T.gl 54 "_law_spoilt" rfl) (fun σ => passAt (takes_of rfl rfl rfl rfl) σ) (xG 0 (xG 1 (xG 3 dg_nil)))))
      (ds_cons (ds_if (dt_cmp (c_eqD hr.units rfl) d_eq (cc_call (cal__law_take T) (hr.mono (by decide)) (T.gl 31 "_law_take" rfl) (fun σ => passAt (takes_of rfl rfl rfl rfl) σ) (xG 0 (dg_cons dx_i dg_nil))) dx_i) (ds_one (sS 14 sc__law_powers_told.nd (dx_ix (dx_tup (da_cons (dx_fz (dn_lst da_nil)) (da_cons (cc_call (cal__law_first_points T) (hr.mono (by decide)) (T.gl 46 "_law_first_points" rfl) (fun σ => passAt (takes_of rfl rfl rfl rfl) σ) (xG 1 (dg_cons dx_i dg_nil))) (da_cons dx_n da_nil)))) (cc_call (cal__law_take T) (hr.mono (by decide)) (T.gl 31 "_law_take" rfl) (fun σ => passAt (takes_of rfl rfl rfl rfl) σ) (xG 0 (dg_cons dx_i dg_nil)))))) ds_nil)
      (ds_cons (sS 4 sc__law_powers_told.nd (dx_if (PW.pt (dw_and (dt_tru rfl (dx_is T.gt (by decide) (by rfl) (T.fr 4 "isinstance" rfl) (xv 14) (pe_bltn (v := .ty "list") (by rfl) (T.fr 6 "list" rfl) (by decide +kernel) rfl))) (dw_and1 (dt_ch op_le op_le d_le d_le dx_i (dx_bi (c_len rfl) k_len (by rfl) (T.fr 5 "len" rfl) PySem.boot_len (da_cons (xv 14) da_nil)) dx_i)))) (dx_bi (c_len rfl) k_len (by rfl) (T.fr 5 "len" rfl) PySem.boot_len (da_cons (xv 14) da_nil)) (dx_neg dx_i)))
      (ds_cons (sS 6 sc__law_powers_told.nd (cc_call (cal__law_first_bad T) (hr.mono (by decide)) (T.gl 48 "_law_first_bad" rfl) (fun σ => passAt (takes_of rfl rfl rfl rfl) σ) (xG 1 (xG 14 (xG 4 (dg_cons dx_b dg_nil))))))
      (ds_cons (sS 13 sc__law_powers_told.nd (cc_call (cal__law_two_tables T) (hr.mono (by decide)) (T.gl 52 "_law_two_tables" rfl) (fun σ => passAt (takes_of rfl rfl rfl rfl) σ) (xG 2 (xG 14 dg_nil))))
      (ds_one (ds_ret (dx_or (dx_cmp op_isN d_isN (xv 6) dx_n) (dx_one (dx_cmp (c_eqD hr.units rfl) d_eq (xv 13) (dx_fz (dn_lst (da_cons (dx_tup (da_cons dx_s (da_cons (xv 6) (da_cons dx_b da_nil)))) (da_cons (dx_tup (da_cons dx_s (da_cons (xv 6) (da_cons dx_b da_nil)))) da_nil))))))))))))))))))))))) (FunD.bindsN D (fun _ _ _ _ _ _ us hl => match us, hl with | [_, _, _, _], _ => rfl))
theorem sc__law_rows_told : FnScope ["_law_hand_here", "_law_p", "_law_figures_here", "_law_points_here", "_law_point", "_law_size", "_law_told", "_law_odd", "_law_other"] ["_law_hand_here", "_law_p", "_law_figures_here", "_law_points_here"] (defScope (top 77)) := ⟨rfl, rfl, rfl, by decide +kernel, rfl, by decide +kernel, by decide +kernel⟩
theorem cal__law_rows_told (T : Fs tb K mg) : Cal P w ⟨K, mg, none⟩ base false 7 (He.ga K "_law_rows_told") 4 F__law_rows_told [] := by
  obtain ⟨fd, D⟩ : ∃ fd, FunD K "_law_rows_told" "_law_rows_told" (defArgs (top 77)) (defBody (top 77)) (defScope (top 77)) [] [] (He.ga K "_law_rows_told") fd := T.says.def_ 64 rfl
  exact cal_of D (ok_def (N := ["_law_hand_here", "_law_p", "_law_figures_here", "_law_points_here", "_law_point", "_law_size", "_law_told", "_law_odd", "_law_other"]) (ps := ["_law_hand_here", "_law_p", "_law_figures_here", "_law_points_here"]) (k := 6) (c := ⟨K, mg, none⟩) D sc__law_rows_told (fun cdv A outer s H E hr => (ds_cons (ds_for (vs := [4]) (gg := (gName 4)) (bind := (bNm 4)) (passes_of rfl) rfl (bd_nm (by decide)) (di_seq (dx_fz (dn_plus (xv 3) (dx_fz (dn_lst (da_cons (cc_call (cal__law_no_point T) (hr.mono (by decide)) (T.gl 53 "_law_no_point" rfl) (fun σ => passAt (takes_of rfl rfl rfl rfl) σ) (xG 0 (xG 1 dg_nil))) da_nil)))))) (gN 4 sc__law_rows_told.nd) (ds_cons (sS 5 sc__law_rows_told.nd (dx_op op_add d_add dx_i (cc_call (cal__law_take T) (hr.mono (by decide)) (T.gl 31 "_law_take" rfl) (fun σ => passAt (takes_of rfl rfl rfl rfl) σ) (xG 0 (dg_cons dx_i dg_nil)))))
      (ds_cons (sS 6 sc__law_rows_told.nd (cc_call (cal__law_one_row T) (hr.mono (by decide)) (T.gl 51 "_law_one_row" rfl) (fun σ => passAt (takes_of rfl rfl rfl rfl) σ) (xG 2 (xG 4 (xG 5 dg_nil)))))
      (ds_cons (sS 7 sc__law_rows_told.nd (dx_ix (dx_tup (da_cons dx_i (da_cons dx_i (da_cons (dx_neg dx_i) (da_cons dx_b (da_cons dx_n (da_cons dx_s da_nil))))))) (cc_call (cal__law_take T) (hr.mono (by decide)) (T.gl 31 "_law_take" rfl) (fun σ => passAt (takes_of rfl rfl rfl rfl) σ) (xG 0 (dg_cons dx_i dg_nil)))))
      (ds_cons (sS 8 sc__law_rows_told.nd (cc_call (cal__law_one_row T) (hr.mono (by decide)) (T.gl 51 "_law_one_row" rfl) (fun σ => passAt (takes_of rfl rfl rfl rfl) σ) (xG 2 (xG 4 (xG 7 dg_nil)))))
      (ds_one (ds_if (dt_cmp op_notN d_notN (cc_call (cal__law_first_bad T) (hr.mono (by decide)) (T.gl 48 "_law_first_bad" rfl) (fun σ => passAt (takes_of rfl rfl rfl rfl) σ) (xG 1 (dg_cons (dx_fz (dn_lst (da_cons (xv 4) da_nil))) (dg_cons dx_i (dg_cons dx_b dg_nil))))) dx_n) (ds_one (ds_if (PW.pt (dw_or (dt_cmp (c_neD hr.units rfl) d_ne (xv 6) (dx_tup (da_cons dx_s (da_cons dx_i (da_cons dx_b da_nil))))) (dw_or1 (dt_cmp (c_neD hr.units rfl) d_ne (xv 8) (dx_tup (da_cons dx_s (da_cons dx_i (da_cons dx_b da_nil)))))))) (ds_one (ds_ret dx_b)) ds_nil)) (ds_one (ds_if (PW.pt (dw_or (dt_not (dt_tru rfl (cc_call (cal__law_exact T 5) (hr.mono (by decide)) (T.gl 41 "_law_exact" rfl) (fun σ => passAt (takes_of rfl rfl rfl rfl) σ) (xG 6 (dg_cons (dx_ty (c_tup rfl) k_tup (by rfl) (T.fr 10 "tuple" rfl) PyProof.Rows.boot_tuple (da_cons (cc_call (cal__law_powers T) (hr.mono (by decide)) (T.gl 44 "_law_powers" rfl) (fun σ => passAt (takes_of rfl rfl rfl rfl) σ) (xG 1 (xG 4 (xG 5 dg_nil)))) da_nil)) dg_nil))))) (dw_or1 (dt_cmp (c_neD hr.units rfl) d_ne (xv 8) (dx_tup (da_cons dx_s (da_cons dx_i (da_cons dx_b da_nil)))))))) (ds_one (ds_ret dx_b)) ds_nil)))))))))
      (ds_one (ds_ret dx_b))))) (FunD.bindsN D (fun _ _ _ _ _ _ us hl => match us, hl with | [_, _, _, _], _ => rfl))
theorem sc_law : FnScope ["_law_script", "_law_hand_here", "_law_turn", "_law_p", "_law_figures_here", "_law_most", "_law_points_here"] ["_law_script"] (defScope (top 78)) := ⟨rfl, rfl, rfl, by decide +kernel, rfl, by decide +kernel, by decide +kernel⟩
theorem law_ok (T : Fs tb K mg) (hu : LawB 5 B_law) : ∃ fd : FuncData, (∀ (s : Shared) (v : Value), BindsTo s fd ⟨[v], []⟩ [("_law_script", v)]) ∧ ∀ base : Heap, FnOk P w K mg base CX0 11 (He.ga K "law") fd ["_law_script"] (spLaw K) := by
  obtain ⟨fd, D⟩ : ∃ fd, FunD K "law" "law" (defArgs (top 78)) (defBody (top 78)) (defScope (top 78)) [] [] (He.ga K "law") fd := T.says.def_ 65 rfl
  have bW := FunD.bindsA (ps := ["_law_script"]) D fun _ _ _ _ _ _ us hl => match us, hl with | [_], _ => rfl
  refine ⟨fd, fun s v => bW s [v] rfl, fun base => ?_⟩
  obtain ⟨⟨fh, GH, bH⟩, kH⟩ := hand_ok (P := P) (w := w) (base := base) T
  refine fn_calm0 (FunD.ok (CX := L2.CX P w) (k := 10) D sc_law (fun vs H Q E h => len_law (Q := Q) (E := E) h) (fun cdv A outer s H vs Q E hr h => ⟨_, pss_cons (ps_set (i := 1) sc_law.nd rfl (by first | exact Or.inl rfl | exact Or.inr rfl) (pe_call GH (hr.mono (by decide)) (by rfl) (T.gl 29 "_law_hand" rfl) kH bH .nil pass0 (pa_cons (pv 0) pa_nil))) (ds_cons (ds_for (vs := [2]) (gg := (gName 2)) (bind := (bNm 2)) (passes_of rfl) rfl (bd_nm (by decide)) (di_rg1 (by rfl) (T.fr 8 "range" rfl) (da_cons dx_i da_nil)) (gN 2 sc_law.nd) (ds_cons (sS 3 sc_law.nd (cc_call (cal__law_figures T) (hr.mono (by decide)) (T.gl 39 "_law_figures" rfl) (fun σ => passAt (takes_of rfl rfl rfl rfl) σ) (xG 1 dg_nil)))
      (ds_cons (sS 4 sc_law.nd (cc_make (T.gl 67 "Figures" rfl) (T.cls 0 _ rfl).1 (T.cls 0 _ rfl).2 (cal_Figures___init__ T) (hr.mono (by decide)) (fun σ => passAt (takes_of rfl rfl rfl rfl) σ) (da_cons (xv 3) da_nil)))
      (ds_cons (sS 5 sc_law.nd (dx_if (dt_cmp op_gt d_gt (xv 3) dx_i) (dx_bi (call_min2 rfl) k_min2 (by rfl) (T.fr 7 "min" rfl) (by decide +kernel) (da_cons dx_i (da_cons (dx_op op_add d_add (xv 3) dx_i) da_nil))) dx_i))
      (ds_cons (sS 6 sc_law.nd (cc_call (cal__law_points T) (hr.mono (by decide)) (T.gl 43 "_law_points" rfl) (fun σ => passAt (takes_of rfl rfl rfl rfl) σ) (xG 1 (xG 3 (dg_cons (dx_op op_add d_add dx_i (cc_call (cal__law_take T) (hr.mono (by decide)) (T.gl 31 "_law_take" rfl) (fun σ => passAt (takes_of rfl rfl rfl rfl) σ) (xG 1 (xG 5 dg_nil)))) (dg_cons dx_b dg_nil))))))
      (ds_cons (ds_if (PW.pt (dw_or (dt_not (dt_tru rfl (cc_call (cal__law_counts T) (hr.mono (by decide)) (T.gl 55 "_law_counts" rfl) (fun σ => passAt (takes_of rfl rfl rfl rfl) σ) (xG 1 (xG 3 (xG 4 (xG 5 dg_nil))))))) (dw_or1 (dt_not (dt_tru rfl (cc_call (cal__law_checks T) (hr.mono (by decide)) (T.gl 56 "_law_checks" rfl) (fun σ => passAt (takes_of rfl rfl rfl rfl) σ) (xG 1 (xG 3 (xG 4 (xG 6 dg_nil)))))))))) (ds_one (ds_ret dx_b)) ds_nil)
      (ds_one (ds_if (PW.pt (dw_or (dt_not (dt_tru rfl (cc_call (cal__law_powers_told T) (hr.mono (by decide)) (T.gl 57 "_law_powers_told" rfl) (fun σ => passAt (takes_of rfl rfl rfl rfl) σ) (xG 1 (xG 3 (xG 4 (xG 6 dg_nil))))))) (dw_or1 (dt_not (dt_tru rfl (cc_call (cal__law_rows_told T) (hr.mono (by decide)) (T.gl 58 "_law_rows_told" rfl) (fun σ => passAt (takes_of rfl rfl rfl rfl) σ) (xG 1 (xG 3 (xG 4 (xG 6 dg_nil)))))))))) (ds_one (ds_ret dx_b)) ds_nil))))))))
      (ds_one (ds_ret dx_b))), law_read (c := ⟨K, mg, none⟩) (names := ["_law_script", "_law_hand_here", "_law_turn", "_law_p", "_law_figures_here", "_law_most", "_law_points_here"]) (W := fun cls dd _ H' => E cls dd H') rfl hu h⟩))
end
end N16
namespace Fw
open PySem PySem.Spec L2
theorem eC_a (d : D) (δ : DE) (h : D) : eC d δ h = (.ok d h) := (rfl)
theorem eOp_a (f : D → D → Option D) (fa fb : EF D) (δ : DE) (h : D) : eOp f fa fb δ h = ((fa δ h).bind fun x h1 => (fb δ h1).bind fun y h2 => Ex.of (f x y) h2) := (rfl)
theorem eUn_a (f : D → Option D) (fa : EF D) (δ : DE) (h : D) : eUn f fa δ h = ((fa δ h).bind fun x h1 => Ex.of (f x) h1) := (rfl)
theorem eT_a (f : EF D) (δ : DE) (h : D) : eT f δ h = ((f δ h).bind bD) := (rfl)
theorem eTru_a (f : EF D) (δ : DE) (h : D) : eTru f δ h = ((f δ h).bind fun d h1 => Ex.of (truD d) h1) := (rfl)
theorem eAnd_a (g1 g2 : EF Bool) (δ : DE) (h : D) : eAnd g1 g2 δ h = ((g1 δ h).bind fun b h1 => if b then g2 δ h1 else .ok false h1) := (rfl)
theorem eOr_a (g1 g2 : EF Bool) (δ : DE) (h : D) : eOr g1 g2 δ h = ((g1 δ h).bind fun b h1 => if b then .ok true h1 else g2 δ h1) := (rfl)
theorem eNot_a (g : EF Bool) (δ : DE) (h : D) : eNot g δ h = ((g δ h).bind fun b h1 => .ok (!b) h1) := (rfl)
theorem eB_a (g : EF Bool) (δ : DE) (h : D) : eB g δ h = ((g δ h).bind fun b h1 => .ok (.bl b) h1) := (rfl)
theorem eIf_a (g : EF Bool) (fa fb : EF D) (δ : DE) (h : D) : eIf g fa fb δ h = ((g δ h).bind fun b h1 => if b then fa δ h1 else fb δ h1) := (rfl)
theorem eCh_a (k1 k2 : D → D → Option D) (fa fb fc : EF D) (δ : DE) (h : D) : eCh k1 k2 fa fb fc δ h = ((fa δ h).bind fun x h1 => (fb δ h1).bind fun y h2 => (Ex.of (k1 x y) h2).bind fun z h3 => (bD z h3).bind fun b h4 => if b then (fc δ h4).bind fun w h5 => Ex.of (k2 y w) h5 else .ok (.bl false) h4) := (rfl)
theorem eNil_a (δ : DE) (h : D) : eNil δ h = (.ok [] h) := (rfl)
theorem eCons_a (f : EF D) (g : EF (List D)) (δ : DE) (h : D) : eCons f g δ h = ((f δ h).bind fun d h1 => (g δ h1).bind fun ds h2 => .ok (d :: ds) h2) := (rfl)
theorem eTup_a (fs : EF (List D)) (δ : DE) (h : D) : eTup fs δ h = ((fs δ h).bind fun ds h1 => Ex.of (if szOk ds.length then some (.tup ds) else none) h1) := (rfl)
theorem eLst_a (fs : EF (List D)) (δ : DE) (h : D) : eLst fs δ h = ((fs δ h).bind fun ds h1 => Ex.of (if szOk ds.length then some (.hl ds) else none) h1) := (rfl)
theorem eFz_a (f : EF D) (δ : DE) (h : D) : eFz f δ h = ((f δ h).bind fun d h1 => .ok (sfz d) h1) := (rfl)
theorem eM_a (i : Nat) (δ : DE) (h : D) : eM i δ h = (match δ[i]? with
 | some (some .me) => .ok () h
 | _ => .bad) := (rfl)
theorem eIxM_a (i : Nat) (fb : EF D) (δ : DE) (h : D) : eIxM i fb δ h = ((eM i δ h).bind fun _ h1 => (fb δ h1).bind fun y h2 => Ex.of (match y, h2 with
 | .int i, .hl ds => atI ds i
 | _, _ => none) h2) := (rfl)
theorem eNo_a (δ : DE) (h : D) : eNo δ h = (.ok none h) := (rfl)
theorem eSl_a (f : EF D) (lo hi : EF (Option Int)) (δ : DE) (h : D) : eSl f lo hi δ h = ((f δ h).bind fun d h1 => (lo δ h1).bind fun l h2 => (hi δ h2).bind fun u h3 => Ex.of (slD d l u) h3) := (rfl)
theorem eBi_a (k : List D → Option D) (fs : EF (List D)) (δ : DE) (h : D) : eBi k fs δ h = ((fs δ h).bind fun ds h1 => Ex.of (k ds) h1) := (rfl)
theorem eIs_a (n : String) (f : EF D) (δ : DE) (h : D) : eIs n f δ h = ((f δ h).bind fun d h1 => Ex.of ((isS n d).map .bl) h1) := (rfl)
theorem eIs2_a (n m : String) (f : EF D) (δ : DE) (h : D) : eIs2 n m f δ h = ((f δ h).bind fun d h1 => Ex.of (match isS n d, isS m d with
 | some k, some l => some (.bl (k || l))
 | _, _ => none) h1) := (rfl)
theorem iSeq_a (f : EF D) (δ : DE) (h : D) : iSeq f δ h = ((f δ h).bind fun d h1 => Ex.of (itS d) h1) := (rfl)
theorem iRg_a (k : List D → Option (List D)) (fs : EF (List D)) (δ : DE) (h : D) : iRg k fs δ h = ((fs δ h).bind fun ds h1 => Ex.of (k ds) h1) := (rfl)
theorem eLcL_a (vs : List Nat) (it : EF (List D)) (bind : D → DE → Option DE) (test : EF Bool) (elt : EF D) (δ : DE) (h : D) : eLcL vs it bind test elt δ h = ((it δ h).bind fun ds h1 => if szOk ds.length then lcGo bind test elt (wipeD δ vs) ds h1 else .bad) := (rfl)
theorem eLc_a (vs : List Nat) (it : EF (List D)) (bind : D → DE → Option DE) (test : EF Bool) (elt : EF D) (δ : DE) (h : D) : eLc vs it bind test elt δ h = ((eLcL vs it bind test elt δ h).bind fun ys h2 => .ok (.hl ys) h2) := (rfl)
theorem tYesD_a (δ : DE) (h : D) : tYesD δ h = (.ok true h) := (rfl)
theorem sNil_a (δ : DE) (h : D) : sNil δ h = (.nx δ h) := (rfl)
theorem sSeq_a (u v : SF) (δ : DE) (h : D) : sSeq u v δ h = ((u δ h).bind v) := (rfl)
theorem sSet_a (i : Nat) (f : EF D) (δ : DE) (h : D) : sSet i f δ h = ((f δ h).fl δ fun d h1 => .nx (δ.set i (some d)) h1) := (rfl)
theorem sFrz_a (i : Nat) (u : SF) (δ : DE) (h : D) : sFrz i u δ h = (u (frzS i δ) h) := (rfl)
theorem sRet_a (f : EF D) (δ : DE) (h : D) : sRet f δ h = ((f δ h).fl δ fun d h1 => .ret d h1) := (rfl)
theorem sRetV_a (i : Nat) (δ : DE) (h : D) : sRetV i δ h = (match δ[i]? with
 | some (some (.hl ds)) => .ret (.hl ds) h
 | _ => .bad) := (rfl)
theorem sRetN_a (δ : DE) (h : D) : sRetN δ h = (.ret .non h) := (rfl)
theorem sIf_a (g : EF Bool) (u v : SF) (δ : DE) (h : D) : sIf g u v δ h = ((g δ h).fl δ fun b h1 => if b then u δ h1 else v δ h1) := (rfl)
theorem sBrk_a (δ : DE) (h : D) : sBrk δ h = (.brk δ h) := (rfl)
theorem sCt_a (δ : DE) (h : D) : sCt δ h = (.ct δ h) := (rfl)
theorem sDrop_a (f : EF D) (δ : DE) (h : D) : sDrop f δ h = ((f δ h).fl δ fun _ h1 => .nx δ h1) := (rfl)
theorem sAug_a (i : Nat) (k : D → D → Option D) (f : EF D) (δ : DE) (h : D) : sAug i k f δ h = (match δ[i]? with
 | some (some x) => if x.fr then (f δ h).fl δ fun y h1 => match k x y with
  | some z => .nx (δ.set i (some z)) h1
  | none => .bad
  else .bad
 | _ => .bad) := (rfl)
theorem sAsg_a (bind : D → DE → Option DE) (f : EF D) (δ : DE) (h : D) : sAsg bind f δ h = ((f δ h).fl δ fun d h1 => match bind d δ with
 | some δ2 => .nx δ2 h1
 | none => .bad) := (rfl)
theorem sPar_a (i j : Nat) (fs : EF (List D)) (δ : DE) (h : D) : sPar i j fs δ h = ((fs δ h).fl δ fun ds h1 => match ds with
 | [x, y] => .nx ((δ.set i (some x)).set j (some y)) h1
 | _ => .bad) := (rfl)
theorem sPar3_a (i j l : Nat) (fs : EF (List D)) (δ : DE) (h : D) : sPar3 i j l fs δ h = ((fs δ h).fl δ fun ds h1 => match ds with
 | [x, y, z] => .nx (((δ.set i (some x)).set j (some y)).set l (some z)) h1
 | _ => .bad) := (rfl)
theorem sFor_a (it : EF (List D)) (bind : D → DE → Option DE) (body : SF) (δ : DE) (h : D) : sFor it bind body δ h = ((it δ h).fl δ fun ds h1 => forGo bind body ds δ h1) := (rfl)
theorem pV_a (i : Nat) (δ : DE) (h : D) : pV i δ h = (match δ[i]? with
 | some (some d) => if d.nm then .ok (i, []) h else .bad
 | _ => .bad) := (rfl)
theorem pIx_a (k : EF Pl) (f : EF D) (δ : DE) (h : D) : pIx k f δ h = ((k δ h).bind fun p h1 => (f δ h1).bind fun y h2 => Ex.of (match plD δ p, y with
 | some (.hl ds), .int i => (ixN ds.length i).map fun j => (p.1, p.2 ++ [j])
 | _, _ => none) h2) := (rfl)
theorem ePl_a (k : EF Pl) (δ : DE) (h : D) : ePl k δ h = ((k δ h).bind fun p h1 => Ex.of (match plD δ p with
 | some d => if d.fr then some d else none
 | none => none) h1) := (rfl)
theorem eLenP_a (k : EF Pl) (δ : DE) (h : D) : eLenP k δ h = ((k δ h).bind fun p h1 => Ex.of (match plD δ p with
 | some (.hl ds) => some (.int ds.length)
 | _ => none) h1) := (rfl)
theorem sApp_a (k : EF Pl) (f : EF D) (δ : DE) (h : D) : sApp k f δ h = ((k δ h).fl δ fun p h1 => match plD δ p with
 | some (.hl ds) => (f δ h1).fl δ fun y h2 => if szOk ds.length then .nx (plS δ p (.hl (ds ++ [y]))) h2 else .bad
 | _ => .bad) := (rfl)
theorem sSt_a (k : EF Pl) (fi f : EF D) (δ : DE) (h : D) : sSt k fi f δ h = ((f δ h).fl δ fun y h1 => (k δ h1).fl δ fun p h2 => (fi δ h2).fl δ fun z h3 => match plD δ p, z with
 | some (.hl ds), .int i => match ixN ds.length i with
  | some j => .nx (plS δ p (.hl (ds.set j y))) h3
  | none => .bad
 | _, _ => .bad) := (rfl)
theorem sStM_a (o : Nat) (fi f : EF D) (δ : DE) (h : D) : sStM o fi f δ h = ((f δ h).fl δ fun y h1 => (eM o δ h1).fl δ fun _ h2 => (fi δ h2).fl δ fun z h3 => match z, h3 with
 | .int i, .hl ds => match ixN ds.length i with
  | some j => .nx δ (.hl (ds.set j y))
  | none => .bad
 | _, _ => .bad) := (rfl)
theorem sAt_a (n : Str) (o : Nat) (m : Str) (f : EF D) (δ : DE) (h : D) : sAt n o m f δ h = ((f δ h).fl δ fun y h1 => (eM o δ h1).fl δ fun _ h2 => match h2 with
 | .ins n' fs => if n' = n then (if szOk fs.length then (if fs.length < 900 then .nx δ (.ins n' (putD m y fs)) else .bad) else .bad) else .bad
 | _ => .bad) := (rfl)
theorem eCall_a (n : Nat) (F : Fn) (dd : List D) (fs : EF (List D)) (δ : DE) (h : D) : eCall n F dd fs δ h = ((fs δ h).bind fun ds h1 => if (ds ++ dd).length = n then F (ds ++ dd) h1 else .bad) := (rfl)
theorem eMeth_a (nm m : Str) (n : Nat) (F : Fn) (dd : List D) (fo : EF D) (fs : EF (List D)) (δ : DE) (h : D) : eMeth nm m n F dd fo fs δ h = ((fo δ h).bind fun d h1 => match d with
 | .ins n' xs => if n' = nm ∧ xs.lookup m = none then (fs δ h1).bind fun ds h2 => if (d :: (ds ++ dd)).length = n then F (d :: (ds ++ dd)) h2 else .bad else .bad
 | _ => .bad) := (rfl)
theorem eMake_a (nm : Str) (n : Nat) (F : Fn) (dd : List D) (fs : EF (List D)) (δ : DE) (h : D) : eMake nm n F dd fs δ h = ((fs δ h).bind fun ds h1 => if (D.me :: (ds ++ dd)).length = n then
 match F (.me :: (ds ++ dd)) (.ins nm []) with
 | .ok .non (.ins n' xs) => if n' = nm then .ok (.ins n' xs) h1 else .bad
 | .exc n' xs _ => .exc n' xs h1
 | _ => .bad
 else .bad) := (rfl)
theorem eFw_a (f : EF D) (δ : DE) (h : D) : eFw f δ h = ((f δ h).bind fun d h1 => .ok (frz d) h1) := (rfl)
theorem sRaise_a (n : Str) (fl : List D → Option (List (Str × D))) (fs : EF (List D)) (δ : DE) (h : D) : sRaise n fl fs δ h = ((fs δ h).fl δ fun ds h1 => match fl ds with
 | some fx => .exc n fx δ h1
 | none => .bad) := (rfl)
theorem sRaise0_a (n : Str) (δ : DE) (h : D) : sRaise0 n δ h = (.exc n [] δ h) := (rfl)
theorem sTry_a (u : SF) (cs : List Cz) (δ : DE) (h : D) : sTry u cs δ h = (match u δ h with
 | .exc n fs δ' h' => hdGo cs n fs δ' h'
 | r => r) := (rfl)
theorem eXf_a (ns : List Str) (i : Nat) (f : Str) (δ : DE) (h : D) : eXf ns i f δ h = (Ex.of (match δ[i]? with
 | some (some (.ex n fs)) => if ns.contains n then fs.lookup f else none
 | _ => none) h) := (rfl)
theorem eXi_a (ms : Str → Option Bool) (i : Nat) (δ : DE) (h : D) : eXi ms i δ h = (Ex.of (match δ[i]? with
 | some (some (.ex n _)) => (ms n).map .bl
 | _ => none) h) := (rfl)
theorem eNeI_a (nm : Str) (F : Fn) (fa fb : EF D) (δ : DE) (h : D) : eNeI nm F fa fb δ h = ((fa δ h).bind fun x h1 => (fb δ h1).bind fun y h2 => match x, y with
 | .ins n1 f1, .ins n2 f2 => if n1 = nm ∧ n2 = nm then (F [.ins n1 f1, .ins n2 f2] h2).nox.bind fun z h3 => match z with
  | .bl r => .ok (.bl (!r)) h3
  | _ => .bad
  else .bad
 | _, _ => .bad) := (rfl)
theorem eInn_a (g : EF (List D)) (δ : DE) (h : D) : eInn g δ h = (if slF δ then g δ h else .bad) := (rfl)
theorem eLc2_a (vs vs1 : List Nat) (it : EF (List D)) (bind : D → DE → Option DE) (test : EF Bool) (it1 : EF (List D)) (bind1 : D → DE → Option DE) (test1 : EF Bool) (elt : EF D) (δ : DE) (h : D) : eLc2 vs vs1 it bind test it1 bind1 test1 elt δ h = ((it δ h).bind fun ds h1 => (lc2Go bind test (eInn (eLcL vs1 it1 bind1 test1 elt)) (wipeD δ vs) ds h1).bind fun ys h2 => if szOk ys.length then .ok (.hl ys) h2 else .bad) := (rfl)
theorem eIsC_a (ms : Str → Option Bool) (bf : Bool) (f : EF D) (δ : DE) (h : D) : eIsC ms bf f δ h = ((f δ h).bind fun d h1 => Ex.of (match d with
 | .ins n _ => (ms n).map .bl
 | d => match tyS d with
  | some _ => if bf then some (.bl false) else none
  | none => none) h1) := (rfl)
def lenID (nm : Str) (F : Fn) (d h : D) : Ex D := match d with
  | .ins n' fs => if n' = nm then (F [.ins n' fs] h).nox.bind fun y h2 => match y with
    | .int i => if 0 ≤ i ∧ i < 1000000 then .ok (.int i) h2 else .bad
    | _ => .bad
    else .bad
  | _ => .bad
theorem eLenI_a (nm : Str) (F : Fn) (f : EF D) (δ : DE) (h : D) : eLenI nm F f δ h = (f δ h).bind fun d h1 => lenID nm F d h1 := (rfl)
theorem lenI_ok {nm : Str} {F : Fn} {fs : List (Str × D)} {h : D} {n : Nat} (e : F [.ins nm fs] h = .ok (.int n) h) (hn : n ≤ 1000) : lenID nm F (.ins nm fs) h = .ok (.int n) h := by
  unfold lenID
  simp only [e, if_true, Ex.nox, Ex.bind]
  exact if_pos ⟨by omega, by omega⟩
def iowD (nm fld : Str) (d h : D) : Ex (List D) := Ex.of (match d with
  | .ins n' fs => if n' = nm then match fs.lookup fld with
    | some (.tup ds) => some ds
    | _ => none
    else none
  | _ => none) h
theorem iOwnI_a (nm fld : Str) (f : EF D) (δ : DE) (h : D) : iOwnI nm fld f δ h = (f δ h).bind fun d h1 => iowD nm fld d h1 := (rfl)
def atvD (o : Option (Option D)) (n : Str) (h : D) : Ex D := Ex.of (match o, h with
  | some (some (.ins _ fs)), _ => fs.lookup n
  | some (some .me), .ins _ fs => fs.lookup n
  | _, _ => none) h
theorem eAtV_a (i : Nat) (n : Str) (δ : DE) (h : D) : eAtV i n δ h = atvD δ[i]? n h := (rfl)
theorem atv_ins {m n : Str} {fs : List (Str × D)} {h : D} : atvD (some (some (.ins m fs))) n h = Ex.of (fs.lookup n) h := (rfl)
theorem atv_me {m n : Str} {fs : List (Str × D)} : atvD (some (some .me)) n (.ins m fs) = Ex.of (fs.lookup n) (.ins m fs) := (rfl)
def attD (d : D) (n : Str) (h : D) : Ex D := Ex.of (match d with
  | .ins _ fs => fs.lookup n
  | _ => none) h
theorem eAt_a (f : EF D) (n : Str) (δ : DE) (h : D) : eAt f n δ h = (f δ h).bind fun d h1 => attD d n h1 := (rfl)
theorem att_ins {m n : Str} {fs : List (Str × D)} {h : D} : attD (.ins m fs) n h = Ex.of (fs.lookup n) h := (rfl)
def vD (o : Option (Option D)) (h : D) : Ex D := match o with
  | some (some d) => if d.fr then .ok d h else .bad
  | _ => .bad
def vmD (o : Option (Option D)) (h : D) : Ex D := match o with
  | some (some .me) => .ok .me h
  | some (some d) => if d.fr then .ok d h else .bad
  | _ => .bad
theorem eV_a (i : Nat) (δ : DE) (h : D) : eV i δ h = vD δ[i]? h := (rfl)
theorem eVm_a (i : Nat) (δ : DE) (h : D) : eVm i δ h = vmD δ[i]? h := (rfl)
theorem vD_fr {d h : D} (e : d.fr = true) : vD (some (some d)) h = .ok d h := if_pos e
theorem vmD_fr {d h : D} (e : d.fr = true) : vmD (some (some d)) h = .ok d h := by
  cases d <;> first | rfl | cases e
theorem vmD_me {h : D} : vmD (some (some .me)) h = .ok .me h := (rfl)
theorem vD_non {h : D} : vD (some (some .non)) h = .ok .non h := (rfl)
theorem vmD_non {h : D} : vmD (some (some .non)) h = .ok .non h := (rfl)
theorem vD_bl {b : Bool} {h : D} : vD (some (some (.bl b))) h = .ok (.bl b) h := (rfl)
theorem vmD_bl {b : Bool} {h : D} : vmD (some (some (.bl b))) h = .ok (.bl b) h := (rfl)
theorem vD_int {i : Int} {h : D} : vD (some (some (.int i))) h = .ok (.int i) h := (rfl)
theorem vmD_int {i : Int} {h : D} : vmD (some (some (.int i))) h = .ok (.int i) h := (rfl)
theorem vD_str {x : Str} {h : D} : vD (some (some (.str x))) h = .ok (.str x) h := (rfl)
theorem vmD_str {x : Str} {h : D} : vmD (some (some (.str x))) h = .ok (.str x) h := (rfl)
theorem vD_tup {ds : List D} {h : D} : vD (some (some (.tup ds))) h = .ok (.tup ds) h := (rfl)
theorem vmD_tup {ds : List D} {h : D} : vmD (some (some (.tup ds))) h = .ok (.tup ds) h := (rfl)
theorem vD_lst {ds : List D} {h : D} : vD (some (some (.lst ds))) h = .ok (.lst ds) h := (rfl)
theorem vmD_lst {ds : List D} {h : D} : vmD (some (some (.lst ds))) h = .ok (.lst ds) h := (rfl)
theorem vD_ins {n : Str} {fs : List (Str × D)} {h : D} : vD (some (some (.ins n fs))) h = .ok (.ins n fs) h := (rfl)
theorem vmD_ins {n : Str} {fs : List (Str × D)} {h : D} : vmD (some (some (.ins n fs))) h = .ok (.ins n fs) h := (rfl)
theorem eOn_a (f : D → D → Option D) (fa fb : EF D) : eOn f fa fb = eOp f fa fb := (rfl)
end Fw
namespace Lw
open PySem PySem.Spec L2 Fw
def gen {α : Type} (n : Nat) (f : Nat → α) : List α := (List.range n).map f
theorem gen_len {α : Type} (n : Nat) (f : Nat → α) : (gen n f).length = n := by unfold gen; rw [List.length_map, List.length_range]
theorem gen_get {α : Type} {n i : Nat} {f : Nat → α} (h : i < n) : (gen n f)[i]? = some (f i) := by
  unfold gen
  rw [List.getElem?_map, List.getElem?_range h]
  rfl
theorem gen_get' {α : Type} {n i : Nat} {f : Nat → α} {x : α} (h : (gen n f)[i]? = some x) : i < n ∧ x = f i := by
  have l := (List.getElem?_eq_some_iff.mp h).1
  rw [gen_len] at l
  rw [gen_get l] at h
  exact ⟨l, (Option.some.inj h).symm⟩
theorem gen_ext {α : Type} {n : Nat} {f : Nat → α} {xs : List α} (hl : xs.length = n) (k : ∀ i, i < n → xs[i]? = some (f i)) : xs = gen n f := by
  refine List.ext_getElem? fun i => ?_
  by_cases h : i < n
  · rw [k i h, gen_get h]
  · rw [List.getElem?_eq_none (by omega), List.getElem?_eq_none (by rw [gen_len]; omega)]
theorem gen_congr {α : Type} {n : Nat} {f g : Nat → α} (k : ∀ i, i < n → f i = g i) : gen n f = gen n g := gen_ext (gen_len n f) fun i h => by rw [gen_get h, k i h]
theorem gen_mem {α : Type} {n : Nat} {f : Nat → α} {x : α} : x ∈ gen n f ↔ ∃ i, i < n ∧ x = f i := by
  unfold gen
  rw [List.mem_map]
  constructor
  · rintro ⟨i, h, e⟩
    exact ⟨i, List.mem_range.mp h, e.symm⟩
  · rintro ⟨i, h, e⟩
    exact ⟨i, List.mem_range.mpr h, e.symm⟩
theorem gen_map {α β : Type} {n : Nat} {f : Nat → α} {g : α → β} : (gen n f).map g = gen n fun i => g (f i) := by
  unfold gen
  rw [List.map_map]
  rfl
theorem gen_zero {α : Type} {f : Nat → α} : gen 0 f = [] := rfl
theorem gen_succ {α : Type} {n : Nat} {f : Nat → α} : gen (n + 1) f = f 0 :: gen n fun i => f (i + 1) := by
  unfold gen
  rw [List.range_succ_eq_map, List.map_cons, List.map_map]
  rfl
theorem gen_last {α : Type} {n : Nat} {f : Nat → α} : gen (n + 1) f = gen n f ++ [f n] := by
  unfold gen
  rw [List.range_succ, List.map_append]
  rfl
theorem gen_of {α : Type} [Inhabited α] (xs : List α) : xs = gen xs.length fun i => xs[i]?.getD default := gen_ext rfl fun i h => by rw [List.getElem?_eq_getElem h]; rfl
theorem gen_rep {α : Type} {n : Nat} {z : α} : List.replicate n z = gen n fun _ => z := gen_ext (List.length_replicate) fun i h => by rw [List.getElem?_replicate, if_pos h]
theorem gen_app {α : Type} {n m : Nat} {f g : Nat → α} : gen n f ++ gen m g = gen (n + m) fun i => if i < n then f i else g (i - n) := gen_ext (by rw [List.length_append, gen_len, gen_len]) fun i h => by
  by_cases hi : i < n
  · rw [List.getElem?_append_left (by rw [gen_len]; exact hi), gen_get hi, if_pos hi]
  · rw [List.getElem?_append_right (by rw [gen_len]; omega), gen_len, gen_get (by omega), if_neg hi]
theorem gen_set {α : Type} {n i : Nat} {f : Nat → α} {x : α} : (gen n f).set i x = gen n fun k => if k = i then x else f k := gen_ext (by rw [List.length_set, gen_len]) fun k h => by
  by_cases e : k = i
  · subst e
    rw [List.getElem?_set_self (by rw [gen_len]; exact h), if_pos rfl]
  · rw [List.getElem?_set_ne (fun z => e z.symm), gen_get h, if_neg e]
theorem gen_take {α : Type} {n k : Nat} {f : Nat → α} : (gen n f).take k = gen (min k n) f := gen_ext (by rw [List.length_take, gen_len]) fun i h => by
  rw [List.getElem?_take, if_pos (by omega), gen_get (by omega)]
theorem gen_drop {α : Type} {n k : Nat} {f : Nat → α} : (gen n f).drop k = gen (n - k) fun i => f (k + i) := gen_ext (by rw [List.length_drop, gen_len]) fun i h => by
  rw [List.getElem?_drop, gen_get (by omega)]
theorem gen_ite {α : Type} {n : Nat} {f : Nat → α} {p : Prop} [Decidable p] {g : Nat → α} : (if p then gen n f else gen n g) = gen n fun i => if p then f i else g i := by split <;> rfl
theorem rgD_gen {lo : Int} {n : Nat} : rgD lo n = gen n fun i => .int (lo + (i : Int)) := rfl
def mapF (f : Nat → D → Ex D) : Nat → Nat → D → Ex (List D)
  | _, 0, h => .ok [] h
  | s, n + 1, h => (f s h).nox.bind fun y h1 => (mapF f (s + 1) n h1).bind fun ys h2 => .ok (y :: ys) h2
def mapN (n : Nat) (f : Nat → D → Ex D) (h : D) : Ex (List D) := mapF f 0 n h
theorem mapF_congr {f g : Nat → D → Ex D} : ∀ (n s : Nat) (h : D), (∀ i, i < s + n → ∀ h, f i h = g i h) → mapF f s n h = mapF g s n h
  | 0, _, _, _ => rfl
  | n + 1, s, h, k => by
    unfold mapF
    rw [k s (by omega) h]
    congr 1
    funext y h1
    rw [mapF_congr n (s + 1) h1 fun i hi => k i (by omega)]
theorem mapN_congr {n m : Nat} {f g : Nat → D → Ex D} {h h' : D} (e : n = m) (k : ∀ i, i < m → ∀ h, f i h = g i h) (eh : h = h') : mapN n f h = mapN m g h' := by
  subst e eh
  exact mapF_congr n 0 h fun i hi => k i (by omega)
theorem mapF_ok {g : Nat → D} : ∀ (n s : Nat) (h : D), mapF (fun i h => .ok (g i) h) s n h = .ok (gen n fun i => g (s + i)) h
  | 0, _, _ => rfl
  | n + 1, s, h => by
    unfold mapF
    have ih := mapF_ok (g := g) n (s + 1) h
    show (mapF (fun i h => .ok (g i) h) (s + 1) n h).bind _ = _
    rw [ih, gen_succ]
    show Ex.ok _ h = _
    congr 1
    rw [Nat.add_zero]
    congr 1
    exact gen_congr fun i _ => by rw [show s + 1 + i = s + (i + 1) by omega]
theorem mapN_ok {g : Nat → D} {n : Nat} {h : D} : mapN n (fun i h => if i < n then .ok (g i) h else .bad) h = .ok (gen n g) h := by
  have e : mapN n (fun i h => if i < n then .ok (g i) h else .bad) h = mapN n (fun i h => .ok (g i) h) h := mapN_congr rfl (fun i hi h => if_pos hi) rfl
  rw [e]
  unfold mapN
  rw [mapF_ok]
  congr 1
  exact gen_congr fun i _ => by rw [Nat.zero_add]
theorem mapN_is {n : Nat} {f : Nat → D → Ex D} {g : Nat → D} {h : D} (k : ∀ i, i < n → ∀ h, f i h = .ok (g i) h) : mapN n f h = .ok (gen n g) h := by
  rw [mapN_congr (g := fun i h => if i < n then .ok (g i) h else .bad) rfl (fun i hi h => by rw [k i hi h, if_pos hi]) rfl]
  exact mapN_ok
def bindE (o : Option DE) (elt : EF D) (h : D) : Ex D := match o with
  | some δ => elt δ h
  | none => .bad
theorem bindE_some {δ : DE} {elt : EF D} {h : D} : bindE (some δ) elt h = elt δ h := (rfl)
theorem lc_genF {bind : D → DE → Option DE} {elt : EF D} {δ : DE} {d : Nat → D} : ∀ (n s : Nat) (h : D), lcGo bind tYesD elt δ (gen n fun i => d (s + i)) h = mapF (fun i h => bindE (bind (d i) δ) elt h) s n h
  | 0, _, _ => rfl
  | n + 1, s, h => by
    rw [gen_succ]
    unfold lcGo mapF
    have e : (gen n fun i => d (s + (i + 1))) = gen n fun i => d (s + 1 + i) := gen_congr fun i _ => by rw [show s + (i + 1) = s + 1 + i by omega]
    rw [e, Nat.add_zero]
    cases q : bind (d s) δ with
    | none => rfl
    | some δ2 =>
      show (Ex.ok true h).nox.bind _ = _
      show ((elt δ2 h).nox.bind _) = ((bindE (some δ2) elt h).nox.bind _)
      rw [bindE_some]
      congr 1
      funext y h1
      rw [lc_genF n (s + 1) h1]
theorem lc_gen {bind : D → DE → Option DE} {elt : EF D} {δ : DE} {d : Nat → D} {n : Nat} {h : D} : lcGo bind tYesD elt δ (gen n d) h = mapN n (fun i h => if i < n then bindE (bind (d i) δ) elt h else .bad) h := by
  have := lc_genF (bind := bind) (elt := elt) (δ := δ) (d := d) n 0 h
  have e : mapN n (fun i h => if i < n then bindE (bind (d i) δ) elt h else .bad) h = mapN n (fun i h => bindE (bind (d i) δ) elt h) h := mapN_congr rfl (fun i hi h => if_pos hi) rfl
  rw [e]
  unfold mapN
  rw [← this]
  congr 1
  exact gen_congr fun i _ => by rw [Nat.zero_add]
end Lw
set_option exponentiation.threshold 20000
namespace Lw
open PySem PySem.Spec L2 Fw
theorem sWh_a (n : Nat) (g : EF Bool) (body : SF) : sWh n g body = whGo g body n := (rfl)
theorem eRg1_a (mk : List D → D) (f : EF D) (δ : DE) (h : D) : eRg1 mk f δ h = ((f δ h).bind fun y h1 => Ex.of (match y with
  | .int j => if rgB 0 j then some (mk (rgD 0 j.toNat)) else none
  | _ => none) h1) := (rfl)
theorem eLend_a (is : List Nat) (f : EF D) (δ : DE) (h : D) : eLend is f δ h = match f (lendS is δ) .non with
  | .ok d _ => if flatD d then .ok d h else .bad
  | _ => .bad := (rfl)
theorem sSwap_a (k1 : EF Pl) (f1 : EF D) (k2 : EF Pl) (f2 : EF D) (fs : EF (List D)) (δ : DE) (h : D) : sSwap k1 f1 k2 f2 fs δ h = ((fs δ h).fl δ fun ds h1 => match ds with
  | [x, y] => (stGo k1 f1 x δ h1).bind (stGo k2 f2 y)
  | _ => .bad) := (rfl)
theorem stGo_a (k : EF Pl) (fi : EF D) (y : D) (δ : DE) (h : D) : stGo k fi y δ h = ((k δ h).fl δ fun p h2 => (fi δ h2).fl δ fun z h3 => match plD δ p, z with
  | some (.hl ds), .int i => match ixN ds.length i with
    | some j => .nx (plS δ p (.hl (ds.set j y))) h3
    | none => .bad
  | _, _ => .bad) := (rfl)
theorem bind_okE {α β : Type} (a : α) (h : D) (k : α → D → Ex β) : (Ex.ok a h).bind k = k a h := (rfl)
theorem fl_okE {α : Type} (a : α) (h : D) (δ : DE) (k : α → D → Fl) : (Ex.ok a h).fl δ k = k a h := (rfl)
theorem fl_excE {α : Type} (n : Str) (fs : List (Str × D)) (h : D) (δ : DE) (k : α → D → Fl) : (Ex.exc n fs h : Ex α).fl δ k = .exc n fs δ h := (rfl)
theorem bind_excE {α β : Type} (n : Str) (fs : List (Str × D)) (h : D) (k : α → D → Ex β) : (Ex.exc n fs h : Ex α).bind k = .exc n fs h := (rfl)
theorem seq_nx (δ : DE) (h : D) (k : SF) : (Fl.nx δ h).bind k = k δ h := (rfl)
theorem seq_ret (d h : D) (k : SF) : (Fl.ret d h).bind k = .ret d h := (rfl)
theorem seq_exc (n : Str) (fs : List (Str × D)) (δ : DE) (h : D) (k : SF) : (Fl.exc n fs δ h).bind k = .exc n fs δ h := (rfl)
theorem of_someE {α : Type} (a : α) (h : D) : Ex.of (some a) h = .ok a h := (rfl)
theorem nox_okE {α : Type} (a : α) (h : D) : (Ex.ok a h).nox = .ok a h := (rfl)
theorem eq_int (i j : Int) : eqD (.int i) (.int j) = some (decide (i = j)) := by
  unfold eqD toPy
  rfl
theorem oAdd_i (i j : Int) : oAdd (.int i) (.int j) = (some (.int (i + j)) : Option D) := (rfl)
theorem oSub_i (i j : Int) : oSub (.int i) (.int j) = (some (.int (i - j)) : Option D) := (rfl)
theorem oMul_i (i j : Int) : oMul (.int i) (.int j) = (if cMul i j then some (.int (i * j)) else none : Option D) := (rfl)
theorem oDiv_i (i j : Int) : oDiv (.int i) (.int j) = (if cDiv i j then some (.int (i.fdiv j)) else none : Option D) := (rfl)
theorem oMod_i (i j : Int) : oMod (.int i) (.int j) = (if cMod i j then some (.int (i.fmod j)) else none : Option D) := (rfl)
theorem oPow_i (i j : Int) : oPow (.int i) (.int j) = (if cPow i j then some (.int (i ^ j.toNat)) else none : Option D) := (rfl)
theorem oLt_i (i j : Int) : oLt (.int i) (.int j) = (some (.bl (decide (i < j))) : Option D) := (rfl)
theorem oLe_i (i j : Int) : oLe (.int i) (.int j) = (some (.bl (decide (i ≤ j))) : Option D) := (rfl)
theorem oGt_i (i j : Int) : oGt (.int i) (.int j) = (some (.bl (decide (j < i))) : Option D) := (rfl)
theorem oGe_i (i j : Int) : oGe (.int i) (.int j) = (some (.bl (decide (j ≤ i))) : Option D) := (rfl)
theorem oEq_a (x y : D) : oEq x y = (eqD x y).map .bl := (rfl)
theorem oNe_a (x y : D) : oNe x y = (eqD x y).map fun b => .bl (!b) := (rfl)
theorem oInP_a (x y : D) : oInP x y = (inP x y).map .bl := (rfl)
theorem oNinP_a (x y : D) : oNinP x y = (inP x y).map fun b => .bl (!b) := (rfl)
theorem oNeg_i (i : Int) : oNeg (.int i) = some (.int (-i)) := (rfl)
theorem oIsB_i (a b : Bool) : oIsB (.bl a) (.bl b) = some (.bl (decide (a = b))) := (rfl)
theorem bNm_a (i : Nat) (d : D) (δ : DE) : bNm i d δ = some (δ.set i (some d)) := (rfl)
theorem bTp_a (bs : List (D → DE → Option DE)) (ds : List D) (δ : DE) : bTp bs (.tup ds) δ = bAll bs ds δ := (rfl)
theorem kLen_t (ds : List D) : kLen [.tup ds] = some (.int ds.length) := (rfl)
theorem kLen_l (ds : List D) : kLen [.lst ds] = some (.int ds.length) := (rfl)
theorem kGcd_i (i j : Int) : Fw.kGcd [.int i, .int j] = some (.int ((Nat.gcd i.natAbs j.natAbs : Nat) : Int)) := (rfl)
theorem oIx_t (ds : List D) (i : Int) : oIx (.tup ds) (.int i) = atI ds i := (rfl)
theorem oIx_l (ds : List D) (i : Int) : oIx (.lst ds) (.int i) = atI ds i := (rfl)
theorem kTup_t (ds : List D) : Fw.kTup [.tup ds] = some (.tup ds) := (rfl)
theorem kTup_l (ds : List D) : Fw.kTup [.lst ds] = some (.tup ds) := (rfl)
theorem kList_t (ds : List D) : Fw.kList [.tup ds] = some (.hl ds) := (rfl)
theorem kList_l (ds : List D) : Fw.kList [.lst ds] = some (.hl ds) := (rfl)
theorem kInt_i (i : Int) : Fw.kInt [.int i] = some (.int i) := (rfl)
theorem kInt_b (b : Bool) : Fw.kInt [.bl b] = some (.int (if b then 1 else 0)) := by cases b <;> rfl
theorem lk_hit {α : Type} (n : Str) (v : α) (l : List (Str × α)) : List.lookup n ((n, v) :: l) = some v := by
  rw [List.lookup_cons, beq_self_eq_true]
theorem itS_t (ds : List D) : itS (.tup ds) = some ds := (rfl)
theorem itS_l (ds : List D) : itS (.lst ds) = some ds := (rfl)
theorem nc0 : ((0 : Nat) : Int) = 0 := (rfl)
theorem nc1 : ((1 : Nat) : Int) = 1 := (rfl)
theorem tn0 : (0 : Int).toNat = 0 := (rfl)
theorem tn1 : (1 : Int).toNat = 1 := (rfl)
theorem sz_ok {n : Nat} (h : n ≤ 1000000) : szOk n = true := decide_eq_true h
theorem rgB_ok {a b : Int} (h1 : -1000000 ≤ a) (h2 : a ≤ 1000000) (h3 : -1000000 ≤ b) (h4 : b ≤ 1000000) : rgB a b = true := by
  unfold rgB
  rw [rgOk_of h1 h2, rgOk_of h3 h4]
  rfl
theorem rg1_ok {i : Int} (h1 : -1000000 ≤ i) (h2 : i ≤ 1000000) : rg1 [.int i] = some (gen i.toNat fun k => .int (k : Int)) := by
  show (if rgOk i = true then some (rgD 0 i.toNat) else none) = _
  rw [if_pos (rgOk_of h1 h2), rgD_gen]
  congr 1
  exact gen_congr fun k _ => by rw [Int.zero_add]
theorem rg2_ok {i j : Int} (h1 : -1000000 ≤ i) (h2 : i ≤ 1000000) (h3 : -1000000 ≤ j) (h4 : j ≤ 1000000) : rg2 [.int i, .int j] = some (gen (j - i).toNat fun k => .int (i + (k : Int))) := by
  show (if (rgOk i && rgOk j) = true then some (rgD i (j - i).toNat) else none) = _
  have : (rgOk i && rgOk j) = true := by
    rw [rgOk_of h1 h2, rgOk_of h3 h4]
    rfl
  rw [if_pos this, rgD_gen]
theorem rgD0 {n : Nat} : rgD 0 n = gen n fun k => .int (k : Int) := gen_congr fun k _ => by rw [Int.zero_add]
theorem atI_gen {n : Nat} {f : Nat → D} {i : Int} (h0 : 0 ≤ i) (h1 : i < n) : atI (gen n f) i = some (f i.toNat) := by
  unfold atI ixN
  rw [gen_len, if_pos h0, if_pos h1, Option.bind_some, gen_get (by omega)]
theorem at0 {α : Type} {a : α} {l : List α} : atI (a :: l) 0 = some a := by
  unfold atI ixN
  rw [if_pos (by omega), if_pos (by rw [List.length_cons]; omega)]
  rfl
theorem at1 {α : Type} {a b : α} {l : List α} : atI (a :: b :: l) 1 = some b := by
  unfold atI ixN
  rw [if_pos (by omega), if_pos (by rw [List.length_cons, List.length_cons]; omega)]
  rfl
theorem at2 {α : Type} {a b c : α} {l : List α} : atI (a :: b :: c :: l) 2 = some c := by
  unfold atI ixN
  rw [if_pos (by omega), if_pos (by rw [List.length_cons, List.length_cons, List.length_cons]; omega)]
  rfl
theorem at3 {α : Type} {a b c d : α} {l : List α} : atI (a :: b :: c :: d :: l) 3 = some d := by
  unfold atI ixN
  rw [if_pos (by omega), if_pos (by rw [List.length_cons, List.length_cons, List.length_cons, List.length_cons]; omega)]
  rfl
theorem ixN_ok {n : Nat} {i : Int} (h0 : 0 ≤ i) (h1 : i < n) : ixN n i = some i.toNat := by
  unfold ixN
  rw [if_pos h0, if_pos h1]
theorem mul_sm {i j : Int} (h1 : -18446744073709551616 < i) (h2 : i < 18446744073709551616) (h3 : -18446744073709551616 < j) (h4 : j < 18446744073709551616) : cMul i j = true := by
  have lg : ∀ k : Int, -18446744073709551616 < k → k < 18446744073709551616 → k.natAbs.log2 ≤ 64 := fun k a b => by
    by_cases h0 : k.natAbs = 0
    · rw [h0]; exact Nat.zero_le _
    · have := (Nat.log2_lt (n := k.natAbs) (k := 64) h0).mpr (by omega)
      omega
  have := lg i h1 h2
  have := lg j h3 h4
  exact decide_eq_true (by omega)
theorem div_sm {i j : Int} (h0 : j ≠ 0) (h3 : -18446744073709551616 < j) (h4 : j < 18446744073709551616) : cDiv i j = true := by
  have : j.natAbs.log2 < 64 := (Nat.log2_lt (n := j.natAbs) (k := 64) (by omega)).mpr (by omega)
  unfold cDiv
  rw [decide_eq_true h0, decide_eq_true (by omega : j.natAbs.log2 < 9000)]
  rfl
theorem mod_ok {i j : Int} (h0 : j ≠ 0) : cMod i j = true := decide_eq_true h0
theorem flat_rep {α : Type} (n : Nat) (z : α) : (List.replicate n [z]).flatten = List.replicate n z := by
  induction n with
  | zero => rfl
  | succ m ih => rw [List.replicate_succ, List.flatten_cons, ih, List.replicate_succ]; rfl
theorem times_t {z : D} {n : Int} (h0 : 0 ≤ n) (h : n ≤ 1000) : oTimes (.tup [z]) (.int n) = some (.tup (gen n.toNat fun _ => z)) := by
  show (if (cRep n 1 && !([z] : List D).isEmpty) = true then some (D.tup (List.replicate n.toNat [z]).flatten) else none) = _
  have : cRep n 1 = true := by unfold cRep; rw [decide_eq_true h0, decide_eq_true h]; rfl
  rw [this, flat_rep, gen_rep]
  rfl
theorem times_l {z : D} {n : Int} (h0 : 0 ≤ n) (h : n ≤ 1000) : oTimes (.lst [z]) (.int n) = some (.hl (gen n.toNat fun _ => z)) := by
  show (if cRep n 1 = true then some (D.hl (List.replicate n.toNat [z]).flatten) else none) = _
  have : cRep n 1 = true := by unfold cRep; rw [decide_eq_true h0, decide_eq_true h]; rfl
  rw [this, flat_rep, gen_rep]
  rfl
theorem plus_t {ds es : List D} (h : ds.length + es.length ≤ 1000000) : oPlus (.tup ds) (.tup es) = some (.tup (ds ++ es)) := by
  show (if szOk (ds.length + es.length) = true then some (D.tup (ds ++ es)) else none) = _
  rw [sz_ok h]
  rfl
theorem plus_l {ds es : List D} (h : ds.length + es.length ≤ 1000000) : oPlus (.lst ds) (.lst es) = some (.hl (ds ++ es)) := by
  show (if szOk (ds.length + es.length) = true then some (D.hl (ds ++ es)) else none) = _
  rw [sz_ok h]
  rfl
theorem slD_t {ds : List D} {l u : Option Int} : slD (.tup ds) l u = some (.tup (cutD ds l u)) := (rfl)
theorem slD_l {ds : List D} {l u : Option Int} : slD (.lst ds) l u = some (.hl (cutD ds l u)) := (rfl)
theorem cut_lo {n : Nat} {f : Nat → D} {i : Int} (h0 : 0 ≤ i) : cutD (gen n f) (some i) none = gen (n - i.toNat) fun k => f (i.toNat + k) := by
  unfold cutD
  have e : HT.sIx (gen n f).length 0 (some i) = min i.toNat n := by
    show (if i < 0 then (i + ((gen n f).length : Int)).toNat else min i.toNat (gen n f).length) = _
    rw [if_neg (by omega), gen_len]
  rw [e, show HT.sIx (gen n f).length (gen n f).length none = (gen n f).length from rfl, gen_len, gen_drop, gen_take]
  refine gen_ext (by rw [gen_len]; omega) fun k hk => ?_
  rw [gen_get (by omega)]
  congr 2
  omega
theorem cut_hi {n : Nat} {f : Nat → D} {i : Int} (h0 : 0 ≤ i) : cutD (gen n f) none (some i) = gen (min i.toNat n) f := by
  unfold cutD
  have e : HT.sIx (gen n f).length (gen n f).length (some i) = min i.toNat n := by
    show (if i < 0 then (i + ((gen n f).length : Int)).toNat else min i.toNat (gen n f).length) = _
    rw [if_neg (by omega), gen_len]
  rw [e, show HT.sIx (gen n f).length 0 none = 0 from rfl, List.drop_zero, gen_take]
  refine gen_ext (by rw [gen_len]; omega) fun k hk => gen_get (by omega)
theorem eOpt_a (f : EF D) (δ : DE) (h : D) : eOpt f δ h = ((f δ h).bind fun d h1 => match d with
  | .int i => .ok (some i) h1
  | _ => .bad) := (rfl)
theorem enD_gen : ∀ (n k : Nat) (f : Nat → D), enD k (gen n f) = gen n fun i => .tup [.int ((k + i : Nat) : Int), f i]
  | 0, _, _ => rfl
  | n + 1, k, f => by
    rw [gen_succ, gen_succ]
    unfold enD
    rw [enD_gen n (k + 1), Nat.add_zero]
    congr 1
    exact gen_congr fun i _ => by rw [show k + 1 + i = k + (i + 1) by omega]
theorem en_t {n : Nat} {f : Nat → D} : kEnum [.tup (gen n f)] = some (gen n fun i => .tup [.int (i : Int), f i]) := by
  show some (enD 0 (gen n f)) = _
  rw [enD_gen]
  congr 1
  exact gen_congr fun i _ => by rw [Nat.zero_add]
theorem en_l {n : Nat} {f : Nat → D} : kEnum [.lst (gen n f)] = some (gen n fun i => .tup [.int (i : Int), f i]) := by
  show some (enD 0 (gen n f)) = _
  rw [enD_gen]
  congr 1
  exact gen_congr fun i _ => by rw [Nat.zero_add]
theorem zipD_gen : ∀ (n m : Nat) (f g : Nat → D), zipD (gen n f) (gen m g) = gen (min n m) fun i => .tup [f i, g i]
  | 0, _, _, _ => by rw [Nat.zero_min]; rfl
  | n + 1, 0, f, g => by rw [Nat.min_zero, gen_succ]; rfl
  | n + 1, m + 1, f, g => by
    rw [gen_succ, gen_succ]
    unfold zipD
    rw [zipD_gen n m, show min (n + 1) (m + 1) = min n m + 1 by omega, gen_succ]
theorem zip_t {n m : Nat} {f g : Nat → D} : kZip [.tup (gen n f), .tup (gen m g)] = some (gen (min n m) fun i => .tup [f i, g i]) := congrArg some (zipD_gen n m f g)
theorem zip_l {n m : Nat} {f g : Nat → D} : kZip [.lst (gen n f), .lst (gen m g)] = some (gen (min n m) fun i => .tup [f i, g i]) := congrArg some (zipD_gen n m f g)
def sumZ : Nat → (Nat → Int) → Int
  | 0, _ => 0
  | n + 1, f => sumZ n f + f n
theorem intL_gen : ∀ (n : Nat) (f : Nat → Int), intL (gen n fun i => .int (f i)) = some (gen n f)
  | 0, _ => rfl
  | n + 1, f => by
    rw [gen_succ, gen_succ]
    show (intL (gen n fun i => .int (f (i + 1)))).map (f 0 :: ·) = _
    rw [intL_gen n fun i => f (i + 1)]
    rfl
theorem sum_gen : ∀ (n : Nat) (f : Nat → Int), (gen n f).sum = sumZ n f
  | 0, _ => rfl
  | n + 1, f => by rw [gen_last, List.sum_append, sum_gen n f]; show sumZ n f + (f n + 0) = _; rw [Int.add_zero]; rfl
theorem kSum_gen {n : Nat} {f : Nat → Int} : kSum [.lst (gen n fun i => .int (f i))] = some (.int (sumZ n f)) := by
  show (intL (gen n fun i => .int (f i))).map (fun ns => D.int ns.sum) = _
  rw [intL_gen, Option.map_some, sum_gen]
theorem bls_gen : ∀ (n : Nat) (f : Nat → Bool), bls (gen n fun i => .bl (f i)) = some (gen n f)
  | 0, _ => rfl
  | n + 1, f => by
    rw [gen_succ, gen_succ]
    show (bls (gen n fun i => .bl (f (i + 1)))).map (f 0 :: ·) = _
    rw [bls_gen n fun i => f (i + 1)]
    rfl
theorem kAll_gen {n : Nat} {f : Nat → Bool} : kAll [.lst (gen n fun i => .bl (f i))] = some (.bl ((gen n f).all id)) := by
  show (bls (gen n fun i => .bl (f i))).map (fun ns => D.bl (ns.all id)) = _
  rw [bls_gen]
  rfl
theorem all_gen {n : Nat} {f : Nat → Bool} : (gen n f).all id = decide (∀ i, i < n → f i = true) := by
  rw [eq_comm]
  by_cases k : ∀ i, i < n → f i = true
  · rw [decide_eq_true k, eq_comm, List.all_eq_true]
    intro b hb
    obtain ⟨i, hi, rfl⟩ := gen_mem.mp hb
    exact k i hi
  · rw [decide_eq_false k, eq_comm, Bool.eq_false_iff]
    intro z
    refine k fun i hi => ?_
    exact List.all_eq_true.mp z (f i) (gen_mem.mpr ⟨i, hi, rfl⟩)
theorem all_true {n : Nat} {f : Nat → Bool} (k : ∀ i, i < n → f i = true) : (gen n f).all id = true := by rw [all_gen]; exact decide_eq_true k
end Lw
local macro_rules | `(tactic| push_cast [$xs,*]) => `(tactic| simp (disch := first | omega | assumption | (simp only [Lw.gen_len, List.length_cons, List.length_nil, List.length_append]; omega)) only [Fw.eV_a, Fw.eC_a, Fw.eOp_a, Fw.eUn_a, Fw.eT_a, Fw.eTru_a, Fw.eAnd_a, Fw.eOr_a, Fw.eNot_a, Fw.eB_a, Fw.eIf_a, Fw.eCh_a, Fw.eNil_a, Fw.eCons_a, Fw.eTup_a, Fw.eLst_a, Fw.eFz_a, Fw.eM_a, Fw.eIxM_a, Fw.eNo_a, Fw.eSl_a, Fw.eAt_a, Fw.eAtV_a, Fw.eBi_a, Fw.eIs_a, Fw.eIs2_a, Fw.iSeq_a, Fw.iRg_a, Fw.eLcL_a, Fw.eLc_a, Fw.tYesD_a, Fw.sNil_a, Fw.sSeq_a, Fw.sSet_a, Fw.sFrz_a, Fw.sRet_a, Fw.sRetV_a, Fw.sRetN_a, Fw.sIf_a, Fw.sBrk_a, Fw.sCt_a, Fw.sDrop_a, Fw.sAug_a, Fw.sAsg_a, Fw.sPar_a, Fw.sPar3_a, Fw.sFor_a, Fw.pV_a, Fw.pIx_a, Fw.ePl_a, Fw.eLenP_a, Fw.sApp_a, Fw.sSt_a, Fw.sStM_a, Fw.sAt_a, Fw.eVm_a, Fw.eCall_a, Fw.eMake_a, Fw.eFw_a, Fw.sRaise_a, Fw.sRaise0_a, Fw.sTry_a, Fw.eXf_a, Fw.eXi_a, Fw.eLenI_a, Fw.iOwnI_a, Fw.eNeI_a, Fw.eInn_a, Fw.eIsC_a, Fw.eOn_a, Fw.runF, Lw.sWh_a, Lw.eRg1_a, Lw.eLend_a, Lw.sSwap_a, Lw.stGo_a, Lw.eOpt_a, Lw.bind_okE, Lw.fl_okE, Lw.fl_excE, Lw.bind_excE, Lw.seq_nx, Lw.seq_ret, Lw.seq_exc, Lw.of_someE, Lw.nox_okE, Fw.bD, Fw.truD, Lw.oAdd_i, Lw.oSub_i, Lw.oMul_i, Lw.oDiv_i, Lw.oMod_i, Lw.oPow_i, Lw.oLt_i, Lw.oLe_i, Lw.oGt_i, Lw.oGe_i, Lw.oEq_a, Lw.oNe_a, Lw.oInP_a, Lw.oNinP_a, Fw.oIsN, Fw.oNotN, Lw.oIsB_i, Lw.oNeg_i, Lw.eq_int, Fw.vmD_me, Fw.atv_ins, Fw.atv_me, Fw.att_ins, Fw.vD_non, Fw.vmD_non, Fw.vD_bl, Fw.vmD_bl, Fw.vD_int, Fw.vmD_int, Fw.vD_str, Fw.vmD_str, Fw.vD_tup, Fw.vmD_tup, Fw.vD_lst, Fw.vmD_lst, Fw.vD_ins, Fw.vmD_ins, Lw.bNm_a, Lw.bTp_a, Fw.bAll, Lw.itS_t, Lw.itS_l, Fw.frzS, Fw.sfz, Fw.tyS, Fw.isS, Fw.wipeD, List.map, List.append, List.length_cons, List.length_nil, List.replicate, List.getElem?_cons_zero, List.getElem?_cons_succ, List.set_cons_zero, List.set_cons_succ, List.cons_append, List.nil_append, List.append_nil, Nat.reduceSub, Nat.reduceAdd, Option.map_some, if_true, if_false, Bool.not_true, Bool.not_false, Bool.false_eq_true, ite_true, ite_false, reduceIte, decide_true, decide_false, eq_self, Lw.nc0, Lw.nc1, Int.cast_ofNat_Int, Lw.tn0, Lw.tn1, Int.toNat_natCast, Int.reduceToNat, Lw.oIx_t, Lw.oIx_l, Lw.kLen_t, Lw.kLen_l, Lw.kGcd_i, Lw.kTup_t, Lw.kTup_l, Lw.kList_t, Lw.kList_l, Lw.kInt_i, Lw.kInt_b, Lw.lk_hit, Lw.sz_ok, Lw.rgB_ok, Lw.rg1_ok, Lw.rg2_ok, Lw.rgD0, Lw.atI_gen, Lw.at0, Lw.at1, Lw.at2, Lw.at3, Lw.ixN_ok, Lw.mul_sm, Lw.div_sm, Lw.mod_ok, Lw.times_t, Lw.times_l, Lw.plus_t, Lw.plus_l, Lw.slD_t, Lw.slD_l, Lw.cut_lo, Lw.cut_hi, Lw.en_t, Lw.en_l, Lw.zip_t, Lw.zip_l, Lw.kSum_gen, Lw.kAll_gen, Lw.gen_len, Lw.lc_gen, Lw.bindE_some, Lw.mapN_ok, if_pos, if_neg, decide_eq_true_eq, decide_eq_true, decide_eq_false, Bool.not_eq_true', decide_eq_false_iff_not, Int.zero_add, Int.add_zero, Int.sub_zero, Nat.min_self, Bool.and_true, Bool.true_and, Bool.or_false, Bool.false_or, Bool.or_true, Bool.true_or, Bool.and_false, Bool.false_and, Fw.plD, Fw.getP, Fw.plS, Fw.setP, Fw.D.nm, true_or, or_true, false_or, or_false, true_and, and_true, false_and, and_false, not_true_eq_false, not_false_eq_true, $xs,*])
namespace Lw
open PySem PySem.Spec L2 Fw
end Lw
set_option exponentiation.threshold 20000
namespace Lw
open PySem PySem.Spec L2 Fw
class Fd (K : Type) extends Lean.Grind.CommRing K where
  inv : K → K
  mul_inv : ∀ a : K, a ≠ 0 → a * inv a = 1
  inv_zero : inv 0 = 0
  z_ne : (0 : K) ≠ 1
  dec : DecidableEq K
instance {K : Type} [f : Fd K] : DecidableEq K := f.dec
inductive Fg where
  | q
  | m (n : Nat) (h : n = 0 ∨ n = 1 ∨ n = 3 ∨ n = 5 ∨ n = 9 ∨ n = 11)
def Fg.p : Fg → Int
  | .q => 0
  | .m n _ => ((n + 2 : Nat) : Int)
@[reducible] def Fg.K : Fg → Type
  | .q => Rat
  | .m n _ => Fin (n + 2)
def finInv {n : Nat} (a : Fin (n + 2)) : Fin (n + 2) := ((List.finRange (n + 2)).find? fun b => a * b == 1).getD 0
theorem fin_inv {n : Nat} (h : n = 0 ∨ n = 1 ∨ n = 3 ∨ n = 5 ∨ n = 9 ∨ n = 11) : ∀ a : Fin (n + 2), a ≠ 0 → a * finInv a = 1 := by
  rcases h with rfl | rfl | rfl | rfl | rfl | rfl <;> decide +kernel
theorem fin_inv0 {n : Nat} : finInv (0 : Fin (n + 2)) = 0 := by
  unfold finInv
  have : (List.finRange (n + 2)).find? (fun b => (0 : Fin (n + 2)) * b == 1) = none := by
    rw [List.find?_eq_none]
    intro b _ z
    have e : (0 : Fin (n + 2)) * b = 1 := eq_of_beq z
    rw [Fin.zero_mul] at e
    have := congrArg Fin.val e
    simp at this
  rw [this]
  rfl
instance instFdRat : Fd Rat where
  inv := fun a => a⁻¹
  mul_inv := fun a h => Rat.mul_inv_cancel a h
  inv_zero := Rat.inv_zero
  z_ne := by decide
  dec := inferInstance
@[reducible] def instFdFin (n : Nat) (h : n = 0 ∨ n = 1 ∨ n = 3 ∨ n = 5 ∨ n = 9 ∨ n = 11) : Fd (Fin (n + 2)) where
  inv := finInv
  mul_inv := fin_inv h
  inv_zero := fin_inv0
  z_ne := by
    intro z
    have := congrArg Fin.val z
    simp at this
  dec := inferInstance
instance instFd (k : Fg) : Fd k.K := match k with
  | .q => instFdRat
  | .m n h => instFdFin n h
def bt (n : Nat) : Nat := if n = 0 then 0 else n.log2 + 1
theorem bt_lt (n : Nat) : n < 2 ^ bt n := by
  unfold bt
  split
  · rename_i h; rw [h]; decide
  · exact Nat.lt_log2_self
theorem bt_le {n b : Nat} (h : n < 2 ^ b) : bt n ≤ b := by
  unfold bt
  split
  · exact Nat.zero_le _
  · rename_i h0
    have := (Nat.log2_lt h0).mpr h
    omega
theorem bt_mono {n m : Nat} (h : n ≤ m) : bt n ≤ bt m := bt_le (Nat.lt_of_le_of_lt h (bt_lt m))
theorem bt_mul (n m : Nat) : bt (n * m) ≤ bt n + bt m := by
  refine bt_le ?_
  rw [Nat.pow_add]
  exact Nat.mul_lt_mul'' (bt_lt n) (bt_lt m)
theorem bt_add (n m : Nat) : bt (n + m) ≤ max (bt n) (bt m) + 1 := by
  refine bt_le ?_
  have h1 := Nat.lt_of_lt_of_le (bt_lt n) (Nat.pow_le_pow_right (by decide : 0 < 2) (Nat.le_max_left (bt n) (bt m)))
  have h2 := Nat.lt_of_lt_of_le (bt_lt m) (Nat.pow_le_pow_right (by decide : 0 < 2) (Nat.le_max_right (bt n) (bt m)))
  rw [Nat.pow_succ]
  omega
theorem bt_log (n : Nat) : n.log2 ≤ bt n := by
  unfold bt
  split
  · rename_i h; rw [h]; decide
  · omega
theorem cMul_b {i j : Int} (h : bt i.natAbs + bt j.natAbs < 1000000) : cMul i j = true := by
  have := bt_log i.natAbs
  have := bt_log j.natAbs
  exact decide_eq_true (by omega)
theorem cDiv_b {i j : Int} (h0 : j ≠ 0) (h : bt j.natAbs ≤ 9000) : cDiv i j = true := by
  have : j.natAbs.log2 < 9000 := by
    unfold bt at h
    split at h
    · omega
    · omega
  unfold cDiv
  rw [decide_eq_true h0, decide_eq_true this]
  rfl
open Rat in
theorem div_num_le (t : Int) {b : Int} (hb : b ≠ 0) : (divInt t b).num.natAbs ≤ t.natAbs := by
  rw [num_divInt, Int.natAbs_ediv_of_dvd, Int.natAbs_mul]
  · have : b.sign.natAbs = 1 := Int.natAbs_sign_of_ne_zero hb
    rw [this, Nat.one_mul]
    exact Nat.div_le_self _ _
  · exact Int.dvd_mul_of_dvd_right (Int.gcd_dvd_right ..)
open Rat in
theorem div_den_le (t : Int) {b : Int} (hb : b ≠ 0) : (divInt t b).den ≤ b.natAbs := by
  rw [den_divInt, if_neg hb]
  exact Nat.div_le_self _ _
def encQ (x : Rat) : D := .tup [.int x.num, .int x.den]
def hq (x : Rat) : Nat := max (bt x.num.natAbs) (bt x.den)
theorem hq_div (t : Int) {b : Int} (hb : b ≠ 0) : hq (Rat.divInt t b) ≤ max (bt t.natAbs) (bt b.natAbs) := by
  unfold hq
  have h1 := bt_mono (div_num_le t hb)
  have h2 := bt_mono (div_den_le t hb)
  omega
theorem den_ne (a : Rat) : (a.den : Int) ≠ 0 := by have := a.den_pos; omega
theorem q_mul (a b : Rat) : a * b = Rat.divInt (a.num * b.num) (a.den * b.den) := by
  rw [← Rat.divInt_mul_divInt, Rat.num_divInt_den, Rat.num_divInt_den]
theorem q_add (a b : Rat) : a + b = Rat.divInt (a.num * b.den + b.num * a.den) (a.den * b.den) := by
  rw [← Rat.divInt_add_divInt _ _ (den_ne a) (den_ne b), Rat.num_divInt_den, Rat.num_divInt_den]
theorem q_neg (a : Rat) : -a = Rat.divInt (-a.num) a.den := by
  rw [← Rat.neg_divInt, Rat.num_divInt_den]
theorem q_sub (a b : Rat) : a - b = Rat.divInt (a.num * b.den - b.num * a.den) (a.den * b.den) := by
  rw [← Rat.divInt_sub_divInt _ _ (den_ne a) (den_ne b), Rat.num_divInt_den, Rat.num_divInt_den]
theorem q_inv (a : Rat) : a⁻¹ = Rat.divInt a.den a.num := by
  rw [← Rat.inv_divInt, Rat.num_divInt_den]
theorem num_ne {a : Rat} (h : a ≠ 0) : a.num ≠ 0 := fun z => h (Rat.num_eq_zero.mp z)
theorem q_over (a b : Rat) : a * b⁻¹ = Rat.divInt (a.num * b.den) (a.den * b.num) := by
  rw [q_inv, ← Rat.divInt_mul_divInt, Rat.num_divInt_den]
end Lw
set_option exponentiation.threshold 20000
namespace Lw
open PySem PySem.Spec L2 Fw Pd
theorem fm {a m : Int} (h : 0 < m) : 0 ≤ a.fmod m ∧ a.fmod m < m := by
  rw [Int.fmod_eq_emod_of_nonneg _ (Int.le_of_lt h)]
  exact ⟨Int.emod_nonneg _ (by omega), Int.emod_lt_of_pos _ h⟩
theorem fd {a m : Int} (h : 0 < m) (ha : 0 ≤ a) : 0 ≤ a.fdiv m ∧ a.fdiv m ≤ a := by
  rw [Int.fdiv_eq_ediv_of_nonneg _ (Int.le_of_lt h)]
  exact ⟨Int.ediv_nonneg ha (Int.le_of_lt h), Int.ediv_le_self _ ha⟩
theorem fm_nat {a b : Nat} : (a : Int).fmod (b : Int) = ((a % b : Nat) : Int) := by
  rw [Int.fmod_eq_emod_of_nonneg _ (by omega)]; rfl
def gcdBody : SF := sSeq (sIf (eT (eOp oEq (eV 3) (eC (.int 0)))) (sRet (eV 2)) sNil) (sSeq (sSet 5 (eOp oMod (eBi kInt (eCons (eV 2) eNil)) (eV 3))) (sSeq (sSet 2 (eV 3)) (sSet 3 (eV 5))))
theorem gcd_end {d0 d1 h x : D} {xs : List D} {a : Nat} {o4 o5 : Option D} : forGo (bNm 4) gcdBody (x :: xs) [some d0, some d1, some (.int a), some (.int 0), o4, o5] h = .ret (.int a) h := by
  unfold forGo gcdBody
  push_cast []
theorem gcd_step {d0 d1 h x : D} {xs : List D} {a b : Nat} {o4 o5 : Option D} (hb : b ≠ 0) : forGo (bNm 4) gcdBody (x :: xs) [some d0, some d1, some (.int a), some (.int b), o4, o5] h = forGo (bNm 4) gcdBody xs [some d0, some d1, some (.int b), some (.int (a % b : Nat)), some x, some (.int (a % b : Nat))] h := by
  have hz : ¬ (b : Int) = 0 := by omega
  have hm := mod_ok (i := (a : Int)) hz
  have e := fm_nat (a := a) (b := b)
  rw [forGo]
  conv => lhs; unfold gcdBody
  push_cast [hz, hm, e]
  rfl
theorem gcd_loop {d0 d1 h : D} : ∀ (m : Nat) (l : List D) (a b : Nat) (o4 o5 : Option D), b < 2 ^ m → 2 * m + 1 ≤ l.length →
    forGo (bNm 4) gcdBody l [some d0, some d1, some (.int a), some (.int b), o4, o5] h = .ret (.int (Nat.gcd a b : Nat)) h
  | m, [], a, b, o4, o5, hb, hl => by simp at hl
  | 0, x :: xs, a, b, o4, o5, hb, hl => by
    have : b = 0 := by omega
    subst this
    rw [Nat.gcd_zero_right]
    exact gcd_end
  | m + 1, [x], a, b, o4, o5, hb, hl => by simp at hl
  | m + 1, x :: y :: ys, a, b, o4, o5, hb, hl => by
    by_cases h0 : b = 0
    · subst h0
      rw [Nat.gcd_zero_right]
      exact gcd_end
    · rw [gcd_step h0]
      have e1 : Nat.gcd a b = Nat.gcd b (a % b) := by rw [Nat.gcd_comm a b, Nat.gcd_rec b a, Nat.gcd_comm]
      by_cases h1 : a % b = 0
      · rw [h1] at e1 ⊢
        rw [e1, Nat.gcd_zero_right]
        exact gcd_end
      · rw [gcd_step h1]
        have e2 : Nat.gcd b (a % b) = Nat.gcd (a % b) (b % (a % b)) := by rw [Nat.gcd_comm b (a % b), Nat.gcd_rec (a % b) b, Nat.gcd_comm]
        have r1 : a % b < b := Nat.mod_lt _ (by omega)
        have r2 : b % (a % b) < a % b := Nat.mod_lt _ (by omega)
        have r3 : b % (a % b) + a % b ≤ b := by
          have := Nat.mod_add_div b (a % b)
          have : 1 ≤ b / (a % b) := Nat.div_pos (by omega) (by omega)
          have := Nat.mul_le_mul_left (a % b) this
          omega
        rw [e1, e2]
        refine gcd_loop m ys (a % b) (b % (a % b)) _ _ ?_ ?_
        · rw [Nat.pow_succ] at hb; omega
        · rw [List.length_cons, List.length_cons] at hl; omega
theorem abs_if (x : Int) : (if x < 0 then -x else x) = (x.natAbs : Int) := by split <;> omega
theorem E_gcd (x y : Int) (h : D) (hy : bt y.natAbs ≤ 20000) : F__law_gcd [.int x, .int y] h = .ok (.int (Nat.gcd x.natAbs y.natAbs : Nat)) h := by
  have hb : y.natAbs < 2 ^ 20000 := Nat.lt_of_lt_of_le (bt_lt _) (Nat.pow_le_pow_right (by decide) hy)
  have e := gcd_loop (h := h) (d0 := .int x) (d1 := .int y) 20000 (gen 60000 fun k => .int (k : Int)) x.natAbs y.natAbs none none hb (by rw [gen_len]; omega)
  have rg : rg1 [.int 60000] = some (gen 60000 fun k => .int (k : Int)) := rg1_ok (by omega) (by omega)
  unfold gcdBody at e
  unfold F__law_gcd
  simp only [runF, sSeq_a, sSet_a, eBi_a, eCons_a, eNil_a, eV_a, List.map, List.append, List.length_cons, List.length_nil, List.replicate, List.cons_append, List.nil_append, Nat.reduceSub, Nat.reduceAdd, List.getElem?_cons_zero, List.getElem?_cons_succ, vD_int, bind_okE, kAbs, abs_if, of_someE, fl_okE, seq_nx, List.set_cons_zero, List.set_cons_succ, sFor_a, iRg_a, eC_a, rg]
  rw [e]
  rfl
theorem low_parts (t : Int) {b : Int} (hb : b ≠ 0) : ∃ g : Int, 0 < g ∧ g = (Nat.gcd t.natAbs b.natAbs : Nat) ∧ bt g.natAbs ≤ bt b.natAbs ∧ (0 < b → t.fdiv g = (Rat.divInt t b).num ∧ b.fdiv g = ((Rat.divInt t b).den : Int)) ∧ (b < 0 → t.fdiv (-g) = (Rat.divInt t b).num ∧ b.fdiv (-g) = ((Rat.divInt t b).den : Int)) := by
  have g0 : 0 < Nat.gcd t.natAbs b.natAbs := Nat.gcd_pos_of_pos_right _ (by omega)
  have eg : Int.gcd b t = Nat.gcd t.natAbs b.natAbs := Nat.gcd_comm _ _
  have d1 : ((Nat.gcd t.natAbs b.natAbs : Nat) : Int) ∣ t := Int.ofNat_dvd_left.mpr (Nat.gcd_dvd_left ..)
  have d2 : ((Nat.gcd t.natAbs b.natAbs : Nat) : Int) ∣ b := Int.ofNat_dvd_left.mpr (Nat.gcd_dvd_right ..)
  refine ⟨(Nat.gcd t.natAbs b.natAbs : Nat), by omega, rfl, ?_, fun hp => ⟨?_, ?_⟩, fun hn => ⟨?_, ?_⟩⟩
  · rw [Int.natAbs_natCast]
    exact bt_mono (Nat.le_of_dvd (by omega) (Nat.gcd_dvd_right ..))
  · rw [Int.fdiv_eq_ediv_of_nonneg _ (by omega), Rat.num_divInt, Int.sign_eq_one_of_pos hp, Int.one_mul, eg]
  · rw [Int.fdiv_eq_ediv_of_nonneg _ (by omega), Rat.den_divInt, if_neg hb, eg, Int.natCast_ediv, Int.natAbs_of_nonneg (by omega)]
  · obtain ⟨q, hq⟩ := d1
    rw [Rat.num_divInt, Int.sign_eq_neg_one_of_neg hn, eg]
    have gi : (0 : Int) < ((Nat.gcd t.natAbs b.natAbs : Nat) : Int) := by omega
    generalize ((Nat.gcd t.natAbs b.natAbs : Nat) : Int) = g at *
    rw [hq, show g * q = (-g) * (-q) by rw [Int.neg_mul_neg], Int.mul_fdiv_cancel_left _ (by omega), Int.neg_mul_neg, Int.neg_mul, Int.one_mul, ← Int.mul_neg, Int.mul_ediv_cancel_left _ (by omega)]
  · obtain ⟨q, hq⟩ := d2
    rw [Rat.den_divInt, if_neg hb, eg, Int.natCast_ediv]
    have hn2 : (b.natAbs : Int) = -b := by omega
    rw [hn2]
    have gi : (0 : Int) < ((Nat.gcd t.natAbs b.natAbs : Nat) : Int) := by omega
    generalize ((Nat.gcd t.natAbs b.natAbs : Nat) : Int) = g at *
    rw [hq, show g * q = (-g) * (-q) by rw [Int.neg_mul_neg], Int.mul_fdiv_cancel_left _ (by omega), Int.neg_mul_neg, ← Int.mul_neg, Int.mul_ediv_cancel_left _ (by omega)]
theorem E_low (t b : Int) (h : D) (hb : b ≠ 0) (hs : bt b.natAbs ≤ 9000) : F_in_lowest_terms [.int t, .int b] h = .ok (encQ (Rat.divInt t b)) h := by
  obtain ⟨g, g0, eg, bg, hp, hn⟩ := low_parts t hb
  have d1 : ∀ i, cDiv i g = true := fun i => cDiv_b (by omega) (by omega)
  have d2 : ∀ i, cDiv i (-g) = true := fun i => cDiv_b (by omega) (by rw [Int.natAbs_neg]; omega)
  unfold F_in_lowest_terms encQ
  by_cases h0 : b < 0
  · obtain ⟨e1, e2⟩ := hn h0
    push_cast [h0, ← eg, d2, e1, e2]
  · obtain ⟨e1, e2⟩ := hp (by omega)
    push_cast [h0, ← eg, d1, e1, e2]
theorem E_ratio (t b : Int) (h : D) (hb : b ≠ 0) (hs : bt b.natAbs ≤ 9000) : F__law_ratio [.int t, .int b] h = .ok (encQ (Rat.divInt t b)) h := by
  obtain ⟨g, g0, eg, bg, hp, hn⟩ := low_parts t hb
  have d1 : ∀ i, cDiv i g = true := fun i => cDiv_b (by omega) (by omega)
  have d2 : ∀ i, cDiv i (-g) = true := fun i => cDiv_b (by omega) (by rw [Int.natAbs_neg]; omega)
  have e := E_gcd t b h (by omega)
  rw [← eg] at e
  unfold F__law_ratio encQ
  by_cases h0 : b < 0
  · obtain ⟨e1, e2⟩ := hn h0
    push_cast [h0, e, d2, e1, e2]
  · obtain ⟨e1, e2⟩ := hp (by omega)
    push_cast [h0, e, d1, e1, e2]
end Lw
set_option exponentiation.threshold 20000
namespace Lw
open PySem PySem.Spec L2 Fw Pd
def enc (k : Fg) (x : k.K) : D := match k, x with
  | .q, x => encQ x
  | .m _ _, x => .int (x.val : Int)
def ht (k : Fg) (x : k.K) : Nat := match k, x with
  | .q, x => hq x
  | .m _ _, _ => 0
def fig (k : Fg) : D := .ins "Figures" [("prime", .int k.p), ("zero", enc k 0), ("one", enc k 1)]
theorem enc_fr (k : Fg) (x : k.K) : (enc k x).fr = true := by cases k <;> rfl
theorem enc_vd {k : Fg} {x : k.K} {h : D} : vD (some (some (enc k x))) h = .ok (enc k x) h := by cases k <;> rfl
theorem enc_vm {k : Fg} {x : k.K} {h : D} : vmD (some (some (enc k x))) h = .ok (enc k x) h := by cases k <;> rfl
theorem sfz_enc {k : Fg} {x : k.K} : sfz (enc k x) = enc k x := by cases k <;> rfl
theorem fig_vd {k : Fg} {h : D} : vD (some (some (fig k))) h = .ok (fig k) h := (rfl)
theorem fig_vm {k : Fg} {h : D} : vmD (some (some (fig k))) h = .ok (fig k) h := (rfl)
theorem fig_p {k : Fg} {h : D} : atvD (some (some (fig k))) "prime" h = .ok (.int k.p) h := (rfl)
theorem fig_z {k : Fg} {h : D} : atvD (some (some (fig k))) "zero" h = .ok (enc k 0) h := (rfl)
theorem fig_o {k : Fg} {h : D} : atvD (some (some (fig k))) "one" h = .ok (enc k 1) h := (rfl)
theorem fig_tp {k : Fg} {h : D} : attD (fig k) "prime" h = .ok (.int k.p) h := (rfl)
theorem pq : Fg.q.p = 0 := (rfl)
theorem pm {n : Nat} {h} : (Fg.m n h).p = ((n + 2 : Nat) : Int) := (rfl)
theorem encQ_a (x : Rat) : enc .q x = encQ x := (rfl)
theorem encM_a {n : Nat} {h} (x : Fin (n + 2)) : enc (.m n h) x = .int (x.val : Int) := (rfl)
theorem htQ_a (x : Rat) : ht .q x = hq x := (rfl)
theorem htM_a {n : Nat} {h} (x : Fin (n + 2)) : ht (.m n h) x = 0 := (rfl)
theorem hq_num (a : Rat) : bt a.num.natAbs ≤ hq a := Nat.le_max_left _ _
theorem hq_den (a : Rat) : bt a.den ≤ hq a := Nat.le_max_right _ _
theorem hq_mul (a b : Rat) : hq (a * b) ≤ hq a + hq b := by
  rw [q_mul]
  refine Nat.le_trans (hq_div _ (Int.mul_ne_zero (den_ne a) (den_ne b))) ?_
  rw [Int.natAbs_mul, Int.natAbs_mul, Int.natAbs_natCast, Int.natAbs_natCast]
  have := bt_mul a.num.natAbs b.num.natAbs
  have := bt_mul a.den b.den
  have := hq_num a
  have := hq_num b
  have := hq_den a
  have := hq_den b
  omega
theorem bt_sum (x y : Int) : bt (x + y).natAbs ≤ max (bt x.natAbs) (bt y.natAbs) + 1 := Nat.le_trans (bt_mono (Int.natAbs_add_le x y)) (bt_add _ _)
theorem hq_add (a b : Rat) : hq (a + b) ≤ hq a + hq b + 1 := by
  rw [q_add]
  refine Nat.le_trans (hq_div _ (Int.mul_ne_zero (den_ne a) (den_ne b))) ?_
  have h1 := bt_sum (a.num * b.den) (b.num * a.den)
  rw [Int.natAbs_mul, Int.natAbs_mul, Int.natAbs_natCast, Int.natAbs_natCast] at h1
  rw [Int.natAbs_mul, Int.natAbs_natCast, Int.natAbs_natCast]
  have := bt_mul a.num.natAbs b.den
  have := bt_mul b.num.natAbs a.den
  have := bt_mul a.den b.den
  have := hq_num a
  have := hq_num b
  have := hq_den a
  have := hq_den b
  omega
theorem hq_neg (a : Rat) : hq (-a) = hq a := by
  show max (bt (-a.num).natAbs) (bt a.den) = _
  rw [Int.natAbs_neg]
  rfl
theorem hq_sub (a b : Rat) : hq (a - b) ≤ hq a + hq b + 1 := by
  rw [Rat.sub_eq_add_neg]
  have := hq_add a (-b)
  rw [hq_neg] at this
  exact this
theorem hq_inv (a : Rat) : hq a⁻¹ ≤ hq a + 1 := by
  by_cases h : a = 0
  · subst h; rw [Rat.inv_zero]; decide
  · rw [q_inv]
    refine Nat.le_trans (hq_div _ (num_ne h)) ?_
    rw [Int.natAbs_natCast]
    have := hq_num a
    have := hq_den a
    omega
theorem ht_mul (k : Fg) (a b : k.K) : ht k (a * b) ≤ ht k a + ht k b := by cases k with
  | q => exact hq_mul a b
  | m n h => exact Nat.zero_le _
theorem ht_add (k : Fg) (a b : k.K) : ht k (a + b) ≤ ht k a + ht k b + 1 := by cases k with
  | q => exact hq_add a b
  | m n h => exact Nat.zero_le _
theorem ht_sub (k : Fg) (a b : k.K) : ht k (a - b) ≤ ht k a + ht k b + 1 := by cases k with
  | q => exact hq_sub a b
  | m n h => exact Nat.zero_le _
theorem ht_neg (k : Fg) (a : k.K) : ht k (-a) = ht k a := by cases k with
  | q => exact hq_neg a
  | m n h => rfl
theorem ht_inv (k : Fg) (a : k.K) : ht k (Fd.inv a) ≤ ht k a + 1 := by cases k with
  | q => exact hq_inv a
  | m n h => exact Nat.zero_le _
theorem ht_zero (k : Fg) : ht k 0 ≤ 1 := by cases k with
  | q => exact (by decide : hq 0 ≤ 1)
  | m n h => exact Nat.zero_le _
theorem ht_one (k : Fg) : ht k 1 ≤ 1 := by cases k with
  | q => exact (by decide : hq 1 ≤ 1)
  | m n h => exact Nat.zero_le _
section
variable {n : Nat}
theorem fv_add (a b : Fin (n + 2)) : ((a.val : Int) + b.val).fmod ((n + 2 : Nat) : Int) = ((a + b).val : Int) := by
  rw [show (a.val : Int) + b.val = ((a.val + b.val : Nat) : Int) by omega, fm_nat, Fin.val_add]
theorem fv_mul (a b : Fin (n + 2)) : ((a.val : Int) * b.val).fmod ((n + 2 : Nat) : Int) = ((a * b).val : Int) := by
  rw [show (a.val : Int) * b.val = ((a.val * b.val : Nat) : Int) by rw [Int.natCast_mul], fm_nat, Fin.val_mul]
theorem fv_sub (a b : Fin (n + 2)) : ((a.val : Int) - b.val).fmod ((n + 2 : Nat) : Int) = ((a - b).val : Int) := by
  have hb := b.isLt
  rw [Fin.sub_def]
  show _ = (((n + 2 - b.val + a.val) % (n + 2) : Nat) : Int)
  rw [← fm_nat, Int.fmod_eq_emod_of_nonneg _ (by omega), Int.fmod_eq_emod_of_nonneg _ (by omega)]
  rw [show ((n + 2 - b.val + a.val : Nat) : Int) = ((a.val : Int) - b.val) + ((n + 2 : Nat) : Int) by omega, Int.add_emod_right]
theorem fv_neg (a : Fin (n + 2)) : (-(a.val : Int)).fmod ((n + 2 : Nat) : Int) = ((-a).val : Int) := by
  have := fv_sub 0 a
  rw [show ((0 : Fin (n + 2)).val : Int) - a.val = -(a.val : Int) by simp] at this
  rw [this]
  congr 2
theorem fv_lt (a : Fin (n + 2)) : (a.val : Int) < ((n + 2 : Nat) : Int) := by have := a.isLt; omega
end
theorem pm_le {n : Nat} (h : n = 0 ∨ n = 1 ∨ n = 3 ∨ n = 5 ∨ n = 9 ∨ n = 11) : n + 2 ≤ 13 := by omega
theorem E_plus (k : Fg) (a b : k.K) (h : D) (hs : ht k a + ht k b ≤ 8000) : F__law_plus [.int k.p, enc k a, enc k b] h = .ok (enc k (a + b)) h := by
  cases k with
  | q =>
    have a1 := hq_num a
    have a2 := hq_den a
    have b1 := hq_num b
    have b2 := hq_den b
    replace hs : hq a + hq b ≤ 8000 := hs
    rw [encQ_a, encQ_a, encQ_a, pq]
    by_cases hd : a.den = 1 ∧ b.den = 1
    · obtain ⟨ha, hb⟩ := hd
      have e1 : (a + b).num = a.num + b.num := by
        rw [q_add, ha, hb, Rat.num_divInt]
        simp
      have e2 : (a + b).den = 1 := by
        rw [q_add, ha, hb, Rat.den_divInt]
        simp
      unfold F__law_plus encQ
      push_cast [ha, hb, e1, e2]
    · have m1 : cMul a.num b.den = true := cMul_b (by rw [Int.natAbs_natCast]; omega)
      have m2 : cMul b.num a.den = true := cMul_b (by rw [Int.natAbs_natCast]; omega)
      have m3 : cMul (a.den : Int) b.den = true := cMul_b (by rw [Int.natAbs_natCast, Int.natAbs_natCast]; omega)
      have bm := bt_mul a.den b.den
      have er := E_ratio (a.num * b.den + b.num * a.den) (a.den * b.den) h (Int.mul_ne_zero (den_ne a) (den_ne b)) (by rw [Int.natAbs_mul, Int.natAbs_natCast, Int.natAbs_natCast]; omega)
      rw [← q_add] at er
      have c : ¬ ((a.den : Int) = 1 ∧ (b.den : Int) = 1) := fun z => hd ⟨by omega, by omega⟩
      unfold F__law_plus
      by_cases h1 : (a.den : Int) = 1
      · have h2 : ¬ (b.den : Int) = 1 := fun z => c ⟨h1, z⟩
        have h1n : a.den = 1 := by omega
        unfold encQ at er ⊢
        rw [h1] at m2 m3 er
        push_cast [h1, h2, m1, m2, m3, er]
      · unfold encQ at er ⊢
        push_cast [h1, m1, m2, m3, er]
  | m n hn =>
    have hp := pm_le hn
    have h0 : ¬ ((n + 2 : Nat) : Int) = 0 := by omega
    have e := fv_add a b
    rw [encM_a, encM_a, encM_a, pm]
    unfold F__law_plus
    push_cast [h0, e]
end Lw
set_option exponentiation.threshold 20000
namespace Lw
open PySem PySem.Spec L2 Fw Pd
theorem E_times (k : Fg) (a b : k.K) (h : D) (hs : ht k a + ht k b ≤ 8000) : F__law_times [.int k.p, enc k a, enc k b] h = .ok (enc k (a * b)) h := by
  cases k with
  | q =>
    have a1 := hq_num a
    have a2 := hq_den a
    have b1 := hq_num b
    have b2 := hq_den b
    replace hs : hq a + hq b ≤ 8000 := hs
    rw [encQ_a, encQ_a, encQ_a, pq]
    have m1 : cMul a.num b.num = true := cMul_b (by omega)
    by_cases hd : a.den = 1 ∧ b.den = 1
    · obtain ⟨ha, hb⟩ := hd
      have e1 : (a * b).num = a.num * b.num := by
        rw [q_mul, ha, hb, Rat.num_divInt]
        simp
      have e2 : (a * b).den = 1 := by
        rw [q_mul, ha, hb, Rat.den_divInt]
        simp
      unfold F__law_times encQ
      push_cast [ha, hb, e1, e2, m1]
    · have m3 : cMul (a.den : Int) b.den = true := cMul_b (by rw [Int.natAbs_natCast, Int.natAbs_natCast]; omega)
      have bm := bt_mul a.den b.den
      have er := E_ratio (a.num * b.num) (a.den * b.den) h (Int.mul_ne_zero (den_ne a) (den_ne b)) (by rw [Int.natAbs_mul, Int.natAbs_natCast, Int.natAbs_natCast]; omega)
      rw [← q_mul] at er
      have c : ¬ ((a.den : Int) = 1 ∧ (b.den : Int) = 1) := fun z => hd ⟨by omega, by omega⟩
      unfold F__law_times
      by_cases h1 : (a.den : Int) = 1
      · have h2 : ¬ (b.den : Int) = 1 := fun z => c ⟨h1, z⟩
        unfold encQ at er ⊢
        rw [h1] at m3 er
        push_cast [h1, h2, m1, m3, er]
      · unfold encQ at er ⊢
        push_cast [h1, m1, m3, er]
  | m n hn =>
    have hp := pm_le hn
    have h0 : ¬ ((n + 2 : Nat) : Int) = 0 := by omega
    have e := fv_mul a b
    have := fv_lt a
    have := fv_lt b
    have mm : cMul (a.val : Int) b.val = true := mul_sm (by omega) (by omega) (by omega) (by omega)
    rw [encM_a, encM_a, encM_a, pm]
    unfold F__law_times
    push_cast [h0, e, mm]
theorem E_less (k : Fg) (a b : k.K) (h : D) (hs : ht k a + ht k b ≤ 8000) : F__law_less [.int k.p, enc k a, enc k b] h = .ok (enc k (a - b)) h := by
  cases k with
  | q =>
    have e := E_plus .q a (-b) h (by rw [ht_neg]; exact hs)
    rw [show a + -b = a - b from (Rat.sub_eq_add_neg a b).symm] at e
    rw [encQ_a, encQ_a, encQ_a, pq] at *
    have en : encQ (-b) = .tup [.int (-b.num), .int b.den] := rfl
    rw [en] at e
    unfold F__law_less
    unfold encQ at e ⊢
    push_cast [e]
  | m n hn =>
    have hp := pm_le hn
    have h0 : ¬ ((n + 2 : Nat) : Int) = 0 := by omega
    have e := fv_sub a b
    rw [encM_a, encM_a, encM_a, pm]
    unfold F__law_less
    push_cast [h0, e]
def ic (k : Fg) (i : Int) : k.K := match k with
  | .q => (i : Rat)
  | .m n _ => Fin.ofNat (n + 2) (i.emod ((n + 2 : Nat) : Int)).toNat
theorem ic_val {n : Nat} {h} (i : Int) : ((ic (.m n h) i).val : Int) = i.fmod ((n + 2 : Nat) : Int) := by
  show ((((i.emod ((n + 2 : Nat) : Int)).toNat) % (n + 2) : Nat) : Int) = _
  have h0 := Int.emod_nonneg i (show ((n + 2 : Nat) : Int) ≠ 0 by omega)
  have h1 := Int.emod_lt_of_pos i (show (0 : Int) < ((n + 2 : Nat) : Int) by omega)
  have h0' : 0 ≤ i.emod ((n + 2 : Nat) : Int) := h0
  have h1' : i.emod ((n + 2 : Nat) : Int) < ((n + 2 : Nat) : Int) := h1
  rw [Int.fmod_eq_emod_of_nonneg _ (by omega), Nat.mod_eq_of_lt (by omega), Int.toNat_of_nonneg h0']
  rfl
theorem E_num (k : Fg) (i : Int) (h : D) : F__law_num [.int k.p, .int i] h = .ok (enc k (ic k i)) h := by
  cases k with
  | q =>
    have e1 : (ic .q i : Rat).num = i := Rat.num_intCast i
    have e2 : (ic .q i : Rat).den = 1 := Rat.den_intCast i
    rw [encQ_a, pq]
    unfold F__law_num encQ
    push_cast [e1, e2]
  | m n hn =>
    have h0 : ¬ ((n + 2 : Nat) : Int) = 0 := by omega
    rw [encM_a, ic_val, pm]
    unfold F__law_num
    push_cast [h0]
theorem ic_0 (k : Fg) : ic k 0 = 0 := by cases k with
  | q => rfl
  | m n h => exact Fin.ext (by have := ic_val (h := h) 0; rw [Int.zero_fmod] at this; exact Int.ofNat_inj.mp this)
theorem ic_1 (k : Fg) : ic k 1 = 1 := by cases k with
  | q => rfl
  | m n h =>
    refine Fin.ext (Int.ofNat_inj.mp ?_)
    have := ic_val (h := h) 1
    rw [Int.fmod_eq_emod_of_nonneg _ (by omega), Int.emod_eq_of_lt (by omega) (by omega)] at this
    rw [this]
    show (1 : Int) = ((1 % (n + 2) : Nat) : Int)
    rw [Nat.mod_eq_of_lt (by omega)]
    rfl
theorem E_num0 (k : Fg) (h : D) : F__law_num [.int k.p, .int 0] h = .ok (enc k 0) h := by rw [E_num, ic_0]
theorem E_num1 (k : Fg) (h : D) : F__law_num [.int k.p, .int 1] h = .ok (enc k 1) h := by rw [E_num, ic_1]
theorem fin_pow {n : Nat} (h : n = 0 ∨ n = 1 ∨ n = 3 ∨ n = 5 ∨ n = 9 ∨ n = 11) : ∀ a b : Fin (n + 2), b ≠ 0 → (Nat.repeat (fun x => x * b) n a) = a * finInv b := by
  rcases h with rfl | rfl | rfl | rfl | rfl | rfl <;> decide +kernel
theorem rep_next {α : Type} (f : α → α) : ∀ (m : Nat) (x : α), Nat.repeat f (m + 1) x = Nat.repeat f m (f x)
  | 0, _ => rfl
  | m + 1, x => congrArg f (rep_next f m x)
theorem over_loop {n : Nat} (a b : Fin (n + 2)) (hn : n + 2 ≤ 13) (h d0 : D) : ∀ (m s : Nat) (x : Fin (n + 2)) (o : Option D), ∃ o', forGo (bNm 4) (sSet 3 (eOp oMod (eBi kInt (eCons (eOp oMul (eV 3) (eV 2)) eNil)) (eV 0))) (gen m fun i => .int ((s + i : Nat) : Int)) [some (.int ((n + 2 : Nat) : Int)), some d0, some (.int (b.val : Int)), some (.int (x.val : Int)), o] h = .nx [some (.int ((n + 2 : Nat) : Int)), some d0, some (.int (b.val : Int)), some (.int ((Nat.repeat (fun x => x * b) m x).val : Int)), o'] h
  | 0, s, x, o => ⟨o, rfl⟩
  | m + 1, s, x, o => by
    have e := fv_mul x b
    have := fv_lt x
    have := fv_lt b
    have mm : cMul (x.val : Int) b.val = true := mul_sm (by omega) (by omega) (by omega) (by omega)
    have h0 : ¬ ((n + 2 : Nat) : Int) = 0 := by omega
    obtain ⟨o', ih⟩ := over_loop a b hn h d0 m (s + 1) (x * b) (some (.int ((s + 0 : Nat) : Int)))
    refine ⟨o', ?_⟩
    rw [gen_succ]
    rw [rep_next (fun x => x * b) m x, ← ih, forGo]
    have eg : (gen m fun i => D.int ((s + (i + 1) : Nat) : Int)) = gen m fun i => D.int ((s + 1 + i : Nat) : Int) := gen_congr fun i _ => by rw [show s + (i + 1) = s + 1 + i by omega]
    rw [eg]
    push_cast [h0, mm, e]
theorem E_over (k : Fg) (a b : k.K) (h : D) (hb : b ≠ 0) (hs : ht k a + ht k b ≤ 8000) : F__law_over [.int k.p, enc k a, enc k b] h = .ok (enc k (a * Fd.inv b)) h := by
  cases k with
  | q =>
    have a1 := hq_num a
    have a2 := hq_den a
    have b1 := hq_num b
    have b2 := hq_den b
    replace hs : hq a + hq b ≤ 8000 := hs
    have m1 : cMul a.num b.den = true := cMul_b (by rw [Int.natAbs_natCast]; omega)
    have m3 : cMul (a.den : Int) b.num = true := cMul_b (by rw [Int.natAbs_natCast]; omega)
    have bm := bt_mul a.den b.num.natAbs
    have er := E_ratio (a.num * b.den) (a.den * b.num) h (Int.mul_ne_zero (den_ne a) (num_ne hb)) (by rw [Int.natAbs_mul, Int.natAbs_natCast]; omega)
    rw [← q_over] at er
    rw [encQ_a, encQ_a, encQ_a, pq]
    show _ = Ex.ok (encQ (a * b⁻¹)) h
    unfold F__law_over
    unfold encQ at er ⊢
    push_cast [m1, m3, er]
  | m n hn =>
    have hp := pm_le hn
    have h0 : ¬ ((n + 2 : Nat) : Int) = 0 := by omega
    obtain ⟨o', e⟩ := over_loop a b hp h (.int (a.val : Int)) n 0 a none
    rw [fin_pow hn a b hb] at e
    rw [encM_a, encM_a, encM_a, pm]
    have e2 : (((n + 2 : Nat) : Int) - 2).toNat = n := by omega
    have eg : (gen n fun i => D.int ((0 + i : Nat) : Int)) = gen n fun i => D.int (i : Int) := gen_congr fun i _ => by rw [Nat.zero_add]
    rw [eg] at e
    unfold F__law_over
    push_cast [h0, e2, e]
    rfl
end Lw
set_option exponentiation.threshold 20000
namespace Lw
open PySem PySem.Spec L2 Fw Pd
def methD (nm m : Str) (n : Nat) (F : Fn) (dd : List D) (fs : EF (List D)) (δ : DE) (d h1 : D) : Ex D := match d with
  | .ins n' xs => if n' = nm ∧ xs.lookup m = none then (fs δ h1).bind fun ds h2 => if (d :: (ds ++ dd)).length = n then F (d :: (ds ++ dd)) h2 else .bad else .bad
  | _ => .bad
theorem eMeth_f (nm m : Str) (n : Nat) (F : Fn) (dd : List D) (fo : EF D) (fs : EF (List D)) (δ : DE) (h : D) : eMeth nm m n F dd fo fs δ h = (fo δ h).bind fun d h1 => methD nm m n F dd fs δ d h1 := (rfl)
theorem methD_ok {m : Str} {n : Nat} {F : Fn} {dd : List D} {fs : EF (List D)} {δ : DE} {h1 : D} (k : Fg) (hm : List.lookup m [("prime", D.int k.p), ("zero", enc k 0), ("one", enc k 1)] = none) : methD "Figures" m n F dd fs δ (fig k) h1 = (fs δ h1).bind fun ds h2 => if (fig k :: (ds ++ dd)).length = n then F (fig k :: (ds ++ dd)) h2 else .bad := by
  show (if ("Figures" : Str) = "Figures" ∧ _ then _ else _) = _
  rw [if_pos ⟨rfl, hm⟩]
theorem md_times {n : Nat} {F : Fn} {dd : List D} {fs : EF (List D)} {δ : DE} {h1 : D} {k : Fg} : methD "Figures" "times" n F dd fs δ (fig k) h1 = (fs δ h1).bind fun ds h2 => if (fig k :: (ds ++ dd)).length = n then F (fig k :: (ds ++ dd)) h2 else .bad := methD_ok k (rfl)
theorem md_over {n : Nat} {F : Fn} {dd : List D} {fs : EF (List D)} {δ : DE} {h1 : D} {k : Fg} : methD "Figures" "over" n F dd fs δ (fig k) h1 = (fs δ h1).bind fun ds h2 => if (fig k :: (ds ++ dd)).length = n then F (fig k :: (ds ++ dd)) h2 else .bad := methD_ok k (rfl)
theorem md_plus {n : Nat} {F : Fn} {dd : List D} {fs : EF (List D)} {δ : DE} {h1 : D} {k : Fg} : methD "Figures" "plus" n F dd fs δ (fig k) h1 = (fs δ h1).bind fun ds h2 => if (fig k :: (ds ++ dd)).length = n then F (fig k :: (ds ++ dd)) h2 else .bad := methD_ok k (rfl)
theorem md_minus {n : Nat} {F : Fn} {dd : List D} {fs : EF (List D)} {δ : DE} {h1 : D} {k : Fg} : methD "Figures" "minus" n F dd fs δ (fig k) h1 = (fs δ h1).bind fun ds h2 => if (fig k :: (ds ++ dd)).length = n then F (fig k :: (ds ++ dd)) h2 else .bad := methD_ok k (rfl)
theorem md_negative {n : Nat} {F : Fn} {dd : List D} {fs : EF (List D)} {δ : DE} {h1 : D} {k : Fg} : methD "Figures" "negative" n F dd fs δ (fig k) h1 = (fs δ h1).bind fun ds h2 => if (fig k :: (ds ++ dd)).length = n then F (fig k :: (ds ++ dd)) h2 else .bad := methD_ok k (rfl)
theorem md_compare {n : Nat} {F : Fn} {dd : List D} {fs : EF (List D)} {δ : DE} {h1 : D} {k : Fg} : methD "Figures" "compare" n F dd fs δ (fig k) h1 = (fs δ h1).bind fun ds h2 => if (fig k :: (ds ++ dd)).length = n then F (fig k :: (ds ++ dd)) h2 else .bad := methD_ok k (rfl)
theorem md_whole_number {n : Nat} {F : Fn} {dd : List D} {fs : EF (List D)} {δ : DE} {h1 : D} {k : Fg} : methD "Figures" "whole_number" n F dd fs δ (fig k) h1 = (fs δ h1).bind fun ds h2 => if (fig k :: (ds ++ dd)).length = n then F (fig k :: (ds ++ dd)) h2 else .bad := methD_ok k (rfl)
theorem md_number_of {n : Nat} {F : Fn} {dd : List D} {fs : EF (List D)} {δ : DE} {h1 : D} {k : Fg} : methD "Figures" "number_of" n F dd fs δ (fig k) h1 = (fs δ h1).bind fun ds h2 => if (fig k :: (ds ++ dd)).length = n then F (fig k :: (ds ++ dd)) h2 else .bad := methD_ok k (rfl)
theorem md_is_number {n : Nat} {F : Fn} {dd : List D} {fs : EF (List D)} {δ : DE} {h1 : D} {k : Fg} : methD "Figures" "is_number" n F dd fs δ (fig k) h1 = (fs δ h1).bind fun ds h2 => if (fig k :: (ds ++ dd)).length = n then F (fig k :: (ds ++ dd)) h2 else .bad := methD_ok k (rfl)
theorem md_all_numbers {n : Nat} {F : Fn} {dd : List D} {fs : EF (List D)} {δ : DE} {h1 : D} {k : Fg} : methD "Figures" "all_numbers" n F dd fs δ (fig k) h1 = (fs δ h1).bind fun ds h2 => if (fig k :: (ds ++ dd)).length = n then F (fig k :: (ds ++ dd)) h2 else .bad := methD_ok k (rfl)
theorem eq_enc (k : Fg) (a b : k.K) : eqD (enc k a) (enc k b) = some (decide (a = b)) := by
  cases k with
  | q =>
    show eqD (encQ a) (encQ b) = _
    unfold encQ eqD
    simp only [toPy, toPyL, Option.map_some]
    have sh : ∀ i j : Int, SeqAt.shaped (PyData.tuple [.int i, .int j]) = true := fun i j => by
      unfold SeqAt.shaped
      simp only [PyData.canLay0, PyData.canLayAll0, PyData.depth, PyData.depthAll]
      rfl
    rw [sh, sh]
    simp only [PyData.eqv, PyData.eqvAll, Bool.and_self, Bool.and_true, if_true]
    congr 1
    by_cases h : a = b
    · subst h
      rw [beq_self_eq_true, beq_self_eq_true, decide_eq_true rfl]
      rfl
    · rw [decide_eq_false h, Bool.and_eq_false_iff]
      by_cases hn : a.num = b.num
      · right
        rw [beq_eq_false_iff_ne]
        intro hd
        exact h (Rat.ext hn (by omega))
      · left
        rw [beq_eq_false_iff_ne]
        exact hn
  | m n hn =>
    show eqD (.int (a.val : Int)) (.int (b.val : Int)) = _
    rw [eq_int]
    congr 1
    refine decide_eq_decide.mpr ⟨fun z => Fin.ext (Int.ofNat_inj.mp z), fun z => by rw [z]⟩
theorem enc_inj {k : Fg} {a b : k.K} (h : enc k a = enc k b) : a = b := by
  have := eq_enc k a b
  rw [h, eq_enc, decide_eq_true rfl] at this
  exact of_decide_eq_true (Option.some.inj this).symm
theorem p_zero (k : Fg) : k.p = 0 ↔ k = .q := by
  cases k with
  | q => exact ⟨fun _ => rfl, fun _ => rfl⟩
  | m n h => exact ⟨fun z => by rw [pm] at z; omega, fun z => nomatch z⟩
theorem p_ge (k : Fg) : 0 ≤ k.p ∧ k.p ≤ 13 := by
  cases k with
  | q => exact ⟨by decide, by decide⟩
  | m n h => have := pm_le h; rw [pm]; omega
theorem E_ftimes (k : Fg) (a b : k.K) (h : D) (hs : ht k a + ht k b ≤ 8000) : F_Figures_times [fig k, enc k a, enc k b] h = .ok (enc k (a * b)) h := by
  cases k with
  | q =>
    have a1 := hq_num a
    have a2 := hq_den a
    have b1 := hq_num b
    have b2 := hq_den b
    replace hs : hq a + hq b ≤ 8000 := hs
    have m1 : cMul a.num b.num = true := cMul_b (by omega)
    have m3 : cMul (a.den : Int) b.den = true := cMul_b (by rw [Int.natAbs_natCast, Int.natAbs_natCast]; omega)
    have bm := bt_mul a.den b.den
    have er := E_low (a.num * b.num) (a.den * b.den) h (Int.mul_ne_zero (den_ne a) (den_ne b)) (by rw [Int.natAbs_mul, Int.natAbs_natCast, Int.natAbs_natCast]; omega)
    rw [← q_mul] at er
    rw [encQ_a, encQ_a, encQ_a]
    unfold F_Figures_times F_ratio_times
    unfold encQ at er ⊢
    push_cast [fig_p, pq, m1, m3, er]
  | m n hn =>
    have hp := pm_le hn
    have h0 : ¬ ((n + 2 : Nat) : Int) = 0 := by omega
    have e := fv_mul a b
    have := fv_lt a
    have := fv_lt b
    have mm : cMul (a.val : Int) b.val = true := mul_sm (by omega) (by omega) (by omega) (by omega)
    rw [encM_a, encM_a, encM_a]
    unfold F_Figures_times
    push_cast [fig_p, pm, h0, e, mm]
theorem rest_loop {n : Nat} (b : Fin (n + 2)) (hn : n + 2 ≤ 13) (h : D) : ∀ (m s : Nat) (o : Option D), (∃ r : Fin (n + 2), s ≤ r.val ∧ r.val < s + m ∧ b * r = 1) → ∃ r : Fin (n + 2), b * r = 1 ∧ forGo (bNm 2) (sIf (eT (eOp oEq (eOp oMod (eOp oMul (eV 0) (eV 2)) (eV 1)) (eC (.int 1)))) (sRet (eV 2)) sNil) (gen m fun i => .int ((s + i : Nat) : Int)) [some (.int (b.val : Int)), some (.int ((n + 2 : Nat) : Int)), o] h = .ret (.int (r.val : Int)) h
  | 0, s, o, ⟨r, h1, h2, _⟩ => by omega
  | m + 1, s, o, ⟨r, h1, h2, h3⟩ => by
    have h0 : ¬ ((n + 2 : Nat) : Int) = 0 := by omega
    have := fv_lt b
    have hs : s < n + 2 := by have := r.isLt; omega
    have mm : cMul (b.val : Int) (s : Int) = true := mul_sm (by omega) (by omega) (by omega) (by omega)
    have e := fv_mul b ⟨s, hs⟩
    have e' : ((b.val : Int) * (s : Int)).fmod ((n + 2 : Nat) : Int) = ((b * ⟨s, hs⟩).val : Int) := e
    rw [gen_succ]
    by_cases hr : b * ⟨s, hs⟩ = 1
    · refine ⟨⟨s, hs⟩, hr, ?_⟩
      have ev : (((b * ⟨s, hs⟩ : Fin (n + 2)).val : Nat) : Int) = 1 := by
        rw [hr]
        show ((1 % (n + 2) : Nat) : Int) = 1
        rw [Nat.mod_eq_of_lt (by omega)]
        rfl
      rw [ev] at e'
      rw [forGo, Nat.add_zero]
      push_cast [h0, mm, e']
    · have ev : ¬ (((b * ⟨s, hs⟩ : Fin (n + 2)).val : Nat) : Int) = 1 := fun z => hr (Fin.ext (by
        show _ = 1 % (n + 2)
        rw [Nat.mod_eq_of_lt (by omega)]
        omega))
      have rs : r.val ≠ s := fun z => hr (by rw [← h3]; congr 1; exact Fin.ext z.symm)
      obtain ⟨r2, g1, g2⟩ := rest_loop b hn h m (s + 1) (some (.int ((s + 0 : Nat) : Int))) ⟨r, by omega, by omega, h3⟩
      refine ⟨r2, g1, ?_⟩
      have eg : (gen m fun i => D.int ((s + (i + 1) : Nat) : Int)) = gen m fun i => D.int ((s + 1 + i : Nat) : Int) := gen_congr fun i _ => by rw [show s + (i + 1) = s + 1 + i by omega]
      rw [← g2, forGo, eg, Nat.add_zero]
      push_cast [h0, mm, e', ev]
theorem fin_unique {n : Nat} (hn : n = 0 ∨ n = 1 ∨ n = 3 ∨ n = 5 ∨ n = 9 ∨ n = 11) (b r : Fin (n + 2)) (hb : b ≠ 0) (e1 : b * r = 1) : r = finInv b := by
  have e0 := fin_inv hn b hb
  have : r * (b * finInv b) = (b * r) * finInv b := by rw [← Fin.mul_assoc, Fin.mul_comm r b]
  rw [e0, e1, Fin.mul_one, Fin.one_mul] at this
  exact this
theorem finInv_ne {n : Nat} (hn : n = 0 ∨ n = 1 ∨ n = 3 ∨ n = 5 ∨ n = 9 ∨ n = 11) (b : Fin (n + 2)) (hb : b ≠ 0) : (finInv b).val ≠ 0 := fun z => by
  have e0 := fin_inv hn b hb
  rw [show finInv b = 0 from Fin.ext z, Fin.mul_zero] at e0
  have := congrArg Fin.val e0
  simp at this
theorem E_rest {n : Nat} (hn : n = 0 ∨ n = 1 ∨ n = 3 ∨ n = 5 ∨ n = 9 ∨ n = 11) (b : Fin (n + 2)) (hb : b ≠ 0) (p : Int) (ep : p = ((n + 2 : Nat) : Int)) (h : D) : F_undone_rest [.int (b.val : Int), .int p] h = .ok (.int ((finInv b).val : Int)) h := by
  have hp := pm_le hn
  have e0 := fin_inv hn b hb
  obtain ⟨r, e1, e2⟩ := rest_loop b hp h (n + 1) 1 none ⟨finInv b, by have := finInv_ne hn b hb; omega, by have := (finInv b).isLt; omega, e0⟩
  rw [fin_unique hn b r hb e1, ← ep] at e2
  have eg : (gen (n + 1) fun i => D.int ((1 + i : Nat) : Int)) = gen (n + 1) fun i => D.int (1 + (i : Int)) := gen_congr fun i _ => by rw [Int.natCast_add]; rfl
  rw [eg] at e2
  have et : (p - 1).toNat = n + 1 := by omega
  unfold F_undone_rest
  push_cast [et, e2]
theorem E_fover (k : Fg) (a b : k.K) (h : D) (hb : b ≠ 0) (hs : ht k a + ht k b ≤ 8000) : F_Figures_over [fig k, enc k a, enc k b] h = .ok (enc k (a * Fd.inv b)) h := by
  cases k with
  | q =>
    have a1 := hq_num a
    have a2 := hq_den a
    have b1 := hq_num b
    have b2 := hq_den b
    replace hs : hq a + hq b ≤ 8000 := hs
    have m1 : cMul a.num b.den = true := cMul_b (by rw [Int.natAbs_natCast]; omega)
    have m3 : cMul (a.den : Int) b.num = true := cMul_b (by rw [Int.natAbs_natCast]; omega)
    have bm := bt_mul a.den b.num.natAbs
    have er := E_low (a.num * b.den) (a.den * b.num) h (Int.mul_ne_zero (den_ne a) (num_ne hb)) (by rw [Int.natAbs_mul, Int.natAbs_natCast]; omega)
    rw [← q_over] at er
    rw [encQ_a, encQ_a, encQ_a]
    show _ = Ex.ok (encQ (a * b⁻¹)) h
    have nb := num_ne hb
    unfold F_Figures_over F_ratio_over
    unfold encQ at er ⊢
    push_cast [fig_p, pq, m1, m3, er, nb]
  | m n hn =>
    have hp := pm_le hn
    obtain ⟨p, ep⟩ : ∃ p, p = ((n + 2 : Nat) : Int) := ⟨_, rfl⟩
    have pmp : (Fg.m n hn).p = p := by rw [pm, ep]
    have h0 : ¬ p = 0 := by omega
    have e := fv_mul a (finInv b)
    rw [← ep] at e
    have er := E_rest hn b hb p ep h
    have := fv_lt a
    have := fv_lt (finInv b)
    have mm : cMul (a.val : Int) (finInv b).val = true := mul_sm (by omega) (by omega) (by omega) (by omega)
    rw [encM_a, encM_a, encM_a]
    unfold F_Figures_over
    push_cast [fig_p, pmp, h0, er, e, mm]
    rfl
end Lw
set_option exponentiation.threshold 20000
namespace Lw
open PySem PySem.Spec L2 Fw Pd
def irow (c : Nat) (w : Nat → Int) : D := .lst (gen c fun j => .int (w j))
def erow (k : Fg) (c : Nat) (x : Nat → k.K) : D := .tup (gen c fun j => enc k (x j))
def lcmN : Nat → (Nat → Nat) → Nat
  | 0, _ => 1
  | n + 1, d => Nat.lcm (lcmN n d) (d n)
def sumN : Nat → (Nat → Nat) → Nat
  | 0, _ => 0
  | n + 1, f => sumN n f + f n
theorem lcmN_pos {d : Nat → Nat} (hd : ∀ i, 0 < d i) : ∀ n, 0 < lcmN n d
  | 0 => Nat.one_pos
  | n + 1 => Nat.lcm_pos (lcmN_pos hd n) (hd n)
theorem lcmN_bt {d : Nat → Nat} (hd : ∀ i, 0 < d i) : ∀ n, bt (lcmN n d) ≤ 1 + sumN n fun i => bt (d i)
  | 0 => (by decide : bt 1 ≤ 1 + 0)
  | n + 1 => by
    have ih := lcmN_bt hd n
    have h1 : Nat.lcm (lcmN n d) (d n) ≤ lcmN n d * d n := Nat.le_of_dvd (Nat.mul_pos (lcmN_pos hd n) (hd n)) (Nat.lcm_dvd_mul _ _)
    have h2 := bt_mono h1
    have h3 := bt_mul (lcmN n d) (d n)
    show bt (Nat.lcm (lcmN n d) (d n)) ≤ 1 + (sumN n (fun i => bt (d i)) + bt (d n))
    omega
theorem lcmN_dvd {d : Nat → Nat} {i : Nat} : ∀ {n : Nat}, i < n → d i ∣ lcmN n d
  | n + 1, h => by
    by_cases e : i = n
    · subst e; exact Nat.dvd_lcm_right _ _
    · exact Nat.dvd_trans (lcmN_dvd (n := n) (by omega)) (Nat.dvd_lcm_left _ _)
/-- a loop by its states -/
theorem for_gen {bind : D → DE → Option DE} {body : SF} {d : Nat → D} {h : D} (S : Nat → DE) : ∀ (n s : Nat), (∀ i, s ≤ i → i < s + n → ∃ δ2, bind (d i) (S i) = some δ2 ∧ body δ2 h = .nx (S (i + 1)) h) → forGo bind body (gen n fun i => d (s + i)) (S s) h = .nx (S (s + n)) h
  | 0, s, _ => rfl
  | n + 1, s, k => by
    obtain ⟨δ2, e1, e2⟩ := k s (Nat.le_refl _) (by omega)
    have ih := for_gen S n (s + 1) fun i h1 h2 => k i (by omega) (by omega)
    have eg : (gen n fun i => d (s + (i + 1))) = gen n fun i => d (s + 1 + i) := gen_congr fun i _ => by rw [show s + (i + 1) = s + 1 + i by omega]
    rw [gen_succ, forGo, Nat.add_zero, e1]
    simp only [e2]
    rw [eg, ih, show s + 1 + n = s + (n + 1) by omega]
theorem for_gen0 {bind : D → DE → Option DE} {body : SF} {d : Nat → D} {h : D} (S : Nat → DE) {n : Nat} (k : ∀ i, i < n → ∃ δ2, bind (d i) (S i) = some δ2 ∧ body δ2 h = .nx (S (i + 1)) h) : forGo bind body (gen n d) (S 0) h = .nx (S n) h := by
  have := for_gen (bind := bind) (body := body) (d := d) (h := h) S n 0 fun i _ h2 => k i (by omega)
  rw [Nat.zero_add] at this
  rw [← this]
  congr 1
  exact gen_congr fun i _ => by rw [Nat.zero_add]
/-- a loop's name: what it holds at turn i -/
def lv (o : Option D) (d : Nat → D) : Nat → Option D
  | 0 => o
  | i + 1 => some (d i)
theorem lv_0 {o : Option D} {d : Nat → D} : lv o d 0 = o := rfl
theorem lv_s {o : Option D} {d : Nat → D} {i : Nat} : lv o d (i + 1) = some (d i) := rfl
theorem gcd_nat (a b : Nat) : Nat.gcd (Int.natAbs (a : Int)) (Int.natAbs (b : Int)) = Nat.gcd a b := by rw [Int.natAbs_natCast, Int.natAbs_natCast]
theorem E_bottom (c : Nat) (x : Nat → Rat) (h : D) (hc : c ≤ 1000) (hs : ∀ n, n ≤ c → bt (lcmN n fun i => (x i).den) ≤ 4000) (hd : ∀ i, i < c → bt (x i).den ≤ 4000) (hn : ∀ i, i < c → bt (x i).num.natAbs ≤ 4000) :
    F_over_one_bottom [.tup (gen c fun j => encQ (x j))] h = .ok (.tup [irow c fun j => (x j).num * ((lcmN c fun i => (x i).den : Nat) : Int).fdiv (x j).den, .int (lcmN c fun i => (x i).den : Nat)]) h := by
  have dp : ∀ i, 0 < (x i).den := fun i => (x i).den_pos
  have lp := lcmN_pos (d := fun i => (x i).den) dp
  have loop := for_gen0 (h := h) (bind := bTp [(bNm 2), (bNm 3)]) (body := (sSet 1 (eOp oDiv (eOp oMul (eV 1) (eV 3)) (eBi kGcd (eCons (eV 1) (eCons (eV 3) eNil)))))) (d := fun j => encQ (x j)) (n := c)
    (fun i => [some (.tup (gen c fun j => encQ (x j))), some (.int (lcmN i fun i => (x i).den : Nat)), lv none (fun i => .int (x i).num) i, lv none (fun i => .int ((x i).den : Nat)) i, none]) fun i hi => by
    have p1 := lp i
    have b1 := hs i (by omega)
    have b2 := hd i hi
    have mm : cMul (lcmN i fun i => (x i).den : Nat) ((x i).den : Nat) = true := cMul_b (by rw [Int.natAbs_natCast, Int.natAbs_natCast]; omega)
    have g0 : 0 < Nat.gcd (lcmN i fun i => (x i).den) (x i).den := Nat.gcd_pos_of_pos_right _ (dp i)
    have g1 : Nat.gcd (lcmN i fun i => (x i).den) (x i).den ≤ (x i).den := Nat.le_of_dvd (dp i) (Nat.gcd_dvd_right ..)
    have dd : ∀ z, cDiv z (Nat.gcd (lcmN i fun i => (x i).den) (x i).den : Nat) = true := fun z => cDiv_b (by omega) (by rw [Int.natAbs_natCast]; have := bt_mono g1; omega)
    have ev : (((lcmN i fun i => (x i).den : Nat) : Int) * ((x i).den : Nat)).fdiv (Nat.gcd (lcmN i fun i => (x i).den) (x i).den : Nat) = (lcmN (i + 1) fun i => (x i).den : Nat) := by
      rw [Int.fdiv_eq_ediv_of_nonneg _ (by omega), ← Int.natCast_mul, ← Int.natCast_ediv]
      rfl
    refine ⟨_, rfl, ?_⟩
    push_cast [lv_s, gcd_nat, mm, dd, ev]
  have L4 := hs c (Nat.le_refl _)
  have Lp := lp c
  have dd2 : ∀ i, i < c → cDiv (lcmN c fun i => (x i).den : Nat) ((x i).den : Nat) = true := fun i hi => cDiv_b (by have := dp i; omega) (by rw [Int.natAbs_natCast]; have := hd i hi; omega)
  have mm2 : ∀ i, i < c → cMul (x i).num (((lcmN c fun i => (x i).den : Nat) : Int).fdiv ((x i).den : Nat)) = true := fun i hi => by
    have h1 := hn i hi
    have h2 : (((lcmN c fun i => (x i).den : Nat) : Int).fdiv ((x i).den : Nat)).natAbs ≤ lcmN c fun i => (x i).den := by
      have := fd (a := ((lcmN c fun i => (x i).den : Nat) : Int)) (m := ((x i).den : Nat)) (by have := dp i; omega) (by omega)
      omega
    have := bt_mono h2
    exact cMul_b (by omega)
  have lv0 : ∀ i, vD (some (some (encQ (x i)))) h = .ok (encQ (x i)) h := fun i => rfl
  unfold F_over_one_bottom irow
  have l0 : ((lcmN 0 fun i => (x i).den : Nat) : Int) = 1 := rfl
  simp only [lv_0, l0] at loop
  push_cast [loop]
  unfold encQ
  push_cast [dd2, mm2]
end Lw
set_option exponentiation.threshold 20000
namespace Lw
open PySem PySem.Spec L2 Fw Pd
def gcdN : Nat → (Nat → Int) → Nat
  | 0, _ => 0
  | n + 1, w => Nat.gcd (gcdN n w) (w n).natAbs
theorem gcdN_dvd {w : Nat → Int} {i : Nat} : ∀ {n : Nat}, i < n → gcdN n w ∣ (w i).natAbs
  | n + 1, h => by
    by_cases e : i = n
    · subst e; exact Nat.gcd_dvd_right _ _
    · exact Nat.dvd_trans (Nat.gcd_dvd_left _ _) (gcdN_dvd (n := n) (by omega))
theorem gcdN_bt {w : Nat → Int} {B : Nat} : ∀ {n : Nat}, (∀ i, i < n → bt (w i).natAbs ≤ B) → bt (gcdN n w) ≤ B
  | 0, _ => by show bt 0 ≤ B; exact Nat.zero_le _
  | n + 1, k => by
    have ih := gcdN_bt (n := n) fun i hi => k i (by omega)
    show bt (Nat.gcd (gcdN n w) (w n).natAbs) ≤ B
    by_cases h0 : (w n).natAbs = 0
    · rw [h0, Nat.gcd_zero_right]; exact ih
    · exact Nat.le_trans (bt_mono (Nat.le_of_dvd (by omega) (Nat.gcd_dvd_right ..))) (k n (by omega))
theorem gcdN_pos {w : Nat → Int} {i n : Nat} (hi : i < n) (h : w i ≠ 0) : 0 < gcdN n w := by
  have := gcdN_dvd (w := w) hi
  rcases Nat.eq_zero_or_pos (gcdN n w) with z | z
  · rw [z, Nat.zero_dvd] at this; omega
  · exact z
theorem E_content (c : Nat) (w : Nat → Int) (h : D) (hc : c ≤ 1000) : F_content_of [irow c w] h = .ok (.int (gcdN c w : Nat)) h := by
  have loop := for_gen0 (h := h) (bind := bNm 2) (body := (sSet 1 (eBi kGcd (eCons (eV 1) (eCons (eV 2) eNil))))) (d := fun j => .int (w j)) (n := c)
    (fun i => [some (irow c w), some (.int (gcdN i w : Nat)), lv none (fun i => .int (w i)) i]) fun i hi => by
    refine ⟨_, rfl, ?_⟩
    have e : Nat.gcd (Int.natAbs ((gcdN i w : Nat) : Int)) (w i).natAbs = gcdN (i + 1) w := by rw [Int.natAbs_natCast]; rfl
    push_cast [lv_s, e]
  have l0 : ((gcdN 0 w : Nat) : Int) = 0 := rfl
  simp only [lv_0, l0] at loop
  unfold F_content_of irow
  unfold irow at loop
  push_cast [loop]
/-- a row divided by its content -/
def lowT (c : Nat) (w : Nat → Int) : Nat → Int := fun j => if 1 < gcdN c w then (w j).fdiv (gcdN c w : Nat) else w j
theorem lowT_ok {c : Nat} {w : Nat → Int} : ∃ d : Nat, 0 < d ∧ ∀ j, j < c → w j = (d : Int) * lowT c w j := by
  unfold lowT
  by_cases h : 1 < gcdN c w
  · refine ⟨gcdN c w, by omega, fun j hj => ?_⟩
    rw [if_pos h, Int.fdiv_eq_ediv_of_nonneg _ (by omega), Int.mul_ediv_cancel' (Int.ofNat_dvd_left.mpr (gcdN_dvd hj))]
  · exact ⟨1, by omega, fun j hj => by rw [if_neg h]; omega⟩
theorem lowT_bt {c : Nat} {w : Nat → Int} {j : Nat} (hj : j < c) : bt (lowT c w j).natAbs ≤ bt (w j).natAbs := by
  obtain ⟨d, d0, e⟩ := lowT_ok (c := c) (w := w)
  refine bt_mono ?_
  rw [e j hj, Int.natAbs_mul, Int.natAbs_natCast]
  exact Nat.le_mul_of_pos_left _ d0
theorem E_lowT (c : Nat) (w : Nat → Int) (h : D) (hc : c ≤ 1000) (hb : ∀ i, i < c → bt (w i).natAbs ≤ 9000) : F_in_low_terms [irow c w] h = .ok (irow c (lowT c w)) h := by
  have e := E_content c w h hc
  have bg := gcdN_bt hb
  unfold F_in_low_terms irow lowT
  unfold irow at e
  by_cases h1 : 1 < gcdN c w
  · have h1' : (1 : Int) < (gcdN c w : Nat) := by omega
    have dd : ∀ z, cDiv z (gcdN c w : Nat) = true := fun z => cDiv_b (by omega) (by rw [Int.natAbs_natCast]; exact bg)
    push_cast [e, h1', h1, dd]
  · have h1' : ¬ (1 : Int) < (gcdN c w : Nat) := by omega
    push_cast [e, h1', h1]
/-- bits of the bottom -/
def hd (k : Fg) (x : k.K) : Nat := match k, x with
  | .q, x => bt x.den
  | .m _ _, _ => 0
def wholeR (k : Fg) (c : Nat) (x : Nat → k.K) : Nat → Int := match k, x with
  | .q, x => lowT c fun j => (x j).num * ((lcmN c fun i => (x i).den : Nat) : Int).fdiv (x j).den
  | .m _ _, x => fun j => ((x j).val : Int)
theorem E_whole_row (k : Fg) (c : Nat) (x : Nat → k.K) (h : D) (hc : c ≤ 1000) (hs : 1 + (sumN c fun i => hd k (x i)) ≤ 4000) (hx : ∀ i, i < c → ht k (x i) ≤ 4000) : F_whole_row [fig k, erow k c x] h = .ok (irow c (wholeR k c x)) h := by
  cases k with
  | q =>
    have lb : ∀ n, n ≤ c → bt (lcmN n fun i => (x i).den) ≤ 4000 := fun n hn => by
      have := lcmN_bt (d := fun i => (x i).den) (fun i => (x i).den_pos) n
      have h2 : ∀ m n, (sumN n fun i => bt (x i).den) ≤ sumN (n + m) fun i => bt (x i).den := fun m n => by
        induction m with
        | zero => exact Nat.le_refl _
        | succ m ih => exact Nat.le_trans ih (Nat.le_add_right _ _)
      have h3 := h2 (c - n) n
      rw [show n + (c - n) = c by omega] at h3
      have hs' : 1 + (sumN c fun i => bt (x i).den) ≤ 4000 := hs
      omega
    have e1 := E_bottom c x h hc lb (fun i hi => Nat.le_trans (hq_den (x i)) (hx i hi)) (fun i hi => Nat.le_trans (hq_num (x i)) (hx i hi))
    have e2 := E_lowT c (fun j => (x j).num * ((lcmN c fun i => (x i).den : Nat) : Int).fdiv (x j).den) h hc fun i hi => by
      have h2 : (((lcmN c fun i => (x i).den : Nat) : Int).fdiv ((x i).den : Nat)).natAbs ≤ lcmN c fun i => (x i).den := by
        have := fd (a := ((lcmN c fun i => (x i).den : Nat) : Int)) (m := ((x i).den : Nat)) (by have := (x i).den_pos; omega) (by omega)
        omega
      rw [Int.natAbs_mul]
      have := bt_mul (x i).num.natAbs (((lcmN c fun i => (x i).den : Nat) : Int).fdiv ((x i).den : Nat)).natAbs
      have := bt_mono h2
      have := lb c (Nat.le_refl _)
      have := hq_num (x i)
      have : hq (x i) ≤ 4000 := hx i hi
      omega
    unfold F_whole_row
    show _ = Ex.ok (irow c (lowT c _)) h
    unfold erow
    unfold irow at e1 e2 ⊢
    push_cast [fig_vd, fig_vm, fig_p, pq, encQ_a, e1, e2]
  | m n hn =>
    have h0 : ¬ ((n + 2 : Nat) : Int) = 0 := by omega
    unfold F_whole_row erow irow wholeR
    push_cast [fig_vd, fig_vm, fig_p, pm, h0, encM_a]
end Lw
set_option exponentiation.threshold 20000
namespace Lw
open PySem PySem.Spec L2 Fw Pd
/-- small rows of integers: bits by fractions, rests by a prime -/
def WOk (k : Fg) (B c : Nat) (w : Nat → Int) : Prop := ∀ j, j < c → match k with
  | .q => bt (w j).natAbs ≤ B
  | .m n _ => 0 ≤ w j ∧ w j < ((n + 2 : Nat) : Int)
def facG (a b : Int) : Nat := Nat.gcd a.natAbs b.natAbs
def lessW (k : Fg) (c : Nat) (a b : Nat → Int) (col : Nat) : Nat → Int := match k with
  | .q => lowT c fun j => (b col).fdiv (facG (a col) (b col)) * a j - (a col).fdiv (facG (a col) (b col)) * b j
  | .m n _ => fun j => ((b col).fdiv (facG (a col) (b col)) * a j - (a col).fdiv (facG (a col) (b col)) * b j).fmod ((n + 2 : Nat) : Int)
theorem facG_pos {a b : Int} (ha : a ≠ 0) : 0 < facG a b := Nat.gcd_pos_of_pos_left _ (by omega)
theorem facG_le {a b : Int} (ha : a ≠ 0) : facG a b ≤ a.natAbs := Nat.le_of_dvd (by omega) (Nat.gcd_dvd_left ..)
theorem facG_l {a b : Int} (ha : a ≠ 0) : a = a.fdiv (facG a b) * (facG a b : Nat) := by
  have := facG_pos (b := b) ha
  rw [Int.fdiv_eq_ediv_of_nonneg _ (by omega)]
  exact (Int.ediv_mul_cancel (Int.ofNat_dvd_left.mpr (Nat.gcd_dvd_left ..))).symm
theorem facG_r {a b : Int} (ha : a ≠ 0) : b = b.fdiv (facG a b) * (facG a b : Nat) := by
  have := facG_pos (b := b) ha
  rw [Int.fdiv_eq_ediv_of_nonneg _ (by omega)]
  exact (Int.ediv_mul_cancel (Int.ofNat_dvd_left.mpr (Nat.gcd_dvd_right ..))).symm
theorem fdiv_abs {a : Int} {g : Nat} (hg : 0 < g) (hd : (g : Int) ∣ a) : (a.fdiv g).natAbs ≤ a.natAbs := by
  rw [Int.fdiv_eq_ediv_of_nonneg _ (by omega), Int.natAbs_ediv_of_dvd hd]
  exact Nat.div_le_self _ _
theorem bt_diff (x y : Int) : bt (x - y).natAbs ≤ max (bt x.natAbs) (bt y.natAbs) + 1 := by
  have := bt_sum x (-y)
  rw [Int.natAbs_neg] at this
  exact this
theorem less_bt {B : Nat} {a b x y : Int} (ha : a ≠ 0) (h1 : bt a.natAbs ≤ B) (h2 : bt b.natAbs ≤ B) (h3 : bt x.natAbs ≤ B) (h4 : bt y.natAbs ≤ B) : bt (b.fdiv (facG a b) * x - a.fdiv (facG a b) * y).natAbs ≤ 2 * B + 1 := by
  have gp := facG_pos (b := b) ha
  have e1 := bt_mono (fdiv_abs (a := a) gp (Int.ofNat_dvd_left.mpr (Nat.gcd_dvd_left ..)))
  have e2 := bt_mono (fdiv_abs (a := b) gp (Int.ofNat_dvd_left.mpr (Nat.gcd_dvd_right ..)))
  have e3 := bt_diff (b.fdiv (facG a b) * x) (a.fdiv (facG a b) * y)
  have e4 := bt_mul (b.fdiv (facG a b)).natAbs x.natAbs
  have e5 := bt_mul (a.fdiv (facG a b)).natAbs y.natAbs
  rw [← Int.natAbs_mul] at e4 e5
  omega
theorem E_less_wholes (k : Fg) (c col B : Nat) (a b : Nat → Int) (h : D) (hc : c ≤ 1000) (hcol : col < c) (hB : 2 * B + 1 ≤ 9000) (ha : WOk k B c a) (hb : WOk k B c b) (h0 : a col ≠ 0) : F_less_wholes [fig k, irow c a, irow c b, .int col] h = .ok (irow c (lessW k c a b col)) h := by
  have gp := facG_pos (b := b col) h0
  have gl := facG_le (b := b col) h0
  have eg : Nat.gcd (a col).natAbs (b col).natAbs = facG (a col) (b col) := rfl
  have d1 := Int.ofNat_dvd_left.mpr (Nat.gcd_dvd_left (a col).natAbs (b col).natAbs)
  have d2 := Int.ofNat_dvd_left.mpr (Nat.gcd_dvd_right (a col).natAbs (b col).natAbs)
  have e1 := fdiv_abs (a := a col) gp d1
  have e2 := fdiv_abs (a := b col) gp d2
  cases k with
  | q =>
    have a1 : bt (a col).natAbs ≤ B := ha col hcol
    have b1 : bt (b col).natAbs ≤ B := hb col hcol
    have dd : ∀ z, cDiv z (facG (a col) (b col) : Nat) = true := fun z => cDiv_b (by omega) (by rw [Int.natAbs_natCast]; have := bt_mono gl; omega)
    have m1 : ∀ j, j < c → cMul ((b col).fdiv (facG (a col) (b col))) (a j) = true := fun j hj => cMul_b (by have := bt_mono e2; have : bt (a j).natAbs ≤ B := ha j hj; omega)
    have m2 : ∀ j, j < c → cMul ((a col).fdiv (facG (a col) (b col))) (b j) = true := fun j hj => cMul_b (by have := bt_mono e1; have : bt (b j).natAbs ≤ B := hb j hj; omega)
    have el := E_lowT c (fun j => (b col).fdiv (facG (a col) (b col)) * a j - (a col).fdiv (facG (a col) (b col)) * b j) h hc fun j hj => Nat.le_trans (less_bt h0 a1 b1 (ha j hj) (hb j hj)) hB
    unfold F_less_wholes lessW
    unfold irow at el ⊢
    push_cast [fig_vd, fig_vm, fig_p, pq, eg, dd, m1, m2, el]
  | m n hn =>
    have hp := pm_le hn
    obtain ⟨a1, a2⟩ : 0 ≤ a col ∧ a col < ((n + 2 : Nat) : Int) := ha col hcol
    obtain ⟨b1, b2⟩ : 0 ≤ b col ∧ b col < ((n + 2 : Nat) : Int) := hb col hcol
    have hz : ¬ ((n + 2 : Nat) : Int) = 0 := by omega
    have dd : ∀ z, cDiv z (facG (a col) (b col) : Nat) = true := fun z => div_sm (by omega) (by omega) (by omega)
    have m1 : ∀ j, j < c → cMul ((b col).fdiv (facG (a col) (b col))) (a j) = true := fun j hj => by
      obtain ⟨x1, x2⟩ : 0 ≤ a j ∧ a j < ((n + 2 : Nat) : Int) := ha j hj
      exact mul_sm (by omega) (by omega) (by omega) (by omega)
    have m2 : ∀ j, j < c → cMul ((a col).fdiv (facG (a col) (b col))) (b j) = true := fun j hj => by
      obtain ⟨x1, x2⟩ : 0 ≤ b j ∧ b j < ((n + 2 : Nat) : Int) := hb j hj
      exact mul_sm (by omega) (by omega) (by omega) (by omega)
    unfold F_less_wholes lessW irow
    push_cast [fig_vd, fig_vm, fig_p, pm, hz, eg, dd, m1, m2]
theorem irow_vd {c : Nat} {w : Nat → Int} {h : D} : vD (some (some (irow c w))) h = .ok (irow c w) h := (rfl)
theorem irow_vm {c : Nat} {w : Nat → Int} {h : D} : vmD (some (some (irow c w))) h = .ok (irow c w) h := (rfl)
theorem irow_ix {c col : Nat} {w : Nat → Int} (h : col < c) : oIx (irow c w) (.int (col : Int)) = some (.int (w col)) := by
  unfold irow
  rw [oIx_l, atI_gen (by omega) (by omega), Int.toNat_natCast]
def itab (r c : Nat) (W : Nat → Nat → Int) : D := .lst (gen r fun i => irow c (W i))
/-- the first row from s on that is not 0 there -/
def firstF (r s col : Nat) (W : Nat → Nat → Int) : Option Nat := ((List.range' s (r - s)).find? fun i => decide (W i col ≠ 0))
def optD (o : Option Nat) : D := match o with
  | some i => .int (i : Int)
  | none => .non
theorem first_loop (r c col : Nat) (W : Nat → Nat → Int) (d0 d1 h : D) (hcol : col < c) : ∀ (m s : Nat) (o : Option D), s + m = r → ∃ o', forGo (bNm 3) (sIf (eT (eOp oNe (eOp oIx (eOp oIx (eV 0) (eV 3)) (eV 2)) (eC (.int 0)))) (sRet (eV 3)) sNil) (gen m fun i => .int ((s + i : Nat) : Int)) [some (itab r c W), some d1, some (.int col), o] h = match (List.range' s m).find? (fun i => decide (W i col ≠ 0)) with
    | some i => .ret (.int (i : Int)) h
    | none => .nx [some (itab r c W), some d1, some (.int col), o'] h
  | 0, s, o, _ => ⟨o, rfl⟩
  | m + 1, s, o, e => by
    obtain ⟨o', ih⟩ := first_loop r c col W d0 d1 h hcol m (s + 1) (some (.int (s : Int))) (by omega)
    refine ⟨o', ?_⟩
    have eg : (gen m fun i => D.int ((s + (i + 1) : Nat) : Int)) = gen m fun i => D.int ((s + 1 + i : Nat) : Int) := gen_congr fun i _ => by rw [show s + (i + 1) = s + 1 + i by omega]
    rw [gen_succ, eg, forGo, Nat.add_zero, List.range'_succ, List.find?_cons]
    have hs : s < r := by omega
    by_cases hz : W s col = 0
    · have e2 : decide (W s col ≠ 0) = false := decide_eq_false (fun z => z hz)
      rw [e2]
      simp only
      rw [← ih]
      unfold itab irow
      push_cast [hz]
    · have e2 : decide (W s col ≠ 0) = true := decide_eq_true hz
      rw [e2]
      unfold itab irow
      push_cast [hz]
theorem E_first (r c s col : Nat) (W : Nat → Nat → Int) (h : D) (hr : r ≤ 1000) (hcol : col < c) (hs : s ≤ r) : F_first_filled [itab r c W, .int s, .int col] h = .ok (optD (firstF r s col W)) h := by
  obtain ⟨o', e⟩ := first_loop r c col W .non (.int s) h hcol (r - s) s none (by omega)
  have eg : (gen (r - s) fun i => D.int ((s + i : Nat) : Int)) = gen (r - s) fun i => D.int ((s : Int) + (i : Int)) := gen_congr fun i _ => by rw [Int.natCast_add]
  rw [eg] at e
  have et : ((r : Int) - (s : Int)).toNat = r - s := by omega
  have lr : F_first_filled [itab r c W, .int s, .int col] h = .ok (optD (firstF r s col W)) h := by
    unfold F_first_filled firstF
    unfold itab irow at e ⊢
    cases q : (List.range' s (r - s)).find? (fun i => decide (W i col ≠ 0)) with
    | some i =>
      rw [q] at e
      unfold optD
      push_cast [et, e]
    | none =>
      rw [q] at e
      unfold optD
      push_cast [et, e]
  exact lr
def clearW (k : Fg) (c : Nat) (W : Nat → Nat → Int) (at_ col : Nat) : Nat → Nat → Int := fun i => if i = at_ ∨ W i col = 0 then W i else lessW k c (W i) (W at_) col
theorem E_cleared (k : Fg) (r c at_ col B : Nat) (W : Nat → Nat → Int) (h : D) (hr : r ≤ 1000) (hc : c ≤ 1000) (hcol : col < c) (hat : at_ < r) (hB : 2 * B + 1 ≤ 9000) (hW : ∀ i, i < r → WOk k B c (W i)) : F_cleared_rows [fig k, itab r c W, .int at_, .int col] h = .ok (.hl (gen r fun i => irow c (clearW k c W at_ col i))) h := by
  have el : ∀ i, i < r → W i col ≠ 0 → ∀ h, F_less_wholes [fig k, irow c (W i), irow c (W at_), .int col] h = .ok (irow c (lessW k c (W i) (W at_) col)) h := fun i hi h0 h => E_less_wholes k c col B (W i) (W at_) h hc hcol hB (hW i hi) (hW at_ hat) h0
  unfold F_cleared_rows
  unfold itab
  push_cast [fig_vd, fig_vm]
  rw [mapN_is (g := fun i => irow c (clearW k c W at_ col i)) ?_]
  · push_cast []
  · intro i hi h
    rw [if_pos hi]
    have ix := irow_ix (w := W i) hcol
    unfold clearW
    by_cases h1 : i = at_
    · have h1' : (i : Int) = (at_ : Int) := by omega
      push_cast [h1', h1, irow_vd, irow_vm]
    · have h1' : ¬ (i : Int) = (at_ : Int) := by omega
      by_cases h2 : W i col = 0
      · push_cast [h1', h1, irow_vd, irow_vm, ix, h2]
      · push_cast [h1', h1, irow_vd, irow_vm, ix, h2, el]
end Lw
set_option exponentiation.threshold 20000
namespace Lw
open PySem PySem.Spec L2 Fw Pd
@[reducible] def ki (k : Fg) (x : k.K) : k.K := Fd.inv x
/-- a whole number among the figures, by what stands there: by a prime the number itself -/
theorem ic_of {n : Nat} {h} {i : Int} (h0 : 0 ≤ i) (h1 : i < ((n + 2 : Nat) : Int)) : ((ic (.m n h) i).val : Int) = i := by
  rw [ic_val, Int.fmod_eq_emod_of_nonneg _ (by omega), Int.emod_eq_of_lt h0 h1]
theorem ic_q (i : Int) : ic .q i = (i : Rat) := rfl
/-- the row of a lead -/
def leadR (k : Fg) (w : Nat → Int) (lead : Int) : Nat → k.K := fun j => ic k (w j) * ki k (ic k lead)
theorem E_row_of_wholes (k : Fg) (c B : Nat) (w : Nat → Int) (lead : Int) (h : D) (hc : c ≤ 1000) (hB : B ≤ 9000) (hw : WOk k B c w) (hl : match k with | .q => bt lead.natAbs ≤ B | .m n _ => 0 ≤ lead ∧ lead < ((n + 2 : Nat) : Int)) (h0 : lead ≠ 0) : F_row_of_wholes [fig k, irow c w, .int lead] h = .ok (erow k c (leadR k w lead)) h := by
  cases k with
  | q =>
    have e : ∀ j, j < c → ∀ h, F_in_lowest_terms [.int (w j), .int lead] h = .ok (encQ (leadR .q w lead j)) h := fun j hj h => by
      rw [E_low (w j) lead h h0 (Nat.le_trans hl hB)]
      congr 2
      show _ = ((w j : Int) : Rat) * ((lead : Int) : Rat)⁻¹
      rw [Rat.divInt_eq_div]
      rfl
    have m : ∀ j, j < c → cMul (w j) 1 = true := fun j hj => cMul_b (by have : bt (w j).natAbs ≤ B := hw j hj; have : bt (Int.natAbs 1) = 1 := rfl; omega)
    unfold F_row_of_wholes F_in_proportion erow
    unfold irow
    push_cast [fig_vd, fig_vm, fig_p, pq, m, Int.mul_one, e, encQ_a]
  | m n hn =>
    have hp := pm_le hn
    have hz : ¬ ((n + 2 : Nat) : Int) = 0 := by omega
    obtain ⟨l0, l1⟩ : 0 ≤ lead ∧ lead < ((n + 2 : Nat) : Int) := hl
    have li := ic_of (h := hn) l0 l1
    have ln : ic (.m n hn) lead ≠ 0 := fun z => by
      rw [z] at li
      exact h0 (by rw [← li]; rfl)
    have e1 := E_fover (.m n hn) 1 (ic (.m n hn) lead) h ln (by rw [htM_a, htM_a]; omega)
    have o1 : (1 : (Fg.m n hn).K) * ki (.m n hn) (ic (.m n hn) lead) = ki (.m n hn) (ic (.m n hn) lead) := Fin.one_mul _
    rw [encM_a (ic (.m n hn) lead), li, o1] at e1
    have e2 : ∀ j, j < c → ∀ h, F_Figures_times [fig (.m n hn), enc (.m n hn) (ki (.m n hn) (ic (.m n hn) lead)), .int (w j)] h = .ok (enc (.m n hn) (leadR (.m n hn) w lead j)) h := fun j hj h => by
      obtain ⟨x0, x1⟩ : 0 ≤ w j ∧ w j < ((n + 2 : Nat) : Int) := hw j hj
      have wi := ic_of (h := hn) x0 x1
      have e3 := E_ftimes (.m n hn) (ki (.m n hn) (ic (.m n hn) lead)) (ic (.m n hn) (w j)) h (by rw [htM_a, htM_a]; omega)
      rw [encM_a (ic (.m n hn) (w j)), wi] at e3
      rw [e3]
      congr 2
      exact Fin.mul_comm _ _
    unfold F_row_of_wholes erow
    unfold irow
    push_cast [fig_vd, fig_vm, fig_p, fig_o, pm, hz, eMeth_f, md_over, md_times, e1, e2, enc_vd, enc_vm]
end Lw
set_option exponentiation.threshold 20000
namespace Lw
open PySem PySem.Spec L2 Fw Pd
structure RS where
  W : Nat → Nat → Int
  l : Nat
  ld : Nat → Nat
def swapW (W : Nat → Nat → Int) (a b : Nat) : Nat → Nat → Int := fun i => if i = b then W a else if i = a then W b else W i
def stepR (k : Fg) (r c : Nat) (S : RS) (col : Nat) : RS := match firstF r S.l col S.W with
  | none => S
  | some f => ⟨clearW k c (swapW S.W S.l f) S.l col, S.l + 1, fun t => if t = S.l then col else S.ld t⟩
def redS (k : Fg) (r c : Nat) (W0 : Nat → Nat → Int) : Nat → RS
  | 0 => ⟨W0, 0, fun _ => 0⟩
  | n + 1 => stepR k r c (redS k r c W0 n) n
theorem first_some {r s col f : Nat} {W : Nat → Nat → Int} (e : firstF r s col W = some f) : s ≤ f ∧ f < r ∧ W f col ≠ 0 := by
  unfold firstF at e
  have h1 := List.find?_some e
  have h2 := List.mem_of_find?_eq_some e
  rw [List.mem_range'] at h2
  obtain ⟨i, hi, rfl⟩ := h2
  exact ⟨by omega, by omega, of_decide_eq_true h1⟩
theorem first_none {r s col : Nat} {W : Nat → Nat → Int} (e : firstF r s col W = none) {i : Nat} (h1 : s ≤ i) (h2 : i < r) : W i col = 0 := by
  unfold firstF at e
  rw [List.find?_eq_none] at e
  have := e i (by rw [List.mem_range']; exact ⟨i - s, by omega, by omega⟩)
  rcases Classical.em (W i col = 0) with z | z
  · exact z
  · exact (this (decide_eq_true z)).elim
theorem red_l {k : Fg} {r c : Nat} {W0 : Nat → Nat → Int} : ∀ n, (redS k r c W0 n).l ≤ n ∧ (redS k r c W0 n).l ≤ r
  | 0 => ⟨Nat.le_refl _, Nat.zero_le _⟩
  | n + 1 => by
    have ih := red_l (k := k) (r := r) (c := c) (W0 := W0) n
    show (stepR k r c (redS k r c W0 n) n).l ≤ n + 1 ∧ (stepR k r c (redS k r c W0 n) n).l ≤ r
    unfold stepR
    cases e : firstF r (redS k r c W0 n).l n (redS k r c W0 n).W with
    | none => exact ⟨by show (redS k r c W0 n).l ≤ _; omega, ih.2⟩
    | some f =>
      have := first_some e
      exact ⟨by show (redS k r c W0 n).l + 1 ≤ _; omega, by show (redS k r c W0 n).l + 1 ≤ _; omega⟩
theorem fr_lst {ds : List D} : (D.lst ds).fr = true := (rfl)
theorem fr_int {i : Int} : (D.int i).fr = true := (rfl)
theorem irow_fr {c : Nat} {w : Nat → Int} : (irow c w).fr = true := (rfl)
theorem optD_vd {o : Option Nat} {h : D} : vD (some (some (optD o))) h = .ok (optD o) h := by cases o <;> rfl
theorem optD_flat (o : Option Nat) : flatD (optD o) = true := by cases o <;> rfl
theorem frzL_gen {n : Nat} {f : Nat → D} (h : ∀ i, (f i).fr = true) : frzL (gen n f) = gen n f := by
  induction n generalizing f with
  | zero => rfl
  | succ n ih =>
    rw [gen_succ]
    unfold frzL
    rw [ih fun i => h (i + 1)]
    congr 1
    have := h 0
    cases q : f 0 <;> rw [q] at this <;> first | rfl | cases this
theorem frzL_irow {n c : Nat} {W : Nat → Nat → Int} : frzL (gen n fun i => irow c (W i)) = gen n fun i => irow c (W i) := frzL_gen fun i => rfl
theorem frzL_int {n : Nat} {f : Nat → Int} : frzL (gen n fun i => .int (f i)) = gen n fun i => .int (f i) := frzL_gen fun i => rfl
def ilist (l : Nat) (ld : Nat → Nat) : List D := gen l fun t => .int (ld t : Int)
def redBody : SF := sSeq (sSet 7 (eLenP (pV 4)))
    (sSeq (sSet 8 (eLend [2] (eCall 3 F_first_filled [] (eCons (eVm 2) (eCons (eVm 7) (eCons (eVm 6) eNil))))))
    (sIf (eT (eOp oNotN (eV 8) (eC .non))) (sSeq (sSwap (pV 2) (eV 7) (pV 2) (eV 8) (eCons (ePl (pIx (pV 2) (eV 8))) (eCons (ePl (pIx (pV 2) (eV 7))) eNil)))
    (sSeq (sFrz 2 (sSet 2 (eCall 4 F_cleared_rows [] (eCons (eVm 0) (eCons (eVm 2) (eCons (eVm 7) (eCons (eVm 6) eNil)))))))
    (sApp (pV 4) (eV 6)))) sNil))
theorem red_body (k : Fg) (r c col : Nat) (S : RS) (tb h : D) (x8 : Option D) (hr : r ≤ 1000) (hc : c ≤ 1000) (hcol : col < c) (hl : S.l ≤ r) (hW : ∀ i, i < r → WOk k 4499 c (S.W i)) :
    redBody [some (fig k), some tb, some (.hl (gen r fun i => irow c (S.W i))), none, some (.hl (ilist S.l S.ld)), some (.int c), some (.int (col : Nat)), x7, x8, none, none] h = .nx [some (fig k), some tb, some (.hl (gen r fun i => irow c ((stepR k r c S col).W i))), none, some (.hl (ilist (stepR k r c S col).l (stepR k r c S col).ld)), some (.int c), some (.int (col : Nat)), some (.int (S.l : Nat)), some (optD (firstF r S.l col S.W)), none, none] h := by
  have e1 := E_first r c S.l col S.W .non hr hcol hl
  unfold itab at e1
  have l0 : (0 : Int) ≤ (S.l : Int) := by omega
  unfold redBody stepR
  unfold ilist
  cases q : firstF r S.l col S.W with
  | none =>
    rw [q] at e1
    push_cast [lendS, List.foldr_cons, List.foldr_nil, forgetO, frzL_irow, fr_lst, fr_int, e1, optD_flat, optD_vd]
    unfold optD
    push_cast []
  | some f =>
    rw [q] at e1
    obtain ⟨f1, f2, f3⟩ := first_some q
    have hW2 : ∀ i, i < r → WOk k 4499 c (swapW S.W S.l f i) := fun i hi => by
      unfold swapW
      split
      · exact hW _ (by omega)
      · split
        · exact hW _ (by omega)
        · exact hW _ hi
    have ec := E_cleared k r c S.l col 4499 (swapW S.W S.l f) h hr hc hcol (by omega) (by omega) hW2
    unfold itab at ec
    have sw : (fun i => if i = f then irow c (S.W S.l) else if i = S.l then irow c (S.W f) else irow c (S.W i)) = fun i => irow c (swapW S.W S.l f i) := by
      funext i
      unfold swapW
      split
      · rfl
      · split <;> rfl
    have ap : gen (S.l + 1) (fun t => D.int ((if t = S.l then col else S.ld t : Nat) : Int)) = (gen S.l fun t => D.int (S.ld t : Int)) ++ [.int (col : Int)] := by
      rw [gen_last]
      congr 1
      · exact gen_congr fun t ht => by rw [if_neg (by omega)]
      · rw [if_pos rfl]
    rw [ap]
    push_cast [lendS, List.foldr_cons, List.foldr_nil, forgetO, frzL_irow, fr_lst, fr_int, e1, optD_flat, optD_vd]
    unfold optD
    push_cast [gen_get, irow_fr, gen_set, sw, frzL_irow, fig_vd, fig_vm, ec]
theorem red_loop (k : Fg) (r c : Nat) (W0 : Nat → Nat → Int) (tb h : D) (hr : r ≤ 1000) (hc : c ≤ 1000) (hW : ∀ n, n ≤ c → ∀ i, i < r → WOk k 4499 c ((redS k r c W0 n).W i)) :
    ∃ x6 x7 x8, forGo (bNm 6) redBody (gen c fun j => .int (j : Int)) [some (fig k), some tb, some (.hl (gen r fun i => irow c (W0 i))), none, some (.hl []), some (.int c), none, none, none, none, none] h = .nx [some (fig k), some tb, some (.hl (gen r fun i => irow c ((redS k r c W0 c).W i))), none, some (.hl (ilist (redS k r c W0 c).l (redS k r c W0 c).ld)), some (.int c), x6, x7, x8, none, none] h :=
  ⟨_, _, _, for_gen0 (h := h) (bind := bNm 6) (body := redBody) (d := fun j => .int (j : Int)) (n := c)
    (fun n => [some (fig k), some tb, some (.hl (gen r fun i => irow c ((redS k r c W0 n).W i))), none, some (.hl (ilist (redS k r c W0 n).l (redS k r c W0 n).ld)), some (.int c), lv none (fun n => .int (n : Int)) n, lv none (fun n => .int ((redS k r c W0 n).l : Int)) n, lv none (fun n => optD (firstF r (redS k r c W0 n).l n (redS k r c W0 n).W)) n, none, none]) fun n hn => ⟨_, rfl, red_body k r c n (redS k r c W0 n) tb h _ hr hc hn (red_l n).2 (hW n (by omega))⟩⟩
end Lw
set_option exponentiation.threshold 20000
namespace Lw
open PySem PySem.Spec L2 Fw Pd
theorem E_zero_row (k : Fg) (n : Int) (h : D) (h0 : 0 ≤ n) (hn : n ≤ 1000) : F_zero_row [fig k, .int n] h = .ok (erow k n.toNat fun _ => 0) h := by
  unfold F_zero_row erow
  push_cast [fig_z]
def etab (k : Fg) (r c : Nat) (A : Nat → Nat → k.K) : D := .tup (gen r fun i => erow k c (A i))
theorem erow_vd {k : Fg} {c : Nat} {x : Nat → k.K} {h : D} : vD (some (some (erow k c x))) h = .ok (erow k c x) h := (rfl)
theorem erow_vm {k : Fg} {c : Nat} {x : Nat → k.K} {h : D} : vmD (some (some (erow k c x))) h = .ok (erow k c x) h := (rfl)
theorem erow_fr {k : Fg} {c : Nat} {x : Nat → k.K} : (erow k c x).fr = true := (rfl)
theorem etab_vd {k : Fg} {r c : Nat} {A : Nat → Nat → k.K} {h : D} : vD (some (some (etab k r c A))) h = .ok (etab k r c A) h := (rfl)
theorem etab_vm {k : Fg} {r c : Nat} {A : Nat → Nat → k.K} {h : D} : vmD (some (some (etab k r c A))) h = .ok (etab k r c A) h := (rfl)
theorem erow_ix {k : Fg} {c : Nat} {x : Nat → k.K} {i : Int} (h0 : 0 ≤ i) (h1 : i < c) : oIx (erow k c x) (.int i) = some (enc k (x i.toNat)) := by
  unfold erow
  rw [oIx_t, atI_gen h0 h1]
theorem etab_ix {k : Fg} {r c : Nat} {A : Nat → Nat → k.K} {i : Int} (h0 : 0 ≤ i) (h1 : i < r) : oIx (etab k r c A) (.int i) = some (erow k c (A i.toNat)) := by
  unfold etab
  rw [oIx_t, atI_gen h0 h1]
theorem erow_len {k : Fg} {c : Nat} {x : Nat → k.K} : kLen [erow k c x] = some (.int (c : Int)) := by
  unfold erow
  rw [kLen_t, gen_len]
theorem etab_len {k : Fg} {r c : Nat} {A : Nat → Nat → k.K} : kLen [etab k r c A] = some (.int (r : Int)) := by
  unfold etab
  rw [kLen_t, gen_len]
theorem irow_len {c : Nat} {w : Nat → Int} : kLen [irow c w] = some (.int (c : Int)) := by
  unfold irow
  rw [kLen_l, gen_len]
theorem ilist_fr {l : Nat} {ld : Nat → Nat} : frzL (ilist l ld) = ilist l ld := frzL_gen fun i => rfl
/-- what reduced_table tells -/
def redW0 (k : Fg) (c : Nat) (A : Nat → Nat → k.K) : Nat → Nat → Int := fun i => wholeR k c (A i)
def redR (k : Fg) (r c : Nat) (A : Nat → Nat → k.K) : Nat → Nat → k.K := fun i => let S := redS k r c (redW0 k c A) c
  if i < S.l then leadR k (S.W i) (S.W i (S.ld i)) else fun _ => 0
theorem E_reduced (k : Fg) (r c : Nat) (A : Nat → Nat → k.K) (h : D) (r1 : 1 ≤ r) (hr : r ≤ 900) (hc : c ≤ 900) (hs : ∀ i, i < r → 1 + (sumN c fun j => hd k (A i j)) ≤ 4000) (hx : ∀ i j, i < r → j < c → ht k (A i j) ≤ 4000)
    (hW : ∀ n, n ≤ c → ∀ i, i < r → WOk k 4499 c ((redS k r c (redW0 k c A) n).W i)) (hL : ∀ t, t < (redS k r c (redW0 k c A) c).l → (redS k r c (redW0 k c A) c).ld t < c ∧ (redS k r c (redW0 k c A) c).W t ((redS k r c (redW0 k c A) c).ld t) ≠ 0) :
    F_reduced_table [fig k, etab k r c A] h = .ok (.tup [etab k r c (redR k r c A), .tup (ilist (redS k r c (redW0 k c A) c).l (redS k r c (redW0 k c A) c).ld)]) h := by
  have ew : ∀ i, i < r → ∀ h, F_whole_row [fig k, erow k c (A i)] h = .ok (irow c (wholeR k c (A i))) h := fun i hi h => E_whole_row k c (A i) h (by omega) (hs i hi) fun j hj => hx i j hi hj
  obtain ⟨x6, x7, x8, loop⟩ := red_loop k r c (redW0 k c A) (etab k r c A) h (by omega) (by omega) hW
  have l2 := (red_l (k := k) (r := r) (c := c) (W0 := redW0 k c A) c).2
  have eW0 : (fun i => irow c (redW0 k c A i)) = fun i => irow c (wholeR k c (A i)) := rfl
  rw [eW0] at loop
  unfold redBody at loop
  generalize eS : redS k r c (redW0 k c A) c = S at *
  have el : ∀ t, t < S.l → ∀ h, F_row_of_wholes [fig k, irow c (S.W t), .int (S.W t (S.ld t))] h = .ok (erow k c (leadR k (S.W t) (S.W t (S.ld t)))) h := fun t ht h => by
    have hw := hW c (Nat.le_refl _) t (by omega)
    rw [eS] at hw
    refine E_row_of_wholes k c 4499 _ _ h (by omega) (by omega) hw ?_ (hL t ht).2
    have := hw _ (hL t ht).1
    cases k <;> exact this
  have ix : ∀ t, t < S.l → oIx (irow c (S.W t)) (.int (S.ld t : Nat)) = some (.int (S.W t (S.ld t))) := fun t ht => irow_ix (hL t ht).1
  have em : min r S.l = S.l := by omega
  have ez := E_zero_row k (c : Int) h (by omega) (by omega)
  rw [Int.toNat_natCast] at ez
  have et : ((r : Int) - (S.l : Int)).toNat = r - S.l := by omega
  have ef : S.l + (r - S.l) = r := by omega
  have fin : (gen r fun i => if i < S.l then erow k c (leadR k (S.W i) (S.W i (S.ld i))) else erow k c fun _ => 0) = gen r fun i => erow k c (redR k r c A i) := gen_congr fun i hi => by
    unfold redR
    rw [eS]
    simp only
    split <;> rfl
  unfold F_reduced_table
  unfold etab at loop ⊢
  push_cast [fig_vd, fig_vm, erow_vd, erow_vm, ew, frzL_irow, irow_len, irow_fr, gen_get, loop, ilist_fr]
  unfold ilist
  push_cast [irow_vd, irow_vm, em, ix, el, ez, et, gen_app, ef, fin, fig_vd, fig_vm]
end Lw
set_option exponentiation.threshold 20000
namespace Lw
open PySem PySem.Spec L2 Fw Pd
section
variable {K : Type} [Fd K]
def Sm : Nat → (Nat → K) → K
  | 0, _ => 0
  | n + 1, f => Sm n f + f n
theorem Sm_congr {f g : Nat → K} : ∀ {n : Nat}, (∀ i, i < n → f i = g i) → Sm n f = Sm n g
  | 0, _ => rfl
  | n + 1, k => by
    show Sm n f + f n = Sm n g + g n
    rw [Sm_congr fun i hi => k i (by omega), k n (by omega)]
theorem Sm_add {f g : Nat → K} : ∀ {n : Nat}, Sm n (fun i => f i + g i) = Sm n f + Sm n g
  | 0 => by show (0 : K) = 0 + 0; grind
  | n + 1 => by
    show Sm n (fun i => f i + g i) + (f n + g n) = Sm n f + f n + (Sm n g + g n)
    rw [Sm_add]; grind
theorem Sm_mul {f : Nat → K} {s : K} : ∀ {n : Nat}, Sm n (fun i => s * f i) = s * Sm n f
  | 0 => by show (0 : K) = s * 0; grind
  | n + 1 => by
    show Sm n (fun i => s * f i) + s * f n = s * (Sm n f + f n)
    rw [Sm_mul]; grind
theorem Sm_lin {f g : Nat → K} {s t : K} {n : Nat} : Sm n (fun i => s * f i - t * g i) = s * Sm n f - t * Sm n g := by
  rw [show (fun i => s * f i - t * g i) = fun i => s * f i + (-t) * g i by funext i; grind, Sm_add, Sm_mul, Sm_mul]; grind
theorem Sm_zero {f : Nat → K} : ∀ {n : Nat}, (∀ i, i < n → f i = 0) → Sm n f = 0
  | 0, _ => rfl
  | n + 1, k => by
    show Sm n f + f n = 0
    rw [Sm_zero fun i hi => k i (by omega), k n (by omega)]; grind
theorem Sm_one {f : Nat → K} {j : Nat} : ∀ {n : Nat}, j < n → (∀ i, i < n → i ≠ j → f i = 0) → Sm n f = f j
  | n + 1, h, k => by
    show Sm n f + f n = f j
    by_cases e : j = n
    · subst e
      rw [Sm_zero fun i hi => k i (by omega) (by omega)]; grind
    · rw [Sm_one (n := n) (by omega) fun i hi hn => k i (by omega) hn, k n (by omega) (fun z => e z.symm)]; grind
theorem mul_ne {a b : K} (ha : a ≠ 0) (hb : b ≠ 0) : a * b ≠ 0 := fun z => by
  have h1 := Fd.mul_inv a ha
  have : b = Fd.inv a * (a * b) := by grind
  rw [z] at this
  exact hb (by rw [this]; grind)
theorem inv_ne {a : K} (ha : a ≠ 0) : Fd.inv a ≠ 0 := fun z => by
  have h1 := Fd.mul_inv a ha
  rw [z] at h1
  exact Fd.z_ne (by rw [← h1]; grind)
theorem mul_eq0 {a b : K} (ha : a ≠ 0) (h : a * b = 0) : b = 0 := by
  rcases Classical.em (b = 0) with z | z
  · exact z
  · exact (mul_ne ha z h).elim
/-- what the rows send to nothing -/
def Ker (r c : Nat) (M : Nat → Nat → K) (v : Nat → K) : Prop := ∀ i, i < r → Sm c (fun j => M i j * v j) = 0
theorem ker_rows {r c a : Nat} {M N : Nat → Nat → K} (ha : a < r) (h1 : ∀ j, j < c → N a j = M a j) (h2 : ∀ i, i < r → ∃ s t : K, s ≠ 0 ∧ ∀ j, j < c → N i j = s * M i j - t * M a j) (v : Nat → K) : Ker r c N v ↔ Ker r c M v := by
  have ea : Sm c (fun j => N a j * v j) = Sm c fun j => M a j * v j := Sm_congr fun j hj => by rw [h1 j hj]
  have ei : ∀ i, i < r → ∃ s t : K, s ≠ 0 ∧ Sm c (fun j => N i j * v j) = s * Sm c (fun j => M i j * v j) - t * Sm c fun j => M a j * v j := fun i hi => by
    obtain ⟨s, t, s0, e⟩ := h2 i hi
    refine ⟨s, t, s0, ?_⟩
    rw [← Sm_lin]
    exact Sm_congr fun j hj => by rw [e j hj]; grind
  constructor
  · intro k i hi
    obtain ⟨s, t, s0, e⟩ := ei i hi
    have k1 := k i hi
    have k2 := k a ha
    rw [ea] at k2
    rw [k2] at e
    rw [e] at k1
    exact mul_eq0 s0 (by grind)
  · intro k i hi
    obtain ⟨s, t, s0, e⟩ := ei i hi
    rw [e, k i hi, k a ha]; grind
theorem ker_swap {r c a b : Nat} {M N : Nat → Nat → K} (ha : a < r) (hb : b < r) (h : ∀ i, i < r → ∀ j, j < c → N i j = if i = b then M a j else if i = a then M b j else M i j) (v : Nat → K) : Ker r c N v ↔ Ker r c M v := by
  have e : ∀ i, i < r → Sm c (fun j => N i j * v j) = Sm c fun j => (if i = b then M a j else if i = a then M b j else M i j) * v j := fun i hi => Sm_congr fun j hj => by rw [h i hi j hj]
  constructor
  · intro k i hi
    by_cases h1 : i = a
    · subst h1
      have := k b hb
      rw [e b hb] at this
      simpa using this
    · by_cases h2 : i = b
      · subst h2
        have := k a ha
        rw [e a ha] at this
        by_cases h3 : a = i
        · exact (h1 h3.symm).elim
        · simpa [h3] using this
      · have := k i hi
        rw [e i hi] at this
        simpa [h1, h2] using this
  · intro k i hi
    rw [e i hi]
    by_cases h2 : i = b
    · simp only [h2, if_true]; exact k a ha
    · by_cases h1 : i = a
      · have hab : ¬ a = b := by rw [← h1]; exact h2
        simp only [h1, hab, if_false, if_true]
        exact k b hb
      · simp only [h1, h2, if_false]; exact k i hi
theorem ker_scale {r c : Nat} {M N : Nat → Nat → K} (h : ∀ i, i < r → ∃ s : K, s ≠ 0 ∧ ∀ j, j < c → N i j = s * M i j) (v : Nat → K) : Ker r c N v ↔ Ker r c M v := by
  have e : ∀ i, i < r → ∃ s : K, s ≠ 0 ∧ Sm c (fun j => N i j * v j) = s * Sm c fun j => M i j * v j := fun i hi => by
    obtain ⟨s, s0, e⟩ := h i hi
    refine ⟨s, s0, ?_⟩
    rw [← Sm_mul]
    exact Sm_congr fun j hj => by rw [e j hj]; grind
  constructor
  · intro k i hi
    obtain ⟨s, s0, e1⟩ := e i hi
    exact mul_eq0 s0 (by rw [← e1]; exact k i hi)
  · intro k i hi
    obtain ⟨s, s0, e1⟩ := e i hi
    rw [e1, k i hi]; grind
/-- reduced: rank l, leading columns ld -/
structure Rref (r c : Nat) (R : Nat → Nat → K) (l : Nat) (ld : Nat → Nat) : Prop where
  lr : l ≤ r
  lt : ∀ t, t < l → ld t < c
  up : ∀ t u, t < u → u < l → ld t < ld u
  one : ∀ t, t < l → R t (ld t) = 1
  zero : ∀ t, t < l → ∀ i, i < r → i ≠ t → R i (ld t) = 0
  left : ∀ t, t < l → ∀ j, j < ld t → R t j = 0
  rest : ∀ i, l ≤ i → i < r → ∀ j, j < c → R i j = 0
end
end Lw
set_option exponentiation.threshold 20000
namespace Lw
open PySem PySem.Spec L2 Fw Pd
theorem ic_add (k : Fg) (a b : Int) : ic k (a + b) = ic k a + ic k b := by
  cases k with
  | q => exact Rat.intCast_add a b
  | m n h =>
    refine Fin.ext (Int.ofNat_inj.mp ?_)
    have e := fv_add (ic (.m n h) a) (ic (.m n h) b)
    rw [ic_val, ic_val] at e
    refine Eq.trans ?_ e
    rw [ic_val, Int.fmod_eq_emod_of_nonneg _ (by omega), Int.fmod_eq_emod_of_nonneg _ (by omega), Int.fmod_eq_emod_of_nonneg _ (by omega), Int.fmod_eq_emod_of_nonneg _ (by omega), ← Int.add_emod]
theorem ic_mul (k : Fg) (a b : Int) : ic k (a * b) = ic k a * ic k b := by
  cases k with
  | q => exact Rat.intCast_mul a b
  | m n h =>
    refine Fin.ext (Int.ofNat_inj.mp ?_)
    have e := fv_mul (ic (.m n h) a) (ic (.m n h) b)
    rw [ic_val, ic_val] at e
    refine Eq.trans ?_ e
    rw [ic_val, Int.fmod_eq_emod_of_nonneg _ (by omega), Int.fmod_eq_emod_of_nonneg _ (by omega), Int.fmod_eq_emod_of_nonneg _ (by omega), Int.fmod_eq_emod_of_nonneg _ (by omega), ← Int.mul_emod]
theorem ic_sub (k : Fg) (a b : Int) : ic k (a - b) = ic k a - ic k b := by
  have h1 := ic_add k (a - b) b
  rw [Int.sub_add_cancel] at h1
  rw [h1]
  grind
theorem ic_fmod {n : Nat} {h} (i : Int) : ic (.m n h) (i.fmod ((n + 2 : Nat) : Int)) = ic (.m n h) i := by
  refine Fin.ext (Int.ofNat_inj.mp ?_)
  have e1 := ic_val (h := h) (i.fmod ((n + 2 : Nat) : Int))
  have e2 := ic_val (h := h) i
  refine e1.trans (Eq.trans ?_ e2.symm)
  rw [Int.fmod_eq_emod_of_nonneg _ (by omega), Int.fmod_eq_emod_of_nonneg _ (by omega), Int.emod_emod]
/-- small enough to be told from nothing -/
def Ok1 (k : Fg) (i : Int) : Prop := match k with
  | .q => True
  | .m n _ => 0 ≤ i ∧ i < ((n + 2 : Nat) : Int)
theorem ic_zero {k : Fg} {i : Int} (h : Ok1 k i) : ic k i = 0 ↔ i = 0 := by
  constructor
  · intro z
    cases k with
    | q => exact Rat.intCast_eq_zero_iff.mp z
    | m n hn =>
      have := ic_of (h := hn) h.1 h.2
      rw [z] at this
      exact this.symm
  · intro z
    rw [z, ic_0]
theorem WOk.ok {k : Fg} {B c : Nat} {w : Nat → Int} (h : WOk k B c w) {j : Nat} (hj : j < c) : Ok1 k (w j) := by
  have := h j hj
  cases k with
  | q => trivial
  | m n hn => exact this
theorem WOk.mono {k : Fg} {B C c : Nat} {w : Nat → Int} (h : WOk k B c w) (hb : B ≤ C) : WOk k C c w := fun j hj => by
  have := h j hj
  cases k with
  | q => exact Nat.le_trans this hb
  | m n hn => exact this
theorem nat_ne {d : Nat} (h : 0 < d) : ic .q (d : Int) ≠ 0 := fun z => by
  have := Rat.intCast_eq_zero_iff.mp z
  omega
theorem less_ok (k : Fg) (B c col : Nat) (a b : Nat → Int) (hcol : col < c) (ha : WOk k B c a) (hb : WOk k B c b) (a0 : a col ≠ 0) (b0 : b col ≠ 0) :
    (∃ s t : k.K, s ≠ 0 ∧ ∀ j, j < c → ic k (lessW k c a b col j) = s * ic k (a j) - t * ic k (b j)) ∧ lessW k c a b col col = 0 ∧ WOk k (2 * B + 1) c (lessW k c a b col) := by
  have gp := facG_pos (b := b col) a0
  have el := facG_l (b := b col) a0
  have er := facG_r (b := b col) a0
  have col0 : (b col).fdiv (facG (a col) (b col)) * a col - (a col).fdiv (facG (a col) (b col)) * b col = 0 := by
    generalize (b col).fdiv (facG (a col) (b col)) = f at *
    generalize (a col).fdiv (facG (a col) (b col)) = t at *
    rw [el, er]
    grind
  have f0 : (b col).fdiv (facG (a col) (b col)) ≠ 0 := fun z => by rw [z] at er; exact b0 (by rw [er]; omega)
  cases k with
  | q =>
    obtain ⟨d, d0, ed⟩ := lowT_ok (c := c) (w := fun j => (b col).fdiv (facG (a col) (b col)) * a j - (a col).fdiv (facG (a col) (b col)) * b j)
    have dn := nat_ne d0
    refine ⟨⟨Fd.inv (ic .q (d : Int)) * ic .q ((b col).fdiv (facG (a col) (b col))), Fd.inv (ic .q (d : Int)) * ic .q ((a col).fdiv (facG (a col) (b col))), mul_ne (inv_ne dn) fun z => f0 (Rat.intCast_eq_zero_iff.mp z), fun j hj => ?_⟩, ?_, fun j hj => ?_⟩
    · have e := congrArg (ic .q) (ed j hj)
      simp only [ic_sub, ic_mul] at e
      show ic .q (lowT c _ j) = _
      have hi := Fd.mul_inv _ dn
      generalize ic .q (lowT c _ j) = x at *
      generalize ic .q (d : Int) = dd at *
      have : x = Fd.inv dd * (dd * x) := by grind
      rw [this, ← e]
      grind
    · have e := ed col hcol
      simp only [col0] at e
      show lowT c _ col = 0
      rcases Int.mul_eq_zero.mp e.symm with z | z
      · omega
      · exact z
    · show bt (lowT c _ j).natAbs ≤ _
      exact Nat.le_trans (lowT_bt hj) (less_bt a0 (ha col hcol) (hb col hcol) (ha j hj) (hb j hj))
  | m n hn =>
    obtain ⟨b1, b2⟩ : 0 ≤ b col ∧ b col < ((n + 2 : Nat) : Int) := hb col hcol
    have f1 := fd (a := b col) (m := (facG (a col) (b col) : Nat)) (by omega) b1
    have fn : ic (.m n hn) ((b col).fdiv (facG (a col) (b col))) ≠ 0 := fun z => f0 ((ic_zero (k := .m n hn) ⟨f1.1, by omega⟩).mp z)
    refine ⟨⟨ic (.m n hn) ((b col).fdiv (facG (a col) (b col))), ic (.m n hn) ((a col).fdiv (facG (a col) (b col))), fn, fun j hj => ?_⟩, ?_, fun j hj => ?_⟩
    · show ic (.m n hn) (Int.fmod _ _) = _
      rw [ic_fmod, ic_sub, ic_mul, ic_mul]
    · show Int.fmod _ _ = 0
      rw [col0, Int.zero_fmod]
    · exact fm (by omega)
theorem whole_ok (k : Fg) (c : Nat) (x : Nat → k.K) : ∃ s : k.K, s ≠ 0 ∧ ∀ j, j < c → ic k (wholeR k c x j) = s * x j := by
  cases k with
  | q =>
    have dp : ∀ i, 0 < (x i).den := fun i => (x i).den_pos
    have lp := lcmN_pos (d := fun i => (x i).den) dp c
    obtain ⟨d, d0, ed⟩ := lowT_ok (c := c) (w := fun j => (x j).num * ((lcmN c fun i => (x i).den : Nat) : Int).fdiv (x j).den)
    have dn := nat_ne d0
    have ln := nat_ne lp
    refine ⟨Fd.inv (ic .q (d : Int)) * ic .q (lcmN c fun i => (x i).den : Nat), mul_ne (inv_ne dn) ln, fun j hj => ?_⟩
    have e := congrArg (ic .q) (ed j hj)
    simp only [ic_mul] at e
    show ic .q (lowT c _ j) = _
    have e2 : ic .q (((lcmN c fun i => (x i).den : Nat) : Int).fdiv ((x j).den : Nat)) * ic .q ((x j).den : Nat) = ic .q (lcmN c fun i => (x i).den : Nat) := by
      rw [← ic_mul, Int.fdiv_eq_ediv_of_nonneg _ (by omega), Int.ediv_mul_cancel (Int.ofNat_dvd.mpr (lcmN_dvd (d := fun i => (x i).den) hj))]
    have e3 : x j * ic .q ((x j).den : Nat) = ic .q (x j).num := by
      have h1 := Rat.num_divInt_den (x j)
      rw [Rat.divInt_eq_div, Rat.div_def] at h1
      have h2 := Rat.mul_inv_cancel (((x j).den : Int) : Rat) (nat_ne (dp j))
      show x j * (((x j).den : Int) : Rat) = (((x j).num : Int) : Rat)
      generalize (((x j).den : Int) : Rat) = y at *
      generalize (((x j).num : Int) : Rat) = z at *
      rw [← h1, Rat.mul_assoc, Rat.mul_comm y⁻¹, h2, Rat.mul_one]
    have hi := Fd.mul_inv _ dn
    generalize ic .q (lowT c _ j) = y at *
    generalize ic .q (d : Int) = dd at *
    generalize ic .q (lcmN c fun i => (x i).den : Nat) = LL at *
    generalize ic .q (((lcmN c fun i => (x i).den : Nat) : Int).fdiv ((x j).den : Nat)) = qq at *
    generalize ic .q ((x j).den : Nat) = dj at *
    generalize ic .q (x j).num = nj at *
    have : y = Fd.inv dd * (dd * y) := by grind
    rw [this, ← e]
    grind
  | m n h =>
    have o1 : (1 : (Fg.m n h).K) ≠ 0 := fun z => (@Fd.z_ne (Fg.m n h).K (instFd (.m n h))) z.symm
    refine ⟨1, o1, fun j hj => ?_⟩
    show ic (.m n h) ((x j).val : Int) = 1 * x j
    rw [show (1 : (Fg.m n h).K) * x j = x j from Fin.one_mul _]
    refine Fin.ext (Int.ofNat_inj.mp ?_)
    exact ic_of (by omega) (fv_lt (x j))
end Lw
set_option exponentiation.threshold 20000
namespace Lw
open PySem PySem.Spec L2 Fw Pd
def Bd (B l : Nat) : Nat := 2 ^ l * (B + 1) - 1
theorem Bd_s (B l : Nat) : 2 * Bd B l + 1 = Bd B (l + 1) := by
  unfold Bd
  have : 0 < 2 ^ l * (B + 1) := Nat.mul_pos (Nat.pow_pos (by omega)) (by omega)
  rw [Nat.pow_succ, show 2 ^ l * 2 * (B + 1) = 2 * (2 ^ l * (B + 1)) by rw [Nat.mul_comm (2 ^ l) 2, Nat.mul_assoc]]
  omega
theorem Bd_mono {B l m : Nat} (h : l ≤ m) : Bd B l ≤ Bd B m := by
  unfold Bd
  have := Nat.mul_le_mul_right (B + 1) (Nat.pow_le_pow_right (show 0 < 2 by omega) h)
  omega
structure RInv (k : Fg) (r c B : Nat) (W0 : Nat → Nat → Int) (n : Nat) (S : RS) : Prop where
  l : S.l ≤ r
  b : ∀ i, i < r → WOk k (Bd B S.l) c (S.W i)
  ker : ∀ v : Nat → k.K, Ker r c (fun i j => ic k (S.W i j)) v ↔ Ker r c (fun i j => ic k (W0 i j)) v
  lt : ∀ t, t < S.l → S.ld t < n
  ne : ∀ t, t < S.l → S.W t (S.ld t) ≠ 0
  zero : ∀ t, t < S.l → ∀ i, i < r → i ≠ t → S.W i (S.ld t) = 0
  left : ∀ t, t < S.l → ∀ j, j < S.ld t → S.W t j = 0
  rest : ∀ i, S.l ≤ i → i < r → ∀ j, j < n → S.W i j = 0
  up : ∀ t u, t < u → u < S.l → S.ld t < S.ld u
theorem rinv (k : Fg) (r c B : Nat) (W0 : Nat → Nat → Int) (h0 : ∀ i, i < r → WOk k B c (W0 i)) : ∀ n, n ≤ c → RInv k r c B W0 n (redS k r c W0 n)
  | 0, _ => ⟨Nat.zero_le _, fun i hi => by
      show WOk k (Bd B 0) c (W0 i)
      unfold Bd
      rw [Nat.pow_zero, Nat.one_mul]
      exact h0 i hi, fun v => Iff.rfl, fun t ht => absurd ht (Nat.not_lt_zero _), fun t ht => absurd ht (Nat.not_lt_zero _), fun t ht => absurd ht (Nat.not_lt_zero _), fun t ht => absurd ht (Nat.not_lt_zero _), fun i _ _ j hj => absurd hj (Nat.not_lt_zero _), fun t u _ hu => absurd hu (Nat.not_lt_zero _)⟩
  | n + 1, hn => by
    have I := rinv k r c B W0 h0 n (by omega)
    show RInv k r c B W0 (n + 1) (stepR k r c (redS k r c W0 n) n)
    generalize redS k r c W0 n = S at I
    unfold stepR
    cases e : firstF r S.l n S.W with
    | none =>
      show RInv k r c B W0 (n + 1) S
      refine ⟨I.l, I.b, I.ker, fun t ht => by have := I.lt t ht; omega, I.ne, I.zero, I.left, fun i h1 h2 j hj => ?_, I.up⟩
      by_cases ej : j = n
      · subst ej; exact first_none e h1 h2
      · exact I.rest i h1 h2 j (by omega)
    | some f =>
      show RInv k r c B W0 (n + 1) ⟨clearW k c (swapW S.W S.l f) S.l n, S.l + 1, fun t => if t = S.l then n else S.ld t⟩
      obtain ⟨f1, f2, f3⟩ := first_some e
      have hl : S.l < r := by omega
      -- the swapped rows
      have sl : swapW S.W S.l f S.l = S.W f := by
        unfold swapW
        by_cases z : S.l = f
        · rw [if_pos z, z]
        · rw [if_neg z, if_pos rfl]
      have st : ∀ t, t < S.l → swapW S.W S.l f t = S.W t := fun t ht => by
        unfold swapW
        rw [if_neg (by omega), if_neg (by omega)]
      have sr : ∀ i, i < r → S.l ≤ i → ∃ i', S.l ≤ i' ∧ i' < r ∧ swapW S.W S.l f i = S.W i' := fun i hi hli => by
        unfold swapW
        split
        · exact ⟨S.l, Nat.le_refl _, hl, rfl⟩
        · split
          · exact ⟨f, f1, f2, rfl⟩
          · exact ⟨i, hli, hi, rfl⟩
      have sb : ∀ i, i < r → WOk k (Bd B S.l) c (swapW S.W S.l f i) := fun i hi => by
        unfold swapW
        split
        · exact I.b _ hl
        · split
          · exact I.b _ f2
          · exact I.b _ hi
      have ln : swapW S.W S.l f S.l n ≠ 0 := by rw [sl]; exact f3
      have lz : ∀ j, j < n → swapW S.W S.l f S.l j = 0 := fun j hj => by rw [sl]; exact I.rest f f1 f2 j hj
      have kerS : ∀ v : Nat → k.K, Ker r c (fun i j => ic k (swapW S.W S.l f i j)) v ↔ Ker r c (fun i j => ic k (S.W i j)) v := fun v => ker_swap hl f2 (fun i hi j hj => by
        unfold swapW
        split
        · rfl
        · split <;> rfl) v
      generalize swapW S.W S.l f = W1 at *
      -- the cleared rows
      have cl : clearW k c W1 S.l n S.l = W1 S.l := by unfold clearW; rw [if_pos (.inl rfl)]
      have cz : ∀ i, W1 i n = 0 → clearW k c W1 S.l n i = W1 i := fun i h => by unfold clearW; rw [if_pos (.inr h)]
      have cn : ∀ i, i ≠ S.l → W1 i n ≠ 0 → clearW k c W1 S.l n i = lessW k c (W1 i) (W1 S.l) n := fun i h1 h2 => by unfold clearW; rw [if_neg (fun z => z.elim h1 h2)]
      have lo : ∀ i, i < r → W1 i n ≠ 0 → _ := fun i hi h2 => less_ok k (Bd B S.l) c n (W1 i) (W1 S.l) (by omega) (sb i hi) (sb S.l hl) h2 ln
      have rows : ∀ i, i < r → ∃ s t : k.K, s ≠ 0 ∧ ∀ j, j < c → ic k (clearW k c W1 S.l n i j) = s * ic k (W1 i j) - t * ic k (W1 S.l j) := fun i hi => by
        by_cases h1 : i = S.l ∨ W1 i n = 0
        · refine ⟨1, 0, fun z => Fd.z_ne z.symm, fun j hj => ?_⟩
          rw [show clearW k c W1 S.l n i = W1 i by unfold clearW; rw [if_pos h1]]
          grind
        · have h1' := not_or.mp h1
          rw [cn i h1'.1 h1'.2]
          exact (lo i hi h1'.2).1
      have bnd : ∀ i, i < r → WOk k (Bd B (S.l + 1)) c (clearW k c W1 S.l n i) := fun i hi => by
        by_cases h1 : i = S.l ∨ W1 i n = 0
        · rw [show clearW k c W1 S.l n i = W1 i by unfold clearW; rw [if_pos h1]]
          exact (sb i hi).mono (Bd_mono (by omega))
        · have h1' := not_or.mp h1
          rw [cn i h1'.1 h1'.2, ← Bd_s]
          exact (lo i hi h1'.2).2.2
      -- a zero in a column in which the leader is zero
      have keep : ∀ i, i < r → ∀ j, j < n → (clearW k c W1 S.l n i j = 0 ↔ W1 i j = 0) := fun i hi j hj => by
        obtain ⟨s, t, s0, es⟩ := rows i hi
        have e1 := es j (by omega)
        rw [lz j hj, ic_0] at e1
        have z1 := ic_zero ((bnd i hi).ok (show j < c by omega))
        have z2 := ic_zero ((sb i hi).ok (show j < c by omega))
        rw [← z1, ← z2, e1]
        constructor
        · intro z
          exact mul_eq0 s0 (by grind)
        · intro z
          rw [z]; grind
      have coln : ∀ i, i < r → i ≠ S.l → clearW k c W1 S.l n i n = 0 := fun i hi h1 => by
        by_cases h2 : W1 i n = 0
        · rw [cz i h2]; exact h2
        · rw [cn i h1 h2]; exact (lo i hi h2).2.1
      refine ⟨by show S.l + 1 ≤ r; omega, bnd, fun v => ?_, fun t ht => ?_, fun t ht => ?_, fun t ht i hi hit => ?_, fun t ht j hj => ?_, fun i h1 h2 j hj => ?_, fun t u htu hu => ?_⟩
      · refine Iff.trans ?_ ((kerS v).trans (I.ker v))
        exact ker_rows hl (fun j hj => by show ic k (clearW k c W1 S.l n S.l j) = _; rw [cl]) rows v
      · show (if t = S.l then n else S.ld t) < n + 1
        split
        · omega
        · have := I.lt t (by have : t < S.l + 1 := ht; omega)
          omega
      · show clearW k c W1 S.l n t (if t = S.l then n else S.ld t) ≠ 0
        have ht' : t < S.l + 1 := ht
        by_cases z : t = S.l
        · rw [if_pos z, z, cl]; exact ln
        · rw [if_neg z]
          have hlt := I.lt t (by omega)
          rw [Ne, keep t (by omega) _ hlt, st t (by omega)]
          exact I.ne t (by omega)
      · show clearW k c W1 S.l n i (if t = S.l then n else S.ld t) = 0
        have ht' : t < S.l + 1 := ht
        by_cases z : t = S.l
        · rw [if_pos z]; exact coln i hi (by omega)
        · rw [if_neg z]
          have hlt := I.lt t (by omega)
          rw [keep i hi _ hlt]
          by_cases z2 : i < S.l
          · rw [st i z2]; exact I.zero t (by omega) i hi hit
          · obtain ⟨i', g1, g2, g3⟩ := sr i hi (by omega)
            rw [g3]
            exact I.zero t (by omega) i' g2 (by omega)
      · have ht' : t < S.l + 1 := ht
        have hj' : j < (if t = S.l then n else S.ld t) := hj
        show clearW k c W1 S.l n t j = 0
        by_cases z : t = S.l
        · rw [if_pos z] at hj'
          rw [z, cl]; exact lz j hj'
        · rw [if_neg z] at hj'
          have hlt := I.lt t (by omega)
          rw [keep t (by omega) j (by omega), st t (by omega)]
          exact I.left t (by omega) j hj'
      · have h1' : S.l + 1 ≤ i := h1
        show clearW k c W1 S.l n i j = 0
        by_cases ej : j = n
        · subst ej; exact coln i h2 (by omega)
        · rw [keep i h2 j (by omega)]
          obtain ⟨i', g1, g2, g3⟩ := sr i h2 (by omega)
          rw [g3]
          exact I.rest i' g1 g2 j (by omega)
      · have hu' : u < S.l + 1 := hu
        show (if t = S.l then n else S.ld t) < (if u = S.l then n else S.ld u)
        rw [if_neg (show ¬ t = S.l by omega)]
        split
        · exact I.lt t (by omega)
        · exact I.up t u htu (by omega)
end Lw
set_option exponentiation.threshold 20000
namespace Lw
open PySem PySem.Spec L2 Fw Pd
theorem whole_b (k : Fg) (c T S : Nat) (x : Nat → k.K) (hx : ∀ j, j < c → ht k (x j) ≤ T) (hs : (sumN c fun j => hd k (x j)) ≤ S) : WOk k (T + 1 + S) c (wholeR k c x) := fun j hj => by
  cases k with
  | q =>
    show bt (lowT c _ j).natAbs ≤ _
    refine Nat.le_trans (lowT_bt hj) ?_
    rw [Int.natAbs_mul]
    have h2 : (((lcmN c fun i => (x i).den : Nat) : Int).fdiv ((x j).den : Nat)).natAbs ≤ lcmN c fun i => (x i).den := by
      have := fd (a := ((lcmN c fun i => (x i).den : Nat) : Int)) (m := ((x j).den : Nat)) (by have := (x j).den_pos; omega) (by omega)
      omega
    have := bt_mul (x j).num.natAbs (((lcmN c fun i => (x i).den : Nat) : Int).fdiv ((x j).den : Nat)).natAbs
    have := bt_mono h2
    have := lcmN_bt (d := fun i => (x i).den) (fun i => (x i).den_pos) c
    have hs' : (sumN c fun j => bt (x j).den) ≤ S := hs
    have := hq_num (x j)
    have : hq (x j) ≤ T := hx j hj
    omega
  | m n h =>
    have := fv_lt (x j)
    exact ⟨by show (0 : Int) ≤ ((x j).val : Int); omega, this⟩
/-- reduced_table told the reduced table -/
theorem E_red (k : Fg) (r c B : Nat) (A : Nat → Nat → k.K) (r1 : 1 ≤ r) (hr : r ≤ 900) (hc : c ≤ 900) (hx : ∀ i, i < r → ∃ T S, (∀ j, j < c → ht k (A i j) ≤ T) ∧ (sumN c fun j => hd k (A i j)) ≤ S ∧ T + 1 + S ≤ B) (hB0 : B ≤ 3999) (hB : Bd B r ≤ 4499) :
    ∃ R l ld, (∀ h, F_reduced_table [fig k, etab k r c A] h = .ok (.tup [etab k r c R, .tup (ilist l ld)]) h) ∧ Rref r c R l ld ∧ ∀ v, Ker r c R v ↔ Ker r c A v := by
  have I := rinv k r c B (redW0 k c A) fun i hi => by
    obtain ⟨T, S, h1, h2, h3⟩ := hx i hi
    exact (whole_b k c T S (A i) h1 h2).mono h3
  have hW : ∀ n, n ≤ c → ∀ i, i < r → WOk k 4499 c ((redS k r c (redW0 k c A) n).W i) := fun n hn i hi => ((I n hn).b i hi).mono (Nat.le_trans (Bd_mono (I n hn).l) hB)
  have J := I c (Nat.le_refl _)
  have hWc := hW c (Nat.le_refl _)
  refine ⟨redR k r c A, (redS k r c (redW0 k c A) c).l, (redS k r c (redW0 k c A) c).ld, fun h => E_reduced k r c A h r1 hr hc (fun i hi => by obtain ⟨T, S, h1, h2, h3⟩ := hx i hi; omega) (fun i j hi hj => by obtain ⟨T, S, h1, h2, h3⟩ := hx i hi; have := h1 j hj; omega) hW (fun t ht => ⟨J.lt t ht, J.ne t ht⟩), ?_, fun v => ?_⟩
  · unfold redR
    generalize redS k r c (redW0 k c A) c = Z at *
    have nz : ∀ t, t < Z.l → ic k (Z.W t (Z.ld t)) ≠ 0 := fun t ht z => J.ne t ht ((ic_zero ((hWc t (by have := J.l; omega)).ok (J.lt t ht))).mp z)
    refine ⟨J.l, J.lt, J.up, fun t ht => ?_, fun t ht i hi hit => ?_, fun t ht j hj => ?_, fun i h1 h2 j hj => ?_⟩
    · simp only [ht, if_true]
      exact Fd.mul_inv _ (nz t ht)
    · by_cases h1 : i < Z.l
      · simp only [h1, if_true]
        show ic k (Z.W i (Z.ld t)) * _ = 0
        rw [J.zero t ht i hi hit, ic_0]; grind
      · simp only [h1, if_false]
    · simp only [ht, if_true]
      show ic k (Z.W t j) * _ = 0
      rw [J.left t ht j hj, ic_0]; grind
    · simp only [show ¬ i < Z.l by omega, if_false]
  · unfold redR
    generalize redS k r c (redW0 k c A) c = Z at *
    have nz : ∀ t, t < Z.l → ic k (Z.W t (Z.ld t)) ≠ 0 := fun t ht z => J.ne t ht ((ic_zero ((hWc t (by have := J.l; omega)).ok (J.lt t ht))).mp z)
    have k1 : Ker r c (fun i => if i < Z.l then leadR k (Z.W i) (Z.W i (Z.ld i)) else fun _ => 0) v ↔ Ker r c (fun i j => ic k (Z.W i j)) v := ker_scale (fun i hi => by
      by_cases h1 : i < Z.l
      · refine ⟨ki k (ic k (Z.W i (Z.ld i))), inv_ne (nz i h1), fun j hj => ?_⟩
        simp only [h1, if_true]
        unfold leadR
        grind
      · refine ⟨1, fun z => Fd.z_ne z.symm, fun j hj => ?_⟩
        simp only [h1, if_false]
        rw [J.rest i (by omega) hi j hj, ic_0]; grind) v
    have k2 : Ker r c (fun i j => ic k (redW0 k c A i j)) v ↔ Ker r c A v := ker_scale (fun i hi => whole_ok k c (A i)) v
    exact k1.trans ((J.ker v).trans k2)
end Lw
set_option exponentiation.threshold 20000
namespace Lw
section
variable {K : Type} [Fd K]
def del (a b : Nat) : K := if a = b then 1 else 0
theorem del_s (a : Nat) : (del a a : K) = 1 := if_pos rfl
theorem del_n {a b : Nat} (h : a ≠ b) : (del a b : K) = 0 := if_neg h
theorem Sm_del {f : Nat → K} {j n : Nat} (h : j < n) : Sm n (fun i => f i * del i j) = f j := by
  rw [Sm_one h fun i _ hi => by rw [del_n hi]; grind]
  rw [del_s]; grind
theorem Sm_sub {f g : Nat → K} {n : Nat} : Sm n (fun i => f i - g i) = Sm n f - Sm n g := by
  have := Sm_lin (f := f) (g := g) (s := (1 : K)) (t := 1) (n := n)
  rw [show (fun i => (1 : K) * f i - 1 * g i) = fun i => f i - g i by funext i; grind] at this
  rw [this]; grind
theorem Sm_swap {F : Nat → Nat → K} {m : Nat} : ∀ {n : Nat}, Sm n (fun i => Sm m fun j => F i j) = Sm m fun j => Sm n fun i => F i j
  | 0 => (Sm_zero fun j _ => rfl).symm
  | n + 1 => by
    show Sm n (fun i => Sm m fun j => F i j) + Sm m (fun j => F n j) = Sm m fun j => Sm n (fun i => F i j) + F n j
    rw [Sm_add, Sm_swap]
theorem Sm_mulr {f : Nat → K} {s : K} {n : Nat} : Sm n (fun i => f i * s) = Sm n f * s := by
  rw [show (fun i => f i * s) = fun i => s * f i by funext i; grind, Sm_mul]; grind
/-- what goes to nothing, one for each column -/
def kv (R : Nat → Nat → K) (l : Nat) (ld : Nat → Nat) (j : Nat) : Nat → K := fun x => del x j - Sm l fun t => R t j * del x (ld t)
variable {r c l l' : Nat} {R R' : Nat → Nat → K} {ld ld' : Nat → Nat}
theorem Rref.inj (h : Rref r c R l ld) {t u : Nat} (ht : t < l) (hu : u < l) (e : ld t = ld u) : t = u := by
  rcases Nat.lt_trichotomy t u with z | z | z
  · have := h.up t u z hu; omega
  · exact z
  · have := h.up u t z ht; omega
theorem Rref.at (h : Rref r c R l ld) {t : Nat} (ht : t < l) {i : Nat} (hi : i < r) : R i (ld t) = del i t := by
  by_cases e : i = t
  · subst e; rw [del_s]; exact h.one i ht
  · rw [del_n e]; exact h.zero t ht i hi e
theorem kv_ker (h : Rref r c R l ld) {j : Nat} (hj : j < c) : Ker r c R (kv R l ld j) := fun i hi => by
  have e1 : Sm c (fun x => R i x * kv R l ld j x) = Sm c (fun x => R i x * del x j) - Sm c fun x => Sm l fun t => R i x * (R t j * del x (ld t)) := by
    rw [← Sm_sub]
    refine Sm_congr fun x _ => ?_
    unfold kv
    rw [Sm_mul]; grind
  rw [e1, Sm_del hj, Sm_swap]
  have e2 : (Sm l fun t => Sm c fun x => R i x * (R t j * del x (ld t))) = Sm l fun t => R t j * del t i := Sm_congr fun t ht => by
    have : (fun x => R i x * (R t j * del x (ld t))) = fun x => (R i x * R t j) * del x (ld t) := by funext x; grind
    rw [this, Sm_del (f := fun x => R i x * R t j) (h.lt t ht), h.at ht hi]
    by_cases e : i = t
    · subst e; rw [del_s]; grind
    · rw [del_n e, del_n fun z => e z.symm]; grind
  rw [e2]
  by_cases hl : i < l
  · rw [Sm_del (f := fun t => R t j) hl]; grind
  · rw [Sm_zero fun t ht => by rw [del_n (by omega)]; grind, h.rest i (by omega) hi j hj]; grind
theorem kv_after (h : Rref r c R l ld) {j x : Nat} (hx : j < x) : kv R l ld j x = 0 := by
  unfold kv
  rw [del_n (by omega), Sm_zero fun t ht => by
    by_cases e : x = ld t
    · rw [h.left t ht j (by omega)]; grind
    · rw [del_n e]; grind]
  grind
theorem kv_self {j : Nat} (hn : ∀ t, t < l → ld t ≠ j) : kv R l ld j j = 1 := by
  unfold kv
  rw [del_s, Sm_zero fun t ht => by rw [del_n fun z => hn t ht z.symm]; grind]
  grind
theorem kv_lead (h : Rref r c R l ld) {j s : Nat} (hs : s < l) (hn : ld s ≠ j) : kv R l ld j (ld s) = - R s j := by
  unfold kv
  rw [del_n hn, Sm_one hs fun t ht hts => by rw [del_n fun z => hts (h.inj hs ht z).symm]; grind, del_s]
  grind
theorem ker_lead (h : Rref r c R l ld) {v : Nat → K} (k : Ker r c R v) {t : Nat} (ht : t < l) (ha : ∀ x, ld t < x → x < c → v x = 0) : v (ld t) = 0 := by
  have e := k t (by have := h.lr; omega)
  rw [Sm_one (h.lt t ht) fun x hx hn => by
    by_cases z : x < ld t
    · rw [h.left t ht x z]; grind
    · rw [ha x (by omega) hx]; grind, h.one t ht] at e
  rw [← e]; grind
theorem lead_in (h : Rref r c R l ld) (h' : Rref r c R' l' ld') (hk : ∀ v, Ker r c R v ↔ Ker r c R' v) {t : Nat} (ht : t < l) : ∃ u, u < l' ∧ ld' u = ld t := by
  rcases Classical.em (∃ u, u < l' ∧ ld' u = ld t) with z | z
  · exact z
  · have e1 := kv_self (R := R') (l := l') (ld := ld') (j := ld t) fun u hu e => z ⟨u, hu, e⟩
    have e2 := ker_lead h ((hk _).mpr (kv_ker h' (h.lt t ht))) ht fun x hx _ => kv_after h' hx
    rw [e1] at e2
    exact (Fd.z_ne e2.symm).elim
theorem up_eq {l l' : Nat} {ld ld' : Nat → Nat} (u1 : ∀ t u, t < u → u < l → ld t < ld u) (u2 : ∀ t u, t < u → u < l' → ld' t < ld' u) (h1 : ∀ t, t < l → ∃ u, u < l' ∧ ld' u = ld t) (h2 : ∀ t, t < l' → ∃ u, u < l ∧ ld u = ld' t) : ∀ t, t < l → t < l' ∧ ld t = ld' t := by
  intro t
  induction t using Nat.strongRecOn with
  | ind t ih =>
    intro ht
    obtain ⟨u, hu, eu⟩ := h1 t ht
    have ut : t ≤ u := by
      rcases Nat.lt_or_ge u t with z | z
      · have := ih u z (by omega)
        have := u1 u t z ht
        omega
      · exact z
    have tl : t < l' := by omega
    refine ⟨tl, ?_⟩
    obtain ⟨w, hw, ew⟩ := h2 t tl
    have wt : t ≤ w := by
      rcases Nat.lt_or_ge w t with z | z
      · have := ih w z (by omega)
        have := u2 w t z tl
        omega
      · exact z
    have a1 : ld t ≤ ld w := by
      rcases Nat.eq_or_lt_of_le wt with z | z
      · rw [z]; exact Nat.le_refl _
      · exact Nat.le_of_lt (u1 t w z hw)
    have a2 : ld' t ≤ ld' u := by
      rcases Nat.eq_or_lt_of_le ut with z | z
      · rw [z]; exact Nat.le_refl _
      · exact Nat.le_of_lt (u2 t u z hu)
    omega
theorem rref_unique (h : Rref r c R l ld) (h' : Rref r c R' l' ld') (hk : ∀ v, Ker r c R v ↔ Ker r c R' v) : l = l' ∧ (∀ t, t < l → ld t = ld' t) ∧ ∀ i j, i < r → j < c → R i j = R' i j := by
  have p1 := fun t (ht : t < l) => lead_in h h' hk ht
  have p2 := fun t (ht : t < l') => lead_in h' h (fun v => (hk v).symm) ht
  have q1 := up_eq h.up h'.up p1 p2
  have q2 := up_eq h'.up h.up p2 p1
  have el : l = l' := by
    rcases Nat.lt_trichotomy l l' with z | z | z
    · have := (q2 l z).1; omega
    · exact z
    · have := (q1 l' z).1; omega
  subst el
  refine ⟨rfl, fun t ht => (q1 t ht).2, fun i j hi hj => ?_⟩
  by_cases hl : i < l
  · by_cases hp : ∃ t, t < l ∧ ld t = j
    · obtain ⟨t, ht, rfl⟩ := hp
      rw [h.at ht hi, (q1 t ht).2, h'.at ht hi]
    · have hn : ∀ t, t < l → ld t ≠ j := fun t ht e => hp ⟨t, ht, e⟩
      have e := (hk _).mp (kv_ker h hj) i hi
      have e1 : Sm c (fun x => R' i x * kv R l ld j x) = Sm c (fun x => R' i x * del x j) - Sm c fun x => Sm l fun t => R' i x * (R t j * del x (ld t)) := by
        rw [← Sm_sub]
        refine Sm_congr fun x _ => ?_
        unfold kv
        rw [Sm_mul]; grind
      rw [e1, Sm_del hj, Sm_swap] at e
      have e2 : (Sm l fun t => Sm c fun x => R' i x * (R t j * del x (ld t))) = Sm l fun t => R t j * del t i := Sm_congr fun t ht => by
        have : (fun x => R' i x * (R t j * del x (ld t))) = fun x => (R' i x * R t j) * del x (ld t) := by funext x; grind
        rw [this, Sm_del (f := fun x => R' i x * R t j) (h.lt t ht), (q1 t ht).2, h'.at ht hi]
        by_cases e : i = t
        · subst e; rw [del_s]; grind
        · rw [del_n e, del_n fun z => e z.symm]; grind
      rw [e2, Sm_del (f := fun t => R t j) hl] at e
      grind
  · rw [h.rest i (by omega) hi j hj, h'.rest i (by omega) hi j hj]
end
end Lw
set_option exponentiation.threshold 20000
namespace Lw
open PySem PySem.Spec L2 Fw Pd
theorem gen_1 {α : Type} (x : α) : [x] = gen 1 fun _ => x := rfl
theorem E_unit_row (k : Fg) (n i : Nat) (h : D) (hi : i < n) (hn : n ≤ 900) : F_unit_row [fig k, .int n, .int i] h = .ok (erow k n fun j => del j i) h := by
  have z1 := E_zero_row k (i : Int) h (by omega) (by omega)
  have z2 := E_zero_row k ((n : Int) - (i : Int) - 1) h (by omega) (by omega)
  have et : ((n : Int) - (i : Int) - 1).toNat = n - i - 1 := by omega
  rw [Int.toNat_natCast] at z1
  rw [et] at z2
  unfold F_unit_row erow
  unfold erow at z1 z2
  push_cast [fig_vm, fig_o, z1, z2]
  rw [gen_1 (enc k 1), gen_app, gen_app, show i + 1 + (n - i - 1) = n by omega]
  congr 2
  refine gen_congr fun j hj => ?_
  unfold del
  by_cases h1 : j < i
  · rw [if_pos (by omega), if_pos h1, if_neg (by omega)]
  · by_cases h2 : j = i
    · rw [if_pos (by omega), if_neg h1, if_pos h2]
    · rw [if_neg (by omega), if_neg h2]
theorem E_unit_table (k : Fg) (n : Nat) (h : D) (hn : n ≤ 900) : F_unit_table [fig k, .int n] h = .ok (etab k n n fun i j => del j i) h := by
  have e : ∀ i, i < n → ∀ h, F_unit_row [fig k, .int n, .int i] h = .ok (erow k n fun j => del j i) h := fun i hi h => E_unit_row k n i h hi hn
  unfold F_unit_table etab
  push_cast [fig_vm, e]
/-- the table, the unit table beside it -/
def besU {k : Fg} (c : Nat) (A : Nat → Nat → k.K) : Nat → Nat → k.K := fun i j => if j < c then A i j else del (j - c) i
theorem kTup_e {k : Fg} {c : Nat} {x : Nat → k.K} : Fw.kTup [erow k c x] = some (erow k c x) := (rfl)
theorem plus_e {k : Fg} {c d : Nat} {x y : Nat → k.K} (h : c + d ≤ 1000000) : oPlus (erow k c x) (erow k d y) = some (erow k (c + d) fun j => if j < c then x j else y (j - c)) := by
  unfold erow
  rw [plus_t (by rw [gen_len, gen_len]; exact h), gen_app]
  congr 2
  exact gen_congr fun j _ => by
    show _ = enc k (if j < c then x j else y (j - c))
    split <;> rfl
theorem sfz_erow {k : Fg} {c : Nat} {x : Nat → k.K} : sfz (erow k c x) = erow k c x := (rfl)
theorem E_beside_unit (k : Fg) (r c : Nat) (A : Nat → Nat → k.K) (h : D) (hr : r ≤ 900) (hc : c ≤ 900) : F_beside_unit [fig k, etab k r c A] h = .ok (etab k r (c + r) (besU c A)) h := by
  have eu := E_unit_table k r h hr
  unfold F_beside_unit
  unfold etab at eu ⊢
  push_cast [fig_vm, eu, erow_vd, kTup_e, plus_e]
  congr 2
theorem eq_ints {n m : Nat} {f g : Nat → Int} (hn : n ≤ 900) (hm : m ≤ 900) : eqD (.tup (gen n fun i => .int (f i))) (.tup (gen m fun i => .int (g i))) = some (decide (n = m ∧ ∀ i, i < n → f i = g i)) := by
  have tp : ∀ (n : Nat) (f : Nat → Int), toPyL (gen n fun i => .int (f i)) = some (gen n fun i => .int (f i)) := fun n => by
    induction n with
    | zero => intro f; rfl
    | succ n ih =>
      intro f
      rw [gen_succ, gen_succ]
      unfold toPyL
      rw [ih fun i => f (i + 1)]
      rfl
  have sh : ∀ (n : Nat) (f : Nat → Int), SeqAt.shaped (.tuple (gen n fun i => .int (f i))) = true := fun n f => by
    have a : ∀ (n : Nat) (f : Nat → Int), PyData.canLayAll0 (gen n fun i => .int (f i)) = true ∧ PyData.depthAll (gen n fun i => .int (f i)) ≤ 1 := fun n => by
      induction n with
      | zero => intro f; rw [gen_zero]; exact ⟨by simp only [PyData.canLayAll0], by simp only [PyData.depthAll]; omega⟩
      | succ n ih =>
        intro f
        obtain ⟨i1, i2⟩ := ih fun i => f (i + 1)
        rw [gen_succ]
        simp only [PyData.canLayAll0, PyData.canLay0, PyData.depthAll, PyData.depth, i1, Bool.and_self, true_and]
        omega
    obtain ⟨a1, a2⟩ := a n f
    unfold SeqAt.shaped
    simp only [PyData.canLay0, PyData.depth, a1, Bool.true_and]
    exact decide_eq_true (by omega)
  have ev : ∀ (n m : Nat) (f g : Nat → Int), PyData.eqvAll (gen n fun i => .int (f i)) (gen m fun i => .int (g i)) = decide (n = m ∧ ∀ i, i < n → f i = g i) := fun n => by
    induction n with
    | zero =>
      intro m f g
      cases m with
      | zero => rw [gen_zero, gen_zero]; simp [PyData.eqvAll]
      | succ m => rw [gen_zero, gen_succ]; simp [PyData.eqvAll]
    | succ n ih =>
      intro m f g
      cases m with
      | zero => rw [gen_zero, gen_succ]; simp [PyData.eqvAll]
      | succ m =>
        rw [gen_succ, gen_succ]
        simp only [PyData.eqvAll, PyData.eqv]
        rw [ih m (fun i => f (i + 1)) fun i => g (i + 1)]
        rw [Bool.eq_iff_iff, Bool.and_eq_true, decide_eq_true_eq, decide_eq_true_eq, beq_iff_eq]
        constructor
        · rintro ⟨e0, e1, e2⟩
          refine ⟨by omega, fun i hi => ?_⟩
          cases i with
          | zero => exact e0
          | succ i => exact e2 i (by omega)
        · rintro ⟨e1, e2⟩
          exact ⟨e2 0 (by omega), by omega, fun i hi => e2 (i + 1) (by omega)⟩
  have t1 : toPy (.tup (gen n fun i => .int (f i))) = some (.tuple (gen n fun i => .int (f i))) := by unfold toPy; rw [tp]; rfl
  have t2 : toPy (.tup (gen m fun i => .int (g i))) = some (.tuple (gen m fun i => .int (g i))) := by unfold toPy; rw [tp]; rfl
  unfold eqD
  rw [t1, t2]
  show (if (SeqAt.shaped _ && SeqAt.shaped _) = true then _ else _) = _
  rw [sh, sh]
  show some (PyData.eqv _ _) = _
  simp only [PyData.eqv]
  rw [ev]
section
variable {K : Type} [Fd K]
theorem Sm_split {f : Nat → K} {n : Nat} : ∀ {m : Nat}, Sm (n + m) f = Sm n f + Sm m fun i => f (n + i)
  | 0 => by show Sm n f = Sm n f + 0; grind
  | m + 1 => by
    show Sm (n + m) f + f (n + m) = Sm n f + (Sm m (fun i => f (n + i)) + f (n + m))
    rw [Sm_split]; grind
theorem Sm_neg {f : Nat → K} {n : Nat} : Sm n (fun i => - f i) = - Sm n f := by
  rw [show (fun i => - f i) = fun i => (-1 : K) * f i by funext i; grind, Sm_mul]; grind
theorem Sm_del' {f : Nat → K} {j n : Nat} (h : j < n) : Sm n (fun i => del i j * f i) = f j := by
  rw [show (fun i => del i j * f i) = fun i => f i * del i j by funext i; grind, Sm_del h]
/-- [A | 1] and [1 | X] send the same to nothing -/
theorem ker_undone {n : Nat} {A X : Nat → Nat → K} (h1 : ∀ i j, i < n → j < n → Sm n (fun x => A i x * X x j) = del j i) (h2 : ∀ i j, i < n → j < n → Sm n (fun x => X i x * A x j) = del j i) (v : Nat → K) :
    Ker n (n + n) (fun i j => if j < n then del j i else X i (j - n)) v ↔ Ker n (n + n) (fun i j => if j < n then A i j else del (j - n) i) v := by
  have s1 : ∀ i, i < n → Sm (n + n) (fun j => (if j < n then del j i else X i (j - n)) * v j) = v i + Sm n fun x => X i x * v (n + x) := fun i hi => by
    rw [Sm_split, Sm_congr (g := fun j => del j i * v j) fun j hj => by rw [if_pos hj], Sm_del' hi]
    congr 1
    exact Sm_congr fun x hx => by rw [if_neg (by omega), Nat.add_sub_cancel_left]
  have s2 : ∀ i, i < n → Sm (n + n) (fun j => (if j < n then A i j else del (j - n) i) * v j) = Sm n (fun x => A i x * v x) + v (n + i) := fun i hi => by
    rw [Sm_split, Sm_congr (g := fun j => A i j * v j) fun j hj => by rw [if_pos hj]]
    congr 1
    rw [Sm_congr (g := fun x => del x i * v (n + x)) fun x hx => by rw [if_neg (by omega), Nat.add_sub_cancel_left]]
    exact Sm_del' hi
  constructor
  · intro k i hi
    rw [s2 i hi]
    have e : ∀ x, x < n → v x = - Sm n fun y => X x y * v (n + y) := fun x hx => by
      have := k x hx
      rw [s1 x hx] at this
      grind
    rw [Sm_congr (g := fun x => - Sm n fun y => A i x * X x y * v (n + y)) fun x hx => by
      rw [e x hx, show (fun y => A i x * X x y * v (n + y)) = fun y => A i x * (X x y * v (n + y)) by funext y; grind, Sm_mul]; grind, Sm_neg, Sm_swap]
    rw [Sm_congr (g := fun y => del y i * v (n + y)) fun y hy => by rw [Sm_mulr, h1 i y hi hy], Sm_del' hi]
    grind
  · intro k i hi
    rw [s1 i hi]
    have e : ∀ x, x < n → v (n + x) = - Sm n fun y => A x y * v y := fun x hx => by
      have := k x hx
      rw [s2 x hx] at this
      grind
    rw [Sm_congr (g := fun x => - Sm n fun y => X i x * A x y * v y) fun x hx => by
      rw [e x hx, show (fun y => X i x * A x y * v y) = fun y => X i x * (A x y * v y) by funext y; grind, Sm_mul]; grind, Sm_neg, Sm_swap]
    rw [Sm_congr (g := fun y => del y i * v y) fun y hy => by rw [Sm_mulr, h2 i y hi hy], Sm_del' hi]
    grind
theorem rref_undone {n : Nat} (X : Nat → Nat → K) : Rref n (n + n) (fun i j => if j < n then del j i else X i (j - n)) n fun t => t where
  lr := Nat.le_refl _
  lt := fun t ht => by omega
  up := fun t u h _ => h
  one := fun t ht => by simp only [ht, if_true]; exact del_s t
  zero := fun t ht i _ hit => by simp only [ht, if_true]; exact del_n fun z => hit z.symm
  left := fun t ht j hj => by simp only [show j < n by omega, if_true]; exact del_n (by omega)
  rest := fun i h1 h2 => by omega
end
end Lw
set_option exponentiation.threshold 20000
namespace Lw
open PySem PySem.Spec L2 Fw Pd
theorem hd_0 (k : Fg) : hd k 0 ≤ 1 := by cases k with
  | q => exact (by decide : bt (0 : Rat).den ≤ 1)
  | m n h => exact Nat.zero_le _
theorem hd_1 (k : Fg) : hd k 1 ≤ 1 := by cases k with
  | q => exact (by decide : bt (1 : Rat).den ≤ 1)
  | m n h => exact Nat.zero_le _
theorem ht_del (k : Fg) (a b : Nat) : ht k (del a b) ≤ 1 := by
  unfold del
  split
  · exact ht_one k
  · exact ht_zero k
theorem hd_del (k : Fg) (a b : Nat) : hd k (del a b) ≤ 1 := by
  unfold del
  split
  · exact hd_1 k
  · exact hd_0 k
theorem sumN_congr {f g : Nat → Nat} : ∀ {n : Nat}, (∀ i, i < n → f i = g i) → sumN n f = sumN n g
  | 0, _ => rfl
  | n + 1, k => by
    show sumN n f + f n = sumN n g + g n
    rw [sumN_congr fun i hi => k i (by omega), k n (by omega)]
theorem sumN_le {f : Nat → Nat} {b : Nat} : ∀ {n : Nat}, (∀ i, i < n → f i ≤ b) → sumN n f ≤ b * n
  | 0, _ => Nat.le_refl _
  | n + 1, k => by
    have := sumN_le (n := n) fun i hi => k i (by omega)
    have := k n (by omega)
    show sumN n f + f n ≤ b * (n + 1)
    rw [Nat.mul_succ]
    omega
theorem sumN_split {f : Nat → Nat} {n : Nat} : ∀ {m : Nat}, sumN (n + m) f = sumN n f + sumN m fun i => f (n + i)
  | 0 => rfl
  | m + 1 => by
    show sumN (n + m) f + f (n + m) = sumN n f + (sumN m (fun i => f (n + i)) + f (n + m))
    rw [sumN_split]
    omega
/-- what is undone is undone -/
theorem E_undone (k : Fg) (n B : Nat) (A X : Nat → Nat → k.K) (h : D) (n1 : 1 ≤ n) (hn : n ≤ 400) (hx : ∀ i, i < n → ∃ T S, 1 ≤ T ∧ (∀ j, j < n → ht k (A i j) ≤ T) ∧ (sumN n fun j => hd k (A i j)) ≤ S ∧ T + 1 + (S + n) ≤ B) (hB0 : B ≤ 3999) (hB : Bd B n ≤ 4499)
    (h1 : ∀ i j, i < n → j < n → Sm n (fun x => A i x * X x j) = del j i) (h2 : ∀ i j, i < n → j < n → Sm n (fun x => X i x * A x j) = del j i) :
    F_undone_table [fig k, etab k n n A] h = .ok (etab k n n X) h := by
  have eb := E_beside_unit k n n A h (by omega) (by omega)
  obtain ⟨R, l, ld, er, hr, hk⟩ := E_red k n (n + n) B (besU n A) n1 (by omega) (by omega) (fun i hi => by
    obtain ⟨T, S, T1, h1, h2, h3⟩ := hx i hi
    refine ⟨T, S + n, fun j hj => ?_, ?_, h3⟩
    · unfold besU
      split
      · exact h1 j (by omega)
      · exact Nat.le_trans (ht_del k _ _) T1
    · rw [sumN_split]
      have e1 : (sumN n fun j => hd k (besU n A i j)) = sumN n fun j => hd k (A i j) := sumN_congr fun j hj => by unfold besU; rw [if_pos hj]
      have e2 : (sumN n fun j => hd k (besU n A i (n + j))) ≤ 1 * n := sumN_le fun j hj => by unfold besU; rw [if_neg (by omega)]; exact hd_del k _ _
      omega) hB0 hB
  have er := er h
  obtain ⟨el, eld, eR⟩ := rref_unique hr (rref_undone X) fun v => (hk v).trans (ker_undone h1 h2 v).symm
  subst el
  have eq : eqD (.tup (ilist l ld)) (.tup (gen l fun i => .int (i : Int))) = some true := by
    unfold ilist
    rw [eq_ints (by omega) (by omega)]
    congr 1
    exact decide_eq_true ⟨rfl, fun i hi => by rw [eld i hi]⟩
  have fin : ∀ i, i < l → (gen l fun j => enc k (R i (l + j))) = gen l fun j => enc k (X i j) := fun i hi => gen_congr fun j hj => by
    rw [eR i (l + j) hi (by omega), if_neg (by omega), Nat.add_sub_cancel_left]
  have el2 : l + l - l = l := by omega
  unfold F_undone_table
  unfold etab at er eb ⊢
  unfold erow at er eb ⊢
  push_cast [fig_vm, eb, er, eq, el2, fin]
end Lw
set_option exponentiation.threshold 20000
namespace Lw
open PySem PySem.Spec L2 Fw Pd
theorem div_ok {i j : Int} (h0 : j ≠ 0) (hj : j.natAbs < 2 ^ 64) : cDiv i j = true := by
  have : bt j.natAbs ≤ 64 := bt_le hj
  exact cDiv_b h0 (by omega)
theorem mul_ok {i j : Int} (hi : i.natAbs < 2 ^ 64) (hj : j.natAbs < 2 ^ 64) : cMul i j = true := by
  have : bt i.natAbs ≤ 64 := bt_le hi
  have : bt j.natAbs ≤ 64 := bt_le hj
  exact cMul_b (by omega)
theorem atI_n {α : Type} {xs : List α} {i : Nat} {x : α} (h : xs[i]? = some x) : atI xs (i : Int) = some x := by
  have hl : i < xs.length := (List.getElem?_eq_some_iff.mp h).1
  unfold atI ixN
  rw [if_pos (Int.natCast_nonneg i), if_pos (by omega), Option.bind_some, Int.toNat_natCast, h]
theorem ix41 : ixN 4 1 = some 1 := (rfl)
theorem ix42 : ixN 4 2 = some 2 := (rfl)
theorem ix43 : ixN 4 3 = some 3 := (rfl)
theorem na {a : Int} {b : Nat} (h0 : 0 ≤ a) (h1 : a < b) : a.natAbs < b := by omega
theorem sm {i j : Int} (h0 : 0 ≤ i) (h1 : i < 2 ^ 63) (k0 : 0 ≤ j) (k1 : j < 2 ^ 63) : cMul i j = true := mul_ok (by omega) (by omega)
theorem E_mixed (n t : Int) (h : D) (hn : 0 ≤ n) (hn1 : n < 2 ^ 40) (ht : 0 ≤ t) (ht1 : t < 2 ^ 40) : ∃ r, F__law_mixed [.int n, .int t] h = .ok (.int r) h ∧ 0 ≤ r := by
  have m1 := sm hn (by omega) (show (0 : Int) ≤ 39373 by decide) (by decide)
  have m2 := sm ht (by omega) (show (0 : Int) ≤ 6151 by decide) (by decide)
  have m3 := sm ht (by omega) (show (0 : Int) ≤ 81071 by decide) (by decide)
  obtain ⟨A, eA⟩ : ∃ A, A = (n * 39373 + t * 6151 + 50021).fmod 2147483399 := ⟨_, rfl⟩
  obtain ⟨a0, a1⟩ := fm (a := n * 39373 + t * 6151 + 50021) (show (0 : Int) < 2147483399 by decide)
  rw [← eA] at a0 a1
  have m4 := sm a0 (by omega) a0 (by omega)
  obtain ⟨d0, d1⟩ := fd (m := 137) (by decide) a0
  obtain ⟨d2, d3⟩ := fd (m := 11) (by decide) a0
  obtain ⟨B, eB⟩ : ∃ B, B = (A * A + t * 81071 + A.fdiv 137).fmod 2147483629 := ⟨_, rfl⟩
  obtain ⟨b0, b1⟩ := fm (a := A * A + t * 81071 + A.fdiv 137) (show (0 : Int) < 2147483629 by decide)
  rw [← eB] at b0 b1
  have m5 := sm b0 (by omega) (show (0 : Int) ≤ 62089 by decide) (by decide)
  obtain ⟨c0, c1⟩ := fm (a := B * 62089 + A.fdiv 11) (show (0 : Int) < 2147483587 by decide)
  obtain ⟨f0, _⟩ := fd (m := 64) (by decide) c0
  refine ⟨_, ?_, f0⟩
  unfold F__law_mixed
  push_cast [m1, m2, m3, m4, m5, ← eA, ← eB, kInt, mod_ok (show (2147483399 : Int) ≠ 0 by decide), mod_ok (show (2147483629 : Int) ≠ 0 by decide), mod_ok (show (2147483587 : Int) ≠ 0 by decide), div_ok (show (137 : Int) ≠ 0 by decide) (by decide), div_ok (show (11 : Int) ≠ 0 by decide) (by decide), div_ok (show (64 : Int) ≠ 0 by decide) (by decide)]
/-- a hand -/
def HandI (h : D) : Prop := ∃ (cs : List Int) (p g t : Int), h = .hl [.lst (cs.map D.int), .int p, .int g, .int t] ∧ (∀ z ∈ cs, 0 ≤ z) ∧ cs.length ≤ 63 ∧ 0 ≤ p ∧ p ≤ 63 ∧ 0 ≤ g ∧ 0 ≤ t ∧ t < 2147483648
theorem hand_0 (cs : List Int) (t : Int) (h1 : ∀ z ∈ cs, 0 ≤ z) (h2 : cs.length ≤ 63) (h3 : 0 ≤ t) (h4 : t < 2147483648) : HandI (hand0 cs t) := ⟨cs, 0, 0, t, rfl, h1, h2, by omega, by omega, by omega, h3, h4⟩
theorem E_take (m : Int) (h : D) (hh : HandI h) (hm : 0 < m) (hm1 : m < 2 ^ 62) : ∃ r h', F__law_take [.me, .int m] h = .ok (.int r) h' ∧ 0 ≤ r ∧ r < m ∧ HandI h' := by
  obtain ⟨cs, p, g, t, rfl, hc, hl, p0, p1, g0, t0, t1⟩ := hh
  have hm0 : m ≠ 0 := by omega
  have mm := mod_ok (i := 0) hm0
  have md : ∀ i, cMod i m = true := fun i => mod_ok hm0
  have dd : ∀ i, cDiv i m = true := fun i => div_ok hm0 (by omega)
  have k1 : kLen [.lst (cs.map D.int)] = some (.int cs.length) := by
    show some (D.int ((cs.map D.int).length : Nat)) = _
    rw [List.length_map]
  -- the last way
  have last : ∀ p g, 0 ≤ p → p ≤ 63 → 0 ≤ g → ∃ q h', F__law_mixed [.int ((t + 1).fmod 2147483549), .int p] (.hl [.lst (cs.map D.int), .int p, .int g, .int ((t + 1).fmod 2147483549)]) = .ok (.int q) (.hl [.lst (cs.map D.int), .int p, .int g, .int ((t + 1).fmod 2147483549)]) ∧ h' = D.hl [.lst (cs.map D.int), .int p, .int g, .int ((t + 1).fmod 2147483549)] ∧ HandI h' := fun p g p0 p1 g0 => by
    obtain ⟨a0, a1⟩ := fm (a := t + 1) (show (0 : Int) < 2147483549 by decide)
    obtain ⟨q, e, _⟩ := E_mixed ((t + 1).fmod 2147483549) p (.hl [.lst (cs.map D.int), .int p, .int g, .int ((t + 1).fmod 2147483549)]) a0 (by omega) p0 (by omega)
    exact ⟨q, _, e, rfl, cs, p, g, _, rfl, hc, hl, p0, p1, g0, a0, by omega⟩
  have mt := mod_ok (i := t + 1) (show (2147483549 : Int) ≠ 0 by decide)
  by_cases hg : g = 0
  · subst hg
    by_cases hp : p < cs.length
    · obtain ⟨z, hz⟩ : ∃ z, cs[p.toNat]? = some z := ⟨cs[p.toNat], List.getElem?_eq_getElem (by omega)⟩
      have z0 := hc z (List.mem_of_getElem? hz)
      have ez : atI (cs.map D.int) p = some (.int z) := by
        have := atI_n (xs := cs.map D.int) (i := p.toNat) (x := .int z) (by rw [List.getElem?_map, hz]; rfl)
        rw [Int.toNat_of_nonneg p0] at this
        exact this
      by_cases h18 : z < 10 ^ 18
      · obtain ⟨a0, a1⟩ := fm (a := z) (show (0 : Int) < 2147483399 by decide)
        obtain ⟨q, e, _⟩ := E_mixed (z.fmod 2147483399) (p + 1) (.hl [.lst (cs.map D.int), .int (p + 1), .int 0, .int t]) a0 (by omega) (by omega) (by omega)
        refine ⟨q.fmod m, .hl [.lst (cs.map D.int), .int (p + 1), .int 0, .int t], ?_, (fm hm).1, (fm hm).2, cs, p + 1, 0, t, rfl, hc, hl, by omega, by omega, by omega, t0, t1⟩
        unfold F__law_take
        push_cast [eIxM, eM, sStM, at0, at1, at2, at3, ix41, k1, hp, ez, e, kInt, md, oIx, cPow, mod_ok (show (2147483399 : Int) ≠ 0 by decide), decide_true, decide_false]
      · have h18' : (decide (z < 10 ^ (18 : Int).toNat)) = false := decide_eq_false (by exact h18)
        have cp : (decide ((0:Int) ≤ 18) && (decide ((18:Int) ≤ 1000000) && decide ((10:Int).natAbs < 2 ^ 64))) = true := by decide
        have zp : (0 : Int) < z := by omega
        refine ⟨z.fmod m, .hl [.lst (cs.map D.int), .int (p + 1), .int (z.fdiv m), .int t], ?_, (fm hm).1, (fm hm).2, cs, p + 1, z.fdiv m, t, rfl, hc, hl, by omega, by omega, (fd hm z0).1, t0, t1⟩
        unfold F__law_take
        push_cast [eIxM, eM, sStM, at0, at1, at2, at3, ix41, ix42, k1, hp, ez, kInt, md, dd, oIx, cPow, cp, h18', zp, decide_true, decide_false]
    · obtain ⟨q, h', e, rfl, hi⟩ := last p 0 p0 p1 (by omega)
      refine ⟨q.fmod m, _, ?_, (fm hm).1, (fm hm).2, hi⟩
      have hz : ¬ (0 : Int) < 0 := by omega
      unfold F__law_take
      push_cast [eIxM, eM, sStM, at0, at1, at2, at3, ix43, k1, hp, e, kInt, md, mt, hz, decide_true, decide_false]
  · have gp : (0 : Int) < g := by omega
    refine ⟨g.fmod m, .hl [.lst (cs.map D.int), .int p, .int (g.fdiv m), .int t], ?_, (fm hm).1, (fm hm).2, cs, p, g.fdiv m, t, rfl, hc, hl, p0, p1, (fd hm g0).1, t0, t1⟩
    unfold F__law_take
    push_cast [eIxM, eM, sStM, at0, at1, at2, at3, ix42, hg, gp, kInt, md, dd, decide_true, decide_false]
end Lw
set_option exponentiation.threshold 20000
namespace Lw
section
variable {K : Type} [Fd K] {r c : Nat}
/-- elimination, up to column n -/
structure KInv (r c : Nat) (M : Nat → Nat → K) (n : Nat) (W : Nat → Nat → K) (l : Nat) (ld : Nat → Nat) : Prop where
  lr : l ≤ r
  ker : ∀ v : Nat → K, Ker r c W v ↔ Ker r c M v
  lt : ∀ t, t < l → ld t < n
  one : ∀ t, t < l → W t (ld t) = 1
  zero : ∀ t, t < l → ∀ i, i < r → i ≠ t → W i (ld t) = 0
  left : ∀ t, t < l → ∀ j, j < ld t → W t j = 0
  rest : ∀ i, l ≤ i → i < r → ∀ j, j < n → W i j = 0
  up : ∀ t u, t < u → u < l → ld t < ld u
theorem kinv (M : Nat → Nat → K) : ∀ n, n ≤ c → ∃ W l ld, KInv r c M n W l ld
  | 0, _ => ⟨M, 0, fun _ => 0, Nat.zero_le _, fun v => Iff.rfl, fun t ht => absurd ht (Nat.not_lt_zero _), fun t ht => absurd ht (Nat.not_lt_zero _), fun t ht => absurd ht (Nat.not_lt_zero _), fun t ht => absurd ht (Nat.not_lt_zero _), fun i _ _ j hj => absurd hj (Nat.not_lt_zero _), fun t u _ hu => absurd hu (Nat.not_lt_zero _)⟩
  | n + 1, hn => by
    obtain ⟨W, l, ld, I⟩ := kinv M n (by omega)
    by_cases hf : ∃ f, l ≤ f ∧ f < r ∧ W f n ≠ 0
    · obtain ⟨f, f1, f2, f3⟩ := hf
      have hl : l < r := by omega
      obtain ⟨W1, eW1⟩ : ∃ W1 : Nat → Nat → K, W1 = fun i => if i = f then W l else if i = l then W f else W i := ⟨_, rfl⟩
      have sl : W1 l = W f := by
        rw [eW1]
        by_cases z : l = f
        · simp only [if_pos z]; rw [z]
        · simp only [if_neg z, if_true]
      have st : ∀ t, t < l → W1 t = W t := fun t ht => by
        rw [eW1]
        simp only [if_neg (show ¬ t = f by omega), if_neg (show ¬ t = l by omega)]
      have sr : ∀ i, i < r → l ≤ i → ∃ i', l ≤ i' ∧ i' < r ∧ W1 i = W i' := fun i hi hli => by
        rw [eW1]
        by_cases z : i = f
        · exact ⟨l, Nat.le_refl _, hl, if_pos z⟩
        · by_cases z2 : i = l
          · exact ⟨f, f1, f2, by simp only [if_neg z, if_pos z2]⟩
          · exact ⟨i, hli, hi, by simp only [if_neg z, if_neg z2]⟩
      have ks : ∀ v : Nat → K, Ker r c W1 v ↔ Ker r c W v := ker_swap hl f2 fun i hi j hj => by
        rw [eW1]
        simp only
        split
        · rfl
        · split <;> rfl
      clear eW1
      have ln : W1 l n ≠ 0 := by rw [sl]; exact f3
      have lz : ∀ j, j < n → W1 l j = 0 := fun j hj => by rw [sl]; exact I.rest f f1 f2 j hj
      -- cleared, then the leader led by one
      have c1 : ∀ v : Nat → K, Ker r c (fun i j => if i = l then W1 i j else W1 i j - W1 i n * Fd.inv (W1 l n) * W1 l j) v ↔ Ker r c W1 v := ker_rows hl (fun j _ => by simp only [if_true]) fun i hi => by
        by_cases z : i = l
        · exact ⟨1, 0, fun z => Fd.z_ne z.symm, fun j _ => by simp only [if_pos z]; grind⟩
        · exact ⟨1, W1 i n * Fd.inv (W1 l n), fun z => Fd.z_ne z.symm, fun j _ => by simp only [if_neg z]; grind⟩
      have c2 : ∀ v : Nat → K, Ker r c (fun i j => if i = l then Fd.inv (W1 l n) * W1 l j else W1 i j - W1 i n * Fd.inv (W1 l n) * W1 l j) v ↔ Ker r c (fun i j => if i = l then W1 i j else W1 i j - W1 i n * Fd.inv (W1 l n) * W1 l j) v := ker_scale fun i hi => by
        by_cases z : i = l
        · exact ⟨Fd.inv (W1 l n), inv_ne ln, fun j _ => by simp only [if_pos z]; rw [z]⟩
        · exact ⟨1, fun z => Fd.z_ne z.symm, fun j _ => by simp only [if_neg z]; grind⟩
      have hinv := Fd.mul_inv _ ln
      refine ⟨fun i j => if i = l then Fd.inv (W1 l n) * W1 l j else W1 i j - W1 i n * Fd.inv (W1 l n) * W1 l j, l + 1, fun t => if t = l then n else ld t, by omega, fun v => (c2 v).trans ((c1 v).trans ((ks v).trans (I.ker v))), fun t ht => ?_, fun t ht => ?_, fun t ht i hi hit => ?_, fun t ht j hj => ?_, fun i h1 h2 j hj => ?_, fun t u htu hu => ?_⟩
      · show (if t = l then n else ld t) < n + 1
        split
        · omega
        · have := I.lt t (by omega); omega
      · by_cases z : t = l
        · simp only [if_pos z]; grind
        · simp only [if_neg z]
          have hlt := I.lt t (by omega)
          rw [lz _ hlt, st t (by omega), I.one t (by omega)]; grind
      · by_cases z : t = l
        · simp only [if_pos z, if_neg (show ¬ i = l by omega)]; grind
        · simp only [if_neg z]
          have hlt := I.lt t (by omega)
          rw [lz _ hlt]
          have e0 : W1 i (ld t) = 0 := by
            by_cases z2 : i < l
            · rw [st i z2]; exact I.zero t (by omega) i hi hit
            · obtain ⟨i', g1, g2, g3⟩ := sr i hi (by omega)
              rw [g3]; exact I.zero t (by omega) i' g2 (by omega)
          split
          · grind
          · rw [e0]; grind
      · have hj' : j < (if t = l then n else ld t) := hj
        by_cases z : t = l
        · rw [if_pos z] at hj'
          simp only [if_pos z]
          rw [lz j hj']; grind
        · rw [if_neg z] at hj'
          have hlt := I.lt t (by omega)
          simp only [if_neg z]
          rw [lz j (by omega), st t (by omega), I.left t (by omega) j hj']; grind
      · simp only [if_neg (show ¬ i = l by omega)]
        by_cases ej : j = n
        · subst ej; grind
        · obtain ⟨i', g1, g2, g3⟩ := sr i h2 (by omega)
          rw [lz j (by omega), g3, I.rest i' g1 g2 j (by omega)]; grind
      · show (if t = l then n else ld t) < (if u = l then n else ld u)
        rw [if_neg (show ¬ t = l by omega)]
        split
        · exact I.lt t (by omega)
        · exact I.up t u htu (by omega)
    · refine ⟨W, l, ld, I.lr, I.ker, fun t ht => by have := I.lt t ht; omega, I.one, I.zero, I.left, fun i h1 h2 j hj => ?_, I.up⟩
      by_cases ej : j = n
      · subst ej
        rcases Classical.em (W i j = 0) with z | z
        · exact z
        · exact (hf ⟨i, h1, h2, z⟩).elim
      · exact I.rest i h1 h2 j (by omega)
theorem rref_exists (M : Nat → Nat → K) : ∃ R l ld, Rref r c R l ld ∧ ∀ v : Nat → K, Ker r c R v ↔ Ker r c M v := by
  obtain ⟨W, l, ld, I⟩ := kinv (r := r) (c := c) M c (Nat.le_refl _)
  exact ⟨W, l, ld, ⟨I.lr, I.lt, I.up, I.one, I.zero, I.left, I.rest⟩, I.ker⟩
/-- the table that undoes on one side undoes on the other -/
theorem undone_both {n : Nat} {A X : Nat → Nat → K} (h : ∀ i j, i < n → j < n → Sm n (fun x => A i x * X x j) = del j i) : ∀ i j, i < n → j < n → Sm n (fun x => X i x * A x j) = del j i := by
  -- X sends nothing but nothing to nothing
  have triv : ∀ v : Nat → K, (∀ i, i < n → Sm n (fun x => X i x * v x) = 0) → ∀ i, i < n → v i = 0 := fun v hv i hi => by
    have e : Sm n (fun x => A i x * Sm n fun y => X x y * v y) = v i := by
      rw [Sm_congr (g := fun x => Sm n fun y => A i x * X x y * v y) fun x _ => by rw [← Sm_mul]; exact Sm_congr fun y _ => by grind, Sm_swap]
      rw [Sm_congr (g := fun y => del y i * v y) fun y hy => by rw [Sm_mulr, h i y hi hy], Sm_del' hi]
    rw [← e]
    exact Sm_zero fun x hx => by rw [hv x hx]; grind
  -- X reaches everything
  have reach : ∀ u : Nat → K, ∃ w : Nat → K, ∀ i, i < n → Sm n (fun x => X i x * w x) = u i := fun u => by
    obtain ⟨R, l, ld, hr, hk⟩ := rref_exists (r := n) (c := n + 1) fun i j => if j < n then X i j else u i
    have s1 : ∀ (v : Nat → K) i, i < n → Sm (n + 1) (fun j => (if j < n then X i j else u i) * v j) = Sm n (fun x => X i x * v x) + u i * v n := fun v i hi => by
      show Sm n _ + _ = _
      rw [Sm_congr (g := fun x => X i x * v x) fun x hx => by rw [if_pos hx]]
      simp only [if_neg (Nat.lt_irrefl n)]
    -- all first columns lead
    have lead : ∀ j, j < n → ∃ t, t < l ∧ ld t = j := fun j hj => by
      rcases Classical.em (∃ t, t < l ∧ ld t = j) with z | z
      · exact z
      · have e1 := kv_self (R := R) (l := l) (ld := ld) (j := j) fun t ht e => z ⟨t, ht, e⟩
        have e2 := (hk _).mp (kv_ker hr (show j < n + 1 by omega))
        have e3 : kv R l ld j n = 0 := kv_after hr (by omega)
        have e4 := triv (kv R l ld j) (fun i hi => by
          have := e2 i hi
          rw [s1 _ i hi, e3] at this
          rw [← this]; grind) j hj
        rw [e1] at e4
        exact (Fd.z_ne e4.symm).elim
    have idl : ∀ t, t < n → t < l ∧ ld t = t := by
      have q := up_eq (l := n) (l' := l) (ld := fun t => t) (ld' := ld) (fun t u h _ => h) hr.up
      intro t ht
      induction t using Nat.strongRecOn with
      | ind t ih =>
        obtain ⟨s, hs, es⟩ := lead t ht
        have ts : t ≤ s := by
          rcases Nat.lt_or_ge s t with z | z
          · have := (ih s z (by omega)).2; omega
          · exact z
        have tl : t < l := by omega
        refine ⟨tl, ?_⟩
        have up2 : ld t ≤ ld s := by
          rcases Nat.eq_or_lt_of_le ts with z | z
          · rw [z]; exact Nat.le_refl _
          · exact Nat.le_of_lt (hr.up t s z hs)
        have lo2 : t ≤ ld t := by
          rcases Nat.lt_or_ge (ld t) t with z | z
          · have e1 := (ih (ld t) z (by omega)).2
            have e2 := hr.inj (show ld t < l by omega) tl e1
            omega
          · exact z
        omega
    have ln : l = n := by
      have h1 := hr.lr
      rcases Nat.eq_or_lt_of_le h1 with z | z
      · exact z
      · have := (idl l z).1; omega
    have nl : ∀ t, t < l → ld t ≠ n := fun t ht => by
      have := (idl t (by omega)).2; omega
    have e1 := kv_self (R := R) (l := l) (ld := ld) (j := n) nl
    have e2 := (hk _).mp (kv_ker hr (show n < n + 1 by omega))
    refine ⟨fun x => - kv R l ld n x, fun i hi => ?_⟩
    have := e2 i hi
    rw [s1 _ i hi, e1] at this
    rw [show (fun x => X i x * -kv R l ld n x) = fun x => -(X i x * kv R l ld n x) by funext x; grind, Sm_neg]
    grind
  intro i j hi hj
  obtain ⟨w, hw⟩ := reach fun i => del i j
  have e : Sm n (fun x => X i x * A x j) = Sm n fun x => X i x * Sm n fun y => A x y * del y j := Sm_congr fun x _ => by rw [Sm_del hj]
  have e2 : ∀ x, x < n → (Sm n fun y => A x y * del y j) = w x := fun x hx => by
    rw [Sm_congr (g := fun y => Sm n fun z => A x y * X y z * w z) fun y hy => by
      have := hw y hy
      rw [← this, ← Sm_mul]; exact Sm_congr fun z _ => by grind, Sm_swap]
    rw [Sm_congr (g := fun z => del z x * w z) fun z hz => by rw [Sm_mulr, h x z hx hz], Sm_del' hx]
  rw [e, Sm_congr (g := fun x => X i x * w x) fun x hx => by rw [e2 x hx], hw i hi]
  unfold del
  by_cases z : i = j
  · rw [if_pos z, if_pos z.symm]
  · rw [if_neg z, if_neg fun y => z y.symm]
end
end Lw
set_option exponentiation.threshold 20000
namespace Lw
open PySem PySem.Spec L2 Fw Pd
def Pl0 (n : Nat) (d : D) : Prop := ∃ q, toPy d = some q ∧ q.canLay0 = true ∧ q.depth ≤ n
theorem Pl0.mono {n m : Nat} {d : D} (h : Pl0 n d) (k : n ≤ m) : Pl0 m d := by
  obtain ⟨q, e1, e2, e3⟩ := h
  exact ⟨q, e1, e2, Nat.le_trans e3 k⟩
theorem pl_int (i : Int) : Pl0 0 (.int i) := ⟨.int i, by unfold toPy; rfl, by simp only [PyData.canLay0], by simp only [PyData.depth]; omega⟩
theorem pl_non : Pl0 0 .non := ⟨.none, by unfold toPy; rfl, by simp only [PyData.canLay0], by simp only [PyData.depth]; omega⟩
theorem pl_bl (b : Bool) : Pl0 0 (.bl b) := ⟨.bool b, by unfold toPy; rfl, by simp only [PyData.canLay0], by simp only [PyData.depth]; omega⟩
theorem pl_str {x : Str} (h : PyData.strOk x = true) : Pl0 0 (.str x) := ⟨.str x, by unfold toPy; rfl, by simp only [PyData.canLay0]; exact h, by simp only [PyData.depth]; omega⟩
theorem pl_all {n : Nat} : ∀ {ds : List D}, (∀ d ∈ ds, Pl0 n d) → ∃ qs, toPyL ds = some qs ∧ PyData.canLayAll0 qs = true ∧ PyData.depthAll qs ≤ n ∧ qs.length = ds.length ∧ ∀ (i : Nat) d q, ds[i]? = some d → qs[i]? = some q → toPy d = some q
  | [], _ => ⟨[], by unfold toPyL; rfl, by simp only [PyData.canLayAll0], by simp only [PyData.depthAll]; omega, rfl, fun i d q h => by simp at h⟩
  | d :: ds, k => by
    obtain ⟨q, e1, e2, e3⟩ := k d List.mem_cons_self
    obtain ⟨qs, f1, f2, f3, f4, f5⟩ := pl_all (ds := ds) fun x hx => k x (List.mem_cons_of_mem _ hx)
    refine ⟨q :: qs, by unfold toPyL; rw [e1, f1], ?_, ?_, by rw [List.length_cons, List.length_cons, f4], fun i x y hx hy => ?_⟩
    · simp only [PyData.canLayAll0, e2, f2, Bool.and_self]
    · simp only [PyData.depthAll]; omega
    · cases i with
      | zero => cases hx; cases hy; exact e1
      | succ i => exact f5 i x y hx hy
theorem pl_tup {n : Nat} {ds : List D} (k : ∀ d ∈ ds, Pl0 n d) : Pl0 (n + 1) (.tup ds) := by
  obtain ⟨qs, f1, f2, f3, _⟩ := pl_all k
  exact ⟨.tuple qs, by unfold toPy; rw [f1]; rfl, by simp only [PyData.canLay0, f2], by simp only [PyData.depth]; omega⟩
theorem pl_lst {n : Nat} {ds : List D} (k : ∀ d ∈ ds, Pl0 n d) : Pl0 (n + 1) (.lst ds) := by
  obtain ⟨qs, f1, f2, f3, _⟩ := pl_all k
  exact ⟨.list qs, by unfold toPy; rw [f1]; rfl, by simp only [PyData.canLay0, f2], by simp only [PyData.depth]; omega⟩
theorem pl_enc (k : Fg) (x : k.K) : Pl0 1 (enc k x) := by
  cases k with
  | q =>
    refine pl_tup fun d hd => ?_
    rcases List.mem_cons.mp hd with rfl | hd
    · exact pl_int _
    · rw [List.mem_singleton.mp hd]; exact pl_int _
  | m n h => exact (pl_int _).mono (by omega)
theorem pl_sh {n : Nat} {d : D} {q : PyData} (h : Pl0 n d) (hn : n ≤ 64) (e : toPy d = some q) : SeqAt.shaped q = true := by
  obtain ⟨q', e1, e2, e3⟩ := h
  rw [e] at e1
  cases e1
  unfold SeqAt.shaped
  rw [e2, decide_eq_true (show q.depth ≤ 64 by omega)]
  rfl
/-- two plain things, compared -/
def eqB (x y : D) : Bool := (eqD x y).getD false
theorem eq_pl {n : Nat} {x y : D} (hx : Pl0 n x) (hy : Pl0 n y) (hn : n ≤ 64) : eqD x y = some (eqB x y) := by
  obtain ⟨p, e1, _⟩ := id hx
  obtain ⟨q, e2, _⟩ := id hy
  unfold eqB eqD
  rw [e1, e2]
  simp only [pl_sh hx hn e1, pl_sh hy hn e2, Bool.and_self, if_true]
  rfl
def inB (ds : List D) (d : D) : Bool := ds.any fun x => eqB x d
theorem in_pl {n : Nat} {ds : List D} {d : D} (hs : ∀ x ∈ ds, Pl0 n x) (hd : Pl0 n d) (hn : n + 1 ≤ 64) : inP d (.tup ds) = some (inB ds d) ∧ inP d (.lst ds) = some (inB ds d) := by
  obtain ⟨p, e1, _⟩ := id hd
  obtain ⟨qs, f1, f2, f3, f4, f5⟩ := pl_all hs
  have t1 : toPy (.tup ds) = some (.tuple qs) := by unfold toPy; rw [f1]; rfl
  have t2 : toPy (.lst ds) = some (.list qs) := by unfold toPy; rw [f1]; rfl
  have s0 := pl_sh hd (by omega) e1
  have s1 := pl_sh (pl_tup hs) hn t1
  have s2 := pl_sh (pl_lst hs) hn t2
  have ea : (qs.any fun z => PyData.eqv z p) = inB ds d := by
    unfold inB
    rw [Bool.eq_iff_iff, List.any_eq_true, List.any_eq_true]
    have one : ∀ (i : Nat) x z, ds[i]? = some x → qs[i]? = some z → eqB x d = PyData.eqv z p := fun i x z hx hz => by
      have ex := f5 i x z hx hz
      have hm := hs x (List.mem_of_getElem? hx)
      unfold eqB eqD
      rw [ex, e1]
      simp only [pl_sh hm (by omega) ex, s0, Bool.and_self, if_true]
      rfl
    constructor
    · rintro ⟨z, hz, ez⟩
      obtain ⟨i, hi, rfl⟩ := List.getElem_of_mem hz
      have hi2 : i < ds.length := by omega
      exact ⟨ds[i], List.getElem_mem hi2, by rw [one i ds[i] qs[i] (List.getElem?_eq_getElem hi2) (List.getElem?_eq_getElem hi)]; exact ez⟩
    · rintro ⟨x, hx, ex⟩
      obtain ⟨i, hi, rfl⟩ := List.getElem_of_mem hx
      have hi2 : i < qs.length := by omega
      exact ⟨qs[i], List.getElem_mem hi2, by rw [← one i ds[i] qs[i] (List.getElem?_eq_getElem hi) (List.getElem?_eq_getElem hi2)]; exact ex⟩
  unfold inP
  rw [e1, t1, t2]
  simp only [seqP, s0, s1, s2, Bool.and_self, if_true, ea, and_self]
def ptD (k : Fg) (o : Option k.K) : D := match o with
  | none => .str "last"
  | some x => enc k x
theorem last_ok : PyData.strOk "last" = true := by decide +kernel
theorem pl_pt (k : Fg) (o : Option k.K) : Pl0 1 (ptD k o) := by
  cases o with
  | none => exact (pl_str last_ok).mono (by omega)
  | some x => exact pl_enc k x
theorem pt_vd {k : Fg} {o : Option k.K} {h : D} : vD (some (some (ptD k o))) h = .ok (ptD k o) h := by
  cases o with
  | none => rfl
  | some x => exact enc_vd
theorem pt_vm {k : Fg} {o : Option k.K} {h : D} : vmD (some (some (ptD k o))) h = .ok (ptD k o) h := by
  cases o with
  | none => rfl
  | some x => exact enc_vm
theorem enc_last (k : Fg) (x : k.K) : eqD (enc k x) (.str "last") = some false := by
  have sl : SeqAt.shaped (PyData.str "last") = true := by decide +kernel
  cases k with
  | q =>
    obtain ⟨p, e1, _⟩ := id (pl_enc .q x)
    have s := pl_sh (pl_enc .q x) (by omega) e1
    have : p = .tuple [.int (Rat.num x), .int (Rat.den x)] := by
      have e : toPy (encQ x) = some (.tuple [.int x.num, .int x.den]) := by unfold encQ; simp only [toPy, toPyL, Option.map_some]
      rw [show enc .q x = encQ x from rfl, e] at e1
      exact (Option.some.inj e1).symm
    subst this
    unfold eqD
    rw [e1, show toPy (.str "last") = some (.str "last") by unfold toPy; rfl]
    simp only [s, sl, Bool.and_self, if_true, PyData.eqv]
  | m n h =>
    show eqD (.int _) (.str "last") = _
    unfold eqD
    have s : SeqAt.shaped (PyData.int (x.val : Int)) = true := pl_sh (pl_int _) (by omega) (by unfold toPy; rfl)
    rw [show toPy (.str "last") = some (.str "last") by unfold toPy; rfl, show toPy (.int (x.val : Int)) = some (.int (x.val : Int)) by unfold toPy; rfl]
    simp only [s, sl, Bool.and_self, if_true, PyData.eqv]
theorem last_last : eqD (.str "last") (.str "last") = some true := by decide +kernel
theorem eqv_comm_last (k : Fg) (x : k.K) : eqD (.str "last") (enc k x) = some false := by
  have sl : SeqAt.shaped (PyData.str "last") = true := by decide +kernel
  cases k with
  | q =>
    obtain ⟨p, e1, _⟩ := id (pl_enc .q x)
    have s := pl_sh (pl_enc .q x) (by omega) e1
    have : p = .tuple [.int (Rat.num x), .int (Rat.den x)] := by
      have e : toPy (encQ x) = some (.tuple [.int x.num, .int x.den]) := by unfold encQ; simp only [toPy, toPyL, Option.map_some]
      rw [show enc .q x = encQ x from rfl, e] at e1
      exact (Option.some.inj e1).symm
    subst this
    unfold eqD
    rw [e1, show toPy (.str "last") = some (.str "last") by unfold toPy; rfl]
    simp only [s, sl, Bool.and_self, if_true, PyData.eqv]
  | m n h =>
    show eqD (.str "last") (.int _) = _
    unfold eqD
    have s : SeqAt.shaped (PyData.int (x.val : Int)) = true := pl_sh (pl_int _) (by omega) (by unfold toPy; rfl)
    rw [show toPy (.str "last") = some (.str "last") by unfold toPy; rfl, show toPy (.int (x.val : Int)) = some (.int (x.val : Int)) by unfold toPy; rfl]
    simp only [s, sl, Bool.and_self, if_true, PyData.eqv]
theorem eq_pt (k : Fg) (a b : Option k.K) : eqD (ptD k a) (ptD k b) = some (decide (a = b)) := by
  cases a with
  | none => cases b with
    | none => rw [decide_eq_true rfl]; exact last_last
    | some y => rw [decide_eq_false (fun z => nomatch z)]; exact eqv_comm_last k y
  | some x => cases b with
    | none => rw [decide_eq_false (fun z => nomatch z)]; exact enc_last k x
    | some y =>
      show eqD (enc k x) (enc k y) = _
      rw [eq_enc]
      congr 1
      exact decide_eq_decide.mpr ⟨fun z => by rw [z], fun z => Option.some.inj z⟩
theorem pt_last (k : Fg) (o : Option k.K) : eqD (ptD k o) (.str "last") = some (decide (o = none)) := eq_pt k o none
end Lw
set_option exponentiation.threshold 20000
namespace Lw
open PySem PySem.Spec L2 Fw Pd
def pw {K : Type} [Fd K] (x : K) : Nat → K
  | 0 => 1
  | n + 1 => pw x n * x
theorem ht_pw (k : Fg) (x : k.K) : ∀ j, ht k (pw x j) ≤ 1 + j * ht k x
  | 0 => by have := ht_one k; show ht k 1 ≤ _; omega
  | j + 1 => by
    have h1 := ht_mul k (pw x j) x
    have h2 := ht_pw k x j
    show ht k (pw x j * x) ≤ _
    rw [Nat.succ_mul]
    omega
theorem hd_mul (k : Fg) (a b : k.K) : hd k (a * b) ≤ hd k a + hd k b := by cases k with
  | q =>
    show bt (a * b : Rat).den ≤ bt (Rat.den a) + bt (Rat.den b)
    have h1 : (a * b : Rat).den ≤ Rat.den a * Rat.den b := by
      rw [q_mul]
      have := div_den_le (Rat.num a * Rat.num b) (Int.mul_ne_zero (den_ne a) (den_ne b))
      rw [Int.natAbs_mul, Int.natAbs_natCast, Int.natAbs_natCast] at this
      exact this
    exact Nat.le_trans (bt_mono h1) (bt_mul _ _)
  | m n h => exact Nat.zero_le _
theorem hd_pw (k : Fg) (x : k.K) : ∀ j, hd k (pw x j) ≤ 1 + j * hd k x
  | 0 => by have := hd_1 k; show hd k 1 ≤ _; omega
  | j + 1 => by
    have h1 := hd_mul k (pw x j) x
    have h2 := hd_pw k x j
    show hd k (pw x j * x) ≤ _
    rw [Nat.succ_mul]
    omega
theorem ixN_last {n : Nat} : ixN (n + 1) (-1) = some n := by
  unfold ixN
  rw [if_neg (by omega), if_pos (by omega)]
  congr 1
  omega
def powBody : SF := sApp (pV 3) (eMeth "Figures" "times" 3 F_Figures_times [] (eV 0) (eCons (ePl (pIx (pV 3) (eUn oNeg (eC (.int 1))))) (eCons (eVm 1) eNil)))
theorem wh_pow (k : Fg) (x : k.K) (n : Nat) (h : D) (hs : ∀ j, j < n → ht k (pw x j) + ht k x ≤ 8000) (hn : n ≤ 900) : ∀ (fuel m : Nat), m + 1 ≤ n → n - (m + 1) < fuel →
    whGo (eT (eOp oLt (eLenP (pV 3)) (eV 2))) powBody fuel [some (fig k), some (enc k x), some (.int n), some (.hl (gen (m + 1) fun j => enc k (pw x j)))] h = .nx [some (fig k), some (enc k x), some (.int n), some (.hl (gen n fun j => enc k (pw x j)))] h
  | 0, m, _, hf => by omega
  | fuel + 1, m, hm, hf => by
    by_cases e : m + 1 = n
    · subst e
      have c : ¬ ((m + 1 : Nat) : Int) < ((m + 1 : Nat) : Int) := by omega
      unfold whGo
      push_cast [c]
    · have ih := wh_pow k x n h hs hn fuel (m + 1) (by omega) (by omega)
      have et := E_ftimes k (pw x m) x h (hs m (by omega))
      have ap : (gen (m + 1 + 1) fun j => enc k (pw x j)) = (gen (m + 1) fun j => enc k (pw x j)) ++ [enc k (pw x m * x)] := by
        rw [gen_last]; rfl
      rw [ap] at ih
      have nm1 : (-1 : Int) = -1 := rfl
      rw [whGo]
      conv => lhs; unfold powBody
      push_cast [fig_vd, eMeth_f, md_times, ixN_last, gen_get, enc_fr, enc_vm, et]
      exact ih
def ptRow (k : Fg) (n : Nat) (o : Option k.K) : Nat → k.K := match o with
  | some x => pw x
  | none => fun j => del j (n - 1)
theorem E_powers_at (k : Fg) (o : Option k.K) (n : Nat) (h : D) (n1 : 1 ≤ n) (hn : n ≤ 90) (hs : ∀ x, o = some x → ∀ j, j < n → ht k (pw x j) + ht k x ≤ 8000) : F_powers_at [fig k, ptD k o, .int n] h = .ok (erow k n (ptRow k n o)) h := by
  have el := pt_last k o
  cases o with
  | none =>
    have eu := E_unit_row k n (n - 1) h (by omega) (by omega)
    have e1 : (n : Int) - 1 = ((n - 1 : Nat) : Int) := by omega
    unfold ptRow
    unfold F_powers_at
    push_cast [fig_vm, pt_vd, el, e1, eu]
  | some x =>
    have w := wh_pow k x n h (hs x rfl) (by omega) 100 0 (by omega) (by omega)
    have g1 : (gen (0 + 1) fun j => enc k (pw x j)) = [enc k 1] := rfl
    rw [g1] at w
    have fz : frzL (gen n fun j => enc k (pw x j)) = gen n fun j => enc k (pw x j) := frzL_gen fun i => enc_fr k _
    have n0 : ¬ (some x = none) := fun z => nomatch z
    unfold powBody at w
    unfold ptRow erow
    unfold ptD at el ⊢
    unfold F_powers_at
    push_cast [fig_vm, enc_vd, el, n0, fig_o, w, fz]
theorem E_law_powers (k : Fg) (o : Option k.K) (n : Nat) (h : D) (n1 : 1 ≤ n) (hn : n ≤ 90) (hs : ∀ x, o = some x → ∀ j, j < n → ht k (pw x j) + ht k x ≤ 8000) : F__law_powers [.int k.p, ptD k o, .int n] h = .ok (.lst (gen n fun j => enc k (ptRow k n o j))) h := by
  have el := pt_last k o
  cases o with
  | none =>
    have e1 : (n : Int) - 1 = ((n - 1 : Nat) : Int) := by omega
    have en : ∀ j : Nat, ∀ h, F__law_num [.int k.p, .int (if decide ((j : Int) = ((n - 1 : Nat) : Int)) = true then 1 else 0)] h = .ok (enc k (del j (n - 1))) h := fun j h => by
      unfold del
      by_cases z : j = n - 1
      · have z' : (j : Int) = ((n - 1 : Nat) : Int) := by omega
        rw [if_pos (decide_eq_true z'), if_pos z]
        exact E_num1 k h
      · have z' : ¬ (j : Int) = ((n - 1 : Nat) : Int) := by omega
        rw [if_neg (by rw [decide_eq_false z']; exact fun y => nomatch y), if_neg z]
        exact E_num0 k h
    have en2 : ∀ j : Nat, ∀ h, F__law_num [.int k.p, .int (if (j : Int) = ((n - 1 : Nat) : Int) then 1 else 0)] h = .ok (enc k (del j (n - 1))) h := fun j h => by
      rw [← en j h]
      congr 4
      by_cases z : (j : Int) = ((n - 1 : Nat) : Int)
      · rw [if_pos z, if_pos (decide_eq_true z)]
      · rw [if_neg z, if_neg (by rw [decide_eq_false z]; exact fun y => nomatch y)]
    unfold ptRow
    unfold F__law_powers
    push_cast [pt_vd, el, e1, en, en2]
  | some x =>
    have o1 := E_num1 k h
    have lp := for_gen0 (h := h) (bind := bNm 3) (body := (sApp (pV 4) (eCall 3 F__law_times [] (eCons (eVm 0) (eCons (ePl (pIx (pV 4) (eV 3))) (eCons (eVm 1) eNil)))))) (d := fun j => .int (j : Int)) (n := n - 1)
      (fun m => [some (.int k.p), some (enc k x), some (.int n), lv none (fun j => .int (j : Int)) m, some (.hl (gen (m + 1) fun j => enc k (pw x j)))]) fun m hm => by
      have et := E_times k (pw x m) x h (hs x rfl m (by omega))
      have ap : (gen (m + 1 + 1) fun j => enc k (pw x j)) = (gen (m + 1) fun j => enc k (pw x j)) ++ [enc k (pw x m * x)] := by
        rw [gen_last]; rfl
      refine ⟨_, rfl, ?_⟩
      rw [ap]
      push_cast [lv_s, gen_get, enc_fr, enc_vm, et]
    have g1 : (gen (0 + 1) fun j => enc k (pw x j)) = [enc k 1] := rfl
    have e1 : ((n : Int) - 1).toNat = n - 1 := by omega
    have e2 : n - 1 + 1 = n := by omega
    simp only [lv_0, g1, e2] at lp
    have fz : frzL (gen n fun j => enc k (pw x j)) = gen n fun j => enc k (pw x j) := frzL_gen fun i => enc_fr k _
    have n0 : ¬ (some x = none) := fun z => nomatch z
    unfold ptRow
    unfold ptD at el ⊢
    unfold F__law_powers
    push_cast [enc_vd, el, n0, o1, e1, lp, fz]
end Lw
set_option exponentiation.threshold 20000
namespace Lw
open PySem PySem.Spec L2 Fw Pd
section
variable {K : Type} [Fd K]
def rpS (c : Nat → K) (y : K) : Nat → K := fun j => (if j = 0 then 0 else c (j - 1)) - y * c j
def rp (L : List K) : Nat → K := L.foldl rpS fun j => del j 0
def pdL (L : List K) (x : K) : K := L.foldl (fun a y => a * (x - y)) 1
theorem rp_app (L : List K) (y : K) : rp (L ++ [y]) = rpS (rp L) y := by unfold rp; rw [List.foldl_append]; rfl
theorem pdL_app (L : List K) (x y : K) : pdL (L ++ [y]) x = pdL L x * (x - y) := by unfold pdL; rw [List.foldl_append]; rfl
/-- induction from the end -/
theorem snoc {α : Type} {P : List α → Prop} (h0 : P []) (h1 : ∀ L y, P L → P (L ++ [y])) : ∀ L, P L := fun L => by
  have : ∀ M : List α, P M.reverse := fun M => by
    induction M with
    | nil => exact h0
    | cons a M ih => rw [List.reverse_cons]; exact h1 _ a ih
  have e := this L.reverse
  rw [List.reverse_reverse] at e
  exact e
theorem rp_high : ∀ L : List K, ∀ j, L.length < j → rp L j = 0 := by
  refine snoc (fun j hj => ?_) fun L y ih j hj => ?_
  · exact del_n (by have : ([] : List K).length = 0 := rfl; omega)
  · rw [List.length_append, List.length_singleton] at hj
    rw [rp_app]
    unfold rpS
    rw [if_neg (by omega), ih (j - 1) (by omega), ih j (by omega)]; grind
theorem rp_top : ∀ L : List K, rp L L.length = 1 := by
  refine snoc ?_ fun L y ih => ?_
  · exact del_s 0
  · rw [List.length_append, List.length_singleton, rp_app]
    unfold rpS
    rw [if_neg (by omega), Nat.add_sub_cancel, ih, rp_high L (L.length + 1) (by omega)]; grind
theorem Sm_shift {f : Nat → K} : ∀ {n : Nat}, Sm (n + 1) f = f 0 + Sm n fun i => f (i + 1)
  | 0 => by show (0 : K) + f 0 = f 0 + 0; grind
  | n + 1 => by
    show Sm (n + 1) f + f (n + 1) = f 0 + (Sm n (fun i => f (i + 1)) + f (n + 1))
    rw [Sm_shift]; grind
theorem rp_val (x : K) (n : Nat) : ∀ L : List K, L.length < n → Sm n (fun j => rp L j * pw x j) = pdL L x := by
  refine snoc (fun hn => ?_) fun L y ih hn => ?_
  · rw [show (fun j => rp ([] : List K) j * pw x j) = fun j => del j 0 * pw x j from rfl, Sm_del' (by omega)]; rfl
  · rw [List.length_append, List.length_singleton] at hn
    obtain ⟨m, rfl⟩ : ∃ m, n = m + 1 := ⟨n - 1, by omega⟩
    have ih := ih (by omega)
    rw [rp_app, pdL_app]
    have e : (fun j => rpS (rp L) y j * pw x j) = fun j => (if j = 0 then 0 else rp L (j - 1)) * pw x j - y * (rp L j * pw x j) := by
      funext j; unfold rpS; grind
    rw [e, Sm_sub, Sm_mul, ih, Sm_shift]
    have e2 : (Sm m fun i => (if i + 1 = 0 then 0 else rp L (i + 1 - 1)) * pw x (i + 1)) = x * Sm m fun i => rp L i * pw x i := by
      rw [← Sm_mul]
      refine Sm_congr fun i _ => ?_
      rw [if_neg (by omega), Nat.add_sub_cancel]
      show rp L i * (pw x i * x) = _
      grind
    have e3 : Sm (m + 1) (fun j => rp L j * pw x j) = Sm m (fun j => rp L j * pw x j) + rp L m * pw x m := rfl
    rw [rp_high L m (by omega)] at e3
    rw [e2]
    rw [ih] at e3
    rw [show (Sm m fun i => rp L i * pw x i) = pdL L x by rw [e3]; grind]
    simp only [if_true]
    grind
theorem pdL_in {L : List K} {x : K} : x ∈ L → pdL L x = 0 := by
  refine snoc (P := fun L => x ∈ L → pdL L x = 0) (fun h => nomatch h) (fun L y ih h => ?_) L
  rw [pdL_app]
  rcases List.mem_append.mp h with h | h
  · rw [ih h]; grind
  · rw [List.mem_singleton.mp h]; grind
theorem pdL_ne {L : List K} {x : K} : (∀ y ∈ L, x ≠ y) → pdL L x ≠ 0 := by
  refine snoc (P := fun L => (∀ y ∈ L, x ≠ y) → pdL L x ≠ 0) (fun _ => fun z => Fd.z_ne z.symm) (fun L y ih h => ?_) L
  rw [pdL_app]
  refine mul_ne (ih fun z hz => h z (List.mem_append_left _ hz)) fun e => h y (List.mem_append_right _ List.mem_cons_self) ?_
  grind
end
theorem cons_e {k : Fg} {n : Nat} {x : k.K} {f : Nat → k.K} : enc k x :: gen n (fun j => enc k (f j)) = gen (n + 1) fun j => enc k (if j = 0 then x else f (j - 1)) := by
  rw [gen_succ]
  rfl
theorem app_e {k : Fg} {n : Nat} {x : k.K} {f : Nat → k.K} : gen n (fun j => enc k (f j)) ++ [enc k x] = gen (n + 1) fun j => enc k (if j < n then f j else x) := by
  rw [gen_last, if_neg (by omega)]
  congr 1
  exact gen_congr fun j hj => by rw [if_pos hj]
def rootBody : SF := (sSeq (sSet 4 (eFz (eOn oPlus (eFz (eLst (eCons (eCall 2 F__law_num [] (eCons (eVm 0) (eCons (eC (.int 0)) eNil))) eNil))) (eV 2))))
    (sSet 2 (eFz (eLc [5] (iRg rg1 (eCons (eBi kLen (eCons (eV 4) eNil)) eNil)) (bNm 5) tYesD (eCall 3 F__law_less [] (eCons (eVm 0) (eCons (eOp oIx (eV 4) (eV 5)) (eCons (eCall 3 F__law_times [] (eCons (eVm 0) (eCons (eVm 3) (eCons (eOp oIx (eFz (eOn oPlus (eV 2) (eFz (eLst (eCons (eCall 2 F__law_num [] (eCons (eVm 0) (eCons (eC (.int 0)) eNil))) eNil))))) (eV 5)) eNil)))) eNil))))))))
theorem root_loop (k : Fg) (rs h : D) (τ : Nat) : ∀ (L : List k.K) (c : Nat → k.K) (m H : Nat) (o3 o4 : Option D), (∀ j, m < j → c j = 0) → (∀ j, ht k (c j) ≤ H) → (∀ y ∈ L, ht k y ≤ τ) → 1 ≤ H → 2 ^ L.length * (H + τ + 1) ≤ 4000 → m + L.length ≤ 900 →
    ∃ o3' o4', forGo (bNm 3) rootBody (L.map (enc k)) [some (.int k.p), some rs, some (.lst (gen (m + 1) fun j => enc k (c j))), o3, o4, none] h = .nx [some (.int k.p), some rs, some (.lst (gen (m + L.length + 1) fun j => enc k (L.foldl rpS c j))), o3', o4', none] h
  | [], c, m, H, o3, o4, _, _, _, _, _, _ => ⟨o3, o4, rfl⟩
  | y :: L, c, m, H, o3, o4, h1, h2, h3, h4, h5, h6 => by
    rw [List.length_cons] at h5 h6
    have p0 : 0 < 2 ^ L.length := Nat.pow_pos (by omega)
    have e5 : 2 ^ (L.length + 1) * (H + τ + 1) = 2 ^ L.length * (2 * H + τ + 1 + τ + 1) := by
      rw [Nat.pow_succ, Nat.mul_assoc]
      congr 1
      omega
    have b5 : 2 * (H + τ + 1) ≤ 4000 := by
      rw [e5] at h5
      have := Nat.le_mul_of_pos_left (2 * H + τ + 1 + τ + 1) p0
      omega
    have hy := h3 y List.mem_cons_self
    have n0 := E_num0 k h
    have hup : ∀ j, ht k (if j = 0 then 0 else c (j - 1)) ≤ H := fun j => by
      split
      · have := ht_zero k; omega
      · exact h2 _
    have hlo : ∀ j, ht k (if j < m + 1 then c j else 0) ≤ H := fun j => by
      split
      · exact h2 _
      · have := ht_zero k; omega
    have et : ∀ j h, F__law_times [.int k.p, enc k y, enc k (if j < m + 1 then c j else 0)] h = .ok (enc k (y * (if j < m + 1 then c j else 0))) h := fun j h => E_times k _ _ h (by have := hlo j; omega)
    have el : ∀ j h, F__law_less [.int k.p, enc k (if j = 0 then 0 else c (j - 1)), enc k (y * (if j < m + 1 then c j else 0))] h = .ok (enc k (rpS c y j)) h := fun j h => by
      have h8 := ht_mul k y (if j < m + 1 then c j else 0)
      have h9 := hlo j
      have h10 := hup j
      rw [E_less k _ _ h (by omega)]
      congr 2
      unfold rpS
      congr 2
      split
      · rfl
      · exact (h1 j (by omega)).symm
    have step : rootBody [some (.int k.p), some rs, some (.lst (gen (m + 1) fun j => enc k (c j))), some (enc k y), o4, none] h = .nx [some (.int k.p), some rs, some (.lst (gen (m + 1 + 1) fun j => enc k (rpS c y j))), some (enc k y), some (.lst (gen (m + 1 + 1) fun j => enc k (if j = 0 then 0 else c (j - 1)))), none] h := by
      have n0' : ∀ h, F__law_num [.int k.p, .int 0] h = .ok (enc k 0) h := fun h => E_num0 k h
      unfold rootBody
      push_cast [n0', cons_e, app_e, enc_vm, et, el]
    obtain ⟨o3', o4', ih⟩ := root_loop k rs h τ L (rpS c y) (m + 1) (2 * H + τ + 1) (some (enc k y)) (some (.lst (gen (m + 1 + 1) fun j => enc k (if j = 0 then 0 else c (j - 1))))) (fun j hj => by
      unfold rpS
      rw [if_neg (by omega), h1 (j - 1) (by omega), h1 j (by omega)]; grind) (fun j => by
      unfold rpS
      have h8 := ht_mul k y (c j)
      have h9 := h2 j
      have h10 := hup j
      have h11 := ht_sub k (if j = 0 then 0 else c (j - 1)) (y * c j)
      omega) (fun z hz => h3 z (List.mem_cons_of_mem _ hz)) (by omega) (by rw [← e5]; exact h5) (by omega)
    refine ⟨o3', o4', ?_⟩
    rw [List.map_cons, forGo]
    simp only [bNm_a, List.set_cons_succ, List.set_cons_zero, step]
    rw [ih, List.length_cons, show m + 1 + L.length + 1 = m + (L.length + 1) + 1 by omega]
    rfl
theorem E_rooted (k : Fg) (L : List k.K) (τ : Nat) (h : D) (h3 : ∀ y ∈ L, ht k y ≤ τ) (h5 : 2 ^ L.length * (τ + 2) ≤ 4000) (hL : L.length ≤ 800) : F__law_rooted [.int k.p, .lst (L.map (enc k))] h = .ok (.lst (gen (L.length + 1) fun j => enc k (rp L j))) h := by
  obtain ⟨o3, o4, e⟩ := root_loop k (.lst (L.map (enc k))) h τ L (fun j => del j 0) 0 1 none none (fun j hj => del_n (by omega)) (fun j => ht_del k _ _) h3 (by omega) (by rw [show 1 + τ + 1 = τ + 2 by omega]; exact h5) (by omega)
  have g1 : (gen (0 + 1) fun j => enc k (del j 0)) = [enc k 1] := by
    rw [gen_succ, del_s]; rfl
  rw [g1] at e
  have n1 := E_num1 k h
  show runF 6 (sSeq (sSet 2 (eFz (eLst (eCons (eCall 2 F__law_num [] (eCons (eVm 0) (eCons (eC (.int 1)) eNil))) eNil)))) (sSeq (sFor (iSeq (eV 1)) (bNm 3) rootBody) (sRet (eV 2)))) _ _ = _
  push_cast [n1, e]
  rw [Nat.zero_add]; rfl
end Lw
set_option exponentiation.threshold 20000
namespace Lw
open PySem PySem.Spec L2 Fw Pd
section
variable {K : Type} [Fd K]
def rts (o : Nat → Option K) (k : Nat) : Nat → List K
  | 0 => []
  | m + 1 => if m = k then rts o k m else match o m with
    | none => rts o k m
    | some x => rts o k m ++ [x]
def wth (o : Nat → Option K) (k m : Nat) : K := match o k with
  | none => 1
  | some x => pdL (rts o k m) x
def lone (o : Nat → Option K) (n k : Nat) : Nat → K := fun j => rp (rts o k n) j * Fd.inv (wth o k n)
variable {o : Nat → Option K} {k : Nat}
theorem rts_k {m : Nat} (h : m = k) : rts o k (m + 1) = rts o k m := by
  rw [rts, if_pos h]
theorem rts_n {m : Nat} (h : m ≠ k) (e : o m = none) : rts o k (m + 1) = rts o k m := by
  rw [rts, if_neg h, e]
theorem rts_s {m : Nat} {x : K} (h : m ≠ k) (e : o m = some x) : rts o k (m + 1) = rts o k m ++ [x] := by
  rw [rts, if_neg h, e]
theorem rts_mem {y : K} : ∀ {m : Nat}, y ∈ rts o k m ↔ ∃ i, i < m ∧ i ≠ k ∧ o i = some y
  | 0 => Iff.intro (fun h => nomatch h) fun h => by
    obtain ⟨i, h, _⟩ := h
    omega
  | m + 1 => by
    have ih := rts_mem (y := y) (m := m)
    have up : ∀ {P : Prop}, (P ↔ (m ≠ k ∧ o m = some y)) → ((y ∈ rts o k m ∨ P) ↔ ∃ i, i < m + 1 ∧ i ≠ k ∧ o i = some y) := fun {P} hp => by
      rw [ih, hp]
      constructor
      · rintro (⟨i, h1, h2, h3⟩ | ⟨h2, h3⟩)
        · exact ⟨i, by omega, h2, h3⟩
        · exact ⟨m, by omega, h2, h3⟩
      · rintro ⟨i, h1, h2, h3⟩
        by_cases e : i = m
        · subst e; exact .inr ⟨h2, h3⟩
        · exact .inl ⟨i, by omega, h2, h3⟩
    by_cases hk : m = k
    · rw [rts_k hk, ← up (P := False) ⟨False.elim, fun z => z.1 hk⟩, or_false]
    · cases e : o m with
      | none => rw [rts_n hk e, ← up (P := False) ⟨False.elim, fun z => by rw [e] at z; exact nomatch z.2⟩, or_false]
      | some x => rw [rts_s hk e, List.mem_append, ← up (P := y ∈ [x]) (by
          rw [List.mem_singleton, e]
          exact ⟨fun z => ⟨hk, by rw [z]⟩, fun z => (Option.some.inj z.2).symm⟩)]
theorem rts_len : ∀ m, (rts o k m).length + (if k < m then 1 else 0) ≤ m
  | 0 => by rw [if_neg (by omega)]; exact Nat.le_refl _
  | m + 1 => by
    have ih := rts_len m
    by_cases hk : m = k
    · rw [rts_k hk]
      rw [if_neg (by omega)] at ih
      split <;> omega
    · have e2 : (if k < m + 1 then 1 else 0) = if k < m then 1 else 0 := by
        by_cases z : k < m
        · rw [if_pos z, if_pos (by omega)]
        · rw [if_neg z, if_neg (by omega)]
      rw [e2]
      cases e : o m with
      | none => rw [rts_n hk e]; omega
      | some x => rw [rts_s hk e, List.length_append, List.length_singleton]; omega
theorem rts_len2 {i : Nat} (hi : i ≠ k) (e0 : o i = none) : ∀ m, (rts o k m).length + (if k < m then 1 else 0) + (if i < m then 1 else 0) ≤ m
  | 0 => by rw [if_neg (by omega), if_neg (by omega)]; exact Nat.le_refl _
  | m + 1 => by
    have ih := rts_len2 hi e0 m
    by_cases hk : m = k
    · rw [rts_k hk]
      rw [if_neg (show ¬ k < m by omega)] at ih
      rw [if_pos (show k < m + 1 by omega)]
      by_cases z : i < m
      · rw [if_pos z] at ih; rw [if_pos (show i < m + 1 by omega)]; omega
      · rw [if_neg z] at ih; rw [if_neg (show ¬ i < m + 1 by omega)]; omega
    · have e2 : (if k < m + 1 then 1 else 0) = if k < m then 1 else 0 := by
        by_cases z : k < m
        · rw [if_pos z, if_pos (by omega)]
        · rw [if_neg z, if_neg (by omega)]
      rw [e2]
      cases e : o m with
      | none =>
        rw [rts_n hk e]
        by_cases z : i < m
        · rw [if_pos z] at ih; rw [if_pos (show i < m + 1 by omega)]; omega
        · rw [if_neg z] at ih; by_cases z2 : i < m + 1
          · rw [if_pos z2]; omega
          · rw [if_neg z2]; omega
      | some x =>
        have : i ≠ m := fun z => by rw [z, e] at e0; exact nomatch e0
        rw [rts_s hk e, List.length_append, List.length_singleton]
        by_cases z : i < m
        · rw [if_pos z] at ih; rw [if_pos (show i < m + 1 by omega)]; omega
        · rw [if_neg z] at ih; rw [if_neg (show ¬ i < m + 1 by omega)]; omega
theorem rts_len3 : ∀ m, (∀ i, i < m → i ≠ k → o i ≠ none) → (rts o k m).length + (if k < m then 1 else 0) = m
  | 0, _ => by rw [if_neg (by omega)]; rfl
  | m + 1, hs => by
    have ih := rts_len3 m fun i hi => hs i (by omega)
    by_cases hk : m = k
    · rw [rts_k hk]
      rw [if_neg (by omega)] at ih
      rw [if_pos (by omega)]; omega
    · have e2 : (if k < m + 1 then 1 else 0) = if k < m then 1 else 0 := by
        by_cases z : k < m
        · rw [if_pos z, if_pos (by omega)]
        · rw [if_neg z, if_neg (by omega)]
      rw [e2]
      cases e : o m with
      | none => exact absurd e (hs m (by omega) hk)
      | some x => rw [rts_s hk e, List.length_append, List.length_singleton]; omega
/-- the powers at a point -/
def ptG (n : Nat) (o : Option K) : Nat → K := match o with
  | some x => pw x
  | none => fun j => del j (n - 1)
theorem wth_ne {n : Nat} (hd : ∀ i j, i < n → j < n → o i = o j → i = j) (hk : k < n) : wth o k n ≠ 0 := by
  unfold wth
  cases e : o k with
  | none => exact fun z => Fd.z_ne z.symm
  | some x =>
    refine pdL_ne fun y hy z => ?_
    obtain ⟨i, h1, h2, h3⟩ := rts_mem.mp hy
    exact h2 (hd i k h1 hk (by rw [h3, e, z]))
theorem lone_one {n : Nat} (hd : ∀ i j, i < n → j < n → o i = o j → i = j) : ∀ i j, i < n → j < n → Sm n (fun x => ptG n (o i) x * lone o n j x) = del j i := by
  intro i j hi hj
  have hl := rts_len (o := o) (k := j) n
  rw [if_pos hj] at hl
  have hw := Fd.mul_inv _ (wth_ne hd hj)
  have e1 : (fun x => ptG n (o i) x * lone o n j x) = fun x => Fd.inv (wth o j n) * (rp (rts o j n) x * ptG n (o i) x) := by
    funext x; unfold lone; grind
  rw [e1, Sm_mul]
  cases ei : o i with
  | some x =>
    show Fd.inv (wth o j n) * Sm n (fun y => rp (rts o j n) y * pw x y) = _
    rw [rp_val x n _ (by omega)]
    unfold del
    by_cases z : i = j
    · subst z
      rw [if_pos rfl]
      unfold wth at hw ⊢
      rw [ei] at hw ⊢
      grind
    · rw [if_neg fun q => z q.symm, pdL_in (rts_mem.mpr ⟨i, hi, z, ei⟩)]
      grind
  | none =>
    show Fd.inv (wth o j n) * Sm n (fun y => rp (rts o j n) y * del y (n - 1)) = _
    rw [Sm_del (by omega)]
    unfold del
    by_cases z : i = j
    · subst z
      have h3 := rts_len3 (o := o) (k := i) n fun m hm hmi em => hmi (hd m i hm hi (by rw [em, ei]))
      rw [if_pos hi] at h3
      have e2 : n - 1 = (rts o i n).length := by omega
      rw [if_pos rfl, e2, rp_top]
      unfold wth at hw ⊢
      rw [ei] at hw ⊢
      grind
    · have h3 := rts_len2 (o := o) (k := j) z ei n
      rw [if_pos hj, if_pos hi] at h3
      rw [if_neg fun q => z q.symm, rp_high _ _ (by omega)]
      grind
end
end Lw
set_option exponentiation.threshold 20000
namespace Lw
open PySem PySem.Spec L2 Fw Pd
theorem frzL_map {k : Fg} : ∀ {L : List k.K}, frzL (L.map (enc k)) = L.map (enc k)
  | [] => rfl
  | x :: L => by
    rw [List.map_cons]
    unfold frzL
    rw [frzL_map]
    congr 1
    have := enc_fr k x
    cases q : enc k x <;> rw [q] at this <;> first | rfl | cases this
theorem ht_pdL (k : Fg) (x : k.K) (τ : Nat) (hx : ht k x ≤ τ) : ∀ L : List k.K, (∀ y ∈ L, ht k y ≤ τ) → ht k (pdL L x) ≤ 1 + L.length * (2 * τ + 1) := by
  refine snoc (fun _ => ?_) fun L y ih h => ?_
  · have := ht_one k
    show ht k 1 ≤ _
    omega
  · have h1 := ih fun z hz => h z (List.mem_append_left _ hz)
    have h2 := h y (List.mem_append_right _ List.mem_cons_self)
    have h3 := ht_mul k (pdL L x) (x - y)
    have h4 := ht_sub k x y
    rw [pdL_app, List.length_append, List.length_singleton, Nat.succ_mul]
    omega
theorem rpS_ht (k : Fg) (y : k.K) (τ H : Nat) (hy : ht k y ≤ τ) (c : Nat → k.K) (hc : ∀ j, ht k (c j) ≤ H) (h1 : 1 ≤ H) : ∀ j, ht k (rpS c y j) ≤ 2 * H + τ + 1 := fun j => by
  unfold rpS
  have h8 := ht_mul k y (c j)
  have h9 := hc j
  have h10 : ht k (if j = 0 then 0 else c (j - 1)) ≤ H := by
    split
    · have := ht_zero k; omega
    · exact hc _
  have h11 := ht_sub k (if j = 0 then 0 else c (j - 1)) (y * c j)
  omega
theorem rp_ht (k : Fg) (τ : Nat) : ∀ L : List k.K, (∀ y ∈ L, ht k y ≤ τ) → ∀ j, ht k (rp L j) + τ + 1 ≤ 2 ^ L.length * (τ + 2) := by
  refine snoc (fun _ j => ?_) fun L y ih h j => ?_
  · have := ht_del k j 0
    show ht k (del j 0) + τ + 1 ≤ 1 * (τ + 2)
    omega
  · have h1 := ih fun z hz => h z (List.mem_append_left _ hz)
    have h2 := h y (List.mem_append_right _ List.mem_cons_self)
    have p0 : 0 < 2 ^ L.length := Nat.pow_pos (by omega)
    have p1 : τ + 2 ≤ 2 ^ L.length * (τ + 2) := Nat.le_mul_of_pos_left _ p0
    have h3 := rpS_ht k y τ (2 ^ L.length * (τ + 2) - τ - 1) h2 (rp L) (fun j => by have := h1 j; omega) (by omega) j
    rw [rp_app, List.length_append, List.length_singleton, Nat.pow_succ]
    have e : 2 ^ L.length * 2 * (τ + 2) = 2 * (2 ^ L.length * (τ + 2)) := by rw [Nat.mul_comm (2 ^ L.length) 2, Nat.mul_assoc]
    rw [e]
    omega
theorem ht_wth (k : Fg) (o : Nat → Option k.K) (n c : Nat) (hs : ∀ i, i < n → ∀ x, o i = some x → ht k x ≤ 7) (hc : c < n) (hn : n ≤ 6) {m : Nat} (hm : m ≤ n) : ht k (wth o c m) ≤ 91 := by
  unfold wth
  cases e : o c with
  | none => have := ht_one k; show ht k 1 ≤ _; omega
  | some x =>
    have h1 := ht_pdL k x 7 (hs c hc x e) (rts o c m) fun y hy => by
      obtain ⟨i, h1, h2, h3⟩ := rts_mem.mp hy
      exact hs i (by omega) y h3
    have h2 := rts_len (o := o) (k := c) m
    have h3 : (rts o c m).length ≤ 6 := by omega
    have h4 : (rts o c m).length * (2 * 7 + 1) ≤ 6 * (2 * 7 + 1) := Nat.mul_le_mul_right _ h3
    show ht k (pdL (rts o c m) x) ≤ 91
    omega
theorem pt_s {k : Fg} {x : k.K} : ptD k (some x) = enc k x := rfl
theorem pt_ne {k : Fg} {x : k.K} : eqD (enc k x) (.str "last") = some false := enc_last k x
def loneBody : SF := (sIf (eAnd (eT (eOp oNe (eV 5) (eV 2))) (eT (eOp oNe (eOp oIx (eV 1) (eV 5)) (eC (.str "last"))))) (sSeq (sApp (pV 3) (eOp oIx (eV 1) (eV 5)))
    (sIf (eT (eOp oNe (eOp oIx (eV 1) (eV 2)) (eC (.str "last")))) (sSet 4 (eCall 3 F__law_times [] (eCons (eVm 0) (eCons (eVm 4) (eCons (eCall 3 F__law_less [] (eCons (eVm 0) (eCons (eOp oIx (eV 1) (eV 2)) (eCons (eOp oIx (eV 1) (eV 5)) eNil)))) eNil))))) sNil)) sNil)
theorem lone_step (k : Fg) (n : Nat) (o : Nat → Option k.K) (c : Nat) (h : D) (hn : n ≤ 6) (hc : c < n) (hs : ∀ i, i < n → ∀ x, o i = some x → ht k x ≤ 7) (m : Nat) (hm : m < n) :
    loneBody [some (.int k.p), some (.lst (gen n fun i => ptD k (o i))), some (.int c), some (.hl ((rts o c m).map (enc k))), some (enc k (wth o c m)), some (.int m), none, none] h = .nx [some (.int k.p), some (.lst (gen n fun i => ptD k (o i))), some (.int c), some (.hl ((rts o c (m + 1)).map (enc k))), some (enc k (wth o c (m + 1))), some (.int m), none, none] h := by
  by_cases mc : m = c
  · have e : (m : Int) = (c : Int) := by omega
    have ew : wth o c (m + 1) = wth o c m := by unfold wth; rw [rts_k mc]
    rw [rts_k mc, ew]
    unfold loneBody
    push_cast [e]
  · have e : ¬ (m : Int) = (c : Int) := by omega
    have el := pt_last k (o m)
    cases em : o m with
    | none =>
      have ew : wth o c (m + 1) = wth o c m := by unfold wth; rw [rts_n mc em]
      rw [em] at el
      rw [rts_n mc em, ew]
      unfold loneBody
      push_cast [e, em, el]
    | some y =>
      rw [em] at el
      have n0 : ¬ (some y = none) := fun z => nomatch z
      have fr := enc_fr k y
      have sz : szOk ((rts o c m).map (enc k)).length = true := sz_ok (by
        have := rts_len (o := o) (k := c) m
        rw [List.length_map]; omega)
      rw [rts_s mc em, List.map_append, List.map_cons, List.map_nil]
      have elc := pt_last k (o c)
      cases ec : o c with
      | none =>
        have ew : wth o c (m + 1) = wth o c m := by unfold wth; rw [ec]
        rw [ec] at elc
        rw [ew]
        unfold loneBody
        push_cast [e, em, ec, pt_s, pt_ne, elc, fr, sz]
      | some x =>
        have ew : wth o c (m + 1) = wth o c m * (x - y) := by unfold wth; rw [ec]; show pdL _ x = _; rw [rts_s mc em, pdL_app]
        have hx := hs c hc x ec
        have hy := hs m hm y em
        have e1 := E_less k x y h (by omega)
        have hw := ht_wth k o n c hs hc hn (m := m) (by omega)
        have h4 := ht_sub k x y
        have e2 := E_times k (wth o c m) (x - y) h (by omega)
        rw [ew]
        unfold loneBody
        push_cast [e, em, ec, pt_s, pt_ne, fr, sz, enc_vm, enc_vd, e1, e2]
theorem E_law_lone (k : Fg) (n : Nat) (o : Nat → Option k.K) (c : Nat) (h : D) (hn : n ≤ 6) (hc : c < n) (hd : ∀ i j, i < n → j < n → o i = o j → i = j) (hs : ∀ i, i < n → ∀ x, o i = some x → ht k x ≤ 7) :
    F__law_lone [.int k.p, .lst (gen n fun i => ptD k (o i)), .int c] h = .ok (.lst (gen n fun j => enc k (lone o n c j))) h := by
  have lp := for_gen0 (h := h) (bind := bNm 5) (body := loneBody) (d := fun j => .int (j : Int)) (n := n)
    (fun m => [some (.int k.p), some (.lst (gen n fun i => ptD k (o i))), some (.int c), some (.hl ((rts o c m).map (enc k))), some (enc k (wth o c m)), lv none (fun j => .int (j : Int)) m, none, none]) fun m hm => ⟨_, rfl, by
      rw [lv_s]
      exact lone_step k n o c h hn hc hs m hm⟩
  have hl := rts_len (o := o) (k := c) n
  rw [if_pos hc] at hl
  have hr : ∀ y ∈ rts o c n, ht k y ≤ 7 := fun y hy => by
    obtain ⟨i, h1, h2, h3⟩ := rts_mem.mp hy
    exact hs i h1 y h3
  have hp : 2 ^ (rts o c n).length ≤ 2 ^ 6 := Nat.pow_le_pow_right (by omega) (by omega)
  have hp2 : 2 ^ (rts o c n).length * (7 + 2) ≤ 4000 := by omega
  have er := E_rooted k (rts o c n) 7 h hr hp2 (by omega)
  have hw := ht_wth k o n c hs hc hn (m := n) (by omega)
  have eo : ∀ j h, F__law_over [.int k.p, enc k (rp (rts o c n) j), enc k (wth o c n)] h = .ok (enc k (lone o n c j)) h := fun j h => by
    have := rp_ht k 7 (rts o c n) hr j
    exact E_over k _ _ h (wth_ne hd hc) (by omega)
  have n0 := E_num0 k h
  have n1 := E_num1 k h
  have w0 : wth o c 0 = 1 := by
    unfold wth
    cases o c <;> rfl
  have r0 : (rts o c 0).map (enc k) = [] := rfl
  obtain ⟨l, el⟩ : ∃ l, l = (rts o c n).length := ⟨_, rfl⟩
  rw [← el] at er hl
  simp only [lv_0, w0, r0] at lp
  show runF 8 (sSeq (sSet 3 (eLst eNil))
    (sSeq (sSet 4 (eCall 2 F__law_num [] (eCons (eVm 0) (eCons (eC (.int 1)) eNil))))
    (sSeq (sFor (iRg rg1 (eCons (eBi kLen (eCons (eV 1) eNil)) eNil)) (bNm 5) loneBody)
    (sSeq (sFrz 3 (sSet 6 (eFz (eLc [7] (iSeq (eCall 2 F__law_rooted [] (eCons (eVm 0) (eCons (eVm 3) eNil)))) (bNm 7) tYesD (eCall 3 F__law_over [] (eCons (eVm 0) (eCons (eVm 7) (eCons (eVm 4) eNil))))))))
    (sRet (eFz (eOn oPlus (eV 6) (eFz (eOn oTimes (eFz (eLst (eCons (eCall 2 F__law_num [] (eCons (eVm 0) (eCons (eC (.int 0)) eNil))) eNil))) (eOp oSub (eBi kLen (eCons (eV 1) eNil)) (eBi kLen (eCons (eV 6) eNil)))))))))))) _ _ = _
  push_cast [n0, n1, lp, frzL_map, er, eo, enc_vm, enc_vd]
  congr 2
  rw [gen_app, show l + 1 + ((n : Int) - ((l + 1 : Nat) : Int)).toNat = n by omega]
  refine gen_congr fun j hj => ?_
  split
  · rfl
  · congr 1
    unfold lone
    rw [rp_high _ _ (by omega)]
    grind
end Lw
set_option exponentiation.threshold 20000
namespace Lw
open PySem PySem.Spec L2 Fw Pd Dz
theorem isa_ni : isaB "NoneType" "int" = false := by decide +kernel
theorem isa_nb : isaB "NoneType" "bool" = false := by decide +kernel
theorem isa_ns : isaB "NoneType" "str" = false := by decide +kernel
theorem isa_nt : isaB "NoneType" "tuple" = false := by decide +kernel
theorem isa_nl : isaB "NoneType" "list" = false := by decide +kernel
theorem isa_bi : isaB "bool" "int" = true := by decide +kernel
theorem isa_bb : isaB "bool" "bool" = true := by decide +kernel
theorem isa_bs : isaB "bool" "str" = false := by decide +kernel
theorem isa_bt : isaB "bool" "tuple" = false := by decide +kernel
theorem isa_bl : isaB "bool" "list" = false := by decide +kernel
theorem isa_ii : isaB "int" "int" = true := by decide +kernel
theorem isa_ib : isaB "int" "bool" = false := by decide +kernel
theorem isa_is : isaB "int" "str" = false := by decide +kernel
theorem isa_it : isaB "int" "tuple" = false := by decide +kernel
theorem isa_il : isaB "int" "list" = false := by decide +kernel
theorem isa_si : isaB "str" "int" = false := by decide +kernel
theorem isa_sb : isaB "str" "bool" = false := by decide +kernel
theorem isa_ss : isaB "str" "str" = true := by decide +kernel
theorem isa_st : isaB "str" "tuple" = false := by decide +kernel
theorem isa_sl : isaB "str" "list" = false := by decide +kernel
theorem isa_ti : isaB "tuple" "int" = false := by decide +kernel
theorem isa_tb : isaB "tuple" "bool" = false := by decide +kernel
theorem isa_ts : isaB "tuple" "str" = false := by decide +kernel
theorem isa_tt : isaB "tuple" "tuple" = true := by decide +kernel
theorem isa_tl : isaB "tuple" "list" = false := by decide +kernel
theorem isa_li : isaB "list" "int" = false := by decide +kernel
theorem isa_lb : isaB "list" "bool" = false := by decide +kernel
theorem isa_ls : isaB "list" "str" = false := by decide +kernel
theorem isa_lt : isaB "list" "tuple" = false := by decide +kernel
theorem isa_ll : isaB "list" "list" = true := by decide +kernel
theorem wh_bl (b : Bool) (x y h : D) : F_is_whole [.bl b, x, y] h = .ok (.bl false) h := by unfold F_is_whole; push_cast [isa_ni, isa_nb, isa_ns, isa_nt, isa_nl, isa_bi, isa_bb, isa_bs, isa_bt, isa_bl, isa_ii, isa_ib, isa_is, isa_it, isa_il, isa_si, isa_sb, isa_ss, isa_st, isa_sl, isa_ti, isa_tb, isa_ts, isa_tt, isa_tl, isa_li, isa_lb, isa_ls, isa_lt, isa_ll]
theorem wh_non (x y h : D) : F_is_whole [.non, x, y] h = .ok (.bl false) h := by unfold F_is_whole; push_cast [isa_ni, isa_nb, isa_ns, isa_nt, isa_nl, isa_bi, isa_bb, isa_bs, isa_bt, isa_bl, isa_ii, isa_ib, isa_is, isa_it, isa_il, isa_si, isa_sb, isa_ss, isa_st, isa_sl, isa_ti, isa_tb, isa_ts, isa_tt, isa_tl, isa_li, isa_lb, isa_ls, isa_lt, isa_ll]
theorem wh_str (s : Str) (x y h : D) : F_is_whole [.str s, x, y] h = .ok (.bl false) h := by unfold F_is_whole; push_cast [isa_ni, isa_nb, isa_ns, isa_nt, isa_nl, isa_bi, isa_bb, isa_bs, isa_bt, isa_bl, isa_ii, isa_ib, isa_is, isa_it, isa_il, isa_si, isa_sb, isa_ss, isa_st, isa_sl, isa_ti, isa_tb, isa_ts, isa_tt, isa_tl, isa_li, isa_lb, isa_ls, isa_lt, isa_ll]
theorem wh_tup (ds : List D) (x y h : D) : F_is_whole [.tup ds, x, y] h = .ok (.bl false) h := by unfold F_is_whole; push_cast [isa_ni, isa_nb, isa_ns, isa_nt, isa_nl, isa_bi, isa_bb, isa_bs, isa_bt, isa_bl, isa_ii, isa_ib, isa_is, isa_it, isa_il, isa_si, isa_sb, isa_ss, isa_st, isa_sl, isa_ti, isa_tb, isa_ts, isa_tt, isa_tl, isa_li, isa_lb, isa_ls, isa_lt, isa_ll]
theorem wh_lst (ds : List D) (x y h : D) : F_is_whole [.lst ds, x, y] h = .ok (.bl false) h := by unfold F_is_whole; push_cast [isa_ni, isa_nb, isa_ns, isa_nt, isa_nl, isa_bi, isa_bb, isa_bs, isa_bt, isa_bl, isa_ii, isa_ib, isa_is, isa_it, isa_il, isa_si, isa_sb, isa_ss, isa_st, isa_sl, isa_ti, isa_tb, isa_ts, isa_tt, isa_tl, isa_li, isa_lb, isa_ls, isa_lt, isa_ll]
theorem wh_nn (i : Int) (h : D) : F_is_whole [.int i, .non, .non] h = .ok (.bl true) h := by unfold F_is_whole; push_cast [isa_ni, isa_nb, isa_ns, isa_nt, isa_nl, isa_bi, isa_bb, isa_bs, isa_bt, isa_bl, isa_ii, isa_ib, isa_is, isa_it, isa_il, isa_si, isa_sb, isa_ss, isa_st, isa_sl, isa_ti, isa_tb, isa_ts, isa_tt, isa_tl, isa_li, isa_lb, isa_ls, isa_lt, isa_ll]
theorem wh_in (i l : Int) (h : D) : F_is_whole [.int i, .int l, .non] h = .ok (.bl (decide (l ≤ i))) h := by
  unfold F_is_whole
  by_cases c : l ≤ i
  · push_cast [isa_ni, isa_nb, isa_ns, isa_nt, isa_nl, isa_bi, isa_bb, isa_bs, isa_bt, isa_bl, isa_ii, isa_ib, isa_is, isa_it, isa_il, isa_si, isa_sb, isa_ss, isa_st, isa_sl, isa_ti, isa_tb, isa_ts, isa_tt, isa_tl, isa_li, isa_lb, isa_ls, isa_lt, isa_ll, c]
  · push_cast [isa_ni, isa_nb, isa_ns, isa_nt, isa_nl, isa_bi, isa_bb, isa_bs, isa_bt, isa_bl, isa_ii, isa_ib, isa_is, isa_it, isa_il, isa_si, isa_sb, isa_ss, isa_st, isa_sl, isa_ti, isa_tb, isa_ts, isa_tt, isa_tl, isa_li, isa_lb, isa_ls, isa_lt, isa_ll, c]
theorem wh_ii (i l u : Int) (h : D) : F_is_whole [.int i, .int l, .int u] h = .ok (.bl (decide (l ≤ i) && decide (i ≤ u))) h := by
  unfold F_is_whole
  by_cases c : l ≤ i
  · by_cases d : i ≤ u
    · push_cast [isa_ni, isa_nb, isa_ns, isa_nt, isa_nl, isa_bi, isa_bb, isa_bs, isa_bt, isa_bl, isa_ii, isa_ib, isa_is, isa_it, isa_il, isa_si, isa_sb, isa_ss, isa_st, isa_sl, isa_ti, isa_tb, isa_ts, isa_tt, isa_tl, isa_li, isa_lb, isa_ls, isa_lt, isa_ll, c, d]
    · push_cast [isa_ni, isa_nb, isa_ns, isa_nt, isa_nl, isa_bi, isa_bb, isa_bs, isa_bt, isa_bl, isa_ii, isa_ib, isa_is, isa_it, isa_il, isa_si, isa_sb, isa_ss, isa_st, isa_sl, isa_ti, isa_tb, isa_ts, isa_tt, isa_tl, isa_li, isa_lb, isa_ls, isa_lt, isa_ll, c, d]
  · push_cast [isa_ni, isa_nb, isa_ns, isa_nt, isa_nl, isa_bi, isa_bb, isa_bs, isa_bt, isa_bl, isa_ii, isa_ib, isa_is, isa_it, isa_il, isa_si, isa_sb, isa_ss, isa_st, isa_sl, isa_ti, isa_tb, isa_ts, isa_tt, isa_tl, isa_li, isa_lb, isa_ls, isa_lt, isa_ll, c]
theorem ra_bl (b : Bool) (h : D) : F_is_ratio [.bl b] h = .ok (.bl false) h := by unfold F_is_ratio; push_cast [isa_ni, isa_nb, isa_ns, isa_nt, isa_nl, isa_bi, isa_bb, isa_bs, isa_bt, isa_bl, isa_ii, isa_ib, isa_is, isa_it, isa_il, isa_si, isa_sb, isa_ss, isa_st, isa_sl, isa_ti, isa_tb, isa_ts, isa_tt, isa_tl, isa_li, isa_lb, isa_ls, isa_lt, isa_ll]
theorem ra_non (h : D) : F_is_ratio [.non] h = .ok (.bl false) h := by unfold F_is_ratio; push_cast [isa_ni, isa_nb, isa_ns, isa_nt, isa_nl, isa_bi, isa_bb, isa_bs, isa_bt, isa_bl, isa_ii, isa_ib, isa_is, isa_it, isa_il, isa_si, isa_sb, isa_ss, isa_st, isa_sl, isa_ti, isa_tb, isa_ts, isa_tt, isa_tl, isa_li, isa_lb, isa_ls, isa_lt, isa_ll]
theorem ra_str (s : Str) (h : D) : F_is_ratio [.str s] h = .ok (.bl false) h := by unfold F_is_ratio; push_cast [isa_ni, isa_nb, isa_ns, isa_nt, isa_nl, isa_bi, isa_bb, isa_bs, isa_bt, isa_bl, isa_ii, isa_ib, isa_is, isa_it, isa_il, isa_si, isa_sb, isa_ss, isa_st, isa_sl, isa_ti, isa_tb, isa_ts, isa_tt, isa_tl, isa_li, isa_lb, isa_ls, isa_lt, isa_ll]
theorem ra_int (i : Int) (h : D) : F_is_ratio [.int i] h = .ok (.bl false) h := by unfold F_is_ratio; push_cast [isa_ni, isa_nb, isa_ns, isa_nt, isa_nl, isa_bi, isa_bb, isa_bs, isa_bt, isa_bl, isa_ii, isa_ib, isa_is, isa_it, isa_il, isa_si, isa_sb, isa_ss, isa_st, isa_sl, isa_ti, isa_tb, isa_ts, isa_tt, isa_tl, isa_li, isa_lb, isa_ls, isa_lt, isa_ll]
theorem ra_lst (ds : List D) (h : D) : F_is_ratio [.lst ds] h = .ok (.bl false) h := by unfold F_is_ratio; push_cast [isa_ni, isa_nb, isa_ns, isa_nt, isa_nl, isa_bi, isa_bb, isa_bs, isa_bt, isa_bl, isa_ii, isa_ib, isa_is, isa_it, isa_il, isa_si, isa_sb, isa_ss, isa_st, isa_sl, isa_ti, isa_tb, isa_ts, isa_tt, isa_tl, isa_li, isa_lb, isa_ls, isa_lt, isa_ll]
theorem ra_q (x : Rat) (h : D) : F_is_ratio [encQ x] h = .ok (.bl true) h := by
  have h1 := wh_nn x.num h
  have h2 := wh_in x.den 1 h
  have p := x.den_pos
  have h3 : (1 : Int) ≤ (x.den : Int) := by omega
  have g : Nat.gcd x.num.natAbs x.den = 1 := x.reduced
  have g2 : (x.den : Int).natAbs = x.den := Int.natAbs_natCast _
  rw [decide_eq_true h3] at h2
  unfold encQ F_is_ratio
  push_cast [isa_ni, isa_nb, isa_ns, isa_nt, isa_nl, isa_bi, isa_bb, isa_bs, isa_bt, isa_bl, isa_ii, isa_ib, isa_is, isa_it, isa_il, isa_si, isa_sb, isa_ss, isa_st, isa_sl, isa_ti, isa_tb, isa_ts, isa_tt, isa_tl, isa_li, isa_lb, isa_ls, isa_lt, isa_ll, h1, h2, g, g2]
end Lw
set_option exponentiation.threshold 20000
namespace Lw
open PySem PySem.Spec L2 Fw Pd Dz
theorem ln_int_m (p i : Int) (h : D) (hp : 0 < p) : F__law_numbers [.int p, .tup [.int i], .int 1] h = .ok (.bl (decide (0 ≤ i) && decide (i < p))) h := by
  unfold F__law_numbers
  by_cases c : 0 ≤ i
  · by_cases d : i < p
    · push_cast [isa_ni, isa_nb, isa_ns, isa_nt, isa_nl, isa_bi, isa_bb, isa_bs, isa_bt, isa_bl, isa_ii, isa_ib, isa_is, isa_it, isa_il, isa_si, isa_sb, isa_ss, isa_st, isa_sl, isa_ti, isa_tb, isa_ts, isa_tt, isa_tl, isa_li, isa_lb, isa_ls, isa_lt, isa_ll, hp, forGo, c, d]
    · push_cast [isa_ni, isa_nb, isa_ns, isa_nt, isa_nl, isa_bi, isa_bb, isa_bs, isa_bt, isa_bl, isa_ii, isa_ib, isa_is, isa_it, isa_il, isa_si, isa_sb, isa_ss, isa_st, isa_sl, isa_ti, isa_tb, isa_ts, isa_tt, isa_tl, isa_li, isa_lb, isa_ls, isa_lt, isa_ll, hp, forGo, c, d]
  · push_cast [isa_ni, isa_nb, isa_ns, isa_nt, isa_nl, isa_bi, isa_bb, isa_bs, isa_bt, isa_bl, isa_ii, isa_ib, isa_is, isa_it, isa_il, isa_si, isa_sb, isa_ss, isa_st, isa_sl, isa_ti, isa_tb, isa_ts, isa_tt, isa_tl, isa_li, isa_lb, isa_ls, isa_lt, isa_ll, hp, forGo, c]
theorem ln_bl_m (p : Int) (b : Bool) (h : D) (hp : 0 < p) : F__law_numbers [.int p, .tup [.bl b], .int 1] h = .ok (.bl false) h := by
  unfold F__law_numbers
  push_cast [isa_ni, isa_nb, isa_ns, isa_nt, isa_nl, isa_bi, isa_bb, isa_bs, isa_bt, isa_bl, isa_ii, isa_ib, isa_is, isa_it, isa_il, isa_si, isa_sb, isa_ss, isa_st, isa_sl, isa_ti, isa_tb, isa_ts, isa_tt, isa_tl, isa_li, isa_lb, isa_ls, isa_lt, isa_ll, hp, forGo]
theorem ln_non_m (p : Int) (h : D) (hp : 0 < p) : F__law_numbers [.int p, .tup [.non], .int 1] h = .ok (.bl false) h := by
  unfold F__law_numbers
  push_cast [isa_ni, isa_nb, isa_ns, isa_nt, isa_nl, isa_bi, isa_bb, isa_bs, isa_bt, isa_bl, isa_ii, isa_ib, isa_is, isa_it, isa_il, isa_si, isa_sb, isa_ss, isa_st, isa_sl, isa_ti, isa_tb, isa_ts, isa_tt, isa_tl, isa_li, isa_lb, isa_ls, isa_lt, isa_ll, hp, forGo]
theorem ln_tup_m (p : Int) (ds : List D) (h : D) (hp : 0 < p) : F__law_numbers [.int p, .tup [.tup ds], .int 1] h = .ok (.bl false) h := by
  unfold F__law_numbers
  push_cast [isa_ni, isa_nb, isa_ns, isa_nt, isa_nl, isa_bi, isa_bb, isa_bs, isa_bt, isa_bl, isa_ii, isa_ib, isa_is, isa_it, isa_il, isa_si, isa_sb, isa_ss, isa_st, isa_sl, isa_ti, isa_tb, isa_ts, isa_tt, isa_tl, isa_li, isa_lb, isa_ls, isa_lt, isa_ll, hp, forGo]
theorem ln_bl_q (b : Bool) (h : D) : F__law_numbers [.int 0, .tup [.bl b], .int 1] h = .ok (.bl false) h := by
  have hp : ¬ (0 : Int) < 0 := by omega
  unfold F__law_numbers
  push_cast [isa_ni, isa_nb, isa_ns, isa_nt, isa_nl, isa_bi, isa_bb, isa_bs, isa_bt, isa_bl, isa_ii, isa_ib, isa_is, isa_it, isa_il, isa_si, isa_sb, isa_ss, isa_st, isa_sl, isa_ti, isa_tb, isa_ts, isa_tt, isa_tl, isa_li, isa_lb, isa_ls, isa_lt, isa_ll, hp, forGo]
theorem ln_non_q (h : D) : F__law_numbers [.int 0, .tup [.non], .int 1] h = .ok (.bl false) h := by
  have hp : ¬ (0 : Int) < 0 := by omega
  unfold F__law_numbers
  push_cast [isa_ni, isa_nb, isa_ns, isa_nt, isa_nl, isa_bi, isa_bb, isa_bs, isa_bt, isa_bl, isa_ii, isa_ib, isa_is, isa_it, isa_il, isa_si, isa_sb, isa_ss, isa_st, isa_sl, isa_ti, isa_tb, isa_ts, isa_tt, isa_tl, isa_li, isa_lb, isa_ls, isa_lt, isa_ll, hp, forGo]
theorem ln_int_q (i : Int) (h : D) : F__law_numbers [.int 0, .tup [.int i], .int 1] h = .ok (.bl false) h := by
  have hp : ¬ (0 : Int) < 0 := by omega
  unfold F__law_numbers
  push_cast [isa_ni, isa_nb, isa_ns, isa_nt, isa_nl, isa_bi, isa_bb, isa_bs, isa_bt, isa_bl, isa_ii, isa_ib, isa_is, isa_it, isa_il, isa_si, isa_sb, isa_ss, isa_st, isa_sl, isa_ti, isa_tb, isa_ts, isa_tt, isa_tl, isa_li, isa_lb, isa_ls, isa_lt, isa_ll, hp, forGo]
theorem ln_lst_q (ds : List D) (h : D) : F__law_numbers [.int 0, .tup [.lst ds], .int 1] h = .ok (.bl false) h := by
  have hp : ¬ (0 : Int) < 0 := by omega
  unfold F__law_numbers
  push_cast [isa_ni, isa_nb, isa_ns, isa_nt, isa_nl, isa_bi, isa_bb, isa_bs, isa_bt, isa_bl, isa_ii, isa_ib, isa_is, isa_it, isa_il, isa_si, isa_sb, isa_ss, isa_st, isa_sl, isa_ti, isa_tb, isa_ts, isa_tt, isa_tl, isa_li, isa_lb, isa_ls, isa_lt, isa_ll, hp, forGo]
theorem ln_enc_q (x : Rat) (h : D) (hx : bt x.den ≤ 20000) : F__law_numbers [.int 0, .tup [encQ x], .int 1] h = .ok (.bl true) h := by
  have hp : ¬ (0 : Int) < 0 := by omega
  have g : Nat.gcd x.num.natAbs x.den = 1 := x.reduced
  have g2 : (x.den : Int).natAbs = x.den := Int.natAbs_natCast _
  have eg := E_gcd x.num x.den h (by rw [g2]; exact hx)
  rw [g2, g] at eg
  have p := x.den_pos
  have d1 : ¬ (x.den : Int) < 1 := by omega
  unfold F__law_numbers encQ
  push_cast [isa_ni, isa_nb, isa_ns, isa_nt, isa_nl, isa_bi, isa_bb, isa_bs, isa_bt, isa_bl, isa_ii, isa_ib, isa_is, isa_it, isa_il, isa_si, isa_sb, isa_ss, isa_st, isa_sl, isa_ti, isa_tb, isa_ts, isa_tt, isa_tl, isa_li, isa_lb, isa_ls, isa_lt, isa_ll, hp, forGo, d1, eg]
/-- a thing: is it a number of these figures, is it "last" -/
structure Thg (k : Fg) (d : D) (nb la : Bool) : Prop where
  fr : d.fr = true
  pl : Pl0 2 d
  num : ∀ h, F_Figures_is_number [fig k, d] h = .ok (.bl nb) h
  last : eqD d (.str "last") = some la
  law : (isS "str" d = some true ∧ nb = false) ∨ (isS "str" d = some false ∧ ∀ h, F__law_numbers [.int k.p, .tup [d], .int 1] h = .ok (.bl nb) h)
  ex : la = true → nb = false
theorem num_q (d h : D) (b : Bool) (fr : d.fr = true) (e : ∀ h, F_is_ratio [d] h = .ok (.bl b) h) : F_Figures_is_number [fig .q, d] h = .ok (.bl b) h := by
  have v : vD (some (some d)) h = .ok d h := vD_fr fr
  have vm : vmD (some (some d)) h = .ok d h := vmD_fr fr
  unfold F_Figures_is_number
  push_cast [fig_vd, fig_p, pq, v, vm, e]
theorem num_m {n : Nat} {hn} (d h : D) (b : Bool) (fr : d.fr = true) (e : ∀ h, F_is_whole [d, .int 0, .int ((Fg.m n hn).p - 1)] h = .ok (.bl b) h) : F_Figures_is_number [fig (.m n hn), d] h = .ok (.bl b) h := by
  have v : vD (some (some d)) h = .ok d h := vD_fr fr
  have vm : vmD (some (some d)) h = .ok d h := vmD_fr fr
  have p0 : ¬ (Fg.m n hn).p = 0 := by rw [pm]; omega
  obtain ⟨p, ep⟩ : ∃ p, p = (Fg.m n hn).p := ⟨_, rfl⟩
  unfold F_Figures_is_number
  push_cast [fig_vd, fig_p, p0, v, vm, e]
theorem ne_last {n : Nat} {d : D} {q : PyData} (h : Pl0 n d) (hn : n ≤ 64) (e : toPy d = some q) (hq : PyData.eqv q (.str "last") = false) : eqD d (.str "last") = some false := by
  have sl : SeqAt.shaped (PyData.str "last") = true := by decide +kernel
  unfold eqD
  rw [e, show toPy (.str "last") = some (.str "last") by unfold toPy; rfl]
  simp only [pl_sh h hn e, sl, Bool.and_self, if_true, hq]
theorem bl_last (b : Bool) : eqD (.bl b) (.str "last") = some false := by cases b <;> decide +kernel
theorem non_last : eqD .non (.str "last") = some false := by decide +kernel
theorem int_last (i : Int) : eqD (.int i) (.str "last") = some false := ne_last (pl_int i) (by omega) (by unfold toPy; rfl) (by simp only [PyData.eqv])
theorem is_bl (b : Bool) : isS "str" (.bl b) = some false := by unfold isS tyS; simp only [Option.map_some]; rw [isa_bs]
theorem is_non : isS "str" .non = some false := by unfold isS tyS; simp only [Option.map_some]; rw [isa_ns]
theorem is_int (i : Int) : isS "str" (.int i) = some false := by unfold isS tyS; simp only [Option.map_some]; rw [isa_is]
theorem is_str (s : Str) : isS "str" (.str s) = some true := by unfold isS tyS; simp only [Option.map_some]; rw [isa_ss]
theorem is_tup (ds : List D) : isS "str" (.tup ds) = some false := by unfold isS tyS; simp only [Option.map_some]; rw [isa_ts]
theorem is_lst (ds : List D) : isS "str" (.lst ds) = some false := by unfold isS tyS; simp only [Option.map_some]; rw [isa_ls]
theorem thg_enc (k : Fg) (x : k.K) (hx : ht k x ≤ 8000) : Thg k (enc k x) true false := by
  cases k with
  | q =>
    refine ⟨rfl, (pl_enc .q x).mono (by omega), fun h => num_q _ h true rfl fun h => ra_q x h, enc_last .q x, .inr ⟨is_tup _, fun h => ?_⟩, fun z => nomatch z⟩
    have := hq_den x
    exact ln_enc_q x h (Nat.le_trans this (Nat.le_trans hx (by omega)))
  | m n hn =>
    have h1 := fv_lt x
    have p0 : 0 < (Fg.m n hn).p := by rw [pm]; omega
    refine ⟨rfl, (pl_enc (.m n hn) x).mono (by omega), fun h => num_m _ h true rfl fun h => ?_, enc_last (.m n hn) x, .inr ⟨is_int _, fun h => ?_⟩, fun z => nomatch z⟩
    · rw [encM_a, wh_ii, decide_eq_true (show (0 : Int) ≤ (x.val : Int) by omega), decide_eq_true (show (x.val : Int) ≤ (Fg.m n hn).p - 1 by rw [pm]; omega)]; rfl
    · rw [encM_a, ln_int_m _ _ _ p0, decide_eq_true (show (0 : Int) ≤ (x.val : Int) by omega), decide_eq_true (show (x.val : Int) < (Fg.m n hn).p by rw [pm]; omega)]; rfl
theorem thg_str (k : Fg) (s : Str) (hs : PyData.strOk s = true) (b : Bool) (e : eqD (.str s) (.str "last") = some b) : Thg k (.str s) false b := by
  refine ⟨rfl, (pl_str hs).mono (by omega), fun h => ?_, e, .inl ⟨is_str s, rfl⟩, fun _ => rfl⟩
  cases k with
  | q => exact num_q _ h false rfl fun h => ra_str s h
  | m n hn => exact num_m _ h false rfl fun h => wh_str s _ _ h
theorem thg_last (k : Fg) : Thg k (.str "last") false true := thg_str k "last" last_ok true last_last
theorem pm_pos {n : Nat} {hn} : 0 < (Fg.m n hn).p := by rw [pm]; omega
theorem thg_bl (k : Fg) (b : Bool) : Thg k (.bl b) false false := by
  cases k with
  | q => exact ⟨rfl, (pl_bl b).mono (by omega), fun h => num_q _ h false rfl fun h => ra_bl b h, bl_last b, .inr ⟨is_bl b, fun h => ln_bl_q b h⟩, fun z => nomatch z⟩
  | m n hn => exact ⟨rfl, (pl_bl b).mono (by omega), fun h => num_m _ h false rfl fun h => wh_bl b _ _ h, bl_last b, .inr ⟨is_bl b, fun h => ln_bl_m _ b h pm_pos⟩, fun z => nomatch z⟩
theorem thg_non (k : Fg) : Thg k .non false false := by
  cases k with
  | q => exact ⟨rfl, pl_non.mono (by omega), fun h => num_q _ h false rfl fun h => ra_non h, non_last, .inr ⟨is_non, fun h => ln_non_q h⟩, fun z => nomatch z⟩
  | m n hn => exact ⟨rfl, pl_non.mono (by omega), fun h => num_m _ h false rfl fun h => wh_non _ _ h, non_last, .inr ⟨is_non, fun h => ln_non_m _ h pm_pos⟩, fun z => nomatch z⟩
theorem thg_int (k : Fg) (i : Int) (hi : k = .q ∨ i < 0 ∨ k.p ≤ i) : Thg k (.int i) false false := by
  cases k with
  | q => exact ⟨rfl, (pl_int i).mono (by omega), fun h => num_q _ h false rfl fun h => ra_int i h, int_last i, .inr ⟨is_int i, fun h => ln_int_q i h⟩, fun z => nomatch z⟩
  | m n hn =>
    have hi : i < 0 ∨ (Fg.m n hn).p ≤ i := by
      rcases hi with z | z
      · exact nomatch z
      · exact z
    refine ⟨rfl, (pl_int i).mono (by omega), fun h => num_m _ h false rfl fun h => ?_, int_last i, .inr ⟨is_int i, fun h => ?_⟩, fun z => nomatch z⟩
    · rw [wh_ii]
      rcases hi with z | z
      · rw [decide_eq_false (show ¬ 0 ≤ i by omega)]; rfl
      · rw [decide_eq_false (show ¬ i ≤ (Fg.m n hn).p - 1 by omega), Bool.and_false]
    · rw [ln_int_m _ _ _ pm_pos]
      rcases hi with z | z
      · rw [decide_eq_false (show ¬ 0 ≤ i by omega)]; rfl
      · rw [decide_eq_false (show ¬ i < (Fg.m n hn).p by omega), Bool.and_false]
theorem pl_01 : ∀ d ∈ [D.int 0, D.int 1], Pl0 0 d := fun d hd => by
  rcases List.mem_cons.mp hd with rfl | hd
  · exact pl_int _
  · rw [List.mem_singleton.mp hd]; exact pl_int _
theorem thg_lst : Thg .q (.lst [.int 0, .int 1]) false false := ⟨rfl, (pl_lst pl_01).mono (by omega), fun h => num_q _ h false rfl fun h => ra_lst _ h, by decide +kernel, .inr ⟨is_lst _, fun h => ln_lst_q _ h⟩, fun z => nomatch z⟩
theorem thg_tup {n : Nat} {hn} : Thg (.m n hn) (.tup [.int 0, .int 1]) false false := ⟨rfl, (pl_tup pl_01).mono (by omega), fun h => num_m _ h false rfl fun h => wh_tup _ _ _ h, by decide +kernel, .inr ⟨is_tup _, fun h => ln_tup_m _ _ h pm_pos⟩, fun z => nomatch z⟩
end Lw
set_option exponentiation.threshold 20000
namespace Lw
open PySem PySem.Spec L2 Fw Pd Dz
/-- a list or a tuple -/
def sqD (b : Bool) (ds : List D) : D := if b then .lst ds else .tup ds
theorem E_is_point (k : Fg) (d h : D) (nb la : Bool) (t : Thg k d nb la) : F_is_point [fig k, d] h = .ok (.bl (nb || la)) h := by
  have v : vD (some (some d)) h = .ok d h := vD_fr t.fr
  have vm : vmD (some (some d)) h = .ok d h := vmD_fr t.fr
  have e := t.num h
  have l := t.last
  unfold F_is_point
  cases nb
  · push_cast [fig_vd, eMeth_f, md_is_number, v, vm, e, l]
  · push_cast [fig_vd, eMeth_f, md_is_number, v, vm, e, l]
def badA (f : Nat → D) (nb la : Nat → Bool) (lets : Bool) (i : Nat) : Bool := !(nb i || la i) || (inB (gen i f) (f i) || (la i && !lets))
def ckBody : SF := (sSeq (sIf (eOr (eNot (eTru (eCall 2 F_is_point [] (eCons (eVm 0) (eCons (eVm 5) eNil))))) (eT (eOp oInP (eV 5) (eFz (eSl (eV 1) eNo (eOpt (eV 4))))))) (sRaise "BadPoints" (flD1 "index") (eCons (eV 4) eNil)) sNil)
    (sIf (eAnd (eT (eOp oEq (eV 5) (eC (.str "last")))) (eNot (eTru (eV 3)))) (sRaise "BadPoints" (flD1 "index") (eCons (eV 4) eNil)) sNil))
theorem ck_step (k : Fg) (n : Nat) (f : Nat → D) (nb la : Nat → Bool) (lets b : Bool) (mny h : D) (hn : n ≤ 900) (ht : ∀ i, i < n → Thg k (f i) (nb i) (la i)) (s : Nat) (hs : s < n) :
    ckBody [some (fig k), some (sqD b (gen n f)), some mny, some (.bl lets), some (.int s), some (f s)] h =
      if badA f nb la lets s then .exc "BadPoints" [("index", .int s)] [some (fig k), some (sqD b (gen n f)), some mny, some (.bl lets), some (.int s), some (f s)] h
      else .nx [some (fig k), some (sqD b (gen n f)), some mny, some (.bl lets), some (.int s), some (f s)] h := by
  have t := ht s hs
  have v : ∀ h, vD (some (some (f s))) h = .ok (f s) h := fun h => vD_fr t.fr
  have vm : ∀ h, vmD (some (some (f s))) h = .ok (f s) h := fun h => vmD_fr t.fr
  have ep := E_is_point k (f s) h _ _ t
  have l := t.last
  have hg : ∀ x ∈ gen s f, Pl0 2 x := fun x hx => by
    obtain ⟨i, hi, rfl⟩ := gen_mem.mp hx
    exact (ht i (by omega)).pl
  obtain ⟨i1, i2⟩ := in_pl hg t.pl (by omega)
  have ms : min s n = s := by omega
  obtain ⟨c, ec⟩ : ∃ c, c = inB (gen s f) (f s) := ⟨_, rfl⟩
  unfold badA
  rw [← ec] at i1 i2 ⊢
  obtain ⟨x, ex⟩ : ∃ x, x = nb s := ⟨_, rfl⟩
  obtain ⟨y, ey⟩ : ∃ y, y = la s := ⟨_, rfl⟩
  rw [← ex, ← ey] at ep ⊢
  rw [← ey] at l
  unfold ckBody sqD
  cases b <;> cases x <;> cases y <;> cases c <;> cases lets <;> push_cast [fig_vm, v, vm, ep, l, i1, i2, ms, flD1]
theorem ck_loop (k : Fg) (n : Nat) (f : Nat → D) (nb la : Nat → Bool) (lets b : Bool) (mny h : D) (hn : n ≤ 900) (ht : ∀ i, i < n → Thg k (f i) (nb i) (la i)) : ∀ (m s : Nat) (o4 o5 : Option D), s + m = n → ∃ o4' o5',
    forGo (bTp [(bNm 4), (bNm 5)]) ckBody (gen m fun i => .tup [.int ((s + i : Nat) : Int), f (s + i)]) [some (fig k), some (sqD b (gen n f)), some mny, some (.bl lets), o4, o5] h = match (List.range' s m).find? (badA f nb la lets) with
    | some i => .exc "BadPoints" [("index", .int (i : Int))] [some (fig k), some (sqD b (gen n f)), some mny, some (.bl lets), o4', o5'] h
    | none => .nx [some (fig k), some (sqD b (gen n f)), some mny, some (.bl lets), o4', o5'] h
  | 0, s, o4, o5, _ => ⟨o4, o5, rfl⟩
  | m + 1, s, o4, o5, e => by
    obtain ⟨o4', o5', ih⟩ := ck_loop k n f nb la lets b mny h hn ht m (s + 1) (some (.int (s : Int))) (some (f s)) (by omega)
    have eg : (gen m fun i => D.tup [.int ((s + (i + 1) : Nat) : Int), f (s + (i + 1))]) = gen m fun i => .tup [.int ((s + 1 + i : Nat) : Int), f (s + 1 + i)] := gen_congr fun i _ => by rw [show s + (i + 1) = s + 1 + i by omega]
    have st := ck_step k n f nb la lets b mny h hn ht s (by omega)
    rw [gen_succ, eg, forGo, Nat.add_zero, List.range'_succ, List.find?_cons]
    simp only [bTp_a, bAll, bNm_a, List.set_cons_succ, List.set_cons_zero, Option.bind_some]
    cases q : badA f nb la lets s with
    | true =>
      rw [q, if_pos rfl] at st
      refine ⟨some (.int (s : Int)), some (f s), ?_⟩
      simp only [st]
    | false =>
      rw [q, if_neg (fun z => nomatch z)] at st
      refine ⟨o4', o5', ?_⟩
      simp only [st]
      exact ih
def fbad (n : Nat) (f : Nat → D) (nb la : Nat → Bool) (lets : Bool) : Option Nat := (List.range' 0 n).find? (badA f nb la lets)
theorem E_check (k : Fg) (n : Nat) (f : Nat → D) (nb la : Nat → Bool) (lets b : Bool) (h : D) (hn : n ≤ 900) (ht : ∀ i, i < n → Thg k (f i) (nb i) (la i)) :
    F_check_points [fig k, sqD b (gen n f), .int n, .bl lets] h = match fbad n f nb la lets with
      | some i => .exc "BadPoints" [("index", .int (i : Int))] h
      | none => .ok (.tup (gen n f)) h := by
  obtain ⟨o4, o5, lp⟩ := ck_loop k n f nb la lets b (.int n) h hn ht n 0 none none (by omega)
  simp only [Nat.zero_add] at lp
  show runF 6 (sSeq (sIf (eOr (eNot (eTru (eCall 1 F_is_sequence [] (eCons (eVm 1) eNil)))) (eT (eOp oNe (eBi kLen (eCons (eV 1) eNil)) (eV 2)))) (sRaise "BadPoints" (flD1 "index") (eCons (eC (.int 0)) eNil)) sNil)
    (sSeq (sFor (iRg kEnum (eCons (eV 1) eNil)) (bTp [(bNm 4), (bNm 5)]) ckBody)
    (sRet (eBi kTup (eCons (eV 1) eNil))))) _ _ = _
  unfold fbad
  unfold F_is_sequence
  cases q : (List.range' 0 n).find? (badA f nb la lets) with
  | some i =>
    rw [q] at lp
    unfold sqD at lp ⊢
    cases b
    · simp only [if_false, Bool.false_eq_true] at lp
      push_cast [isa_ni, isa_nb, isa_ns, isa_nt, isa_nl, isa_bi, isa_bb, isa_bs, isa_bt, isa_bl, isa_ii, isa_ib, isa_is, isa_it, isa_il, isa_si, isa_sb, isa_ss, isa_st, isa_sl, isa_ti, isa_tb, isa_ts, isa_tt, isa_tl, isa_li, isa_lb, isa_ls, isa_lt, isa_ll, fig_vm, lp]
    · simp only [if_true] at lp
      push_cast [isa_ni, isa_nb, isa_ns, isa_nt, isa_nl, isa_bi, isa_bb, isa_bs, isa_bt, isa_bl, isa_ii, isa_ib, isa_is, isa_it, isa_il, isa_si, isa_sb, isa_ss, isa_st, isa_sl, isa_ti, isa_tb, isa_ts, isa_tt, isa_tl, isa_li, isa_lb, isa_ls, isa_lt, isa_ll, fig_vm, lp]
  | none =>
    rw [q] at lp
    unfold sqD at lp ⊢
    cases b
    · simp only [if_false, Bool.false_eq_true] at lp
      push_cast [isa_ni, isa_nb, isa_ns, isa_nt, isa_nl, isa_bi, isa_bb, isa_bs, isa_bt, isa_bl, isa_ii, isa_ib, isa_is, isa_it, isa_il, isa_si, isa_sb, isa_ss, isa_st, isa_sl, isa_ti, isa_tb, isa_ts, isa_tt, isa_tl, isa_li, isa_lb, isa_ls, isa_lt, isa_ll, fig_vm, lp]
    · simp only [if_true] at lp
      push_cast [isa_ni, isa_nb, isa_ns, isa_nt, isa_nl, isa_bi, isa_bb, isa_bs, isa_bt, isa_bl, isa_ii, isa_ib, isa_is, isa_it, isa_il, isa_si, isa_sb, isa_ss, isa_st, isa_sl, isa_ti, isa_tb, isa_ts, isa_tt, isa_tl, isa_li, isa_lb, isa_ls, isa_lt, isa_ll, fig_vm, lp]
end Lw
set_option exponentiation.threshold 20000
namespace Lw
open PySem PySem.Spec L2 Fw Pd Dz
def is1 (n : String) (d : D) : Option D := (isS n d).map .bl
def is2 (n m : String) (d : D) : Option D := match isS n d, isS m d with
  | some k, some l => some (.bl (k || l))
  | _, _ => none
theorem is1_a (n : String) (f : EF D) (δ : DE) (h : D) : eIs n f δ h = ((f δ h).bind fun d h1 => Ex.of (is1 n d) h1) := (rfl)
theorem is2_a (n m : String) (f : EF D) (δ : DE) (h : D) : eIs2 n m f δ h = ((f δ h).bind fun d h1 => Ex.of (is2 n m d) h1) := (rfl)
theorem is1_of {n : String} {d : D} {b : Bool} (h : isS n d = some b) : is1 n d = some (.bl b) := by unfold is1; rw [h]; rfl
theorem is2_of {n m : String} {d : D} {a b : Bool} (h : isS n d = some a) (k : isS m d = some b) : is2 n m d = some (.bl (a || b)) := by unfold is2; rw [h, k]
def NotSeq (d : D) : Prop := d.fr = true ∧ isS "list" d = some false ∧ isS "tuple" d = some false
theorem ns_non : NotSeq .non := ⟨rfl, by decide +kernel, by decide +kernel⟩
theorem ns_str (s : Str) : NotSeq (.str s) := ⟨rfl, by unfold isS tyS; simp only [Option.map_some]; rw [isa_sl], by unfold isS tyS; simp only [Option.map_some]; rw [isa_st]⟩
theorem ns_int (i : Int) : NotSeq (.int i) := ⟨rfl, by unfold isS tyS; simp only [Option.map_some]; rw [isa_il], by unfold isS tyS; simp only [Option.map_some]; rw [isa_it]⟩
theorem E_check_no (k : Fg) (d m e h : D) (hd : NotSeq d) : F_check_points [fig k, d, m, e] h = .exc "BadPoints" [("index", .int 0)] h := by
  obtain ⟨fr, h1, h2⟩ := hd
  have v : ∀ h, vD (some (some d)) h = .ok d h := fun h => vD_fr fr
  have vm : ∀ h, vmD (some (some d)) h = .ok d h := fun h => vmD_fr fr
  unfold F_check_points F_is_sequence
  have q := is2_of h1 h2
  push_cast [fig_vm, v, vm, ↓is2_a, q, flD1]
theorem E_check_len (k : Fg) (n : Nat) (f : Nat → D) (b lets : Bool) (i : Int) (h : D) (hi : (n : Int) ≠ i) : F_check_points [fig k, sqD b (gen n f), .int i, .bl lets] h = .exc "BadPoints" [("index", .int 0)] h := by
  unfold F_check_points F_is_sequence sqD
  cases b
  · push_cast [isa_ni, isa_nb, isa_ns, isa_nt, isa_nl, isa_bi, isa_bb, isa_bs, isa_bt, isa_bl, isa_ii, isa_ib, isa_is, isa_it, isa_il, isa_si, isa_sb, isa_ss, isa_st, isa_sl, isa_ti, isa_tb, isa_ts, isa_tt, isa_tl, isa_li, isa_lb, isa_ls, isa_lt, isa_ll, fig_vm, hi, flD1]
  · push_cast [isa_ni, isa_nb, isa_ns, isa_nt, isa_nl, isa_bi, isa_bb, isa_bs, isa_bt, isa_bl, isa_ii, isa_ib, isa_is, isa_it, isa_il, isa_si, isa_sb, isa_ss, isa_st, isa_sl, isa_ti, isa_tb, isa_ts, isa_tt, isa_tl, isa_li, isa_lb, isa_ls, isa_lt, isa_ll, fig_vm, hi, flD1]
def fbBody : SF := (sSeq (sSet 5 (eOp oIx (eV 1) (eV 4)))
    (sSeq (sSet 6 (eIf (eT (eOp oEq (eV 5) (eC (.str "last")))) (eV 3) (eB (eAnd (eT (eB (eNot (eT (eIs "str" (eV 5)))))) (eT (eCall 3 F__law_numbers [] (eCons (eVm 0) (eCons (eTup (eCons (eV 5) eNil)) (eCons (eC (.int 1)) eNil)))))))))
    (sIf (eOr (eNot (eTru (eV 6))) (eT (eOp oInP (eV 5) (eFz (eSl (eV 1) eNo (eOpt (eV 4))))))) (sRet (eV 4)) sNil)))
theorem fb_step (k : Fg) (n : Nat) (f : Nat → D) (nb la : Nat → Bool) (lets b : Bool) (mny h : D) (hn : n ≤ 900) (ht : ∀ i, i < n → Thg k (f i) (nb i) (la i)) (s : Nat) (hs : s < n) (o5 o6 : Option D) :
    ∃ o6', fbBody [some (.int k.p), some (sqD b (gen n f)), some mny, some (.bl lets), some (.int s), o5, o6] h =
      if badA f nb la lets s then .ret (.int s) h
      else .nx [some (.int k.p), some (sqD b (gen n f)), some mny, some (.bl lets), some (.int s), some (f s), o6'] h := by
  have t := ht s hs
  have v : ∀ h, vD (some (some (f s))) h = .ok (f s) h := fun h => vD_fr t.fr
  have l := t.last
  have ex := t.ex
  have hg : ∀ x ∈ gen s f, Pl0 2 x := fun x hx => by
    obtain ⟨i, hi, rfl⟩ := gen_mem.mp hx
    exact (ht i (by omega)).pl
  obtain ⟨i1, i2⟩ := in_pl hg t.pl (by omega)
  have ms : min s n = s := by omega
  obtain ⟨c, ec⟩ : ∃ c, c = inB (gen s f) (f s) := ⟨_, rfl⟩
  have lw := t.law
  unfold badA
  rw [← ec] at i1 i2 ⊢
  obtain ⟨x, hx⟩ : ∃ x, x = nb s := ⟨_, rfl⟩
  obtain ⟨y, hy⟩ : ∃ y, y = la s := ⟨_, rfl⟩
  rw [← hx, ← hy] at ex ⊢
  rw [← hx] at lw
  rw [← hy] at l
  have o0 : ∀ h, vD (some (some (D.bl x))) h = .ok (.bl x) h := fun h => rfl
  refine ⟨some (.bl (if y then lets else x)), ?_⟩
  rcases lw with ⟨e1, e2⟩ | ⟨e1, e2⟩
  · have e1 := is1_of e1
    subst e2
    unfold fbBody sqD
    cases b <;> cases y <;> cases c <;> cases lets <;> push_cast [v, l, i1, i2, ms, ↓is1_a, e1]
  · have e1 := is1_of e1
    have e2 := e2 h
    cases y with
    | false =>
      unfold fbBody sqD
      cases b <;> cases x <;> cases c <;> cases lets <;> push_cast [v, l, i1, i2, ms, ↓is1_a, e1, e2]
    | true =>
      have := ex rfl
      subst this
      unfold fbBody sqD
      cases b <;> cases c <;> cases lets <;> push_cast [v, l, i1, i2, ms, ↓is1_a, e1, e2]
theorem fb_loop (k : Fg) (n : Nat) (f : Nat → D) (nb la : Nat → Bool) (lets b : Bool) (mny h : D) (hn : n ≤ 900) (ht : ∀ i, i < n → Thg k (f i) (nb i) (la i)) : ∀ (m s : Nat) (o4 o5 o6 : Option D), s + m = n → ∃ δ,
    forGo (bNm 4) fbBody (gen m fun i => .int ((s + i : Nat) : Int)) [some (.int k.p), some (sqD b (gen n f)), some mny, some (.bl lets), o4, o5, o6] h = match (List.range' s m).find? (badA f nb la lets) with
    | some i => .ret (.int (i : Int)) h
    | none => .nx δ h
  | 0, s, o4, o5, o6, _ => ⟨_, rfl⟩
  | m + 1, s, o4, o5, o6, e => by
    obtain ⟨o6', st⟩ := fb_step k n f nb la lets b mny h hn ht s (by omega) o5 o6
    obtain ⟨δ, ih⟩ := fb_loop k n f nb la lets b mny h hn ht m (s + 1) (some (.int (s : Int))) (some (f s)) o6' (by omega)
    have eg : (gen m fun i => D.int ((s + (i + 1) : Nat) : Int)) = gen m fun i => .int ((s + 1 + i : Nat) : Int) := gen_congr fun i _ => by rw [show s + (i + 1) = s + 1 + i by omega]
    rw [gen_succ, eg, forGo, Nat.add_zero, List.range'_succ, List.find?_cons]
    simp only [bNm_a, List.set_cons_succ, List.set_cons_zero]
    cases q : badA f nb la lets s with
    | true =>
      rw [q, if_pos rfl] at st
      refine ⟨δ, ?_⟩
      simp only [st]
    | false =>
      rw [q, if_neg (fun z => nomatch z)] at st
      refine ⟨δ, ?_⟩
      simp only [st]
      exact ih
theorem E_first_bad (k : Fg) (n : Nat) (f : Nat → D) (nb la : Nat → Bool) (lets b : Bool) (h : D) (hn : n ≤ 900) (ht : ∀ i, i < n → Thg k (f i) (nb i) (la i)) :
    F__law_first_bad [.int k.p, sqD b (gen n f), .int n, .bl lets] h = .ok (optD (fbad n f nb la lets)) h := by
  obtain ⟨δ, lp⟩ := fb_loop k n f nb la lets b (.int n) h hn ht n 0 none none none (by omega)
  simp only [Nat.zero_add] at lp
  show runF 7 (sSeq (sIf (eOr (eNot (eTru (eIs2 "list" "tuple" (eV 1)))) (eT (eOp oNe (eBi kLen (eCons (eV 1) eNil)) (eV 2)))) (sRet (eC (.int 0))) sNil)
    (sSeq (sFor (iRg rg1 (eCons (eV 2) eNil)) (bNm 4) fbBody)
    (sRet (eC .non)))) _ _ = _
  unfold fbad
  cases q : (List.range' 0 n).find? (badA f nb la lets) with
  | some i =>
    rw [q] at lp
    unfold sqD at lp ⊢
    unfold optD
    cases b
    · simp only [if_false, Bool.false_eq_true] at lp
      push_cast [isa_ni, isa_nb, isa_ns, isa_nt, isa_nl, isa_bi, isa_bb, isa_bs, isa_bt, isa_bl, isa_ii, isa_ib, isa_is, isa_it, isa_il, isa_si, isa_sb, isa_ss, isa_st, isa_sl, isa_ti, isa_tb, isa_ts, isa_tt, isa_tl, isa_li, isa_lb, isa_ls, isa_lt, isa_ll, lp]
    · simp only [if_true] at lp
      push_cast [isa_ni, isa_nb, isa_ns, isa_nt, isa_nl, isa_bi, isa_bb, isa_bs, isa_bt, isa_bl, isa_ii, isa_ib, isa_is, isa_it, isa_il, isa_si, isa_sb, isa_ss, isa_st, isa_sl, isa_ti, isa_tb, isa_ts, isa_tt, isa_tl, isa_li, isa_lb, isa_ls, isa_lt, isa_ll, lp]
  | none =>
    rw [q] at lp
    unfold sqD at lp ⊢
    unfold optD
    cases b
    · simp only [if_false, Bool.false_eq_true] at lp
      push_cast [isa_ni, isa_nb, isa_ns, isa_nt, isa_nl, isa_bi, isa_bb, isa_bs, isa_bt, isa_bl, isa_ii, isa_ib, isa_is, isa_it, isa_il, isa_si, isa_sb, isa_ss, isa_st, isa_sl, isa_ti, isa_tb, isa_ts, isa_tt, isa_tl, isa_li, isa_lb, isa_ls, isa_lt, isa_ll, lp]
    · simp only [if_true] at lp
      push_cast [isa_ni, isa_nb, isa_ns, isa_nt, isa_nl, isa_bi, isa_bb, isa_bs, isa_bt, isa_bl, isa_ii, isa_ib, isa_is, isa_it, isa_il, isa_si, isa_sb, isa_ss, isa_st, isa_sl, isa_ti, isa_tb, isa_ts, isa_tt, isa_tl, isa_li, isa_lb, isa_ls, isa_lt, isa_ll, lp]
theorem E_first_no (k : Fg) (d m e h : D) (hd : NotSeq d) : F__law_first_bad [.int k.p, d, m, e] h = .ok (.int 0) h := by
  obtain ⟨fr, h1, h2⟩ := hd
  have v : ∀ h, vD (some (some d)) h = .ok d h := fun h => vD_fr fr
  unfold F__law_first_bad
  have q := is2_of h1 h2
  push_cast [v, ↓is2_a, q]
theorem E_first_len (k : Fg) (n : Nat) (f : Nat → D) (b lets : Bool) (i : Int) (h : D) (hi : (n : Int) ≠ i) : F__law_first_bad [.int k.p, sqD b (gen n f), .int i, .bl lets] h = .ok (.int 0) h := by
  unfold F__law_first_bad sqD
  cases b
  · push_cast [isa_ni, isa_nb, isa_ns, isa_nt, isa_nl, isa_bi, isa_bb, isa_bs, isa_bt, isa_bl, isa_ii, isa_ib, isa_is, isa_it, isa_il, isa_si, isa_sb, isa_ss, isa_st, isa_sl, isa_ti, isa_tb, isa_ts, isa_tt, isa_tl, isa_li, isa_lb, isa_ls, isa_lt, isa_ll, hi]
  · push_cast [isa_ni, isa_nb, isa_ns, isa_nt, isa_nl, isa_bi, isa_bb, isa_bs, isa_bt, isa_bl, isa_ii, isa_ib, isa_is, isa_it, isa_il, isa_si, isa_sb, isa_ss, isa_st, isa_sl, isa_ti, isa_tb, isa_ts, isa_tt, isa_tl, isa_li, isa_lb, isa_ls, isa_lt, isa_ll, hi]
end Lw
set_option exponentiation.threshold 20000
namespace Lw
open PySem PySem.Spec L2 Fw Pd Dz
/-- small points -/
def Sml (k : Fg) (o : Option k.K) : Prop := ∀ x, o = some x → (ht k x ≤ 7 ∧ hd k x ≤ 1) ∨ (ht k x ≤ 2 ∧ hd k x ≤ 2)
theorem Sml.ht {k : Fg} {o : Option k.K} (s : Sml k o) (x : k.K) (e : o = some x) : ht k x ≤ 7 := by
  rcases s x e with ⟨h, _⟩ | ⟨h, _⟩ <;> omega
/-- points and strange things -/
inductive Th (k : Fg) where
  | pt (o : Option k.K)
  | od (d : D)
def Th.d {k : Fg} : Th k → D
  | .pt o => ptD k o
  | .od d => d
def Th.nb {k : Fg} : Th k → Bool
  | .pt (some _) => true
  | _ => false
def Th.la {k : Fg} : Th k → Bool
  | .pt none => true
  | _ => false
def Th.ok {k : Fg} : Th k → Prop
  | .pt o => Sml k o
  | .od d => Thg k d false false
theorem th_thg {k : Fg} {t : Th k} (h : t.ok) : Thg k t.d t.nb t.la := by
  cases t with
  | od d => exact h
  | pt o => cases o with
    | none => exact thg_last k
    | some x => exact thg_enc k x (Nat.le_trans (Sml.ht h x rfl) (by omega))
theorem eqB_pt (k : Fg) (a b : Option k.K) : eqB (ptD k a) (ptD k b) = decide (a = b) := by
  unfold eqB
  rw [eq_pt]; rfl
/-- no bad one: points, unlike each other -/
theorem fbad_none {k : Fg} {n : Nat} {t : Nat → Th k} {lets : Bool} (ht : ∀ i, i < n → (t i).ok) (e : fbad n (fun i => (t i).d) (fun i => (t i).nb) (fun i => (t i).la) lets = none) :
    ∃ o : Nat → Option k.K, (∀ i, i < n → t i = .pt (o i) ∧ Sml k (o i)) ∧ ∀ i j, i < n → j < n → o i = o j → i = j := by
  unfold fbad at e
  rw [List.find?_eq_none] at e
  have hb : ∀ i, i < n → badA (fun i => (t i).d) (fun i => (t i).nb) (fun i => (t i).la) lets i = false := fun i hi => by
    have := e i (by rw [List.mem_range'_1]; omega)
    cases q : badA (fun i => (t i).d) (fun i => (t i).nb) (fun i => (t i).la) lets i with
    | false => rfl
    | true => exact (this q).elim
  have hp : ∀ i, i < n → ∃ o, t i = .pt o ∧ Sml k o := fun i hi => by
    have h1 := hb i hi
    have h2 := ht i hi
    unfold badA at h1
    cases q : t i with
    | pt o => rw [q] at h2; exact ⟨o, rfl, h2⟩
    | od d =>
      simp only [q] at h1
      exact nomatch h1
  refine ⟨fun i => match t i with | .pt o => o | .od _ => none, fun i hi => ?_, ?_⟩
  · obtain ⟨o, e1, e2⟩ := hp i hi
    simp only [e1]
    exact ⟨trivial, e2⟩
  · have lt : ∀ i j, i < j → j < n → (match t i with | .pt o => o | .od _ => none) ≠ (match t j with | .pt o => o | .od _ => none) := fun i j hij hj z => by
      obtain ⟨o, e1, _⟩ := hp i (by omega)
      obtain ⟨u, e2, _⟩ := hp j hj
      simp only [e1, e2] at z
      have h1 := hb j hj
      have h2 : inB (gen j fun i => (t i).d) (t j).d = true := by
        unfold inB
        rw [List.any_eq_true]
        refine ⟨(t i).d, gen_mem.mpr ⟨i, hij, rfl⟩, ?_⟩
        rw [e1, e2]
        show eqB (ptD k o) (ptD k u) = true
        rw [eqB_pt, decide_eq_true z]
      unfold badA at h1
      simp only [h2, Bool.true_or, Bool.or_true] at h1
      exact nomatch h1
    intro i j hi hj z
    rcases Nat.lt_trichotomy i j with h | h | h
    · exact (lt i j h hj z).elim
    · exact h
    · exact (lt j i h hi z.symm).elim
theorem fbad_good {k : Fg} {n : Nat} {o : Nat → Option k.K} (hd : ∀ i j, i < n → j < n → o i = o j → i = j) : fbad n (fun i => ptD k (o i)) (fun i => (Th.pt (o i)).nb) (fun i => (Th.pt (o i)).la) true = none := by
  unfold fbad
  rw [List.find?_eq_none]
  intro i hi
  have hi : i < n := by rw [List.mem_range'_1] at hi; omega
  unfold badA
  have h1 : ((Th.pt (o i)).nb || (Th.pt (o i)).la) = true := by cases o i <;> rfl
  have h2 : inB (gen i fun i => ptD k (o i)) (ptD k (o i)) = false := by
    unfold inB
    rw [Bool.eq_false_iff]
    intro z
    rw [List.any_eq_true] at z
    obtain ⟨x, hx, ex⟩ := z
    obtain ⟨j, hj, rfl⟩ := gen_mem.mp hx
    rw [eqB_pt] at ex
    have := hd j i (by omega) hi (of_decide_eq_true ex)
    omega
  rw [h1, h2]
  simp
theorem ptRow_G {k : Fg} {n : Nat} {o : Option k.K} : ptRow k n o = ptG n o := by cases o <;> rfl
theorem pt_fr {k : Fg} {o : Option k.K} : (ptD k o).fr = true := by
  cases o with
  | none => rfl
  | some x => exact enc_fr k x
/-- the table of the powers -/
theorem pw_small {k : Fg} {x : k.K} {n : Nat} (hn : n ≤ 6) (hx : ht k x ≤ 7) : ∀ j, j < n → ht k (pw x j) + ht k x ≤ 8000 := fun j hj => by
  have := ht_pw k x j
  have h2 : j * ht k x ≤ 6 * 7 := Nat.mul_le_mul (by omega) hx
  omega
theorem E_table_good (k : Fg) (n : Nat) (o : Nat → Option k.K) (b : Bool) (h : D) (n1 : 1 ≤ n) (hn : n ≤ 6) (hd : ∀ i j, i < n → j < n → o i = o j → i = j) (hs : ∀ i, i < n → Sml k (o i)) :
    F_power_table [fig k, sqD b (gen n fun i => ptD k (o i))] h = .ok (etab k n n fun i => ptG n (o i)) h := by
  have ck := E_check k n (fun i => ptD k (o i)) (fun i => (Th.pt (o i)).nb) (fun i => (Th.pt (o i)).la) true b h (by omega) fun i hi => th_thg (t := .pt (o i)) (hs i hi)
  rw [fbad_good hd] at ck
  simp only at ck
  have ep : ∀ i, i < n → ∀ h, F_powers_at [fig k, ptD k (o i), .int n] h = .ok (erow k n (ptG n (o i))) h := fun i hi h => by
    rw [← ptRow_G]
    exact E_powers_at k (o i) n h n1 (by omega) fun x e => pw_small hn ((hs i hi).ht x e)
  have c1 : (1 : Int) ≤ n := by omega
  have c2 : (n : Int) ≤ 6 := by omega
  unfold F_power_table F_is_sequence
  unfold sqD at ck ⊢
  unfold etab
  cases b
  · simp only [if_false, Bool.false_eq_true] at ck
    push_cast [isa_ni, isa_nb, isa_ns, isa_nt, isa_nl, isa_bi, isa_bb, isa_bs, isa_bt, isa_bl, isa_ii, isa_ib, isa_is, isa_it, isa_il, isa_si, isa_sb, isa_ss, isa_st, isa_sl, isa_ti, isa_tb, isa_ts, isa_tt, isa_tl, isa_li, isa_lb, isa_ls, isa_lt, isa_ll, fig_vm, c1, c2, ck, pt_vm, ep]
  · simp only [if_true] at ck
    push_cast [isa_ni, isa_nb, isa_ns, isa_nt, isa_nl, isa_bi, isa_bb, isa_bs, isa_bt, isa_bl, isa_ii, isa_ib, isa_is, isa_it, isa_il, isa_si, isa_sb, isa_ss, isa_st, isa_sl, isa_ti, isa_tb, isa_ts, isa_tt, isa_tl, isa_li, isa_lb, isa_ls, isa_lt, isa_ll, fig_vm, c1, c2, ck, pt_vm, ep]
theorem E_table_bad (k : Fg) (n : Nat) (f : Nat → D) (nb la : Nat → Bool) (b : Bool) (h : D) (n1 : 1 ≤ n) (hn : n ≤ 6) (ht : ∀ i, i < n → Thg k (f i) (nb i) (la i)) (i : Nat) (e : fbad n f nb la true = some i) :
    F_power_table [fig k, sqD b (gen n f)] h = .exc "BadPoints" [("index", .int i)] h := by
  have ck := E_check k n f nb la true b h (by omega) ht
  rw [e] at ck
  simp only at ck
  have c1 : (1 : Int) ≤ n := by omega
  have c2 : (n : Int) ≤ 6 := by omega
  unfold F_power_table F_is_sequence
  unfold sqD at ck ⊢
  cases b
  · simp only [if_false, Bool.false_eq_true] at ck
    push_cast [isa_ni, isa_nb, isa_ns, isa_nt, isa_nl, isa_bi, isa_bb, isa_bs, isa_bt, isa_bl, isa_ii, isa_ib, isa_is, isa_it, isa_il, isa_si, isa_sb, isa_ss, isa_st, isa_sl, isa_ti, isa_tb, isa_ts, isa_tt, isa_tl, isa_li, isa_lb, isa_ls, isa_lt, isa_ll, fig_vm, c1, c2, ck]
  · simp only [if_true] at ck
    push_cast [isa_ni, isa_nb, isa_ns, isa_nt, isa_nl, isa_bi, isa_bb, isa_bs, isa_bt, isa_bl, isa_ii, isa_ib, isa_is, isa_it, isa_il, isa_si, isa_sb, isa_ss, isa_st, isa_sl, isa_ti, isa_tb, isa_ts, isa_tt, isa_tl, isa_li, isa_lb, isa_ls, isa_lt, isa_ll, fig_vm, c1, c2, ck]
theorem E_table_len (k : Fg) (n : Nat) (f : Nat → D) (b : Bool) (h : D) (hn : n < 1 ∨ 6 < n) : F_power_table [fig k, sqD b (gen n f)] h = .exc "BadPoints" [("index", .int 0)] h := by
  unfold F_power_table F_is_sequence sqD
  by_cases c1 : (1 : Int) ≤ n
  · have c2 : ¬ (n : Int) ≤ 6 := by omega
    cases b
    · push_cast [isa_ni, isa_nb, isa_ns, isa_nt, isa_nl, isa_bi, isa_bb, isa_bs, isa_bt, isa_bl, isa_ii, isa_ib, isa_is, isa_it, isa_il, isa_si, isa_sb, isa_ss, isa_st, isa_sl, isa_ti, isa_tb, isa_ts, isa_tt, isa_tl, isa_li, isa_lb, isa_ls, isa_lt, isa_ll, fig_vm, c1, c2, flD1]
    · push_cast [isa_ni, isa_nb, isa_ns, isa_nt, isa_nl, isa_bi, isa_bb, isa_bs, isa_bt, isa_bl, isa_ii, isa_ib, isa_is, isa_it, isa_il, isa_si, isa_sb, isa_ss, isa_st, isa_sl, isa_ti, isa_tb, isa_ts, isa_tt, isa_tl, isa_li, isa_lb, isa_ls, isa_lt, isa_ll, fig_vm, c1, c2, flD1]
  · cases b
    · push_cast [isa_ni, isa_nb, isa_ns, isa_nt, isa_nl, isa_bi, isa_bb, isa_bs, isa_bt, isa_bl, isa_ii, isa_ib, isa_is, isa_it, isa_il, isa_si, isa_sb, isa_ss, isa_st, isa_sl, isa_ti, isa_tb, isa_ts, isa_tt, isa_tl, isa_li, isa_lb, isa_ls, isa_lt, isa_ll, fig_vm, c1, flD1]
    · push_cast [isa_ni, isa_nb, isa_ns, isa_nt, isa_nl, isa_bi, isa_bb, isa_bs, isa_bt, isa_bl, isa_ii, isa_ib, isa_is, isa_it, isa_il, isa_si, isa_sb, isa_ss, isa_st, isa_sl, isa_ti, isa_tb, isa_ts, isa_tt, isa_tl, isa_li, isa_lb, isa_ls, isa_lt, isa_ll, fig_vm, c1, flD1]
theorem E_table_no (k : Fg) (d h : D) (hd : NotSeq d) : F_power_table [fig k, d] h = .exc "BadPoints" [("index", .int 0)] h := by
  obtain ⟨fr, h1, h2⟩ := hd
  have v : ∀ h, vD (some (some d)) h = .ok d h := fun h => vD_fr fr
  have vm : ∀ h, vmD (some (some d)) h = .ok d h := fun h => vmD_fr fr
  unfold F_power_table F_is_sequence
  have q := is2_of h1 h2
  push_cast [fig_vm, v, vm, ↓is2_a, q, flD1]
theorem sumN_lin : ∀ n, n ≤ 6 → sumN n (fun j => 1 + j * 1) ≤ 21 ∧ sumN n (fun j => 1 + j * 2) ≤ 36 := by decide +kernel
theorem sumN_mono {f g : Nat → Nat} : ∀ {n : Nat}, (∀ i, i < n → f i ≤ g i) → sumN n f ≤ sumN n g
  | 0, _ => Nat.le_refl _
  | n + 1, k => by
    have h1 := sumN_mono (n := n) fun i hi => k i (by omega)
    have h2 := k n (by omega)
    show sumN n f + f n ≤ sumN n g + g n
    omega
theorem Bd64 : ∀ n, n ≤ 6 → Bd 64 n ≤ 4499 := by decide +kernel
theorem E_undone_good (k : Fg) (n : Nat) (o : Nat → Option k.K) (b : Bool) (h : D) (n1 : 1 ≤ n) (hn : n ≤ 6) (hd : ∀ i j, i < n → j < n → o i = o j → i = j) (hs : ∀ i, i < n → Sml k (o i)) :
    F_undone_powers [fig k, sqD b (gen n fun i => ptD k (o i))] h = .ok (etab k n n fun i j => lone o n j i) h := by
  have e1 := E_table_good k n o b h n1 hn hd hs
  have a1 := lone_one (o := o) hd
  have a2 := undone_both (A := fun i => ptG n (o i)) (X := fun i j => lone o n j i) a1
  have e2 := E_undone k n 64 (fun i => ptG n (o i)) (fun i j => lone o n j i) h n1 (by omega) (fun i hi => by
    cases e : o i with
    | none => exact ⟨1, n, by omega, fun j hj => ht_del k _ _, Nat.le_trans (sumN_le (b := 1) fun j hj => hd_del k _ _) (by omega), by omega⟩
    | some x =>
      rcases hs i hi x e with ⟨h1, h2⟩ | ⟨h1, h2⟩
      · refine ⟨36, 21, by omega, fun j hj => ?_, ?_, by omega⟩
        · show ht k (pw x j) ≤ 36
          have := ht_pw k x j
          have h2 : j * ht k x ≤ 5 * 7 := Nat.mul_le_mul (by omega) h1
          omega
        · refine Nat.le_trans (sumN_mono (g := fun j => 1 + j * 1) fun j hj => ?_) (sumN_lin n hn).1
          show Lw.hd k (pw x j) ≤ _
          have := hd_pw k x j
          have h3 : j * Lw.hd k x ≤ j * 1 := Nat.mul_le_mul_left _ h2
          omega
      · refine ⟨11, 36, by omega, fun j hj => ?_, ?_, by omega⟩
        · show ht k (pw x j) ≤ 11
          have := ht_pw k x j
          have h2 : j * ht k x ≤ 5 * 2 := Nat.mul_le_mul (by omega) h1
          omega
        · refine Nat.le_trans (sumN_mono (g := fun j => 1 + j * 2) fun j hj => ?_) (sumN_lin n hn).2
          show Lw.hd k (pw x j) ≤ _
          have := hd_pw k x j
          have h3 : j * Lw.hd k x ≤ j * 2 := Nat.mul_le_mul_left _ h2
          omega) (by omega) (Bd64 n hn) a1 a2
  unfold F_undone_powers
  unfold sqD at e1 ⊢
  cases b
  · simp only [if_false, Bool.false_eq_true] at e1
    push_cast [isa_ni, isa_nb, isa_ns, isa_nt, isa_nl, isa_bi, isa_bb, isa_bs, isa_bt, isa_bl, isa_ii, isa_ib, isa_is, isa_it, isa_il, isa_si, isa_sb, isa_ss, isa_st, isa_sl, isa_ti, isa_tb, isa_ts, isa_tt, isa_tl, isa_li, isa_lb, isa_ls, isa_lt, isa_ll, fig_vm, etab_vm, e1, e2]
  · simp only [if_true] at e1
    push_cast [isa_ni, isa_nb, isa_ns, isa_nt, isa_nl, isa_bi, isa_bb, isa_bs, isa_bt, isa_bl, isa_ii, isa_ib, isa_is, isa_it, isa_il, isa_si, isa_sb, isa_ss, isa_st, isa_sl, isa_ti, isa_tb, isa_ts, isa_tt, isa_tl, isa_li, isa_lb, isa_ls, isa_lt, isa_ll, fig_vm, etab_vm, e1, e2]
theorem E_undone_exc (k : Fg) (d h : D) (fs : List (Str × D)) (fr : d.fr = true) (e : F_power_table [fig k, d] h = .exc "BadPoints" fs h) : F_undone_powers [fig k, d] h = .exc "BadPoints" fs h := by
  have vm : ∀ h, vmD (some (some d)) h = .ok d h := fun h => vmD_fr fr
  unfold F_undone_powers
  push_cast [fig_vm, vm, e]
end Lw
set_option exponentiation.threshold 20000
namespace Lw
open PySem PySem.Spec L2 Fw Pd Dz
theorem ms_bp : msOf [("DividedByNought", false), ("BadFigures", false), ("NotOnce", false), ("BadPoints", true), ("BadMany", false)] "BadPoints" = some true := by decide +kernel
theorem ms_bm : msOf [("DividedByNought", false), ("BadFigures", false), ("NotOnce", false), ("BadPoints", true), ("BadMany", false)] "BadMany" = some false := by decide +kernel
theorem ms_mm : msOf [("DividedByNought", false), ("BadFigures", false), ("NotOnce", false), ("BadPoints", false), ("BadMany", true)] "BadMany" = some true := by decide +kernel
theorem ms_pp : msOf [("DividedByNought", true), ("BadFigures", true), ("NotOnce", true), ("BadPoints", true), ("BadMany", true)] "BadPoints" = some true := by decide +kernel
theorem ms_pm : msOf [("DividedByNought", true), ("BadFigures", true), ("NotOnce", true), ("BadPoints", true), ("BadMany", true)] "BadMany" = some true := by decide +kernel
theorem ct_p : (["BadPoints"] : List Str).contains "BadPoints" = true := by decide +kernel
theorem ct_m : (["BadMany"] : List Str).contains "BadMany" = true := by decide +kernel
theorem hd_hit {ms : Str → Option Bool} {i : Nat} {u : SF} {r : List Cz} {n : Str} {fs : List (Str × D)} {δ : DE} {h : D} (e : ms n = some true) (hi : i < δ.length) : hdGo (⟨ms, some i, u⟩ :: r) n fs δ h = dropFl (some i) (u (δ.set i (some (.ex n fs))) h) := by
  unfold hdGo
  simp only [e, Cz.here, decide_eq_true hi, if_true, exIn]
theorem hd_miss {ms : Str → Option Bool} {i : Option Nat} {u : SF} {r : List Cz} {n : Str} {fs : List (Str × D)} {δ : DE} {h : D} (e : ms n = some false) : hdGo (⟨ms, i, u⟩ :: r) n fs δ h = hdGo r n fs δ h := by
  rw [hdGo]
  simp only [e]
theorem drop_nx {i : Nat} {δ : DE} {h : D} : dropFl (some i) (.nx δ h) = .nx ((δ.map dropX).set i none) h := rfl
theorem drop_ret {i : Nat} {d h : D} : dropFl (some i) (.ret d h) = .ret d h := rfl
theorem dx_n : dropX none = none := rfl
theorem dx_fr {d : D} (fr : d.fr = true) : dropX (some d) = some d := by cases d <;> first | rfl | cases fr
theorem dx_fig {k : Fg} : dropX (some (fig k)) = some (fig k) := rfl
theorem dx_hl {ds : List D} : dropX (some (.hl ds)) = some (.hl ds) := rfl
theorem dx_ex {n : Str} {fs : List (Str × D)} : dropX (some (.ex n fs)) = none := rfl
theorem frzL_2 {a b : D} (ha : a.fr = true) (hb : b.fr = true) : frzL [a, b] = [a, b] := by
  have one : ∀ d : D, d.fr = true → frz d = d := fun d e => by cases d <;> first | rfl | cases e
  unfold frzL
  rw [one a ha]
  unfold frzL
  rw [one b hb]
  rfl
def badT (i : Nat) : D := .tup [.str "bad", .int i, .bl true]
theorem E_two_good (k : Fg) (n : Nat) (o : Nat → Option k.K) (b : Bool) (h : D) (n1 : 1 ≤ n) (hn : n ≤ 6) (hd : ∀ i j, i < n → j < n → o i = o j → i = j) (hs : ∀ i, i < n → Sml k (o i)) :
    F__law_two_tables [fig k, sqD b (gen n fun i => ptD k (o i))] h = .ok (.lst [etab k n n fun i => ptG n (o i), etab k n n fun i j => lone o n j i]) h := by
  have e1 := E_table_good k n o b h n1 hn hd hs
  have e2 := E_undone_good k n o b h n1 hn hd hs
  have vm : ∀ h, vmD (some (some (sqD b (gen n fun i => ptD k (o i))))) h = .ok (sqD b (gen n fun i => ptD k (o i))) h := fun h => vmD_fr (by unfold sqD; cases b <;> rfl)
  have f1 : (etab k n n fun i => ptG n (o i)).fr = true := rfl
  have f2 : (etab k n n fun i j => lone o n j i).fr = true := rfl
  unfold F__law_two_tables
  push_cast [fig_vm, vm, e1, e2, f1, f2, frzL_2 f1 f2]
theorem E_two_exc (k : Fg) (d h : D) (i : Nat) (fr : d.fr = true) (e : F_power_table [fig k, d] h = .exc "BadPoints" [("index", .int i)] h) :
    F__law_two_tables [fig k, d] h = .ok (.lst [badT i, badT i]) h := by
  have e2 := E_undone_exc k d h _ fr e
  have vm : ∀ h, vmD (some (some d)) h = .ok d h := fun h => vmD_fr fr
  unfold badT
  unfold F__law_two_tables
  push_cast [fig_vm, vm, e, e2, hd_hit ms_bp, drop_nx, dx_fr fr, dx_fig, dx_hl, dx_ex, dx_n, ct_p]
  rfl
theorem E_checking_exc (k : Fg) (d h : D) (m : Int) (lets : Bool) (i : Nat) (fr : d.fr = true) (e : F_check_points [fig k, d, .int m, .bl lets] h = .exc "BadPoints" [("index", .int i)] h) :
    F__law_checking [fig k, d, .int m, .bl lets] h = .ok (badT i) h := by
  have vm : ∀ h, vmD (some (some d)) h = .ok d h := fun h => vmD_fr fr
  unfold badT
  unfold F__law_checking
  cases lets
  · push_cast [fig_vm, vm, e, hd_hit ms_bp, drop_ret, ct_p, ms_pp]
  · push_cast [fig_vm, vm, e, hd_hit ms_bp, drop_ret, ct_p, ms_pp]
theorem E_checking_ok (k : Fg) (d h x : D) (m : Int) (lets : Bool) (fr : d.fr = true) (e : F_check_points [fig k, d, .int m, .bl lets] h = .ok x h) :
    F__law_checking [fig k, d, .int m, .bl lets] h = .ok x h := by
  have vm : ∀ h, vmD (some (some d)) h = .ok d h := fun h => vmD_fr fr
  unfold F__law_checking
  cases lets
  · push_cast [fig_vm, vm, e]
  · push_cast [fig_vm, vm, e]
def mostN (k : Fg) : Nat := match k with
  | .q => 6
  | .m n _ => min 6 (n + 3)
def manyT (i : Nat) : D := .tup [.str "many", .int i, .bl true]
theorem most_q : mostN .q = 6 := rfl
theorem most_m {n : Nat} {hn} : mostN (.m n hn) = min 6 (n + 3) := rfl
theorem most_le (k : Fg) : mostN k ≤ 6 := by cases k with
  | q => exact Nat.le_refl _
  | m n hn => exact Nat.min_le_left _ _
theorem most_ge (k : Fg) : 3 ≤ mostN k := by cases k with
  | q => decide
  | m n hn => rw [most_m]; omega
/-- what is whole and in 0 .. m -/
def WhNo (d : D) (lo hi : Int) : Prop := d.fr = true ∧ ∀ h, F_is_whole [d, .int lo, .int hi] h = .ok (.bl false) h
theorem E_many_bad (k : Fg) (d h : D) (hd : WhNo d 0 (mostN k)) : F_points_for [fig k, d] h = .exc "BadMany" [("most", .int (mostN k))] h := by
  obtain ⟨fr, e⟩ := hd
  have vm : ∀ h, vmD (some (some d)) h = .ok d h := fun h => vmD_fr fr
  have e := e h
  cases k with
  | q =>
    have e : F_is_whole [d, .int 0, .int 6] h = .ok (.bl false) h := e
    rw [most_q]
    unfold F_points_for
    push_cast [fig_vm, fig_p, pq, vm, e, flD1]
  | m n hn =>
    have p0 : ¬ (Fg.m n hn).p = 0 := by rw [pm]; omega
    have em : Fw.kMin2 [.int 6, .int ((Fg.m n hn).p + 1)] = some (.int (mostN (.m n hn) : Nat)) := by
      show some (D.int (if (Fg.m n hn).p + 1 < 6 then (Fg.m n hn).p + 1 else 6)) = _
      rw [most_m, pm]
      congr 2
      split <;> omega
    unfold F_points_for
    push_cast [fig_vm, fig_p, p0, vm, em, e, flD1]
theorem E_count_bad (k : Fg) (d h : D) (hd : WhNo d 0 (mostN k)) : F__law_count [fig k, d] h = .ok (manyT (mostN k)) h := by
  have e := E_many_bad k d h hd
  have vm : ∀ h, vmD (some (some d)) h = .ok d h := fun h => vmD_fr hd.1
  unfold manyT
  unfold F__law_count
  push_cast [fig_vm, vm, e, hd_hit ms_mm, drop_ret, ct_m, ms_pm]
/-- the first points -/
def fpt (k : Fg) (j : Nat) : Option k.K := match k with
  | .q => some (ic .q j)
  | .m n hn => if j < n + 2 then some (ic (.m n hn) j) else none
theorem fpt_m {n : Nat} {hn} {j : Nat} : fpt (.m n hn) j = if j < n + 2 then some (ic (.m n hn) j) else none := rfl
theorem E_first_points (k : Fg) (m : Nat) (h : D) (hm : m ≤ 900) : F__law_first_points [.int k.p, .int m] h = .ok (.lst (gen m fun j => ptD k (fpt k j))) h := by
  cases k with
  | q =>
    have e : ∀ (j : Nat) h, F__law_num [.int 0, .int (j : Int)] h = .ok (ptD .q (fpt .q j)) h := fun j h => E_num .q j h
    rw [pq]
    unfold F__law_first_points
    push_cast [e]
  | m n hn =>
    have p0 : ¬ (Fg.m n hn).p = 0 := by rw [pm]; omega
    have e : ∀ (j : Nat) h, (if (j : Int) < (Fg.m n hn).p then F__law_num [.int (Fg.m n hn).p, .int (j : Int)] h else .ok (.str "last") h) = .ok (ptD (.m n hn) (fpt (.m n hn) j)) h := fun j h => by
      rw [fpt_m]
      by_cases c : j < n + 2
      · rw [if_pos (by rw [pm]; omega), if_pos c]
        exact E_num (.m n hn) j h
      · rw [if_neg (by rw [pm]; omega), if_neg c]
        rfl
    have e2 : ∀ (j : Nat) h, (match decide ((j : Int) < (Fg.m n hn).p) with | true => F__law_num [.int (Fg.m n hn).p, .int (j : Int)] h | false => .ok (.str "last") h) = .ok (ptD (.m n hn) (fpt (.m n hn) j)) h := fun j h => by
      rw [← e j h]
      by_cases c : (j : Int) < (Fg.m n hn).p
      · rw [if_pos c, decide_eq_true c]
      · rw [if_neg c, decide_eq_false c]
    generalize (Fg.m n hn).p = p at *
    unfold F__law_first_points
    push_cast [p0, e]
end Lw
set_option exponentiation.threshold 20000
namespace Lw
open PySem PySem.Spec L2 Fw Pd Dz
theorem E_whole_q (i : Int) (h : D) : F_Figures_whole_number [fig .q, .int i] h = .ok (enc .q (ic .q i)) h := by
  have e := E_num .q i h
  rw [pq] at e
  rw [← e]
  unfold F_Figures_whole_number F__law_num
  push_cast [fig_p, pq]
theorem E_all (n : Nat) (hn) (h : D) : F_Figures_all_numbers [fig (.m n hn)] h = .ok (.tup (gen (n + 2) fun j => .int (j : Int))) h := by
  obtain ⟨p, ep⟩ : ∃ p, p = (Fg.m n hn).p := ⟨_, rfl⟩
  have hp : p.toNat = n + 2 := by rw [ep, pm]; omega
  have h1 : p ≤ 13 := by rw [ep, pm]; omega
  have h2 : 2 ≤ p := by rw [ep, pm]; omega
  unfold F_Figures_all_numbers
  push_cast [fig_p, ← ep, hp]
theorem E_points_for (k : Fg) (m : Nat) (h : D) (hm : m ≤ mostN k) : F_points_for [fig k, .int m] h = .ok (.tup (gen m fun j => ptD k (fpt k j))) h := by
  have w := wh_ii (m : Int) 0 (mostN k : Nat) h
  rw [decide_eq_true (show (0 : Int) ≤ m by omega), decide_eq_true (show (m : Int) ≤ (mostN k : Nat) by omega)] at w
  have ml := most_le k
  cases k with
  | q =>
    have w : F_is_whole [.int (m : Int), .int 0, .int 6] h = .ok (.bl true) h := w
    have e : ∀ (j : Nat) h, F_Figures_whole_number [fig .q, .int (j : Int)] h = .ok (ptD .q (fpt .q j)) h := fun j h => E_whole_q j h
    unfold F_points_for
    push_cast [fig_vd, fig_p, pq, w, eMeth_f, md_whole_number, e]
  | m n hn =>
    have p0 : ¬ (Fg.m n hn).p = 0 := by rw [pm]; omega
    have em : Fw.kMin2 [.int 6, .int ((Fg.m n hn).p + 1)] = some (.int (mostN (.m n hn) : Nat)) := by
      show some (D.int (if (Fg.m n hn).p + 1 < 6 then (Fg.m n hn).p + 1 else 6)) = _
      rw [most_m, pm]
      congr 2
      split <;> omega
    have ea := E_all n hn h
    have mm := most_m (n := n) (hn := hn)
    have ap : (gen (n + 2) fun j => D.int (j : Int)) ++ [D.str "last"] = gen (n + 3) fun j => ptD (.m n hn) (fpt (.m n hn) j) := by
      rw [show n + 3 = n + 2 + 1 from rfl, gen_last (n := n + 2) (f := fun j => ptD (.m n hn) (fpt (.m n hn) j))]
      simp only [fpt_m (j := n + 2), if_neg (show ¬ n + 2 < n + 2 by omega)]
      show _ = _ ++ [D.str "last"]
      congr 1
      refine gen_congr fun j hj => ?_
      rw [fpt_m, if_pos hj]
      show _ = D.int ((ic (.m n hn) j).val : Int)
      rw [ic_of (by omega) (by omega)]
    have mn : min m (n + 3) = m := by omega
    have mn2 : min m (n + 2 + 1) = m := by omega
    unfold F_points_for
    push_cast [fig_vd, fig_vm, fig_p, p0, em, w, eMeth_f, md_all_numbers, ea, ap, mn, mn2]
theorem E_count_ok (k : Fg) (m : Nat) (h : D) (hm : m ≤ mostN k) : F__law_count [fig k, .int m] h = .ok (.tup (gen m fun j => ptD k (fpt k j))) h := by
  have e := E_points_for k m h hm
  unfold F__law_count
  push_cast [fig_vm, e]
theorem E_row_bad (k : Fg) (d s h : D) (t : Thg k d false false) (sf : s.fr = true) : F__law_one_row [fig k, d, s] h = .ok (badT 0) h := by
  have vm : ∀ h, vmD (some (some d)) h = .ok d h := fun h => vmD_fr t.fr
  have vs : ∀ h, vmD (some (some s)) h = .ok s h := fun h => vmD_fr sf
  have e1 := E_is_point k d h false false t
  have e : F_power_row [fig k, d, s] h = .exc "BadPoints" [("index", .int 0)] h := by
    unfold F_power_row
    push_cast [fig_vm, vm, e1, flD1]
  unfold badT
  unfold F__law_one_row
  push_cast [fig_vm, vm, vs, e, hd_hit ms_bp, drop_ret, ct_p]
theorem E_row_many (k : Fg) (o : Option k.K) (s h : D) (ho : Sml k o) (hs : WhNo s 1 6) : F__law_one_row [fig k, ptD k o, s] h = .ok (manyT 6) h := by
  have t := th_thg (t := Th.pt o) ho
  have vs : ∀ h, vmD (some (some s)) h = .ok s h := fun h => vmD_fr hs.1
  have e1 := E_is_point k _ h _ _ t
  have nl : ((Th.pt o).nb || (Th.pt o).la) = true := by cases o <;> rfl
  rw [nl] at e1
  have e2 := hs.2 h
  have e1 : F_is_point [fig k, ptD k o] h = .ok (.bl true) h := e1
  have e : F_power_row [fig k, ptD k o, s] h = .exc "BadMany" [("most", .int 6)] h := by
    unfold F_power_row
    push_cast [fig_vm, pt_vm, vs, e1, e2, flD1]
  unfold manyT
  unfold F__law_one_row
  push_cast [fig_vm, pt_vm, vs, e, hd_miss ms_bm, hd_hit ms_mm, drop_ret, ct_m]
theorem E_row_good (k : Fg) (o : Option k.K) (s : Nat) (h : D) (ho : Sml k o) (s1 : 1 ≤ s) (s6 : s ≤ 6) : F__law_one_row [fig k, ptD k o, .int s] h = .ok (erow k s (ptG s o)) h := by
  have t := th_thg (t := Th.pt o) ho
  have e1 := E_is_point k _ h _ _ t
  have nl : ((Th.pt o).nb || (Th.pt o).la) = true := by cases o <;> rfl
  rw [nl] at e1
  have e1 : F_is_point [fig k, ptD k o] h = .ok (.bl true) h := e1
  have e2 := wh_ii (s : Int) 1 6 h
  rw [decide_eq_true (show (1 : Int) ≤ s by omega), decide_eq_true (show (s : Int) ≤ 6 by omega)] at e2
  have ep := E_powers_at k o s h s1 (by omega) fun x e => pw_small s6 (ho.ht x e)
  rw [ptRow_G] at ep
  have e : F_power_row [fig k, ptD k o, .int s] h = .ok (erow k s (ptG s o)) h := by
    unfold F_power_row
    push_cast [fig_vm, pt_vm, e1, e2, ep]
  unfold F__law_one_row
  push_cast [fig_vm, pt_vm, e]
theorem wn_bl (b : Bool) (l u : Int) : WhNo (.bl b) l u := ⟨rfl, fun h => wh_bl b _ _ h⟩
theorem wn_non (l u : Int) : WhNo .non l u := ⟨rfl, fun h => wh_non _ _ h⟩
theorem wn_str (s : Str) (l u : Int) : WhNo (.str s) l u := ⟨rfl, fun h => wh_str s _ _ h⟩
theorem wn_tup (ds : List D) (l u : Int) : WhNo (.tup ds) l u := ⟨rfl, fun h => wh_tup ds _ _ h⟩
theorem wn_int (i l u : Int) (hi : i < l ∨ u < i) : WhNo (.int i) l u := ⟨rfl, fun h => by
  rw [wh_ii]
  rcases hi with z | z
  · rw [decide_eq_false (show ¬ l ≤ i by omega)]; rfl
  · rw [decide_eq_false (show ¬ i ≤ u by omega), Bool.and_false]⟩
end Lw
set_option exponentiation.threshold 20000
namespace Lw
open PySem PySem.Spec L2 Fw Pd Dz
theorem for_inv' {bind : D → DE → Option DE} {body : SF} (I : Nat → DE → D → Prop) {d : Nat → D} : ∀ (n s : Nat) (δ : DE) (h : D), (∀ i, s ≤ i → i < s + n → ∀ δ h, I i δ h → ∃ δ1, bind (d i) δ = some δ1 ∧ ∃ δ2 h2, body δ1 h = .nx δ2 h2 ∧ I (i + 1) δ2 h2) → I s δ h → ∃ δ' h', forGo bind body (gen n fun i => d (s + i)) δ h = .nx δ' h' ∧ I (s + n) δ' h'
  | 0, s, δ, h, _, i0 => ⟨δ, h, rfl, i0⟩
  | n + 1, s, δ, h, st, i0 => by
    obtain ⟨δ1, e1, δ2, h2, e2, i1⟩ := st s (Nat.le_refl _) (by omega) δ h i0
    obtain ⟨δ', h', e3, i2⟩ := for_inv' (bind := bind) (body := body) I (d := d) n (s + 1) δ2 h2 (fun i h1 h2 => st i (by omega) (by omega)) i1
    refine ⟨δ', h', ?_, by rw [show s + (n + 1) = s + 1 + n by omega]; exact i2⟩
    have eg : (gen n fun i => d (s + (i + 1))) = gen n fun i => d (s + 1 + i) := gen_congr fun i _ => by rw [show s + (i + 1) = s + 1 + i by omega]
    rw [gen_succ, eg, forGo, Nat.add_zero]
    simp only [e1, e2, e3]
theorem for_draw {bind : D → DE → Option DE} {body : SF} (I : Nat → DE → D → Prop) {d : Nat → D} {n : Nat} {δ : DE} {h : D} (st : ∀ i, i < n → ∀ δ h, I i δ h → ∃ δ1, bind (d i) δ = some δ1 ∧ ∃ δ2 h2, body δ1 h = .nx δ2 h2 ∧ I (i + 1) δ2 h2) (i0 : I 0 δ h) : ∃ δ' h', forGo bind body (gen n d) δ h = .nx δ' h' ∧ I n δ' h' := by
  have := for_inv' (bind := bind) (body := body) I (d := d) n 0 δ h (fun i _ h2 => st i (by omega)) i0
  simp only [Nat.zero_add] at this
  exact this
theorem E_figures (h : D) (hh : HandI h) : ∃ (k : Fg) (h' : D), F__law_figures [.me] h = .ok (.int k.p) h' ∧ HandI h' := by
  obtain ⟨r, h', e, r0, r1, hi⟩ := E_take 12 h hh (by decide) (by decide)
  have key : ∃ k : Fg, atI [D.int 0, .int 5, .int 3, .int 7, .int 0, .int 5, .int 2, .int 13, .int 5, .int 3, .int 0, .int 11] r = some (.int k.p) := by
    have : r = 0 ∨ r = 1 ∨ r = 2 ∨ r = 3 ∨ r = 4 ∨ r = 5 ∨ r = 6 ∨ r = 7 ∨ r = 8 ∨ r = 9 ∨ r = 10 ∨ r = 11 := by omega
    rcases this with rfl | rfl | rfl | rfl | rfl | rfl | rfl | rfl | rfl | rfl | rfl | rfl
    · exact ⟨.q, rfl⟩
    · exact ⟨.m 3 (by decide), rfl⟩
    · exact ⟨.m 1 (by decide), rfl⟩
    · exact ⟨.m 5 (by decide), rfl⟩
    · exact ⟨.q, rfl⟩
    · exact ⟨.m 3 (by decide), rfl⟩
    · exact ⟨.m 0 (by decide), rfl⟩
    · exact ⟨.m 11 (by decide), rfl⟩
    · exact ⟨.m 3 (by decide), rfl⟩
    · exact ⟨.m 1 (by decide), rfl⟩
    · exact ⟨.q, rfl⟩
    · exact ⟨.m 9 (by decide), rfl⟩
  obtain ⟨k, ek⟩ := key
  refine ⟨k, h', ?_, hi⟩
  unfold F__law_figures
  push_cast [e, ek]
theorem E_init (k : Fg) : F_Figures___init__ [.me, .int k.p] (.ins "Figures" []) = .ok .non (fig k) := by
  cases k with
  | q => rfl
  | m n hn => rcases hn with rfl | rfl | rfl | rfl | rfl | rfl <;> rfl
theorem E_make (k : Fg) (δ : DE) (h : D) (i : Nat) (hi : δ[i]? = some (some (.int k.p))) : eMake "Figures" 2 F_Figures___init__ [] (eCons (eV i) eNil) δ h = .ok (fig k) h := by
  have e := E_init k
  rw [eMake_a]
  push_cast [hi, e]
  rfl
theorem E_list (ds : List D) (h : D) (hh : HandI h) : ∃ b h', F__law_list [.me, .lst ds] h = .ok (sqD b ds) h' ∧ HandI h' := by
  obtain ⟨r, h1, e1, k0, k1, i1⟩ := E_take 2 h hh (by decide) (by decide)
  by_cases hk : r = 0
  · subst hk
    refine ⟨false, h1, ?_, i1⟩
    unfold sqD
    unfold F__law_list
    push_cast [e1, bne_self_eq_false]
  · refine ⟨true, h1, ?_, i1⟩
    have kb : (r != 0) = true := by simp [hk]
    unfold sqD
    unfold F__law_list
    push_cast [e1, kb]
def odL (k : Fg) : List D := match k with
  | .q => [.bl true, .non, .str "Last", .str "0", .int (-1), .lst [.int 0, .int 1], .int 0, .int 1]
  | .m n hn => [.bl true, .non, .str "Last", .str "0", .int (-1), .tup [.int 0, .int 1], .int (Fg.m n hn).p, .int ((Fg.m n hn).p + 2)]
theorem odL_ok (k : Fg) : ∀ d ∈ odL k, Thg k d false false := by
  have s1 : Thg k (.str "Last") false false := thg_str k "Last" (by decide +kernel) false (by decide +kernel)
  have s2 : Thg k (.str "0") false false := thg_str k "0" (by decide +kernel) false (by decide +kernel)
  intro d hd
  cases k with
  | q =>
    rcases List.mem_cons.mp hd with rfl | hd; exact thg_bl _ _
    rcases List.mem_cons.mp hd with rfl | hd; exact thg_non _
    rcases List.mem_cons.mp hd with rfl | hd; exact s1
    rcases List.mem_cons.mp hd with rfl | hd; exact s2
    rcases List.mem_cons.mp hd with rfl | hd; exact thg_int _ _ (.inl rfl)
    rcases List.mem_cons.mp hd with rfl | hd; exact thg_lst
    rcases List.mem_cons.mp hd with rfl | hd; exact thg_int _ _ (.inl rfl)
    rw [List.mem_singleton.mp hd]; exact thg_int _ _ (.inl rfl)
  | m n hn =>
    rcases List.mem_cons.mp hd with rfl | hd; exact thg_bl _ _
    rcases List.mem_cons.mp hd with rfl | hd; exact thg_non _
    rcases List.mem_cons.mp hd with rfl | hd; exact s1
    rcases List.mem_cons.mp hd with rfl | hd; exact s2
    rcases List.mem_cons.mp hd with rfl | hd; exact thg_int _ _ (.inr (.inl (by omega)))
    rcases List.mem_cons.mp hd with rfl | hd; exact thg_tup
    rcases List.mem_cons.mp hd with rfl | hd; exact thg_int _ _ (.inr (.inr (Int.le_refl _)))
    rw [List.mem_singleton.mp hd]; exact thg_int _ _ (.inr (.inr (by omega)))
theorem odL_len (k : Fg) : (odL k).length = 8 := by cases k <;> rfl
theorem E_no_point (k : Fg) (h : D) (hh : HandI h) : ∃ d h', F__law_no_point [.me, .int k.p] h = .ok d h' ∧ Thg k d false false ∧ HandI h' := by
  obtain ⟨r, h1, e1, r0, r1, i1⟩ := E_take 8 h hh (by decide) (by decide)
  have hl := odL_len k
  have ht : r.toNat < (odL k).length := by omega
  refine ⟨(odL k)[r.toNat], h1, ?_, odL_ok k _ (List.getElem_mem ht), i1⟩
  have ea : atI (odL k) r = some (odL k)[r.toNat] := by
    have := atI_n (List.getElem?_eq_getElem ht)
    rw [Int.toNat_of_nonneg r0] at this
    exact this
  generalize (odL k)[r.toNat] = d at ea ⊢
  cases k with
  | q =>
    have ea : atI [.bl true, .non, .str "Last", .str "0", .int (-1), .lst [.int 0, .int 1], .int 0, .int 1] r = some d := ea
    rw [pq]
    unfold F__law_no_point
    push_cast [e1, ea]
  | m n hn =>
    have p0 : ¬ (Fg.m n hn).p = 0 := by rw [pm]; omega
    have ea : atI [.bl true, .non, .str "Last", .str "0", .int (-1), .tup [.int 0, .int 1], .int (Fg.m n hn).p, .int ((Fg.m n hn).p + 2)] r = some d := ea
    generalize (Fg.m n hn).p = p at *
    unfold F__law_no_point
    push_cast [e1, ea, p0]
end Lw
set_option exponentiation.threshold 20000
namespace Lw
open PySem PySem.Spec L2 Fw Pd Dz
def upd {k : Fg} (t : Nat → Th k) (j : Nat) (u : Th k) : Nat → Th k := fun i => if i = j then u else t i
theorem upd_ok {k : Fg} {t : Nat → Th k} {n j : Nat} {u : Th k} (h : ∀ i, i < n → (t i).ok) (hu : u.ok) : ∀ i, i < n → (upd t j u i).ok := fun i hi => by
  unfold upd
  split
  · exact hu
  · exact h i hi
theorem set_th {k : Fg} {t : Nat → Th k} {n j : Nat} {u : Th k} {d : D} (e : d = u.d) : (gen n fun i => (t i).d).set j d = gen n fun i => (upd t j u i).d := by
  rw [gen_set, e]
  refine gen_congr fun i hi => ?_
  unfold upd
  split <;> rfl
theorem th_fr {k : Fg} {t : Th k} (h : t.ok) : t.d.fr = true := (th_thg h).fr
def spA : SF := (sIf (eT (eOp oLt (eV 4) (eC (.int 2)))) (sSt (pV 3) (eV 5) (eCall 2 F__law_no_point [] (eCons (eVm 0) (eCons (eVm 1) eNil)))) (sIf (eAnd (eT (eOp oEq (eV 4) (eC (.int 2)))) (eT (eOp oGt (eV 5) (eC (.int 0))))) (sSt (pV 3) (eV 5) (ePl (pIx (pV 3) (eCall 2 F__law_take [] (eCons (eVm 0) (eCons (eVm 5) eNil)))))) (sIf (eT (eOp oEq (eV 4) (eC (.int 3)))) (sSt (pV 3) (eV 5) (eC (.str "last"))) sNil)))
def spB : SF := (sIf (eT (eOp oEq (eCall 2 F__law_take [] (eCons (eVm 0) (eCons (eC (.int 4)) eNil))) (eC (.int 0)))) (sSt (pV 3) (eCall 2 F__law_take [] (eCons (eVm 0) (eCons (eLenP (pV 3)) eNil))) (eCall 2 F__law_no_point [] (eCons (eVm 0) (eCons (eVm 1) eNil)))) sNil)
theorem spA_ok (k : Fg) (n : Nat) (t : Nat → Th k) (way : Int) (j : Nat) (q h : D) (hh : HandI h) (hj : j < n) (hn : n ≤ 900) (ht : ∀ i, i < n → (t i).ok) : ∃ (t' : Nat → Th k) (h' : D),
    spA [some .me, some (.int k.p), some q, some (.hl (gen n fun i => (t i).d)), some (.int way), some (.int j)] h = .nx [some .me, some (.int k.p), some q, some (.hl (gen n fun i => (t' i).d)), some (.int way), some (.int j)] h' ∧ (∀ i, i < n → (t' i).ok) ∧ HandI h' := by
  by_cases c1 : way < 2
  · obtain ⟨d, h1, e1, td, i1⟩ := E_no_point k h hh
    have fr := td.fr
    refine ⟨upd t j (.od d), h1, ?_, upd_ok ht td, i1⟩
    have es := set_th (t := t) (n := n) (j := j) (u := .od d) (d := d) rfl
    unfold spA
    push_cast [c1, e1, fr, es]
  · by_cases c2 : way = 2
    · subst c2
      by_cases c3 : (0 : Int) < j
      · obtain ⟨r, h1, e1, r0, r1, i1⟩ := E_take (j : Int) h hh c3 (by omega)
        obtain ⟨s, rfl⟩ : ∃ s : Nat, r = s := ⟨r.toNat, by omega⟩
        have hs : s < n := by omega
        have fr := th_fr (ht s hs)
        refine ⟨upd t j (t s), h1, ?_, upd_ok ht (ht s hs), i1⟩
        have es := set_th (t := t) (n := n) (j := j) (u := t s) rfl
        unfold spA
        push_cast [c1, c3, e1, fr, es, gen_get]
      · refine ⟨t, h, ?_, ht, hh⟩
        have c4 : ¬ (2 : Int) = 3 := by omega
        unfold spA
        push_cast [c1, c3, c4]
    · by_cases c3 : way = 3
      · subst c3
        refine ⟨upd t j (.pt none), h, ?_, upd_ok ht (fun x e => nomatch e), hh⟩
        have es := set_th (t := t) (n := n) (j := j) (u := .pt none) (d := .str "last") rfl
        have fr : (D.str "last").fr = true := rfl
        unfold spA
        push_cast [c1, c2, fr, es]
      · refine ⟨t, h, ?_, ht, hh⟩
        unfold spA
        push_cast [c1, c2, c3]
theorem spB_ok (k : Fg) (n : Nat) (t : Nat → Th k) (x4 x5 q h : D) (hh : HandI h) (n1 : 1 ≤ n) (hn : n ≤ 900) (ht : ∀ i, i < n → (t i).ok) : ∃ (t' : Nat → Th k) (h' : D),
    spB [some .me, some (.int k.p), some q, some (.hl (gen n fun i => (t i).d)), some x4, some x5] h = .nx [some .me, some (.int k.p), some q, some (.hl (gen n fun i => (t' i).d)), some x4, some x5] h' ∧ (∀ i, i < n → (t' i).ok) ∧ HandI h' := by
  obtain ⟨r, h1, e1, r0, r1, i1⟩ := E_take 4 h hh (by decide) (by decide)
  by_cases c : r = 0
  · subst c
    obtain ⟨d, h2, e2, td, i2⟩ := E_no_point k h1 i1
    obtain ⟨s, h3, e3, s0, s1, i3⟩ := E_take (n : Int) h2 i2 (by omega) (by omega)
    obtain ⟨j, rfl⟩ : ∃ j : Nat, s = j := ⟨s.toNat, by omega⟩
    have fr := td.fr
    refine ⟨upd t j (.od d), h3, ?_, upd_ok ht td, i3⟩
    have es := set_th (t := t) (n := n) (j := j) (u := .od d) (d := d) rfl
    unfold spB
    push_cast [e1, e2, e3, fr, es]
  · refine ⟨t, h1, ?_, ht, i1⟩
    unfold spB
    push_cast [e1, c]
theorem frzL_th {k : Fg} {t : Nat → Th k} {n : Nat} (ht : ∀ i, i < n → (t i).ok) : frzL (gen n fun i => (t i).d) = gen n fun i => (t i).d := by
  have : ∀ xs : List D, (∀ d ∈ xs, d.fr = true) → frzL xs = xs := fun xs => by
    induction xs with
    | nil => intro _; rfl
    | cons d ds ih =>
      intro hx
      unfold frzL
      rw [ih fun x hx' => hx x (List.mem_cons_of_mem _ hx')]
      congr 1
      have := hx d List.mem_cons_self
      cases d <;> first | rfl | cases this
  refine this _ fun d hd => ?_
  obtain ⟨i, hi, rfl⟩ := gen_mem.mp hd
  exact th_fr (ht i hi)
theorem E_spoilt (k : Fg) (n : Nat) (t : Nat → Th k) (h : D) (hh : HandI h) (n1 : 1 ≤ n) (hn : n ≤ 900) (ht : ∀ i, i < n → (t i).ok) : ∃ (t' : Nat → Th k) (h' : D),
    F__law_spoilt [.me, .int k.p, .lst (gen n fun i => (t i).d)] h = .ok (.lst (gen n fun i => (t' i).d)) h' ∧ (∀ i, i < n → (t' i).ok) ∧ HandI h' := by
  obtain ⟨way, h1, e1, r0, r1, i1⟩ := E_take 5 h hh (by decide) (by decide)
  obtain ⟨r, h2, e2, r0', r1', i2⟩ := E_take (n : Int) h1 i1 (by omega) (by omega)
  obtain ⟨j, rfl⟩ : ∃ j : Nat, r = j := ⟨r.toNat, by omega⟩
  obtain ⟨t1, h3, e3, ht1, i3⟩ := spA_ok k n t way j (.lst (gen n fun i => (t i).d)) h2 i2 (by omega) hn ht
  obtain ⟨t2, h4, e4, ht2, i4⟩ := spB_ok k n t1 (.int way) (.int j) (.lst (gen n fun i => (t i).d)) h3 i3 n1 hn ht1
  refine ⟨t2, h4, ?_, ht2, i4⟩
  have fz := frzL_th ht2
  show runF 6 (sSeq (sSet 3 (eBi kList (eCons (eV 2) eNil)))
    (sSeq (sSet 4 (eCall 2 F__law_take [] (eCons (eVm 0) (eCons (eC (.int 5)) eNil))))
    (sSeq (sSet 5 (eCall 2 F__law_take [] (eCons (eVm 0) (eCons (eLenP (pV 3)) eNil))))
    (sSeq spA (sSeq spB (sFrz 3 (sRet (eV 3)))))))) _ _ = _
  push_cast [e1, e2, e3, e4, fz]
structure Pool (k : Fg) (N m : Nat) (c : Nat) (q o : Nat → Option k.K) : Prop where
  cm : c + m = N
  qi : ∀ i j, i < c → j < c → q i = q j → i = j
  oi : ∀ i j, i < m → j < m → o i = o j → i = j
  ne : ∀ i j, i < m → j < c → o i ≠ q j
  qs : ∀ i, i < c → Sml k (q i)
  os : ∀ i, i < m → Sml k (o i)
theorem Pool.next {k : Fg} {N m c : Nat} {q o : Nat → Option k.K} (P : Pool k N m c q o) {r : Nat} (hr : r < c) : Pool k N (m + 1) (c - 1) (fun i => if i < r then q i else q (i + 1)) (fun i => if i < m then o i else q r) := by
  obtain ⟨cm, qi, oi, ne, qs, os⟩ := P
  have at_ : ∀ i, i < c - 1 → ∃ i', i' < c ∧ i' ≠ r ∧ (if i < r then q i else q (i + 1)) = q i' ∧ (i' < r → i' = i) ∧ (r < i' → i' = i + 1) := fun i hi => by
    by_cases z : i < r
    · exact ⟨i, by omega, by omega, if_pos z, fun _ => rfl, fun _ => by omega⟩
    · exact ⟨i + 1, by omega, by omega, if_neg z, fun _ => by omega, fun _ => rfl⟩
  refine ⟨by omega, fun i j hi hj e => ?_, fun i j hi hj e => ?_, fun i j hi hj e => ?_, fun i hi => ?_, fun i hi => ?_⟩
  · obtain ⟨i', a1, a2, a3, a4, a5⟩ := at_ i hi
    obtain ⟨j', b1, b2, b3, b4, b5⟩ := at_ j hj
    simp only [a3, b3] at e
    have := qi i' j' a1 b1 e
    omega
  · by_cases z : i < m
    · by_cases y : j < m
      · simp only [if_pos z, if_pos y] at e
        exact oi i j z y e
      · simp only [if_pos z, if_neg y] at e
        exact (ne i r z hr e).elim
    · by_cases y : j < m
      · simp only [if_neg z, if_pos y] at e
        exact (ne j r y hr e.symm).elim
      · omega
  · obtain ⟨j', b1, b2, b3, _⟩ := at_ j hj
    by_cases z : i < m
    · simp only [if_pos z, b3] at e
      exact ne i j' z b1 e
    · simp only [if_neg z, b3] at e
      exact b2 (qi r j' hr b1 e).symm
  · obtain ⟨i', a1, a2, a3, _⟩ := at_ i hi
    show Sml k (if i < r then q i else q (i + 1))
    rw [a3]
    exact qs i' a1
  · show Sml k (if i < m then o i else q r)
    split
    · exact os i (by omega)
    · exact qs r hr
def poBody : SF := (sSeq (sSet 7 (eCall 2 F__law_take [] (eCons (eVm 0) (eCons (eBi kLen (eCons (eV 4) eNil)) eNil))))
    (sSeq (sApp (pV 6) (eOp oIx (eV 4) (eV 7)))
    (sSet 4 (eFz (eOn oPlus (eFz (eSl (eV 4) eNo (eOpt (eV 7)))) (eFz (eSl (eV 4) (eOpt (eOp oAdd (eV 7) (eC (.int 1)))) eNo)))))))
theorem po_step (k : Fg) (N m c : Nat) (q o : Nat → Option k.K) (P : Pool k N m c q o) (hN : N ≤ 900) (c1 : 1 ≤ c) (x2 x3 x5 h : D) (o7 : Option D) (hh : HandI h) : ∃ (c' : Nat) (q' o' : Nat → Option k.K) (o7' : Option D) (h' : D),
    poBody [some .me, some (.int k.p), some x2, some x3, some (.lst (gen c fun i => ptD k (q i))), some x5, some (.hl (gen m fun i => ptD k (o i))), o7] h = .nx [some .me, some (.int k.p), some x2, some x3, some (.lst (gen c' fun i => ptD k (q' i))), some x5, some (.hl (gen (m + 1) fun i => ptD k (o' i))), o7'] h' ∧ Pool k N (m + 1) c' q' o' ∧ HandI h' := by
  obtain ⟨r, h1, e1, r0, r1, i1⟩ := E_take (c : Int) h hh (by omega) (by have := P.cm; omega)
  obtain ⟨r, rfl⟩ : ∃ r' : Nat, r = r' := ⟨r.toNat, by omega⟩
  have hr : r < c := by omega
  have cm := P.cm
  refine ⟨c - 1, _, _, some (.int r), h1, ?_, P.next hr, i1⟩
  have fr := pt_fr (k := k) (o := q r)
  have ea : (gen (m + 1) fun i => ptD k (if i < m then o i else q r)) = (gen m fun i => ptD k (o i)) ++ [ptD k (q r)] := by
    rw [gen_last, if_neg (by omega)]
    congr 1
    exact gen_congr fun i hi => by rw [if_pos hi]
  have ap : (gen r fun i => ptD k (q i)) ++ (gen (c - (r + 1)) fun i => ptD k (q (r + 1 + i))) = gen (c - 1) fun i => ptD k (if i < r then q i else q (i + 1)) := by
    rw [gen_app, show r + (c - (r + 1)) = c - 1 by omega]
    refine gen_congr fun i hi => ?_
    split
    · rfl
    · rw [show r + 1 + (i - r) = i + 1 by omega]
  have mr : min r c = r := by omega
  have er : (r : Int) + 1 = ((r + 1 : Nat) : Int) := by omega
  rw [ea, ← ap]
  unfold poBody
  push_cast [e1, fr, mr, er]
end Lw
set_option exponentiation.threshold 20000
namespace Lw
open PySem PySem.Spec L2 Fw Pd Dz
def rI (i : Int) : Rat := ⟨i, 1, by decide, Nat.coprime_one_right _⟩
def fixL : List Rat := [rI (-3), rI (-2), rI (-1), rI 0, rI 1, rI 2, rI 3, rI 4, ⟨1, 2, by decide, by decide⟩, ⟨-1, 2, by decide, by decide⟩, ⟨3, 2, by decide, by decide⟩, ⟨-2, 3, by decide, by decide⟩]
def qP (u : Int) (i : Nat) : Option Rat := (fixL ++ [rI u])[i]?
theorem fix_len : fixL.length = 12 := rfl
theorem fix_nd : fixL.Nodup := by decide +kernel
theorem fix_num : ∀ x ∈ fixL, x.num ≤ 4 := by decide +kernel
theorem fix_sml : ∀ x ∈ fixL, (hq x ≤ 7 ∧ bt x.den ≤ 1) ∨ (hq x ≤ 2 ∧ bt x.den ≤ 2) := by decide +kernel
theorem rI_sml {u : Int} (h0 : 0 ≤ u) (h1 : u < 128) : hq (rI u) ≤ 7 ∧ bt (rI u).den ≤ 1 := by
  have e1 : bt u.natAbs ≤ 7 := bt_le (by omega)
  have e2 : bt 1 ≤ 1 := by decide
  refine ⟨?_, e2⟩
  show max (bt u.natAbs) (bt 1) ≤ 7
  omega
theorem qP_some {u : Int} {i : Nat} (hi : i < 13) : ∃ x, qP u i = some x ∧ x ∈ fixL ++ [rI u] := by
  have hl : i < (fixL ++ [rI u]).length := by rw [List.length_append, fix_len, List.length_singleton]; omega
  exact ⟨(fixL ++ [rI u])[i], List.getElem?_eq_getElem hl, List.getElem_mem hl⟩
theorem qP_nd {u : Int} (h0 : 5 ≤ u) : (fixL ++ [rI u]).Nodup := by
  rw [List.nodup_append]
  refine ⟨fix_nd, by simp, fun a ha b hb e => ?_⟩
  have := fix_num a ha
  rw [e, List.mem_singleton.mp hb] at this
  have e2 : (rI u).num = u := rfl
  omega
theorem qP_inj {u : Int} (h0 : 5 ≤ u) (i j : Nat) (hi : i < 13) (hj : j < 13) (e : qP u i = qP u j) : i = j := by
  have hl : (fixL ++ [rI u]).length = 13 := by rw [List.length_append, fix_len, List.length_singleton]
  unfold qP at e
  exact (List.getElem?_inj (by omega) (qP_nd h0)).mp e
theorem qP_ptD (r : Int) : (gen 8 fun j => D.tup [.int ((j : Int) - 3), .int 1]) ++ [.tup [.int 1, .int 2], .tup [.int (-1), .int 2], .tup [.int 3, .int 2], .tup [.int (-2), .int 3], .tup [.int (5 + r), .int 1]] = gen 13 fun i => ptD .q (qP (5 + r) i) := by rfl
/-- the pool, "last" at its head -/
def poolQ (k : Fg) (q : Nat → Option k.K) : Nat → Option k.K := fun i => if i = 0 then none else q (i - 1)
theorem pool_cons {k : Fg} {c : Nat} {q : Nat → Option k.K} : D.str "last" :: gen c (fun i => ptD k (q i)) = gen (c + 1) fun i => ptD k (poolQ k q i) := by
  rw [gen_succ]
  rfl
theorem pool_0 {k : Fg} {c : Nat} {q : Nat → Option k.K} (hi : ∀ i j, i < c → j < c → q i = q j → i = j) (hs : ∀ i, i < c → q i ≠ none ∧ Sml k (q i)) : Pool k (c + 1) 0 (c + 1) (poolQ k q) fun _ => none := by
  refine ⟨rfl, fun i j h1 h2 e => ?_, fun i j h => absurd h (Nat.not_lt_zero i), fun i j h => absurd h (Nat.not_lt_zero i), fun i h => ?_, fun i h => absurd h (Nat.not_lt_zero i)⟩
  · unfold poolQ at e
    by_cases z : i = 0
    · by_cases y : j = 0
      · omega
      · rw [if_pos z, if_neg y] at e
        exact ((hs (j - 1) (by omega)).1 e.symm).elim
    · by_cases y : j = 0
      · rw [if_neg z, if_pos y] at e
        exact ((hs (i - 1) (by omega)).1 e).elim
      · rw [if_neg z, if_neg y] at e
        have := hi (i - 1) (j - 1) (by omega) (by omega) e
        omega
  · unfold poolQ
    split
    · exact fun x e => nomatch e
    · exact (hs (i - 1) (by omega)).2
theorem po_loop (k : Fg) (c : Nat) (q : Nat → Option k.K) (many : Nat) (h x3 : D) (o7 : Option D) (hh : HandI h) (hc : c ≤ 800) (hm : many ≤ c + 1) (P : Pool k (c + 1) 0 (c + 1) (poolQ k q) fun _ => none) :
    ∃ (o : Nat → Option k.K) (x4 : D) (o5 o7' : Option D) (h' : D), forGo (bNm 5) poBody (gen many fun j => .int (j : Int)) [some .me, some (.int k.p), some (.int many), some x3, some (.lst (gen (c + 1) fun i => ptD k (poolQ k q i))), none, some (.hl []), o7] h = .nx [some .me, some (.int k.p), some (.int many), some x3, some x4, o5, some (.hl (gen many fun i => ptD k (o i))), o7'] h' ∧ (∀ i j, i < many → j < many → o i = o j → i = j) ∧ (∀ i, i < many → Sml k (o i)) ∧ HandI h' := by
  obtain ⟨δ', h', e, c', q', o', o5', o7', eδ, P', i'⟩ := for_draw (bind := bNm 5) (body := poBody) (d := fun j => .int (j : Int)) (n := many) (h := h) (δ := [some .me, some (.int k.p), some (.int many), some x3, some (.lst (gen (c + 1) fun i => ptD k (poolQ k q i))), none, some (.hl []), o7])
    (fun m δ h => ∃ (c' : Nat) (q' o' : Nat → Option k.K) (o5' o7' : Option D), δ = [some .me, some (.int k.p), some (.int many), some x3, some (.lst (gen c' fun i => ptD k (q' i))), o5', some (.hl (gen m fun i => ptD k (o' i))), o7'] ∧ Pool k (c + 1) m c' q' o' ∧ HandI h) (fun m hm' δ h ⟨c', q', o', o5', o7', eδ, P', i'⟩ => by
      subst eδ
      have cm := P'.cm
      obtain ⟨c2, q2, o2, o72, h2, e2, P2, i2⟩ := po_step k (c + 1) m c' q' o' P' (by omega) (by omega) (.int many) x3 (.int m) h o7' i'
      exact ⟨_, rfl, _, h2, e2, c2, q2, o2, _, o72, rfl, P2, i2⟩) ⟨c + 1, poolQ k q, fun _ => none, none, o7, rfl, P, hh⟩
  subst eδ
  exact ⟨o', _, o5', o7', h', e, P'.oi, P'.os, i'⟩
theorem E_points (k : Fg) (m : Nat) (h : D) (hh : HandI h) (hm : m ≤ mostN k) : ∃ (o : Nat → Option k.K) (h' : D), F__law_points [.me, .int k.p, .int m, .bl true] h = .ok (.lst (gen m fun i => ptD k (o i))) h' ∧ (∀ i j, i < m → j < m → o i = o j → i = j) ∧ (∀ i, i < m → Sml k (o i)) ∧ HandI h' := by
  have ml := most_le k
  have fz : ∀ o : Nat → Option k.K, frzL (gen m fun i => ptD k (o i)) = gen m fun i => ptD k (o i) := fun o => frzL_gen fun i => pt_fr
  cases k with
  | q =>
    obtain ⟨r, h1, e1, r0, r1, i1⟩ := E_take 95 h hh (by decide) (by decide)
    obtain ⟨o, x4, o5, o7, h2, e2, oi, os, i2⟩ := po_loop .q 13 (qP (5 + r)) m h1 (.bl true) none i1 (by omega) (by omega) (pool_0 (fun i j hi hj e => qP_inj (by omega) i j hi hj e) fun i hi => by
      obtain ⟨x, ex, hx⟩ := qP_some (u := 5 + r) hi
      refine ⟨fun z => by rw [ex] at z; exact (nomatch z), fun y ey => ?_⟩
      rw [ex] at ey
      cases ey
      rcases List.mem_append.mp hx with hx | hx
      · exact fix_sml x hx
      · rw [List.mem_singleton.mp hx]
        exact .inl (rI_sml (by omega) (by omega)))
    refine ⟨o, h2, ?_, oi, os, i2⟩
    have fz := fz o
    have ep := qP_ptD r
    have ec := pool_cons (k := .q) (c := 13) (q := qP (5 + r))
    have z : ¬ (0 : Int) < 0 := by omega
    rw [pq] at e2 ⊢
    show runF 8 (sSeq (sIf (eT (eOp oGt (eV 1) (eC (.int 0)))) (sSet 4 (eFz (eRg1 .hl (eV 1)))) (sSet 4 (eFz (eOn oPlus (eFz (eLc [5] (iRg rg1 (eCons (eC (.int 8)) eNil)) (bNm 5) tYesD (eTup (eCons (eOp oSub (eV 5) (eC (.int 3))) (eCons (eC (.int 1)) eNil))))) (eFz (eLst (eCons (eTup (eCons (eC (.int 1)) (eCons (eC (.int 2)) eNil))) (eCons (eTup (eCons (eUn oNeg (eC (.int 1))) (eCons (eC (.int 2)) eNil))) (eCons (eTup (eCons (eC (.int 3)) (eCons (eC (.int 2)) eNil))) (eCons (eTup (eCons (eUn oNeg (eC (.int 2))) (eCons (eC (.int 3)) eNil))) (eCons (eTup (eCons (eOp oAdd (eC (.int 5)) (eCall 2 F__law_take [] (eCons (eVm 0) (eCons (eC (.int 95)) eNil)))) (eCons (eC (.int 1)) eNil))) eNil)))))))))))
      (sSeq (sIf (eTru (eV 3)) (sSet 4 (eFz (eOn oPlus (eFz (eLst (eCons (eC (.str "last")) eNil))) (eV 4)))) sNil)
      (sSeq (sSet 6 (eLst eNil))
      (sSeq (sFor (iRg rg1 (eCons (eV 2) eNil)) (bNm 5) poBody)
      (sFrz 6 (sRet (eV 6))))))) _ _ = _
    push_cast [z, e1, ep, ec, e2, fz]
  | m n hn =>
    have iv : ∀ j, j < n + 2 → ((ic (.m n hn) (j : Int)).val : Int) = j := fun j hj => ic_of (by omega) (by omega)
    obtain ⟨o, x4, o5, o7, h2, e2, oi, os, i2⟩ := po_loop (.m n hn) (n + 2) (fun j => some (ic (.m n hn) j)) m h (.bl true) none hh (by omega) (by rw [most_m] at hm; omega) (pool_0 (fun i j hi hj e => by
      have e3 := congrArg (fun x : Option (Fin (n + 2)) => x.map fun y => (y.val : Int)) e
      have e3 : some ((ic (.m n hn) (i : Int)).val : Int) = some ((ic (.m n hn) (j : Int)).val : Int) := e3
      rw [iv i hi, iv j hj] at e3
      have := Option.some.inj e3
      omega) fun i hi => ⟨fun z => (nomatch z), fun y ey => .inl ⟨Nat.zero_le _, Nat.zero_le _⟩⟩)
    refine ⟨o, h2, ?_, oi, os, i2⟩
    have fz := fz o
    have ep : (gen (n + 2) fun j => D.int (j : Int)) = gen (n + 2) fun j => ptD (.m n hn) (some (ic (.m n hn) j)) := gen_congr fun j hj => by
      show _ = D.int ((ic (.m n hn) (j : Int)).val : Int)
      rw [iv j hj]
    have ec := pool_cons (k := .m n hn) (c := n + 2) (q := fun j => some (ic (.m n hn) j))
    rw [← ep] at ec
    obtain ⟨p, hp⟩ : ∃ p, p = (Fg.m n hn).p := ⟨_, rfl⟩
    have p0 : 0 < p := by rw [hp, pm]; omega
    have p1 : p ≤ 13 := by rw [hp, pm]; omega
    have pt : p.toNat = n + 2 := by rw [hp, pm]; omega
    rw [← hp] at e2 ⊢
    show runF 8 (sSeq (sIf (eT (eOp oGt (eV 1) (eC (.int 0)))) (sSet 4 (eFz (eRg1 .hl (eV 1)))) (sSet 4 (eFz (eOn oPlus (eFz (eLc [5] (iRg rg1 (eCons (eC (.int 8)) eNil)) (bNm 5) tYesD (eTup (eCons (eOp oSub (eV 5) (eC (.int 3))) (eCons (eC (.int 1)) eNil))))) (eFz (eLst (eCons (eTup (eCons (eC (.int 1)) (eCons (eC (.int 2)) eNil))) (eCons (eTup (eCons (eUn oNeg (eC (.int 1))) (eCons (eC (.int 2)) eNil))) (eCons (eTup (eCons (eC (.int 3)) (eCons (eC (.int 2)) eNil))) (eCons (eTup (eCons (eUn oNeg (eC (.int 2))) (eCons (eC (.int 3)) eNil))) (eCons (eTup (eCons (eOp oAdd (eC (.int 5)) (eCall 2 F__law_take [] (eCons (eVm 0) (eCons (eC (.int 95)) eNil)))) (eCons (eC (.int 1)) eNil))) eNil)))))))))))
      (sSeq (sIf (eTru (eV 3)) (sSet 4 (eFz (eOn oPlus (eFz (eLst (eCons (eC (.str "last")) eNil))) (eV 4)))) sNil)
      (sSeq (sSet 6 (eLst eNil))
      (sSeq (sFor (iRg rg1 (eCons (eV 2) eNil)) (bNm 5) poBody)
      (sFrz 6 (sRet (eV 6))))))) _ _ = _
    push_cast [p0, pt, ec, e2, fz]
end Lw
set_option exponentiation.threshold 20000
namespace Lw
open PySem PySem.Spec L2 Fw Pd Dz
theorem eq_self {n : Nat} {d : D} (h : Pl0 n d) (hn : n ≤ 64) : eqD d d = some true := by
  obtain ⟨q, e1, e2, e3⟩ := id h
  rw [eq_pl h h hn]
  unfold eqB eqD
  rw [e1]
  simp only [pl_sh h hn e1, Bool.and_self, if_true, Option.getD_some, SeqAt.eqv_refl q e2]
/-- what the law's own comparison reads -/
def Exd : Nat → D → Prop
  | 0, _ => False
  | n + 1, d => (∃ i, d = .int i) ∨ (∃ s, d = .str s ∧ PyData.strOk s = true) ∨ ∃ ds, d = .tup ds ∧ ds.length ≤ 900 ∧ ∀ x ∈ ds, Exd n x
theorem filter_go {bind : D → DE → Option DE} {test : EF Bool} {elt : EF D} {δ : DE} : ∀ {xs : List D} {h : D}, (∀ x ∈ xs, ∃ δ2, bind x δ = some δ2 ∧ test δ2 h = .ok false h) → lcGo bind test elt δ xs h = .ok [] h
  | [], h, _ => rfl
  | x :: xs, h, k => by
    obtain ⟨δ2, e1, e2⟩ := k x List.mem_cons_self
    have ih := filter_go (bind := bind) (test := test) (elt := elt) (δ := δ) (xs := xs) (h := h) fun y hy => k y (List.mem_cons_of_mem _ hy)
    rw [lcGo]
    simp only [e1, e2, nox_okE, bind_okE, if_neg (show ¬ (false = true) from fun z => nomatch z), ih]
theorem eq_nil : eqD (.lst []) (.lst []) = some true := rfl
theorem str_self {s : Str} (h : PyData.strOk s = true) : eqD (.str s) (.str s) = some true := eq_self (pl_str h) (by omega)
theorem exact_refl : ∀ (n : Nat) (d h : D), Exd n d → F__law_exact n [d, d] h = .ok (.bl true) h
  | 0, d, h, e => e.elim
  | n + 1, d, h, e => by
    rcases e with ⟨i, rfl⟩ | ⟨s, rfl, hs⟩ | ⟨ds, rfl, hl, hs⟩
    · unfold F__law_exact
      push_cast [isa_ni, isa_nb, isa_ns, isa_nt, isa_nl, isa_bi, isa_bb, isa_bs, isa_bt, isa_bl, isa_ii, isa_ib, isa_is, isa_it, isa_il, isa_si, isa_sb, isa_ss, isa_st, isa_sl, isa_ti, isa_tb, isa_ts, isa_tt, isa_tl, isa_li, isa_lb, isa_ls, isa_lt, isa_ll]
    · have e := str_self hs
      unfold F__law_exact
      push_cast [isa_ni, isa_nb, isa_ns, isa_nt, isa_nl, isa_bi, isa_bb, isa_bs, isa_bt, isa_bl, isa_ii, isa_ib, isa_is, isa_it, isa_il, isa_si, isa_sb, isa_ss, isa_st, isa_sl, isa_ti, isa_tb, isa_ts, isa_tt, isa_tl, isa_li, isa_lb, isa_ls, isa_lt, isa_ll, e]
    · have el : lcGo (bNm 2) (eNot (eTru (eCall 2 (F__law_exact n) [] (eCons (eOp oIx (eV 0) (eV 2)) (eCons (eOp oIx (eV 1) (eV 2)) eNil))))) (eV 2) [some (.tup ds), some (.tup ds), none] (gen ds.length fun k => .int (k : Int)) h = .ok [] h := filter_go fun x hx => by
        obtain ⟨i, hi, rfl⟩ := gen_mem.mp hx
        have ei := exact_refl n ds[i] h (hs _ (List.getElem_mem hi))
        have ea := atI_n (xs := ds) (i := i) (List.getElem?_eq_getElem hi)
        refine ⟨_, rfl, ?_⟩
        push_cast [ea, ei]
      unfold F__law_exact
      push_cast [isa_ni, isa_nb, isa_ns, isa_nt, isa_nl, isa_bi, isa_bb, isa_bs, isa_bt, isa_bl, isa_ii, isa_ib, isa_is, isa_it, isa_il, isa_si, isa_sb, isa_ss, isa_st, isa_sl, isa_ti, isa_tb, isa_ts, isa_tt, isa_tl, isa_li, isa_lb, isa_ls, isa_lt, isa_ll, el, eq_nil]
theorem ex_enc (k : Fg) (x : k.K) : Exd 2 (enc k x) := by
  cases k with
  | q =>
    refine .inr (.inr ⟨_, rfl, by simp, fun y hy => ?_⟩)
    rcases List.mem_cons.mp hy with rfl | hy
    · exact .inl ⟨_, rfl⟩
    · rw [List.mem_singleton.mp hy]; exact .inl ⟨_, rfl⟩
  | m n hn => exact .inl ⟨_, rfl⟩
theorem ex_pt (k : Fg) (o : Option k.K) : Exd 2 (ptD k o) := by
  cases o with
  | none => exact .inr (.inl ⟨_, rfl, last_ok⟩)
  | some x => exact ex_enc k x
theorem ex_gen {n c : Nat} {f : Nat → D} (hc : c ≤ 900) (h : ∀ i, i < c → Exd n (f i)) : Exd (n + 1) (.tup (gen c f)) := .inr (.inr ⟨_, rfl, by rw [gen_len]; exact hc, fun x hx => by
  obtain ⟨i, hi, rfl⟩ := gen_mem.mp hx
  exact h i hi⟩)
theorem Exd.up : ∀ {n : Nat} {d : D}, Exd n d → Exd (n + 1) d
  | 0, _, e => e.elim
  | n + 1, _, .inl e => .inl e
  | n + 1, _, .inr (.inl e) => .inr (.inl e)
  | n + 1, _, .inr (.inr ⟨ds, e, l, k⟩) => .inr (.inr ⟨ds, e, l, fun x hx => (k x hx).up⟩)
theorem Exd.le {n m : Nat} {d : D} (h : Exd n d) (k : n ≤ m) : Exd m d := by
  obtain ⟨j, rfl⟩ : ∃ j, m = n + j := ⟨m - n, by omega⟩
  clear k
  induction j with
  | zero => exact h
  | succ j ih => exact ih.up
theorem X_pts (k : Fg) (c : Nat) (o : Nat → Option k.K) (h : D) (hc : c ≤ 900) : F__law_exact 5 [.tup (gen c fun i => ptD k (o i)), .tup (gen c fun i => ptD k (o i))] h = .ok (.bl true) h := exact_refl 5 _ h ((ex_gen hc fun i hi => ex_pt k (o i)).le (by omega))
theorem X_row (k : Fg) (c : Nat) (x : Nat → k.K) (h : D) (hc : c ≤ 900) : F__law_exact 5 [erow k c x, erow k c x] h = .ok (.bl true) h := exact_refl 5 _ h ((ex_gen hc fun i hi => ex_enc k (x i)).le (by omega))
theorem X_tab (k : Fg) (r c : Nat) (x : Nat → Nat → k.K) (h : D) (hr : r ≤ 900) (hc : c ≤ 900) : F__law_exact 5 [etab k r c x, etab k r c x] h = .ok (.bl true) h := exact_refl 5 _ h ((ex_gen hr fun i hi => ex_gen hc fun j hj => ex_enc k (x i j)).le (by omega))
theorem pl_manyT (i : Nat) : Pl0 1 (manyT i) := pl_tup fun d hd => by
  rcases List.mem_cons.mp hd with rfl | hd; exact pl_str (by decide +kernel)
  rcases List.mem_cons.mp hd with rfl | hd; exact pl_int _
  rw [List.mem_singleton.mp hd]; exact pl_bl _
theorem pl_badT (i : Nat) : Pl0 1 (badT i) := pl_tup fun d hd => by
  rcases List.mem_cons.mp hd with rfl | hd; exact pl_str (by decide +kernel)
  rcases List.mem_cons.mp hd with rfl | hd; exact pl_int _
  rw [List.mem_singleton.mp hd]; exact pl_bl _
theorem eq_manyT (i : Nat) : eqD (manyT i) (manyT i) = some true := eq_self (pl_manyT i) (by omega)
theorem eq_badT (i : Nat) : eqD (badT i) (badT i) = some true := eq_self (pl_badT i) (by omega)
theorem eq_badL (i : Nat) : eqD (.lst [badT i, badT i]) (.lst [badT i, badT i]) = some true := eq_self (n := 2) (pl_lst fun d hd => by
  rcases List.mem_cons.mp hd with rfl | hd; exact pl_badT i
  rw [List.mem_singleton.mp hd]; exact pl_badT i) (by omega)
theorem eq_pts (k : Fg) (n : Nat) (o : Nat → Option k.K) : eqD (.lst (gen n fun i => ptD k (o i))) (.lst (gen n fun i => ptD k (o i))) = some true := eq_self (n := 2) (pl_lst fun d hd => by
  obtain ⟨i, hi, rfl⟩ := gen_mem.mp hd
  exact pl_pt k _) (by omega)
def ctBody : SF := (sSeq (sSet 5 (eCall 2 F__law_count [] (eCons (eVm 2) (eCons (eVm 4) eNil))))
    (sIf (eNot (eT (eCh oLe oLe (eC (.int 0)) (eV 4) (eV 3)))) (sIf (eT (eOp oNe (eV 5) (eTup (eCons (eC (.str "many")) (eCons (eV 3) (eCons (eC (.bl true)) eNil)))))) (sRet (eC (.bl false))) sNil) (sIf (eNot (eTru (eCall 2 (F__law_exact 5) [] (eCons (eVm 5) (eCons (eBi kTup (eCons (eCall 2 F__law_first_points [] (eCons (eVm 1) (eCons (eVm 4) eNil))) eNil)) eNil))))) (sRet (eC (.bl false))) sNil)))
theorem ct_step (k : Fg) (i : Nat) (h : D) (o5 : Option D) (hi : i < mostN k + 3) : ∃ o5', ctBody [some .me, some (.int k.p), some (fig k), some (.int (mostN k : Nat)), some (.int (-1 + (i : Int))), o5, none] h = .nx [some .me, some (.int k.p), some (fig k), some (.int (mostN k : Nat)), some (.int (-1 + (i : Int))), o5', none] h := by
  have ml := most_le k
  by_cases c : 1 ≤ i ∧ i ≤ mostN k + 1
  · obtain ⟨j, rfl⟩ : ∃ j, i = j + 1 := ⟨i - 1, by omega⟩
    have ej : (-1 : Int) + ((j + 1 : Nat) : Int) = (j : Int) := by omega
    have e1 := E_count_ok k j h (by omega)
    have e2 := E_first_points k j h (by omega)
    have e3 := X_pts k j (fpt k) h (by omega)
    have c1 : (0 : Int) ≤ j := by omega
    have c2 : (j : Int) ≤ (mostN k : Nat) := by omega
    rw [ej]
    refine ⟨some (.tup (gen j fun i => ptD k (fpt k i))), ?_⟩
    unfold ctBody
    push_cast [fig_vm, e1, e2, e3, c1, c2]
  · have hw : WhNo (.int (-1 + (i : Int))) 0 (mostN k : Nat) := wn_int _ _ _ (by omega)
    have e1 := E_count_bad k _ h hw
    have e2 := eq_manyT (mostN k)
    have vm : ∀ h, vD (some (some (manyT (mostN k)))) h = .ok (manyT (mostN k)) h := fun h => rfl
    refine ⟨some (manyT (mostN k)), ?_⟩
    by_cases z : (0 : Int) ≤ -1 + (i : Int)
    · have y : ¬ (-1 + (i : Int)) ≤ (mostN k : Nat) := by omega
      unfold ctBody
      unfold manyT at e1 e2 vm ⊢
      push_cast [fig_vm, vm, e1, e2, z, y]
    · unfold ctBody
      unfold manyT at e1 e2 vm ⊢
      push_cast [fig_vm, vm, e1, e2, z]
end Lw
set_option exponentiation.threshold 20000
namespace Lw
open PySem PySem.Spec L2 Fw Pd Dz
theorem E_counts (k : Fg) (h : D) (hh : HandI h) : ∃ h', F__law_counts [.me, .int k.p, fig k, .int (mostN k : Nat)] h = .ok (.bl true) h' ∧ HandI h' := by
  have ml := most_le k
  obtain ⟨δ', h', lp, o4, o5, eδ, eh⟩ := for_draw (bind := bNm 4) (body := ctBody) (d := fun i => .int (-1 + (i : Int))) (n := mostN k + 3) (h := h) (δ := [some .me, some (.int k.p), some (fig k), some (.int (mostN k : Nat)), none, none, none])
    (fun m δ h' => ∃ o4 o5, δ = [some .me, some (.int k.p), some (fig k), some (.int (mostN k : Nat)), o4, o5, none] ∧ h' = h) (fun i hi δ h2 ⟨o4, o5, eδ, eh⟩ => by
      subst eδ eh
      obtain ⟨o5', e⟩ := ct_step k i h2 o5 hi
      exact ⟨_, rfl, _, h2, e, _, o5', rfl, rfl⟩) ⟨none, none, rfl, rfl⟩
  subst eδ eh
  obtain ⟨r, h1, e1, r0, r1, i1⟩ := E_take 5 h' hh (by decide) (by decide)
  have en : ((mostN k : Int) + 2 - (-1)).toNat = mostN k + 3 := by omega
  have key : ∃ d, atI [D.bl true, .non, .str "2", .tup [.int 1, .int 1], .int (10 ^ 9)] r = some d ∧ WhNo d 0 (mostN k : Nat) := by
    have : r = 0 ∨ r = 1 ∨ r = 2 ∨ r = 3 ∨ r = 4 := by omega
    rcases this with rfl | rfl | rfl | rfl | rfl
    · exact ⟨_, rfl, wn_bl _ _ _⟩
    · exact ⟨_, rfl, wn_non _ _⟩
    · exact ⟨_, rfl, wn_str _ _ _⟩
    · exact ⟨_, rfl, wn_tup _ _ _⟩
    · exact ⟨_, rfl, wn_int _ _ _ (.inr (by omega))⟩
  obtain ⟨d, ed, wd⟩ := key
  have ec := E_count_bad k d h1 wd
  have ee := eq_manyT (mostN k)
  have vm : ∀ h, vmD (some (some d)) h = .ok d h := fun h => vmD_fr wd.1
  have cp : cPow 10 9 = true := by decide +kernel
  have t9 : (10 : Int) ^ (9 : Int).toNat = 10 ^ 9 := rfl
  refine ⟨h1, ?_, i1⟩
  show runF 7 (sSeq (sFor (iRg rg2 (eCons (eUn oNeg (eC (.int 1))) (eCons (eOp oAdd (eV 3) (eC (.int 2))) eNil))) (bNm 4) ctBody)
    (sSeq (sSet 6 (eOp oIx (eTup (eCons (eC (.bl true)) (eCons (eC .non) (eCons (eC (.str "2")) (eCons (eTup (eCons (eC (.int 1)) (eCons (eC (.int 1)) eNil))) (eCons (eOp oPow (eC (.int 10)) (eC (.int 9))) eNil)))))) (eCall 2 F__law_take [] (eCons (eVm 0) (eCons (eC (.int 5)) eNil)))))
    (sRet (eOp oEq (eCall 2 F__law_count [] (eCons (eVm 2) (eCons (eVm 6) eNil))) (eTup (eCons (eC (.str "many")) (eCons (eV 3) (eCons (eC (.bl true)) eNil)))))))) _ _ = _
  unfold manyT at ec ee
  push_cast [en, lp, e1, cp, t9, ed, fig_vm, vm, ec, ee]
def cbBody : SF := (sSeq (sSet 9 (eCall 4 F__law_first_bad [] (eCons (eVm 1) (eCons (eVm 8) (eCons (eVm 7) (eCons (eVm 5) eNil))))))
    (sSeq (sSet 10 (eCall 4 F__law_checking [] (eCons (eVm 2) (eCons (eVm 8) (eCons (eVm 7) (eCons (eVm 5) eNil))))))
    (sIf (eT (eOp oNotN (eV 9) (eC .non))) (sIf (eT (eOp oNe (eV 10) (eTup (eCons (eC (.str "bad")) (eCons (eV 9) (eCons (eC (.bl true)) eNil)))))) (sRet (eC (.bl false))) sNil) (sIf (eNot (eTru (eCall 2 (F__law_exact 5) [] (eCons (eVm 10) (eCons (eBi kTup (eCons (eV 6) eNil)) eNil))))) (sRet (eC (.bl false))) sNil))))
theorem cb_bad (k : Fg) (x3 x4 x6 d h : D) (lets : Bool) (m : Int) (i : Nat) (o9 o10 : Option D) (fr : d.fr = true) (e1 : F__law_first_bad [.int k.p, d, .int m, .bl lets] h = .ok (.int i) h) (e2 : F__law_checking [fig k, d, .int m, .bl lets] h = .ok (badT i) h) :
    cbBody [some .me, some (.int k.p), some (fig k), some x3, some x4, some (.bl lets), some x6, some (.int m), some d, o9, o10] h = .nx [some .me, some (.int k.p), some (fig k), some x3, some x4, some (.bl lets), some x6, some (.int m), some d, some (.int i), some (badT i)] h := by
  have vm : ∀ h, vmD (some (some d)) h = .ok d h := fun h => vmD_fr fr
  have ee := eq_badT i
  unfold cbBody
  unfold badT at e2 ee ⊢
  push_cast [fig_vm, vm, e1, e2, ee]
theorem cb_ok (k : Fg) (n : Nat) (o : Nat → Option k.K) (x3 x4 d h : D) (lets : Bool) (m : Int) (o9 o10 : Option D) (hn : n ≤ 900) (fr : d.fr = true) (e1 : F__law_first_bad [.int k.p, d, .int m, .bl lets] h = .ok .non h) (e2 : F__law_checking [fig k, d, .int m, .bl lets] h = .ok (.tup (gen n fun i => ptD k (o i))) h) :
    cbBody [some .me, some (.int k.p), some (fig k), some x3, some x4, some (.bl lets), some (.lst (gen n fun i => ptD k (o i))), some (.int m), some d, o9, o10] h = .nx [some .me, some (.int k.p), some (fig k), some x3, some x4, some (.bl lets), some (.lst (gen n fun i => ptD k (o i))), some (.int m), some d, some .non, some (.tup (gen n fun i => ptD k (o i)))] h := by
  have vm : ∀ h, vmD (some (some d)) h = .ok d h := fun h => vmD_fr fr
  have ex := X_pts k n o h hn
  unfold cbBody
  push_cast [fig_vm, vm, e1, e2, ex]
theorem sq_fr {b : Bool} {ds : List D} : (sqD b ds).fr = true := by cases b <;> rfl
theorem cb_all (k : Fg) (n : Nat) (t : Nat → Th k) (x3 x4 d h : D) (lets : Bool) (m : Int) (o9 o10 : Option D) (hn : n ≤ 900) (ht : ∀ i, i < n → (t i).ok) (hd : NotSeq d ∨ ∃ b, d = sqD b (gen n fun i => (t i).d)) :
    ∃ y9 y10, cbBody [some .me, some (.int k.p), some (fig k), some x3, some x4, some (.bl lets), some (.lst (gen n fun i => (t i).d)), some (.int m), some d, o9, o10] h = .nx [some .me, some (.int k.p), some (fig k), some x3, some x4, some (.bl lets), some (.lst (gen n fun i => (t i).d)), some (.int m), some d, y9, y10] h := by
  rcases hd with hd | ⟨b, rfl⟩
  · exact ⟨_, _, cb_bad k x3 x4 _ d h lets m 0 o9 o10 hd.1 (E_first_no k d _ _ h hd) (E_checking_exc k d h m lets 0 hd.1 (E_check_no k d _ _ h hd))⟩
  · by_cases e : (n : Int) = m
    · subst e
      have e1 := E_first_bad k n (fun i => (t i).d) (fun i => (t i).nb) (fun i => (t i).la) lets b h hn fun i hi => th_thg (ht i hi)
      have e2 := E_check k n (fun i => (t i).d) (fun i => (t i).nb) (fun i => (t i).la) lets b h hn fun i hi => th_thg (ht i hi)
      cases q : fbad n (fun i => (t i).d) (fun i => (t i).nb) (fun i => (t i).la) lets with
      | some i =>
        rw [q] at e1 e2
        exact ⟨_, _, cb_bad k x3 x4 _ _ h lets n i o9 o10 sq_fr e1 (E_checking_exc k _ h n lets i sq_fr e2)⟩
      | none =>
        rw [q] at e1 e2
        obtain ⟨o, ho, _⟩ := fbad_none ht q
        have eg : (gen n fun i => (t i).d) = gen n fun i => ptD k (o i) := gen_congr fun i hi => by rw [(ho i hi).1]; rfl
        rw [eg] at e1 e2 ⊢
        exact ⟨_, _, cb_ok k n o x3 x4 _ h lets n o9 o10 hn sq_fr e1 (E_checking_ok k _ h _ n lets sq_fr e2)⟩
    · exact ⟨_, _, cb_bad k x3 x4 _ _ h lets m 0 o9 o10 sq_fr (E_first_len k n _ b lets m h e) (E_checking_exc k _ h m lets 0 sq_fr (E_check_len k n _ b lets m h e))⟩
def ckLoop : SF := (sSeq (sSet 5 (eOp oEq (eCall 2 F__law_take [] (eCons (eVm 0) (eCons (eC (.int 2)) eNil))) (eC (.int 0))))
    (sSeq (sSet 6 (eFz (eIf (eT (eOp oEq (eV 4) (eC (.int 0)))) (eBi kList (eCons (eV 3) eNil)) (eCall 3 F__law_spoilt [] (eCons (eVm 0) (eCons (eVm 1) (eCons (eVm 3) eNil)))))))
    (sSeq (sSet 7 (eOp oAdd (eBi kLen (eCons (eV 6) eNil)) (eOp oIx (eTup (eCons (eC (.int 0)) (eCons (eC (.int 0)) (eCons (eC (.int 0)) (eCons (eC (.int 1)) (eCons (eUn oNeg (eC (.int 1))) eNil)))))) (eCall 2 F__law_take [] (eCons (eVm 0) (eCons (eC (.int 5)) eNil))))))
    (sSeq (sSet 8 (eCall 2 F__law_list [] (eCons (eVm 0) (eCons (eVm 6) eNil))))
    (sSeq (sIf (eAnd (eT (eOp oEq (eV 4) (eC (.int 2)))) (eT (eOp oEq (eCall 2 F__law_take [] (eCons (eVm 0) (eCons (eC (.int 4)) eNil))) (eC (.int 0))))) (sSet 8 (eOp oIx (eTup (eCons (eC .non) (eCons (eC (.str "last")) (eCons (eC (.int 3)) eNil)))) (eCall 2 F__law_take [] (eCons (eVm 0) (eCons (eC (.int 3)) eNil))))) sNil) cbBody)))))
theorem ck5 {r : Int} (r0 : 0 ≤ r) (r1 : r < 5) : ∃ m : Int, atI [D.int 0, .int 0, .int 0, .int 1, .int (-1)] r = some (.int m) := by
  have : r = 0 ∨ r = 1 ∨ r = 2 ∨ r = 3 ∨ r = 4 := by omega
  rcases this with rfl | rfl | rfl | rfl | rfl <;> exact ⟨_, rfl⟩
theorem ck3 {r : Int} (r0 : 0 ≤ r) (r1 : r < 3) : ∃ d, atI [D.non, .str "last", .int 3] r = some d ∧ NotSeq d := by
  have : r = 0 ∨ r = 1 ∨ r = 2 := by omega
  rcases this with rfl | rfl | rfl
  · exact ⟨_, rfl, ns_non⟩
  · exact ⟨_, rfl, ns_str _⟩
  · exact ⟨_, rfl, ns_int _⟩
theorem ckl_step (k : Fg) (n : Nat) (o : Nat → Option k.K) (turn : Int) (h : D) (hh : HandI h) (n1 : 1 ≤ n) (hn : n ≤ 900) (hs : ∀ i, i < n → Sml k (o i)) (o5 o6 o7 o8 o9 o10 : Option D) : ∃ y5 y6 y7 y8 y9 y10 h',
    ckLoop [some .me, some (.int k.p), some (fig k), some (.lst (gen n fun i => ptD k (o i))), some (.int turn), o5, o6, o7, o8, o9, o10] h = .nx [some .me, some (.int k.p), some (fig k), some (.lst (gen n fun i => ptD k (o i))), some (.int turn), y5, y6, y7, y8, y9, y10] h' ∧ HandI h' := by
  obtain ⟨r1, h1, e1, _, _, i1⟩ := E_take 2 h hh (by decide) (by decide)
  obtain ⟨lets, el⟩ : ∃ lets, lets = decide (r1 = 0) := ⟨_, rfl⟩
  have key : ∃ (t : Nat → Th k) (h2 : D), (eFz (eIf (eT (eOp oEq (eV 4) (eC (.int 0)))) (eBi kList (eCons (eV 3) eNil)) (eCall 3 F__law_spoilt [] (eCons (eVm 0) (eCons (eVm 1) (eCons (eVm 3) eNil)))))) [some .me, some (.int k.p), some (fig k), some (.lst (gen n fun i => ptD k (o i))), some (.int turn), some (.bl lets), o6, o7, o8, o9, o10] h1 = .ok (.lst (gen n fun i => (t i).d)) h2 ∧ (∀ i, i < n → (t i).ok) ∧ HandI h2 := by
    by_cases c : turn = 0
    · refine ⟨fun i => .pt (o i), h1, ?_, hs, i1⟩
      push_cast [c]
      rfl
    · obtain ⟨t, h2, e2, ht, i2⟩ := E_spoilt k n (fun i => .pt (o i)) h1 i1 n1 hn hs
      have e2 : F__law_spoilt [.me, .int k.p, .lst (gen n fun i => ptD k (o i))] h1 = .ok (.lst (gen n fun i => (t i).d)) h2 := e2
      refine ⟨t, h2, ?_, ht, i2⟩
      push_cast [c, e2]
  obtain ⟨t, h2, e2, ht, i2⟩ := key
  obtain ⟨r3, h3, e3, p0, p1, i3⟩ := E_take 5 h2 i2 (by decide) (by decide)
  obtain ⟨m0, em⟩ := ck5 p0 p1
  obtain ⟨b, h4, e4, i4⟩ := E_list (gen n fun i => (t i).d) h3 i3
  have key2 : ∃ d h5, (sIf (eAnd (eT (eOp oEq (eV 4) (eC (.int 2)))) (eT (eOp oEq (eCall 2 F__law_take [] (eCons (eVm 0) (eCons (eC (.int 4)) eNil))) (eC (.int 0))))) (sSet 8 (eOp oIx (eTup (eCons (eC .non) (eCons (eC (.str "last")) (eCons (eC (.int 3)) eNil)))) (eCall 2 F__law_take [] (eCons (eVm 0) (eCons (eC (.int 3)) eNil))))) sNil) [some .me, some (.int k.p), some (fig k), some (.lst (gen n fun i => ptD k (o i))), some (.int turn), some (.bl lets), some (.lst (gen n fun i => (t i).d)), some (.int ((n : Int) + m0)), some (sqD b (gen n fun i => (t i).d)), o9, o10] h4 = .nx [some .me, some (.int k.p), some (fig k), some (.lst (gen n fun i => ptD k (o i))), some (.int turn), some (.bl lets), some (.lst (gen n fun i => (t i).d)), some (.int ((n : Int) + m0)), some d, o9, o10] h5 ∧ (NotSeq d ∨ ∃ b, d = sqD b (gen n fun i => (t i).d)) ∧ HandI h5 := by
    by_cases c : turn = 2
    · obtain ⟨r5, h5, e5, _, _, i5⟩ := E_take 4 h4 i4 (by decide) (by decide)
      by_cases z : r5 = 0
      · obtain ⟨r6, h6, e6, q0, q1, i6⟩ := E_take 3 h5 i5 (by decide) (by decide)
        obtain ⟨d, ed, nd⟩ := ck3 q0 q1
        refine ⟨d, h6, ?_, .inl nd, i6⟩
        push_cast [c, e5, z, e6, ed]
      · refine ⟨_, h5, ?_, .inr ⟨b, rfl⟩, i5⟩
        push_cast [c, e5, z]
    · refine ⟨_, h4, ?_, .inr ⟨b, rfl⟩, i4⟩
      push_cast [c]
  obtain ⟨d, h5, e5, hd, i5⟩ := key2
  obtain ⟨y9, y10, e6⟩ := cb_all k n t (.lst (gen n fun i => ptD k (o i))) (.int turn) d h5 lets ((n : Int) + m0) o9 o10 hn ht hd
  refine ⟨some (.bl lets), some (.lst (gen n fun i => (t i).d)), some (.int ((n : Int) + m0)), some d, y9, y10, h5, ?_, i5⟩
  · unfold ckLoop
    rw [sSeq_a, sSet_a]
    have s1 : (eOp oEq (eCall 2 F__law_take [] (eCons (eVm 0) (eCons (eC (.int 2)) eNil))) (eC (.int 0))) [some .me, some (.int k.p), some (fig k), some (.lst (gen n fun i => ptD k (o i))), some (.int turn), o5, o6, o7, o8, o9, o10] h = .ok (.bl lets) h1 := by
      rw [el]
      push_cast [e1]
    rw [s1, fl_okE, seq_nx]
    rw [sSeq_a, sSet_a]
    rw [show ([some .me, some (.int k.p), some (fig k), some (.lst (gen n fun i => ptD k (o i))), some (.int turn), o5, o6, o7, o8, o9, o10] : DE).set 5 (some (.bl lets)) = [some .me, some (.int k.p), some (fig k), some (.lst (gen n fun i => ptD k (o i))), some (.int turn), some (.bl lets), o6, o7, o8, o9, o10] from rfl, e2, fl_okE, seq_nx]
    rw [sSeq_a, sSet_a]
    have s3 : (eOp oAdd (eBi kLen (eCons (eV 6) eNil)) (eOp oIx (eTup (eCons (eC (.int 0)) (eCons (eC (.int 0)) (eCons (eC (.int 0)) (eCons (eC (.int 1)) (eCons (eUn oNeg (eC (.int 1))) eNil)))))) (eCall 2 F__law_take [] (eCons (eVm 0) (eCons (eC (.int 5)) eNil))))) [some .me, some (.int k.p), some (fig k), some (.lst (gen n fun i => ptD k (o i))), some (.int turn), some (.bl lets), some (.lst (gen n fun i => (t i).d)), o7, o8, o9, o10] h2 = .ok (.int ((n : Int) + m0)) h3 := by
      push_cast [e3, em]
    rw [show ([some .me, some (.int k.p), some (fig k), some (.lst (gen n fun i => ptD k (o i))), some (.int turn), some (.bl lets), o6, o7, o8, o9, o10] : DE).set 6 (some (.lst (gen n fun i => (t i).d))) = [some .me, some (.int k.p), some (fig k), some (.lst (gen n fun i => ptD k (o i))), some (.int turn), some (.bl lets), some (.lst (gen n fun i => (t i).d)), o7, o8, o9, o10] from rfl, s3, fl_okE, seq_nx]
    rw [sSeq_a, sSet_a]
    have s4 : (eCall 2 F__law_list [] (eCons (eVm 0) (eCons (eVm 6) eNil))) [some .me, some (.int k.p), some (fig k), some (.lst (gen n fun i => ptD k (o i))), some (.int turn), some (.bl lets), some (.lst (gen n fun i => (t i).d)), some (.int ((n : Int) + m0)), o8, o9, o10] h3 = .ok (sqD b (gen n fun i => (t i).d)) h4 := by
      push_cast [e4]
    rw [show ([some .me, some (.int k.p), some (fig k), some (.lst (gen n fun i => ptD k (o i))), some (.int turn), some (.bl lets), some (.lst (gen n fun i => (t i).d)), o7, o8, o9, o10] : DE).set 7 (some (.int ((n : Int) + m0))) = [some .me, some (.int k.p), some (fig k), some (.lst (gen n fun i => ptD k (o i))), some (.int turn), some (.bl lets), some (.lst (gen n fun i => (t i).d)), some (.int ((n : Int) + m0)), o8, o9, o10] from rfl, s4, fl_okE, seq_nx]
    rw [sSeq_a]
    rw [show ([some .me, some (.int k.p), some (fig k), some (.lst (gen n fun i => ptD k (o i))), some (.int turn), some (.bl lets), some (.lst (gen n fun i => (t i).d)), some (.int ((n : Int) + m0)), o8, o9, o10] : DE).set 8 (some (sqD b (gen n fun i => (t i).d))) = [some .me, some (.int k.p), some (fig k), some (.lst (gen n fun i => ptD k (o i))), some (.int turn), some (.bl lets), some (.lst (gen n fun i => (t i).d)), some (.int ((n : Int) + m0)), some (sqD b (gen n fun i => (t i).d)), o9, o10] from rfl, e5, seq_nx, e6]
end Lw
set_option exponentiation.threshold 20000
namespace Lw
open PySem PySem.Spec L2 Fw Pd Dz
theorem E_checks (k : Fg) (n : Nat) (o : Nat → Option k.K) (h : D) (hh : HandI h) (n1 : 1 ≤ n) (hn : n ≤ 900) (hs : ∀ i, i < n → Sml k (o i)) : ∃ h', F__law_checks [.me, .int k.p, fig k, .lst (gen n fun i => ptD k (o i))] h = .ok (.bl true) h' ∧ HandI h' := by
  obtain ⟨δ', h', lp, y4, y5, y6, y7, y8, y9, y10, eδ, ih⟩ := for_draw (bind := bNm 4) (body := ckLoop) (d := fun i => .int (i : Int)) (n := 3) (h := h) (δ := [some .me, some (.int k.p), some (fig k), some (.lst (gen n fun i => ptD k (o i))), none, none, none, none, none, none, none])
    (fun m δ h' => ∃ y4 y5 y6 y7 y8 y9 y10, δ = [some .me, some (.int k.p), some (fig k), some (.lst (gen n fun i => ptD k (o i))), y4, y5, y6, y7, y8, y9, y10] ∧ HandI h') (fun i hi δ h2 ⟨y4, y5, y6, y7, y8, y9, y10, eδ, ih⟩ => by
      subst eδ
      obtain ⟨z5, z6, z7, z8, z9, z10, h3, e, i3⟩ := ckl_step k n o i h2 ih n1 hn hs y5 y6 y7 y8 y9 y10
      exact ⟨_, rfl, _, h3, e, _, z5, z6, z7, z8, z9, z10, rfl, i3⟩) ⟨none, none, none, none, none, none, none, rfl, hh⟩
  subst eδ
  refine ⟨h', ?_, ih⟩
  show runF 11 (sSeq (sFor (iRg rg1 (eCons (eC (.int 3)) eNil)) (bNm 4) ckLoop) (sRet (eC (.bl true)))) _ _ = _
  push_cast [lp]
theorem two_all (k : Fg) (n : Nat) (t : Nat → Th k) (h : D) (n1 : 1 ≤ n) (hn : n ≤ 6) (ht : ∀ i, i < n → (t i).ok) : ∃ due told, F__law_first_bad [.int k.p, .lst (gen n fun i => (t i).d), .int n, .bl true] h = .ok due h ∧ F__law_two_tables [fig k, .lst (gen n fun i => (t i).d)] h = .ok told h ∧ ((due = .non ∧ told.fr = true) ∨ ∃ i : Nat, due = .int i ∧ told = .lst [badT i, badT i]) := by
  have e1 := E_first_bad k n (fun i => (t i).d) (fun i => (t i).nb) (fun i => (t i).la) true true h (by omega) fun i hi => th_thg (ht i hi)
  cases q : fbad n (fun i => (t i).d) (fun i => (t i).nb) (fun i => (t i).la) true with
  | some i =>
    rw [q] at e1
    have e2 := E_table_bad k n (fun i => (t i).d) (fun i => (t i).nb) (fun i => (t i).la) true h n1 hn (fun i hi => th_thg (ht i hi)) i q
    exact ⟨_, _, e1, E_two_exc k _ h i rfl e2, .inr ⟨i, rfl, rfl⟩⟩
  | none =>
    rw [q] at e1
    obtain ⟨o, ho, hd⟩ := fbad_none ht q
    have eg : (gen n fun i => (t i).d) = gen n fun i => ptD k (o i) := gen_congr fun i hi => by rw [(ho i hi).1]; rfl
    have e2 := E_two_good k n o true h n1 hn hd fun i hi => (ho i hi).2
    rw [← eg] at e2
    exact ⟨_, _, e1, e2, .inl ⟨rfl, rfl⟩⟩
def ptA : SF := (sIf (eT (eOp oEq (eCall 2 F__law_take [] (eCons (eVm 0) (eCons (eC (.int 6)) eNil))) (eC (.int 0)))) (sSet 14 (eOp oIx (eTup (eCons (eFz (eLst eNil)) (eCons (eCall 2 F__law_first_points [] (eCons (eVm 1) (eCons (eC (.int 7)) eNil))) (eCons (eC .non) eNil)))) (eCall 2 F__law_take [] (eCons (eVm 0) (eCons (eC (.int 3)) eNil))))) sNil)
def ptB : SF := (sSeq (sSet 4 (eIf (eAnd (eTru (eIs "list" (eV 14))) (eT (eCh oLe oLe (eC (.int 1)) (eBi kLen (eCons (eV 14) eNil)) (eC (.int 6))))) (eBi kLen (eCons (eV 14) eNil)) (eUn oNeg (eC (.int 1)))))
    (sSeq (sSet 6 (eCall 4 F__law_first_bad [] (eCons (eVm 1) (eCons (eVm 14) (eCons (eVm 4) (eCons (eC (.bl true)) eNil))))))
    (sSeq (sSet 13 (eCall 2 F__law_two_tables [] (eCons (eVm 2) (eCons (eVm 14) eNil))))
    (sRet (eB (eOr (eT (eOp oIsN (eV 6) (eC .non))) (eT (eOp oEq (eV 13) (eFz (eLst (eCons (eTup (eCons (eC (.str "bad")) (eCons (eV 6) (eCons (eC (.bl true)) eNil)))) (eCons (eTup (eCons (eC (.str "bad")) (eCons (eV 6) (eCons (eC (.bl true)) eNil)))) eNil))))))))))))
/-- the last part, once the list is there -/
theorem ptB_ok (k : Fg) (d : D) (h : D) (x3 x4 x5 x6 x7 x8 x9 x10 x11 x12 x13 : Option D) (hd : NotSeq d ∨ ∃ (n : Nat) (t : Nat → Th k), d = .lst (gen n fun i => (t i).d) ∧ (∀ i, i < n → (t i).ok) ∧ n ≤ 900) :
    ptB [some .me, some (.int k.p), some (fig k), x3, x4, x5, x6, x7, x8, x9, x10, x11, x12, x13, some d] h = .ret (.bl true) h := by
  rcases hd with hd | ⟨n, t, rfl, ht, hn⟩
  · obtain ⟨fr, h1, h2⟩ := id hd
    have v : ∀ h, vD (some (some d)) h = .ok d h := fun h => vD_fr fr
    have vm : ∀ h, vmD (some (some d)) h = .ok d h := fun h => vmD_fr fr
    have q := is1_of h1
    have e1 := E_first_no k d (.int (-1)) (.bl true) h hd
    have e2 := E_two_exc k d h 0 fr (E_table_no k d h hd)
    have e3 := eq_badL 0
    unfold ptB
    unfold badT at e2 e3
    simp only [nc0] at e2 e3
    push_cast [v, vm, ↓is1_a, q, fig_vm, e1, e2, e3]
  · by_cases c1 : 1 ≤ n
    · by_cases c2 : n ≤ 6
      · obtain ⟨due, told, e1, e2, e3⟩ := two_all k n t h c1 c2 ht
        have d1 : (1 : Int) ≤ n := by omega
        have d2 : (n : Int) ≤ 6 := by omega
        rcases e3 with ⟨rfl, fr⟩ | ⟨i, rfl, rfl⟩
        · unfold ptB
          push_cast [isa_ni, isa_nb, isa_ns, isa_nt, isa_nl, isa_bi, isa_bb, isa_bs, isa_bt, isa_bl, isa_ii, isa_ib, isa_is, isa_it, isa_il, isa_si, isa_sb, isa_ss, isa_st, isa_sl, isa_ti, isa_tb, isa_ts, isa_tt, isa_tl, isa_li, isa_lb, isa_ls, isa_lt, isa_ll, fig_vm, d1, d2, e1, e2]
        · have e3 := eq_badL i
          unfold ptB
          unfold badT at e2 e3
          push_cast [isa_ni, isa_nb, isa_ns, isa_nt, isa_nl, isa_bi, isa_bb, isa_bs, isa_bt, isa_bl, isa_ii, isa_ib, isa_is, isa_it, isa_il, isa_si, isa_sb, isa_ss, isa_st, isa_sl, isa_ti, isa_tb, isa_ts, isa_tt, isa_tl, isa_li, isa_lb, isa_ls, isa_lt, isa_ll, fig_vm, d1, d2, e1, e2, e3]
      · have d1 : (1 : Int) ≤ n := by omega
        have d2 : ¬ (n : Int) ≤ 6 := by omega
        have e1 := E_first_len k n (fun i => (t i).d) true true (-1) h (by omega)
        have e2 := E_two_exc k _ h 0 sq_fr (E_table_len k n (fun i => (t i).d) true h (by omega))
        have e1 : F__law_first_bad [.int k.p, .lst (gen n fun i => (t i).d), .int (-1), .bl true] h = .ok (.int 0) h := e1
        have e2 : F__law_two_tables [fig k, .lst (gen n fun i => (t i).d)] h = .ok (.lst [badT 0, badT 0]) h := e2
        have e3 := eq_badL 0
        unfold ptB
        unfold badT at e2 e3
        simp only [nc0] at e2 e3
        push_cast [isa_ni, isa_nb, isa_ns, isa_nt, isa_nl, isa_bi, isa_bb, isa_bs, isa_bt, isa_bl, isa_ii, isa_ib, isa_is, isa_it, isa_il, isa_si, isa_sb, isa_ss, isa_st, isa_sl, isa_ti, isa_tb, isa_ts, isa_tt, isa_tl, isa_li, isa_lb, isa_ls, isa_lt, isa_ll, fig_vm, d1, d2, e1, e2, e3]
    · have d1 : ¬ (1 : Int) ≤ n := by omega
      have e1 := E_first_len k n (fun i => (t i).d) true true (-1) h (by omega)
      have e2 := E_two_exc k _ h 0 sq_fr (E_table_len k n (fun i => (t i).d) true h (by omega))
      have e1 : F__law_first_bad [.int k.p, .lst (gen n fun i => (t i).d), .int (-1), .bl true] h = .ok (.int 0) h := e1
      have e2 : F__law_two_tables [fig k, .lst (gen n fun i => (t i).d)] h = .ok (.lst [badT 0, badT 0]) h := e2
      have e3 := eq_badL 0
      unfold ptB
      unfold badT at e2 e3
      simp only [nc0] at e2 e3
      push_cast [isa_ni, isa_nb, isa_ns, isa_nt, isa_nl, isa_bi, isa_bb, isa_bs, isa_bt, isa_bl, isa_ii, isa_ib, isa_is, isa_it, isa_il, isa_si, isa_sb, isa_ss, isa_st, isa_sl, isa_ti, isa_tb, isa_ts, isa_tt, isa_tl, isa_li, isa_lb, isa_ls, isa_lt, isa_ll, fig_vm, d1, e1, e2, e3]
/-- the strange list, drawn -/
theorem fpt_sml (k : Fg) (j : Nat) (hj : j < 7) : Sml k (fpt k j) := by
  cases k with
  | q =>
    intro x e
    have e : some (ic .q (j : Int)) = some x := e
    have ex := Option.some.inj e
    subst ex
    have e1 : (ic .q (j : Int) : Rat).num = j := Rat.num_intCast j
    have e2 : (ic .q (j : Int) : Rat).den = 1 := Rat.den_intCast j
    refine .inl ⟨?_, ?_⟩
    · show max (bt (ic .q (j : Int) : Rat).num.natAbs) (bt (ic .q (j : Int) : Rat).den) ≤ 7
      rw [e1, e2]
      have h1 : bt (j : Int).natAbs ≤ 7 := bt_le (by omega)
      have h2 : bt 1 ≤ 7 := by decide
      omega
    · show bt (ic .q (j : Int) : Rat).den ≤ 1
      rw [e2]; decide
  | m n hn => exact fun x e => .inl ⟨Nat.zero_le _, Nat.zero_le _⟩
theorem ptA_ok (k : Fg) (n : Nat) (t : Nat → Th k) (h : D) (hh : HandI h) (hn : n ≤ 900) (ht : ∀ i, i < n → (t i).ok) (x3 x4 x5 x6 x7 x8 x9 x10 x11 x12 x13 : Option D) : ∃ d h',
    ptA [some .me, some (.int k.p), some (fig k), x3, x4, x5, x6, x7, x8, x9, x10, x11, x12, x13, some (.lst (gen n fun i => (t i).d))] h = .nx [some .me, some (.int k.p), some (fig k), x3, x4, x5, x6, x7, x8, x9, x10, x11, x12, x13, some d] h' ∧ (NotSeq d ∨ ∃ (n : Nat) (t : Nat → Th k), d = .lst (gen n fun i => (t i).d) ∧ (∀ i, i < n → (t i).ok) ∧ n ≤ 900) ∧ HandI h' := by
  obtain ⟨r1, h1, e1, _, _, i1⟩ := E_take 6 h hh (by decide) (by decide)
  by_cases z : r1 = 0
  · subst z
    have e2 := E_first_points k 7 h1 (by omega)
    have e2 : F__law_first_points [.int k.p, .int 7] h1 = .ok (.lst (gen 7 fun j => ptD k (fpt k j))) h1 := e2
    obtain ⟨r3, h3, e3, q0, q1, i3⟩ := E_take 3 h1 i1 (by decide) (by decide)
    have key : ∃ d, atI [D.lst [], .lst (gen 7 fun j => ptD k (fpt k j)), .non] r3 = some d ∧ (NotSeq d ∨ ∃ (n : Nat) (t : Nat → Th k), d = .lst (gen n fun i => (t i).d) ∧ (∀ i, i < n → (t i).ok) ∧ n ≤ 900) := by
      have : r3 = 0 ∨ r3 = 1 ∨ r3 = 2 := by omega
      rcases this with rfl | rfl | rfl
      · exact ⟨_, rfl, .inr ⟨0, fun i => .pt none, rfl, fun i hi => absurd hi (Nat.not_lt_zero i), by omega⟩⟩
      · exact ⟨_, rfl, .inr ⟨7, fun i => .pt (fpt k i), rfl, fun i hi => fpt_sml k i hi, by omega⟩⟩
      · exact ⟨_, rfl, .inl ns_non⟩
    obtain ⟨d, ed, hd⟩ := key
    refine ⟨d, h3, ?_, hd, i3⟩
    unfold ptA
    push_cast [e1, e2, e3, ed]
  · refine ⟨_, h1, ?_, .inr ⟨n, t, rfl, ht, hn⟩, i1⟩
    unfold ptA
    push_cast [e1, z]
theorem list_pts (k : Fg) (b : Bool) (n : Nat) (o : Nat → Option k.K) : Fw.kList [sqD b (gen n fun i => ptD k (o i))] = some (.hl (gen n fun i => ptD k (o i))) := by cases b <;> rfl
theorem E_powers_told (k : Fg) (n : Nat) (o : Nat → Option k.K) (h : D) (hh : HandI h) (n1 : 1 ≤ n) (hn : n ≤ 6) (hd : ∀ i j, i < n → j < n → o i = o j → i = j) (hs : ∀ i, i < n → Sml k (o i)) : ∃ h', F__law_powers_told [.me, .int k.p, fig k, .lst (gen n fun i => ptD k (o i))] h = .ok (.bl true) h' ∧ HandI h' := by
  obtain ⟨b, h1, e1, i1⟩ := E_list (gen n fun i => ptD k (o i)) h hh
  have ep : ∀ i, i < n → ∀ h, F__law_powers [.int k.p, ptD k (o i), .int n] h = .ok (.lst (gen n fun j => enc k (ptG n (o i) j))) h := fun i hi h => by
    rw [← ptRow_G]
    exact E_law_powers k (o i) n h n1 (by omega) fun x e => pw_small hn ((hs i hi).ht x e)
  have el : ∀ i, i < n → ∀ h, F__law_lone [.int k.p, .lst (gen n fun i => ptD k (o i)), .int i] h = .ok (.lst (gen n fun j => enc k (lone o n i j))) h := fun i hi h => E_law_lone k n o i h hn hi hd fun i hi x e => (hs i hi).ht x e
  have et := E_two_good k n o b h1 n1 hn hd hs
  have x1 := X_tab k n n (fun i => ptG n (o i)) h1 (by omega) (by omega)
  have x2 := X_tab k n n (fun i j => lone o n j i) h1 (by omega) (by omega)
  have eq := eq_pts k n o
  obtain ⟨t, h2, e2, ht, i2⟩ := E_spoilt k n (fun i => .pt (o i)) h1 i1 n1 (by omega) hs
  have e2 : F__law_spoilt [.me, .int k.p, .lst (gen n fun i => ptD k (o i))] h1 = .ok (.lst (gen n fun i => (t i).d)) h2 := e2
  have vs : ∀ h, vmD (some (some (sqD b (gen n fun i => ptD k (o i))))) h = .ok (sqD b (gen n fun i => ptD k (o i))) h := fun h => vmD_fr sq_fr
  have vv : ∀ h, vD (some (some (sqD b (gen n fun i => ptD k (o i))))) h = .ok (sqD b (gen n fun i => ptD k (o i))) h := fun h => vD_fr sq_fr
  have kl := list_pts k b n o
  unfold etab at et x1 x2
  unfold erow at et x1 x2
  have fin : ∀ x3 x4 x5 x6 x7 x8 x9 x10 x11 x12 x13, ∃ h', (ptA [some .me, some (.int k.p), some (fig k), x3, x4, x5, x6, x7, x8, x9, x10, x11, x12, x13, some (.lst (gen n fun i => (t i).d))] h2).bind ptB = .ret (.bl true) h' ∧ HandI h' := fun x3 x4 x5 x6 x7 x8 x9 x10 x11 x12 x13 => by
    obtain ⟨d, h3, e3, hd3, i3⟩ := ptA_ok k n t h2 i2 (by omega) ht x3 x4 x5 x6 x7 x8 x9 x10 x11 x12 x13
    exact ⟨h3, by rw [e3, seq_nx]; exact ptB_ok k d h3 x3 x4 x5 x6 x7 x8 x9 x10 x11 x12 x13 hd3, i3⟩
  obtain ⟨h3, e3, i3⟩ := fin (some (.lst (gen n fun i => ptD k (o i)))) (some (.int n)) (some (sqD b (gen n fun i => ptD k (o i)))) (some (.tup (gen n fun i => .tup (gen n fun j => enc k (ptG n (o i) j))))) none (some (.lst (gen n fun i => .lst (gen n fun j => enc k (lone o n i j))))) none (some (.tup (gen n fun i => .tup (gen n fun j => enc k (lone o n j i))))) none none (some (.lst [.tup (gen n fun i => .tup (gen n fun j => enc k (ptG n (o i) j))), .tup (gen n fun i => .tup (gen n fun j => enc k (lone o n j i)))]))
  refine ⟨h3, ?_, i3⟩
  show runF 15 (sSeq (sSet 4 (eBi kLen (eCons (eV 3) eNil)))
    (sSeq (sSet 5 (eCall 2 F__law_list [] (eCons (eVm 0) (eCons (eVm 3) eNil))))
    (sSeq (sSet 6 (eBi kTup (eCons (eFz (eLc [7] (iSeq (eV 3)) (bNm 7) tYesD (eBi kTup (eCons (eCall 3 F__law_powers [] (eCons (eVm 1) (eCons (eVm 7) (eCons (eVm 4) eNil)))) eNil)))) eNil)))
    (sSeq (sSet 8 (eFz (eLc [9] (iRg rg1 (eCons (eV 4) eNil)) (bNm 9) tYesD (eCall 3 F__law_lone [] (eCons (eVm 1) (eCons (eVm 3) (eCons (eVm 9) eNil)))))))
    (sSeq (sSet 10 (eBi kTup (eCons (eFz (eLc [12] (iRg rg1 (eCons (eV 4) eNil)) (bNm 12) tYesD (eBi kTup (eCons (eFz (eLc [11] (iSeq (eV 8)) (bNm 11) tYesD (eOp oIx (eV 11) (eV 12)))) eNil)))) eNil)))
    (sSeq (sSet 13 (eCall 2 F__law_two_tables [] (eCons (eVm 2) (eCons (eVm 5) eNil))))
    (sSeq (sIf (eOr (eNot (eTru (eCall 2 (F__law_exact 5) [] (eCons (eOp oIx (eV 13) (eC (.int 0))) (eCons (eVm 6) eNil))))) (eOr (eNot (eTru (eCall 2 (F__law_exact 5) [] (eCons (eOp oIx (eV 13) (eC (.int 1))) (eCons (eVm 10) eNil))))) (eT (eOp oNe (eFz (eBi kList (eCons (eV 5) eNil))) (eFz (eBi kList (eCons (eV 3) eNil))))))) (sRet (eC (.bl false))) sNil)
    (sSeq (sSet 14 (eCall 3 F__law_spoilt [] (eCons (eVm 0) (eCons (eVm 1) (eCons (eVm 3) eNil)))))
    (sSeq ptA ptB))))))))) _ _ = _
  push_cast [e1, pt_vm, ep, el, fig_vm, vs, vv, et, x1, x2, kl, eq, e2, e3]
end Lw
set_option exponentiation.threshold 20000
namespace Lw
open PySem PySem.Spec L2 Fw Pd Dz
def roBody : SF := (sSeq (sSet 5 (eOp oAdd (eC (.int 1)) (eCall 2 F__law_take [] (eCons (eVm 0) (eCons (eC (.int 6)) eNil)))))
    (sSeq (sSet 6 (eCall 3 F__law_one_row [] (eCons (eVm 2) (eCons (eVm 4) (eCons (eVm 5) eNil)))))
    (sSeq (sSet 7 (eOp oIx (eTup (eCons (eC (.int 0)) (eCons (eC (.int 7)) (eCons (eUn oNeg (eC (.int 1))) (eCons (eC (.bl true)) (eCons (eC .non) (eCons (eC (.str "3")) eNil))))))) (eCall 2 F__law_take [] (eCons (eVm 0) (eCons (eC (.int 6)) eNil)))))
    (sSeq (sSet 8 (eCall 3 F__law_one_row [] (eCons (eVm 2) (eCons (eVm 4) (eCons (eVm 7) eNil)))))
    (sIf (eT (eOp oNotN (eCall 4 F__law_first_bad [] (eCons (eVm 1) (eCons (eFz (eLst (eCons (eV 4) eNil))) (eCons (eC (.int 1)) (eCons (eC (.bl true)) eNil))))) (eC .non))) (sIf (eOr (eT (eOp oNe (eV 6) (eTup (eCons (eC (.str "bad")) (eCons (eC (.int 0)) (eCons (eC (.bl true)) eNil)))))) (eT (eOp oNe (eV 8) (eTup (eCons (eC (.str "bad")) (eCons (eC (.int 0)) (eCons (eC (.bl true)) eNil))))))) (sRet (eC (.bl false))) sNil) (sIf (eOr (eNot (eTru (eCall 2 (F__law_exact 5) [] (eCons (eVm 6) (eCons (eBi kTup (eCons (eCall 3 F__law_powers [] (eCons (eVm 1) (eCons (eVm 4) (eCons (eVm 5) eNil)))) eNil)) eNil))))) (eT (eOp oNe (eV 8) (eTup (eCons (eC (.str "many")) (eCons (eC (.int 6)) (eCons (eC (.bl true)) eNil))))))) (sRet (eC (.bl false))) sNil))))))
theorem fbad1 {k : Fg} (t : Th k) : fbad 1 (fun _ => t.d) (fun _ => t.nb) (fun _ => t.la) true = if t.nb || t.la then none else some 0 := by
  have e0 : inB (gen 0 fun _ : Nat => t.d) t.d = false := rfl
  unfold fbad
  show List.find? _ [0] = _
  rw [List.find?_cons, List.find?_nil]
  unfold badA
  rw [e0]
  cases t.nb <;> cases t.la <;> rfl
theorem ro_step (k : Fg) (t : Th k) (x3 h : D) (hh : HandI h) (ht : t.ok) (o5 o6 o7 o8 : Option D) : ∃ y5 y6 y7 y8 h', roBody [some .me, some (.int k.p), some (fig k), some x3, some t.d, o5, o6, o7, o8] h = .nx [some .me, some (.int k.p), some (fig k), some x3, some t.d, y5, y6, y7, y8] h' ∧ HandI h' := by
  obtain ⟨r1, h1, e1, p0, p1, i1⟩ := E_take 6 h hh (by decide) (by decide)
  obtain ⟨s, rfl⟩ : ∃ s : Nat, r1 = s := ⟨r1.toNat, by omega⟩
  obtain ⟨r2, h2, e2, q0, q1, i2⟩ := E_take 6 h1 i1 (by decide) (by decide)
  have key : ∃ d, atI [D.int 0, .int 7, .int (-1), .bl true, .non, .str "3"] r2 = some d ∧ WhNo d 1 6 := by
    have : r2 = 0 ∨ r2 = 1 ∨ r2 = 2 ∨ r2 = 3 ∨ r2 = 4 ∨ r2 = 5 := by omega
    rcases this with rfl | rfl | rfl | rfl | rfl | rfl
    · exact ⟨_, rfl, wn_int _ _ _ (.inl (by omega))⟩
    · exact ⟨_, rfl, wn_int _ _ _ (.inr (by omega))⟩
    · exact ⟨_, rfl, wn_int _ _ _ (.inl (by omega))⟩
    · exact ⟨_, rfl, wn_bl _ _ _⟩
    · exact ⟨_, rfl, wn_non _ _⟩
    · exact ⟨_, rfl, wn_str _ _ _⟩
  obtain ⟨d, ed, wd⟩ := key
  have vd : ∀ h, vmD (some (some d)) h = .ok d h := fun h => vmD_fr wd.1
  have c1 : (1 : Int) + (s : Int) = ((s + 1 : Nat) : Int) := by omega
  have vt : ∀ h, vD (some (some t.d)) h = .ok t.d h := fun h => vD_fr (th_fr ht)
  have vm : ∀ h, vmD (some (some t.d)) h = .ok t.d h := fun h => vmD_fr (th_fr ht)
  have ef := E_first_bad k 1 (fun _ => t.d) (fun _ => t.nb) (fun _ => t.la) true true h2 (by omega) fun i hi => th_thg ht
  rw [fbad1] at ef
  have ef : F__law_first_bad [.int k.p, .lst [t.d], .int 1, .bl true] h2 = .ok (optD (if t.nb || t.la then none else some 0)) h2 := ef
  cases t with
  | od x =>
    have ht : Thg k x false false := ht
    have ef : F__law_first_bad [.int k.p, .lst [x], .int 1, .bl true] h2 = .ok (.int 0) h2 := ef
    have e3 := E_row_bad k x (.int ((s + 1 : Nat) : Int)) h1 ht rfl
    have e4 := E_row_bad k x d h2 ht wd.1
    have ee := eq_badT 0
    have vt : ∀ h, vD (some (some x)) h = .ok x h := vt
    have vm : ∀ h, vmD (some (some x)) h = .ok x h := vm
    refine ⟨some (.int ((s + 1 : Nat) : Int)), some (badT 0), some d, some (badT 0), h2, ?_, i2⟩
    show roBody [some .me, some (.int k.p), some (fig k), some x3, some x, o5, o6, o7, o8] h = .nx [some .me, some (.int k.p), some (fig k), some x3, some x, _, _, _, _] h2
    unfold badT at e3 e4 ee ⊢
    simp only [nc0] at e3 e4 ee ⊢
    unfold roBody
    push_cast [e1, c1, e2, ed, fig_vm, vd, vt, vm, e3, e4, ef, ee]
  | pt o =>
    have ht : Sml k o := ht
    have nl : ((Th.pt o).nb || (Th.pt o).la) = true := by cases o <;> rfl
    rw [nl] at ef
    have ef : F__law_first_bad [.int k.p, .lst [ptD k o], .int 1, .bl true] h2 = .ok .non h2 := ef
    have e3 := E_row_good k o (s + 1) h1 ht (by omega) (by omega)
    have e4 := E_row_many k o d h2 ht wd
    have ep := E_law_powers k o (s + 1) h2 (by omega) (by omega) fun x e => pw_small (by omega) (ht.ht x e)
    rw [ptRow_G] at ep
    have ex := X_row k (s + 1) (ptG (s + 1) o) h2 (by omega)
    have ee := eq_manyT 6
    have vt : ∀ h, vD (some (some (ptD k o))) h = .ok (ptD k o) h := vt
    have vm : ∀ h, vmD (some (some (ptD k o))) h = .ok (ptD k o) h := vm
    have n6 : ((6 : Nat) : Int) = 6 := rfl
    refine ⟨some (.int ((s + 1 : Nat) : Int)), some (erow k (s + 1) (ptG (s + 1) o)), some d, some (manyT 6), h2, ?_, i2⟩
    show roBody [some .me, some (.int k.p), some (fig k), some x3, some (ptD k o), o5, o6, o7, o8] h = .nx [some .me, some (.int k.p), some (fig k), some x3, some (ptD k o), _, _, _, _] h2
    unfold manyT at e4 ee ⊢
    unfold erow at e3 ex ⊢
    simp only [n6] at e4 ee ⊢
    unfold roBody
    push_cast [e1, c1, e2, ed, fig_vm, vd, vt, vm, e3, e4, ef, ep, ex, ee]
theorem E_rows_told (k : Fg) (n : Nat) (o : Nat → Option k.K) (h : D) (hh : HandI h) (hn : n ≤ 900) (hs : ∀ i, i < n → Sml k (o i)) : ∃ h', F__law_rows_told [.me, .int k.p, fig k, .lst (gen n fun i => ptD k (o i))] h = .ok (.bl true) h' ∧ HandI h' := by
  obtain ⟨d, h1, e1, td, i1⟩ := E_no_point k h hh
  obtain ⟨t, et⟩ : ∃ t : Nat → Th k, t = fun i => if i < n then .pt (o i) else .od d := ⟨_, rfl⟩
  have ht : ∀ i, i < n + 1 → (t i).ok := fun i hi => by
    rw [et]
    by_cases z : i < n
    · simp only [if_pos z]; exact hs i z
    · simp only [if_neg z]; exact td
  have eg : (gen n fun i => ptD k (o i)) ++ [d] = gen (n + 1) fun i => (t i).d := by
    rw [gen_last, et]
    simp only [if_neg (Nat.lt_irrefl n)]
    congr 1
    refine gen_congr fun i hi => ?_
    simp only [if_pos hi]
    rfl
  obtain ⟨δ', h', lp, y4, y5, y6, y7, y8, eδ, ih⟩ := for_draw (bind := bNm 4) (body := roBody) (d := fun i => (t i).d) (n := n + 1) (h := h1) (δ := [some .me, some (.int k.p), some (fig k), some (.lst (gen n fun i => ptD k (o i))), none, none, none, none, none])
    (fun m δ h' => ∃ y4 y5 y6 y7 y8, δ = [some .me, some (.int k.p), some (fig k), some (.lst (gen n fun i => ptD k (o i))), y4, y5, y6, y7, y8] ∧ HandI h') (fun i hi δ h2 ⟨y4, y5, y6, y7, y8, eδ, ih⟩ => by
      subst eδ
      obtain ⟨z5, z6, z7, z8, h3, e, i3⟩ := ro_step k (t i) (.lst (gen n fun i => ptD k (o i))) h2 ih (ht i hi) y5 y6 y7 y8
      exact ⟨_, rfl, _, h3, e, _, z5, z6, z7, z8, rfl, i3⟩) ⟨none, none, none, none, none, rfl, i1⟩
  subst eδ
  have fr := td.fr
  refine ⟨h', ?_, ih⟩
  show runF 9 (sSeq (sFor (iSeq (eFz (eOn oPlus (eV 3) (eFz (eLst (eCons (eCall 2 F__law_no_point [] (eCons (eVm 0) (eCons (eVm 1) eNil))) eNil)))))) (bNm 4) roBody) (sRet (eC (.bl true)))) _ _ = _
  push_cast [e1, eg, lp]
def lwBody : SF := (sSeq (sSet 3 (eCall 1 F__law_figures [] (eCons (eVm 1) eNil)))
    (sSeq (sSet 4 (eMake "Figures" 2 F_Figures___init__ [] (eCons (eV 3) eNil)))
    (sSeq (sSet 5 (eIf (eT (eOp oGt (eV 3) (eC (.int 0)))) (eBi kMin2 (eCons (eC (.int 6)) (eCons (eOp oAdd (eV 3) (eC (.int 1))) eNil))) (eC (.int 6))))
    (sSeq (sSet 6 (eCall 4 F__law_points [] (eCons (eVm 1) (eCons (eVm 3) (eCons (eOp oAdd (eC (.int 1)) (eCall 2 F__law_take [] (eCons (eVm 1) (eCons (eVm 5) eNil)))) (eCons (eC (.bl true)) eNil))))))
    (sSeq (sIf (eOr (eNot (eTru (eCall 4 F__law_counts [] (eCons (eVm 1) (eCons (eVm 3) (eCons (eVm 4) (eCons (eVm 5) eNil))))))) (eNot (eTru (eCall 4 F__law_checks [] (eCons (eVm 1) (eCons (eVm 3) (eCons (eVm 4) (eCons (eVm 6) eNil)))))))) (sRet (eC (.bl false))) sNil)
    (sIf (eOr (eNot (eTru (eCall 4 F__law_powers_told [] (eCons (eVm 1) (eCons (eVm 3) (eCons (eVm 4) (eCons (eVm 6) eNil))))))) (eNot (eTru (eCall 4 F__law_rows_told [] (eCons (eVm 1) (eCons (eVm 3) (eCons (eVm 4) (eCons (eVm 6) eNil)))))))) (sRet (eC (.bl false))) sNil))))))
theorem lw_turn (x2 x3 x4 x5 x6 : Option D) (h : D) (hh : HandI h) : ∃ y3 y4 y5 y6 h', lwBody [none, some .me, x2, x3, x4, x5, x6] h = .nx [none, some .me, x2, y3, y4, y5, y6] h' ∧ HandI h' := by
  obtain ⟨k, h1, e1, i1⟩ := E_figures h hh
  have mf : ∀ (a b c x y z : Option D) (g : D), eMake "Figures" 2 F_Figures___init__ [] (eCons (eV 3) eNil) [a, b, c, some (.int k.p), x, y, z] g = .ok (fig k) g := fun a b c x y z g => E_make k _ g 3 rfl
  have em : ∀ (a b c x y z : Option D) (g : D), eIf (eT (eOp oGt (eV 3) (eC (.int 0)))) (eBi kMin2 (eCons (eC (.int 6)) (eCons (eOp oAdd (eV 3) (eC (.int 1))) eNil))) (eC (.int 6)) [a, b, c, some (.int k.p), x, y, z] g = .ok (.int (mostN k : Nat)) g := fun a b c x y z g => by
    cases k with
    | q =>
      have z : ¬ (0 : Int) < 0 := by omega
      rw [pq]
      push_cast [z]
      rfl
    | m n hn =>
      have p0 : 0 < (Fg.m n hn).p := pm_pos
      have em : Fw.kMin2 [.int 6, .int ((Fg.m n hn).p + 1)] = some (.int (mostN (.m n hn) : Nat)) := by
        show some (D.int (if (Fg.m n hn).p + 1 < 6 then (Fg.m n hn).p + 1 else 6)) = _
        rw [most_m, pm]
        congr 2
        split <;> omega
      push_cast [p0, em]
  have ml := most_le k
  have mg := most_ge k
  obtain ⟨r, h2, e2, r0, r1, i2⟩ := E_take (mostN k : Int) h1 i1 (by omega) (by omega)
  obtain ⟨s, rfl⟩ : ∃ s : Nat, r = s := ⟨r.toNat, by omega⟩
  have c1 : (1 : Int) + (s : Int) = ((s + 1 : Nat) : Int) := by omega
  obtain ⟨o, h3, e3, od, os, i3⟩ := E_points k (s + 1) h2 i2 (by omega)
  obtain ⟨h4, e4, i4⟩ := E_counts k h3 i3
  obtain ⟨h5, e5, i5⟩ := E_checks k (s + 1) o h4 i4 (by omega) (by omega) os
  obtain ⟨h6, e6, i6⟩ := E_powers_told k (s + 1) o h5 i5 (by omega) (by omega) od os
  obtain ⟨h7, e7, i7⟩ := E_rows_told k (s + 1) o h6 i6 (by omega) os
  refine ⟨some (.int k.p), some (fig k), some (.int (mostN k : Nat)), some (.lst (gen (s + 1) fun i => ptD k (o i))), h7, ?_, i7⟩
  unfold lwBody
  push_cast [e1, ↓mf, ↓em, e2, c1, e3, fig_vm, e4, e5, e6, e7]
end Lw
set_option exponentiation.threshold 20000
open PySem PySem.Spec L2 Fw Pd Dz Lw in
theorem M16.law_true : Fw.LawB 5 N16.B_law := fun cs t h1 h2 h3 h4 => by
  obtain ⟨δ', h', lp, y2, y3, y4, y5, y6, eδ, ih⟩ := for_draw (bind := bNm 2) (body := lwBody) (d := fun i => .int (i : Int)) (n := 3) (h := hand0 cs t) (δ := [none, some .me, none, none, none, none, none])
    (fun m δ h' => (∃ y2 y3 y4 y5 y6, δ = [none, some .me, y2, y3, y4, y5, y6] ∧ HandI h')) (fun i hi δ h2 ⟨y2, y3, y4, y5, y6, eδ, ih⟩ => by
      subst eδ
      obtain ⟨z3, z4, z5, z6, h3, e, i3⟩ := lw_turn (some (.int (i : Int))) y3 y4 y5 y6 h2 ih
      exact ⟨_, rfl, _, h3, e, _, z3, z4, z5, z6, rfl, i3⟩) ⟨none, none, none, none, none, rfl, hand_0 cs t h1 h2 h3 h4⟩
  subst eδ
  refine ⟨h', ?_⟩
  show (sSeq (sFor (iRg rg1 (eCons (eC (.int 3)) eNil)) (bNm 2) lwBody) (sRet (eC (.bl true)))) [none, some .me, none, none, none, none, none] (hand0 cs t) = _
  push_cast [lp]
open PySem PySem.W PySem.Calls PyProof.Rows
set_option maxRecDepth 100000 in
set_option maxHeartbeats 0 in
theorem PySem.Challenge.cw_sparedproducts_k16_whole_points_powers_a_holds : PySem.Challenge.rw_sparedproducts_k16_whole_points_powers_a.Holds := by
  w_on; o_law
  refine HandSHeadRun.head_imp (r := OpenLaw.row PySem.Challenge.rw_sparedproducts_k16_whole_points_powers_a) (q := view (OpenLaw.row PySem.Challenge.rw_sparedproducts_k16_whole_points_powers_a).prog [78]) (H := X16.hk) (ob := X16.ob) (M := 20000) (loose := X16.loose) (d := HandSHeadRun.topDef (OpenLaw.row PySem.Challenge.rw_sparedproducts_k16_whole_points_powers_a).prog 78) (kwd := []) X16.ob_eq
    X16.run (by kernel_rfl) (by kernel_rfl) (by kernel_rfl) (by rfl) (by first | assumption | decide +kernel) (by decide +kernel) ⟨rfl, rfl, rfl, rfl, rfl, by decide +kernel⟩ ?hw ?hc
  case hw => w_witness2
  case hc =>
    refine L2.walk_ofE (l := PySem.Challenge.rw_sparedproducts_k16_whole_points_powers_a) (n := 63) (k := 11) (x := "_law_script") (CX := L2.CX0) rfl (by decide) (by kernel_rfl) ⟨rfl, by decide, by decide⟩ ?F (fun _ _ _ _ z => z)
    intro w mg fa h Y G hmg0
    obtain ⟨K, KX, k, c⟩ := Y
    have T : Fw.Fs N16.tb K mg := Fw.Fs.of KX G k c
    have hmg : mg ("law" : PySem.Str) = some (.ref fa) := by
      have e : (HandSHeadRun.topDef (OpenLaw.row PySem.Challenge.rw_sparedproducts_k16_whole_points_powers_a).prog 78).name = ("law" : PySem.Str) := by kernel_rfl
      rw [← e]
      exact hmg0
    have e := hmg.symm.trans (T.gl 59 "law" rfl)
    cases e
    obtain ⟨fd, hb, hF⟩ := N16.law_ok (P := (PySem.Challenge.rw_sparedproducts_k16_whole_points_powers_a).prog) (w := w) T M16.law_true
    exact ⟨K, fd, Fw.spLaw K, KX, hb, fun H a ns hl _ hS => ⟨a, ns, rfl, hS, hl, fun _ => rfl⟩, fun base _ _ => hF base⟩
