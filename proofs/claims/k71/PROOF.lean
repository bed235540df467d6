import PyProof.Rows.All
import Wide.All
import OpenK.AllK
import Wide.FinOn
import KE.KStateDown
import HandS.ForExc
import HandS.IsInst
import HandS.Wide
import HandS.Evl
import HandS.Walk
import HandS.Comp
import HandS.List
import HandS.TupMul
import HandS.TupAny
import KE.KExcIs
import HandS.ExcInit
import HandS.ExcField
import HandS.ExcValue
import HandS.HeadHook2
import HandS.HeadEnd
import HandS.Head2
import HandS.SlotsOwn
import HandS.OwnEq
import HandS.Words
import HandS.ExcOwn
import HandS.Defaults
import HandS.IterVal
import HandS.OwnIter
import OpenK.KOps
import PyProof.WalksMore
import PyProof.InstNe
import KE.GoesMore
import HandS.Base
import HandS.Call
import HandS.Iter
import HandS.Zip
import HandS.Exc
import HandS.TryOnly
import HandS.Flow
import HandS.Gcd
import HandS.Style
import HandS.Rev
import HandS.RevRange
import HandS.Conv
import HandS.Flt
import HandS.Head3
import PySem.Challenge.RW_sparedproducts_k71_whole_plain_programs
set_option Elab.async false
set_option linter.all false
set_option maxRecDepth 100000
set_option maxHeartbeats 0
set_option exponentiation.threshold 20000
namespace Dz
open PySem PySem.Spec PyProof.Rows L2
def tyD : PyData → String
  | .none => "NoneType"
  | .bool _ => "bool"
  | .int _ => "int"
  | .str _ => "str"
  | .list _ => "list"
  | .tuple _ => "tuple"
  | .dict _ => "dict"
def isaB (t c : String) : Bool := t == c || (t == "bool" && c == "int")
theorem kit_bi {K : PySem.W.Frag} (d : PyData) {c : String} (hc : c = "int" ∨ c = "bool" ∨ c = "list" ∨ c = "tuple") : PySem.W.kitOne K (.type (tyD d)) (.type c) = some (isaB (tyD d) c) := by
  rcases hc with rfl | rfl | rfl | rfl <;> cases d <;> kernel_rfl
/-- a tuple or a list of classes -/
theorem kit_lt {K : PySem.W.Frag} (d : PyData) : PySem.W.kitAny K (.type (tyD d)) [.type "list", .type "tuple"] = some (isaB (tyD d) "list" || isaB (tyD d) "tuple") := by
  unfold PySem.W.kitAny
  rw [kit_bi d (.inr (.inr (.inl rfl)))]
  unfold PySem.W.kitAny
  rw [kit_bi d (.inr (.inr (.inr rfl)))]
  unfold PySem.W.kitAny
  cases d <;> rfl
mutual
theorem dp_same {K : PySem.W.Frag} {H H' : Hp} (s : Same H H') : ∀ (d : PyData) (v : V), Dp K H v d → Dp K H' v d
  | .none, _, h => by cases h; exact .non
  | .bool b, _, h => by cases h; exact .bl b
  | .int i, _, h => by cases h; exact .int i
  | .str x, _, h => by cases h; exact .str x
  | .list ds, _, h => by
    cases h with
    | lst hs ha => exact .lst (Evl.ex_l s hs) (dp_sameAll s ds _ ha)
  | .tuple ds, _, h => by
    cases h with
    | tup hs ha => exact .tup (Evl.ex_t s hs) (dp_sameAll s ds _ ha)
  | .dict _, _, h => by cases h
theorem dp_sameAll {K : PySem.W.Frag} {H H' : Hp} (s : Same H H') : ∀ (ds : List PyData) (vs : List V), DpAll K H vs ds → DpAll K H' vs ds
  | [], _, h => by cases h; exact .nil
  | d :: ds, _, h => by
    cases h with
    | cons h1 h2 => exact .cons (dp_same s d _ h1) (dp_sameAll s ds _ h2)
end
section
variable {K : PySem.W.Frag} {H : Hp} {v : V} {d : PyData}
theorem ty_dp (h : Dp K H v d) : TyX K H v (.type (tyD d)) := by
  cases h with
  | non => exact .base .non
  | bl b => exact .base (.bl b)
  | int i => exact .base (.int i)
  | str x => exact .base (.str x)
  | lst hs _ =>
    rcases hs with (hs | ⟨o, hs⟩) | ⟨o, its, n, hk, hc, _⟩
    · exact .base (.lst hs)
    · exact .base (.frz hs)
    · exact .kList hk hc
  | tup hs _ =>
    rcases hs with (hs | ⟨o, hs⟩) | ⟨o, its, n, hk, hc, _⟩
    · exact .base (.tup hs)
    · exact .fTuple hs
    · exact .kTuple hk hc
/-- isinstance(v, c): what is asked -/
theorem rd_isi {c : String} {Q : VK} (h : Dp K H v d) (hc : c = "int" ∨ c = "bool" ∨ c = "list" ∨ c = "tuple") (q : Q (.bl (isaB (tyD d) c)) H) : rIsi K [v, .ty c] H Q :=
  ⟨v, .ty c, _, _, _, rfl, .ty c, ty_dp h, kit_bi d hc, q⟩
theorem rd_lt {p : Addr} {Q : VK} (h : Dp K H v d) (hp : H p = some (.tup [.ty "list", .ty "tuple"])) (q : Q (.bl (isaB (tyD d) "list" || isaB (tyD d) "tuple")) H) : rIsiT K [v, .ref p] H Q :=
  ⟨v, p, _, _, [.type "list", .type "tuple"], _, rfl, hp, .cons (.ty _) (.cons (.ty _) .nil), ty_dp h, kit_lt d, q⟩
end
/-- whole numbers, texts, None, couples of these .. -/
def Fine (d : PyData) : Prop := SeqAt.shaped d = true
theorem ifT {b : Bool} {A B : Prop} (h : b = true) (k : A) : if b = true then A else B := by
  rw [if_pos h]
  exact k
theorem ifF {b : Bool} {A B : Prop} (h : b = false) (k : B) : if b = true then A else B := by
  rw [if_neg (by rw [h]; exact Bool.false_ne_true)]
  exact k
theorem same_new {H : Hp} {a : Addr} {o : HO} (h : H a = none) : Same H (upd H a o) := fun b u e => by
  rw [upd_ne (ne_of_none e h)]
  exact e
/-- the limits of is_whole -/
def Lim : V → Option Int → Prop
  | .non, o => o = none
  | .int i, o => o = some i
  | _, _ => False
def wholeD : PyData → Option Int → Option Int → Bool
  | .int i, l, h => l.all (fun z => decide (z ≤ i)) && h.all (fun z => decide (i ≤ z))
  | _, _, _ => false
def ratioD : PyData → Bool
  | .tuple [.int t, .int b] => decide (1 ≤ b) && (Nat.gcd t.natAbs b.natAbs == 1)
  | _ => false
theorem dec1 (g : Nat) : decide (V.int (g : Int) = V.int 1) = (g == 1) := by
  by_cases z : g = 1
  · rw [z]
    rfl
  · rw [decide_eq_false fun q => z (by have := V.int.inj q; omega), beq_eq_false_iff_ne.mpr z]
/-- top and bottom in lowest terms -/
def divi (t b : Int) : Int := if b < 0 then -((Nat.gcd t.natAbs b.natAbs : Nat) : Int) else ((Nat.gcd t.natAbs b.natAbs : Nat) : Int)
def lowT (t b : Int) : Int := t.fdiv (divi t b)
def lowB (t b : Int) : Int := b.fdiv (divi t b)
/-- small enough for every deed: below a thousand bits and some -/
def Sm (i : Int) : Prop := i.natAbs < 2 ^ 1000
def Sm4 (i : Int) : Prop := i.natAbs < 2 ^ 4000
theorem divi_ne {t b : Int} (h : b ≠ 0) : divi t b ≠ 0 := by
  have h1 : 0 < Nat.gcd t.natAbs b.natAbs := Nat.gcd_pos_of_pos_right _ (by omega)
  unfold divi
  split <;> omega
theorem divi_abs {t b : Int} : (divi t b).natAbs = Nat.gcd t.natAbs b.natAbs := by
  unfold divi
  split <;> omega
theorem divi_le {t b : Int} (h : b ≠ 0) : (divi t b).natAbs ≤ b.natAbs := by
  rw [divi_abs]
  exact Nat.gcd_le_right _ (by omega)
/-- // by a wide number that is not 0 -/
def CDivZ (_ j : Int) : Prop := j ≠ 0 ∧ j.natAbs.log2 < 9000
theorem op_fdivZ {X : Cx} : OpR X (binaryOp .FloorDiv) (rI CDivZ fun i j => .int (i.fdiv j)) := opI fun _ _ _ _ _ _ _ hc q => floordiv_int hc.1 q (.inl (PyProof.noPylong_of_log2 hc.2))
theorem log_of {i : Int} {n : Nat} (h0 : 0 < n) (h : i.natAbs < 2 ^ n) : i.natAbs.log2 < n := PySem.Flt.log2_lt_of h0 h
end Dz
namespace Dz
open PySem PySem.Spec PyProof.Rows L2
theorem dp_tup {K : PySem.W.Frag} {H : Hp} {v : V} {ds : List PyData} (h : Dp K H v (.tuple ds)) : ∃ a xs, v = .ref a ∧ SqT K H a xs ∧ DpAll K H xs ds := by
  cases h with
  | tup hs ha => exact ⟨_, _, rfl, hs, ha⟩
theorem dpAll_cons {K : PySem.W.Frag} {H : Hp} {xs : List V} {d : PyData} {ds : List PyData} (h : DpAll K H xs (d :: ds)) : ∃ x r, xs = x :: r ∧ Dp K H x d ∧ DpAll K H r ds := by
  cases h with
  | cons h1 h2 => exact ⟨_, _, rfl, h1, h2⟩
theorem dpAll_nil {K : PySem.W.Frag} {H : Hp} {xs : List V} (h : DpAll K H xs []) : xs = [] := by
  cases h
  rfl
theorem dp_int {K : PySem.W.Frag} {H : Hp} {v : V} {i : Int} (h : Dp K H v (.int i)) : v = .int i := by
  cases h
  rfl
theorem dp_two {K : PySem.W.Frag} {H : Hp} {v : V} {t b : Int} (h : Dp K H v (.tuple [.int t, .int b])) : ∃ a, v = .ref a ∧ SqT K H a [.int t, .int b] := by
  obtain ⟨a, xs, e, hs, ha⟩ := dp_tup h
  obtain ⟨u, r, rfl, hu, hr⟩ := dpAll_cons ha
  obtain ⟨u2, r2, rfl, hu2, hr2⟩ := dpAll_cons hr
  have e3 := dpAll_nil hr2
  subst e3
  rw [dp_int hu, dp_int hu2] at hs
  exact ⟨a, e, hs⟩
theorem dp_of2 {K : PySem.W.Frag} {H : Hp} {a : Addr} {t b : Int} (hs : SqT K H a [.int t, .int b]) : Dp K H (.ref a) (.tuple [.int t, .int b]) := .tup hs (.cons (.int t) (.cons (.int b) .nil))
end Dz
set_option maxHeartbeats 2000000
set_option exponentiation.threshold 20000
namespace Mt
open PySem PySem.Spec L2 Dz
theorem divi_dvd_t {t b : Int} : divi t b ∣ t := by
  have h : ((Nat.gcd t.natAbs b.natAbs : Nat) : Int) ∣ t := Int.ofNat_dvd_left.mpr (Nat.gcd_dvd_left ..)
  unfold divi
  split
  · exact Int.neg_dvd.mpr h
  · exact h
theorem divi_dvd_b {t b : Int} : divi t b ∣ b := by
  have h : ((Nat.gcd t.natAbs b.natAbs : Nat) : Int) ∣ b := Int.ofNat_dvd_left.mpr (Nat.gcd_dvd_right ..)
  unfold divi
  split
  · exact Int.neg_dvd.mpr h
  · exact h
theorem lowT_abs {t b : Int} : (lowT t b).natAbs = t.natAbs / Nat.gcd t.natAbs b.natAbs := by
  unfold lowT
  rw [Int.fdiv_eq_ediv_of_dvd divi_dvd_t, Int.natAbs_ediv_of_dvd divi_dvd_t, divi_abs]
theorem lowB_abs {t b : Int} : (lowB t b).natAbs = b.natAbs / Nat.gcd t.natAbs b.natAbs := by
  unfold lowB
  rw [Int.fdiv_eq_ediv_of_dvd divi_dvd_b, Int.natAbs_ediv_of_dvd divi_dvd_b, divi_abs]
theorem lowB_pos {t b : Int} (h : b ≠ 0) : 1 ≤ lowB t b := by
  have e : lowB t b * divi t b = b := by
    unfold lowB
    rw [Int.fdiv_eq_ediv_of_dvd divi_dvd_b]
    exact Int.ediv_mul_cancel divi_dvd_b
  have g : 0 < Nat.gcd t.natAbs b.natAbs := Nat.gcd_pos_of_pos_right _ (by omega)
  by_cases h0 : b < 0
  · have d : divi t b < 0 := by unfold divi; rw [if_pos h0]; omega
    refine Classical.byContradiction fun z => ?_
    have z2 : 0 ≤ lowB t b * divi t b := Int.mul_nonneg_of_nonpos_of_nonpos (by omega) (by omega)
    omega
  · have d : 0 < divi t b := by unfold divi; rw [if_neg h0]; omega
    refine Classical.byContradiction fun z => ?_
    have z2 : lowB t b * divi t b ≤ 0 := Int.mul_nonpos_of_nonpos_of_nonneg (by omega) (by omega)
    omega
theorem low_gcd {t b : Int} (h : b ≠ 0) : Nat.gcd (lowT t b).natAbs (lowB t b).natAbs = 1 := by
  rw [lowT_abs, lowB_abs]
  exact Nat.gcd_div_gcd_div_gcd_of_pos_right (by omega)
/-- a couple in lowest terms is a ratio -/
def Low (t b : Int) : Prop := 1 ≤ b ∧ Nat.gcd t.natAbs b.natAbs = 1
theorem low_low {t b : Int} (h : b ≠ 0) : Low (lowT t b) (lowB t b) := ⟨lowB_pos h, low_gcd h⟩
theorem ratioD_low {t b : Int} (h : Low t b) : ratioD (.tuple [.int t, .int b]) = true := by
  show (decide (1 ≤ b) && (Nat.gcd t.natAbs b.natAbs == 1)) = true
  rw [decide_eq_true h.1, h.2]
  rfl
theorem lowT_le {t b : Int} : (lowT t b).natAbs ≤ t.natAbs := by
  rw [lowT_abs]
  exact Nat.div_le_self ..
theorem lowB_le {t b : Int} : (lowB t b).natAbs ≤ b.natAbs := by
  rw [lowB_abs]
  exact Nat.div_le_self ..
/-- a drawn fraction -/
structure Frac (t b : Int) : Prop where
  low : Low t b
  t1 : t.natAbs ≤ 1000000000
  b1 : b ≤ 12
theorem frac_low {t b : Int} (h1 : t.natAbs ≤ 1000000000) (h2 : 1 ≤ b) (h3 : b ≤ 12) : Frac (lowT t b) (lowB t b) := by
  refine ⟨low_low (by omega), Nat.le_trans lowT_le h1, ?_⟩
  have := lowB_le (t := t) (b := b)
  omega
theorem pow64 : (2 : Nat) ^ 64 ≤ 2 ^ 1000 := Nat.pow_le_pow_right (by decide) (by decide)
theorem sm_of {i : Int} (h : i.natAbs < 2 ^ 64) : Sm i := Nat.lt_of_lt_of_le h pow64
theorem sm4_of64 {i : Int} (h : i.natAbs < 2 ^ 64) : Sm4 i := Nat.lt_of_lt_of_le h (Nat.pow_le_pow_right (by decide) (by decide))
theorem Frac.smT {t b : Int} (h : Frac t b) : Sm t := sm_of (by have := h.t1; omega)
theorem Frac.smB {t b : Int} (h : Frac t b) : Sm b := sm_of (by have := h.b1; have := h.low.1; omega)
theorem Frac.ne {t b : Int} (h : Frac t b) : b ≠ 0 := by have := h.low.1; omega
theorem mul_lt64 {i j : Int} (hi : i.natAbs ≤ 2 ^ 31) (hj : j.natAbs ≤ 2 ^ 31) : (i * j).natAbs ≤ 2 ^ 62 := by
  rw [Int.natAbs_mul]
  exact Nat.le_trans (Nat.mul_le_mul hi hj) (by decide)
theorem Frac.a31 {t b : Int} (h : Frac t b) : t.natAbs ≤ 2 ^ 31 := by have := h.t1; omega
theorem Frac.b31 {t b : Int} (h : Frac t b) : b.natAbs ≤ 2 ^ 31 := by have := h.b1; have := h.low.1; omega
theorem half {x y : Nat} (hy : 0 < y) (h : y ≤ x) : 2 * (x % y) ≤ x := by
  have h1 := Nat.mod_lt x hy
  have h2 := Nat.div_add_mod x y
  have h3 : 1 ≤ x / y := Nat.div_pos h hy
  have h4 : y * 1 ≤ y * (x / y) := Nat.mul_le_mul_left y h3
  omega
theorem step_lt {x y n : Nat} (hy : 0 < y) (h : y ≤ x) (hl : x * y < 2 ^ (n + 1)) : y * (x % y) < 2 ^ n := by
  have h1 := half hy h
  have h2 : y * (2 * (x % y)) ≤ y * x := Nat.mul_le_mul_left y h1
  have e : y * (2 * (x % y)) = 2 * (y * (x % y)) := by
    rw [← Nat.mul_assoc, Nat.mul_comm y 2, Nat.mul_assoc]
  rw [e, Nat.mul_comm y x] at h2
  rw [Nat.pow_succ] at hl
  omega
theorem gcd_step (x y : Nat) : Nat.gcd y (x % y) = Nat.gcd x y := by
  rw [Nat.gcd_comm x y, Nat.gcd_rec y x, Nat.gcd_comm]
theorem undo {i j r p : Int} (h0 : 0 ≤ i) (h1 : i < p) (h : j * r % p = 1) : i * r % p * j % p = i := by
  have e : i * r % p * j % p = i * r * j % p := by
    rw [Int.mul_emod (i * r % p) j p, Int.emod_emod_of_dvd _ (Int.dvd_refl p), ← Int.mul_emod]
  have e2 : i * r * j = i * (j * r) := by
    rw [Int.mul_assoc, Int.mul_comm r j]
  rw [e, e2, Int.mul_emod, h, Int.mul_one, Int.emod_emod_of_dvd _ (Int.dvd_refl p), Int.emod_eq_of_lt h0 h1]
theorem undo0 {a b r p : Int} (h : b % p * r % p = 1) : (a % p * r % p * b - a) % p = 0 := by
  have e : a % p * r % p * b % p = a % p := by
    rw [Int.mul_emod (a % p * r % p) b p, Int.emod_emod_of_dvd _ (Int.dvd_refl p), ← Int.mul_emod]
    have e2 : a % p * r * b % p = a % p * (b % p * r) % p := by
      rw [Int.mul_assoc, Int.mul_emod (a % p) (r * b) p, Int.mul_comm r b, Int.mul_emod b r p, Int.mul_emod (a % p) (b % p * r) p, Int.mul_emod (b % p) r p]
      rw [Int.emod_emod_of_dvd b (Int.dvd_refl p)]
    rw [e2, Int.mul_emod, h, Int.mul_one, Int.emod_emod_of_dvd _ (Int.dvd_refl p), Int.emod_emod_of_dvd _ (Int.dvd_refl p)]
  rw [Int.sub_emod, e, Int.sub_self, Int.zero_emod]
end Mt
set_option maxHeartbeats 2000000
namespace Vz
open PySem PySem.Spec PyProof.Rows L2 Dz
structure Mv (G H G' H' : Hp) : Prop where
  gg : Same G G'
  gh : Same G' H'
  nw : ∀ a, H a ≠ none → G' a = G a
  dm : ∀ a, H a ≠ none → H' a ≠ none
theorem some_ne {α : Type} {x : Option α} {o : α} (h : x = some o) : x ≠ none := fun z => by rw [h] at z; cases z
theorem ne_some {α : Type} {x : Option α} (h : x ≠ none) : ∃ o, x = some o := by
  cases x with
  | none => exact absurd rfl h
  | some o => exact ⟨o, rfl⟩
theorem old_none {G H : Hp} {p : Addr} (s : Same G H) (hp : H p = none) : G p = none := by
  cases e : G p with
  | none => rfl
  | some o =>
    rw [s p o e] at hp
    cases hp
section
variable {G H G1 H1 G2 H2 G' H' : Hp}
theorem Mv.refl (s : Same G H) : Mv G H G H := ⟨Same.refl _, s, fun _ _ => rfl, fun _ h => h⟩
theorem Mv.trans (x : Mv G H G1 H1) (y : Mv G1 H1 G2 H2) : Mv G H G2 H2 :=
  ⟨x.gg.trans y.gg, y.gh, fun a h => (y.nw a (x.dm a h)).trans (x.nw a h), fun a h => y.dm a (x.dm a h)⟩
theorem Mv.of (s : Same G H) (t : Same H H') : Mv G H G H' :=
  ⟨Same.refl _, s.trans t, fun _ _ => rfl, fun a h => by
    obtain ⟨o, e⟩ := ne_some h
    exact some_ne (t a o e)⟩
theorem Mv.new {p : Addr} {o : HO} (s : Same G H) (hp : H p = none) : Mv G H (upd G p o) (upd H p o) := by
  have gp := old_none s hp
  refine ⟨same_new gp, fun b u e => ?_, fun a h => ?_, fun a h => ?_⟩
  · by_cases hb : b = p
    · subst hb
      rw [upd_same] at e ⊢
      exact e
    · rw [upd_ne hb] at e ⊢
      exact s b u e
  · rw [upd_ne fun z => h (by rw [z]; exact hp)]
  · rw [upd_ne fun z => h (by rw [z]; exact hp)]
    exact h
/-- a new object that stays out of the view -/
theorem Mv.hid {p : Addr} {o : HO} (s : Same G H) (hp : H p = none) : Mv G H G (upd H p o) := Mv.of s (same_new hp)
/-- an object out of the view changes -/
theorem Mv.put {p : Addr} {o : HO} (s : Same G H) (gp : G p = none) (hp : H p ≠ none) : Mv G H G (upd H p o) := by
  refine ⟨Same.refl _, fun b u e => ?_, fun _ _ => rfl, fun a h => ?_⟩
  · rw [upd_ne (ne_of_none e gp)]
    exact s b u e
  · by_cases ha : a = p
    · rw [ha, upd_same]
      exact fun z => nomatch z
    · rw [upd_ne ha]
      exact h
/-- an object out of the view comes in as it stands -/
theorem Mv.shut {p : Addr} {o : HO} (x : Mv G H G1 H1) (np : H p = none) (g1 : G1 p = none) (hp : H1 p = some o) : Mv G H (upd G1 p o) H1 := by
  refine ⟨x.gg.trans (same_new g1), fun b u e => ?_, fun a h => ?_, x.dm⟩
  · by_cases hb : b = p
    · subst hb
      rw [upd_same] at e
      rw [hp]
      exact e
    · rw [upd_ne hb] at e
      exact x.gh b u e
  · rw [upd_ne fun z => h (by rw [z]; exact np)]
    exact x.nw a h
theorem Mv.no {p : Addr} (x : Mv G H G1 H1) (hp : H p ≠ none) (gp : G p = none) : G1 p = none := (x.nw p hp).trans gp
/-- what a deed keeps that changes only what ex tells -/
def Kp (ex : Addr → Prop) (H H' : Hp) : Prop := ∀ b o, ¬ ex b → H b = some o → H' b = some o
def no1 : Addr → Prop := fun _ => False
theorem Kp.refl {ex : Addr → Prop} : Kp ex H H := fun _ _ _ h => h
theorem Kp.trans {ex : Addr → Prop} (x : Kp ex H H1) (y : Kp ex H1 H2) : Kp ex H H2 := fun b o hb e => y b o hb (x b o hb e)
theorem Kp.same (x : Kp no1 H H1) : Same H H1 := fun b o e => x b o id e
theorem Kp.of {ex : Addr → Prop} (s : Same H H1) : Kp ex H H1 := fun b o _ e => s b o e
end
theorem dpAll_append {K : PySem.W.Frag} {H : Hp} : ∀ {xs ys : List V} {ds es : List PyData}, DpAll K H xs ds → DpAll K H ys es → DpAll K H (xs ++ ys) (ds ++ es)
  | _, _, [], _, h, k => by
    have e := dpAll_nil h
    subst e
    exact k
  | _, _, d :: ds, _, h, k => by
    obtain ⟨x, r, rfl, h1, h2⟩ := dpAll_cons h
    exact .cons h1 (dpAll_append h2 k)
theorem dpAll_len {K : PySem.W.Frag} {H : Hp} : ∀ {xs : List V} {ds : List PyData}, DpAll K H xs ds → xs.length = ds.length
  | _, [], h => by
    have e := dpAll_nil h
    subst e
    rfl
  | _, d :: ds, h => by
    obtain ⟨x, r, rfl, h1, h2⟩ := dpAll_cons h
    rw [List.length_cons, List.length_cons, dpAll_len h2]
theorem dpAll_get {K : PySem.W.Frag} {H : Hp} : ∀ {xs : List V} {ds : List PyData} {i : Nat} {x : V}, DpAll K H xs ds → xs[i]? = some x → ∃ d, ds[i]? = some d ∧ Dp K H x d
  | _, [], i, x, h, e => by
    have z := dpAll_nil h
    subst z
    simp at e
  | _, d :: ds, i, x, h, e => by
    obtain ⟨y, r, rfl, h1, h2⟩ := dpAll_cons h
    cases i with
    | zero =>
      have z : y = x := by simpa using e
      subst z
      exact ⟨d, rfl, h1⟩
    | succ i =>
      obtain ⟨d', e', h'⟩ := dpAll_get (i := i) h2 (by simpa using e)
      exact ⟨d', by simpa using e', h'⟩
theorem dpAll_at {K : PySem.W.Frag} {H : Hp} : ∀ {xs : List V} {ds : List PyData} {i : Nat} {d : PyData}, DpAll K H xs ds → ds[i]? = some d → ∃ x, xs[i]? = some x ∧ Dp K H x d
  | _, [], i, d, h, e => by simp at e
  | _, d0 :: ds, i, d, h, e => by
    obtain ⟨y, r, rfl, h1, h2⟩ := dpAll_cons h
    cases i with
    | zero =>
      have z : d0 = d := by simpa using e
      subst z
      exact ⟨y, rfl, h1⟩
    | succ i =>
      obtain ⟨x, e', h'⟩ := dpAll_at (i := i) h2 (by simpa using e)
      exact ⟨x, by simpa using e', h'⟩
theorem dpAll_drop {K : PySem.W.Frag} {H : Hp} : ∀ {xs : List V} {ds : List PyData} (n : Nat), DpAll K H xs ds → DpAll K H (xs.drop n) (ds.drop n)
  | xs, ds, 0, h => by simpa using h
  | _, [], n + 1, h => by
    have e := dpAll_nil h
    subst e
    exact h
  | _, d :: ds, n + 1, h => by
    obtain ⟨y, r, rfl, h1, h2⟩ := dpAll_cons h
    exact dpAll_drop n h2
theorem dpAll_take {K : PySem.W.Frag} {H : Hp} : ∀ {xs : List V} {ds : List PyData} (n : Nat), DpAll K H xs ds → DpAll K H (xs.take n) (ds.take n)
  | xs, ds, 0, h => by
    rw [List.take_zero, List.take_zero]
    exact .nil
  | _, [], n + 1, h => by
    have e := dpAll_nil h
    subst e
    exact h
  | _, d :: ds, n + 1, h => by
    obtain ⟨y, r, rfl, h1, h2⟩ := dpAll_cons h
    exact .cons h1 (dpAll_take n h2)
theorem dpAll_set {K : PySem.W.Frag} {H : Hp} : ∀ {xs : List V} {ds : List PyData} (n : Nat) {x : V} {d : PyData}, DpAll K H xs ds → Dp K H x d → DpAll K H (xs.set n x) (ds.set n d)
  | _, [], n, x, d, h, k => by
    have e := dpAll_nil h
    subst e
    exact h
  | _, d0 :: ds, 0, x, d, h, k => by
    obtain ⟨y, r, rfl, h1, h2⟩ := dpAll_cons h
    exact .cons k h2
  | _, d0 :: ds, n + 1, x, d, h, k => by
    obtain ⟨y, r, rfl, h1, h2⟩ := dpAll_cons h
    exact .cons h1 (dpAll_set n h2 k)
theorem dp_lst {K : PySem.W.Frag} {H : Hp} {v : V} {ds : List PyData} (h : Dp K H v (.list ds)) : ∃ a xs, v = .ref a ∧ SqL K H a xs ∧ DpAll K H xs ds := by
  cases h with
  | lst hs ha => exact ⟨_, _, rfl, hs, ha⟩
/-- the items of a sequence of data, in a list or in a tuple -/
inductive Sq : PyData → List PyData → Prop
  | lst (ds : List PyData) : Sq (.list ds) ds
  | tup (ds : List PyData) : Sq (.tuple ds) ds
theorem sq_dp {K : PySem.W.Frag} {H : Hp} {v : V} {d : PyData} {ds : List PyData} (q : Sq d ds) (h : Dp K H v d) : ∃ a xs, v = .ref a ∧ (SqL K H a xs ∨ SqT K H a xs) ∧ DpAll K H xs ds := by
  cases q with
  | lst =>
    obtain ⟨a, xs, e, h1, h2⟩ := dp_lst h
    exact ⟨a, xs, e, .inl h1, h2⟩
  | tup =>
    obtain ⟨a, xs, e, h1, h2⟩ := dp_tup h
    exact ⟨a, xs, e, .inr h1, h2⟩
theorem pi_or {X : Cx} {tg it : Expr} {w1 w2 : TI} (h1 : PI X tg it w1) (h2 : PI X tg it w2) : PI X tg it (fun σ H R => w1 σ H R ∨ w2 σ H R) :=
  ⟨fun pins s σ H R I h => h.elim (h1.run pins s σ H R I) (h2.run pins s σ H R I)⟩
theorem op_or {X : Cx} {f : Value → Value → Sem Value} {r1 r2 : R2} (h1 : OpR X f r1) (h2 : OpR X f r2) : OpR X f (fun x y H Q => r1 x y H Q ∨ r2 x y H Q) :=
  fun pins s σ H x y v u Q I rx ry h => h.elim (h1 pins s σ H x y v u Q I rx ry) (h2 pins s σ H x y v u Q I rx ry)
theorem call_or {X : Cx} {f : Value} {r1 r2 : List V → Hp → VK → Prop} (h1 : CallR X f r1) (h2 : CallR X f r2) : CallR X f (fun xs H Q => r1 xs H Q ∨ r2 xs H Q) :=
  fun pins s σ H xs us Q I r h => h.elim (h1 pins s σ H xs us Q I r) (h2 pins s σ H xs us Q I r)
theorem pi_tupK {X : Cx} {K : PySem.W.Frag} {tg l : Expr} {tl : TE} (h : X.K = K) (hl : PE X l tl) : PI X tg l (iTup K tl) := by
  rw [← h]
  exact pi_tup hl
theorem pi_listK {X : Cx} {K : PySem.W.Frag} {tg l : Expr} {tl : TE} (h : X.K = K) (hl : PE X l tl) : PI X tg l (iList K tl) := by
  rw [← h]
  exact pi_list hl
theorem ix_tupK {X : Cx} {K : PySem.W.Frag} (h : X.K = K) : IxR X (rIxT K) := by
  rw [← h]
  exact ix_tup
theorem ix_listK {X : Cx} {K : PySem.W.Frag} (h : X.K = K) : IxR X (rIxL K) := by
  rw [← h]
  exact ix_list
theorem call_tuple_ofK {X : Cx} {K : PySem.W.Frag} (h : X.K = K) : CallR X (.type "tuple") (fun xs H Q => ∃ p ys, xs = [.ref p] ∧ ((SqL K H p ys ∧ ∀ l, H l = none → Q (.ref l) (upd H l (.tup ys))) ∨ (SqT K H p ys ∧ Q (.ref p) H))) := by
  rw [← h]
  exact call_tuple_of
section
variable {K : PySem.W.Frag} {J : It} {n : Nat} {Gd : Hp → Prop} {Y : Nat → Hp → V → Hp → Prop} {g : TG} {tt : TT} {te : TE} {vs : List Nat} {σ : L2.St} {G1 H1 : Hp} {D : Addr} {Qd : Hp → Prop}
/-- what a comprehension's loop asks -/
abbrev LcW (J : It) (g : TG) (tt : TT) (te : TE) (vs : List Nat) (σ : L2.St) (H1 : Hp) (D : Addr) (Qd : Hp → Prop) : Prop :=
  ∃ W : Nat → Nat → Hp → Prop, (∃ m, W 0 m (upd H1 D (.lst []))) ∧ ∀ i m H, W i m H →
      (J.stop i H ∧ Qd H) ∨ (J.go i H ∧ ∃ Nx : Hp → Prop, (∀ H', Nx H' → ∃ m', m' < m ∧ W (i + 1) m' H') ∧ ∀ x H', J.yld i H x H' → g x (wipe σ vs) H' fun σ2 H2 => wipe σ2 vs = wipe σ vs ∧ tt σ2 H2 fun b H3 =>
        if b = true then te σ2 H3 fun y H4 => ∃ acc, H4 D = some (.lst acc) ∧ acc.length < sizeLine ∧ Nx (upd H4 D (.lst (acc ++ [y]))) else Nx H3)
/-- one item made: the result is of R i -/
structure Made (K : PySem.W.Frag) (ex : Addr → Prop) (I : Hp → Prop) (R : PyData → Prop) (G H : Hp) (y : V) (H4 : Hp) : Prop where
  ok : ∃ d G', R d ∧ Mv G H G' H4 ∧ Kp ex H H4 ∧ I H4 ∧ Dp K G' y d
theorem lcV (w : Walk J n Gd Y) (ex : Addr → Prop) (I : Hp → Prop) (R : Nat → PyData → Prop)
    (s1 : Same G1 H1) (hD : H1 D = none) (hx : ¬ ex D) (hn : n ≤ 1000) (i1 : I H1) (hI : ∀ H o, I H → (∀ b u, H1 b = some u → ¬ ex b → H b = some u) → I (upd H D o)) (hGd : ∀ G H, Same G1 G → Same G H → Kp ex H1 H → Gd H)
    (hs : ∀ i x G H H' (k kn : Hp → Prop) (kk : VK), i < n → Mv G1 (upd H1 D (.lst [])) G H → Kp ex H1 H → I H → Y i H x H' → (∀ y H4, Made K ex I (R i) G H y H4 → kk y H4) →
      g x (wipe σ vs) H' fun σ2 H2 => wipe σ2 vs = wipe σ vs ∧ tt σ2 H2 fun b H3 => if b = true then te σ2 H3 kk else kn H3)
    (q : ∀ acc ds G2 H2, H2 D = some (.lst acc) → DpAll K G2 acc ds → ds.length = n → (∀ i d, ds[i]? = some d → R i d) → Mv G1 (upd H1 D (.lst [])) G2 H2 → Kp ex H1 H2 → I H2 → Qd H2) :
    LcW J g tt te vs σ H1 D Qd := by
  have g1D := old_none s1 hD
  have h0D : (upd H1 D (.lst [])) D ≠ none := by
    rw [upd_same]
    exact fun z => nomatch z
  refine lc_it w (fun i H => ∃ acc ds G, H D = some (.lst acc) ∧ DpAll K G acc ds ∧ ds.length = i ∧ i ≤ n ∧ (∀ j d, ds[j]? = some d → R j d) ∧ Mv G1 (upd H1 D (.lst [])) G H ∧ Kp ex H1 H ∧ I H) ?_ ?_ ?_ ?_
  · refine ⟨[], [], G1, upd_same, .nil, rfl, Nat.zero_le _, (fun j d e => by simp at e), Mv.refl (s1.trans (same_new hD)), Kp.of (same_new hD), hI _ _ i1 (fun b u e _ => e)⟩
  · rintro i H hi ⟨acc, ds, G, h1, h2, h3, _, h4, h5, h6, h7⟩
    exact hGd G H h5.gg h5.gh h6
  · rintro i x H H' hi ⟨acc, ds, G, h1, h2, h3, h30, h4, h5, h6, h7⟩ y
    refine hs i x G H H' (fun _ => True) _ _ hi h5 h6 h7 y ?_
    rintro z H4 ⟨⟨d, G', r, m, kp, i4, hd⟩⟩
    have hD4 : H4 D = some (.lst acc) := kp D _ hx h1
    have gD : G D = none := h5.no h0D g1D
    have gD' : G' D = none := m.no (some_ne h1) gD
    have la : acc.length = i := (dpAll_len h2).trans h3
    refine ⟨acc, hD4, Nat.lt_of_le_of_lt (by omega : acc.length ≤ 1000) (by decide), acc ++ [z], ds ++ [d], G', upd_same, dpAll_append (dp_sameAll m.gg _ _ h2) (.cons hd .nil), by rw [List.length_append, h3]; rfl, hi, ?_, ?_, ?_, ?_⟩
    · intro j e hj
      by_cases hjl : j < ds.length
      · rw [List.getElem?_append_left hjl] at hj
        exact h4 j e hj
      · have hjl2 : j = ds.length := by
          have := (List.getElem?_eq_some_iff.mp hj).1
          rw [List.length_append, List.length_singleton] at this
          omega
        subst hjl2
        have e2 : d = e := by simpa using hj
        subst e2
        rw [h3]
        exact r
    · exact (h5.trans m).trans (Mv.put m.gh gD' (some_ne hD4))
    · intro b u hb e
      rw [upd_ne (ne_of_none e hD)]
      exact kp b u hb (h6 b u hb e)
    · exact hI _ _ i4 fun b u e hb => kp b u hb (h6 b u hb e)
  · rintro H ⟨acc, ds, G, h1, h2, h3, _, h4, h5, h6, h7⟩
    exact q acc ds G H h1 h2 h3 h4 h5 h6 h7
/-- the finished list comes into the view -/
theorem shut_lc {acc : List V} {ds : List PyData} {G2 H2 : Hp} (s1 : Same G1 H1) (hD : H1 D = none) (h1 : H2 D = some (.lst acc)) (h2 : DpAll K G2 acc ds) (m : Mv G1 (upd H1 D (.lst [])) G2 H2) :
    Mv G1 H1 (upd G2 D (.lst acc)) H2 ∧ Dp K (upd G2 D (.lst acc)) (.ref D) (.list ds) := by
  have h0D : (upd H1 D (.lst [])) D ≠ none := by
    rw [upd_same]
    exact fun z => nomatch z
  have gD : G2 D = none := m.no h0D (old_none s1 hD)
  exact ⟨Mv.shut ((Mv.hid s1 hD).trans m) hD gD h1, .lst (SqL.of upd_same) (dp_sameAll (same_new gD) _ _ h2)⟩
end
end Vz
namespace Kx
open PySem PySem.Spec PyProof.Rows L2
/-- what is asked of an error class at C, a child of the class at P -/
structure Er (K : PySem.W.Frag) (P C : Addr) : Prop where
  ox : OexC K C
  mro : ∃ cd, PySem.W.clsIn K C = some cd ∧ cd.mro = .ref C :: .ref P :: PySem.HandSPX.veTail
  ga : PySem.W.findIn K (.ref C) "__getattribute__" = some (some (.builtin "BaseException.__getattribute__"))
  gg : PySem.W.findIn K (.ref C) "__getattr__" = some none
  hd : PySem.W.hasDictIn K C = true
  ca : PySem.W.findIn K (.ref C) "__class__" = some (some (.builtin "object.__class__"))
/-- what is asked of object.__class__ -/
structure Gt (K : PySem.W.Frag) : Prop where
  hn : PySem.W.specialIn K (.builtin "object.__class__") "__get__" = some (some (.builtin "getset_descriptor.__get__"))
  ht : PySem.W.takesIn K (.builtin "object.__class__") = some true
section
variable {K : PySem.W.Frag} {P C D : Addr}
theorem Er.xf (e : Er K P C) : XfC K C := ⟨e.ga, e.gg, e.ox.exC, e.hd⟩
theorem Er.mroIn (e : Er K P C) (b : Value) : PySem.W.mroIn K C b = some ((Value.ref C :: .ref P :: PySem.HandSPX.veTail).contains b) := by
  obtain ⟨cd, h1, h2⟩ := e.mro
  unfold PySem.W.mroIn
  rw [h1, Option.bind_some, h2]
  rfl
theorem Er.kit (e : Er K P C) (g : Gt K) {x : Addr} {ox : Obj} {od : Option Obj} : PySem.W.KitX K (.ref x) (.ref C) (fun h => PySem.W.InstAt h x ox C od) :=
  PySem.W.kitx_exc (by obtain ⟨cd, h1, _⟩ := e.mro; rw [h1]; rfl) e.ga e.gg e.ox.exC e.ca g.hn g.ht (by rw [e.mroIn]; rfl)
/-- isinstance of an instance of C against the class at D -/
theorem Er.one (e : Er K P C) (d : Er K P D) (hP : D ≠ P) : PySem.W.kitOne K (.ref C) (.ref D) = some (decide (C = D)) := by
  unfold PySem.W.kitOne
  by_cases h : C = D
  · subst h
    rw [if_pos (beq_self_eq_true _), decide_eq_true rfl]
  · have hb : (Value.ref C == Value.ref D) = false := beq_eq_false_iff_ne.mpr fun z => h (Value.ref.inj z)
    rw [if_neg (by rw [hb]; exact Bool.false_ne_true), decide_eq_false h]
    unfold PySem.W.kitCls
    obtain ⟨cd, h1, _⟩ := d.mro
    have z : ((PySem.W.clsIn K D).isSome && PySem.W.typeIn K (.ref D) == some (.type "type")) = true := by rw [h1, d.ox.tyC]; rfl
    show (if ((PySem.W.clsIn K D).isSome && PySem.W.typeIn K (.ref D) == some (.type "type")) = true then PySem.W.subIn K (.ref C) (.ref D) else none) = some false
    rw [if_pos z]
    show PySem.W.mroIn K C (.ref D) = some false
    rw [e.mroIn]
    have h2 : (Value.ref D == Value.ref C) = false := beq_eq_false_iff_ne.mpr fun z => h (Value.ref.inj z).symm
    have h3 : (Value.ref D == Value.ref P) = false := beq_eq_false_iff_ne.mpr fun z => hP (Value.ref.inj z)
    rw [List.contains_cons, List.contains_cons, h2, h3]
    rfl
/-- .. against their parent -/
theorem Er.up (e : Er K P C) (hP : (PySem.W.clsIn K P).isSome = true ∧ PySem.W.typeIn K (.ref P) = some (.type "type")) (h : C ≠ P) : PySem.W.kitOne K (.ref C) (.ref P) = some true := by
  unfold PySem.W.kitOne
  have hb : (Value.ref C == Value.ref P) = false := beq_eq_false_iff_ne.mpr fun z => h (Value.ref.inj z)
  rw [if_neg (by rw [hb]; exact Bool.false_ne_true)]
  have z : ((PySem.W.clsIn K P).isSome && PySem.W.typeIn K (.ref P) == some (.type "type")) = true := by rw [hP.1, hP.2]; rfl
  show (if ((PySem.W.clsIn K P).isSome && PySem.W.typeIn K (.ref P) == some (.type "type")) = true then PySem.W.subIn K (.ref C) (.ref P) else none) = some true
  rw [if_pos z]
  show PySem.W.mroIn K C (.ref P) = some true
  rw [e.mroIn, List.contains_cons, List.contains_cons, beq_self_eq_true, Bool.true_or, Bool.or_true]
theorem Er.ve (e : Er K P C) : PySem.W.kitOne K (.ref C) (.type "ValueError") = some true := by
  unfold PySem.W.kitOne
  rw [if_neg (by rw [show (Value.ref C == Value.type "ValueError") = false from rfl]; exact Bool.false_ne_true)]
  show (if PySem.W.kitMeta "ValueError" = true then PySem.W.subIn K (.ref C) (.type "ValueError") else none) = some true
  rw [if_pos (by decide +kernel)]
  show PySem.W.mroIn K C (.type "ValueError") = some true
  rw [e.mroIn]
  rfl
end
/-- at a an exception of the class at C whose fields are fs -/
def ExAt (H : Hp) (a C : Addr) (fs : List (Str × V)) : Prop := (fs = [] ∧ H a = some (exo a C none)) ∨ ∃ d, H a = some (exo a C (some d)) ∧ H d = some (exd d fs)
theorem ExAt.same {H H' : Hp} {a C : Addr} {fs : List (Str × V)} (s : Same H H') (e : ExAt H a C fs) : ExAt H' a C fs := by
  rcases e with ⟨h, e⟩ | ⟨d, e1, e2⟩
  · exact .inl ⟨h, s _ _ e⟩
  · exact .inr ⟨d, s _ _ e1, s _ _ e2⟩
section
variable {X : Cx} {P C : Addr} {pins : List (Addr × Obj)} {σ : L2.St} {H : Hp} {s : Shared}
theorem ExAt.inst {a : Addr} {fs : List (Str × V)} (I : Inv X pins σ H s) (e : ExAt H a C fs) :
    ∃ (ox : Obj) (od : Option Obj), PySem.W.InstAt s.heap a ox C od ∧ ∀ n v, fs.lookup n = some v → ∃ (o : Obj) (u : Value), od = some o ∧ PySem.W.lookIn n o = some (some u) ∧ RelV v u := by
  rcases e with ⟨rfl, e⟩ | ⟨d, e1, e2⟩
  · obtain ⟨t1, ho⟩ := exo_at I.hok e
    exact ⟨_, none, ⟨ho, rfl, rfl, trivial⟩, fun n v h => nomatch h⟩
  · obtain ⟨t1, ho⟩ := exo_at I.hok e1
    obtain ⟨mA, hns, rel⟩ := exd_at I.hok e2
    obtain ⟨od, hod, hl⟩ := lookIn_ns hns
    refine ⟨_, some od, ⟨ho, rfl, rfl, hod⟩, fun n v h => ?_⟩
    obtain ⟨u, hu, ru⟩ := RelO.some_of (v := v) (o := mA n) (by rw [← h]; exact rel n)
    exact ⟨od, u, rfl, by rw [hl, hu], ru⟩
/-- isinstance(e, c), e such an exception -/
def rIsX (K : PySem.W.Frag) (P : Addr) : List V → Hp → VK → Prop := fun xs H Q => ∃ (a C : Addr) (fs : List (Str × V)) (c : V) (cv : Value) (b : Bool), xs = [.ref a, c] ∧ ExAt H a C fs ∧ Er K P C ∧ ClsW c cv ∧ PySem.W.kitOne K (.ref C) cv = some b ∧ Q (.bl b) H
where ClsW : V → Value → Prop
  | .ty n, u => u = .type n
  | .ref C, u => u = .ref C
  | _, _ => False
theorem call_isX (g : Gt X.K) : CallR X (.builtin "isinstance") (rIsX X.K P) := by
  intro pins s σ H xs us Q I r h
  obtain ⟨a, C, fs, c, cv, b, rfl, ea, er, hc, e, q⟩ := h
  obtain ⟨u1, u2, rfl, r1, r2⟩ := vals2 r
  cases (show u1 = Value.ref a from r1)
  have e2 : u2 = cv := by
    cases c with
    | ty n => exact (show u2 = Value.type n from r2).trans (show cv = Value.type n from hc).symm
    | ref D => exact (show u2 = Value.ref D from r2).trans (show cv = Value.ref D from hc).symm
    | _ => exact False.elim hc
  subst e2
  obtain ⟨ox, od, J, _⟩ := ea.inst I
  exact PySem.W.kia_one (er.kit g) I.kIn J e (fun z => nomatch z) fun tk => ⟨.bl b, H, I.tok tk, rfl, q⟩
/-- e.f, e such an exception -/
def tXv (K : PySem.W.Frag) (P : Addr) (f : Str) (te : TE) : TE := fun σ H Q => te σ H fun x H1 => ∃ (a C : Addr) (fs : List (Str × V)) (v : V), x = .ref a ∧ ExAt H1 a C fs ∧ Er K P C ∧ PySem.W.findIn K (.ref C) f = some none ∧ fs.lookup f = some v ∧ Q v H1
theorem pe_xv {e : Expr} {te : TE} {f : Str} {pos : Pos} (he : PE X e te) (hb : attributeBase e f X.env (eval e X.env) = eval e X.env := by rfl) : PE X (.Attribute e f pos) (tXv X.K P f te) := by
  refine ⟨fun pins s σ H Q I h => attr_of hb (thn (he.run pins s σ H _ I h) fun u s1 hh => ?_)⟩
  obtain ⟨x, H1, I1, rx, a, C, fs, v, ex, ea, er, hno, hl, q⟩ := hh
  subst ex
  cases (show u = Value.ref a from rx)
  obtain ⟨ox, od, J, hv⟩ := ea.inst I1
  obtain ⟨o, u, rfl, hu, ru⟩ := hv f v hl
  exact PySem.HandSPX.exc_get I1.kIn J er.ga er.gg er.ox.exC (PySem.W.findObj_own er.hd hno rfl hu) (handed_of ru) ⟨v, H1, I1.tok _, ru, q⟩
/-- C(), no __init__ of its own -/
theorem pe_bare {x : Str} {p pos : Pos} (q : PySem.W.excIn X.K C PySem.HandSPX.veTail "ValueError.__new__" = true) (gC : X.mg x = some (.ref C)) (kC : PySem.W.keepIn X.K (.ref C) = true) (hg : Gl X x) (hdb : (x == ("__debug__" : Str)) = false := by decide) :
    PE X (.Call (.Name x p) [] [] pos) (fun _ H Q => ∀ a, H a = none → Q (.ref a) (upd H a (exo a C none))) := by
  refine ⟨fun pins s σ H Q I h => wpAny_Call_Name_kw (ld_glob I hg gC (PySem.W.callWith_K0 I.kIn kC ?_) hdb)⟩
  show wpAny _ _ (call (.ref C) []) _ _ _
  obtain ⟨bm, N, nm, qn, bs, hdct, sn, sub, ab, col, dd, k0, k1, k2, k3, k5, mN, hC, hN, hni, T⟩ := exc_obj I.kIn q
  refine wpAny_call_exc_subT PySem.F.excBase_ValueError T hC hN hni (fun h' a hm => ?_) (Nat.zero_le _)
  have hn : H a = none := I.hok.gone hm.new
  obtain ⟨t, ht, _, _⟩ := hm.there
  exact ⟨.ref a, _, I.laidN hm.keeps hm.new hn (exo_ok ht), rfl, h a hn⟩
end
end Kx
namespace Ky
open PySem PySem.Spec PyProof.Rows L2 Kx
/-- __init__ of the class at C keeps what it is handed, under names fl gives -/
def spIn (C : Addr) (n : Nat) (fl : List V → List (Str × V)) : Sp := fun vs H Q _ => ∃ (a : Addr) (xs : List V), vs = .ref a :: xs ∧ xs.length = n ∧ H a = some (exo a C none) ∧
  ∀ (d : Addr) (H' : Hp), H d = none → (∀ b o, b ≠ a → H b = some o → H' b = some o) → H' a = some (exo a C (some d)) → H' d = some (exd d (fl xs)) → Q .non H'
def fl1 (f : Str) : List V → List (Str × V)
  | [x] => [(f, x)]
  | _ => []
def fl2 (f g : Str) : List V → List (Str × V)
  | [x, y] => [(g, y), (f, x)]
  | _ => []
section
variable {X : Cx} {K : PySem.W.Frag} {P C : Addr}
/-- the reading of: self.f = (slot 1) -/
theorem rd1 {f : Str} {Q : VK} {E : XK} {vs : List V} {H : Hp} {N : List Str} (hN : N.length = 2) (er : Er K P C) (n1 : PySem.W.findIn K (.ref C) f = some none) (h : spIn C 1 (fl1 f) vs H Q E) :
    tOst K f (tVar 0) (tVar 1) { nx := fun _ H' => Q .non H', rt := Q } (start N vs) H := by
  obtain ⟨a, xs, rfl, hl, ha, k⟩ := h
  match xs, hl, k with
  | [x], _, k =>
    refine ⟨x, rfl, .ref a, rfl, a, C, rfl, er.ox, n1, .inl ⟨ha, fun d hd hne => ?_⟩⟩
    refine k d _ hd (fun b o hb e => ?_) upd_same ?_
    · rw [upd_ne hb, upd_ne (ne_of_none e hd)]
      exact e
    · rw [upd_ne hne, upd_same]
      rfl
/-- .. self.f = (slot 1); self.g = (slot 2) -/
theorem rd2 {f g : Str} {Q : VK} {E : XK} {vs : List V} {H : Hp} {N : List Str} (hN : N.length = 3) (er : Er K P C) (n1 : PySem.W.findIn K (.ref C) f = some none) (n2 : PySem.W.findIn K (.ref C) g = some none) (h : spIn C 2 (fl2 f g) vs H Q E) :
    tSeq (tOst K f (tVar 0) (tVar 1)) (tOst K g (tVar 0) (tVar 2)) { nx := fun _ H' => Q .non H', rt := Q } (start N vs) H := by
  obtain ⟨a, xs, rfl, hl, ha, k⟩ := h
  match xs, hl, k with
  | [x, y], _, k =>
    refine ⟨x, rfl, .ref a, rfl, a, C, rfl, er.ox, n1, .inl ⟨ha, fun d hd hne => ?_⟩⟩
    refine ⟨y, rfl, .ref a, rfl, a, C, rfl, er.ox, n2, .inr ⟨d, [(f, x)], upd_same, by rw [upd_ne hne, upd_same], by show 1 ≤ 900; decide, ?_⟩⟩
    refine k d _ hd (fun b o hb e => ?_) ?_ upd_same
    · rw [upd_ne (ne_of_none e hd), upd_ne hb, upd_ne (ne_of_none e hd)]
      exact e
    · rw [upd_ne hne.symm, upd_same]
/-- C(e, ..) as a value -/
def tMkV (C : Addr) (sp : Sp) (ta : TA) : TE := fun σ H Q => ta σ H fun vs H1 => ∀ a, H1 a = none → sp (.ref a :: vs) (upd H1 a (exo a C none)) (fun v H2 => v = .non ∧ Q (.ref a) H2) (fun _ _ _ => False)
theorem pe_oex {CX : CXT} {x : Str} {fI : Addr} {k : Nat} {fd : FuncData} {ps : List Str} {sp : Sp} {e : Expr} {es : List Expr} {ta : TA} {p pos : Pos} (T : OexC X.K C) (iC : PySem.W.findIn X.K (.ref C) "__init__" = some (some (.ref fI))) (tI : PySem.W.typeIn X.K (.ref fI) = some (.type "function"))
    (F1 : FnOk X.prog X.w X.K X.mg X.base CX k fI fd ps sp) (hr : Room (k + 1) X.A) (hb : L2.Binds X.K fd ps []) (hx : Passes CX X (fun _ _ _ => False)) (hg : Gl X x) (hm : X.mg x = some (.ref C)) (ha : PA X (e :: es) ta) (hps : ps.length ≤ 100)
    (hdb : (x == ("__debug__" : Str)) = false := by decide) (he : starEach (e :: es) X.env = (false, eval e X.env) :: starEach es X.env := by rfl) (hpl : (backTo pos (starEach es X.env)).any (·.1) = false := by rfl) :
    PE X (.Call (.Name x p) (e :: es) [] pos) (tMkV C sp ta) := by
  refine ⟨fun pins s σ H Q I h => wpAny_Call_Name_kw (ld_glob I hg hm (PySem.W.callWith_K (h₀ := X.base) I.ok.mod.kin T.kC (thn (ha.run pos pins s σ H _ I h) fun us s1 ⟨vs, H1, I1, r1, q1⟩ => ⟨I1.kIn, ?_⟩) he hpl) hdb)⟩
  obtain ⟨nm, q, N, bs, bm, sn, sub, ab, col, dd, k0, k1, k2, k3, k5, hC, hbm⟩ := T.cls
  show wpAny _ _ (call (.ref C) us) _ _ _
  obtain ⟨hp, g, dr, tk, os⟩ := s1
  have hn : H1 (hp.objs.size + 1) = none := I1.hok.fresh (Nat.le_succ _)
  have hq := q1 (hp.objs.size + 1) hn
  have I2 : Inv X pins σ (upd H1 (hp.objs.size + 1) (exo (hp.objs.size + 1) C none)) ⟨(hp.push (PySem.W.kdv_tup us)).push (PySem.HandSPX.excO C hp.objs.size), g, dr, tk, os⟩ :=
    I1.laid (t' := tk) (a := hp.objs.size + 1) (fun b o e => Heap.get?_push_of_some _ (Heap.get?_push_of_some _ e)) (Nat.le_succ _) (exo_ok (t1 := hp.objs.size) (by heap_get))
  have r2 : Vals (V.ref (hp.objs.size + 1) :: vs) (Value.ref (hp.objs.size + 1) :: us) := .cons rfl r1
  have hl : (Value.ref (hp.objs.size + 1) :: us).length = ps.length := by
    rw [← r2.length]
    exact F1.len _ _ _ _ hq
  have hus : us.length ≤ sizeLine := by
    rw [List.length_cons] at hl
    rw [sizeLine_eq]
    omega
  have hb2 := hb ⟨(hp.push (PySem.W.kdv_tup us)).push (PySem.HandSPX.excO C hp.objs.size), g, dr, tk, os⟩ (Value.ref (hp.objs.size + 1) :: us) I2.kIn (by rw [List.append_nil]; exact hl)
  rw [List.append_nil] at hb2
  refine wpAny_call (PySem.HandSPX.call_own F.excBase_ValueError (fun Y => PySem.HandSPX.refsVE_contains Y bm hbm) (I1.kIn _ _ hC) (PySem.W.looks_findIn I1.kIn iC) (fun self => PySem.W.bind_fn I1.kIn self tI) hus ?_)
  refine codeAny_mono (F1.run _ X.stack _ _ ⟨Value.ref (hp.objs.size + 1) :: us, []⟩ _ _ _ (fun _ _ _ => False) (hr.make C us []) (I2.env0.make C us []) hb2 r2 hq) fun r s' hq' => ?_
  cases r with
  | error er => exact hx pins σ _ _ er s' I2 hq'
  | ok fl =>
    cases fl with
    | ret u =>
      obtain ⟨v, H', I3, rv, ev, q3⟩ := I2.after hq'
      subst ev
      exact ⟨rv, .ref (hp.objs.size + 1), H', I3, rfl, q3⟩
    | next => exact False.elim hq'
    | brk => exact False.elim hq'
    | cont => exact False.elim hq'
end
end Ky
namespace Kf
open PySem PySem.Spec PyProof.Rows L2 Kx
def erB (K : PySem.W.Frag) (P C : Addr) : Bool :=
  (match K.lookup C with
    | some ⟨.type t, _, .cls cd, sl⟩ => (match sl.toList with
      | [_, _, _, _, some (.builtin n), _] => t == "type" && (cd.mro == (Value.ref C :: .ref P :: PySem.HandSPX.veTail) && (n == "ValueError.__new__" && (!cd.hasDel && cd.hasDict)))
      | _ => false)
    | _ => false) &&
  (He.eqO (PySem.W.findIn K (.ref C) "__setattr__") (some (some (.builtin "object.__setattr__"))) &&
  (He.eqO (PySem.W.findIn K (.ref C) "__getattribute__") (some (some (.builtin "BaseException.__getattribute__"))) &&
  (He.eqO (PySem.W.findIn K (.ref C) "__getattr__") (some none) &&
  (He.eqO (PySem.W.findIn K (.ref C) "__class__") (some (some (.builtin "object.__class__"))) &&
  (decide (PySem.W.typeIn K (.ref C) = some (.type "type")) && PySem.W.keepIn K (.ref C))))))
theorem erB_ok {K : PySem.W.Frag} {P C : Addr} (h : erB K P C = true) : Er K P C := by
  obtain ⟨h1, h⟩ := He.ba h
  obtain ⟨h2, h⟩ := He.ba h
  obtain ⟨h3, h⟩ := He.ba h
  obtain ⟨h4, h⟩ := He.ba h
  obtain ⟨h5, h⟩ := He.ba h
  obtain ⟨h6, h7⟩ := He.ba h
  cases e : K.lookup C with
  | none =>
    rw [e] at h1
    cases h1
  | some o =>
    obtain ⟨oc, od, dt, sl⟩ := o
    rw [e] at h1
    cases oc with
    | type t =>
      cases dt with
      | cls cd =>
        obtain ⟨sl⟩ := sl
        match sl, h1, e with
        | [k0, k1, k2, k3, some (.builtin n), k5], h1, e =>
          obtain ⟨g1, g⟩ := He.ba (show (t == "type" && (cd.mro == (Value.ref C :: .ref P :: PySem.HandSPX.veTail) && (n == "ValueError.__new__" && (!cd.hasDel && cd.hasDict)))) = true from h1)
          obtain ⟨g2, g⟩ := He.ba g
          obtain ⟨g3, g⟩ := He.ba g
          obtain ⟨g4, g5⟩ := He.ba g
          obtain ⟨nm, bs, mro, ns, qn, hd, sn, sub, ab, col, del⟩ := cd
          have e1 : t = "type" := eq_of_beq g1
          have e2 : mro = Value.ref C :: .ref P :: PySem.HandSPX.veTail := beq_iff_eq.mp g2
          have e3 : n = "ValueError.__new__" := eq_of_beq g3
          have e4 : del = false := by
            cases del with
            | false => rfl
            | true => cases g4
          have e5 : hd = true := g5
          subst e1 e2 e3 e4 e5
          have hcl : PySem.W.clsIn K C = some { name := nm, bases := bs, mro := Value.ref C :: .ref P :: PySem.HandSPX.veTail, ns := ns, qualname := qn, hasDict := true, slotNames := sn, subclasses := sub, abstract := ab, collection := col, hasDel := false } := by
            unfold PySem.W.clsIn
            rw [e] <;> rfl
          have hsub : PySem.W.subIn K (.ref C) (.type "BaseException") = some true := by
            show PySem.W.mroIn K C (.type "BaseException") = some true
            unfold PySem.W.mroIn
            rw [hcl]
            rfl
          exact ⟨⟨⟨nm, qn, ns, bs, .ref P :: PySem.HandSPX.veTail, sn, sub, ab, col, od, k0, k1, k2, k3, k5, e, rfl⟩, He.eqO_ok h2, hsub, of_decide_eq_true h6, h7⟩, ⟨_, hcl, rfl⟩, He.eqO_ok h3, He.eqO_ok h4, by unfold PySem.W.hasDictIn; rw [hcl]; rfl, He.eqO_ok h5⟩
      | _ => cases h1
    | _ => cases dt <;> cases h1
/-- the hook: a check of the written part, and the defs -/
def hookX (n : Nat) (ck : PySem.W.Frag → Bool) (fn : List He.DefD) : PySem.W.Hook where
  α := Bool × He.AlD
  obs := fun s => (ck (He.frG s.heap.get? (He.asD s.heap.get? n)), He.obsD [] fn (He.frG s.heap.get? (He.asD s.heap.get? n)))
  val := fun _ => (true, He.valD fn)
  says := fun _ h => ∃ K : PySem.W.Frag, K.In h ∧ ck K = true ∧ He.SaysD [] fn K
  of := fun _ _ e => ⟨_, He.frG_in, (Prod.mk.inj e).1, (Prod.mk.inj e).2⟩
  keeps := fun _ _ _ ⟨K, hK, c⟩ k => ⟨K, PySem.W.Frag.In.keeps hK k, c⟩
def obX (n : Nat) (ck : PySem.W.Frag → Bool) (fn : List He.DefD) (g : Addr → Option Obj) : Bool × He.AlD := (ck (He.frG g (He.asD g n)), He.obsD [] fn (He.frG g (He.asD g n)))
theorem obX_eq {n : Nat} {ck : PySem.W.Frag → Bool} {fn : List He.DefD} {g : Addr → Option Obj} {s : Shared} (h : ∀ a, g a = s.heap.get? a) : obX n ck fn g = (hookX n ck fn).obs s := by
  have e : g = s.heap.get? := funext h
  rw [e] <;> rfl
end Kf
namespace Kf
open PySem PySem.Spec PyProof.Rows L2 Kx
def hookL (as : List Addr) (ck : PySem.W.Frag → Bool) (fn : List He.DefD) : PySem.W.Hook where
  α := Bool × He.AlD
  obs := fun s => (ck (He.frG s.heap.get? as), He.obsD [] fn (He.frG s.heap.get? as))
  val := fun _ => (true, He.valD fn)
  says := fun _ h => ∃ K : PySem.W.Frag, K.In h ∧ ck K = true ∧ He.SaysD [] fn K
  of := fun _ _ e => ⟨_, He.frG_in, (Prod.mk.inj e).1, (Prod.mk.inj e).2⟩
  keeps := fun _ _ _ ⟨K, hK, c⟩ k => ⟨K, PySem.W.Frag.In.keeps hK k, c⟩
def obL (as : List Addr) (ck : PySem.W.Frag → Bool) (fn : List He.DefD) (g : Addr → Option Obj) : Bool × He.AlD := (ck (He.frG g as), He.obsD [] fn (He.frG g as))
theorem obL_eq {as : List Addr} {ck : PySem.W.Frag → Bool} {fn : List He.DefD} {g : Addr → Option Obj} {s : Shared} (h : ∀ a, g a = s.heap.get? a) : obL as ck fn g = (hookL as ck fn).obs s := by
  have e : g = s.heap.get? := funext h
  rw [e] <;> rfl
end Kf
namespace Re
open PySem PySem.Spec PyProof.Rows L2 Kx Ky
section
variable {X : Cx} {C : Addr}
theorem pmk_bare {x : Str} {p pos : Pos} (q : PySem.W.excIn X.K C PySem.HandSPX.veTail "ValueError.__new__" = true) (gC : X.mg x = some (.ref C)) (kC : PySem.W.keepIn X.K (.ref C) = true) (r : Raises X (.ref C)) (hg : Gl X x) (hdb : (x == ("__debug__" : Str)) = false := by decide) :
    PMk X (.Call (.Name x p) [] [] pos) (fun _ H Q => Q (.ref C) none H) := by
  intro pins s σ H Q I h
  refine wpAny_Call_Name_kw (ld_glob I hg gC (PySem.W.callWith_K0 I.kIn kC ?_) hdb)
  show wpAny _ _ (call (.ref C) []) _ _ _
  obtain ⟨bm, N, nm, qn, bs, hdct, sn, sub, ab, col, dd, k0, k1, k2, k3, k5, mN, hC, hN, hni, T⟩ := exc_obj I.kIn q
  exact wpAny_call_exc_subT PySem.F.excBase_ValueError T hC hN hni (fun h' e hm => mk_of I hm r h (I.hok.gone hm.new)) (Nat.zero_le _)
end
/-- what the held exception is: of the class at C; its dict, where it has one, holds fs -/
def Hd (H : Hp) (cls : Value) (d : Option Addr) (C : Addr) : Prop := cls = .ref C ∧ (d = none ∨ ∃ dd fs, d = some dd ∧ H dd = some (.xd fs))
/-- isinstance(e, c), e the exception that a suite holds -/
def rIsS (K : PySem.W.Frag) (P a : Addr) (cls : Value) (d : Option Addr) : List V → Hp → VK → Prop := fun xs H Q => ∃ (C : Addr) (c : V) (cv : Value) (b : Bool), xs = [.ref a, c] ∧ Hd H cls d C ∧ Er K P C ∧ rIsX.ClsW c cv ∧ PySem.W.kitOne K (.ref C) cv = some b ∧ Q (.bl b) H
theorem call_isS {X : Cx} {P a : Addr} {oe : Obj} {cls : Value} {d : Option Addr} {pn : List (Addr × Obj)} (g : Gt X.K) (hz : Zc cls d oe) (hf : ∃ vs, oe.data = .fields vs) : CallR (X.suite a ((a, oe) :: pn)) (.builtin "isinstance") (rIsS X.K P a cls d) := by
  intro pins s σ H xs us Q I r h
  obtain ⟨C, c, cv, b, rfl, ⟨rfl, hd⟩, er, hc, e, q⟩ := h
  obtain ⟨u1, u2, rfl, r1, r2⟩ := vals2 r
  cases (show u1 = Value.ref a from r1)
  have e2 : u2 = cv := by
    cases c with
    | ty n => exact (show u2 = Value.type n from r2).trans (show cv = Value.type n from hc).symm
    | ref D => exact (show u2 = Value.ref D from r2).trans (show cv = Value.ref D from hc).symm
    | _ => exact False.elim hc
  subst e2
  obtain ⟨ho, _⟩ := I.pin (a, oe) (List.mem_append_left _ (List.mem_cons_self ..))
  obtain ⟨vs, hv⟩ := hf
  have no : PySem.W.notCls oe = true := by unfold PySem.W.notCls; rw [hv] <;> rfl
  have fin : ∀ od, PySem.W.InstAt s.heap a oe C od → wpAny (model X.prog X.w) (X.suite a ((a, oe) :: pn)).A (call (.builtin "isinstance") [.ref a, u2]) (EP (X.suite a ((a, oe) :: pn)) pins σ Q) (X.suite a ((a, oe) :: pn)).xe s := fun od J =>
    PySem.W.kia_one (er.kit g) I.kIn J e (fun z => nomatch z) fun tk => ⟨.bl b, H, I.tok tk, rfl, q⟩
  rcases hd with rfl | ⟨dd, fs, rfl, hd⟩
  · exact fin none ⟨ho, hz.1, no, by rw [hz.2]; trivial⟩
  · obtain ⟨mA, hns, rel⟩ := (show ObjOk X.prog X.w H s.heap dd (.xd fs) from I.hok dd _ hd)
    obtain ⟨od, hod, _⟩ := lookIn_ns hns
    exact fin (some od) ⟨ho, hz.1, no, by rw [hz.2]; exact hod⟩
end Re
namespace Re
open PySem PySem.Spec PyProof.Rows L2 Kx Ky
theorem same_in {H H' : Hp} {a : Addr} {o : HO} (h : H a = none) (k : ∀ b u, b ≠ a → (upd H a o) b = some u → H' b = some u) : Same H H' := fun b u e =>
  k b u (ne_of_none e h) (by rw [upd_ne (ne_of_none e h)]; exact e)
theorem same_gone {H H' : Hp} {a d : Addr} {o o2 : HO} (ha : H a = none) (hd : H d = none) (k : ∀ b u, b ≠ a → (upd H a o) b = some u → H' b = some u) : Same H (upd (del H' a) d o2) := fun b u e => by
  rw [upd_ne (ne_of_none e hd), del_ne (ne_of_none e ha)]
  exact same_in ha k b u e
/-- what is asked where an error with one field is raised -/
theorem rd_mk1 {C : Addr} {f : Str} {v : V} {H : Hp} {Q : XK} (k : ∀ d H', Same H H' → H' d = some (.xd [(f, v)]) → Q (.ref C) (some d) H') :
    [v].length ≤ 1000 ∧ ∀ a, H a = none → spIn C 1 (fl1 f) (.ref a :: ([v] ++ [])) (upd H a (exo a C none))
      (fun v' H2 => v' = .non ∧ ∃ (d : Addr) (fs : List (Str × V)), H2 a = some (exo a C (some d)) ∧ H2 d = some (exd d fs) ∧ H d = none ∧ Q (.ref C) (some d) (upd (del H2 a) d (.xd fs))) (fun _ _ _ => False) := by
  refine ⟨by show 1 ≤ 1000; decide, fun a ha => ⟨a, [v], rfl, rfl, upd_same, fun q H1 hq kq e1 e2 => ⟨rfl, q, _, e1, e2, ?_, ?_⟩⟩⟩
  · have hqa : q ≠ a := fun z => by
      rw [z, upd_same] at hq
      cases hq
    rw [upd_ne hqa] at hq
    exact hq
  · have hqa : q ≠ a := fun z => by
      rw [z, upd_same] at hq
      cases hq
    rw [upd_ne hqa] at hq
    exact k q _ (same_gone ha hq kq) upd_same
end Re
namespace Rp
open SlX
open PySem PySem.Spec PyProof.Rows L2
section
variable {X : Cx} {CT : CXT} {n : Nat} {C g : Addr} {sp : Sp}
def rOwnI (C : Addr) (sp : Sp) : R2 := fun x y H Q =>
  ∃ a b dx dy fs gs, x = .ref a ∧ y = .ref b ∧ H a = some (.ins C dx fs) ∧ H b = some (.ins C dy gs) ∧ sp [.ref a, .ref b] H Q L2.E0
theorem op_ownI (find : PySem.W.findIn X.K (.ref C) "__eq__" = some (some (.ref g))) (isf : PySem.W.isFn X.K (.ref g) = true)
    (F : FnR X.prog X.w X.K X.mg X.base CT n g sp) (room : Room n X.A) (out : Passes CT X L2.E0) : OpR X (compareOp .Eq) (rOwnI C sp) := by
  intro pins s σ H x y v u Q I rx ry h
  obtain ⟨a, b, dx, dy, fs, gs, ex, ey, ha, hb, q⟩ := h
  subst ex ey
  cases (show v = Value.ref a from rx)
  cases (show u = Value.ref b from ry)
  obtain ⟨mA, J0, _⟩ := ins_get I.hok ha
  obtain ⟨mB, J1, _⟩ := ins_get I.hok hb
  obtain ⟨od, J, _⟩ := J0.look
  obtain ⟨od', J', _⟩ := J1.look
  obtain ⟨m, hF⟩ := I.fr
  show wpAny (model X.prog X.w) X.A (richCompare .Eq (.ref a) (.ref b)) (EP X pins σ Q) X.xe s
  have nf : PySem.W.notFirst X.K C (.ref C) = true := by
    unfold PySem.W.notFirst
    simp
  refine PySem.W.cmp_K (op := .Eq) (tb := .ref C) room.units0 hF I.ok.mod.kin J J'.type nf find isf ?_
  have run := run_fnR (us := [.ref a, .ref b]) (vs := [.ref a, .ref b]) F room out I (.cons rfl (.cons rfl .nil)) q
  refine wpAny_mono (wpAny_call run) ?_ fun _ _ x => x
  rintro w s' ⟨z, H', I', rz, qz⟩
  exact cmpback rz ⟨z, H', I', rz, qz⟩
end
end Rp
set_option maxHeartbeats 2000000
namespace Wi
open PySem PySem.Spec PyProof.Rows L2 ItX
/-- a longer heap with the same objects: the new places stand empty -/
theorem pad_heap (B : Heap) {n : Nat} (h : B.objs.size ≤ n) : ∃ G : Heap, (∀ b, G.get? b = B.get? b) ∧ G.objs.size = n := by
  refine ⟨⟨B.objs ++ Array.replicate (n - B.objs.size) ⟨.none, none, .freed, #[]⟩, B.life⟩, fun b => ?_, ?_⟩
  · by_cases hb : b < B.objs.size
    · have e : (B.objs ++ Array.replicate (n - B.objs.size) (⟨.none, none, .freed, #[]⟩ : Obj))[b]? = B.objs[b]? := Array.getElem?_append_left hb
      unfold Heap.get?
      rw [e]
    · have e1 : B.objs[b]? = none := Array.getElem?_eq_none (Nat.le_of_not_lt hb)
      have e2 : B.get? b = none := by
        unfold Heap.get?
        rw [e1]
      rw [e2]
      unfold Heap.get?
      rw [show (B.objs ++ Array.replicate (n - B.objs.size) (⟨.none, none, .freed, #[]⟩ : Obj))[b]? = (Array.replicate (n - B.objs.size) (⟨.none, none, .freed, #[]⟩ : Obj))[b - B.objs.size]? from Array.getElem?_append_right (Nat.le_of_not_lt hb), Array.getElem?_replicate]
      by_cases h2 : b - B.objs.size < n - B.objs.size
      · rw [if_pos h2]
      · rw [if_neg h2]
  · show (B.objs ++ Array.replicate (n - B.objs.size) (⟨.none, none, .freed, #[]⟩ : Obj)).size = n
    rw [Array.size_append, Array.size_replicate]
    omega
def tItObj (t : Addr) : Obj := { cls := .type "tuple_iterator", data := .fields #[.ref t, .int 0 0] }
/-- at it an iterator over the tuple at t, at its start -/
def ItT (t it : Addr) : HO := .ext fun h => h.get? it = some (tItObj t)
section
variable {X : Cx} {pins : List (Addr × Obj)} {σ : L2.St} {H : Hp} {s : Shared} {t it : Addr}
theorem itT_ok {P : Program} {w : World} {H : Hp} {h : Heap} (e : h.get? it = some (tItObj t)) : ObjOk P w H h it (ItT t it) := ⟨e, ⟨_, e⟩, fun h1 h2 q k => k _ q⟩
theorem itT_get (I : Inv X pins σ H s) (e : H it = some (ItT t it)) : s.heap.get? it = some (tItObj t) := (I.hok it _ e).1
/-- iter(t), t a tuple; n: the base's size -/
def rIterT (K : PySem.W.Frag) (n : Nat) : List V → Hp → VK → Prop := fun xs H Q => ∃ (l : Addr) (zs : List V), xs = [.ref l] ∧ SqT K H l zs ∧ ∀ it, H it = Option.none → n ≤ it → Q (.ref it) (upd H it (ItT l it))
theorem iter_tup {prog : Program} {w : World} {A : Around} {E : Value → Shared → Prop} {s : Shared} {l : Addr} {items : Array Value} {Q : Value → Shared → Prop} (hl : s.heap.IsTuple l items) (h : Q (.ref s.heap.objs.size) { s with heap := s.heap.push (tItObj l) }) :
    wpAny (model prog w) A (call (.builtin "iter") [.ref l]) Q E s := by
  refine Calls.call_function_entry (by decide +kernel) (by decide +kernel) PySem.W.kdk_entry_iter (PySem.W.kdk_args_iter _) ?_
  unfold Builtin.«iter»
  refine wpAny_bind (m := someArgs "iter" 1 2 _) (wpAny_of_eq (a := [Value.ref l]) (by first | rfl | kernel_rfl!) ?_)
  show wpAny _ _ (pyIter (.ref l) >>= _) _ _ _
  refine wpAny_bind (wpAny_pyIter_tuple hl ?_)
  exact wpAny_pure ⟨_, rfl, h⟩
theorem call_iterT : CallR X (.builtin "iter") (rIterT X.K X.base.objs.size) := by
  intro pins s σ H xs us Q I r h
  obtain ⟨l, zs, rfl, hq, q⟩ := h
  obtain ⟨u, rfl, ru⟩ := vals1 r
  cases ru
  obtain ⟨its, rv, pl, hz⟩ := I.tuple hq
  refine iter_tup (show s.heap.IsTuple l its.toArray from pl) ?_
  exact ⟨.ref s.heap.objs.size, _, I.laid (t' := s.toks) (fun b u e => Heap.get?_push_of_some _ e) (Nat.le_refl _) (itT_ok (Heap.get?_push_size _ rfl)), rfl, q _ (I.hok.fresh (Nat.le_refl _)) (Nat.le_trans I.ok.bsz I.sz)⟩
end
/-- what is asked of the class: __iter__ is the def at fi -/
structure It1 (K : PySem.W.Frag) (C fi : Addr) : Prop where
  it : PySem.W.findIn K (.ref C) "__iter__" = some (some (.ref fi))
  itF : PySem.W.isFn K (.ref fi) = true
/-- for over an instance: the iterator that __iter__ gives -/
def iOwn (K : PySem.W.Frag) (C : Addr) (sp : Nat → Sp) (te : TE) : TI := fun σ H R => te σ H fun x H1 => ∃ a dx fs l, x = .ref a ∧ H1 a = some (.ins C dx fs) ∧ (∃ xs, SqT K H1 l xs) ∧
  (∀ n, sp n [.ref a] H1 (fun v H2 => ∃ it, v = .ref it ∧ H1 it = none ∧ n ≤ it ∧ H2 = upd H1 it (ItT l it)) fun _ _ _ => False) ∧ R (Itt K l) H1
section
variable {X : Cx} {tg e : Expr} {te : TE} {C fi : Addr} {fdI : FuncData} {psI : List Str} {k : Nat} {sp : Nat → Sp}
theorem env_pad {P : Program} {w : World} {K : PySem.W.Frag} {mg : Str → Option Value} {base G : Heap} {A : Around} {outer : List Env} {s : Shared} {H : Hp} (e : Env0 P w K mg base A outer s H) (g1 : ∀ b, G.get? b = base.get? b) (g2 : G.objs.size ≤ s.heap.objs.size) : Env0 P w K mg G A outer s H where
  frames := e.frames
  mod := by
    have k : ∀ b o, base.get? b = some o → G.get? b = some o := fun b o q => (g1 b).trans q
    obtain ⟨mb, q1, q2⟩ := e.mod.blt
    exact ⟨e.mod.kin.keeps k, e.mod.glob.keeps k, ⟨mb, q1.keeps k, q2⟩, e.mod.nolimit.keeps k⟩
  bs := fun b o q => e.bs b o ((g1 b).symm.trans q)
  bsz := g2
  funs := funFrames_none e.funs fun L hL => by
    rw [g1]
    exact (e.funs.mem hL).1
  frf := e.frf
  hok := e.hok
  bare := e.bare
theorem pi_own (hc : It1 X.K C fi) (FI : ∀ B : Heap, FnOk X.prog X.w X.K X.mg B CX0 k fi fdI psI (sp B.objs.size)) (bI : Binds X.K fdI psI []) (hr : Room k X.A) (he : PE X e te) : PI X tg e (iOwn X.K C sp te) := by
  refine ⟨fun pins s σ H R I h => ?_⟩
  refine thn (he.run pins s σ H _ I h) fun v s1 ⟨x, H1, I1, r1, q1⟩ => ?_
  obtain ⟨a, dx, fs, l, rfl, ha, ⟨xs, hl⟩, hsp, q⟩ := q1
  cases r1
  obtain ⟨mA, J, _⟩ := ins_get I1.hok ha
  obtain ⟨od, J, _⟩ := J.look
  obtain ⟨m0, hF⟩ := I1.fr
  refine PySem.W.owit_iter hF I1.ok.mod.kin J hc.it hc.itF ?_
  obtain ⟨G, g1, g2⟩ := pad_heap X.base (n := s1.heap.objs.size) (Nat.le_trans I1.ok.bsz I1.sz)
  have e1 : Env0 X.prog X.w X.K X.mg X.base X.A X.stack s1 H1 := I1.env0
  have e0 := env_pad e1 g1 (Nat.le_of_eq g2)
  have hspG := hsp G.objs.size
  have hlen := (FI G).len _ _ _ _ hspG
  have r2 : Vals [V.ref a] [Value.ref a] := .cons rfl .nil
  refine wpAny_call (codeAny_mono ((FI G).run X.A X.stack s1 H1 ⟨[.ref a], []⟩ [.ref a] [.ref a] _ _ hr e0 (by
    have := bI s1 [.ref a] I1.kIn (by simpa using hlen)
    simpa using this) r2 hspG) fun r s' hq' => ?_)
  cases r with
  | error e => exact False.elim hq'
  | ok fl =>
    cases fl with
    | next => exact False.elim hq'
    | brk => exact False.elim hq'
    | cont => exact False.elim hq'
    | ret u =>
      obtain ⟨v, H', I', rv, it, rfl, hn, hge, rfl⟩ := I1.after hq'
      cases rv
      have hi : (upd H1 it (ItT l it)) it = some (ItT l it) := upd_same
      have eo := itT_get I' hi
      have st : s'.heap.IsTupleIter it l 0 := ⟨_, eo, rfl, rfl⟩
      unfold PySem.W.OwitIt
      show wpAny _ _ (specialOf (.ref it) (Str.ofString "__next__")) _ _ _
      refine wpAny_specialOf st.typeIs F.slot_tuple_iterator_next.lookup ?_
      have hi' := hi
      unfold ItT at hi'
      have ed : dropH (upd H1 it (ItT l it)) it = H1 := dropH_upd hn
      have I2 := inv_drop I' hi'
      have fp := inv_fp I' hi' (Nat.le_trans I1.sz (by rw [g2] at hge; exact hge))
      rw [show dropH (upd H1 it (ItT l it)) it = H1 from ed] at fp
      have I3 : Inv X pins σ H1 s' := by
        have z : dropH (upd H1 it (.ext fun h => h.get? it = some (tItObj l))) it = H1 := ed
        rw [← z]
        exact I2
      refine ⟨it, [it], _, _, H1, rfl, I3, turn_tuple l it, st, fun b hb => ?_, q⟩
      have e : b = it := by simpa using hb
      rw [e]
      exact fp
/-- len(o), o of a class whose __len__ is the def at fl -/
structure Ln1 (K : PySem.W.Frag) (C fl : Addr) : Prop where
  ln : PySem.W.findIn K (.ref C) "__len__" = some (some (.ref fl))
  lnF : PySem.W.isFn K (.ref fl) = true
def rLenO (C : Addr) (sp : Sp) : List V → Hp → VK → Prop := fun xs H Q => ∃ a dx fs, xs = [.ref a] ∧ H a = some (.ins C dx fs) ∧ sp [.ref a] H (fun v H2 => ∃ n : Nat, v = .int n ∧ n < 2 ^ 62 ∧ Q (.int n) H2) fun _ _ _ => False
theorem call_lenO {sp : Sp} (hc : Ln1 X.K C fi) (FI : FnOk X.prog X.w X.K X.mg X.base CX0 k fi fdI psI sp) (bI : Binds X.K fdI psI []) (hr : Room (k + 1) X.A) : CallR X (.builtin "len") (rLenO C sp) := by
  intro pins s σ H xs us Q I r h
  obtain ⟨a, dx, fs, rfl, ha, hsp⟩ := h
  obtain ⟨u, rfl, ru⟩ := vals1 r
  cases ru
  obtain ⟨mA, J, _⟩ := ins_get I.hok ha
  obtain ⟨od, J, _⟩ := J.look
  obtain ⟨m0, hF⟩ := I.fr
  refine PySem.W.len_K hF I.ok.mod.kin J hc.ln hc.lnF ?_
  have e1 : Env0 X.prog X.w X.K X.mg X.base X.A.in1 X.stack s H := I.env0.in1
  have hlen := FI.len _ _ _ _ hsp
  have r2 : Vals [V.ref a] [Value.ref a] := .cons rfl .nil
  have sb : Sub X k X.A.in1 := Sub.in1 (⟨hr, rfl⟩ : Sub X (k + 1) X.A)
  refine wpAny_call (codeAny_mono (FI.run X.A.in1 X.stack s H ⟨[.ref a], []⟩ [.ref a] [.ref a] _ _ sb.room e1 (by
    have := bI s [.ref a] I.kIn (by simpa using hlen)
    simpa using this) r2 hsp) fun r s' hq' => ?_)
  cases r with
  | error e => exact False.elim hq'
  | ok fl =>
    cases fl with
    | next => exact False.elim hq'
    | brk => exact False.elim hq'
    | cont => exact False.elim hq'
    | ret u =>
      obtain ⟨v, H', I', rv, n, rfl, hn, q⟩ := I.after hq'
      obtain ⟨t, rfl⟩ := rv
      refine ⟨⟨by omega, by omega⟩, ?_⟩
      exact ⟨.int n, H', I'.tok _, ⟨_, rfl⟩, q⟩
end
end Wi
namespace Wn
open PySem PySem.Spec PyProof.Rows L2
section
variable {prog : Program} {w : World} {A : Around} {E : Value → Shared → Prop} {s : Shared} {K : PySem.W.Frag} {x y C L f : Addr} {h₀ : Heap} {m : Str → Option Value} {ox oy : Obj} {od od' : Option Obj}
theorem ne_slot (self : Value) : bindSpecial (.builtin "object.__ne__") self = pure (.builtin "object.__ne__", [self]) :=
  (Slot.of (T := "object") (name := "__ne__") (owner := "object") (n := "__ne__") (by rw [typeLookup_type, builtinLookup_eq_fast]; kernel_rfl) (by decide +kernel) (by decide +kernel) (by decide +kernel)
    (.inl (by decide +kernel)) (by rw [isSubtype_type]; kernel_rfl)).bind self
theorem obj_ne {h1 : Heap} {g : Array GenState} {d : Drawn} {t : Nat} {os : OsState} (X : K.In h1) (I : PySem.W.InstAt h1 x ox C od) (he : PySem.W.findIn K (.ref C) "__eq__" = some (some (.ref f))) (hf : PySem.W.isFn K (.ref f) = true) (hu : A.units < cLine) {Q : Fin → Shared → Prop}
    (hcall : wpAny (model prog w) A (call (.ref f) [.ref x, .ref y]) (fun v s' => ∃ b, v = .bool b ∧ Q (.done (.ret (.bool (!b)))) s') E ⟨h1, g, d, t, os⟩) :
    wpAny (model prog w) A (Builtin.«object.__ne__» ⟨[.ref x, .ref y], []⟩) Q E ⟨h1, g, d, t, os⟩ := by
  unfold Builtin.«object.__ne__»
  repeat (first
    | with_reducible refine wpAny_cRoomFor hu ?_
    | (refine wpAny_bind (m := callSpecialIfBound? (.ref x) (Str.ofString "__eq__") [.ref y])
        (PySem.W.ifBound_K X I he hf (wpAny_mono hcall (fun r s' hr => by
          obtain ⟨b, rfl, hq⟩ := hr
          repeat (first | exact hq | exact wpAny_pure hq | exact wpAny_truthy_bool hq | (refine wpAny_bind (m := truthy (.bool _)) (wpAny_truthy_bool ?_)) | wp_step)) fun _ _ e => e)))
    | wp_step)
theorem ne_K {Q : Value → Shared → Prop} (hu : A.units + 1 < cLine) (F : Fr h₀ L s.heap m) (X₀ : K.In h₀) (I : PySem.W.InstAt s.heap x ox C od) (J : PySem.W.InstAt s.heap y oy C od') (hne : PySem.W.findIn K (.ref C) "__ne__" = some (some (.builtin "object.__ne__")))
    (he : PySem.W.findIn K (.ref C) "__eq__" = some (some (.ref f))) (hf : PySem.W.isFn K (.ref f) = true) (hm : PySem.W.mroIn K C (.type "object") = some true)
    (h : wpAny (model prog w) A.in1 (call (.ref f) [.ref x, .ref y]) (fun v s' => ∃ b, v = .bool b ∧ Q (.bool (!b)) s') E s) : wpAny (model prog w) A (richCompare .NotEq (.ref x) (.ref y)) Q E s := by
  have X := X₀.keeps F.keep
  obtain ⟨h1, g, d, t, os⟩ := s
  have fin : wpAny (model prog w) A (call (.builtin "object.__ne__") [.ref x, .ref y]) (fun v s' => ∃ b, v = .bool (!b) ∧ Q (.bool (!b)) s') E ⟨h1, g, d, t, os⟩ := by
    refine wpAny_call (codeAny_call_builtin (by decide +kernel) PySem.F.cmpEntry_ne (PySem.W.check_slot PySem.F.cmpKind_ne PySem.F.cmpSplit_ne ?_ (PySem.F.cmpArgs_ne _ _) ?_))
    · exact (I.type).andThen (PySem.W.looks_mroIn X hm)
    · refine obj_ne (A := A.in1) X I he hf hu (wpAny_mono h (fun v s' hv => ?_) fun _ _ e => e)
      obtain ⟨b, rfl, hq⟩ := hv
      exact ⟨b, rfl, b, rfl, hq⟩
  have one : wpAny (model prog w) A (tryCompare (.ref x) "__ne__" (.ref y)) (fun r s' => ∃ v, r = some v ∧ Q v s') E ⟨h1, g, d, t, os⟩ := by
    unfold tryCompare
    have bd : wpAny (model prog w) A (callSpecialIfBound? (.ref x) "__ne__" [.ref y]) (fun r s' => ∃ b, r = some (.bool (!b)) ∧ Q (.bool (!b)) s') E ⟨h1, g, d, t, os⟩ := by
      simp only [callSpecialIfBound?, bindSpecialIfBound?]
      refine wpAny_holding (wpAny_bind (wpAny_bind (wpAny_bind (I.type.here ((PySem.W.looks_findIn X hne).here ?_)))))
      simp only [ne_slot]
      refine wpAny_bind (wpAny_askSetting (wpAny_ite ?_))
      have fin2 : wpAny (model prog w) A (call (.builtin "object.__ne__") ([.ref x] ++ [.ref y]) >>= fun v => pure (some v)) (fun r s' => ∃ b, r = some (.bool (!b)) ∧ Q (.bool (!b)) s') E ⟨h1, g, d, t, os⟩ :=
        wpAny_bind (wpAny_mono fin (fun v s' h' => by obtain ⟨b, rfl, hq⟩ := h'; exact wpAny_pure ⟨b, rfl, hq⟩) fun _ _ h' => h')
      split
      · exact wpAny_bind (wpAny_pure (wpAny_pure (by exact fin2)))
      · exact wpAny_tryCatch (wpAny_bind (wpAny_pure (wpAny_pure (by exact fin2))))
    refine wpAny_bind (wpAny_mono bd (fun r s' hr => ?_) fun _ _ e => e)
    obtain ⟨b, rfl, hq⟩ := hr
    exact wpAny_pure ⟨_, rfl, hq⟩
  have nf : PySem.W.notFirst K C (.ref C) = true := by
    unfold PySem.W.notFirst
    simp
  unfold richCompare
  simp only [oneThing_ref]
  refine wpAny_holding (wpAny_bind (wpAny_cRoomFor (Nat.lt_of_succ_lt hu) ?_))
  refine wpAny_bind (I.type.here (wpAny_bind (J.type.here ?_)))
  rw [show (Value.ref C != Value.ref C) = false from by simp]
  simp only [Bool.false_eq_true, if_false]
  refine wpAny_bind (wpAny_pure ?_)
  simp only [Bool.false_eq_true, if_false]
  refine wpAny_bind (wpAny_mono one (fun r s' z => ?_) fun _ _ e => e)
  obtain ⟨v, rfl, hq⟩ := z
  exact wpAny_pure hq
end
section
variable {X : Cx} {n k : Nat} {C g : Addr} {sp : Sp} {fd : FuncData} {ps : List Str}
def rNeI (C : Addr) (sp : Sp) : R2 := fun x y H Q =>
  ∃ a b dx dy fs gs, x = .ref a ∧ y = .ref b ∧ H a = some (.ins C dx fs) ∧ H b = some (.ins C dy gs) ∧ sp [.ref a, .ref b] H (fun v H' => ∃ r, v = .bl r ∧ Q (.bl (!r)) H') L2.E0
theorem op_neI (fne : PySem.W.findIn X.K (.ref C) "__ne__" = some (some (.builtin "object.__ne__"))) (find : PySem.W.findIn X.K (.ref C) "__eq__" = some (some (.ref g))) (isf : PySem.W.isFn X.K (.ref g) = true) (hm : PySem.W.mroIn X.K C (.type "object") = some true)
    (F : FnOk X.prog X.w X.K X.mg X.base CX0 n g fd ps sp) (bI : Binds X.K fd ps []) (room : Room (n + 1) X.A) : OpR X (compareOp .NotEq) (rNeI C sp) := by
  intro pins s σ H x y v u Q I rx ry h
  obtain ⟨a, b, dx, dy, fs, gs, ex, ey, ha, hb, hsp⟩ := h
  subst ex ey
  cases (show v = Value.ref a from rx)
  cases (show u = Value.ref b from ry)
  obtain ⟨mA, J0, _⟩ := ins_get I.hok ha
  obtain ⟨mB, J1, _⟩ := ins_get I.hok hb
  obtain ⟨od, J, _⟩ := J0.look
  obtain ⟨od', J', _⟩ := J1.look
  obtain ⟨m, hF⟩ := I.fr
  show wpAny (model X.prog X.w) X.A (richCompare .NotEq (.ref a) (.ref b)) (EP X pins σ Q) X.xe s
  refine ne_K (by have := room.units; omega) hF I.ok.mod.kin J J' fne find isf hm ?_
  have e1 : Env0 X.prog X.w X.K X.mg X.base X.A.in1 X.stack s H := I.env0.in1
  have hlen := F.len _ _ _ _ hsp
  have r2 : Vals [V.ref a, V.ref b] [Value.ref a, Value.ref b] := .cons rfl (.cons rfl .nil)
  have sb : Sub X n X.A.in1 := Sub.in1 (⟨room, rfl⟩ : Sub X (n + 1) X.A)
  refine wpAny_call (codeAny_mono (F.run X.A.in1 X.stack s H ⟨[.ref a, .ref b], []⟩ [.ref a, .ref b] [.ref a, .ref b] _ _ sb.room e1 (by
    have := bI s [.ref a, .ref b] I.kIn (by simpa using hlen)
    simpa using this) r2 hsp) fun r s' hq' => ?_)
  cases r with
  | error e => exact False.elim hq'
  | ok fl =>
    cases fl with
    | next => exact False.elim hq'
    | brk => exact False.elim hq'
    | cont => exact False.elim hq'
    | ret u =>
      obtain ⟨v, H', I', rv, r, rfl, q⟩ := I.after hq'
      have eu : u = .bool r := rv
      subst eu
      exact ⟨r, rfl, .bl (!r), H', I', rfl, q⟩
end
end Wn
namespace Rm
open PySem PySem.Spec PyProof.Rows L2
/-- nothing gets out -/
theorem passN {X : Cx} : Passes (L2.CX X.prog X.w) X E0 := by
  intro a b c d e f I h
  obtain ⟨_, _, _, _, _, _, _, _, _, _, _, _, no⟩ := h
  exact no.elim
section
variable {X : Cx} {CT : CXT} {n : Nat} {g C : Addr} {fd : FuncData} {ps : List Str} {sp : Sp} {E : L2.St → XK} {m x : Str} {p pos ap : Pos} {e o : Expr} {es : List Expr} {ta : TE} {t : TA}
def tMT (C : Addr) (m : Str) (sp : Sp) (E : L2.St → XK) (ta : TE) (t : TA) : TE := fun σ H Q =>
  ta σ H fun x H1 => ∃ a dx fs, x = .ref a ∧ H1 a = some (.ins C dx fs) ∧ fs.lookup m = none ∧
    t σ H1 fun vs H2 => sp (x :: vs) H2 Q (E σ)
/-- o.m(..) within a try -/
theorem pe_methT {pl : Sem Bool} (ho : PE X o ta) (c : Cls X.K C) (M : Meth X.K C m g)
    (F : FnOk X.prog X.w X.K X.mg X.base CT n g fd ps sp) (hr : Room n X.A) (B : L2.Binds X.K fd ps [])
    (hx : ∀ σ, PassesAt CT X σ (E σ)) (ha : PA X (e :: es) t)
    (h1 : starEach (e :: es) X.env = (false, eval e X.env) :: starEach es X.env := by rfl)
    (h2 : (backTo pos (starEach es X.env)).any (·.1) = false := by rfl)
    (h3 : eval (.Call (.Attribute o m ap) (e :: es) [] pos) X.env = (eval o X.env >>= fun ov => standAt ap.atName >>= fun _ => holding [ov] (getMethod ov m pl) >>= fun fo => callWith pos fo.1 fo.2 (backTo pos (starEach (e :: es) X.env)) (backToKw pos (keywordEach [] X.env))) := by rfl) :
    PE X (.Call (.Attribute o m ap) (e :: es) [] pos) (tMT C m sp E ta t) := by
  constructor
  intro pins s σ H Q I h
  refine PySem.W.methodCall_KW (pl := pl) (thn (ho.run pins s σ H _ I h) ?_) h3
  rintro u s1 ⟨y, H1, I1, ry, a, dx, fs, ey, ea, l, q⟩
  subst ey
  cases (show u = Value.ref a from ry)
  refine getmeth_ok I1 ea c M l (PySem.W.callWith_K (first := [.ref a]) (h₀ := X.base) I.ok.mod.kin M.kp (thn (ha.run pos pins s1 σ H1 _ I1 q) ?_) h1 h2)
  rintro us s2 ⟨vs, H2, I2, r, q2⟩
  exact ⟨I2.kIn, run_fnS (us := .ref a :: us) (vs := .ref a :: vs) F hr B (hx σ) I2 (.cons rfl r) q2⟩
def tMkT (C : Addr) (sp : Sp) (E : L2.St → XK) (t : TA) : TE := fun σ H Q =>
  t σ H fun vs H1 => ∀ x dx, H1 x = none → H1 dx = none → dx ≠ x →
    sp (.ref x :: vs) (upd (upd H1 dx (.own x)) x (.ins C dx [])) (fun v H2 => v = .non ∧ Q (.ref x) H2) (E σ)
/-- C(..) within a try -/
theorem pe_makeT (M : Mk X.K C g) (F : FnOk X.prog X.w X.K X.mg X.base CT n g fd ps sp) (hr : Room (n + 1) X.A) (hg : Gl X x) (hm : X.mg x = some (.ref C)) (B : L2.Binds X.K fd ps [])
    (hx : ∀ σ, PassesAt CT X σ (E σ)) (ha : PA X (e :: es) t) (hdb : (x == ("__debug__" : Str)) = false := by decide)
    (h1 : starEach (e :: es) X.env = (false, eval e X.env) :: starEach es X.env := by rfl)
    (h2 : (backTo pos (starEach es X.env)).any (·.1) = false := by rfl) :
    PE X (.Call (.Name x p) (e :: es) [] pos) (tMkT C sp E t) := by
  constructor
  intro pins s0 σ H0 Q I0 h0
  refine wpAny_Call_Name_kw (ld_glob I0 hg hm (PySem.W.callWith_K (h₀ := X.base) I0.ok.mod.kin M.kp (thn (ha.run pos pins s0 σ H0 _ I0 h0) ?_) h1 h2) hdb)
  rintro us s ⟨vs, H, I, r, h⟩
  refine ⟨I.kIn, ?_⟩
  show wpAny _ _ (call (.ref C) us) _ _ _
  have q := h (s.heap.objs.size + 1) s.heap.objs.size (I.hok.fresh (Nat.le_succ _)) (I.hok.fresh (Nat.le_refl _)) (Nat.ne_of_lt (Nat.lt_succ_self _))
  have I2 := Inv.made (C := C) I
  have r2 : Vals (V.ref (s.heap.objs.size + 1) :: vs) (Value.ref (s.heap.objs.size + 1) :: us) := .cons rfl r
  have hl : (Value.ref (s.heap.objs.size + 1) :: us).length = ps.length := by
    rw [← r2.length]
    exact F.len _ _ _ _ q
  have b2 := B _ (Value.ref (s.heap.objs.size + 1) :: us) I2.kIn (by rw [List.append_nil]; exact hl)
  rw [List.append_nil] at b2
  have run := F.run _ X.stack _ _ ⟨Value.ref (s.heap.objs.size + 1) :: us, []⟩ _ _ _ (E σ) (hr.make C us []) (I2.env0.make C us []) b2 r2 q
  refine wpAny_call (make_map (f := g) I.kIn M.makes M.init (beq_iff_eq.mp M.fn) (codeAny_mono run ?_))
  intro z s' hz
  cases z with
  | error er => exact hx σ pins _ _ er s' I2 hz
  | ok fl =>
    cases fl with
    | ret u =>
      obtain ⟨v, H', I3, rv, ev, q3⟩ := I2.after hz
      subst ev
      exact ⟨rv, V.ref (s.heap.objs.size + 1), H', I3, rfl, q3⟩
    | _ => exact False.elim hz
end
end Rm
namespace Gn
open PySem PySem.Spec PyProof.Rows L2
open Sem (wp)
open AutoSeq1 (wpAny_loadPart')
theorem new_enumT (l : Addr) (xs : Array Value) (n : Nat) (dct : Option Addr) (sl : Array (Option Value)) :
    Meets (Builtin.«enumerate.__new__» ⟨[.type "enumerate", .ref l], []⟩) fun _ R s =>
      (s.heap.get? l = some { cls := .type "tuple", dict := dct, data := .seq xs n, slots := sl }) ∧
      R (.ok (.ret (.ref (s.heap.objs.size + 1)))) { s with heap := Heap.push (s.heap.push { cls := .type "tuple_iterator", data := .fields #[.ref l, .int 0 0] }) { cls := .type "enumerate", data := .fields #[.none, .bool false, .ref s.heap.objs.size, rawInt 0, .none, .none] } } :=
  .of_wp fun prog w A R s h => by
    obtain ⟨hp, g, d, tk, os⟩ := s
    obtain ⟨hl, h⟩ := h
    have sub := sub_enumerate
    have hT : Heap.IsTuple (Shared.heap ⟨hp, g, d, tk, os⟩) l xs := ⟨_, hl, rfl, n, rfl⟩
    have hz : (hp.push { cls := .type "tuple_iterator", data := .fields #[.ref l, .int 0 0] }).objs.size = hp.objs.size + 1 := Heap.size_push ..
    wp_walk using wpAny_loadPart' hl
    refine wpAny_stack_any fun st => wpAny_pure ?_
    split
    · rename_i c _ _ _ _ _
      cases (c == Value.type "enumerate")
      all_goals
        wp_walk using wpAny_loadPart' hl, wpAny_pyIter_tuple hT
        exact ⟨_, rfl, by rw [hz]; exact h⟩
    · wp_walk using wpAny_loadPart' hl, wpAny_pyIter_tuple hT
      exact ⟨_, rfl, by rw [hz]; exact h⟩
theorem call_enumT {prog : Program} {w : World} {A : Around} {E : Value → Shared → Prop} {s : Shared} {l : Addr} {xs : Array Value} {Q : Value → Shared → Prop} (hT : s.heap.IsTuple l xs)
    (h : ∀ h', IsEnum h' (s.heap.objs.size + 1) s.heap.objs.size 0 .none → h'.IsTupleIter s.heap.objs.size l 0 →
      (∀ b o, s.heap.get? b = some o → h'.get? b = some o) → Q (.ref (s.heap.objs.size + 1)) { s with heap := h' }) :
    wpAny (model prog w) A (call (.type "enumerate") [.ref l]) Q E s := by
  obtain ⟨⟨c, dct, dt, sl⟩, hl, hc, n, hd⟩ := hT
  simp only at hc hd
  subst hc hd
  refine callType_new F.called_enumerate (by decide) (F.typeCall_enumerate_1 _) (F.newCall_enumerate_1 _) (fun obj => F.args_object_init_2 obj _) F.entry_enumerate_new (new_enumT l xs n dct sl) ⟨hl, ?_⟩
  have hz : (s.heap.push { cls := .type "tuple_iterator", data := .fields #[.ref l, .int 0 0] }).objs.size = s.heap.objs.size + 1 := Heap.size_push ..
  have he : IsEnum ((s.heap.push { cls := .type "tuple_iterator", data := .fields #[.ref l, .int 0 0] }).push { cls := .type "enumerate", data := .fields #[.none, .bool false, .ref s.heap.objs.size, rawInt 0, .none, .none] }) (s.heap.objs.size + 1) s.heap.objs.size 0 .none := by
    have q := Heap.get?_push_size (s.heap.push { cls := .type "tuple_iterator", data := .fields #[.ref l, .int 0 0] }) (o := { cls := .type "enumerate", data := .fields #[.none, .bool false, .ref s.heap.objs.size, rawInt 0, .none, .none] }) rfl
    rw [hz] at q
    exact q
  refine ⟨⟨_, he, rfl⟩, h _ he ?_ ?_⟩
  · exact ⟨_, Heap.get?_push_of_some _ (Heap.get?_push_size _ rfl), rfl, rfl⟩
  · exact fun b o x => Heap.get?_push_of_some _ (Heap.get?_push_of_some _ x)
/-- the tuple at a, each item in a new pair with its place -/
def IteT (K : PySem.W.Frag) (a : Addr) : It where
  go := fun i H => ∃ (xs : List V) (x : V), SqT K H a xs ∧ xs[i]? = some x
  yld := fun i H v H' => ∃ T x, v = .ref T ∧ H T = none ∧ H' = upd H T (.tup [.int (i : Nat), x]) ∧ ∀ xs, SqT K H a xs → xs[i]? = some x
  stop := fun i H => ∃ xs : List V, SqT K H a xs ∧ xs.length = i
theorem turn_enumT {P : Program} {w : World} {K : PySem.W.Frag} {elts : List Expr} {kk : Nat} {tpos : Pos} (a e it : Addr) :
    Turn P w K (.Tuple elts kk tpos) (IteT K a) [e, it] e (fun i h => (∃ old, IsEnum h e it ((i : Nat) : Int) old) ∧ h.IsTupleIter it a i ∧ (e ≠ it ∧ e ≠ a ∧ a ≠ it)) := by
  have two : ∀ b, b ∈ [e, it] → b = e ∨ b = it := fun b hb => by simpa using hb
  refine ⟨by simp, fun i h st b hb => ?_, fun i h h' st k => ?_, ?_, ?_, fun A i s Q E st h => ?_⟩
  · obtain ⟨⟨old, he⟩, ⟨o, ho, hc, hd⟩, _⟩ := st
    rcases two b hb with rfl | rfl
    · exact ⟨_, he, fun v q => nomatch q⟩
    · exact ⟨o, ho, fun v q => by rw [hd] at q; cases q⟩
  · obtain ⟨⟨old, he⟩, hi, n⟩ := st
    exact ⟨⟨old, k e (by simp) _ he⟩, hi.at (fun o q => k it (by simp) o q), n⟩
  · intro X hP hw hK hc i pins s σ H E I hf st hg
    subst hP hw hK
    obtain ⟨⟨old, he⟩, hit, n1, n2, n3⟩ := st
    obtain ⟨xs, x, hq, hx⟩ := hg
    obtain ⟨its, rv, p, hz⟩ := I.tuple hq
    obtain ⟨u, hu, ru⟩ := rv.get hx
    have el := Heap.lt_size he
    have il : it < s.heap.objs.size := by
      obtain ⟨_, q, _⟩ := hit
      exact Heap.lt_size q
    have lt : i < its.toArray.size := by
      obtain ⟨z, _⟩ := List.getElem?_eq_some_iff.mp hu
      rw [List.size_toArray]
      exact z
    refine wpAny_pyNext_enum_itemD (Draws.tuple (A := X.A.in1) (I.ok.hd hc) it a n3 its.toArray) he ⟨hit, p⟩ lt n1 (by simp [n1, n2]) fun x' h' tk hx' ho st' hT hsz hk => ?_
    have ex : x' = u := by
      have q : its.toArray[i]? = some u := by rw [List.getElem?_toArray]; exact hu
      rw [q] at hx'
      exact (Option.some.inj hx').symm
    subst ex
    refine ⟨_, rfl, wpAny_letOwnedTupleGo_enum (s := { s with heap := h', toks := tk + 1 }) ho fun h2 he2 sb => ?_⟩
    have hT2 := (sb.2 _ (Nat.ne_of_gt el)).trans hT
    have ok : ObjOk X.prog X.w (upd H s.heap.objs.size (.tup [.int (i : Nat), x])) h2 s.heap.objs.size (.tup [.int (i : Nat), x]) :=
      ⟨by show 2 ≤ sizeLine; decide, [.int i tk, x'], .cons ⟨_, rfl⟩ (.cons ru .nil), _, hT2, rfl, _, rfl⟩
    have I2 : Inv X pins σ (upd H s.heap.objs.size (.tup [.int (i : Nat), x])) { s with heap := h2, toks := tk + 1 } := by
      refine I.turnedNew (ch := [e, it]) (fun b ob hb q => ?_) hf (Nat.le_refl _) ok
      have b1 : b ≠ e := fun z => hb (by simp [z])
      have b2 : b ≠ it := fun z => hb (by simp [z])
      exact (sb.2 b b1).trans (hk b ob b1 b2 q)
    refine ⟨.ref s.heap.objs.size, _, I2, rfl, ⟨_, x, rfl, I.hok.fresh (Nat.le_refl _), rfl, fun ys hy => ?_⟩, ⟨⟨x', ?_⟩, st'.1.at fun o q => (sb.2 it (Ne.symm n1)).trans q, n1, n2, n3⟩, fun b hb => ?_⟩
    · rw [I.tuple_inj hy hq]
      exact hx
    · rw [show ((i + 1 : Nat) : Int) = (i : Int) + 1 by omega]
      exact he2
    · rw [upd_ne (Nat.ne_of_lt (by rcases two b hb with z | z <;> rw [z] <;> assumption))]
      exact (hf b hb).1
  · intro X hP hw hK hc i pins s σ H E I hf st hg
    subst hP hw hK
    obtain ⟨⟨old, he⟩, hit, n1, n2, n3⟩ := st
    obtain ⟨xs, hq, hx⟩ := hg
    obtain ⟨its, rv, p, hz⟩ := I.tuple hq
    obtain ⟨f0, f1, f2, f3, f4, f5⟩ := hf it (by simp)
    have ei : i = its.toArray.size := by
      rw [List.size_toArray, ← rv.length]
      exact hx.symm
    subst ei
    exact wpAny_pyNext_enum_endD (Draws.tuple (A := X.A.in1) (I.ok.hd hc) it a n3 its.toArray) he ⟨hit, p⟩ fun h' eb => ⟨rfl, I.turned (t' := s.toks) (fun b o hb q => eb b o hb q) f0 f1 f3 f4 f5⟩
  · obtain ⟨⟨_, he⟩, _⟩ := st
    exact wpAny_pyIter_enum he h
def iEnumT (K : PySem.W.Frag) (ta : TA) : TI := fun σ H R => ta σ H fun vs H1 => ∃ a xs, vs = [.ref a] ∧ ((SqL K H1 a xs ∧ R (Ite K a) H1) ∨ (SqT K H1 a xs ∧ R (IteT K a) H1))
/-- for (i, x) in enumerate(a list or a tuple) -/
theorem pi_enumA {X : Cx} {e : Expr} {ta : TA} {p pos tpos : Pos} {elts : List Expr} {kk : Nat} (hg : Gl X "enumerate") (hm : X.mg "enumerate" = none) (ha : PA X [e] ta) (hs : starEach [e] X.env = [(false, eval e X.env)] := by rfl) :
    PI X (.Tuple elts kk tpos) (.Call (.Name "enumerate" p) [e] [] pos) (iEnumT X.K ta) := by
  constructor
  intro pins s σ H R I h
  refine Call_ (ld_blt I hg hm boot_enumerate (PyProof.Rows.callWith_type1 (thn (ha.run pos pins s σ H _ I h) ?_) hs rfl))
  rintro us s1 ⟨vs, H1, I1, r1, a, xs, ex, q1⟩
  subst ex
  obtain ⟨u, rfl, ru⟩ : ∃ u, us = [u] ∧ RelV (.ref a) u := by
    cases r1 with
    | cons r rr =>
      cases rr
      exact ⟨_, rfl, r⟩
  cases (show u = Value.ref a from ru)
  have fresh : ∀ b, b ∈ [s1.heap.objs.size + 1, s1.heap.objs.size] → FpOk X pins H1 b := fun b hb => by
    have z : b = s1.heap.objs.size + 1 ∨ b = s1.heap.objs.size := by simpa using hb
    have le : s1.heap.objs.size ≤ b := by omega
    exact I1.fpOk le (I1.hok.fresh le)
  rcases q1 with ⟨hq, q⟩ | ⟨hq, q⟩
  · obtain ⟨its, rv, p', _⟩ := I1.list hq
    refine call_enumerate_list p'.isList fun h' he hit hsz hk => wpAny_pyIter_enum he ?_
    exact ⟨s1.heap.objs.size + 1, [s1.heap.objs.size + 1, s1.heap.objs.size], _, _, H1, rfl, I1.kept (t' := s1.toks) hk, turn_enum a (s1.heap.objs.size + 1) s1.heap.objs.size, ⟨⟨.none, he⟩, hit, Nat.succ_ne_self _⟩, fresh, q⟩
  · obtain ⟨its, rv, p', _⟩ := I1.tuple hq
    have al : a < s1.heap.objs.size := by
      obtain ⟨o, ho, _⟩ := id p'
      exact Heap.lt_size ho
    refine call_enumT p' fun h' he hit hk => wpAny_pyIter_enum he ?_
    exact ⟨s1.heap.objs.size + 1, [s1.heap.objs.size + 1, s1.heap.objs.size], _, _, H1, rfl, I1.kept (t' := s1.toks) hk, turn_enumT a (s1.heap.objs.size + 1) s1.heap.objs.size, ⟨⟨.none, he⟩, hit, Nat.succ_ne_self _, Nat.ne_of_gt (Nat.lt_succ_of_lt al), Nat.ne_of_lt al⟩, fresh, q⟩
theorem walk_enumT {K : PySem.W.Frag} {a : Addr} {xs : List V} : Walk (IteT K a) xs.length (fun H => SqT K H a xs) (YPair (fun i => some (.int (i : Nat))) (fun i => xs[i]?)) := by
  constructor
  · intro i H hi q
    exact ⟨xs, xs[i], q, by simp [hi]⟩
  · intro H q
    exact ⟨xs, q, rfl⟩
  · rintro i H v H' hi q ⟨T, x, h1, h2, h3, h4⟩
    exact ⟨T, _, x, h1, h2, h3, rfl, h4 xs q⟩
theorem walk_zipT {K : PySem.W.Frag} {a b : Addr} {xs ys : List V} (hn : xs.length = ys.length) : Walk (RZ.ItzT K a b) xs.length (fun H => SqT K H a xs ∧ SqT K H b ys) (YPair (fun i => xs[i]?) (fun i => ys[i]?)) := by
  constructor
  · rintro i H hi ⟨q1, q2⟩
    have h2 : i < ys.length := by omega
    exact ⟨xs, ys, xs[i], ys[i], q1, q2, by simp [hi], by simp [h2]⟩
  · rintro H ⟨q1, q2⟩
    exact ⟨xs, ys, q1, q2, .inl (Nat.le_refl _)⟩
  · rintro i H v H' hi ⟨q1, q2⟩ ⟨T, x, y, h1, h2, h3, h4, h5⟩
    exact ⟨T, x, y, h1, h2, h3, h4 xs q1, h5 ys q2⟩
theorem mul_same (l : Addr) (items : Array Value) (n : Nat) (sl : Array (Option Value)) (dd : Option Addr) (u : Tok) :
    Meets (Builtin.«tuple.__mul__» ⟨[.ref l, .int 1 u], []⟩) fun _ R s => (s.heap.get? l = some { cls := .type "tuple", dict := dd, data := .seq items n, slots := sl }) ∧ R (.ok (.ret (.ref l))) s :=
  .of_wp fun prog w A R s h => by
    obtain ⟨hp, g, d, tk, os⟩ := s
    obtain ⟨hl, h⟩ := h
    have f1 := AutoSeq1.idx_int
    have c0 : (decide ((1 : Int) < -(2 ^ 63)) || decide ((1 : Int) ≥ 2 ^ 63)) = false := by decide
    have c1 : (items.isEmpty || (1 : Int) == 1) = true := by simp
    wp_walk using wpAny_loadPart' hl
    repeat (first
      | (refine wpAny_ite_false (decide_eq_false (by rw [c0]; exact Bool.false_ne_true)) ?_; wp_walk using wpAny_loadPart' hl)
      | (refine wpAny_ite_true (decide_eq_true c1) ?_; wp_walk using wpAny_loadPart' hl))
    exact ⟨_, rfl, h⟩
/-- a tuple times 1: the tuple itself -/
def rRep1 (K : PySem.W.Frag) : R2 := fun x y H Q => ∃ l xs, x = .ref l ∧ y = .int 1 ∧ SqT K H l xs ∧ Q (.ref l) H
theorem op_rep1 {X : Cx} : OpR X (binaryOp .Mult) (rRep1 X.K) := by
  intro pins s σ H x y v u Q I rx ry h
  obtain ⟨l, xs, rfl, rfl, hT, q⟩ := h
  cases rx
  obtain ⟨t, rfl⟩ := ry
  obtain ⟨its, r, ⟨⟨cls, dd, data, sl⟩, ho, hc, n, hd⟩, hs⟩ := I.tuple hT
  simp only at hc hd
  subst hc hd
  refine wpAny_binaryOp_repeat_ref (T := "tuple") (U := "int") (by decide) ⟨_, ho, rfl⟩ (fun s' => typeIs_int s' 1 t) noFill_tuple_mul F.fills_int_mul F.slot_int_rmul repeat_tuple F.slot_int_index.lookup ?_
  refine call_meets F.slot_int_rmul (typeIs_int s 1 t) F.entry_int_rmul (F.args_int_rmul_2 _ _) (int_rmul_tuple 1 t l its.toArray n dd sl) ⟨ho, rfl, ⟨_, ho, rfl⟩, ?_⟩
  exact call_meets F.slot_tuple_mul ⟨_, ho, rfl⟩ F.entry_tuple_mul (F.args_tuple_mul_2 _ _) (mul_same l its.toArray n sl dd t) ⟨ho, .ref l, H, I, rfl, q⟩
end Gn
namespace Wr
open PySem PySem.Spec PyProof.Rows L2 Gn
theorem mul_none (l : Addr) (items : Array Value) (n : Nat) (sl : Array (Option Value)) (dd : Option Addr) (u : Tok) (hne : items.isEmpty = false) :
    Meets (Builtin.«tuple.__mul__» ⟨[.ref l, .int 0 u], []⟩) fun _ R s => (s.heap.get? l = some { cls := .type "tuple", dict := dd, data := .seq items n, slots := sl }) ∧
      R (.ok (.ret (Value.ref s.heap.objs.size))) { s with heap := s.heap.push { cls := Value.type "tuple", data := Data.seq #[] }, toks := s.toks } :=
  .of_wp fun prog w A R s h => by
    obtain ⟨hp, g, d, tk, os⟩ := s
    obtain ⟨hl, h⟩ := h
    have f1 := AutoSeq1.idx_int
    have c0 : (decide ((0 : Int) < -(2 ^ 63)) || decide ((0 : Int) ≥ 2 ^ 63)) = false := by decide
    have c1 : (items.isEmpty || (0 : Int) == 1) = false := by rw [hne]; rfl
    have c2 : (decide ((0 : Int) ≤ 0) || items.isEmpty) = true := by rw [hne]; rfl
    wp_walk using wpAny_loadPart' hl
    repeat (first
      | (refine wpAny_ite_false (decide_eq_false (by rw [c0]; exact Bool.false_ne_true)) ?_; wp_walk using wpAny_loadPart' hl)
      | (refine wpAny_ite_false (decide_eq_false (by rw [c1]; exact Bool.false_ne_true)) ?_; wp_walk using wpAny_loadPart' hl)
      | (refine wpAny_ite_true (decide_eq_true c2) ?_; wp_walk using wpAny_loadPart' hl))
    exact ⟨_, rfl, h⟩
/-- a tuple times 0: a new tuple of nothing -/
def rRep0 (K : PySem.W.Frag) : R2 := fun x y H Q => ∃ l xs, x = .ref l ∧ y = .int 0 ∧ SqT K H l xs ∧ xs ≠ [] ∧ ∀ p, H p = none → Q (.ref p) (upd H p (.tup []))
theorem op_rep0 {X : Cx} : OpR X (binaryOp .Mult) (rRep0 X.K) := by
  intro pins s σ H x y v u Q I rx ry h
  obtain ⟨l, xs, rfl, rfl, hT, hne, q⟩ := h
  cases rx
  obtain ⟨t, rfl⟩ := ry
  obtain ⟨its, r, ⟨⟨cls, dd, data, sl⟩, ho, hc, n, hd⟩, hs⟩ := I.tuple hT
  simp only at hc hd
  subst hc hd
  have hi : its.toArray.isEmpty = false := by
    cases its with
    | nil =>
      have e := r.length
      exact absurd (List.eq_nil_of_length_eq_zero e) hne
    | cons a b => rfl
  refine wpAny_binaryOp_repeat_ref (T := "tuple") (U := "int") (by decide) ⟨_, ho, rfl⟩ (fun s' => typeIs_int s' 0 t) noFill_tuple_mul F.fills_int_mul F.slot_int_rmul repeat_tuple F.slot_int_index.lookup ?_
  refine call_meets F.slot_int_rmul (typeIs_int s 0 t) F.entry_int_rmul (F.args_int_rmul_2 _ _) (int_rmul_tuple 0 t l its.toArray n dd sl) ⟨ho, rfl, ⟨_, ho, rfl⟩, ?_⟩
  refine call_meets F.slot_tuple_mul ⟨_, ho, rfl⟩ F.entry_tuple_mul (F.args_tuple_mul_2 _ _) (mul_none l its.toArray n sl dd t hi) ⟨ho, ?_⟩
  refine ⟨.ref s.heap.objs.size, _, I.laid (t' := s.toks) (o := .tup []) (fun b ob q => Heap.get?_push_of_some _ q) (Nat.le_refl _) ?_, rfl, q _ (I.hok.fresh (Nat.le_refl _))⟩
  exact ⟨Nat.zero_le _, [], .nil, IsTup.new _ _⟩
end Wr
namespace Wx
open PySem PySem.Spec PyProof.Rows L2
/-- a clause: its class, the slot of its name, what its suite does -/
structure Cl where
  c : Value
  i : Nat
  ts : Addr → Value → Option Addr → TS
/-- what the clauses ask, one behind the other -/
def wCl (K : PySem.W.Frag) (Wo : WX) (D : Ends) : List Cl → WX
  | [] => Wo
  | q :: r => wAs K q.c q.i q.ts (wCl K Wo D r) D
inductive ClOk (X : Cx) : List ExceptHandler → List Cl → Prop
  | nil : ClOk X [] []
  | cons {x n : Str} {q : Cl} {b : Stmt} {bs : List Stmt} {p1 p2 : Pos} {hs : List ExceptHandler} {r : List Cl} (hn : X.N[q.i]? = some n) (hk : X.env.kindOf n = some .local) (nm : Names X x q.c)
      (su : ∀ (e : Addr) (ob : Obj) (k : Value) (dd : Option Addr) (ps : List (Addr × Obj)), Zc k dd ob → (∃ us, ob.data = .fields us) → PSs (X.suite e ((e, ob) :: ps)) (b :: bs) (q.ts e k dd)) (rest : ClOk X hs r) :
      ClOk X (.ExceptHandler (some (.Name x p1)) (some n) (b :: bs) p2 :: hs) (q :: r)
section
variable {X : Cx} {body : List Stmt} {h0 : ExceptHandler} {hr : List ExceptHandler} {l : List Cl} {pos : Pos} {tb : WX → TS} {Wo : WX}
/-- the clauses, asked from left to right, of an exception that has landed -/
theorem asked {ps : List (Addr × Obj)} {B : Heap} {sI s0 s' : Shared} {σ σ0 : L2.St} {H H0 : Hp} {D : Ends} {e : Addr} {k : Value} {dd : Option Addr} {hp : Heap} (I0 : Inv X ps σ0 H0 s0)
    (st : X.stack = X.env :: X.outer) (fr : X.env.frame = some X.env.locals) (nd : X.N.Nodup) (tko : Takes X Wo)
    (J : Inv X ps σ H sI) (nb : ∀ c u, sI.heap.get? c = some u → c ∉ frs X.stack → B.get? c = some u) (up : sI.heap.UpToSlots hp) (fly : HandSPX.FlyingZ B (X.env :: X.outer) e (Zc k dd) hp) (na : H e = none) (os : s'.os = sI.os) (ag : AllBare s'.gens) :
    ∀ {hs : List ExceptHandler} {l : List Cl}, ClOk X hs l → wCl X.K Wo D l k dd σ H → wpAny (model X.prog X.w) X.A (handleBy (.ref e) X.env hs) (SP X ps D) X.xe { s' with heap := hp } := by
  have okI := I0.ok
  obtain ⟨ob, us, gob, zob, dob⟩ := fly.there
  have away : ∀ {h : Heap} {o : Obj} {ws : Array Value}, h.FunFrames B (X.env :: X.outer) → h.get? e = some o → o.data = .fields ws → e ∉ frs (X.env :: X.outer) := by
    intro h o ws ff eo ed hm
    obtain ⟨_, o2, eo2, hne⟩ := ff.mem hm
    rw [eo] at eo2
    cases eo2
    exact hne _ ed
  have out := away fly.2.2.1 gob dob
  have neL : e ≠ X.env.locals := fun z => out (List.mem_filterMap.mpr ⟨X.env, List.mem_cons_self, by rw [fr, z]⟩)
  have neF : e ∉ X.fs := by
    intro hm
    obtain ⟨v, hv, q⟩ := List.mem_filterMap.mp hm
    exact out (List.mem_filterMap.mpr ⟨v, List.mem_cons_of_mem _ hv, q⟩)
  have JL : Inv X ps σ H { s' with heap := hp } := J.landed nb fly.1 up os ag
  have JS := JL.suite gob dob na neL neF
  have Lk : PySem.W.Looks (model X.prog X.w) hp (typeOf (.ref e)) k := by
    intro A Q E s keeps q
    exact wpAny_typeOf_ref (keeps _ _ gob) (by rw [zob.1]; exact q)
  intro hs l hok
  induction hok with
  | nil =>
    intro wish
    refine wpAny_handleBy_nil ?_
    obtain ⟨_, _, _, ob1, us1, T, oT, ts1, g1, _, d1, a1, _⟩ := id fly
    unfold PySem.passOn
    refine wpAny_bind (wpAny_field g1 d1 a1 ?_)
    rw [if_neg (by simp : ¬ ((Value.ref T == Value.none) = true))]
    have leave : wpAny (model X.prog X.w) X.A (setFlight (.ref e) X.env.frame) (fun _ s4 => wpAny (model X.prog X.w) X.A (throw (.ref e) : Sem Flow) (SP X ps D) X.xe s4) X.xe { s' with heap := hp } := by
      rw [fr]
      refine HandSPX.setFlight_upZ fly fun hq held upq => wpAny_throw (tko _ _ ?_)
      exact ⟨e, B, sI, ps, σ, H, k, dd, rfl, J, nb, up.trans upq, .inr (.inr (by rw [st]; exact held)), na, os, ag, wish⟩
    first
      | exact wpAny_bind (wpAny_pure (wpAny_bind leave))
      | exact wpAny_bind leave
  | @cons x n q b bs p1 p2 hs2 r hn hk nm su rest ih =>
    rintro ⟨t, et, yes, no⟩
    refine wpAny_handleBy_cons (codeAny_handlers_test ?_) (fun z => by cases z)
    have mt := PySem.W.exm_one (M := model X.prog X.w) JL.kIn Lk et
    have nameIs : ∀ {Q : Value → Shared → Prop} {E : Value → Shared → Prop}, Q q.c { s' with heap := hp } → wpAny (model X.prog X.w) (X.A.mark (some (.ref e))) (eval (.Name x p1) X.env) Q E { s' with heap := hp } := by
      intro Q E ask
      obtain ⟨hg, hdb, hm | ⟨hm, hv, hnn⟩⟩ := nm
      · exact ld_glob (X := X.suite e ((e, ob) :: (X.pn ++ ps))) JS hg hm ask hdb
      · exact ld_blt (X := X.suite e ((e, ob) :: (X.pn ++ ps))) JS hg hm hv ask hnn hdb
    refine nameIs (mt.here ?_)
    cases t with
    | false => exact ih (no rfl)
    | true =>
      refine codeAny_handlers_suite_as (HandSPX.lands_againZ fly fun h4 fl4 up4 => ?_)
      have JN : Inv X ps σ H { s' with heap := h4 } := J.landed nb fl4.1 (up.trans up4) os ag
      obtain ⟨ob4, us4, gob4, zob4, dob4⟩ := fl4.there
      have SN := JN.suite gob4 dob4 na neL neF
      refine store_ok (X := X.suite e ((e, ob4) :: (X.pn ++ ps))) (v := .ref e) SN nd hn (Or.inl hk) rfl (fun s5 S5 => ?_) (.inr hk)
      refine wpAny_mono ((su e ob4 k dd (X.pn ++ ps) zob4 ⟨_, dob4⟩).run [] s5 _ H _ S5 (yes rfl e na)) (fun f s6 hf => ?_) (fun _ _ z => z.elim)
      have done : ∀ {σ6 : L2.St} {H6 : Hp} {Q : Shared → Prop}, Inv (X.suite e ((e, ob4) :: (X.pn ++ ps))) [] σ6 H6 s6 → (∀ s7, Inv X ps (σ6.set q.i none) H6 s7 → Q s7) →
          wpAny (model X.prog X.w) X.A (do bindName X.env n .none; unbindBehindTheSuite X.env n p2) (fun _ s7 => Q s7) X.xe s6 := by
        intro σ6 H6 Q S6 ask
        exact gone_ok (S6.unsuite okI) nd hn hk ask
      cases f with
      | ret u =>
        obtain ⟨v, σ6, H6, S6, rv, fin⟩ := hf
        exact done S6 fun s7 J7 => ⟨v, _, _, J7, rv, fin⟩
      | next =>
        obtain ⟨σ6, H6, S6, fin⟩ := hf
        exact done S6 fun s7 J7 => ⟨_, _, J7, fin⟩
      | brk =>
        obtain ⟨σ6, H6, S6, fin⟩ := hf
        exact done S6 fun s7 J7 => ⟨_, _, J7, fin⟩
      | cont =>
        obtain ⟨σ6, H6, S6, fin⟩ := hf
        exact done S6 fun s7 J7 => ⟨_, _, J7, fin⟩
/-- try: body / except A as n: .. / except B as m: .. -/
theorem ps_try_named (st : X.stack = X.env :: X.outer) (fr : X.env.frame = some X.env.locals) (nd : X.N.Nodup) (tko : Takes X Wo)
    (bd : ∀ (W : WX) (ps : List (Addr × Obj)) (xs : Value → Shared → Prop), Takes (X.tr ps xs) W → PassesOwn (model X.prog X.w) X.A X.env xs → PSs (X.tr ps xs) body (tb W))
    (cl : ClOk X (h0 :: hr) l) : PS X (.Try body (h0 :: hr) [] [] pos) (fun D σ H => tb (wCl X.K Wo D l) D σ H) := by
  refine ⟨fun ps s σ H D I ask => ?_⟩
  have okI := I.ok
  have frames : X.A.frames = some (X.env :: X.outer) := by rw [okI.frames, st]
  refine wpAny_Try_except ?_
  have catch_ : ∀ u s', XE (X.tr (X.pn ++ ps) (fun z s₁ => wpAny (model X.prog X.w) X.A (noteFrame z X.env) (fun _ s₂ => wpAny (model X.prog X.w) X.A (setFlight z none) (fun _ s₃ => wpAny (model X.prog X.w) X.A (handleBy z X.env (h0 :: hr)) (SP X ps D) X.xe s₃) X.xe s₂) X.xe s₁)) (wCl X.K Wo D l) u s' →
      wpAny (model X.prog X.w) X.A (noteFrame u X.env) (fun _ s₂ => wpAny (model X.prog X.w) X.A (setFlight u none) (fun _ s₃ => wpAny (model X.prog X.w) X.A (handleBy u X.env (h0 :: hr)) (SP X ps D) X.xe s₃) X.xe s₂) X.xe s' := by
    rintro u s' ⟨e, B, sI, ps', σ', H', k, dd, rfl, J', nb, up, sky, na, os, ag, wish⟩
    have J : Inv X ps σ' H' sI := J'.ofTry okI
    have sky1 : Sky B (X.env :: X.outer) e (Zc k dd) X.env.locals s'.heap := by rw [← st]; exact sky
    refine Sky.land Zc.steady frames fr sky1 fun hp fly uq => ?_
    exact asked I st fr nd tko J nb (up.trans uq) fly na os ag cl wish
  refine wpAny_mono ((bd (wCl X.K Wo D l) (X.pn ++ ps) _ catch_ PassesOwn.looking).run [] s σ H D (I.toTry _) ask) (fun f s1 hf => ?_) (fun z s1 hz => hz)
  cases f with
  | ret u =>
    obtain ⟨v, σ', H', J', rv, fin⟩ := hf
    exact ⟨v, σ', H', J'.ofTry okI, rv, fin⟩
  | next =>
    obtain ⟨σ', H', J', fin⟩ := hf
    exact wpAny_execs_nil ⟨σ', H', J'.ofTry okI, fin⟩
  | brk =>
    obtain ⟨σ', H', J', fin⟩ := hf
    exact ⟨σ', H', J'.ofTry okI, fin⟩
  | cont =>
    obtain ⟨σ', H', J', fin⟩ := hf
    exact ⟨σ', H', J'.ofTry okI, fin⟩
end
end Wx
namespace Wy
open PySem PySem.Spec PyProof.Rows L2
/-- a clause: its class, the slot of its name, what its suite does -/
structure Cl where
  c : Value
  i : Option Nat
  ts : Addr → Value → Option Addr → TS
/-- what the clauses ask, one behind the other -/
def wCl (K : PySem.W.Frag) (Wo : WX) (D : Ends) : List Cl → WX
  | [] => Wo
  | ⟨c, some i, ts⟩ :: r => wAs K c i ts (wCl K Wo D r) D
  | ⟨c, none, ts⟩ :: r => wOnly K c ts (wCl K Wo D r) D
inductive ClOk (X : Cx) : List ExceptHandler → List Cl → Prop
  | nil : ClOk X [] []
  | cons {x n : Str} {c : Value} {i : Nat} {ts : Addr → Value → Option Addr → TS} {b : Stmt} {bs : List Stmt} {p1 p2 : Pos} {hs : List ExceptHandler} {r : List Cl} (hn : X.N[i]? = some n) (hk : X.env.kindOf n = some .local) (nm : Names X x c)
      (su : ∀ (e : Addr) (ob : Obj) (k : Value) (dd : Option Addr) (ps : List (Addr × Obj)), Zc k dd ob → (∃ us, ob.data = .fields us) → PSs (X.suite e ((e, ob) :: ps)) (b :: bs) (ts e k dd)) (rest : ClOk X hs r) :
      ClOk X (.ExceptHandler (some (.Name x p1)) (some n) (b :: bs) p2 :: hs) (⟨c, some i, ts⟩ :: r)
  | bare {x : Str} {c : Value} {ts : Addr → Value → Option Addr → TS} {b : Stmt} {bs : List Stmt} {p1 p2 : Pos} {hs : List ExceptHandler} {r : List Cl} (nm : Names X x c)
      (su : ∀ (e : Addr) (ob : Obj) (k : Value) (dd : Option Addr) (ps : List (Addr × Obj)), Zc k dd ob → (∃ us, ob.data = .fields us) → PSs (X.suite e ((e, ob) :: ps)) (b :: bs) (ts e k dd)) (rest : ClOk X hs r) :
      ClOk X (.ExceptHandler (some (.Name x p1)) none (b :: bs) p2 :: hs) (⟨c, none, ts⟩ :: r)
section
variable {X : Cx} {body : List Stmt} {h0 : ExceptHandler} {hr : List ExceptHandler} {l : List Cl} {pos : Pos} {tb : WX → TS} {Wo : WX}
/-- the clauses, asked from left to right, of an exception that has landed -/
theorem asked {ps : List (Addr × Obj)} {B : Heap} {sI s0 s' : Shared} {σ σ0 : L2.St} {H H0 : Hp} {D : Ends} {e : Addr} {k : Value} {dd : Option Addr} {hp : Heap} (I0 : Inv X ps σ0 H0 s0)
    (st : X.stack = X.env :: X.outer) (fr : X.env.frame = some X.env.locals) (nd : X.N.Nodup) (tko : Takes X Wo)
    (J : Inv X ps σ H sI) (nb : ∀ c u, sI.heap.get? c = some u → c ∉ frs X.stack → B.get? c = some u) (up : sI.heap.UpToSlots hp) (fly : HandSPX.FlyingZ B (X.env :: X.outer) e (Zc k dd) hp) (na : H e = none) (os : s'.os = sI.os) (ag : AllBare s'.gens) :
    ∀ {hs : List ExceptHandler} {l : List Cl}, ClOk X hs l → wCl X.K Wo D l k dd σ H → wpAny (model X.prog X.w) X.A (handleBy (.ref e) X.env hs) (SP X ps D) X.xe { s' with heap := hp } := by
  have okI := I0.ok
  obtain ⟨ob, us, gob, zob, dob⟩ := fly.there
  have away : ∀ {h : Heap} {o : Obj} {ws : Array Value}, h.FunFrames B (X.env :: X.outer) → h.get? e = some o → o.data = .fields ws → e ∉ frs (X.env :: X.outer) := by
    intro h o ws ff eo ed hm
    obtain ⟨_, o2, eo2, hne⟩ := ff.mem hm
    rw [eo] at eo2
    cases eo2
    exact hne _ ed
  have out := away fly.2.2.1 gob dob
  have neL : e ≠ X.env.locals := fun z => out (List.mem_filterMap.mpr ⟨X.env, List.mem_cons_self, by rw [fr, z]⟩)
  have neF : e ∉ X.fs := by
    intro hm
    obtain ⟨v, hv, q⟩ := List.mem_filterMap.mp hm
    exact out (List.mem_filterMap.mpr ⟨v, List.mem_cons_of_mem _ hv, q⟩)
  have JL : Inv X ps σ H { s' with heap := hp } := J.landed nb fly.1 up os ag
  have JS := JL.suite gob dob na neL neF
  have Lk : PySem.W.Looks (model X.prog X.w) hp (typeOf (.ref e)) k := by
    intro A Q E s keeps q
    exact wpAny_typeOf_ref (keeps _ _ gob) (by rw [zob.1]; exact q)
  intro hs l hok
  induction hok with
  | nil =>
    intro wish
    refine wpAny_handleBy_nil ?_
    obtain ⟨_, _, _, ob1, us1, T, oT, ts1, g1, _, d1, a1, _⟩ := id fly
    unfold PySem.passOn
    refine wpAny_bind (wpAny_field g1 d1 a1 ?_)
    rw [if_neg (by simp : ¬ ((Value.ref T == Value.none) = true))]
    have leave : wpAny (model X.prog X.w) X.A (setFlight (.ref e) X.env.frame) (fun _ s4 => wpAny (model X.prog X.w) X.A (throw (.ref e) : Sem Flow) (SP X ps D) X.xe s4) X.xe { s' with heap := hp } := by
      rw [fr]
      refine HandSPX.setFlight_upZ fly fun hq held upq => wpAny_throw (tko _ _ ?_)
      exact ⟨e, B, sI, ps, σ, H, k, dd, rfl, J, nb, up.trans upq, .inr (.inr (by rw [st]; exact held)), na, os, ag, wish⟩
    first
      | exact wpAny_bind (wpAny_pure (wpAny_bind leave))
      | exact wpAny_bind leave
  | @cons x n qc qi qts b bs p1 p2 hs2 r hn hk nm su rest ih =>
    rintro ⟨t, et, yes, no⟩
    refine wpAny_handleBy_cons (codeAny_handlers_test ?_) (fun z => by cases z)
    have mt := PySem.W.exm_one (M := model X.prog X.w) JL.kIn Lk et
    have nameIs : ∀ {Q : Value → Shared → Prop} {E : Value → Shared → Prop}, Q qc { s' with heap := hp } → wpAny (model X.prog X.w) (X.A.mark (some (.ref e))) (eval (.Name x p1) X.env) Q E { s' with heap := hp } := by
      intro Q E ask
      obtain ⟨hg, hdb, hm | ⟨hm, hv, hnn⟩⟩ := nm
      · exact ld_glob (X := X.suite e ((e, ob) :: (X.pn ++ ps))) JS hg hm ask hdb
      · exact ld_blt (X := X.suite e ((e, ob) :: (X.pn ++ ps))) JS hg hm hv ask hnn hdb
    refine nameIs (mt.here ?_)
    cases t with
    | false => exact ih (no rfl)
    | true =>
      refine codeAny_handlers_suite_as (HandSPX.lands_againZ fly fun h4 fl4 up4 => ?_)
      have JN : Inv X ps σ H { s' with heap := h4 } := J.landed nb fl4.1 (up.trans up4) os ag
      obtain ⟨ob4, us4, gob4, zob4, dob4⟩ := fl4.there
      have SN := JN.suite gob4 dob4 na neL neF
      refine store_ok (X := X.suite e ((e, ob4) :: (X.pn ++ ps))) (v := .ref e) SN nd hn (Or.inl hk) rfl (fun s5 S5 => ?_) (.inr hk)
      refine wpAny_mono ((su e ob4 k dd (X.pn ++ ps) zob4 ⟨_, dob4⟩).run [] s5 _ H _ S5 (yes rfl e na)) (fun f s6 hf => ?_) (fun _ _ z => z.elim)
      have done : ∀ {σ6 : L2.St} {H6 : Hp} {Q : Shared → Prop}, Inv (X.suite e ((e, ob4) :: (X.pn ++ ps))) [] σ6 H6 s6 → (∀ s7, Inv X ps (σ6.set qi none) H6 s7 → Q s7) →
          wpAny (model X.prog X.w) X.A (do bindName X.env n .none; unbindBehindTheSuite X.env n p2) (fun _ s7 => Q s7) X.xe s6 := by
        intro σ6 H6 Q S6 ask
        exact gone_ok (S6.unsuite okI) nd hn hk ask
      cases f with
      | ret u =>
        obtain ⟨v, σ6, H6, S6, rv, fin⟩ := hf
        exact done S6 fun s7 J7 => ⟨v, _, _, J7, rv, fin⟩
      | next =>
        obtain ⟨σ6, H6, S6, fin⟩ := hf
        exact done S6 fun s7 J7 => ⟨_, _, J7, fin⟩
      | brk =>
        obtain ⟨σ6, H6, S6, fin⟩ := hf
        exact done S6 fun s7 J7 => ⟨_, _, J7, fin⟩
      | cont =>
        obtain ⟨σ6, H6, S6, fin⟩ := hf
        exact done S6 fun s7 J7 => ⟨_, _, J7, fin⟩
  | @bare x qc qts b bs p1 p2 hs2 r nm su rest ih =>
    rintro ⟨t, et, yes, no⟩
    refine wpAny_handleBy_cons (codeAny_handlers_test ?_) (fun z => by cases z)
    have mt := PySem.W.exm_one (M := model X.prog X.w) JL.kIn Lk et
    have nameIs : ∀ {Q : Value → Shared → Prop} {E : Value → Shared → Prop}, Q qc { s' with heap := hp } → wpAny (model X.prog X.w) (X.A.mark (some (.ref e))) (eval (.Name x p1) X.env) Q E { s' with heap := hp } := by
      intro Q E ask
      obtain ⟨hg, hdb, hm | ⟨hm, hv, hnn⟩⟩ := nm
      · exact ld_glob (X := X.suite e ((e, ob) :: (X.pn ++ ps))) JS hg hm ask hdb
      · exact ld_blt (X := X.suite e ((e, ob) :: (X.pn ++ ps))) JS hg hm hv ask hnn hdb
    refine nameIs (mt.here ?_)
    cases t with
    | false => exact ih (no rfl)
    | true =>
      refine codeAny_handlers_suite (HandSPX.lands_againZ fly fun h4 fl4 up4 => ?_)
      have JN : Inv X ps σ H { s' with heap := h4 } := J.landed nb fl4.1 (up.trans up4) os ag
      obtain ⟨ob4, us4, gob4, zob4, dob4⟩ := fl4.there
      have SN := JN.suite gob4 dob4 na neL neF
      refine wpAny_mono ((su e ob4 k dd (X.pn ++ ps) zob4 ⟨_, dob4⟩).run [] _ _ H _ SN (yes rfl e na)) (fun f s6 hf => ?_) (fun _ _ z => z.elim)
      cases f with
      | ret u =>
        obtain ⟨v, σ6, H6, S6, rv, fin⟩ := hf
        exact ⟨v, _, _, S6.unsuite okI, rv, fin⟩
      | next =>
        obtain ⟨σ6, H6, S6, fin⟩ := hf
        exact ⟨_, _, S6.unsuite okI, fin⟩
      | brk =>
        obtain ⟨σ6, H6, S6, fin⟩ := hf
        exact ⟨_, _, S6.unsuite okI, fin⟩
      | cont =>
        obtain ⟨σ6, H6, S6, fin⟩ := hf
        exact ⟨_, _, S6.unsuite okI, fin⟩
/-- try: body / except A as n: .. / except B as m: .. -/
theorem ps_try_named (st : X.stack = X.env :: X.outer) (fr : X.env.frame = some X.env.locals) (nd : X.N.Nodup) (tko : Takes X Wo)
    (bd : ∀ (W : WX) (ps : List (Addr × Obj)) (xs : Value → Shared → Prop), Takes (X.tr ps xs) W → PassesOwn (model X.prog X.w) X.A X.env xs → PSs (X.tr ps xs) body (tb W))
    (cl : ClOk X (h0 :: hr) l) : PS X (.Try body (h0 :: hr) [] [] pos) (fun D σ H => tb (wCl X.K Wo D l) D σ H) := by
  refine ⟨fun ps s σ H D I ask => ?_⟩
  have okI := I.ok
  have frames : X.A.frames = some (X.env :: X.outer) := by rw [okI.frames, st]
  refine wpAny_Try_except ?_
  have catch_ : ∀ u s', XE (X.tr (X.pn ++ ps) (fun z s₁ => wpAny (model X.prog X.w) X.A (noteFrame z X.env) (fun _ s₂ => wpAny (model X.prog X.w) X.A (setFlight z none) (fun _ s₃ => wpAny (model X.prog X.w) X.A (handleBy z X.env (h0 :: hr)) (SP X ps D) X.xe s₃) X.xe s₂) X.xe s₁)) (wCl X.K Wo D l) u s' →
      wpAny (model X.prog X.w) X.A (noteFrame u X.env) (fun _ s₂ => wpAny (model X.prog X.w) X.A (setFlight u none) (fun _ s₃ => wpAny (model X.prog X.w) X.A (handleBy u X.env (h0 :: hr)) (SP X ps D) X.xe s₃) X.xe s₂) X.xe s' := by
    rintro u s' ⟨e, B, sI, ps', σ', H', k, dd, rfl, J', nb, up, sky, na, os, ag, wish⟩
    have J : Inv X ps σ' H' sI := J'.ofTry okI
    have sky1 : Sky B (X.env :: X.outer) e (Zc k dd) X.env.locals s'.heap := by rw [← st]; exact sky
    refine Sky.land Zc.steady frames fr sky1 fun hp fly uq => ?_
    exact asked I st fr nd tko J nb (up.trans uq) fly na os ag cl wish
  refine wpAny_mono ((bd (wCl X.K Wo D l) (X.pn ++ ps) _ catch_ PassesOwn.looking).run [] s σ H D (I.toTry _) ask) (fun f s1 hf => ?_) (fun z s1 hz => hz)
  cases f with
  | ret u =>
    obtain ⟨v, σ', H', J', rv, fin⟩ := hf
    exact ⟨v, σ', H', J'.ofTry okI, rv, fin⟩
  | next =>
    obtain ⟨σ', H', J', fin⟩ := hf
    exact wpAny_execs_nil ⟨σ', H', J'.ofTry okI, fin⟩
  | brk =>
    obtain ⟨σ', H', J', fin⟩ := hf
    exact ⟨σ', H', J'.ofTry okI, fin⟩
  | cont =>
    obtain ⟨σ', H', J', fin⟩ := hf
    exact ⟨σ', H', J'.ofTry okI, fin⟩
end
end Wy
set_option maxHeartbeats 2000000
namespace Fw
open PySem PySem.Spec PyProof.Rows L2 Vz
/-- a value as data: hl a list that one place alone holds; me the one thing that is handed about and changes (a law's hand, a self under construction); ex an error that a suite holds -/
inductive D where
  | non | bl (b : Bool) | int (i : Int) | str (x : Str)
  | tup (ds : List D) | lst (ds : List D)
  | ins (n : Str) (fs : List (Str × D))
  | hl (ds : List D) | me
  | ex (n : Str) (fs : List (Str × D))
/-- a law's constants -/
structure Cn where
  K : PySem.W.Frag
  mg : Str → Option Value
  xa : Option (Addr × Value × Option Addr) := none
/-- what is asked of a class whose instances are handed about -/
structure COk (K : PySem.W.Frag) (C : Addr) : Prop where
  cl : Cls K C
  ca : PySem.W.findIn K (.ref C) "__class__" = some (some (.builtin "object.__class__"))
  mo : PySem.W.mroIn K C (.type "object") = some true
  nb : ∀ n ∈ (["int", "bool", "str", "list", "tuple", "dict"] : List String), PySem.W.kitOne K (.ref C) (.type n) = some false
mutual
inductive Dq (c : Cn) (ha : Option Addr) (G : Hp) : V → D → Prop
  | non : Dq c ha G .non .non
  | bl (b : Bool) : Dq c ha G (.bl b) (.bl b)
  | int (i : Int) : Dq c ha G (.int i) (.int i)
  | str (x : Str) : Dq c ha G (.str x) (.str x)
  | tup {a : Addr} {xs : List V} {ds : List D} : SqT c.K G a xs → DqAll c ha G xs ds → Dq c ha G (.ref a) (.tup ds)
  | lst {a : Addr} {xs : List V} {ds : List D} : G a = some (.lst xs) → DqAll c ha G xs ds → Dq c ha G (.ref a) (.lst ds)
  | ins {a C dx : Addr} {n : Str} {xs : List (Str × V)} {fs : List (Str × D)} : c.mg n = some (.ref C) → G a = some (.ins C dx xs) → COk c.K C → DqF c ha G C xs fs → Dq c ha G (.ref a) (.ins n fs)
inductive DqAll (c : Cn) (ha : Option Addr) (G : Hp) : List V → List D → Prop
  | nil : DqAll c ha G [] []
  | cons {v : V} {d : D} {xs : List V} {ds : List D} : Dq c ha G v d → DqAll c ha G xs ds → DqAll c ha G (v :: xs) (d :: ds)
inductive DqF (c : Cn) (ha : Option Addr) (G : Hp) : Addr → List (Str × V) → List (Str × D) → Prop
  | nil {C : Addr} : DqF c ha G C [] []
  | cons {C : Addr} {n : Str} {v : V} {d : D} {xs : List (Str × V)} {fs : List (Str × D)} : NoAttr c.K C n → Dq c ha G v d → DqF c ha G C xs fs → DqF c ha G C ((n, v) :: xs) ((n, d) :: fs)
end
section
variable {c : Cn} {ha : Option Addr} {G G' H H' G1 H1 : Hp}
theorem dq_mono (s : Same G G') {v : V} {d : D} (h : Dq c ha G v d) : Dq c ha G' v d := by
  refine Dq.rec (motive_1 := fun v d _ => Dq c ha G' v d) (motive_2 := fun xs ds _ => DqAll c ha G' xs ds) (motive_3 := fun C xs fs _ => DqF c ha G' C xs fs) ?_ ?_ ?_ ?_ ?_ ?_ ?_ ?_ ?_ ?_ ?_ h
  · exact .non
  · exact fun b => .bl b
  · exact fun i => .int i
  · exact fun x => .str x
  · exact fun h1 _ h2 => .tup (Evl.ex_t s h1) h2
  · exact fun h1 _ h2 => .lst (s _ _ h1) h2
  · exact fun h1 h2 h3 _ h4 => .ins h1 (s _ _ h2) h3 h4
  · exact .nil
  · exact fun _ _ h1 h2 => .cons h1 h2
  · exact .nil
  · exact fun h0 _ _ h1 h2 => .cons h0 h1 h2
theorem dq_ha {hb : Option Addr} {v : V} {d : D} (h : Dq c ha G v d) : Dq c hb G v d := by
  refine Dq.rec (motive_1 := fun v d _ => Dq c hb G v d) (motive_2 := fun xs ds _ => DqAll c hb G xs ds) (motive_3 := fun C xs fs _ => DqF c hb G C xs fs) ?_ ?_ ?_ ?_ ?_ ?_ ?_ ?_ ?_ ?_ ?_ h
  · exact .non
  · exact fun b => .bl b
  · exact fun i => .int i
  · exact fun x => .str x
  · exact fun h1 _ h2 => .tup h1 h2
  · exact fun h1 _ h2 => .lst h1 h2
  · exact fun h1 h2 h3 _ h4 => .ins h1 h2 h3 h4
  · exact .nil
  · exact fun _ _ h1 h2 => .cons h1 h2
  · exact .nil
  · exact fun h0 _ _ h1 h2 => .cons h0 h1 h2
theorem dqF_ha {hb : Option Addr} {C : Addr} : ∀ {xs : List (Str × V)} {fs : List (Str × D)}, DqF c ha G C xs fs → DqF c hb G C xs fs
  | _, _, .nil => .nil
  | _, _, .cons h0 h t => .cons h0 (dq_ha h) (dqF_ha t)
theorem dqAll_mono (s : Same G G') : ∀ {xs : List V} {ds : List D}, DqAll c ha G xs ds → DqAll c ha G' xs ds
  | _, _, .nil => .nil
  | _, _, .cons h t => .cons (dq_mono s h) (dqAll_mono s t)
theorem dqF_mono (s : Same G G') {C : Addr} : ∀ {xs : List (Str × V)} {fs : List (Str × D)}, DqF c ha G C xs fs → DqF c ha G' C xs fs
  | _, _, .nil => .nil
  | _, _, .cons h0 h t => .cons h0 (dq_mono s h) (dqF_mono s t)
theorem dqAll_len : ∀ {xs : List V} {ds : List D}, DqAll c ha G xs ds → xs.length = ds.length
  | _, _, .nil => rfl
  | _, _, .cons _ t => congrArg Nat.succ (dqAll_len t)
theorem dqAll_at : ∀ {xs : List V} {ds : List D} {i : Nat} {d : D}, DqAll c ha G xs ds → ds[i]? = some d → ∃ x, xs[i]? = some x ∧ Dq c ha G x d
  | _, _, i, _, .nil, e => by simp at e
  | _, _, 0, _, .cons h _, e => by
    have z := Option.some.inj e
    subst z
    exact ⟨_, rfl, h⟩
  | _, _, i + 1, _, .cons _ t, e => dqAll_at (i := i) t e
theorem dqAll_get : ∀ {xs : List V} {ds : List D} {i : Nat} {x : V}, DqAll c ha G xs ds → xs[i]? = some x → ∃ d, ds[i]? = some d ∧ Dq c ha G x d
  | _, _, i, _, .nil, e => by simp at e
  | _, _, 0, _, .cons h _, e => by
    have z := Option.some.inj e
    subst z
    exact ⟨_, rfl, h⟩
  | _, _, i + 1, _, .cons _ t, e => dqAll_get (i := i) t e
theorem dqAll_app : ∀ {xs ys : List V} {ds es : List D}, DqAll c ha G xs ds → DqAll c ha G ys es → DqAll c ha G (xs ++ ys) (ds ++ es)
  | _, _, _, _, .nil, k => k
  | _, _, _, _, .cons h t, k => .cons h (dqAll_app t k)
theorem dqAll_drop : ∀ (n : Nat) {xs : List V} {ds : List D}, DqAll c ha G xs ds → DqAll c ha G (xs.drop n) (ds.drop n)
  | 0, _, _, h => h
  | _ + 1, _, _, .nil => .nil
  | n + 1, _, _, .cons _ t => dqAll_drop n t
theorem dqAll_take : ∀ (n : Nat) {xs : List V} {ds : List D}, DqAll c ha G xs ds → DqAll c ha G (xs.take n) (ds.take n)
  | 0, _, _, _ => .nil
  | _ + 1, _, _, .nil => .nil
  | n + 1, _, _, .cons h t => .cons h (dqAll_take n t)
theorem dqAll_set {v : V} {d : D} (r : Dq c ha G v d) : ∀ (n : Nat) {xs : List V} {ds : List D}, DqAll c ha G xs ds → DqAll c ha G (xs.set n v) (ds.set n d)
  | _, _, _, .nil => .nil
  | 0, _, _, .cons _ t => .cons r t
  | n + 1, _, _, .cons h t => .cons h (dqAll_set r n t)
theorem dqAll_rep {v : V} {d : D} (r : Dq c ha G v d) : ∀ n : Nat, DqAll c ha G (List.replicate n v) (List.replicate n d)
  | 0 => .nil
  | n + 1 => .cons r (dqAll_rep r n)
theorem dqAll_reps {xs : List V} {ds : List D} (r : DqAll c ha G xs ds) : ∀ n : Nat, DqAll c ha G (List.replicate n xs).flatten (List.replicate n ds).flatten
  | 0 => .nil
  | n + 1 => by
    rw [List.replicate_succ, List.replicate_succ, List.flatten_cons, List.flatten_cons]
    exact dqAll_app r (dqAll_reps r n)
theorem dqF_look {C : Addr} : ∀ {xs : List (Str × V)} {fs : List (Str × D)} {n : Str} {d : D}, DqF c ha G C xs fs → fs.lookup n = some d → NoAttr c.K C n ∧ ∃ v, xs.lookup n = some v ∧ Dq c ha G v d
  | _, _, n, d, .nil, e => nomatch e
  | _, _, n, d, .cons (n := m) h0 h t, e => by
    rw [List.lookup_cons] at e ⊢
    cases q : n == m with
    | true =>
      rw [q] at e
      have e1 : n = m := eq_of_beq q
      subst e1
      have e2 := Option.some.inj e
      subst e2
      exact ⟨h0, _, rfl, h⟩
    | false =>
      rw [q] at e
      exact dqF_look t e
theorem dqF_no {C : Addr} : ∀ {xs : List (Str × V)} {fs : List (Str × D)} {n : Str}, DqF c ha G C xs fs → fs.lookup n = none → xs.lookup n = none
  | _, _, n, .nil, _ => rfl
  | _, _, n, .cons (n := m) h0 h t, e => by
    rw [List.lookup_cons] at e ⊢
    cases q : n == m with
    | true => rw [q] at e; cases e
    | false =>
      rw [q] at e
      exact dqF_no t e
theorem dqF_len {C : Addr} : ∀ {xs : List (Str × V)} {fs : List (Str × D)}, DqF c ha G C xs fs → xs.length = fs.length
  | _, _, .nil => rfl
  | _, _, .cons _ _ t => congrArg Nat.succ (dqF_len t)
end
mutual
inductive Own (c : Cn) (ha : Option Addr) (G H : Hp) : V → D → List Addr → Prop
  | frz {v : V} {d : D} : Dq c ha G v d → Own c ha G H v d []
  | hl {a : Addr} {xs : List V} {ds : List D} {fp : List Addr} : H a = some (.lst xs) → G a = none → OwnAll c ha G H xs ds fp → Own c ha G H (.ref a) (.hl ds) (a :: fp)
inductive OwnAll (c : Cn) (ha : Option Addr) (G H : Hp) : List V → List D → List Addr → Prop
  | nil : OwnAll c ha G H [] [] []
  | cons {v : V} {d : D} {f : List Addr} {xs : List V} {ds : List D} {fp : List Addr} : Own c ha G H v d f → OwnAll c ha G H xs ds fp → OwnAll c ha G H (v :: xs) (d :: ds) (f ++ fp)
end
/-- the dict of an error that a suite holds -/
inductive ExH (c : Cn) (ha : Option Addr) (G H : Hp) : Option Addr → Addr → List (Str × D) → List Addr → Prop
  | none {C : Addr} : ExH c ha G H none C [] []
  | some {d C : Addr} {xs : List (Str × V)} {fs : List (Str × D)} : H d = some (.xd xs) → G d = none → DqF c ha G C xs fs → ExH c ha G H (some d) C fs [d]
inductive OwnS (c : Cn) (ha : Option Addr) (G H : Hp) : L2.St → List (Option D) → List Addr → Prop
  | nil : OwnS c ha G H [] [] []
  | non (o : Option V) {σ : L2.St} {δ : List (Option D)} {fp : List Addr} : OwnS c ha G H σ δ fp → OwnS c ha G H (o :: σ) (none :: δ) fp
  | me {a : Addr} {σ : L2.St} {δ : List (Option D)} {fp : List Addr} : ha = some a → OwnS c ha G H σ δ fp → OwnS c ha G H (some (.ref a) :: σ) (some .me :: δ) fp
  | ex {a C : Addr} {dd : Option Addr} {n : Str} {fs : List (Str × D)} {fx : List Addr} {σ : L2.St} {δ : List (Option D)} {fp : List Addr} : c.xa = some (a, .ref C, dd) → c.mg n = some (.ref C) → ExH c ha G H dd C fs fx → OwnS c ha G H σ δ fp → OwnS c ha G H (some (.ref a) :: σ) (some (.ex n fs) :: δ) (fx ++ fp)
  | some {v : V} {d : D} {f : List Addr} {σ : L2.St} {δ : List (Option D)} {fp : List Addr} : Own c ha G H v d f → OwnS c ha G H σ δ fp → OwnS c ha G H (some v :: σ) (some d :: δ) (f ++ fp)
section
variable {c : Cn} {ha : Option Addr} {G G' H H' G1 H1 : Hp}
theorem own_keep (s : Same G G') {v : V} {d : D} {fp : List Addr} (h : Own c ha G H v d fp) : (∀ b ∈ fp, H' b = H b ∧ G' b = none) → Own c ha G' H' v d fp := by
  refine Own.rec (motive_1 := fun v d fp _ => (∀ b ∈ fp, H' b = H b ∧ G' b = none) → Own c ha G' H' v d fp) (motive_2 := fun xs ds fp _ => (∀ b ∈ fp, H' b = H b ∧ G' b = none) → OwnAll c ha G' H' xs ds fp) ?_ ?_ ?_ ?_ h
  · exact fun h _ => .frz (dq_mono s h)
  · exact fun h1 h2 _ ih k => .hl ((k _ List.mem_cons_self).1.trans h1) (k _ List.mem_cons_self).2 (ih fun b hb => k b (List.mem_cons_of_mem _ hb))
  · exact fun _ => .nil
  · exact fun _ _ i1 i2 k => .cons (i1 fun b hb => k b (List.mem_append_left _ hb)) (i2 fun b hb => k b (List.mem_append_right _ hb))
theorem ownAll_keep (s : Same G G') : ∀ {xs : List V} {ds : List D} {fp : List Addr}, OwnAll c ha G H xs ds fp → (∀ b ∈ fp, H' b = H b ∧ G' b = none) → OwnAll c ha G' H' xs ds fp
  | _, _, _, .nil, _ => .nil
  | _, _, _, .cons h t, k => .cons (own_keep s h fun b hb => k b (List.mem_append_left _ hb)) (ownAll_keep s t fun b hb => k b (List.mem_append_right _ hb))
theorem exh_keep (s : Same G G') {dd : Option Addr} {C : Addr} {fs : List (Str × D)} {fx : List Addr} (x : ExH c ha G H dd C fs fx) (k : ∀ b ∈ fx, H' b = H b ∧ G' b = none) : ExH c ha G' H' dd C fs fx := by
  cases x with
  | none => exact .none
  | some h1 h2 h3 => exact .some ((k _ List.mem_cons_self).1.trans h1) (k _ List.mem_cons_self).2 (dqF_mono s h3)
theorem exh_at {dd : Option Addr} {C : Addr} {fs : List (Str × D)} {fx : List Addr} (x : ExH c ha G H dd C fs fx) : ∀ b ∈ fx, G b = none ∧ H b ≠ none := by
  cases x with
  | none => exact fun b hb => nomatch hb
  | some h1 h2 h3 => exact fun b hb => by rw [List.mem_singleton.mp hb]; exact ⟨h2, some_ne h1⟩
theorem ownS_keep (s : Same G G') : ∀ {σ : L2.St} {δ : List (Option D)} {fp : List Addr}, OwnS c ha G H σ δ fp → (∀ b ∈ fp, H' b = H b ∧ G' b = none) → OwnS c ha G' H' σ δ fp
  | _, _, _, .nil, _ => .nil
  | _, _, _, .non o t, k => .non o (ownS_keep s t k)
  | _, _, _, .me e t, k => .me e (ownS_keep s t k)
  | _, _, _, .ex e m x t, k => .ex e m (exh_keep s x fun b hb => k b (List.mem_append_left _ hb)) (ownS_keep s t fun b hb => k b (List.mem_append_right _ hb))
  | _, _, _, .some h t, k => .some (own_keep s h fun b hb => k b (List.mem_append_left _ hb)) (ownS_keep s t fun b hb => k b (List.mem_append_right _ hb))
theorem own_at {v : V} {d : D} {fp : List Addr} (h : Own c ha G H v d fp) : ∀ b ∈ fp, G b = none ∧ H b ≠ none := by
  refine Own.rec (motive_1 := fun v d fp _ => ∀ b ∈ fp, G b = none ∧ H b ≠ none) (motive_2 := fun xs ds fp _ => ∀ b ∈ fp, G b = none ∧ H b ≠ none) ?_ ?_ ?_ ?_ h
  · exact fun _ b hb => nomatch hb
  · intro a xs ds fp h1 h2 _ ih b hb
    rcases List.mem_cons.mp hb with e | hb
    · subst e
      exact ⟨h2, some_ne h1⟩
    · exact ih b hb
  · exact fun b hb => nomatch hb
  · exact fun _ _ i1 i2 b hb => (List.mem_append.mp hb).elim (i1 b) (i2 b)
theorem ownAll_at : ∀ {xs : List V} {ds : List D} {fp : List Addr}, OwnAll c ha G H xs ds fp → ∀ b ∈ fp, G b = none ∧ H b ≠ none
  | _, _, _, .nil, b, hb => nomatch hb
  | _, _, _, .cons h t, b, hb => (List.mem_append.mp hb).elim (own_at h b) (ownAll_at t b)
theorem ownS_at : ∀ {σ : L2.St} {δ : List (Option D)} {fp : List Addr}, OwnS c ha G H σ δ fp → ∀ b ∈ fp, G b = none ∧ H b ≠ none
  | _, _, _, .nil, b, hb => nomatch hb
  | _, _, _, .non o t, b, hb => ownS_at t b hb
  | _, _, _, .me e t, b, hb => ownS_at t b hb
  | _, _, _, .ex e m x t, b, hb => (List.mem_append.mp hb).elim (exh_at x b) (ownS_at t b)
  | _, _, _, .some h t, b, hb => (List.mem_append.mp hb).elim (own_at h b) (ownS_at t b)
theorem ownAll_of : ∀ {xs : List V} {ds : List D}, DqAll c ha G xs ds → OwnAll c ha G H xs ds []
  | _, _, .nil => .nil
  | _, _, .cons h t => .cons (f := []) (fp := []) (.frz h) (ownAll_of t)
theorem ownAll_len : ∀ {xs : List V} {ds : List D} {fp : List Addr}, OwnAll c ha G H xs ds fp → xs.length = ds.length
  | _, _, _, .nil => rfl
  | _, _, _, .cons _ t => congrArg Nat.succ (ownAll_len t)
theorem ownS_len : ∀ {σ : L2.St} {δ : List (Option D)} {fp : List Addr}, OwnS c ha G H σ δ fp → σ.length = δ.length
  | _, _, _, .nil => rfl
  | _, _, _, .non o t => congrArg Nat.succ (ownS_len t)
  | _, _, _, .me e t => congrArg Nat.succ (ownS_len t)
  | _, _, _, .ex e m x t => congrArg Nat.succ (ownS_len t)
  | _, _, _, .some h t => congrArg Nat.succ (ownS_len t)
/-- not a held list -/
def D.fr : D → Bool
  | .hl _ => false
  | .me => false
  | .ex _ _ => false
  | _ => true
/-- a thing that a slot may hold by itself -/
def D.nm : D → Bool
  | .me => false
  | .ex _ _ => false
  | _ => true
theorem fr_nm {d : D} (h : d.fr = true) : d.nm = true := by cases d <;> first | rfl | cases h
theorem own_fr {v : V} {d : D} {fp : List Addr} (h : Own c ha G H v d fp) (f : d.fr = true) : Dq c ha G v d ∧ fp = [] := by
  cases h with
  | frz h => exact ⟨h, rfl⟩
  | hl _ _ _ => cases f
theorem dq_fr {v : V} {d : D} (h : Dq c ha G v d) : d.fr = true := by cases h <;> rfl
theorem ownAll_fr : ∀ {xs : List V} {ds : List D} {fp : List Addr}, OwnAll c ha G H xs ds fp → ds.all D.fr = true → DqAll c ha G xs ds ∧ fp = []
  | _, _, _, .nil, _ => ⟨.nil, rfl⟩
  | _, _, _, .cons h t, f => by
    rw [List.all_cons, Bool.and_eq_true] at f
    obtain ⟨h1, rfl⟩ := own_fr h f.1
    obtain ⟨h2, rfl⟩ := ownAll_fr t f.2
    exact ⟨.cons h1 h2, rfl⟩
theorem dqAll_fr : ∀ {xs : List V} {ds : List D}, DqAll c ha G xs ds → ds.all D.fr = true
  | _, _, .nil => rfl
  | _, _, .cons h t => by rw [List.all_cons, dq_fr h, dqAll_fr t]; rfl
/-- a slot, and the others -/
theorem ownS_slot : ∀ {i : Nat} {σ : L2.St} {δ : List (Option D)} {fp : List Addr} {d : D}, OwnS c ha G H σ δ fp → δ[i]? = some (some d) → d.nm = true →
    ∃ v f1 f f2, σ[i]? = some (some v) ∧ fp = f1 ++ (f ++ f2) ∧ Own c ha G H v d f ∧ ∀ {G' H' : Hp} {f' : List Addr} {v' : V} {d' : D}, Same G G' → (∀ b ∈ f1 ++ f2, H' b = H b ∧ G' b = none) → Own c ha G' H' v' d' f' → OwnS c ha G' H' (σ.set i (some v')) (δ.set i (some d')) (f1 ++ (f' ++ f2))
  | i, _, _, _, _, .nil, e, _ => by simp at e
  | 0, _, _, _, _, .non o t, e, _ => by simp at e
  | 0, _, _, _, _, .me _ t, e, n => by
    have z : _ = _ := Option.some.inj (Option.some.inj e)
    subst z
    cases n
  | 0, _, _, _, _, .ex _ _ _ t, e, n => by
    have z : _ = _ := Option.some.inj (Option.some.inj e)
    subst z
    cases n
  | 0, _, _, _, _, .some h t, e, _ => by
    have z : _ = _ := Option.some.inj (Option.some.inj e)
    subst z
    refine ⟨_, [], _, _, rfl, rfl, h, fun s k h' => ?_⟩
    rw [List.nil_append]
    exact OwnS.some h' (ownS_keep s t k)
  | i + 1, _, _, _, _, .non o t, e, n => by
    obtain ⟨v, f1, f, f2, h1, h2, h3, h4⟩ := ownS_slot (i := i) t e n
    exact ⟨v, f1, f, f2, h1, h2, h3, fun s k h' => .non o (h4 s k h')⟩
  | i + 1, _, _, _, _, .me o t, e, n => by
    obtain ⟨v, f1, f, f2, h1, h2, h3, h4⟩ := ownS_slot (i := i) t e n
    exact ⟨v, f1, f, f2, h1, h2, h3, fun s k h' => .me o (h4 s k h')⟩
  | i + 1, _, _, _, _, .ex (fx := g) o m x t, e, n => by
    obtain ⟨v, f1, f, f2, h1, rfl, h3, h4⟩ := ownS_slot (i := i) t e n
    refine ⟨v, g ++ f1, f, f2, h1, by rw [List.append_assoc], h3, fun s k h' => ?_⟩
    rw [List.append_assoc]
    exact .ex o m (exh_keep s x fun b hb => k b (List.mem_append_left _ (List.mem_append_left _ hb))) (h4 s (fun b hb => k b (by rw [List.append_assoc]; exact List.mem_append_right _ hb)) h')
  | i + 1, _, _, _, _, .some (f := g) h t, e, n => by
    obtain ⟨v, f1, f, f2, h1, rfl, h3, h4⟩ := ownS_slot (i := i) t e n
    refine ⟨v, g ++ f1, f, f2, h1, by rw [List.append_assoc], h3, fun s k h' => ?_⟩
    rw [List.append_assoc]
    exact .some (own_keep s h fun b hb => k b (List.mem_append_left _ (List.mem_append_left _ hb))) (h4 s (fun b hb => k b (by rw [List.append_assoc]; exact List.mem_append_right _ hb)) h')
theorem ownS_me : ∀ {i : Nat} {σ : L2.St} {δ : List (Option D)} {fp : List Addr}, OwnS c ha G H σ δ fp → δ[i]? = some (some .me) → ∃ a, σ[i]? = some (some (.ref a)) ∧ ha = some a
  | i, _, _, _, .nil, e => by simp at e
  | 0, _, _, _, .non o t, e => by simp at e
  | 0, _, _, _, .me (a := a) h t, e => ⟨a, rfl, h⟩
  | 0, _, _, _, .ex _ _ _ t, e => by
    have z : _ = _ := Option.some.inj (Option.some.inj e)
    cases z
  | 0, _, _, _, .some h t, e => by
    have z : _ = _ := Option.some.inj (Option.some.inj e)
    subst z
    cases h with
    | frz h => cases h
  | i + 1, _, _, _, .non o t, e => ownS_me (i := i) t e
  | i + 1, _, _, _, .me o t, e => ownS_me (i := i) t e
  | i + 1, _, _, _, .ex _ _ _ t, e => ownS_me (i := i) t e
  | i + 1, _, _, _, .some o t, e => ownS_me (i := i) t e
theorem ownS_ex : ∀ {i : Nat} {σ : L2.St} {δ : List (Option D)} {fp : List Addr} {n : Str} {fs : List (Str × D)}, OwnS c ha G H σ δ fp → δ[i]? = some (some (.ex n fs)) → ∃ a dd C fx, σ[i]? = some (some (.ref a)) ∧ c.xa = some (a, .ref C, dd) ∧ c.mg n = some (.ref C) ∧ ExH c ha G H dd C fs fx
  | i, _, _, _, _, _, .nil, e => by simp at e
  | 0, _, _, _, _, _, .non o t, e => by simp at e
  | 0, _, _, _, _, _, .me h t, e => by
    have z : _ = _ := Option.some.inj (Option.some.inj e)
    cases z
  | 0, _, _, _, _, _, .ex (a := a) h m x t, e => by
    have z : _ = _ := Option.some.inj (Option.some.inj e)
    cases z
    exact ⟨a, _, _, _, rfl, h, m, x⟩
  | 0, _, _, _, _, _, .some h t, e => by
    have z : _ = _ := Option.some.inj (Option.some.inj e)
    subst z
    cases h with
    | frz h => cases h
  | i + 1, _, _, _, _, _, .non o t, e => ownS_ex (i := i) t e
  | i + 1, _, _, _, _, _, .me o t, e => ownS_ex (i := i) t e
  | i + 1, _, _, _, _, _, .ex _ _ _ t, e => ownS_ex (i := i) t e
  | i + 1, _, _, _, _, _, .some o t, e => ownS_ex (i := i) t e
/-- a slot is stored -/
theorem ownS_set {v : V} {d : D} {f : List Addr} (r : Own c ha G H v d f) : ∀ {i : Nat} {σ : L2.St} {δ : List (Option D)} {fp : List Addr}, OwnS c ha G H σ δ fp → ∃ fp' : List Addr, OwnS c ha G H (σ.set i (some v)) (δ.set i (some d)) fp' ∧ ∀ (l : List Addr), (f ++ (l ++ fp)).Nodup → (l ++ fp').Nodup ∧ ∀ b ∈ fp', b ∈ f ∨ b ∈ fp
  | i, _, _, _, .nil => ⟨[], .nil, fun l n => ⟨(List.nodup_append.mp n).2.1, fun b hb => nomatch hb⟩⟩
  | 0, _, _, _, .non (fp := fp) o t => ⟨f ++ fp, .some r t, fun l n => by
    refine ⟨?_, fun b hb => List.mem_append.mp hb⟩
    have p : (f ++ (l ++ fp)).Perm (l ++ (f ++ fp)) := by
      rw [← List.append_assoc, ← List.append_assoc]
      exact (List.perm_append_comm).append_right _
    exact p.nodup_iff.mp n⟩
  | 0, _, _, _, .me (fp := fp) o t => ⟨f ++ fp, .some r t, fun l n => by
    refine ⟨?_, fun b hb => List.mem_append.mp hb⟩
    have p : (f ++ (l ++ fp)).Perm (l ++ (f ++ fp)) := by
      rw [← List.append_assoc, ← List.append_assoc]
      exact (List.perm_append_comm).append_right _
    exact p.nodup_iff.mp n⟩
  | 0, _, _, _, .ex (fx := g) (fp := fp) _ _ _ t => ⟨f ++ fp, .some r t, fun l n => by
    refine ⟨?_, fun b hb => (List.mem_append.mp hb).imp id fun z => List.mem_append_right _ z⟩
    have p : (f ++ (l ++ (g ++ fp))).Perm (g ++ (l ++ (f ++ fp))) := by
      refine (List.Perm.trans ?_ (List.perm_append_comm (l₁ := l ++ (f ++ fp)) (l₂ := g)))
      refine (List.perm_append_comm).trans ?_
      rw [List.append_assoc, List.append_assoc, List.append_assoc, List.append_assoc]
      refine List.Perm.append_left l ?_
      refine (List.perm_append_comm).trans ?_
      rw [List.append_assoc]
      rw [← List.append_assoc, ← List.append_assoc f]
      exact List.Perm.append_right _ List.perm_append_comm
    exact (List.nodup_append.mp (p.nodup_iff.mp n)).2.1⟩
  | 0, _, _, _, .some (f := g) (fp := fp) h t => ⟨f ++ fp, .some r t, fun l n => by
    refine ⟨?_, fun b hb => (List.mem_append.mp hb).imp id fun z => List.mem_append_right _ z⟩
    have p : (f ++ (l ++ (g ++ fp))).Perm (g ++ (l ++ (f ++ fp))) := by
      refine (List.Perm.trans ?_ (List.perm_append_comm (l₁ := l ++ (f ++ fp)) (l₂ := g)))
      refine (List.perm_append_comm).trans ?_
      rw [List.append_assoc, List.append_assoc, List.append_assoc, List.append_assoc]
      refine List.Perm.append_left l ?_
      refine (List.perm_append_comm).trans ?_
      rw [List.append_assoc]
      rw [← List.append_assoc, ← List.append_assoc f]
      exact List.Perm.append_right _ List.perm_append_comm
    exact (List.nodup_append.mp (p.nodup_iff.mp n)).2.1⟩
  | i + 1, _, _, _, .non o t => by
    obtain ⟨fp', h1, h2⟩ := ownS_set r (i := i) t
    exact ⟨fp', .non o h1, h2⟩
  | i + 1, _, _, _, .me o t => by
    obtain ⟨fp', h1, h2⟩ := ownS_set r (i := i) t
    exact ⟨fp', .me o h1, h2⟩
  | i + 1, _, _, _, .ex (fx := g) (fp := fp) o m x t => by
    obtain ⟨fp', h1, h2⟩ := ownS_set r (i := i) t
    refine ⟨g ++ fp', .ex o m x h1, fun l n => ?_⟩
    have n2 : (f ++ ((l ++ g) ++ fp)).Nodup := by rw [List.append_assoc l]; exact n
    obtain ⟨q1, q2⟩ := h2 (l ++ g) n2
    refine ⟨by rw [← List.append_assoc]; exact q1, fun b hb => ?_⟩
    rcases List.mem_append.mp hb with hb | hb
    · exact .inr (List.mem_append_left _ hb)
    · exact (q2 b hb).imp id fun z => List.mem_append_right _ z
  | i + 1, _, _, _, .some (f := g) (fp := fp) h t => by
    obtain ⟨fp', h1, h2⟩ := ownS_set r (i := i) t
    refine ⟨g ++ fp', .some h h1, fun l n => ?_⟩
    have n2 : (f ++ ((l ++ g) ++ fp)).Nodup := by rw [List.append_assoc l]; exact n
    obtain ⟨q1, q2⟩ := h2 (l ++ g) n2
    refine ⟨by rw [← List.append_assoc]; exact q1, fun b hb => ?_⟩
    rcases List.mem_append.mp hb with hb | hb
    · exact .inr (List.mem_append_left _ hb)
    · exact (q2 b hb).imp id fun z => List.mem_append_right _ z
/-- a slot is forgotten -/
theorem ownS_wipe : ∀ {i : Nat} {σ : L2.St} {δ : List (Option D)} {fp : List Addr} (o : Option V), OwnS c ha G H σ δ fp → ∃ fp', OwnS c ha G H (σ.set i o) (δ.set i none) fp' ∧ fp'.Sublist fp
  | i, _, _, _, o, .nil => ⟨[], .nil, List.Sublist.refl _⟩
  | 0, _, _, _, o, .non _ t => ⟨_, .non o t, List.Sublist.refl _⟩
  | 0, _, _, _, o, .me _ t => ⟨_, .non o t, List.Sublist.refl _⟩
  | 0, _, _, _, o, .ex _ _ _ t => ⟨_, .non o t, List.sublist_append_right ..⟩
  | 0, _, _, _, o, .some h t => ⟨_, .non o t, List.sublist_append_right ..⟩
  | i + 1, _, _, _, o, .non o' t => by
    obtain ⟨fp', h1, h2⟩ := ownS_wipe (i := i) o t
    exact ⟨fp', .non o' h1, h2⟩
  | i + 1, _, _, _, o, .me e t => by
    obtain ⟨fp', h1, h2⟩ := ownS_wipe (i := i) o t
    exact ⟨fp', .me e h1, h2⟩
  | i + 1, _, _, _, o, .ex e m x t => by
    obtain ⟨fp', h1, h2⟩ := ownS_wipe (i := i) o t
    exact ⟨_, .ex e m x h1, List.Sublist.append (List.Sublist.refl _) h2⟩
  | i + 1, _, _, _, o, .some h t => by
    obtain ⟨fp', h1, h2⟩ := ownS_wipe (i := i) o t
    exact ⟨_, .some h h1, List.Sublist.append (List.Sublist.refl _) h2⟩
/-- an item of a held list -/
theorem ownAll_item : ∀ {i : Nat} {xs : List V} {ds : List D} {fp : List Addr} {d : D}, OwnAll c ha G H xs ds fp → ds[i]? = some d →
    ∃ v f1 f f2, xs[i]? = some v ∧ fp = f1 ++ (f ++ f2) ∧ Own c ha G H v d f ∧ ∀ {G' H' : Hp} {f' : List Addr} {v' : V} {d' : D}, Same G G' → (∀ b ∈ f1 ++ f2, H' b = H b ∧ G' b = none) → Own c ha G' H' v' d' f' → OwnAll c ha G' H' (xs.set i v') (ds.set i d') (f1 ++ (f' ++ f2))
  | i, _, _, _, _, .nil, e => by simp at e
  | 0, _, _, _, _, .cons h t, e => by
    have z := Option.some.inj e
    subst z
    refine ⟨_, [], _, _, rfl, rfl, h, fun s k h' => ?_⟩
    rw [List.nil_append]
    exact OwnAll.cons h' (ownAll_keep s t k)
  | i + 1, _, _, _, _, .cons (f := g) h t, e => by
    obtain ⟨v, f1, f, f2, h1, rfl, h3, h4⟩ := ownAll_item (i := i) t e
    refine ⟨v, g ++ f1, f, f2, h1, by rw [List.append_assoc], h3, fun s k h' => ?_⟩
    rw [List.append_assoc]
    exact .cons (own_keep s h fun b hb => k b (List.mem_append_left _ (List.mem_append_left _ hb))) (h4 s (fun b hb => k b (by rw [List.append_assoc]; exact List.mem_append_right _ hb)) h')
theorem ownAll_app : ∀ {xs ys : List V} {ds es : List D} {f g : List Addr}, OwnAll c ha G H xs ds f → OwnAll c ha G H ys es g → OwnAll c ha G H (xs ++ ys) (ds ++ es) (f ++ g)
  | _, _, _, _, _, _, .nil, k => k
  | _, _, _, _, _, _, .cons (f := f) h t, k => by
    rw [List.append_assoc]
    exact .cons h (ownAll_app t k)
end
inductive Hok (c : Cn) (ha : Option Addr) (G H : Hp) : D → Prop
  | non : ha = none → Hok c ha G H .non
  | hand {a : Addr} {xs : List V} {ds : List D} : ha = some a → G a = none → H a = some (.lst xs) → DqAll c ha G xs ds → Hok c ha G H (.hl ds)
  | self {a C dx : Addr} {n : Str} {xs : List (Str × V)} {fs : List (Str × D)} : ha = some a → G a = none → c.mg n = some (.ref C) → COk c.K C → H a = some (.ins C dx xs) → DqF c ha G C xs fs → Hok c ha G H (.ins n fs)
theorem hok_at {c : Cn} {a : Addr} {G H : Hp} {h : D} (x : Hok c (some a) G H h) : G a = none ∧ H a ≠ none := by
  cases x with
  | non e => cases e
  | hand e g h _ => cases e; exact ⟨g, some_ne h⟩
  | self e g _ _ h _ => cases e; exact ⟨g, some_ne h⟩
theorem hok_keep {c : Cn} {ha : Option Addr} {G G' H H' : Hp} {h : D} (x : Hok c ha G H h) (s : Same G G') (k : ∀ a, ha = some a → G' a = none ∧ H' a = H a) : Hok c ha G' H' h := by
  cases x with
  | non e => exact .non e
  | hand e g h d => exact .hand e (k _ e).1 ((k _ e).2.trans h) (dqAll_mono s d)
  | self e g m cl h d => exact .self e (k _ e).1 m cl ((k _ e).2.trans h) (dqF_mono s d)
/-- the state of a body: G0, B the view and the heap at its entry -/
structure Sta (c : Cn) (ha : Option Addr) (G0 B G H : Hp) (σ : L2.St) (δ : List (Option D)) (h : D) : Prop where
  sl : ∃ fp, OwnS c ha G H σ δ fp ∧ fp.Nodup ∧ ∀ a ∈ fp, B a = none ∧ ha ≠ some a
  mv : Mv G0 B G H
  bt : ∀ b o, ha ≠ some b → B b = some o → H b = some o
  hd : Hok c ha G H h
  hb : ∀ a, ha = some a → B a ≠ none
/-- what an expression does to a heap -/
structure Af (c : Cn) (ha : Option Addr) (G H G' H' : Hp) (h' : D) : Prop where
  mv : Mv G H G' H'
  bt : ∀ b o, ha ≠ some b → H b = some o → H' b = some o
  hd : Hok c ha G' H' h'
section
variable {c : Cn} {ha : Option Addr} {G0 B G H G1 H1 G2 H2 G' H' : Hp} {σ : L2.St} {δ : List (Option D)} {h h1 h2 h' : D}
theorem Sta.gh (s : Sta c ha G0 B G H σ δ h) : Same G H := s.mv.gh
theorem Af.refl (s : Same G H) (k : Hok c ha G H h) : Af c ha G H G H h := ⟨Mv.refl s, fun _ _ _ e => e, k⟩
theorem Sta.here (s : Sta c ha G0 B G H σ δ h) : Af c ha G H G H h := .refl s.gh s.hd
theorem Af.trans (x : Af c ha G H G1 H1 h1) (y : Af c ha G1 H1 G2 H2 h2) : Af c ha G H G2 H2 h2 := ⟨x.mv.trans y.mv, fun b o n e => y.bt b o n (x.bt b o n e), y.hd⟩
theorem Af.gg (x : Af c ha G H G1 H1 h1) : Same G G1 := x.mv.gg
theorem Af.gh (x : Af c ha G H G1 H1 h1) : Same G1 H1 := x.mv.gh
theorem Sta.to (s : Sta c ha G0 B G H σ δ h) (x : Af c ha G H G' H' h') : Sta c ha G0 B G' H' σ δ h' := by
  obtain ⟨fp, o, n, k⟩ := s.sl
  refine ⟨⟨fp, ownS_keep x.gg o fun b hb => ?_, n, k⟩, s.mv.trans x.mv, fun b o n e => x.bt b o n (s.bt b o n e), x.hd, s.hb⟩
  obtain ⟨g, hne⟩ := ownS_at o b hb
  obtain ⟨u, e⟩ := ne_some hne
  exact ⟨by rw [e]; exact x.bt b u (k b hb).2 e, (x.mv.nw b hne).trans g⟩
/-- an expression that changes nothing of what stands -/
theorem Af.of (s : Same G H) (k : Hok c ha G H h) (m : Mv G H G' H') (t : Same H H') : Af c ha G H G' H' h := by
  refine ⟨m, fun b o _ e => t b o e, hok_keep k m.gg fun a e => ?_⟩
  subst e
  obtain ⟨g, hne⟩ := hok_at k
  obtain ⟨u, e⟩ := ne_some hne
  exact ⟨(m.nw a hne).trans g, by rw [e]; exact t a u e⟩
theorem Af.ha_keep (x : Af c ha G H G' H' h') {h0 : D} (k : Hok c ha G H h0) : ∀ a, ha = some a → G' a = none := fun a e => by
  subst e
  obtain ⟨g, hne⟩ := hok_at k
  exact (x.mv.nw a hne).trans g
end
end Fw
set_option maxHeartbeats 2000000
namespace Fw
open PySem PySem.Spec PyProof.Rows L2 Vz
/-- what comes of an expression: a thing and the handed thing behind it; an exception; or nothing that is known -/
inductive Ex (α : Type) where
  | ok (a : α) (h : D)
  | exc (n : Str) (fs : List (Str × D)) (h : D)
  | bad
def Ex.bind {α β : Type} (r : Ex α) (k : α → D → Ex β) : Ex β := match r with
  | .ok a h => k a h
  | .exc n fs h => .exc n fs h
  | .bad => .bad
def Ex.of {α : Type} (o : Option α) (h : D) : Ex α := match o with
  | some a => .ok a h
  | none => .bad
abbrev DE := List (Option D)
abbrev EF (α : Type) := DE → D → Ex α
/-- an exception's fields -/
def XR (c : Cn) (ha : Option Addr) (G H0 H : Hp) (C : Addr) (dd : Option Addr) (fs : List (Str × D)) : Prop := (fs = [] ∧ dd = none) ∨ ∃ d xs, dd = some d ∧ H d = some (.xd xs) ∧ G d = none ∧ H0 d = none ∧ DqF c ha G C xs fs
def Post {α : Type} (c : Cn) (ha : Option Addr) (W : WX) (σ : L2.St) (G H : Hp) (r : Ex α) (k : α → D → Hp → Hp → Prop) : Prop := match r with
  | .ok a h' => ∀ G' H', Af c ha G H G' H' h' → k a h' G' H'
  | .exc n fs h' => ∀ C dd G' H', Af c ha G H G' H' h' → c.mg n = some (.ref C) → XR c ha G' H H' C dd fs → W (.ref C) dd σ H'
  | .bad => False
section
variable {α β : Type} {c : Cn} {ha : Option Addr} {W : WX} {σ : L2.St} {G H G1 H1 G' H' : Hp} {h h' h1 : D}
theorem post_imp {r : Ex α} {k k' : α → D → Hp → Hp → Prop} (p : Post c ha W σ G H r k) (i : ∀ a h' G' H', Af c ha G H G' H' h' → k a h' G' H' → k' a h' G' H') : Post c ha W σ G H r k' := by
  cases r with
  | ok a h' => exact fun G' H' af => i a h' G' H' af (p G' H' af)
  | exc n fs h' => exact p
  | bad => exact p
theorem XR.from {H0 H1 : Hp} {C : Addr} {dd : Option Addr} {fs : List (Str × D)} (k : ∀ d, H1 d = none → H0 d = none) (x : XR c ha G H1 H C dd fs) : XR c ha G H0 H C dd fs := by
  rcases x with x | ⟨d, xs, h1, h2, h3, h4, h5⟩
  · exact .inl x
  · exact .inr ⟨d, xs, h1, h2, h3, k d h4, h5⟩
theorem af_old {ha : Option Addr} {G H G1 H1 : Hp} {h1 : D} (af : Af c ha G H G1 H1 h1) {a : Addr} (e : H1 a = none) : H a = none := by
  cases z : H a with
  | none => rfl
  | some o => exact absurd e (af.mv.dm a (some_ne z))
theorem post_from {r : Ex α} {k : α → D → Hp → Hp → Prop} (af : Af c ha G H G1 H1 h1) (p : Post c ha W σ G H r k) : Post c ha W σ G1 H1 r k := by
  cases r with
  | ok a h' => exact fun G' H' af' => p G' H' (af.trans af')
  | exc n fs h' => exact fun C dd G' H' af' m x => p C dd G' H' (af.trans af') m (x.from fun _ e => af_old af e)
  | bad => exact p
theorem post_bind {r : Ex α} {f : α → D → Ex β} {k : β → D → Hp → Hp → Prop} (p : Post c ha W σ G H (r.bind f) k) : Post c ha W σ G H r fun a h1 G1 H1 => Post c ha W σ G1 H1 (f a h1) k := by
  cases r with
  | ok a h' => exact fun G1 H1 af => post_from af p
  | exc n fs h' => exact p
  | bad => exact p
theorem post_of {o : Option α} {k : α → D → Hp → Hp → Prop} (p : Post c ha W σ G H (Ex.of o h) k) : ∃ a, o = some a ∧ ∀ G' H', Af c ha G H G' H' h → k a h G' H' := by
  cases o with
  | some a => exact ⟨a, rfl, p⟩
  | none => exact p.elim
theorem post_ok {a : α} {k : α → D → Hp → Hp → Prop} (p : Post c ha W σ G H (.ok a h) k) (s : Same G H) (o : Hok c ha G H h) : k a h G H := p G H (.refl s o)
end
def rd (c : Cn) (W : WX) (f : EF D) : TE := fun σ H Q => ∃ ha G0 B G δ h, Sta c ha G0 B G H σ δ h ∧ Post c ha W σ G H (f δ h) fun d _ G' H' => ∀ v, Dq c ha G' v d → Q v H'
def rt (c : Cn) (W : WX) (f : EF Bool) : TT := fun σ H Q => ∃ ha G0 B G δ h, Sta c ha G0 B G H σ δ h ∧ Post c ha W σ G H (f δ h) fun b _ _ H' => Q b H'
def ra (c : Cn) (W : WX) (f : EF (List D)) : TA := fun σ H Q => ∃ ha G0 B G δ h, Sta c ha G0 B G H σ δ h ∧ Post c ha W σ G H (f δ h) fun ds _ G' H' => ∀ vs, DqAll c ha G' vs ds → Q vs H'
/-- a thing at rest, or a new list of things at rest -/
def Nw (c : Cn) (ha : Option Addr) (H G' H' : Hp) (v : V) (d : D) : Prop := Dq c ha G' v d ∨ ∃ a xs ds, v = .ref a ∧ d = .hl ds ∧ H' a = some (.lst xs) ∧ G' a = none ∧ H a = none ∧ DqAll c ha G' xs ds
def rn (c : Cn) (W : WX) (f : EF D) : TE := fun σ H Q => ∃ ha G0 B G δ h, Sta c ha G0 B G H σ δ h ∧ Post c ha W σ G H (f δ h) fun d _ G' H' => ∀ v, Nw c ha H G' H' v d → Q v H'
section
variable {X : Cx} {W : WX} {c : Cn} {e a b : Expr} {es : List Expr} {pos : Pos} {ta tb te : TE} {t : TT} {f fa fb : EF D} {g ga gb : EF Bool}
theorem pe_to (p : PE X e te) (i : ∀ σ H Q, rd c W f σ H Q → te σ H Q) : PE X e (rd c W f) := ⟨fun pins s σ H Q I h => p.run pins s σ H Q I (i σ H Q h)⟩
theorem pn_to (p : PE X e te) (i : ∀ σ H Q, rn c W f σ H Q → te σ H Q) : PE X e (rn c W f) := ⟨fun pins s σ H Q I h => p.run pins s σ H Q I (i σ H Q h)⟩
theorem pt_to (p : PT X e t) (i : ∀ σ H Q, rt c W g σ H Q → t σ H Q) : PT X e (rt c W g) := ⟨fun pins s σ H Q I h => p.run pins s σ H Q I (i σ H Q h)⟩
theorem pa_to {t : TA} {f : EF (List D)} (p : PA X es t) (i : ∀ σ H Q, ra c W f σ H Q → t σ H Q) : PA X es (ra c W f) := ⟨fun ps pins s σ H Q I h => p.run ps pins s σ H Q I (i σ H Q h)⟩
def eV (i : Nat) : EF D := fun δ h => match δ[i]? with
  | some (some d) => if d.fr then .ok d h else .bad
  | _ => .bad
theorem rd_var {i : Nat} (σ : L2.St) (H : Hp) (Q : VK) (x : rd c W (eV i) σ H Q) : tVar i σ H Q := by
  obtain ⟨ha, G0, B, G, δ, h, st, p⟩ := x
  unfold eV at p
  split at p
  · rename_i d e
    split at p
    · rename_i hf
      obtain ⟨fp, o, n, k⟩ := st.sl
      obtain ⟨v, f1, f, f2, h1, _, h3, _⟩ := ownS_slot o e (fr_nm hf)
      exact ⟨v, h1, post_ok p st.gh st.hd v (own_fr h3 hf).1⟩
    · exact p.elim
  · exact p.elim
theorem dx_v {i : Nat} {x : Str} (hN : X.N[i]? = some x) (hv : Vis X.env.scope x) (hd : (x == ("__debug__" : Str)) = false := by decide) (hcd : (x == ("__classdict__" : Str)) = false := by decide) : PE X (.Name x pos) (rd c W (eV i)) := pe_to (pe_var hN hv hd hcd) rd_var
def eC (d : D) : EF D := fun _ h => .ok d h
theorem dx_c {v : V} {d : D} (p : PE X e (tC v)) (k : ∀ ha G, Dq c ha G v d) : PE X e (rd c W (eC d)) := pe_to p fun σ H Q ⟨ha, G0, B, G, δ, h, st, q⟩ => post_ok q st.gh st.hd v (k ha G)
theorem dx_i {i j} : PE X (.Constant (.int i) j pos) (rd c W (eC (.int i))) := dx_c pe_int fun _ _ => .int i
theorem dx_b {b : Bool} {j} : PE X (.Constant (.bool b) j pos) (rd c W (eC (.bl b))) := dx_c pe_bl fun _ _ => .bl b
theorem dx_n {j} : PE X (.Constant .none j pos) (rd c W (eC .non)) := dx_c pe_non fun _ _ => .non
theorem dx_s {x : Str} {j} : PE X (.Constant (.str x) j pos) (rd c W (eC (.str x))) := dx_c pe_str fun _ _ => .str x
def eOp (f : D → D → Option D) (fa fb : EF D) : EF D := fun δ h => (fa δ h).bind fun x h1 => (fb δ h1).bind fun y h2 => Ex.of (f x y) h2
/-- what an operation's rule asks is there where it gives something -/
def OpD (c : Cn) (r : R2) (f : D → D → Option D) : Prop := ∀ {ha : Option Addr} {G H : Hp} {x y d : D} {v w : V} {Q : VK}, Same G H → Dq c ha G v x → Dq c ha G w y → f x y = some d → (∀ u G' H', Mv G H G' H' → Same H H' → Dq c ha G' u d → Q u H') → r v w H Q
theorem rd_op {r : R2} {f : D → D → Option D} (hr : OpD c r f) (σ : L2.St) (H : Hp) (Q : VK) (x : rd c W (eOp f fa fb) σ H Q) : tOp r (rd c W fa) (rd c W fb) σ H Q := by
  obtain ⟨ha, G0, B, G, δ, h, st, p⟩ := x
  refine ⟨ha, G0, B, G, δ, h, st, post_imp (post_bind p) fun x h1 G1 H1 af1 p1 v dv => ?_⟩
  refine ⟨ha, G0, B, G1, δ, h1, st.to af1, post_imp (post_bind p1) fun y h2 G2 H2 af2 p2 w dw => ?_⟩
  obtain ⟨d, e, q⟩ := post_of p2
  exact hr af2.gh (dq_mono af2.gg dv) dw e fun u G' H' m s du => q G' H' (.of af2.gh af2.hd m s) u du
theorem dx_op {op : Operator} {r : R2} {f : D → D → Option D} (ho : OpR X (binaryOp op) r) (hr : OpD c r f) (ha : PE X a (rd c W fa)) (hb : PE X b (rd c W fb)) : PE X (.BinOp a op b pos) (rd c W (eOp f fa fb)) := pe_to (pe_op ho ha hb) (rd_op hr)
theorem dx_cmp {op : CmpOp} {r : R2} {f : D → D → Option D} (ho : OpR X (compareOp op) r) (hr : OpD c r f) (ha : PE X a (rd c W fa)) (hb : PE X b (rd c W fb)) (hm : behindInMarks op b = false := by rfl) : PE X (.Compare a [op] [b] pos) (rd c W (eOp f fa fb)) := pe_to (pe_cmpR ho ha hb hm) (rd_op hr)
def eUn (f : D → Option D) (fa : EF D) : EF D := fun δ h => (fa δ h).bind fun x h1 => Ex.of (f x) h1
/-- ints -/
def oI (g : Int → Int → Option D) : D → D → Option D
  | .int i, .int j => g i j
  | _, _ => none
theorem opd_I0 {g : Int → Int → V} {k : Int → Int → D} (e : ∀ ha G i j, Dq c ha G (g i j) (k i j)) : OpD c (rI0 g) (oI fun i j => some (k i j)) := by
  intro ha G H x y d v w Q s dx dy q fin
  cases dx <;> cases dy <;> first | cases q
  exact ⟨_, _, rfl, rfl, fin _ G H (Mv.refl s) (Same.refl _) (e _ _ _ _)⟩
theorem opd_I {C : Int → Int → Prop} {P : Int → Int → Bool} {g : Int → Int → V} {k : Int → Int → D} (e : ∀ ha G i j, Dq c ha G (g i j) (k i j)) (hC : ∀ i j, P i j = true → C i j) : OpD c (rI C g) (oI fun i j => if P i j then some (k i j) else none) := by
  intro ha G H x y d v w Q s dx dy q fin
  cases dx <;> cases dy <;> first | (cases q; done) | skip
  rename_i i j
  have q2 : (if P i j = true then some (k i j) else none) = some d := q
  by_cases hp : P i j = true
  · rw [if_pos hp] at q2
    cases q2
    exact ⟨_, _, rfl, rfl, hC _ _ hp, fin _ G H (Mv.refl s) (Same.refl _) (e _ _ _ _)⟩
  · rw [if_neg hp] at q2
    cases q2
def cMul (i j : Int) : Bool := decide (i.natAbs.log2 + j.natAbs.log2 < 1000000)
def cDiv (_ j : Int) : Bool := decide (j ≠ 0) && decide (j.natAbs.log2 < 9000)
def cMod (_ j : Int) : Bool := decide (j ≠ 0)
def cPow (i j : Int) : Bool := decide (0 ≤ j) && (decide (j ≤ 1000000) && decide (i.natAbs < 2 ^ 64))
theorem op_fdivG : OpR X (binaryOp .FloorDiv) (rI (fun _ j => j ≠ 0 ∧ j.natAbs.log2 < 9000) fun i j => .int (i.fdiv j)) := opI fun _ _ _ _ _ _ _ hc q => floordiv_int hc.1 q (.inl (PyProof.noPylong_of_log2 hc.2))
def oAdd := oI fun i j => some (.int (i + j))
def oSub := oI fun i j => some (.int (i - j))
def oMul := oI fun i j => if cMul i j then some (.int (i * j)) else none
def oDiv := oI fun i j => if cDiv i j then some (.int (i.fdiv j)) else none
def oMod := oI fun i j => if cMod i j then some (.int (i.fmod j)) else none
def oPow := oI fun i j => if cPow i j then some (.int (i ^ j.toNat)) else none
theorem d_add : OpD c (rI0 fun i j => .int (i + j)) oAdd := opd_I0 fun _ _ _ _ => .int _
theorem d_sub : OpD c (rI0 fun i j => .int (i - j)) oSub := opd_I0 fun _ _ _ _ => .int _
theorem d_mul : OpD c (rI CMulW fun i j => .int (i * j)) oMul := opd_I (fun _ _ _ _ => .int _) fun _ _ h => of_decide_eq_true h
theorem d_div : OpD c (rI (fun _ j => j ≠ 0 ∧ j.natAbs.log2 < 9000) fun i j => .int (i.fdiv j)) oDiv := opd_I (fun _ _ _ _ => .int _) fun _ _ h => by
  unfold cDiv at h
  rw [Bool.and_eq_true, decide_eq_true_eq, decide_eq_true_eq] at h
  exact h
theorem d_mod : OpD c (rI (fun _ j => j ≠ 0) fun i j => .int (i.fmod j)) oMod := opd_I (fun _ _ _ _ => .int _) fun _ _ h => of_decide_eq_true h
theorem d_pow : OpD c (rI CPow fun i j => .int (i ^ j.toNat)) oPow := opd_I (fun _ _ _ _ => .int _) fun _ _ h => by
  unfold cPow at h
  rw [Bool.and_eq_true, Bool.and_eq_true, decide_eq_true_eq, decide_eq_true_eq, decide_eq_true_eq] at h
  exact h
def oLt := oI fun i j => some (.bl (decide (i < j)))
def oLe := oI fun i j => some (.bl (decide (i ≤ j)))
def oGt := oI fun i j => some (.bl (decide (j < i)))
def oGe := oI fun i j => some (.bl (decide (j ≤ i)))
theorem d_lt : OpD c (rI0 fun i j => .bl (decide (i < j))) oLt := opd_I0 fun _ _ _ _ => .bl _
theorem d_le : OpD c (rI0 fun i j => .bl (decide (i ≤ j))) oLe := opd_I0 fun _ _ _ _ => .bl _
theorem d_gt : OpD c (rI0 fun i j => .bl (decide (j < i))) oGt := opd_I0 fun _ _ _ _ => .bl _
theorem d_ge : OpD c (rI0 fun i j => .bl (decide (j ≤ i))) oGe := opd_I0 fun _ _ _ _ => .bl _
mutual
def toPy : D → Option PyData
  | .non => some .none
  | .bl b => some (.bool b)
  | .int i => some (.int i)
  | .str x => some (.str x)
  | .tup ds => (toPyL ds).map .tuple
  | .lst ds => (toPyL ds).map .list
  | _ => none
def toPyL : List D → Option (List PyData)
  | [] => some []
  | d :: ds => match toPy d, toPyL ds with
    | some p, some ps => some (p :: ps)
    | _, _ => none
end
theorem dp_of {ha : Option Addr} {G : Hp} {v : V} {d : D} (h : Dq c ha G v d) : ∀ p, toPy d = some p → Dp c.K G v p := by
  refine Dq.rec (motive_1 := fun v d _ => ∀ p, toPy d = some p → Dp c.K G v p) (motive_2 := fun xs ds _ => ∀ ps, toPyL ds = some ps → DpAll c.K G xs ps) (motive_3 := fun _ _ _ _ => True) ?_ ?_ ?_ ?_ ?_ ?_ ?_ ?_ ?_ ?_ ?_ h
  · intro p e; unfold toPy at e; cases e; exact .non
  · intro b p e; unfold toPy at e; cases e; exact .bl b
  · intro i p e; unfold toPy at e; cases e; exact .int i
  · intro x p e; unfold toPy at e; cases e; exact .str x
  · intro a xs ds hs _ ih p e
    unfold toPy at e
    cases q : toPyL ds with
    | none => rw [q] at e; cases e
    | some ps => rw [q] at e; cases e; exact .tup hs (ih ps q)
  · intro a xs ds hs _ ih p e
    unfold toPy at e
    cases q : toPyL ds with
    | none => rw [q] at e; cases e
    | some ps => rw [q] at e; cases e; exact .lst (SqL.of hs) (ih ps q)
  · intro a C dx n xs fs _ _ _ _ _ p e; unfold toPy at e; cases e
  · intro ps e; unfold toPyL at e; cases e; exact .nil
  · intro v d xs ds _ _ ih1 ih2 ps e
    unfold toPyL at e
    cases q : toPy d with
    | none => rw [q] at e; cases e
    | some p =>
      cases q2 : toPyL ds with
      | none => rw [q, q2] at e; cases e
      | some ps2 => rw [q, q2] at e; cases e; exact .cons (ih1 p q) (ih2 ps2 q2)
  · exact fun {_} => True.intro
  · intros; exact True.intro
/-- equality of data -/
def eqD (x y : D) : Option Bool := match toPy x, toPy y with
  | some p, some q => if SeqAt.shaped p && SeqAt.shaped q then some (PyData.eqv p q) else none
  | _, _ => none
def oEq (x y : D) : Option D := (eqD x y).map .bl
def oNe (x y : D) : Option D := (eqD x y).map fun b => .bl (!b)
theorem eqD_get {x y : D} {b : Bool} (h : eqD x y = some b) : ∃ p q, toPy x = some p ∧ toPy y = some q ∧ SeqAt.shaped p = true ∧ SeqAt.shaped q = true ∧ PyData.eqv p q = b := by
  unfold eqD at h
  split at h
  · rename_i p q e1 e2
    split at h
    · rename_i s
      rw [Bool.and_eq_true] at s
      cases h
      exact ⟨p, q, e1, e2, s.1, s.2, rfl⟩
    · cases h
  · cases h
theorem d_eq : OpD c (rEqD c.K) oEq := by
  intro ha G H x y d v w Q s dx dy q fin
  unfold oEq at q
  cases e : eqD x y with
  | none => rw [e] at q; cases q
  | some b =>
    rw [e] at q
    cases q
    obtain ⟨p1, p2, e1, e2, s1, s2, rfl⟩ := eqD_get e
    exact ⟨p1, p2, dp_of (dq_mono s dx) p1 e1, dp_of (dq_mono s dy) p2 e2, s1, s2, fin _ G H (Mv.refl s) (Same.refl _) (.bl _)⟩
theorem d_ne : OpD c (rNeD c.K) oNe := by
  intro ha G H x y d v w Q s dx dy q fin
  unfold oNe at q
  cases e : eqD x y with
  | none => rw [e] at q; cases q
  | some b =>
    rw [e] at q
    cases q
    obtain ⟨p1, p2, e1, e2, s1, s2, rfl⟩ := eqD_get e
    exact ⟨p1, p2, dp_of (dq_mono s dx) p1 e1, dp_of (dq_mono s dy) p2 e2, s1, s2, fin _ G H (Mv.refl s) (Same.refl _) (.bl _)⟩
end
end Fw
set_option maxHeartbeats 2000000
namespace Fw
open PySem PySem.Spec PyProof.Rows L2 Dz Vz
section
variable {X : Cx} {W : WX} {c : Cn} {e a b e2 : Expr} {es : List Expr} {pos : Pos} {ta tb te : TE} {t : TT} {f fa fb fc : EF D} {g ga gb : EF Bool} {fs : EF (List D)}
def bD : D → D → Ex Bool
  | .bl b, h => .ok b h
  | _, _ => .bad
def eT (f : EF D) : EF Bool := fun δ h => (f δ h).bind bD
theorem rt_T (σ : L2.St) (H : Hp) (Q : Bool → Hp → Prop) (x : rt c W (eT f) σ H Q) : rd c W f σ H fun v H' => ∃ k, v = .bl k ∧ Q k H' := by
  obtain ⟨ha, G0, B, G, δ, h, st, p⟩ := x
  refine ⟨ha, G0, B, G, δ, h, st, post_imp (post_bind p) fun d h1 G1 H1 af p1 v dv => ?_⟩
  cases dv with
  | bl b => exact ⟨b, rfl, post_ok p1 af.gh af.hd⟩
  | _ => exact p1.elim
theorem dt_val (p : PE X e (rd c W f)) (he : ∀ whole, isTrue e X.env whole = (do let v ← whole; standAt e.pos; holding [v] (truthy v)) := by intro _; rfl) : PT X e (rt c W (eT f)) := pt_to (pt_val p he) fun σ H Q x => rt_T σ H Q x
theorem dt_cmp {op : CmpOp} {r : R2} {k : D → D → Option D} (ho : OpR X (compareOp op) r) (hr : OpD c r k) (ha : PE X a (rd c W fa)) (hb : PE X b (rd c W fb)) (hm : behindInMarks op b = false := by rfl) : PT X (.Compare a [op] [b] pos) (rt c W (eT (eOp k fa fb))) :=
  pt_to (pt_cmpR ho ha hb hm) fun σ H Q x => rd_op hr σ H _ (rt_T σ H Q x)
/-- truth of a thing -/
def truD : D → Option Bool
  | .non => some false
  | .bl b => some b
  | .int i => some (i != 0)
  | .tup ds => some !ds.isEmpty
  | .lst ds => some !ds.isEmpty
  | _ => none
def eTru (f : EF D) : EF Bool := fun δ h => (f δ h).bind fun d h1 => Ex.of (truD d) h1
theorem isE {ha : Option Addr} {G : Hp} {xs : List V} {ds : List D} (d : DqAll c ha G xs ds) : (!xs.isEmpty) = !ds.isEmpty := by cases d <;> rfl
theorem tru_of {ha : Option Addr} {G H : Hp} {v : V} {d : D} {b : Bool} (s : Same G H) (dv : Dq c ha G v d) (e : truD d = some b) : TruV c.K v H b := by
  cases dv with
  | non => cases e; exact rfl
  | bl b => cases e; exact rfl
  | int i => cases e; exact rfl
  | str x => cases e
  | tup h d => cases e; exact .inr (.inl ⟨_, Evl.ex_t s h, (isE d).symm⟩)
  | lst h d => cases e; exact .inl ⟨_, SqL.of (s _ _ h), (isE d).symm⟩
  | ins _ _ _ _ => cases e
theorem dt_tru (hK : X.K = c.K) (p : PE X e (rd c W f)) (he : ∀ whole, isTrue e X.env whole = (do let v ← whole; standAt e.pos; holding [v] (truthy v)) := by intro _; rfl) : PT X e (rt c W (eTru f)) := pt_to (pt_truth p he) fun σ H Q x => by
  obtain ⟨ha, G0, B, G, δ, h, st, p⟩ := x
  refine ⟨ha, G0, B, G, δ, h, st, post_imp (post_bind p) fun d h1 G1 H1 af p1 v dv => ?_⟩
  obtain ⟨b, eb, q⟩ := post_of p1
  rw [hK]
  exact ⟨b, tru_of af.gh dv eb, q _ _ (.refl af.gh af.hd)⟩
def eAnd (g1 g2 : EF Bool) : EF Bool := fun δ h => (g1 δ h).bind fun b h1 => if b then g2 δ h1 else .ok false h1
def eOr (g1 g2 : EF Bool) : EF Bool := fun δ h => (g1 δ h).bind fun b h1 => if b then .ok true h1 else g2 δ h1
def eNot (g : EF Bool) : EF Bool := fun δ h => (g δ h).bind fun b h1 => .ok (!b) h1
structure PWt (X : Cx) (e : Expr) (t : TT) : Prop where
  w : PW X e t
theorem pw_to {t u : TT} (p : PW X e t) (i : ∀ σ H Q, u σ H Q → t σ H Q) : PW X e u := ⟨fun wh pins s σ H Q I h => p.run wh pins s σ H Q I (i σ H Q h)⟩
theorem dw_and1 (p : PT X a (rt c W g)) : PW X (.BoolOp .And [a] pos) (rt c W g) := pw_and1 p
theorem dw_or1 (p : PT X a (rt c W g)) : PW X (.BoolOp .Or [a] pos) (rt c W g) := pw_or1 p
theorem dw_and (ha : PT X a (rt c W ga)) (hb : PW X (.BoolOp .And (b :: es) pos) (rt c W gb)) : PW X (.BoolOp .And (a :: b :: es) pos) (rt c W (eAnd ga gb)) := pw_to (pw_and ha hb) fun σ H Q x => by
  obtain ⟨ha, G0, B, G, δ, h, st, p⟩ := x
  refine ⟨ha, G0, B, G, δ, h, st, post_imp (post_bind p) fun b h1 G1 H1 af p1 => ?_⟩
  cases b with
  | true => exact ⟨ha, G0, B, G1, δ, h1, st.to af, p1⟩
  | false => exact post_ok p1 af.gh af.hd
theorem dw_or (ha : PT X a (rt c W ga)) (hb : PW X (.BoolOp .Or (b :: es) pos) (rt c W gb)) : PW X (.BoolOp .Or (a :: b :: es) pos) (rt c W (eOr ga gb)) := pw_to (pw_or ha hb) fun σ H Q x => by
  obtain ⟨ha, G0, B, G, δ, h, st, p⟩ := x
  refine ⟨ha, G0, B, G, δ, h, st, post_imp (post_bind p) fun b h1 G1 H1 af p1 => ?_⟩
  cases b with
  | false => exact ⟨ha, G0, B, G1, δ, h1, st.to af, p1⟩
  | true => exact post_ok p1 af.gh af.hd
theorem dt_not (ha : PT X a (rt c W ga)) : PT X (.UnaryOp .Not a pos) (rt c W (eNot ga)) := pt_to (pt_not ha) fun σ H Q x => by
  obtain ⟨ha, G0, B, G, δ, h, st, p⟩ := x
  exact ⟨ha, G0, B, G, δ, h, st, post_imp (post_bind p) fun b h1 G1 H1 af p1 => post_ok p1 af.gh af.hd⟩
def eB (g : EF Bool) : EF D := fun δ h => (g δ h).bind fun b h1 => .ok (.bl b) h1
theorem rd_B1 (σ : L2.St) (H : Hp) (Q : VK) (x : rd c W (eB (eT f)) σ H Q) : rd c W f σ H Q := by
  obtain ⟨ha, G0, B, G, δ, h, st, p⟩ := x
  refine ⟨ha, G0, B, G, δ, h, st, post_imp (post_bind (post_bind p)) fun d h1 G1 H1 af p1 v dv => ?_⟩
  cases dv with
  | bl b => exact post_ok (post_ok p1 af.gh af.hd) af.gh af.hd _ (.bl b)
  | _ => exact p1.elim
theorem dx_one {op} (p : PE X a (rd c W f)) : PE X (.BoolOp op [a] pos) (rd c W (eB (eT f))) := pe_to (pe_one p) rd_B1
theorem dx_and (ha : PE X a (rd c W fa)) (hb : PE X (.BoolOp .And (b :: es) pos) (rd c W (eB gb))) : PE X (.BoolOp .And (a :: b :: es) pos) (rd c W (eB (eAnd (eT fa) gb))) := pe_to (pe_and ha hb) fun σ H Q x => by
  obtain ⟨ha, G0, B, G, δ, h, st, p⟩ := x
  refine ⟨ha, G0, B, G, δ, h, st, post_imp (post_bind (post_bind (post_bind p))) fun d h1 G1 H1 af p1 v dv => ?_⟩
  cases dv with
  | bl b =>
    have p2 := post_ok p1 af.gh af.hd
    cases b with
    | true => exact ⟨true, rfl, ha, G0, B, G1, δ, h1, st.to af, by
        show Post c ha W σ G1 H1 ((gb δ h1).bind _) _
        cases e : gb δ h1 with
        | ok b2 h2 =>
          rw [if_pos rfl, e] at p2
          exact fun G2 H2 af2 => p2 G2 H2 af2 G2 H2 (.refl af2.gh af2.hd)
        | exc n fs h2 =>
          rw [if_pos rfl, e] at p2
          exact p2
        | bad =>
          rw [if_pos rfl, e] at p2
          exact p2⟩
    | false => exact ⟨false, rfl, post_ok (post_ok p2 af.gh af.hd) af.gh af.hd _ (.bl false)⟩
  | _ => exact p1.elim
theorem dx_or (ha : PE X a (rd c W fa)) (hb : PE X (.BoolOp .Or (b :: es) pos) (rd c W (eB gb))) : PE X (.BoolOp .Or (a :: b :: es) pos) (rd c W (eB (eOr (eT fa) gb))) := pe_to (pe_or ha hb) fun σ H Q x => by
  obtain ⟨ha, G0, B, G, δ, h, st, p⟩ := x
  refine ⟨ha, G0, B, G, δ, h, st, post_imp (post_bind (post_bind (post_bind p))) fun d h1 G1 H1 af p1 v dv => ?_⟩
  cases dv with
  | bl b =>
    have p2 := post_ok p1 af.gh af.hd
    cases b with
    | false => exact ⟨false, rfl, ha, G0, B, G1, δ, h1, st.to af, by
        show Post c ha W σ G1 H1 ((gb δ h1).bind _) _
        cases e : gb δ h1 with
        | ok b2 h2 =>
          rw [if_neg Bool.false_ne_true, e] at p2
          exact fun G2 H2 af2 => p2 G2 H2 af2 G2 H2 (.refl af2.gh af2.hd)
        | exc n fs h2 =>
          rw [if_neg Bool.false_ne_true, e] at p2
          exact p2
        | bad =>
          rw [if_neg Bool.false_ne_true, e] at p2
          exact p2⟩
    | true => exact ⟨true, rfl, post_ok (post_ok p2 af.gh af.hd) af.gh af.hd _ (.bl true)⟩
  | _ => exact p1.elim
theorem dx_not (ha : PE X a (rd c W fa)) : PE X (.UnaryOp .Not a pos) (rd c W (eB (eNot (eT fa)))) := pe_to (pe_not ha) fun σ H Q x => by
  obtain ⟨ha, G0, B, G, δ, h, st, p⟩ := x
  refine ⟨ha, G0, B, G, δ, h, st, post_imp (post_bind (post_bind (post_bind p))) fun d h1 G1 H1 af p1 v dv => ?_⟩
  cases dv with
  | bl b => exact ⟨b, rfl, post_ok (post_ok (post_ok p1 af.gh af.hd) af.gh af.hd) af.gh af.hd _ (.bl _)⟩
  | _ => exact p1.elim
def eIf (g : EF Bool) (fa fb : EF D) : EF D := fun δ h => (g δ h).bind fun b h1 => if b then fa δ h1 else fb δ h1
theorem dx_if (hg : PT X e (rt c W g)) (ha : PE X a (rd c W fa)) (hb : PE X b (rd c W fb)) : PE X (.IfExp e a b pos) (rd c W (eIf g fa fb)) := pe_to (pe_ifExp hg ha hb) fun σ H Q x => by
  obtain ⟨ha, G0, B, G, δ, h, st, p⟩ := x
  refine ⟨ha, G0, B, G, δ, h, st, post_imp (post_bind p) fun b h1 G1 H1 af p1 => ?_⟩
  cases b with
  | true => exact ⟨ha, G0, B, G1, δ, h1, st.to af, p1⟩
  | false => exact ⟨ha, G0, B, G1, δ, h1, st.to af, p1⟩
/-- a op1 b op2 c -/
def eCh (k1 k2 : D → D → Option D) (fa fb fc : EF D) : EF D := fun δ h => (fa δ h).bind fun x h1 => (fb δ h1).bind fun y h2 => (Ex.of (k1 x y) h2).bind fun z h3 => (bD z h3).bind fun b h4 => if b then (fc δ h4).bind fun w h5 => Ex.of (k2 y w) h5 else .ok (.bl false) h4
theorem rd_ch {r1 r2 : R2} {k1 k2 : D → D → Option D} (d1 : OpD c r1 k1) (d2 : OpD c r2 k2) (σ : L2.St) (H : Hp) (Q : VK) (x : rd c W (eCh k1 k2 fa fb fc) σ H Q) : tChain r1 r2 (rd c W fa) (rd c W fb) (rd c W fc) σ H Q := by
  obtain ⟨ha, G0, B, G, δ, h, st, p⟩ := x
  refine ⟨ha, G0, B, G, δ, h, st, post_imp (post_bind p) fun x h1 G1 H1 af1 p1 v dv => ?_⟩
  refine ⟨ha, G0, B, G1, δ, h1, st.to af1, post_imp (post_bind p1) fun y h2 G2 H2 af2 p2 w dw => ?_⟩
  obtain ⟨z, ez, q⟩ := post_of (post_bind p2)
  refine d1 af2.gh (dq_mono af2.gg dv) dw ez fun u G3 H3 m s du => ?_
  have af3 : Af c ha G2 H2 G3 H3 h2 := .of af2.gh af2.hd m s
  have q3 := q G3 H3 af3
  cases du with
  | bl b =>
    have q4 := post_ok (post_bind q3) af3.gh af3.hd
    cases b with
    | false => exact ⟨false, rfl, post_ok q4 af3.gh af3.hd _ (.bl false)⟩
    | true =>
      refine ⟨true, rfl, ha, G0, B, G3, δ, h2, ((st.to af1).to af2).to af3, post_imp (post_bind q4) fun w2 h5 G5 H5 af5 p5 v5 dv5 => ?_⟩
      obtain ⟨d, e, q5⟩ := post_of p5
      exact d2 af5.gh (dq_mono (af3.gg.trans af5.gg) dw) dv5 e fun u G' H' m s du => q5 G' H' (.of af5.gh af5.hd m s) u du
  | _ => exact q3.elim
theorem dx_ch {op op' : CmpOp} {r1 r2 : R2} {k1 k2 : D → D → Option D} (o1 : OpR X (compareOp op) r1) (o2 : OpR X (compareOp op') r2) (d1 : OpD c r1 k1) (d2 : OpD c r2 k2) (ha : PE X a (rd c W fa)) (hb : PE X b (rd c W fb)) (hc : PE X e (rd c W fc))
    (hm : lastMarks [op, op'] [b, e] = false := by with_unfolding_all rfl) : PE X (.Compare a [op, op'] [b, e] pos) (rd c W (eCh k1 k2 fa fb fc)) := pe_to (pe_chain o1 o2 ha hb hc hm) (rd_ch d1 d2)
theorem dt_ch {op op' : CmpOp} {r1 r2 : R2} {k1 k2 : D → D → Option D} (o1 : OpR X (compareOp op) r1) (o2 : OpR X (compareOp op') r2) (d1 : OpD c r1 k1) (d2 : OpD c r2 k2) (ha : PE X a (rd c W fa)) (hb : PE X b (rd c W fb)) (hc : PE X e (rd c W fc))
    (hm : lastMarks [op, op'] [b, e] = false := by with_unfolding_all rfl) : PT X (.Compare a [op, op'] [b, e] pos) (rt c W (eT (eCh k1 k2 fa fb fc))) := pt_to (pt_chain o1 o2 ha hb hc hm) fun σ H Q x => rd_ch d1 d2 σ H _ (rt_T σ H Q x)
def oIsN (x y : D) : Option D := match y with
  | .non => some (.bl (match x with | .non => true | _ => false))
  | _ => none
def oNotN (x y : D) : Option D := match y with
  | .non => some (.bl (match x with | .non => false | _ => true))
  | _ => none
theorem d_isN : OpD c (fun x y H Q => y = .non ∧ Q (.bl (decide (x = .non))) H) oIsN := by
  intro ha G H x y d v w Q s dx dy q fin
  cases dy <;> first | (cases q; done) | skip
  refine ⟨rfl, fin _ G H (Mv.refl s) (Same.refl _) ?_⟩
  cases dx <;> (cases q; exact .bl _)
theorem d_notN : OpD c (fun x y H Q => y = .non ∧ Q (.bl (!decide (x = .non))) H) oNotN := by
  intro ha G H x y d v w Q s dx dy q fin
  cases dy <;> first | (cases q; done) | skip
  refine ⟨rfl, fin _ G H (Mv.refl s) (Same.refl _) ?_⟩
  cases dx <;> (cases q; exact .bl _)
def oIsB (x y : D) : Option D := match x, y with
  | .bl a, .bl b => some (.bl (decide (a = b)))
  | _, _ => none
theorem d_isB : OpD c rIsB oIsB := by
  intro ha G H x y d v w Q s dx dy q fin
  cases dx <;> cases dy <;> first | (cases q; done) | skip
  cases q
  exact ⟨_, _, rfl, rfl, fin _ G H (Mv.refl s) (Same.refl _) (.bl _)⟩
def eNil : EF (List D) := fun _ h => .ok [] h
def eCons (f : EF D) (g : EF (List D)) : EF (List D) := fun δ h => (f δ h).bind fun d h1 => (g δ h1).bind fun ds h2 => .ok (d :: ds) h2
theorem da_nil : PA X [] (ra c W eNil) := pa_to pa_nil fun σ H Q x => by
  obtain ⟨ha, G0, B, G, δ, h, st, p⟩ := x
  exact post_ok p st.gh st.hd [] .nil
theorem da_cons (he : PE X e (rd c W f)) (hs : PA X es (ra c W fs)) (hst : starEach (e :: es) X.env = (false, eval e X.env) :: starEach es X.env := by rfl) : PA X (e :: es) (ra c W (eCons f fs)) := pa_to (pa_cons he hs hst) fun σ H Q x => by
  obtain ⟨ha, G0, B, G, δ, h, st, p⟩ := x
  refine ⟨ha, G0, B, G, δ, h, st, post_imp (post_bind p) fun d h1 G1 H1 af1 p1 v dv => ?_⟩
  refine ⟨ha, G0, B, G1, δ, h1, st.to af1, post_imp (post_bind p1) fun ds h2 G2 H2 af2 p2 vs dvs => ?_⟩
  exact post_ok p2 af2.gh af2.hd _ (.cons (dq_mono af2.gg dv) dvs)
def szOk (n : Nat) : Bool := decide (n ≤ 1000000)
theorem szOk_le {n : Nat} (h : szOk n = true) : n ≤ sizeLine := by
  have := of_decide_eq_true h
  rw [sizeLine_eq]
  omega
def eTup (fs : EF (List D)) : EF D := fun δ h => (fs δ h).bind fun ds h1 => Ex.of (if szOk ds.length then some (.tup ds) else none) h1
theorem if_get {α : Type} {b : Bool} {x : α} {y : α} (h : (if b = true then some x else none) = some y) : b = true ∧ x = y := by
  by_cases hb : b = true
  · rw [if_pos hb] at h
    exact ⟨hb, Option.some.inj h⟩
  · rw [if_neg hb] at h
    cases h
theorem dx_tup {x1} (hs : PA X es (ra c W fs)) : PE X (.Tuple es x1 pos) (rd c W (eTup fs)) := pe_to (pe_tup hs) fun σ H Q x => by
  obtain ⟨ha, G0, B, G, δ, h, st, p⟩ := x
  refine ⟨ha, G0, B, G, δ, h, st, post_imp (post_bind p) fun ds h1 G1 H1 af1 p1 vs dvs => ?_⟩
  obtain ⟨d, e, q⟩ := post_of p1
  obtain ⟨z, rfl⟩ := if_get e
  refine ⟨by rw [dqAll_len dvs]; exact szOk_le z, fun t ht => ?_⟩
  have m := Mv.new (o := .tup vs) af1.gh ht
  exact q _ _ (.of af1.gh af1.hd m (same_new ht)) _ (.tup (SqT.of upd_same) (dqAll_mono m.gg dvs))
def eLst (fs : EF (List D)) : EF D := fun δ h => (fs δ h).bind fun ds h1 => Ex.of (if szOk ds.length then some (.hl ds) else none) h1
/-- a new list of things at rest -/
theorem nw_lst {ha : Option Addr} {G H : Hp} {l : Addr} {vs : List V} {ds : List D} (s : Same G H) (hl : H l = none) (d : DqAll c ha G vs ds) : Nw c ha H G (upd H l (.lst vs)) (.ref l) (.hl ds) :=
  .inr ⟨l, vs, ds, rfl, rfl, upd_same, old_none s hl, hl, d⟩
theorem nw_from {ha : Option Addr} {G H G1 H1 G2 H2 : Hp} {h1 : D} {v : V} {d : D} (af : Af c ha G H G1 H1 h1) (n : Nw c ha H1 G2 H2 v d) : Nw c ha H G2 H2 v d := by
  rcases n with n | ⟨a, xs, ds, h1, h2, h3, h4, h5, h6⟩
  · exact .inl n
  · exact .inr ⟨a, xs, ds, h1, h2, h3, h4, af_old af h5, h6⟩
theorem dn_if (hg : PT X e (rt c W g)) (ha : PE X a (rn c W fa)) (hb : PE X b (rn c W fb)) : PE X (.IfExp e a b pos) (rn c W (eIf g fa fb)) := pn_to (pe_ifExp hg ha hb) fun σ H Q x => by
  obtain ⟨ha, G0, B, G, δ, h, st, p⟩ := x
  refine ⟨ha, G0, B, G, δ, h, st, post_imp (post_bind p) fun b h1 G1 H1 af p1 => ?_⟩
  cases b with
  | true => exact ⟨ha, G0, B, G1, δ, h1, st.to af, post_imp p1 fun d h2 G2 H2 af2 q v n => q v (nw_from af n)⟩
  | false => exact ⟨ha, G0, B, G1, δ, h1, st.to af, post_imp p1 fun d h2 G2 H2 af2 q v n => q v (nw_from af n)⟩
theorem dn_lst (hs : PA X es (ra c W fs)) : PE X (.List es pos) (rn c W (eLst fs)) := pn_to (pe_lst hs) fun σ H Q x => by
  obtain ⟨ha, G0, B, G, δ, h, st, p⟩ := x
  refine ⟨ha, G0, B, G, δ, h, st, post_imp (post_bind p) fun ds h1 G1 H1 af1 p1 vs dvs => ?_⟩
  obtain ⟨d, e, q⟩ := post_of p1
  obtain ⟨z, rfl⟩ := if_get e
  refine ⟨by rw [dqAll_len dvs]; exact szOk_le z, fun t ht => ?_⟩
  exact q _ _ (.of af1.gh af1.hd (Mv.hid af1.gh ht) (same_new ht)) _ (nw_from af1 (nw_lst af1.gh ht dvs))
def sfz : D → D
  | .hl ds => .lst ds
  | d => d
theorem sfz_id {d : D} (h : d.fr = true) : sfz d = d := by
  cases d <;> first | rfl | cases h
def eFz (f : EF D) : EF D := fun δ h => (f δ h).bind fun d h1 => .ok (sfz d) h1
theorem Sta.hne {ha : Option Addr} {G0 B G H : Hp} {σ : L2.St} {δ : DE} {h : D} (st : Sta c ha G0 B G H σ δ h) : ∀ a, ha = some a → H a ≠ none := fun a e => by
  subst e
  exact (hok_at st.hd).2
theorem af_fz {ha : Option Addr} {G H G1 H1 : Hp} {h1 : D} {v : V} {d : D} (hk : ∀ a, ha = some a → H a ≠ none) (af : Af c ha G H G1 H1 h1) (n : Nw c ha H G1 H1 v d) : ∃ G2, Af c ha G H G2 H1 h1 ∧ Dq c ha G2 v (sfz d) := by
  rcases n with n | ⟨a, xs, ds, rfl, rfl, h3, h4, h5, h6⟩
  · rw [sfz_id (dq_fr n)]
    exact ⟨G1, af, n⟩
  · have s1 : Same G1 (upd G1 a (.lst xs)) := same_new h4
    refine ⟨upd G1 a (.lst xs), ⟨Mv.shut af.mv h5 h4 h3, af.bt, hok_keep af.hd s1 fun b e => ⟨?_, rfl⟩⟩, .lst upd_same (dqAll_mono s1 h6)⟩
    rw [upd_ne fun z => hk b e (by rw [z]; exact h5)]
    subst e
    exact (hok_at af.hd).1
theorem dx_fz (p : PE X e (rn c W f)) : PE X e (rd c W (eFz f)) := pe_to p fun σ H Q x => by
  obtain ⟨ha, G0, B, G, δ, h, st, p⟩ := x
  refine ⟨ha, G0, B, G, δ, h, st, ?_⟩
  unfold eFz at p
  cases e : f δ h with
  | ok d h1 =>
    rw [e] at p
    intro G1 H1 af1 v n
    obtain ⟨G2, af2, dv⟩ := af_fz st.hne af1 n
    exact p G2 H1 af2 v dv
  | exc n fs h1 => rw [e] at p; exact p
  | bad => rw [e] at p; exact p
theorem nw_dq {ha : Option Addr} {H G' H' : Hp} {v : V} {d : D} (h : Dq c ha G' v d) : Nw c ha H G' H' v d := .inl h
theorem dn_of (p : PE X e (rd c W f)) : PE X e (rn c W f) := pn_to p fun σ H Q x => by
  obtain ⟨ha, G0, B, G, δ, h, st, p⟩ := x
  exact ⟨ha, G0, B, G, δ, h, st, post_imp p fun d h1 G1 H1 af q v dv => q v (nw_dq dv)⟩
end
end Fw
set_option maxHeartbeats 2000000
namespace Fw
open PySem PySem.Spec PyProof.Rows L2 Dz Vz
section
variable {X : Cx} {W : WX} {c : Cn} {e a b e2 : Expr} {es : List Expr} {pos : Pos} {ta tb te : TE} {t : TT} {f fa fb fc : EF D} {g ga gb : EF Bool} {fs : EF (List D)}
def oIx (x y : D) : Option D := match x, y with
  | .tup ds, .int i => atI ds i
  | .lst ds, .int i => atI ds i
  | _, _ => none
theorem atI_dq {ha : Option Addr} {G : Hp} {xs : List V} {ds : List D} {i : Int} {d : D} (h : DqAll c ha G xs ds) (e : atI ds i = some d) : ∃ v, atI xs i = some v ∧ Dq c ha G v d := by
  unfold atI at e ⊢
  rw [dqAll_len h]
  cases q : ixN ds.length i with
  | none => rw [q] at e; cases e
  | some j =>
    rw [q] at e
    obtain ⟨x, h1, h2⟩ := dqAll_at h (show ds[j]? = some d from e)
    exact ⟨x, h1, h2⟩
theorem d_ix : OpD c (rIx c.K) oIx := by
  intro ha G H x y d v w Q s dx dy q fin
  cases dx with
  | tup h1 h2 =>
    cases dy with
    | int i =>
      obtain ⟨z, e1, e2⟩ := atI_dq h2 q
      exact .inr (.inl ⟨_, _, _, z, rfl, rfl, Evl.ex_t s h1, e1, fin _ G H (Mv.refl s) (Same.refl _) e2⟩)
    | _ => cases q
  | lst h1 h2 =>
    cases dy with
    | int i =>
      obtain ⟨z, e1, e2⟩ := atI_dq h2 q
      exact .inl ⟨_, _, _, z, rfl, rfl, SqL.of (s _ _ h1), e1, fin _ G H (Mv.refl s) (Same.refl _) e2⟩
    | _ => cases q
  | _ => cases q
theorem dx_ix (ha : PE X a (rd c W fa)) (hb : PE X b (rd c W fb)) (hs : PlainIx b := by exact fun _ _ => rfl) (hK : X.K = c.K := by rfl) : PE X (.Subscript a b pos) (rd c W (eOp oIx fa fb)) := pe_to (pe_ix ix_seq ha hb hs) (by rw [hK]; exact rd_op d_ix)
/-- the thing that is handed about, in slot i -/
def eM (i : Nat) : EF Unit := fun δ h => match δ[i]? with
  | some (some .me) => .ok () h
  | _ => .bad
def rm (c : Cn) (W : WX) (f : EF Unit) : TE := fun σ H Q => ∃ ha G0 B G δ h, Sta c ha G0 B G H σ δ h ∧ Post c ha W σ G H (f δ h) fun _ _ _ H' => ∀ a, ha = some a → Q (.ref a) H'
theorem dm_v {i : Nat} {x : Str} (hN : X.N[i]? = some x) (hv : Vis X.env.scope x) (hd : (x == ("__debug__" : Str)) = false := by decide) (hcd : (x == ("__classdict__" : Str)) = false := by decide) : PE X (.Name x pos) (rm c W (eM i)) := ⟨fun pins s σ H Q I z => (pe_var hN hv hd hcd).run pins s σ H Q I (by
  obtain ⟨ha, G0, B, G, δ, h, st, p⟩ := z
  unfold eM at p
  split at p
  · rename_i e
    obtain ⟨fp, o, n, k⟩ := st.sl
    obtain ⟨a, h1, h2⟩ := ownS_me o e
    exact ⟨_, h1, post_ok p st.gh st.hd a h2⟩
  · exact p.elim)⟩
/-- an item of it -/
def eIxM (i : Nat) (fb : EF D) : EF D := fun δ h => (eM i δ h).bind fun _ h1 => (fb δ h1).bind fun y h2 => Ex.of (match y, h2 with
  | .int i, .hl ds => atI ds i
  | _, _ => none) h2
theorem dx_ixM {i : Nat} (ha : PE X a (rm c W (eM i))) (hb : PE X b (rd c W fb)) (hs : PlainIx b := by exact fun _ _ => rfl) (hK : X.K = c.K := by rfl) : PE X (.Subscript a b pos) (rd c W (eIxM i fb)) := pe_to (pe_ix ix_list ha hb hs) fun σ H Q x => by
  obtain ⟨ha, G0, B, G, δ, h, st, p⟩ := x
  refine ⟨ha, G0, B, G, δ, h, st, post_imp (post_bind p) fun x h1 G1 H1 af1 p1 v e1 => ?_⟩
  refine ⟨ha, G0, B, G1, δ, h1, st.to af1, post_imp (post_bind p1) fun y h2 G2 H2 af2 p2 w dw => ?_⟩
  obtain ⟨d, e, q⟩ := post_of p2
  cases dw with
  | int i =>
    cases af2.hd with
    | hand e2 _ h4 h5 =>
      rw [e1] at e2
      cases e2
      obtain ⟨z, k1, k2⟩ := atI_dq h5 e
      exact ⟨_, _, _, z, rfl, rfl, SqL.of h4, k1, q _ _ (.refl af2.gh af2.hd) _ k2⟩
    | _ => cases e
  | _ => cases e
def eOn (f : D → D → Option D) (fa fb : EF D) : EF D := eOp f fa fb
def OpN (c : Cn) (r : R2) (f : D → D → Option D) : Prop := ∀ {ha : Option Addr} {G H : Hp} {x y d : D} {v w : V} {Q : VK}, Same G H → Dq c ha G v x → Dq c ha G w y → f x y = some d → (∀ u G' H', Mv G H G' H' → Same H H' → Nw c ha H G' H' u d → Q u H') → r v w H Q
theorem OpD.n {r : R2} {f : D → D → Option D} (h : OpD c r f) : OpN c r f := fun s dx dy e fin => h s dx dy e fun u G' H' m s du => fin u G' H' m s (nw_dq du)
theorem OpN.or {r1 r2 : R2} {f1 f2 : D → D → Option D} (h1 : OpN c r1 f1) (h2 : OpN c r2 f2) : OpN c (fun x y H Q => r1 x y H Q ∨ r2 x y H Q) (fun x y => match f1 x y with | some d => some d | none => f2 x y) := by
  intro ha G H x y d v w Q s dx dy e fin
  cases q : f1 x y with
  | some d2 =>
    simp only [q] at e
    cases e
    exact .inl (h1 s dx dy q fin)
  | none =>
    simp only [q] at e
    exact .inr (h2 s dx dy e fin)
theorem rn_op {r : R2} {f : D → D → Option D} (hr : OpN c r f) (σ : L2.St) (H : Hp) (Q : VK) (x : rn c W (eOn f fa fb) σ H Q) : tOp r (rd c W fa) (rd c W fb) σ H Q := by
  obtain ⟨ha, G0, B, G, δ, h, st, p⟩ := x
  refine ⟨ha, G0, B, G, δ, h, st, post_imp (post_bind p) fun x h1 G1 H1 af1 p1 v dv => ?_⟩
  refine ⟨ha, G0, B, G1, δ, h1, st.to af1, post_imp (post_bind p1) fun y h2 G2 H2 af2 p2 w dw => ?_⟩
  obtain ⟨d, e, q⟩ := post_of p2
  exact hr af2.gh (dq_mono af2.gg dv) dw e fun u G' H' m s n => q G' H' (.of af2.gh af2.hd m s) u (nw_from (af1.trans af2) n)
theorem dn_op {op : Operator} {r : R2} {f : D → D → Option D} (ho : OpR X (binaryOp op) r) (hr : OpN c r f) (ha : PE X a (rd c W fa)) (hb : PE X b (rd c W fb)) : PE X (.BinOp a op b pos) (rn c W (eOn f fa fb)) := pn_to (pe_op ho ha hb) (rn_op hr)
def oCatT (x y : D) : Option D := match x, y with
  | .tup ds, .tup es => if szOk (ds.length + es.length) then some (.tup (ds ++ es)) else none
  | _, _ => none
theorem nil_of {ha : Option Addr} {G : Hp} {xs : List V} {ds : List D} (h : DqAll c ha G xs ds) : xs = [] ↔ ds = [] := by cases h <;> simp
theorem d_catT : OpD c (rCatA c.K) oCatT := by
  intro ha G H x y d v w Q s dx dy q fin
  cases dx with
  | tup h1 h2 =>
    cases dy with
    | tup h3 h4 =>
      obtain ⟨z, rfl⟩ := if_get q
      rename_i a1 xs1 ds1 a2 xs2 ds2
      refine ⟨_, _, _, _, rfl, rfl, Evl.ex_t s h1, Evl.ex_t s h3, by rw [dqAll_len h2, dqAll_len h4]; exact szOk_le z, fun e => ?_, fun _ e => ?_, fun _ _ p hp => ?_⟩
      · rw [(nil_of h2).mp e, List.nil_append] at fin
        exact fin _ G H (Mv.refl s) (Same.refl _) (.tup h3 h4)
      · rw [(nil_of h4).mp e, List.append_nil] at fin
        exact fin _ G H (Mv.refl s) (Same.refl _) (.tup h1 h2)
      · have m := Mv.new (o := .tup (xs1 ++ xs2)) s hp
        exact fin _ _ _ m (same_new hp) (.tup (SqT.of upd_same) (dqAll_app (dqAll_mono m.gg h2) (dqAll_mono m.gg h4)))
    | _ => cases q
  | _ => cases q
def oCatL (x y : D) : Option D := match x, y with
  | .lst ds, .lst es => if szOk (ds.length + es.length) then some (.hl (ds ++ es)) else none
  | _, _ => none
theorem nw_new {ha : Option Addr} {G H : Hp} {l : Addr} {vs : List V} {ds : List D} {Q : VK} (s : Same G H) (hl : H l = none) (d : DqAll c ha G vs ds) (fin : ∀ u G' H', Mv G H G' H' → Same H H' → Nw c ha H G' H' u (.hl ds) → Q u H') : Q (.ref l) (upd H l (.lst vs)) :=
  fin _ _ _ (Mv.hid s hl) (same_new hl) (nw_lst s hl d)
theorem d_catL : OpN c rCat oCatL := by
  intro ha G H x y d v w Q s dx dy q fin
  cases dx with
  | lst h1 h2 =>
    cases dy with
    | lst h3 h4 =>
      obtain ⟨z, rfl⟩ := if_get q
      exact ⟨_, _, _, _, rfl, rfl, s _ _ h1, s _ _ h3, by rw [dqAll_len h2, dqAll_len h4]; exact szOk_le z, fun p hp => nw_new s hp (dqAll_app h2 h4) fin⟩
    | _ => cases q
  | _ => cases q
def oCatS (x y : D) : Option D := match x, y with
  | .str a, .str b => if szOk (a.length + b.length) then some (.str (a ++ b)) else none
  | _, _ => none
theorem d_catS : OpD c (fun x y H Q => ∃ i j, x = .str i ∧ y = .str j ∧ i.length + j.length ≤ sizeLine ∧ Q (.str (i ++ j)) H) oCatS := by
  intro ha G H x y d v w Q s dx dy q fin
  cases dx with
  | str a =>
    cases dy with
    | str b =>
      obtain ⟨z, rfl⟩ := if_get q
      exact ⟨_, _, rfl, rfl, szOk_le z, fin _ G H (Mv.refl s) (Same.refl _) (.str _)⟩
    | _ => cases q
  | _ => cases q
/-- a + b -/
def oPlus (x y : D) : Option D := match x, y with
  | .int i, .int j => some (.int (i + j))
  | .tup ds, .tup es => if szOk (ds.length + es.length) then some (.tup (ds ++ es)) else none
  | .lst ds, .lst es => if szOk (ds.length + es.length) then some (.hl (ds ++ es)) else none
  | _, _ => none
theorem d_plus : OpN c (fun x y H Q => rI0 (fun i j => .int (i + j)) x y H Q ∨ (rCatA c.K x y H Q ∨ rCat x y H Q)) oPlus := by
  intro ha G H x y d v w Q s dx dy q fin
  cases x <;> cases y <;> first | (cases q; done) | skip
  · exact .inl (d_add.n s dx dy q fin)
  · exact .inr (.inl (d_catT.n s dx dy q fin))
  · exact .inr (.inr (d_catL s dx dy q fin))
theorem op_plus : OpR X (binaryOp .Add) (fun x y H Q => rI0 (fun i j => .int (i + j)) x y H Q ∨ (rCatA X.K x y H Q ∨ rCat x y H Q)) := op_add.or (op_catA.or op_cat)
theorem dn_plus (ha : PE X a (rd c W fa)) (hb : PE X b (rd c W fb)) (hK : X.K = c.K := by rfl) : PE X (.BinOp a .Add b pos) (rn c W (eOn oPlus fa fb)) := pn_to (pe_op op_plus ha hb) (by rw [hK]; exact rn_op d_plus)
/-- a * b -/
def cRep (k : Int) (n : Nat) : Bool := decide (0 ≤ k) && (decide (k ≤ 1000) && decide (n ≤ 1000))
def oTimes (x y : D) : Option D := match x, y with
  | .int i, .int j => if cMul i j then some (.int (i * j)) else none
  | .tup ds, .int k => if cRep k ds.length && !ds.isEmpty then some (.tup (List.replicate k.toNat ds).flatten) else none
  | .lst ds, .int k => if cRep k ds.length then some (.hl (List.replicate k.toNat ds).flatten) else none
  | _, _ => none
theorem cRep_get {k : Int} {n : Nat} (h : cRep k n = true) : 0 ≤ k ∧ k ≤ 1000 ∧ n ≤ 1000 := by
  unfold cRep at h
  rw [Bool.and_eq_true, Bool.and_eq_true, decide_eq_true_eq, decide_eq_true_eq, decide_eq_true_eq] at h
  exact h
abbrev rTimes (K : PySem.W.Frag) : R2 := fun x y H Q => rI CMulW (fun i j => .int (i * j)) x y H Q ∨ (rRep x y H Q ∨ (rRepT K x y H Q ∨ (Gn.rRep1 K x y H Q ∨ Wr.rRep0 K x y H Q)))
theorem d_times : OpN c (rTimes c.K) oTimes := by
  intro ha G H x y d v w Q s dx dy q fin
  cases x <;> cases y <;> first | (cases q; done) | skip
  · exact .inl (d_mul.n s dx dy q fin)
  · rename_i ds k
    obtain ⟨z, rfl⟩ := if_get q
    rw [Bool.and_eq_true] at z
    obtain ⟨z1, z2⟩ := z
    obtain ⟨k0, k1, k2⟩ := cRep_get z1
    cases dy
    cases dx with
    | tup h1 h2 =>
      rename_i a xs
      have hne : xs ≠ [] := fun e => by rw [(nil_of h2).mp e] at z2; cases z2
      by_cases e0 : k = 0
      · subst e0
        refine .inr (.inr (.inr (.inr ⟨a, xs, rfl, rfl, Evl.ex_t s h1, hne, fun p hp => ?_⟩)))
        exact fin _ _ _ (Mv.new s hp) (same_new hp) (nw_dq (.tup (SqT.of upd_same) .nil))
      · by_cases e1 : k = 1
        · subst e1
          refine .inr (.inr (.inr (.inl ⟨a, xs, rfl, rfl, Evl.ex_t s h1, ?_⟩)))
          refine fin _ G H (Mv.refl s) (Same.refl _) (nw_dq (.tup h1 ?_))
          show DqAll c ha G xs ([ds].flatten)
          rw [List.flatten_cons, List.flatten_nil, List.append_nil]
          exact h2
        · refine .inr (.inr (.inl ⟨a, k, xs, rfl, rfl, Evl.ex_t s h1, hne, by omega, k1, by rw [dqAll_len h2]; exact k2, fun p hp => ?_⟩))
          have m := Mv.new (o := .tup (List.replicate k.toNat xs).flatten) s hp
          exact fin _ _ _ m (same_new hp) (nw_dq (.tup (SqT.of upd_same) (dqAll_reps (dqAll_mono m.gg h2) _)))
  · rename_i ds k
    obtain ⟨z, rfl⟩ := if_get q
    obtain ⟨k0, k1, k2⟩ := cRep_get z
    cases dy
    cases dx with
    | lst h1 h2 =>
      refine .inr (.inl ⟨_, k, _, rfl, rfl, s _ _ h1, by omega, by omega, ?_, fun p hp => nw_new s hp (dqAll_reps h2 _) fin⟩)
      rw [dqAll_len h2, sizeLine_eq]
      have : ds.length * k.toNat ≤ 1000 * 1000 := Nat.mul_le_mul k2 (by omega)
      omega
theorem op_times : OpR X (binaryOp .Mult) (rTimes X.K) := op_mulW.or (op_rep.or (op_repT.or (Gn.op_rep1.or Wr.op_rep0)))
theorem dn_times (ha : PE X a (rd c W fa)) (hb : PE X b (rd c W fb)) (hK : X.K = c.K := by rfl) : PE X (.BinOp a .Mult b pos) (rn c W (eOn oTimes fa fb)) := pn_to (pe_op op_times ha hb) (by rw [hK]; exact rn_op d_times)
def oNeg : D → Option D
  | .int i => some (.int (-i))
  | _ => none
theorem dx_neg (ha : PE X a (rd c W fa)) : PE X (.UnaryOp .USub a pos) (rd c W (eUn oNeg fa)) := pe_to (pe_un un_neg ha) fun σ H Q x => by
  obtain ⟨ha, G0, B, G, δ, h, st, p⟩ := x
  refine ⟨ha, G0, B, G, δ, h, st, post_imp (post_bind p) fun x h1 G1 H1 af1 p1 v dv => ?_⟩
  obtain ⟨d, e, q⟩ := post_of p1
  cases dv with
  | int i => cases e; exact ⟨i, rfl, q _ _ (.refl af1.gh af1.hd) _ (.int _)⟩
  | _ => cases e
def eOpt (f : EF D) : EF (Option Int) := fun δ h => (f δ h).bind fun d h1 => match d with
  | .int i => .ok (some i) h1
  | _ => .bad
def eNo : EF (Option Int) := fun _ h => .ok none h
def ro (c : Cn) (W : WX) (f : EF (Option Int)) : TO := fun σ H Q => ∃ ha G0 B G δ h, Sta c ha G0 B G H σ δ h ∧ Post c ha W σ G H (f δ h) fun o _ _ H' => Q o H'
theorem po_to {o : Option Expr} {t : TO} {f : EF (Option Int)} (p : PO X o t) (i : ∀ σ H Q, ro c W f σ H Q → t σ H Q) : PO X o (ro c W f) := ⟨fun pins s σ H Q I h => p.run pins s σ H Q I (i σ H Q h)⟩
theorem do_no : PO X none (ro c W eNo) := po_to po_none fun σ H Q x => by
  obtain ⟨ha, G0, B, G, δ, h, st, p⟩ := x
  exact post_ok p st.gh st.hd
theorem do_e (p : PE X e (rd c W f)) : PO X (some e) (ro c W (eOpt f)) := po_to (po_some p) fun σ H Q x => by
  obtain ⟨ha, G0, B, G, δ, h, st, p⟩ := x
  refine ⟨ha, G0, B, G, δ, h, st, post_imp (post_bind p) fun d h1 G1 H1 af p1 v dv => ?_⟩
  cases dv with
  | int i => exact ⟨i, rfl, post_ok p1 af.gh af.hd⟩
  | _ => exact p1.elim
def cutD {α : Type} (xs : List α) (lo hi : Option Int) : List α := (xs.drop (HT.sIx xs.length 0 lo)).take (HT.sIx xs.length xs.length hi - HT.sIx xs.length 0 lo)
def slD (d : D) (lo hi : Option Int) : Option D := match d with
  | .tup ds => some (.tup (cutD ds lo hi))
  | .lst ds => some (.hl (cutD ds lo hi))
  | _ => none
def eSl (f : EF D) (lo hi : EF (Option Int)) : EF D := fun δ h => (f δ h).bind fun d h1 => (lo δ h1).bind fun l h2 => (hi δ h2).bind fun u h3 => Ex.of (slD d l u) h3
theorem dqAll_cut {ha : Option Addr} {G : Hp} {xs : List V} {ds : List D} {lo hi : Option Int} (h : DqAll c ha G xs ds) : DqAll c ha G (cutV xs lo hi) (cutD ds lo hi) := by
  unfold cutV cutD
  rw [dqAll_len h]
  exact dqAll_take _ (dqAll_drop _ h)
theorem dn_sl {lo hi : Option Expr} {gl gh : EF (Option Int)} {p2 : Pos} (he : PE X e (rd c W f)) (hl : PO X lo (ro c W gl)) (hh : PO X hi (ro c W gh)) (hK : X.K = c.K := by rfl) : PE X (.Subscript e (.Slice lo hi none p2) pos) (rn c W (eSl f gl gh)) := pn_to (pe_slice (sl_tupA.or sl_list) he hl hh) fun σ H Q x => by
  obtain ⟨ha, G0, B, G, δ, h, st, p⟩ := x
  refine ⟨ha, G0, B, G, δ, h, st, post_imp (post_bind p) fun x h1 G1 H1 af1 p1 v dv => ?_⟩
  refine ⟨ha, G0, B, G1, δ, h1, st.to af1, post_imp (post_bind p1) fun l h2 G2 H2 af2 p2 => ?_⟩
  refine ⟨ha, G0, B, G2, δ, h2, (st.to af1).to af2, post_imp (post_bind p2) fun u h3 G3 H3 af3 p3 => ?_⟩
  obtain ⟨d, e, q⟩ := post_of p3
  have dv3 := dq_mono (af2.gg.trans af3.gg) dv
  have a03 := (af1.trans af2).trans af3
  rw [hK]
  cases dv3 with
  | tup k1 k2 =>
    rename_i a xs ds
    cases e
    refine .inl ⟨a, xs, rfl, Evl.ex_t af3.gh k1, fun w => ?_, fun _ p hp => ?_⟩
    · refine q _ _ (.refl af3.gh af3.hd) _ (nw_dq (.tup k1 ?_))
      have z : cutD ds l u = ds := by
        unfold cutD
        rw [← dqAll_len k2, w.1, w.2, List.drop_zero, Nat.sub_zero, dqAll_len k2, List.take_length]
      rw [z]
      exact k2
    · have m := Mv.new (o := .tup (cutV xs l u)) af3.gh hp
      exact q _ _ (.of af3.gh af3.hd m (same_new hp)) _ (nw_dq (.tup (SqT.of upd_same) (dqAll_cut (dqAll_mono m.gg k2))))
  | lst k1 k2 =>
    rename_i a xs ds
    cases e
    refine .inr ⟨a, xs, rfl, SqL.of (af3.gh _ _ k1), fun p hp => ?_⟩
    exact q _ _ (.of af3.gh af3.hd (Mv.hid af3.gh hp) (same_new hp)) _ (nw_from a03 (nw_lst af3.gh hp (dqAll_cut k2)))
  | _ => cases e
def eAt (f : EF D) (n : Str) : EF D := fun δ h => (f δ h).bind fun d h1 => Ex.of (match d with
  | .ins _ fs => fs.lookup n
  | _ => none) h1
theorem dx_at {n : Str} (he : PE X e (rd c W f)) (hb : attributeBase e n X.env (eval e X.env) = eval e X.env := by rfl) (hK : X.K = c.K := by rfl) : PE X (.Attribute e n pos) (rd c W (eAt f n)) := pe_to (pe_fld he hb) fun σ H Q x => by
  obtain ⟨ha, G0, B, G, δ, h, st, p⟩ := x
  refine ⟨ha, G0, B, G, δ, h, st, post_imp (post_bind p) fun x h1 G1 H1 af1 p1 v dv => ?_⟩
  obtain ⟨d, e, q⟩ := post_of p1
  rw [hK]
  cases dv with
  | ins k1 k2 k3 k4 =>
    obtain ⟨na, w, k5, k6⟩ := dqF_look k4 e
    exact ⟨_, _, _, _, w, rfl, af1.gh _ _ k2, k3.cl, na, k5, q _ _ (.refl af1.gh af1.hd) _ k6⟩
  | _ => cases e
/-- an attribute of what slot i holds -/
def eAtV (i : Nat) (n : Str) : EF D := fun δ h => Ex.of (match δ[i]?, h with
  | some (some (.ins _ fs)), _ => fs.lookup n
  | some (some .me), .ins _ fs => fs.lookup n
  | _, _ => none) h
theorem dx_atV {i : Nat} {x n : Str} {p : Pos} (hN : X.N[i]? = some x) (hv : Vis X.env.scope x) (hd : (x == ("__debug__" : Str)) = false := by decide) (hcd : (x == ("__classdict__" : Str)) = false := by decide) (hb : attributeBase (.Name x p) n X.env (eval (.Name x p) X.env) = eval (.Name x p) X.env := by rfl) (hK : X.K = c.K := by rfl) : PE X (.Attribute (.Name x p) n pos) (rd c W (eAtV i n)) := pe_to (pe_fld (pe_var hN hv hd hcd) hb) fun σ H Q x => by
  obtain ⟨ha, G0, B, G, δ, h, st, p⟩ := x
  obtain ⟨d, e, q⟩ := post_of p
  rw [hK]
  obtain ⟨fp, o, n, k⟩ := st.sl
  split at e
  · rename_i e1
    obtain ⟨v, f1, f, f2, h1, _, h3, _⟩ := ownS_slot o e1 rfl
    refine ⟨v, h1, ?_⟩
    cases (own_fr h3 rfl).1 with
    | ins k1 k2 k3 k4 =>
      obtain ⟨na, w, k5, k6⟩ := dqF_look k4 e
      exact ⟨_, _, _, _, w, rfl, st.gh _ _ k2, k3.cl, na, k5, q _ _ st.here _ k6⟩
  · rename_i e1
    obtain ⟨a, h1, h2⟩ := ownS_me o e1
    refine ⟨_, h1, ?_⟩
    cases id st.hd with
    | self e2 _ k0 k3 k2 k4 =>
      rw [h2] at e2
      cases e2
      obtain ⟨na, w, k5, k6⟩ := dqF_look k4 e
      exact ⟨_, _, _, _, w, rfl, k2, k3.cl, na, k5, q _ _ st.here _ k6⟩
  · cases e
def CaD (c : Cn) (r : List V → Hp → VK → Prop) (f : List D → Option D) : Prop := ∀ {ha : Option Addr} {G H : Hp} {ds : List D} {d : D} {vs : List V} {Q : VK}, Same G H → DqAll c ha G vs ds → f ds = some d → (∀ u G' H', Mv G H G' H' → Same H H' → Dq c ha G' u d → Q u H') → r vs H Q
def CaN (c : Cn) (r : List V → Hp → VK → Prop) (f : List D → Option D) : Prop := ∀ {ha : Option Addr} {G H : Hp} {ds : List D} {d : D} {vs : List V} {Q : VK}, Same G H → DqAll c ha G vs ds → f ds = some d → (∀ u G' H', Mv G H G' H' → Same H H' → Nw c ha H G' H' u d → Q u H') → r vs H Q
def eBi (k : List D → Option D) (fs : EF (List D)) : EF D := fun δ h => (fs δ h).bind fun ds h1 => Ex.of (k ds) h1
theorem rd_bi {r : List V → Hp → VK → Prop} {k : List D → Option D} (hr : CaD c r k) (σ : L2.St) (H : Hp) (Q : VK) (x : rd c W (eBi k fs) σ H Q) : tCB r (ra c W fs) σ H Q := by
  obtain ⟨ha, G0, B, G, δ, h, st, p⟩ := x
  refine ⟨ha, G0, B, G, δ, h, st, post_imp (post_bind p) fun ds h1 G1 H1 af1 p1 vs dvs => ?_⟩
  obtain ⟨d, e, q⟩ := post_of p1
  exact hr af1.gh dvs e fun u G' H' m s du => q G' H' (.of af1.gh af1.hd m s) u du
theorem rn_bi {r : List V → Hp → VK → Prop} {k : List D → Option D} (hr : CaN c r k) (σ : L2.St) (H : Hp) (Q : VK) (x : rn c W (eBi k fs) σ H Q) : tCB r (ra c W fs) σ H Q := by
  obtain ⟨ha, G0, B, G, δ, h, st, p⟩ := x
  refine ⟨ha, G0, B, G, δ, h, st, post_imp (post_bind p) fun ds h1 G1 H1 af1 p1 vs dvs => ?_⟩
  obtain ⟨d, e, q⟩ := post_of p1
  exact hr af1.gh dvs e fun u G' H' m s du => q G' H' (.of af1.gh af1.hd m s) u (nw_from af1 du)
theorem dx_bi {x : Str} {id : String} {p : Pos} {r : List V → Hp → VK → Prop} {k : List D → Option D} (hc : CallR X (.builtin id) r) (hr : CaD c r k) (hg : Gl X x) (hm : X.mg x = none) (hv : bootBuiltins x = some (.builtin id)) (ha : PA X (e :: es) (ra c W fs)) (hn : x ≠ "__name__" := by decide) (hdb : (x == ("__debug__" : Str)) = false := by decide)
    (he : starEach (e :: es) X.env = (false, eval e X.env) :: starEach es X.env := by rfl) (hpl : (backTo pos (starEach es X.env)).any (·.1) = false := by rfl) : PE X (.Call (.Name x p) (e :: es) [] pos) (rd c W (eBi k fs)) := pe_to (pe_callB hc hg hm hv ha hn hdb he hpl) (rd_bi hr)
theorem dx_ty {x : Str} {T : String} {p : Pos} {r : List V → Hp → VK → Prop} {k : List D → Option D} (hc : CallR X (.type T) r) (hr : CaD c r k) (hg : Gl X x) (hm : X.mg x = none) (hv : bootBuiltins x = some (.type T)) (ha : PA X (e :: es) (ra c W fs)) (hn : x ≠ "__name__" := by decide) (hdb : (x == ("__debug__" : Str)) = false := by decide)
    (he : starEach (e :: es) X.env = (false, eval e X.env) :: starEach es X.env := by rfl) (hpl : (backTo pos (starEach es X.env)).any (·.1) = false := by rfl) : PE X (.Call (.Name x p) (e :: es) [] pos) (rd c W (eBi k fs)) := pe_to (pe_callTy hc hg hm hv ha hn hdb he hpl) (rd_bi hr)
theorem dn_ty {x : Str} {T : String} {p : Pos} {r : List V → Hp → VK → Prop} {k : List D → Option D} (hc : CallR X (.type T) r) (hr : CaN c r k) (hg : Gl X x) (hm : X.mg x = none) (hv : bootBuiltins x = some (.type T)) (ha : PA X (e :: es) (ra c W fs)) (hn : x ≠ "__name__" := by decide) (hdb : (x == ("__debug__" : Str)) = false := by decide)
    (he : starEach (e :: es) X.env = (false, eval e X.env) :: starEach es X.env := by rfl) (hpl : (backTo pos (starEach es X.env)).any (·.1) = false := by rfl) : PE X (.Call (.Name x p) (e :: es) [] pos) (rn c W (eBi k fs)) := pn_to (pe_callTy hc hg hm hv ha hn hdb he hpl) (rn_bi hr)
theorem dx_fun {x : Str} {id : String} {p : Pos} {r : List V → Hp → VK → Prop} {k : List D → Option D} (hc : CallR X (.builtin id) r) (hr : CaD c r k) (hg : Gl X x) (hm : X.mg x = some (.builtin id)) (ha : PA X (e :: es) (ra c W fs)) (hdb : (x == ("__debug__" : Str)) = false := by decide)
    (he : starEach (e :: es) X.env = (false, eval e X.env) :: starEach es X.env := by rfl) (hpl : (backTo pos (starEach es X.env)).any (·.1) = false := by rfl) : PE X (.Call (.Name x p) (e :: es) [] pos) (rd c W (eBi k fs)) := pe_to (pe_callBfun hc hg hm ha hdb he hpl) (rd_bi hr)
def kLen : List D → Option D
  | [.tup ds] => some (.int ds.length)
  | [.lst ds] => some (.int ds.length)
  | _ => none
theorem one_of {ha : Option Addr} {G : Hp} {vs : List V} {d : D} (h : DqAll c ha G vs [d]) : ∃ v, vs = [v] ∧ Dq c ha G v d := by
  cases h with
  | cons h t => cases t; exact ⟨_, rfl, h⟩
theorem two_of {ha : Option Addr} {G : Hp} {vs : List V} {d1 d2 : D} (h : DqAll c ha G vs [d1, d2]) : ∃ v w, vs = [v, w] ∧ Dq c ha G v d1 ∧ Dq c ha G w d2 := by
  cases h with
  | cons h t =>
    obtain ⟨w, rfl, hw⟩ := one_of t
    exact ⟨_, w, rfl, h, hw⟩
theorem k_len : CaD c (fun xs H Q => ∃ p ys, xs = [.ref p] ∧ (SqL c.K H p ys ∨ SqT c.K H p ys) ∧ Q (.int ys.length) H) kLen := by
  intro ha G H ds d vs Q s dv e fin
  unfold kLen at e
  split at e <;> cases e
  · obtain ⟨v, rfl, dv1⟩ := one_of dv
    cases dv1 with
    | tup h1 h2 => exact ⟨_, _, rfl, .inr (Evl.ex_t s h1), by rw [dqAll_len h2]; exact fin _ G H (Mv.refl s) (Same.refl _) (.int _)⟩
  · obtain ⟨v, rfl, dv1⟩ := one_of dv
    cases dv1 with
    | lst h1 h2 => exact ⟨_, _, rfl, .inl (SqL.of (s _ _ h1)), by rw [dqAll_len h2]; exact fin _ G H (Mv.refl s) (Same.refl _) (.int _)⟩
theorem c_len (hK : X.K = c.K) : CallR X (.builtin "len") (fun xs H Q => ∃ p ys, xs = [.ref p] ∧ (SqL c.K H p ys ∨ SqT c.K H p ys) ∧ Q (.int ys.length) H) := by rw [← hK]; exact call_len_seq
def kInt : List D → Option D
  | [.int i] => some (.int i)
  | [.bl b] => some (.int (if b then 1 else 0))
  | _ => none
theorem k_int : CaD c (fun xs H Q => (∃ i, xs = [.int i] ∧ Q (.int i) H) ∨ ∃ k, xs = [.bl k] ∧ Q (.int (if k then 1 else 0)) H) kInt := by
  intro ha G H ds d vs Q s dv e fin
  unfold kInt at e
  split at e <;> cases e
  · obtain ⟨v, rfl, dv1⟩ := one_of dv
    cases dv1
    exact .inl ⟨_, rfl, fin _ G H (Mv.refl s) (Same.refl _) (.int _)⟩
  · obtain ⟨v, rfl, dv1⟩ := one_of dv
    cases dv1
    exact .inr ⟨_, rfl, fin _ G H (Mv.refl s) (Same.refl _) (.int _)⟩
def kAbs : List D → Option D
  | [.int i] => some (.int (if i < 0 then -i else i))
  | _ => none
theorem k_abs : CaD c (fun xs H Q => ∃ i, xs = [.int i] ∧ Q (.int (if i < 0 then -i else i)) H) kAbs := by
  intro ha G H ds d vs Q s dv e fin
  unfold kAbs at e
  split at e <;> cases e
  obtain ⟨v, rfl, dv1⟩ := one_of dv
  cases dv1
  exact ⟨_, rfl, fin _ G H (Mv.refl s) (Same.refl _) (.int _)⟩
def kMax2 : List D → Option D
  | [.int i, .int j] => some (.int (if j > i then j else i))
  | _ => none
def kMin2 : List D → Option D
  | [.int i, .int j] => some (.int (if j < i then j else i))
  | _ => none
theorem k_max2 : CaD c (fun xs H Q => ∃ i j, xs = [.int i, .int j] ∧ Q (.int (if j > i then j else i)) H) kMax2 := by
  intro ha G H ds d vs Q s dv e fin
  unfold kMax2 at e
  split at e <;> cases e
  obtain ⟨v, w, rfl, dv1, dw⟩ := two_of dv
  cases dv1
  cases dw
  exact ⟨_, _, rfl, fin _ G H (Mv.refl s) (Same.refl _) (.int _)⟩
theorem k_min2 : CaD c (fun xs H Q => ∃ i j, xs = [.int i, .int j] ∧ Q (.int (if j < i then j else i)) H) kMin2 := by
  intro ha G H ds d vs Q s dv e fin
  unfold kMin2 at e
  split at e <;> cases e
  obtain ⟨v, w, rfl, dv1, dw⟩ := two_of dv
  cases dv1
  cases dw
  exact ⟨_, _, rfl, fin _ G H (Mv.refl s) (Same.refl _) (.int _)⟩
def kGcd : List D → Option D
  | [.int i, .int j] => some (.int ((Nat.gcd i.natAbs j.natAbs : Nat) : Int))
  | _ => none
theorem k_gcd : CaD c rGcd kGcd := by
  intro ha G H ds d vs Q s dv e fin
  unfold kGcd at e
  split at e <;> cases e
  obtain ⟨v, w, rfl, dv1, dw⟩ := two_of dv
  cases dv1
  cases dw
  exact ⟨_, _, rfl, fin _ G H (Mv.refl s) (Same.refl _) (.int _)⟩
def kTup : List D → Option D
  | [.tup ds] => some (.tup ds)
  | [.lst ds] => some (.tup ds)
  | _ => none
theorem k_tup : CaD c (fun xs H Q => ∃ p ys, xs = [.ref p] ∧ ((SqL c.K H p ys ∧ ∀ l, H l = none → Q (.ref l) (upd H l (.tup ys))) ∨ (SqT c.K H p ys ∧ Q (.ref p) H))) kTup := by
  intro ha G H ds d vs Q s dv e fin
  unfold kTup at e
  split at e <;> cases e
  · obtain ⟨v, rfl, dv1⟩ := one_of dv
    cases dv1 with
    | tup h1 h2 => exact ⟨_, _, rfl, .inr ⟨Evl.ex_t s h1, fin _ G H (Mv.refl s) (Same.refl _) (.tup h1 h2)⟩⟩
  · obtain ⟨v, rfl, dv1⟩ := one_of dv
    cases dv1 with
    | lst h1 h2 =>
      refine ⟨_, _, rfl, .inl ⟨SqL.of (s _ _ h1), fun l hl => ?_⟩⟩
      exact fin _ _ _ (Mv.new s hl) (same_new hl) (.tup (SqT.of upd_same) (dqAll_mono (Mv.new s hl).gg h2))
theorem c_tup (hK : X.K = c.K) : CallR X (.type "tuple") (fun xs H Q => ∃ p ys, xs = [.ref p] ∧ ((SqL c.K H p ys ∧ ∀ l, H l = none → Q (.ref l) (upd H l (.tup ys))) ∨ (SqT c.K H p ys ∧ Q (.ref p) H))) := by rw [← hK]; exact call_tuple_of
def kList : List D → Option D
  | [.tup ds] => some (.hl ds)
  | [.lst ds] => some (.hl ds)
  | _ => none
theorem k_list : CaN c (fun xs H Q => ∃ p ys, xs = [.ref p] ∧ (SqL c.K H p ys ∨ SqT c.K H p ys) ∧ ∀ l, H l = none → Q (.ref l) (upd H l (.lst ys))) kList := by
  intro ha G H ds d vs Q s dv e fin
  unfold kList at e
  split at e <;> cases e
  · obtain ⟨v, rfl, dv1⟩ := one_of dv
    cases dv1 with
    | tup h1 h2 => exact ⟨_, _, rfl, .inr (Evl.ex_t s h1), fun l hl => nw_new s hl h2 fin⟩
  · obtain ⟨v, rfl, dv1⟩ := one_of dv
    cases dv1 with
    | lst h1 h2 => exact ⟨_, _, rfl, .inl (SqL.of (s _ _ h1)), fun l hl => nw_new s hl h2 fin⟩
theorem c_list (hK : X.K = c.K) : CallR X (.type "list") (fun xs H Q => ∃ p ys, xs = [.ref p] ∧ (SqL c.K H p ys ∨ SqT c.K H p ys) ∧ ∀ l, H l = none → Q (.ref l) (upd H l (.lst ys))) := by rw [← hK]; exact call_list_of
/-- ints in a row -/
def intL : List D → Option (List Int)
  | [] => some []
  | .int i :: ds => (intL ds).map (i :: ·)
  | _ => none
theorem ints_get : ∀ {ds : List D} {ns : List Int} {ha : Option Addr} {G : Hp} {vs : List V}, intL ds = some ns → DqAll c ha G vs ds → vs = ns.map V.int
  | [], ns, _, _, _, e, h => by cases e; cases h; rfl
  | d :: ds, ns, _, _, _, e, h => by
    cases h with
    | cons h t =>
      cases h with
      | int i =>
        unfold intL at e
        cases q : intL ds with
        | none => rw [q] at e; cases e
        | some ms =>
          rw [q] at e
          cases e
          rw [ints_get q t]
          rfl
      | _ => cases e
def kSum : List D → Option D
  | [.lst ds] => (intL ds).map fun ns => .int ns.sum
  | _ => none
theorem k_sum : CaD c (rSum c.K) kSum := by
  intro ha G H ds d vs Q s dv e fin
  unfold kSum at e
  split at e
  · rename_i ds
    obtain ⟨v, rfl, dv1⟩ := one_of dv
    cases dv1 with
    | lst h1 h2 =>
      cases q : intL ds with
      | none => rw [q] at e; cases e
      | some ns =>
        rw [q] at e
        cases e
        have z := ints_get q h2
        subst z
        exact ⟨_, ns, rfl, SqL.of (s _ _ h1), fin _ G H (Mv.refl s) (Same.refl _) (.int _)⟩
  · cases e
def bls : List D → Option (List Bool)
  | [] => some []
  | .bl i :: ds => (bls ds).map (i :: ·)
  | _ => none
theorem bls_get : ∀ {ds : List D} {ns : List Bool} {ha : Option Addr} {G : Hp} {vs : List V}, bls ds = some ns → DqAll c ha G vs ds → vs = ns.map V.bl
  | [], ns, _, _, _, e, h => by cases e; cases h; rfl
  | d :: ds, ns, _, _, _, e, h => by
    cases h with
    | cons h t =>
      cases h with
      | bl i =>
        unfold bls at e
        cases q : bls ds with
        | none => rw [q] at e; cases e
        | some ms =>
          rw [q] at e
          cases e
          rw [bls_get q t]
          rfl
      | _ => cases e
def kAll : List D → Option D
  | [.lst ds] => (bls ds).map fun ns => .bl (ns.all id)
  | _ => none
def kAny : List D → Option D
  | [.lst ds] => (bls ds).map fun ns => .bl (ns.any id)
  | _ => none
theorem k_all : CaD c (rAll c.K) kAll := by
  intro ha G H ds d vs Q s dv e fin
  unfold kAll at e
  split at e
  · rename_i ds
    obtain ⟨v, rfl, dv1⟩ := one_of dv
    cases dv1 with
    | lst h1 h2 =>
      cases q : bls ds with
      | none => rw [q] at e; cases e
      | some ns =>
        rw [q] at e
        cases e
        have z := bls_get q h2
        subst z
        exact ⟨_, ns, rfl, SqL.of (s _ _ h1), fin _ G H (Mv.refl s) (Same.refl _) (.bl _)⟩
  · cases e
theorem k_any : CaD c (rAny c.K) kAny := by
  intro ha G H ds d vs Q s dv e fin
  unfold kAny at e
  split at e
  · rename_i ds
    obtain ⟨v, rfl, dv1⟩ := one_of dv
    cases dv1 with
    | lst h1 h2 =>
      cases q : bls ds with
      | none => rw [q] at e; cases e
      | some ns =>
        rw [q] at e
        cases e
        have z := bls_get q h2
        subst z
        exact ⟨_, ns, rfl, SqL.of (s _ _ h1), fin _ G H (Mv.refl s) (Same.refl _) (.bl _)⟩
  · cases e
theorem c_sum (hc : X.calm = true) (hK : X.K = c.K) : CallR X (.builtin "sum") (rSum c.K) := by rw [← hK]; exact cr_sum hc
theorem c_all (hc : X.calm = true) (hK : X.K = c.K) : CallR X (.builtin "all") (rAll c.K) := by rw [← hK]; exact cr_all hc
theorem c_any (hc : X.calm = true) (hK : X.K = c.K) : CallR X (.builtin "any") (rAny c.K) := by rw [← hK]; exact cr_any hc
end
end Fw
set_option maxHeartbeats 2000000
namespace Fw
open PySem PySem.Spec PyProof.Rows L2 Dz Vz
section
variable {X : Cx} {W : WX} {c : Cn} {e a b e2 : Expr} {es : List Expr} {pos : Pos} {ta tb te : TE} {t : TT} {f fa fb fc : EF D} {g ga gb : EF Bool} {fs : EF (List D)}
def flD : D → Option V
  | .non => some .non
  | .bl b => some (.bl b)
  | .int i => some (.int i)
  | .str x => some (.str x)
  | _ => none
def flL : List D → Option (List V)
  | [] => some []
  | d :: ds => match flD d, flL ds with
    | some v, some vs => some (v :: vs)
    | _, _ => none
theorem flD_get {ha : Option Addr} {G : Hp} {v w : V} {d : D} (h : Dq c ha G v d) (e : flD d = some w) : v = w ∧ flatV w = true := by
  cases h <;> first | (cases e; exact ⟨rfl, rfl⟩) | cases e
theorem flL_get {ha : Option Addr} {G : Hp} : ∀ {vs ws : List V} {ds : List D}, DqAll c ha G vs ds → flL ds = some ws → vs = ws ∧ ws.all flatV = true
  | _, _, _, .nil, e => by cases e; exact ⟨rfl, rfl⟩
  | _, _, d :: ds, .cons h t, e => by
    unfold flL at e
    cases q1 : flD d with
    | none => rw [q1] at e; cases e
    | some w =>
      cases q2 : flL ds with
      | none => rw [q1, q2] at e; cases e
      | some ws =>
        rw [q1, q2] at e
        cases e
        obtain ⟨rfl, f1⟩ := flD_get h q1
        obtain ⟨rfl, f2⟩ := flL_get t q2
        exact ⟨rfl, by rw [List.all_cons, f1, f2]; rfl⟩
def inD (x y : D) : Option Bool := match flD x, (match y with | .tup ds => flL ds | .lst ds => flL ds | _ => none) with
  | some v, some vs => some (inV v vs)
  | _, _ => none
def oIn (x y : D) : Option D := (inD x y).map .bl
def oNin (x y : D) : Option D := (inD x y).map fun b => .bl (!b)
theorem in_get {ha : Option Addr} {G H : Hp} {x y : D} {v w : V} {k : Bool} (s : Same G H) (dx : Dq c ha G v x) (dy : Dq c ha G w y) (e : inD x y = some k) : ∃ p xs, w = .ref p ∧ (SqL c.K H p xs ∨ SqT c.K H p xs) ∧ flatV v = true ∧ xs.all flatV = true ∧ inV v xs = k := by
  unfold inD at e
  cases q1 : flD x with
  | none => rw [q1] at e; cases e
  | some u =>
    obtain ⟨rfl, f1⟩ := flD_get dx q1
    rw [q1] at e
    cases dy with
    | tup h1 h2 =>
      rename_i ds
      cases q2 : flL ds with
      | none => simp only [q2] at e; cases e
      | some us =>
        simp only [q2] at e
        cases e
        obtain ⟨rfl, f2⟩ := flL_get h2 q2
        exact ⟨_, _, rfl, .inr (Evl.ex_t s h1), f1, f2, rfl⟩
    | lst h1 h2 =>
      rename_i ds
      cases q2 : flL ds with
      | none => simp only [q2] at e; cases e
      | some us =>
        simp only [q2] at e
        cases e
        obtain ⟨rfl, f2⟩ := flL_get h2 q2
        exact ⟨_, _, rfl, .inl (SqL.of (s _ _ h1)), f1, f2, rfl⟩
    | _ => cases e
theorem d_in : OpD c (rIn c.K false) oIn := by
  intro ha G H x y d v w Q s dx dy q fin
  unfold oIn at q
  cases e : inD x y with
  | none => rw [e] at q; cases q
  | some k =>
    rw [e] at q
    cases q
    obtain ⟨p, xs, h1, h2, h3, h4, h5⟩ := in_get s dx dy e
    refine ⟨p, xs, h1, h2, h3, h4, ?_⟩
    show Q (.bl (inV v xs)) H
    rw [h5]
    exact fin _ G H (Mv.refl s) (Same.refl _) (.bl _)
theorem d_nin : OpD c (rIn c.K true) oNin := by
  intro ha G H x y d v w Q s dx dy q fin
  unfold oNin at q
  cases e : inD x y with
  | none => rw [e] at q; cases q
  | some k =>
    rw [e] at q
    cases q
    obtain ⟨p, xs, h1, h2, h3, h4, h5⟩ := in_get s dx dy e
    refine ⟨p, xs, h1, h2, h3, h4, ?_⟩
    show Q (.bl (!inV v xs)) H
    rw [h5]
    exact fin _ G H (Mv.refl s) (Same.refl _) (.bl _)
theorem c_in (hK : X.K = c.K) : OpR X (compareOp .In) (rIn c.K false) := by rw [← hK]; exact op_in_seq
theorem c_nin (hK : X.K = c.K) : OpR X (compareOp .NotIn) (rIn c.K true) := by rw [← hK]; exact op_notIn_seq
theorem c_eqD (hu : X.A.units + 64 < cLine) (hK : X.K = c.K) : OpR X (compareOp .Eq) (rEqD c.K) := by rw [← hK]; exact op_eqD hu
theorem c_neD (hu : X.A.units + 64 < cLine) (hK : X.K = c.K) : OpR X (compareOp .NotEq) (rNeD c.K) := by rw [← hK]; exact op_neD hu
def tyS : D → Option String
  | .non => some "NoneType"
  | .bl _ => some "bool"
  | .int _ => some "int"
  | .str _ => some "str"
  | .lst _ => some "list"
  | .tup _ => some "tuple"
  | _ => none
def isS (n : String) (d : D) : Option Bool := match d with
  | .ins _ _ => some false
  | _ => (tyS d).map fun t => isaB t n
theorem kit_bS {K : PySem.W.Frag} {t n : String} (ht : t ∈ (["NoneType", "bool", "int", "str", "list", "tuple"] : List String)) (hn : n ∈ (["int", "bool", "str", "list", "tuple", "dict"] : List String)) : PySem.W.kitOne K (.type t) (.type n) = some (isaB t n) := by
  simp only [List.mem_cons, List.not_mem_nil, or_false] at ht hn
  rcases ht with rfl | rfl | rfl | rfl | rfl | rfl <;> rcases hn with rfl | rfl | rfl | rfl | rfl | rfl <;> kernel_rfl
theorem ty_dq {ha : Option Addr} {G H : Hp} {v : V} {d : D} {t : String} (s : Same G H) (h : Dq c ha G v d) (e : tyS d = some t) : TyX c.K H v (.type t) ∧ t ∈ (["NoneType", "bool", "int", "str", "list", "tuple"] : List String) := by
  cases h with
  | non => cases e; exact ⟨.base .non, by simp⟩
  | bl b => cases e; exact ⟨.base (.bl b), by simp⟩
  | int i => cases e; exact ⟨.base (.int i), by simp⟩
  | str x => cases e; exact ⟨.base (.str x), by simp⟩
  | lst h1 _ => cases e; exact ⟨.base (.lst (s _ _ h1)), by simp⟩
  | tup h1 _ =>
    cases e
    refine ⟨?_, by simp⟩
    rcases Evl.ex_t s h1 with (hs | ⟨o, hs⟩) | ⟨o, its, n, hk, hc, _⟩
    · exact .base (.tup hs)
    · exact .fTuple hs
    · exact .kTuple hk hc
  | ins _ _ _ _ => cases e
/-- what is asked of object.__class__ -/
structure GtK (K : PySem.W.Frag) : Prop where
  hn : PySem.W.specialIn K (.builtin "object.__class__") "__get__" = some (some (.builtin "getset_descriptor.__get__"))
  ht : PySem.W.takesIn K (.builtin "object.__class__") = some true
theorem is_ty {ha : Option Addr} {G H : Hp} {v : V} {d : D} {n0 : String} {k0 : Bool} (gt : GtK c.K) (s : Same G H) (h : Dq c ha G v d) (e0 : isS n0 d = some k0) : ∃ t, TyX c.K H v t ∧ ∀ n k, n ∈ (["int", "bool", "str", "list", "tuple", "dict"] : List String) → isS n d = some k → PySem.W.kitOne c.K t (.type n) = some k := by
  cases h with
  | ins k1 k2 k3 k4 => exact ⟨_, .base (.ins (s _ _ k2) k3.cl k3.ca gt.hn gt.ht k3.mo), fun n k hn e => by cases e; exact k3.nb n hn⟩
  | non => exact ⟨_, (ty_dq s (.non : Dq c ha G .non .non) rfl).1, fun n k hn e => by cases e; exact kit_bS (by simp) hn⟩
  | bl b => exact ⟨_, (ty_dq s (.bl b : Dq c ha G _ _) rfl).1, fun n k hn e => by cases e; exact kit_bS (by simp) hn⟩
  | int b => exact ⟨_, (ty_dq s (.int b : Dq c ha G _ _) rfl).1, fun n k hn e => by cases e; exact kit_bS (by simp) hn⟩
  | str b => exact ⟨_, (ty_dq s (.str b : Dq c ha G _ _) rfl).1, fun n k hn e => by cases e; exact kit_bS (by simp) hn⟩
  | lst h1 h2 => exact ⟨_, (ty_dq s (.lst h1 h2 : Dq c ha G _ _) rfl).1, fun n k hn e => by cases e; exact kit_bS (by simp) hn⟩
  | tup h1 h2 => exact ⟨_, (ty_dq s (.tup h1 h2 : Dq c ha G _ _) rfl).1, fun n k hn e => by cases e; exact kit_bS (by simp) hn⟩
def eIs (n : String) (f : EF D) : EF D := fun δ h => (f δ h).bind fun d h1 => Ex.of ((isS n d).map .bl) h1
theorem map_get {α β : Type} {o : Option α} {g : α → β} {y : β} (h : o.map g = some y) : ∃ x, o = some x ∧ g x = y := by
  cases o with
  | none => cases h
  | some x => exact ⟨x, rfl, Option.some.inj h⟩
theorem dx_is {n : String} {p : Pos} (gt : GtK c.K) (hn : n ∈ (["int", "bool", "str", "list", "tuple", "dict"] : List String)) (hg : Gl X "isinstance") (hm : X.mg "isinstance" = none) (ha : PE X a (rd c W f)) (hb : PE X b (tC (.ty n))) (hK : X.K = c.K := by rfl)
    (s1 : starEach (a :: [b]) X.env = (false, eval a X.env) :: starEach [b] X.env := by rfl) (s2 : starEach (b :: []) X.env = (false, eval b X.env) :: starEach [] X.env := by rfl) (hpl : (backTo pos (starEach [b] X.env)).any (·.1) = false := by rfl) : PE X (.Call (.Name "isinstance" p) [a, b] [] pos) (rd c W (eIs n f)) :=
  pe_to (pe_callB call_isi hg hm PyProof.Rows.boot_isinstance (pa_cons ha (pa_cons hb pa_nil s2) s1) (by decide) (by decide) s1 hpl) fun σ H Q x => by
    obtain ⟨ha, G0, B, G, δ, h, st, p⟩ := x
    refine ⟨ha, G0, B, G, δ, h, st, post_imp (post_bind p) fun d h1 G1 H1 af p1 v dv => ?_⟩
    obtain ⟨y, e, q⟩ := post_of p1
    obtain ⟨k, e1, rfl⟩ := map_get e
    obtain ⟨t, t1, t2⟩ := is_ty gt af.gh dv e1
    rw [hK]
    exact ⟨v, .ty n, t, .type n, k, rfl, .ty n, t1, t2 n k hn e1, q _ _ (.refl af.gh af.hd) _ (.bl k)⟩
def eIs2 (n m : String) (f : EF D) : EF D := fun δ h => (f δ h).bind fun d h1 => Ex.of (match isS n d, isS m d with
  | some k, some l => some (.bl (k || l))
  | _, _ => none) h1
theorem kit_any2 {K : PySem.W.Frag} {t : Value} {n m : String} {k l : Bool} (h1 : PySem.W.kitOne K t (.type n) = some k) (h2 : PySem.W.kitOne K t (.type m) = some l) : PySem.W.kitAny K t [.type n, .type m] = some (k || l) := by
  unfold PySem.W.kitAny
  rw [h1]
  unfold PySem.W.kitAny
  rw [h2]
  cases k <;> cases l <;> rfl
theorem dx_is2 {n m : String} {p p2 : Pos} {k2 : Nat} {b1 b2 : Expr} (gt : GtK c.K) (hn : n ∈ (["int", "bool", "str", "list", "tuple", "dict"] : List String)) (hm' : m ∈ (["int", "bool", "str", "list", "tuple", "dict"] : List String)) (hg : Gl X "isinstance") (hm : X.mg "isinstance" = none) (ha : PE X a (rd c W f)) (hb1 : PE X b1 (tC (.ty n))) (hb2 : PE X b2 (tC (.ty m))) (hK : X.K = c.K := by rfl)
    (s1 : starEach (a :: [.Tuple [b1, b2] k2 p2]) X.env = (false, eval a X.env) :: starEach [.Tuple [b1, b2] k2 p2] X.env := by rfl) (s2 : starEach (.Tuple [b1, b2] k2 p2 :: []) X.env = (false, eval (.Tuple [b1, b2] k2 p2) X.env) :: starEach [] X.env := by rfl) (hpl : (backTo pos (starEach [.Tuple [b1, b2] k2 p2] X.env)).any (·.1) = false := by rfl)
    (s3 : starEach [b1, b2] X.env = (false, eval b1 X.env) :: starEach [b2] X.env := by rfl) (s4 : starEach [b2] X.env = (false, eval b2 X.env) :: starEach [] X.env := by rfl) : PE X (.Call (.Name "isinstance" p) [a, .Tuple [b1, b2] k2 p2] [] pos) (rd c W (eIs2 n m f)) :=
  pe_to (pe_callB call_isiT hg hm PyProof.Rows.boot_isinstance (pa_cons ha (pa_cons (pe_tup (pa_cons hb1 (pa_cons hb2 pa_nil s4) s3)) pa_nil s2) s1) (by decide) (by decide) s1 hpl) fun σ H Q x => by
    obtain ⟨ha, G0, B, G, δ, h, st, p⟩ := x
    refine ⟨ha, G0, B, G, δ, h, st, post_imp (post_bind p) fun d h1 G1 H1 af p1 v dv => ⟨by show 2 ≤ sizeLine; decide, fun t ht => ?_⟩⟩
    obtain ⟨y, e, q⟩ := post_of p1
    cases e1 : isS n d with
    | none => simp only [e1] at e; cases e
    | some k =>
      cases e2 : isS m d with
      | none => simp only [e1, e2] at e; cases e
      | some l =>
        simp only [e1, e2] at e
        cases e
        have mv := Mv.hid (o := .tup [.ty n, .ty m]) af.gh ht
        have af2 : Af c ha G1 H1 G1 (upd H1 t (.tup [.ty n, .ty m])) h1 := .of af.gh af.hd mv (same_new ht)
        obtain ⟨u, t1, t2⟩ := is_ty gt af2.gh dv e1
        rw [hK]
        exact ⟨v, t, _, u, _, _, rfl, upd_same, .cons (.ty n) (.cons (.ty m) .nil), t1, kit_any2 (t2 n k hn e1) (t2 m l hm' e2), q _ _ af2 _ (.bl _)⟩
structure WalkD (c : Cn) (ha : Option Addr) (G0 : Hp) (J : It) (ds : List D) : Prop where
  go : ∀ i G H, Same G0 G → Same G H → i < ds.length → J.go i H
  yld : ∀ i G H x H' d, Same G0 G → Same G H → ds[i]? = some d → J.yld i H x H' → ∃ G', Mv G H G' H' ∧ Same H H' ∧ Dq c ha G' x d
  stop : ∀ G H, Same G0 G → Same G H → J.stop ds.length H
def ri (c : Cn) (W : WX) (f : EF (List D)) : TI := fun σ H R => ∃ ha G0 B G δ h, Sta c ha G0 B G H σ δ h ∧ Post c ha W σ G H (f δ h) fun ds _ G' H' => ∀ J, WalkD c ha G' J ds → R J H'
theorem pi_to {tg it : Expr} {t : TI} (p : PI X tg it t) (i : ∀ σ H R, ri c W fs σ H R → t σ H R) : PI X tg it (ri c W fs) := ⟨fun pins s σ H R I h => p.run pins s σ H R I (i σ H R h)⟩
theorem wd_list {ha : Option Addr} {G : Hp} {a : Addr} {xs : List V} {ds : List D} (h1 : G a = some (.lst xs)) (h2 : DqAll c ha G xs ds) : WalkD c ha G (Itl c.K a) ds where
  go := fun i G' H s t hi => walk_list.goes i H (by rw [dqAll_len h2]; exact hi) (SqL.of (t _ _ (s _ _ h1)))
  yld := fun i G' H x H' d s t e y => by
    obtain ⟨rfl, hx⟩ := walk_list.yields i H x H' (by rw [dqAll_len h2]; exact (List.getElem?_eq_some_iff.mp e).1) (SqL.of (t _ _ (s _ _ h1))) y
    obtain ⟨x', e1, e2⟩ := dqAll_at h2 e
    rw [hx] at e1
    cases e1
    exact ⟨G', Mv.refl t, Same.refl _, dq_mono s e2⟩
  stop := fun G' H s t => ⟨xs, SqL.of (t _ _ (s _ _ h1)), by rw [dqAll_len h2]; exact Nat.le_refl _⟩
theorem wd_tup {ha : Option Addr} {G : Hp} {a : Addr} {xs : List V} {ds : List D} (h1 : SqT c.K G a xs) (h2 : DqAll c ha G xs ds) : WalkD c ha G (Itt c.K a) ds where
  go := fun i G' H s t hi => walk_tup.goes i H (by rw [dqAll_len h2]; exact hi) (Evl.ex_t t (Evl.ex_t s h1))
  yld := fun i G' H x H' d s t e y => by
    obtain ⟨rfl, hx⟩ := walk_tup.yields i H x H' (by rw [dqAll_len h2]; exact (List.getElem?_eq_some_iff.mp e).1) (Evl.ex_t t (Evl.ex_t s h1)) y
    obtain ⟨x', e1, e2⟩ := dqAll_at h2 e
    rw [hx] at e1
    cases e1
    exact ⟨G', Mv.refl t, Same.refl _, dq_mono s e2⟩
  stop := fun G' H s t => ⟨xs, Evl.ex_t t (Evl.ex_t s h1), by rw [dqAll_len h2]; exact Nat.le_refl _⟩
def itS : D → Option (List D)
  | .tup ds => some ds
  | .lst ds => some ds
  | _ => none
def iSeq (f : EF D) : EF (List D) := fun δ h => (f δ h).bind fun d h1 => Ex.of (itS d) h1
theorem di_seq {tg : Expr} (p : PE X e (rd c W f)) (hK : X.K = c.K := by rfl) : PI X tg e (ri c W (iSeq f)) := pi_to (pi_or (pi_list p) (pi_tup p)) fun σ H R x => by
  rw [hK]
  obtain ⟨ha, G0, B, G, δ, h, st, p⟩ := x
  unfold iSeq at p
  cases q : f δ h with
  | bad => rw [q] at p; exact p.elim
  | exc n fs h1 => rw [q] at p; exact .inl ⟨ha, G0, B, G, δ, h, st, by rw [q]; exact p⟩
  | ok d h1 =>
    rw [q] at p
    obtain ⟨ds, e, k⟩ := post_of p
    cases d <;> first | (cases e; done) | skip
    · cases e
      refine .inr ⟨ha, G0, B, G, δ, h, st, ?_⟩
      rw [q]
      intro G1 H1 af v dv
      cases dv with
      | tup h1 h2 => exact ⟨_, rfl, ⟨_, Evl.ex_t af.gh h1⟩, k G1 H1 af _ (wd_tup h1 h2)⟩
    · cases e
      refine .inl ⟨ha, G0, B, G, δ, h, st, ?_⟩
      rw [q]
      intro G1 H1 af v dv
      cases dv with
      | lst h1 h2 => exact ⟨_, rfl, ⟨_, SqL.of (af.gh _ _ h1)⟩, k G1 H1 af _ (wd_list h1 h2)⟩
/-- lo, lo + 1, .. -/
def rgD (lo : Int) (n : Nat) : List D := (List.range n).map fun (i : Nat) => D.int (lo + (i : Int))
theorem rgD_len {lo : Int} {n : Nat} : (rgD lo n).length = n := by unfold rgD; rw [List.length_map, List.length_range]
theorem rgD_at {lo : Int} {n i : Nat} {d : D} (e : (rgD lo n)[i]? = some d) : i < n ∧ d = .int (lo + (i : Int)) := by
  unfold rgD at e
  rw [List.getElem?_map] at e
  by_cases hi : i < n
  · rw [List.getElem?_range hi] at e
    cases e
    exact ⟨hi, rfl⟩
  · rw [List.getElem?_eq_none (by simpa using hi)] at e
    cases e
theorem wd_range {ha : Option Addr} {G : Hp} {lo : Int} {n : Nat} : WalkD c ha G (Itr lo n) (rgD lo n) where
  go := fun i G' H s t hi => by rw [rgD_len] at hi; exact hi
  yld := fun i G' H x H' d s t e y => by
    obtain ⟨rfl, rfl⟩ := y
    obtain ⟨hi, rfl⟩ := rgD_at e
    exact ⟨G', Mv.refl t, Same.refl _, .int _⟩
  stop := fun G' H s t => by rw [rgD_len]; exact Nat.le_refl _
def rgOk (i : Int) : Bool := decide (-1000000 ≤ i) && decide (i ≤ 1000000)
theorem rgOk_get {i : Int} (h : rgOk i = true) : -1000000 ≤ i ∧ i ≤ 1000000 := by
  unfold rgOk at h
  rw [Bool.and_eq_true, decide_eq_true_eq, decide_eq_true_eq] at h
  exact h
def rg1 : List D → Option (List D)
  | [.int j] => if rgOk j then some (rgD 0 j.toNat) else none
  | _ => none
def rg2 : List D → Option (List D)
  | [.int i, .int j] => if rgOk i && rgOk j then some (rgD i (j - i).toNat) else none
  | _ => none
def iRg (k : List D → Option (List D)) (fs : EF (List D)) : EF (List D) := fun δ h => (fs δ h).bind fun ds h1 => Ex.of (k ds) h1
theorem di_rg1 {tg : Expr} {p : Pos} (hg : Gl X "range") (hm : X.mg "range" = none) (ha : PA X [a] (ra c W fs)) (hs : starEach [a] X.env = [(false, eval a X.env)] := by rfl) : PI X tg (.Call (.Name "range" p) [a] [] pos) (ri c W (iRg rg1 fs)) := pi_to (pi_range1 hg hm ha hs) fun σ H R x => by
  obtain ⟨ha, G0, B, G, δ, h, st, p⟩ := x
  refine ⟨ha, G0, B, G, δ, h, st, post_imp (post_bind p) fun ds h1 G1 H1 af p1 vs dv => ?_⟩
  obtain ⟨is, e, k⟩ := post_of p1
  unfold rg1 at e
  split at e
  · obtain ⟨z, rfl⟩ := if_get e
    obtain ⟨v, rfl, dv1⟩ := one_of dv
    obtain ⟨z1, z2⟩ := rgOk_get z
    cases dv1
    exact ⟨_, rfl, by omega, by omega, k _ _ (.refl af.gh af.hd) _ wd_range⟩
  · cases e
theorem di_rg2 {tg : Expr} {p : Pos} (hg : Gl X "range") (hm : X.mg "range" = none) (ha : PA X [a, b] (ra c W fs)) (hs : starEach [a, b] X.env = [(false, eval a X.env), (false, eval b X.env)] := by rfl) (hs2 : starEach [b] X.env = [(false, eval b X.env)] := by rfl) : PI X tg (.Call (.Name "range" p) [a, b] [] pos) (ri c W (iRg rg2 fs)) := pi_to (pi_range2 hg hm ha hs hs2) fun σ H R x => by
  obtain ⟨ha, G0, B, G, δ, h, st, p⟩ := x
  refine ⟨ha, G0, B, G, δ, h, st, post_imp (post_bind p) fun ds h1 G1 H1 af p1 vs dv => ?_⟩
  obtain ⟨is, e, k⟩ := post_of p1
  unfold rg2 at e
  split at e
  · obtain ⟨z, rfl⟩ := if_get e
    rw [Bool.and_eq_true] at z
    obtain ⟨v, w, rfl, dv1, dw⟩ := two_of dv
    obtain ⟨z1, z2⟩ := rgOk_get z.1
    obtain ⟨z3, z4⟩ := rgOk_get z.2
    cases dv1
    cases dw
    exact ⟨_, _, rfl, ⟨by omega, by omega, by omega, by omega⟩, k _ _ (.refl af.gh af.hd) _ wd_range⟩
  · cases e
/-- pairs, each new -/
def zipD : List D → List D → List D
  | x :: xs, y :: ys => .tup [x, y] :: zipD xs ys
  | _, _ => []
theorem zipD_at : ∀ {xs ys : List D} {i : Nat} {d : D}, (zipD xs ys)[i]? = some d → ∃ x y, xs[i]? = some x ∧ ys[i]? = some y ∧ d = .tup [x, y]
  | [], _, i, d, e => by simp [zipD] at e
  | _ :: _, [], i, d, e => by simp [zipD] at e
  | x :: xs, y :: ys, 0, d, e => by
    unfold zipD at e
    exact ⟨x, y, rfl, rfl, (Option.some.inj e).symm⟩
  | x :: xs, y :: ys, i + 1, d, e => by
    unfold zipD at e
    exact zipD_at (i := i) (by simpa using e)
theorem zipD_len : ∀ {xs ys : List D}, (zipD xs ys).length = min xs.length ys.length
  | [], _ => by simp [zipD]
  | _ :: _, [] => by simp [zipD]
  | x :: xs, y :: ys => by
    unfold zipD
    rw [List.length_cons, List.length_cons, List.length_cons, zipD_len]
    omega
theorem zipD_get {xs ys : List D} {i : Nat} (hi : i < (zipD xs ys).length) : i < xs.length ∧ i < ys.length := by rw [zipD_len] at hi; omega
theorem pair_new {ha : Option Addr} {G H : Hp} {T : Addr} {x y : V} {d1 d2 : D} (t : Same G H) (hT : H T = none) (h1 : Dq c ha G x d1) (h2 : Dq c ha G y d2) : ∃ G', Mv G H G' (upd H T (.tup [x, y])) ∧ Same H (upd H T (.tup [x, y])) ∧ Dq c ha G' (.ref T) (.tup [d1, d2]) := by
  have m := Mv.new (o := .tup [x, y]) t hT
  exact ⟨_, m, same_new hT, .tup (SqT.of upd_same) (.cons (dq_mono m.gg h1) (.cons (dq_mono m.gg h2) .nil))⟩
theorem wd_zipL {ha : Option Addr} {G : Hp} {a b : Addr} {xs ys : List V} {ds es : List D} (h1 : G a = some (.lst xs)) (h2 : DqAll c ha G xs ds) (h3 : G b = some (.lst ys)) (h4 : DqAll c ha G ys es) : WalkD c ha G (Itz c.K a b) (zipD ds es) where
  go := fun i G' H s t hi => by
    obtain ⟨i1, i2⟩ := zipD_get hi
    rw [← dqAll_len h2] at i1
    rw [← dqAll_len h4] at i2
    exact ⟨xs, ys, xs[i], ys[i], SqL.of (t _ _ (s _ _ h1)), SqL.of (t _ _ (s _ _ h3)), List.getElem?_eq_getElem i1, List.getElem?_eq_getElem i2⟩
  yld := fun i G' H x H' d s t e y => by
    obtain ⟨T, u, v, rfl, hT, rfl, k1, k2⟩ := y
    obtain ⟨d1, d2, e1, e2, rfl⟩ := zipD_at e
    obtain ⟨u', e3, e4⟩ := dqAll_at h2 e1
    obtain ⟨v', e5, e6⟩ := dqAll_at h4 e2
    rw [k1 xs (SqL.of (t _ _ (s _ _ h1)))] at e3
    rw [k2 ys (SqL.of (t _ _ (s _ _ h3)))] at e5
    cases e3
    cases e5
    exact pair_new t hT (dq_mono s e4) (dq_mono s e6)
  stop := fun G' H s t => by
    refine ⟨xs, ys, SqL.of (t _ _ (s _ _ h1)), SqL.of (t _ _ (s _ _ h3)), ?_⟩
    rw [zipD_len, dqAll_len h2, dqAll_len h4]
    omega
theorem wd_zipT {ha : Option Addr} {G : Hp} {a b : Addr} {xs ys : List V} {ds es : List D} (h1 : SqT c.K G a xs) (h2 : DqAll c ha G xs ds) (h3 : SqT c.K G b ys) (h4 : DqAll c ha G ys es) : WalkD c ha G (RZ.ItzT c.K a b) (zipD ds es) where
  go := fun i G' H s t hi => by
    obtain ⟨i1, i2⟩ := zipD_get hi
    rw [← dqAll_len h2] at i1
    rw [← dqAll_len h4] at i2
    exact ⟨xs, ys, xs[i], ys[i], Evl.ex_t t (Evl.ex_t s h1), Evl.ex_t t (Evl.ex_t s h3), List.getElem?_eq_getElem i1, List.getElem?_eq_getElem i2⟩
  yld := fun i G' H x H' d s t e y => by
    obtain ⟨T, u, v, rfl, hT, rfl, k1, k2⟩ := y
    obtain ⟨d1, d2, e1, e2, rfl⟩ := zipD_at e
    obtain ⟨u', e3, e4⟩ := dqAll_at h2 e1
    obtain ⟨v', e5, e6⟩ := dqAll_at h4 e2
    rw [k1 xs (Evl.ex_t t (Evl.ex_t s h1))] at e3
    rw [k2 ys (Evl.ex_t t (Evl.ex_t s h3))] at e5
    cases e3
    cases e5
    exact pair_new t hT (dq_mono s e4) (dq_mono s e6)
  stop := fun G' H s t => by
    refine ⟨xs, ys, Evl.ex_t t (Evl.ex_t s h1), Evl.ex_t t (Evl.ex_t s h3), ?_⟩
    rw [zipD_len, dqAll_len h2, dqAll_len h4]
    omega
def kZip : List D → Option (List D)
  | [.lst xs, .lst ys] => some (zipD xs ys)
  | [.tup xs, .tup ys] => some (zipD xs ys)
  | _ => none
theorem di_zip {p tpos : Pos} {elts : List Expr} {kk : Nat} (hg : Gl X "zip") (hm : X.mg "zip" = none) (ha : PA X [a, b] (ra c W fs)) (hK : X.K = c.K := by rfl)
    (hs : starEach [a, b] X.env = (false, eval a X.env) :: starEach [b] X.env := by rfl) (hpl : (backTo pos (starEach [b] X.env)).any (·.1) = false := by rfl) : PI X (.Tuple elts kk tpos) (.Call (.Name "zip" p) [a, b] [] pos) (ri c W (iRg kZip fs)) := pi_to (RZ.pi_zipA hg hm ha hs hpl) fun σ H R x => by
  obtain ⟨ha, G0, B, G, δ, h, st, p⟩ := x
  refine ⟨ha, G0, B, G, δ, h, st, post_imp (post_bind p) fun ds h1 G1 H1 af p1 vs dv => ?_⟩
  obtain ⟨is, e, k⟩ := post_of p1
  rw [hK]
  unfold kZip at e
  split at e
  · cases e
    obtain ⟨v, w, rfl, dv1, dw⟩ := two_of dv
    cases dv1 with
    | lst k1 k2 =>
      cases dw with
      | lst k3 k4 => exact ⟨_, _, _, _, rfl, .inl ⟨SqL.of (af.gh _ _ k1), SqL.of (af.gh _ _ k3), k _ _ (.refl af.gh af.hd) _ (wd_zipL k1 k2 k3 k4)⟩⟩
  · cases e
    obtain ⟨v, w, rfl, dv1, dw⟩ := two_of dv
    cases dv1 with
    | tup k1 k2 =>
      cases dw with
      | tup k3 k4 => exact ⟨_, _, _, _, rfl, .inr ⟨Evl.ex_t af.gh k1, Evl.ex_t af.gh k3, k _ _ (.refl af.gh af.hd) _ (wd_zipT k1 k2 k3 k4)⟩⟩
  · cases e
def enD : Nat → List D → List D
  | _, [] => []
  | i, d :: ds => .tup [.int (i : Nat), d] :: enD (i + 1) ds
theorem enD_len : ∀ {ds : List D} {i : Nat}, (enD i ds).length = ds.length
  | [], _ => rfl
  | _ :: ds, i => congrArg Nat.succ enD_len
theorem enD_at : ∀ {ds : List D} {i j : Nat} {d : D}, (enD i ds)[j]? = some d → ∃ x, ds[j]? = some x ∧ d = .tup [.int ((i + j : Nat) : Int), x]
  | [], i, j, d, e => by simp [enD] at e
  | x :: ds, i, 0, d, e => by
    unfold enD at e
    exact ⟨x, rfl, (Option.some.inj e).symm⟩
  | x :: ds, i, j + 1, d, e => by
    unfold enD at e
    obtain ⟨y, h1, h2⟩ := enD_at (i := i + 1) (j := j) (by simpa using e)
    exact ⟨y, by simpa using h1, by rw [h2]; congr 4; omega⟩
theorem wd_enL {ha : Option Addr} {G : Hp} {a : Addr} {xs : List V} {ds : List D} (h1 : G a = some (.lst xs)) (h2 : DqAll c ha G xs ds) : WalkD c ha G (Ite c.K a) (enD 0 ds) where
  go := fun i G' H s t hi => by
    rw [enD_len, ← dqAll_len h2] at hi
    exact ⟨xs, xs[i], SqL.of (t _ _ (s _ _ h1)), List.getElem?_eq_getElem hi⟩
  yld := fun i G' H x H' d s t e y => by
    obtain ⟨T, u, rfl, hT, rfl, k1⟩ := y
    obtain ⟨d1, e1, rfl⟩ := enD_at e
    obtain ⟨u', e3, e4⟩ := dqAll_at h2 e1
    rw [k1 xs (SqL.of (t _ _ (s _ _ h1)))] at e3
    cases e3
    rw [Nat.zero_add]
    exact pair_new t hT (.int _) (dq_mono s e4)
  stop := fun G' H s t => ⟨xs, SqL.of (t _ _ (s _ _ h1)), by rw [enD_len, dqAll_len h2]; exact Nat.le_refl _⟩
theorem wd_enT {ha : Option Addr} {G : Hp} {a : Addr} {xs : List V} {ds : List D} (h1 : SqT c.K G a xs) (h2 : DqAll c ha G xs ds) : WalkD c ha G (Gn.IteT c.K a) (enD 0 ds) where
  go := fun i G' H s t hi => by
    rw [enD_len, ← dqAll_len h2] at hi
    exact ⟨xs, xs[i], Evl.ex_t t (Evl.ex_t s h1), List.getElem?_eq_getElem hi⟩
  yld := fun i G' H x H' d s t e y => by
    obtain ⟨T, u, rfl, hT, rfl, k1⟩ := y
    obtain ⟨d1, e1, rfl⟩ := enD_at e
    obtain ⟨u', e3, e4⟩ := dqAll_at h2 e1
    rw [k1 xs (Evl.ex_t t (Evl.ex_t s h1))] at e3
    cases e3
    rw [Nat.zero_add]
    exact pair_new t hT (.int _) (dq_mono s e4)
  stop := fun G' H s t => ⟨xs, Evl.ex_t t (Evl.ex_t s h1), by rw [enD_len, dqAll_len h2]⟩
def kEnum : List D → Option (List D)
  | [.lst xs] => some (enD 0 xs)
  | [.tup xs] => some (enD 0 xs)
  | _ => none
theorem di_enum {p tpos : Pos} {elts : List Expr} {kk : Nat} (hg : Gl X "enumerate") (hm : X.mg "enumerate" = none) (ha : PA X [a] (ra c W fs)) (hK : X.K = c.K := by rfl)
    (hs : starEach [a] X.env = [(false, eval a X.env)] := by rfl) : PI X (.Tuple elts kk tpos) (.Call (.Name "enumerate" p) [a] [] pos) (ri c W (iRg kEnum fs)) := pi_to (Gn.pi_enumA hg hm ha hs) fun σ H R x => by
  obtain ⟨ha, G0, B, G, δ, h, st, p⟩ := x
  refine ⟨ha, G0, B, G, δ, h, st, post_imp (post_bind p) fun ds h1 G1 H1 af p1 vs dv => ?_⟩
  obtain ⟨is, e, k⟩ := post_of p1
  rw [hK]
  unfold kEnum at e
  split at e
  · cases e
    obtain ⟨v, rfl, dv1⟩ := one_of dv
    cases dv1 with
    | lst k1 k2 => exact ⟨_, _, rfl, .inl ⟨SqL.of (af.gh _ _ k1), k _ _ (.refl af.gh af.hd) _ (wd_enL k1 k2)⟩⟩
  · cases e
    obtain ⟨v, rfl, dv1⟩ := one_of dv
    cases dv1 with
    | tup k1 k2 => exact ⟨_, _, rfl, .inr ⟨Evl.ex_t af.gh k1, k _ _ (.refl af.gh af.hd) _ (wd_enT k1 k2)⟩⟩
  · cases e
end
end Fw
set_option maxHeartbeats 2000000
namespace Fw
open PySem PySem.Spec PyProof.Rows L2 Dz Vz
/-- nothing gets out -/
def WF : WX := fun _ _ _ _ => False
def Ex.nox {α : Type} : Ex α → Ex α
  | .ok a h => .ok a h
  | _ => .bad
def wipeD (δ : DE) : List Nat → DE
  | [] => δ
  | v :: vs => (wipeD δ vs).set v none
def lcGo (bind : D → DE → Option DE) (test : EF Bool) (elt : EF D) (δ : DE) : List D → D → Ex (List D)
  | [], h => .ok [] h
  | x :: xs, h => match bind x δ with
    | none => .bad
    | some δ2 => (test δ2 h).nox.bind fun b h2 => if b then (elt δ2 h2).nox.bind fun y h3 => (lcGo bind test elt δ xs h3).bind fun ys h4 => .ok (y :: ys) h4 else lcGo bind test elt δ xs h2
def eLcL (vs : List Nat) (it : EF (List D)) (bind : D → DE → Option DE) (test : EF Bool) (elt : EF D) : EF (List D) := fun δ h => (it δ h).bind fun ds h1 => if szOk ds.length then lcGo bind test elt (wipeD δ vs) ds h1 else .bad
def eLc (vs : List Nat) (it : EF (List D)) (bind : D → DE → Option DE) (test : EF Bool) (elt : EF D) : EF D := fun δ h => (eLcL vs it bind test elt δ h).bind fun ys h2 => .ok (.hl ys) h2
def tYesD : EF Bool := fun _ h => .ok true h
section
variable {X : Cx} {W : WX} {c : Cn} {e a b e2 : Expr} {es : List Expr} {pos : Pos} {ta tb te : TE} {f fa fb fc : EF D} {ga gb : EF Bool} {fs : EF (List D)}
theorem wipe_set {i : Nat} {o : Option V} : ∀ {vs : List Nat} {σ : L2.St}, (i ∈ vs → wipe (σ.set i o) vs = wipe σ vs) ∧ (i ∉ vs → wipe (σ.set i o) vs = (wipe σ vs).set i o)
  | [], σ => ⟨fun h => (List.not_mem_nil h).elim, fun _ => rfl⟩
  | v :: vs, σ => by
    obtain ⟨h1, h2⟩ := wipe_set (i := i) (o := o) (vs := vs) (σ := σ)
    constructor
    · intro hm
      show (wipe (σ.set i o) vs).set v none = (wipe σ vs).set v none
      by_cases hi : i ∈ vs
      · rw [h1 hi]
      · rw [h2 hi]
        rcases List.mem_cons.mp hm with e | e
        · subst e
          rw [List.set_set]
        · exact absurd e hi
    · intro hm
      have hv : i ≠ v := fun z => hm (by rw [z]; exact List.mem_cons_self)
      have hi : i ∉ vs := fun z => hm (List.mem_cons_of_mem _ z)
      show (wipe (σ.set i o) vs).set v none = ((wipe σ vs).set v none).set i o
      rw [h2 hi, List.set_comm _ _ hv]
theorem wipe_sub {σ : L2.St} {vs : List Nat} : ∀ {us : List Nat}, (∀ u ∈ us, u ∈ vs) → wipe (wipe σ us) vs = wipe σ vs
  | [], _ => rfl
  | u :: us, h => by
    show wipe ((wipe σ us).set u none) vs = wipe σ vs
    rw [wipe_set.1 (h u List.mem_cons_self)]
    exact wipe_sub fun x hx => h x (List.mem_cons_of_mem _ hx)
theorem wipe_wipe {σ : L2.St} {vs : List Nat} : wipe (wipe σ vs) vs = wipe σ vs := wipe_sub fun _ h => h
theorem Sta.wipe1 {ha : Option Addr} {G0 B G H : Hp} {σ : L2.St} {δ : DE} {h : D} (st : Sta c ha G0 B G H σ δ h) (i : Nat) (o : Option V) : Sta c ha G0 B G H (σ.set i o) (δ.set i none) h := by
  obtain ⟨fp, os, n, k⟩ := st.sl
  obtain ⟨fp', o', sb⟩ := ownS_wipe (i := i) o os
  exact ⟨⟨fp', o', n.sublist sb, fun a ha => k a (sb.subset ha)⟩, st.mv, st.bt, st.hd, st.hb⟩
theorem Sta.wipe {ha : Option Addr} {G0 B G H : Hp} {σ : L2.St} {δ : DE} {h : D} (st : Sta c ha G0 B G H σ δ h) : ∀ vs : List Nat, Sta c ha G0 B G H (L2.wipe σ vs) (wipeD δ vs) h
  | [] => st
  | v :: vs => (st.wipe vs).wipe1 v none
/-- a slot is stored with a thing at rest -/
theorem Sta.setD {ha : Option Addr} {G0 B G H : Hp} {σ : L2.St} {δ : DE} {h : D} {v : V} {d : D} (st : Sta c ha G0 B G H σ δ h) (i : Nat) (dv : Dq c ha G v d) : Sta c ha G0 B G H (σ.set i (some v)) (δ.set i (some d)) h := by
  obtain ⟨fp, os, n, k⟩ := st.sl
  obtain ⟨fp', o', h2⟩ := ownS_set (i := i) (.frz dv) os
  obtain ⟨n2, k2⟩ := h2 [] n
  exact ⟨⟨fp', o', n2, fun a hx => by rcases k2 a hx with z | z; exact nomatch z; exact k a z⟩, st.mv, st.bt, st.hd, st.hb⟩
/-- a target's binding -/
def BindD (c : Cn) (vs : List Nat) (g : TG) (bind : D → DE → Option DE) : Prop := ∀ {ha : Option Addr} {G0 B G H : Hp} {σ : L2.St} {δ δ2 : DE} {h d : D} {v : V} {Q : L2.St → Hp → Prop}, Sta c ha G0 B G H σ δ h → Dq c ha G v d → bind d δ = some δ2 → (∀ σ2, Sta c ha G0 B G H σ2 δ2 h → wipe σ2 vs = wipe σ vs → Q σ2 H) → g v σ H Q
def bNm (i : Nat) : D → DE → Option DE := fun d δ => some (δ.set i (some d))
theorem bd_nm {i : Nat} {vs : List Nat} (hi : i ∈ vs) : BindD c vs (gName i) (bNm i) := by
  intro ha G0 B G H σ δ δ2 h d v Q st dv e fin
  cases e
  exact fin _ (st.setD i dv) (wipe_set.1 hi)
def bAll : List (D → DE → Option DE) → List D → DE → Option DE
  | [], [], δ => some δ
  | b :: bs, d :: ds, δ => match b d δ with
    | some δ2 => bAll bs ds δ2
    | none => none
  | _, _, _ => none
def bTp (bs : List (D → DE → Option DE)) : D → DE → Option DE := fun d δ => match d with
  | .tup ds => bAll bs ds δ
  | _ => none
def BindA (c : Cn) (vs : List Nat) (g : TGs) (bs : List (D → DE → Option DE)) : Prop := ∀ {ha : Option Addr} {G0 B G H : Hp} {σ : L2.St} {δ δ2 : DE} {h : D} {ds : List D} {xs : List V} {Q : L2.St → Hp → Prop}, Sta c ha G0 B G H σ δ h → DqAll c ha G xs ds → bAll bs ds δ = some δ2 → (∀ σ2, Sta c ha G0 B G H σ2 δ2 h → wipe σ2 vs = wipe σ vs → Q σ2 H) → g xs σ H Q
theorem ba_nil {vs : List Nat} : BindA c vs gNil [] := by
  intro ha G0 B G H σ δ δ2 h ds xs Q st dv e fin
  cases dv with
  | nil => cases e; exact ⟨rfl, fin _ st rfl⟩
  | cons _ _ => cases e
theorem ba_cons {vs : List Nat} {g : TG} {gs : TGs} {b : D → DE → Option DE} {bs : List (D → DE → Option DE)} (h1 : BindD c vs g b) (h2 : BindA c vs gs bs) : BindA c vs (gCons g gs) (b :: bs) := by
  intro ha G0 B G H σ δ δ2 h ds xs Q st dv e fin
  cases dv with
  | nil => cases e
  | cons d1 d2 =>
    rename_i v d xs ds
    unfold bAll at e
    cases q : b d δ with
    | none => rw [q] at e; cases e
    | some δ1 =>
      rw [q] at e
      exact ⟨_, _, rfl, h1 st d1 q fun σ1 s1 w1 => h2 s1 d2 e fun σ2 s2 w2 => fin σ2 s2 (w2.trans w1)⟩
theorem bAll_len : ∀ {bs : List (D → DE → Option DE)} {ds : List D} {δ δ2 : DE}, bAll bs ds δ = some δ2 → ds.length = bs.length
  | [], [], _, _, _ => rfl
  | b :: bs, d :: ds, δ, δ2, e => by
    unfold bAll at e
    cases q : b d δ with
    | none => rw [q] at e; cases e
    | some δ1 =>
      rw [q] at e
      rw [List.length_cons, List.length_cons, bAll_len e]
  | [], _ :: _, _, _, e => by cases e
  | _ :: _, [], _, _, e => by cases e
theorem bd_tp {vs : List Nat} {gs : TGs} {bs : List (D → DE → Option DE)} {n : Nat} (hn : bs.length = n) (h2 : BindA c vs gs bs) : BindD c vs (gTup c.K n gs) (bTp bs) := by
  intro ha G0 B G H σ δ δ2 h d v Q st dv e fin
  cases dv with
  | tup h3 h4 => exact ⟨_, _, rfl, Evl.ex_t st.gh h3, by rw [dqAll_len h4, bAll_len e, hn], h2 st h4 e fin⟩
  | _ => cases e
theorem nox_ok {α : Type} {r : Ex α} {a : α} {h : D} (e : r.nox = .ok a h) : r = .ok a h := by
  cases r <;> first | exact e | cases e
theorem bind_ok {α β : Type} {r : Ex α} {k : α → D → Ex β} {b : β} {h : D} (e : r.bind k = .ok b h) : ∃ a h1, r = .ok a h1 ∧ k a h1 = .ok b h := by
  cases r with
  | ok a h1 => exact ⟨a, h1, rfl, e⟩
  | exc _ _ _ => cases e
  | bad => cases e
theorem lcGo_ne {bind : D → DE → Option DE} {test : EF Bool} {elt : EF D} {δ : DE} : ∀ {ds : List D} {h : D} {n : Str} {fs : List (Str × D)} {h2 : D}, lcGo bind test elt δ ds h ≠ .exc n fs h2
  | [], h, n, fs, h2, e => by cases e
  | d :: ds, h, n, fs, h2, e => by
    unfold lcGo at e
    cases q : bind d δ with
    | none => rw [q] at e; cases e
    | some δ2 =>
      simp only [q] at e
      cases q2 : test δ2 h with
      | ok b h3 =>
        rw [q2] at e
        cases b with
        | true =>
          have e' : ((elt δ2 h3).nox.bind fun y h3 => (lcGo bind test elt δ ds h3).bind fun ys h4 => .ok (y :: ys) h4) = .exc n fs h2 := e
          cases q3 : elt δ2 h3 with
          | ok y h4 =>
            rw [q3] at e'
            have e2 : ((lcGo bind test elt δ ds h4).bind fun ys h4 => Ex.ok (y :: ys) h4) = .exc n fs h2 := e'
            cases q4 : lcGo bind test elt δ ds h4 with
            | ok ys h5 => rw [q4] at e2; cases e2
            | exc n2 f2 h5 => exact lcGo_ne q4
            | bad => rw [q4] at e2; cases e2
          | exc _ _ _ => rw [q3] at e'; cases e'
          | bad => rw [q3] at e'; cases e'
        | false =>
          have e' : lcGo bind test elt δ ds h3 = .exc n fs h2 := e
          exact lcGo_ne e'
      | exc _ _ _ => rw [q2] at e; cases e
      | bad => rw [q2] at e; cases e
/-- a step of the walk: what was taken, what is left -/
structure LcI (c : Cn) (ha : Option Addr) (bind : D → DE → Option DE) (test : EF Bool) (elt : EF D) (δw : DE) (items all : List D) (hE : D) (G1 H1 : Hp) (Da : Addr) (i : Nat) (H : Hp) : Prop where
  ex : ∃ G h acc ds ys, Af c ha G1 H1 G H h ∧ H Da = some (.lst acc) ∧ G Da = none ∧ DqAll c ha G acc ds ∧ ds.length ≤ i ∧ lcGo bind test elt δw (items.drop i) h = .ok ys hE ∧ ds ++ ys = all
theorem af_put {ha : Option Addr} {G1 H1 G H : Hp} {h : D} {p : Addr} {o : HO} (af : Af c ha G1 H1 G H h) (hp : H1 p = none) (gp : G p = none) (hk : ∀ a, ha = some a → H1 a ≠ none) (hn : H p ≠ none) : Af c ha G1 H1 G (upd H p o) h := by
  refine ⟨af.mv.trans (Mv.put af.gh gp hn), fun b u n e => ?_, hok_keep af.hd (Same.refl _) fun a e => ?_⟩
  · rw [upd_ne fun z => by rw [z, hp] at e; cases e]
    exact af.bt b u n e
  · have hne := hk a e
    refine ⟨?_, upd_ne fun z => hne (by rw [z]; exact hp)⟩
    subst e
    exact (hok_at af.hd).1
theorem lc_run {ha : Option Addr} {bind : D → DE → Option DE} {g : TG} {vs : List Nat} {J : It} {items all : List D} {hE h1 : D} {G0 B G1 H1 : Hp} {σ : L2.St} {δ : DE} {Da : Addr} {Qd : Hp → Prop} (st : Sta c ha G0 B G1 H1 σ δ h1) (w : WalkD c ha G1 J items) (bd : BindD c vs g bind) (sz : szOk items.length = true)
    (hD : H1 Da = none) (go : lcGo bind ga f (wipeD δ vs) items h1 = .ok all hE)
    (fin : ∀ G H acc, Af c ha G1 H1 G H hE → H Da = some (.lst acc) → G Da = none → DqAll c ha G acc all → Qd H) : LcW J g (rt c WF ga) (rd c WF f) vs σ H1 Da Qd := by
  have hk := st.hne
  refine ⟨fun i m H => m = items.length - i ∧ i ≤ items.length ∧ LcI c ha bind ga f (wipeD δ vs) items all hE G1 H1 Da i H, ⟨_, rfl, Nat.zero_le _, ⟨G1, h1, [], [], all, ?_⟩⟩, ?_⟩
  · have a0 : Af c ha G1 H1 G1 (upd H1 Da (.lst [])) h1 := .of st.gh st.hd (Mv.hid st.gh hD) (same_new hD)
    exact ⟨a0, upd_same, old_none st.gh hD, .nil, Nat.zero_le _, go, rfl⟩
  · rintro i m H ⟨rfl, hi, ⟨G, h, acc, ds, ys, af, hDa, gD, da, hl, go, ea⟩⟩
    by_cases hlt : i < items.length
    · refine .inr ⟨w.go i G H af.gg af.gh hlt, fun H' => i + 1 ≤ items.length ∧ LcI c ha bind ga f (wipeD δ vs) items all hE G1 H1 Da (i + 1) H', fun H' hn => ⟨_, by omega, rfl, hn⟩, fun x H' y => ?_⟩
      have ei : items[i]? = some items[i] := List.getElem?_eq_getElem hlt
      obtain ⟨G2, m2, s2, dx⟩ := w.yld i G H x H' _ af.gg af.gh ei y
      have af2 : Af c ha G H G2 H' h := .of af.gh af.hd m2 s2
      have st2 := ((st.wipe vs).to af).to af2
      have ed : items.drop i = items[i] :: items.drop (i + 1) := (List.drop_eq_getElem_cons hlt)
      rw [ed] at go
      unfold lcGo at go
      cases qb : bind items[i] (wipeD δ vs) with
      | none => rw [qb] at go; cases go
      | some δ2 =>
        simp only [qb] at go
        obtain ⟨b, h2, e1, go2⟩ := bind_ok go
        have e1' := nox_ok e1
        refine bd st2 dx qb fun σ2 st3 we => ⟨we.trans (by rw [wipe_wipe]), ha, G0, B, G2, δ2, h, st3, ?_⟩
        rw [e1']
        intro G3 H3 af3
        have d03 := (af.trans af2).trans af3
        have hD3 : H3 Da = some (.lst acc) := af3.bt _ _ (fun z => hk Da z hD) (s2 _ _ hDa)
        have gD3 : G3 Da = none := (af3.mv.nw Da (some_ne (s2 _ _ hDa))).trans ((m2.nw Da (some_ne hDa)).trans gD)
        cases b with
        | false =>
          have go3 : lcGo bind ga f (wipeD δ vs) (items.drop (i + 1)) h2 = .ok ys hE := go2
          exact ⟨hlt, ⟨G3, h2, acc, ds, ys, d03, hD3, gD3, dqAll_mono (af2.gg.trans af3.gg) da, by omega, go3, ea⟩⟩
        | true =>
          have go3 : ((f δ2 h2).nox.bind fun y h3 => (lcGo bind ga f (wipeD δ vs) (items.drop (i + 1)) h3).bind fun ys h4 => .ok (y :: ys) h4) = Ex.ok ys hE := go2
          obtain ⟨y1, h3, e3, go4⟩ := bind_ok go3
          obtain ⟨ys1, h4, e4, go5⟩ := bind_ok go4
          cases go5
          have e3' := nox_ok e3
          refine ⟨ha, G0, B, G3, δ2, h2, st3.to af3, ?_⟩
          rw [e3']
          intro G4 H4 af4 v dv
          have hD4 : H4 Da = some (.lst acc) := af4.bt _ _ (fun z => hk Da z hD) hD3
          have gD4 : G4 Da = none := (af4.mv.nw Da (some_ne hD3)).trans gD3
          have gg := (af2.gg.trans af3.gg).trans af4.gg
          refine ⟨acc, hD4, ?_, hlt, ⟨G4, h3, acc ++ [v], ds ++ [y1], ys1, af_put (d03.trans af4) hD gD4 hk (some_ne hD4), upd_same, gD4, dqAll_app (dqAll_mono gg da) (.cons dv .nil), ?_, e4, by rw [List.append_assoc]; exact ea⟩⟩
          · rw [dqAll_len da, sizeLine_eq]
            have := of_decide_eq_true sz
            omega
          · rw [List.length_append, List.length_singleton]
            omega
    · have hi2 : i = items.length := by omega
      subst hi2
      rw [List.drop_length] at go
      cases go
      rw [List.append_nil] at ea
      subst ea
      exact .inl ⟨w.stop G H af.gg af.gh, fin G H acc af hDa gD da⟩
theorem post_lcL {ha : Option Addr} {G1 H1 : Hp} {h1 : D} {σ : L2.St} {vs : List Nat} {bind : D → DE → Option DE} {δ : DE} {ds : List D} {β : Type} {k : List D → D → Ex β} {K : β → D → Hp → Hp → Prop} (p : Post c ha W σ G1 H1 ((if szOk ds.length then lcGo bind ga f (wipeD δ vs) ds h1 else .bad).bind k) K) :
    szOk ds.length = true ∧ ∃ ys h2, lcGo bind ga f (wipeD δ vs) ds h1 = .ok ys h2 ∧ Post c ha W σ G1 H1 (k ys h2) K := by
  by_cases hz : szOk ds.length = true
  · rw [if_pos hz] at p
    cases q : lcGo bind ga f (wipeD δ vs) ds h1 with
    | ok ys h2 => rw [q] at p; exact ⟨hz, ys, h2, rfl, p⟩
    | exc n fs h2 => exact absurd q lcGo_ne
    | bad => rw [q] at p; exact p.elim
  · rw [if_neg hz] at p
    exact p.elim
theorem bind_assoc {α β γ : Type} {r : Ex α} {k : α → D → Ex β} {l : β → D → Ex γ} : (r.bind k).bind l = r.bind fun a h => (k a h).bind l := by cases r <;> rfl
theorem rn_lc {vs : List Nat} {bind : D → DE → Option DE} {g : TG} (bd : BindD c vs g bind) (σ : L2.St) (H : Hp) (Q : VK) (x : rn c W (eLc vs fs bind ga f) σ H Q) : tLc (ri c W fs) g (rt c WF ga) (rd c WF f) vs σ H Q := by
  obtain ⟨ha, G0, B, G, δ, h, st, p⟩ := x
  unfold eLc eLcL at p
  rw [bind_assoc] at p
  refine ⟨ha, G0, B, G, δ, h, st, post_imp (post_bind p) fun ds h1 G1 H1 af p1 J w Da hD => ?_⟩
  obtain ⟨hz, ys, h2, go, p2⟩ := post_lcL p1
  refine lc_run (st.to af) w bd hz hD go fun G2 H2 acc af2 hDa gD da => ?_
  exact p2 G2 H2 af2 _ (.inr ⟨Da, acc, ys, rfl, rfl, hDa, gD, af_old af hD, da⟩)
theorem dn_lc {elt tg iter : Expr} {ifs : List Expr} {scope : Scope} {own : List (Str × Nat)} {bind : D → DE → Option DE} {g : TG} (hc : X.calm = true) (hN : X.N.Nodup) (hi : PI X tg iter (ri c W fs)) (ok : BlkOk X.N X.env.scope scope own) (bd : BindD c (own.map (·.2)) g bind)
    (hg : ∀ (s : Shared) (H : Hp) (C : Addr) (cl : List (Str × Addr)) (fp : List Addr), PG (X.blk s H scope (compEnvC scope cl C X.env) fp) tg g) (ht : ∀ (s : Shared) (H : Hp) (C : Addr) (cl : List (Str × Addr)) (fp : List Addr), PTs (X.blk s H scope (compEnvC scope cl C X.env) fp) ifs (rt c WF ga))
    (he : ∀ (s : Shared) (H : Hp) (C : Addr) (cl : List (Str × Addr)) (fp : List Addr), PE (X.blk s H scope (compEnvC scope cl C X.env) fp) elt (rd c WF f)) (hs : ∀ x, foldedSetIterable iter X.env x = pure x := by intro _; rfl) :
    PE X (.ListComp elt [⟨tg, iter, ifs, 0⟩] scope pos) (rn c W (eLc (own.map (·.2)) fs bind ga f)) := pn_to (pe_lc hc hN hi ok hg ht he hs) (rn_lc bd)
theorem pts_no {X : Cx} : PTs X [] (rt c WF tYesD) := ⟨fun pins s σ H Q I x => by
  obtain ⟨ha, G0, B, G, δ, h, st, p⟩ := x
  exact pts_nil.run pins s σ H Q I (post_ok p st.gh st.hd)⟩
theorem pts_if {X : Cx} {e : Expr} (p : PT X e (rt c WF ga)) : PTs X [e] (rt c WF ga) := pts_one p
end
end Fw
set_option maxHeartbeats 2000000
namespace Fw
open PySem PySem.Spec PyProof.Rows L2 Dz Vz
inductive Fl where
  | nx (δ : DE) (h : D)
  | ret (d : D) (h : D)
  | brk (δ : DE) (h : D)
  | ct (δ : DE) (h : D)
  | exc (n : Str) (fs : List (Str × D)) (δ : DE) (h : D)
  | bad
abbrev SF := DE → D → Fl
/-- what a def hands back: a thing at rest; or lists that nobody else holds -/
def Res (nw : Bool) (c : Cn) (ha : Option Addr) (B G' H' : Hp) (v : V) (d : D) : Prop := match nw with
  | false => Dq c ha G' v d
  | true => ∃ fp, Own c ha G' H' v d fp ∧ fp.Nodup ∧ ∀ a ∈ fp, B a = none ∧ ha ≠ some a
def PostS (c : Cn) (ha : Option Addr) (W : WX) (nw : Bool) (G0 B G : Hp) (r : Fl) (Dn : Ends) : Prop := match r with
  | .nx δ' h' => ∀ σ' G' H', Sta c ha G0 B G' H' σ' δ' h' → Same G G' → Dn.nx σ' H'
  | .brk δ' h' => ∀ σ' G' H', Sta c ha G0 B G' H' σ' δ' h' → Same G G' → Dn.bk σ' H'
  | .ct δ' h' => ∀ σ' G' H', Sta c ha G0 B G' H' σ' δ' h' → Same G G' → Dn.ct σ' H'
  | .ret d h' => ∀ v G' H', Af c ha G0 B G' H' h' → Res nw c ha B G' H' v d → Dn.rt v H'
  | .exc n fs δ' h' => ∀ σ' C dd G1 H1 h1 G' H', Sta c ha G0 B G1 H1 σ' δ' h1 → Same G G1 → Af c ha G1 H1 G' H' h' → c.mg n = some (.ref C) → XR c ha G' H1 H' C dd fs → W (.ref C) dd σ' H'
  | .bad => False
def rs (c : Cn) (W : WX) (nw : Bool) (f : SF) : TS := fun Dn σ H => ∃ ha G0 B G δ h, Sta c ha G0 B G H σ δ h ∧ PostS c ha W nw G0 B G (f δ h) Dn
/-- an expression's outcome within a statement -/
def Ex.fl {α : Type} (r : Ex α) (δ : DE) (k : α → D → Fl) : Fl := match r with
  | .ok a h => k a h
  | .exc n fs h => .exc n fs δ h
  | .bad => .bad
section
variable {X : Cx} {W : WX} {c : Cn} {nw : Bool} {e a b e2 : Expr} {es : List Expr} {pos : Pos} {ta tb te : TE} {f fa fb fc : EF D} {g ga gb : EF Bool} {fs : EF (List D)} {s : Stmt} {ss : List Stmt} {u v : SF}
section
variable {ha : Option Addr} {G0 B G H G1 H1 G' H' : Hp} {σ : L2.St} {δ : DE} {h h1 h' : D} {Dn : Ends}
theorem Sta.af (st : Sta c ha G0 B G H σ δ h) : Af c ha G0 B G H h := ⟨st.mv, st.bt, st.hd⟩
theorem posts_from {r : Fl} (s : Same G G1) (p : PostS c ha W nw G0 B G r Dn) : PostS c ha W nw G0 B G1 r Dn := by
  cases r with
  | nx δ' h' => exact fun σ' G' H' st t => p σ' G' H' st (s.trans t)
  | brk δ' h' => exact fun σ' G' H' st t => p σ' G' H' st (s.trans t)
  | ct δ' h' => exact fun σ' G' H' st t => p σ' G' H' st (s.trans t)
  | exc n fs δ' h' => exact fun σ' C dd G1 H1 h1 G' H' st t => p σ' C dd G1 H1 h1 G' H' st (s.trans t)
  | _ => exact p
/-- from an expression's outcome -/
theorem post_fl {α : Type} {r : Ex α} {k : α → D → Fl} (st : Sta c ha G0 B G H σ δ h) (p : PostS c ha W nw G0 B G (r.fl δ k) Dn) : Post c ha W σ G H r fun a h1 G1 H1 => PostS c ha W nw G0 B G1 (k a h1) Dn := by
  cases r with
  | ok a h1 => exact fun G1 H1 af => posts_from af.gg p
  | exc n fs h1 => exact fun C dd G1 H1 af m x => p σ C dd G H h G1 H1 st (Same.refl _) af m x
  | bad => exact p
end
theorem ps_to {t : TS} (p : PS X s t) (i : ∀ Dn σ H, rs c W nw u Dn σ H → t Dn σ H) : PS X s (rs c W nw u) := ⟨fun pins s σ H Dn I h => p.run pins s σ H Dn I (i Dn σ H h)⟩
theorem pss_to {t : TS} (p : PSs X ss t) (i : ∀ Dn σ H, rs c W nw u Dn σ H → t Dn σ H) : PSs X ss (rs c W nw u) := ⟨fun pins s σ H Dn I h => p.run pins s σ H Dn I (i Dn σ H h)⟩
def sNil : SF := fun δ h => .nx δ h
def Fl.bind (r : Fl) (k : SF) : Fl := match r with
  | .nx δ h => k δ h
  | r => r
def sSeq (u v : SF) : SF := fun δ h => (u δ h).bind v
theorem ds_nil : PSs X [] (rs c W nw sNil) := pss_to pss_nil fun Dn σ H ⟨ha, G0, B, G, δ, h, st, p⟩ => p σ G H st (Same.refl _)
theorem ds_cons (p : PS X s (rs c W nw u)) (q : PSs X ss (rs c W nw v)) : PSs X (s :: ss) (rs c W nw (sSeq u v)) := pss_to (pss_cons p q) fun Dn σ H x => by
  obtain ⟨ha, G0, B, G, δ, h, st, p⟩ := x
  refine ⟨ha, G0, B, G, δ, h, st, ?_⟩
  unfold sSeq at p
  cases r : u δ h with
  | nx δ' h' =>
    rw [r] at p
    exact fun σ' G' H' st' t => ⟨ha, G0, B, G', δ', h', st', posts_from t p⟩
  | ret d h' => rw [r] at p; exact p
  | brk δ' h' => rw [r] at p; exact p
  | ct δ' h' => rw [r] at p; exact p
  | exc n fs δ' h' => rw [r] at p; exact p
  | bad => rw [r] at p; exact p
theorem ds_one (p : PS X s (rs c W nw u)) : PSs X [s] (rs c W nw u) := pss_one p
def sSet (i : Nat) (f : EF D) : SF := fun δ h => (f δ h).fl δ fun d h1 => .nx (δ.set i (some d)) h1
theorem rs_set {i : Nat} (Dn : Ends) (σ : L2.St) (H : Hp) (x : rs c W nw (sSet i f) Dn σ H) : tAsg (rd c W f) (gName i) Dn σ H := by
  obtain ⟨ha, G0, B, G, δ, h, st, p⟩ := x
  exact ⟨ha, G0, B, G, δ, h, st, post_imp (post_fl st p) fun d h1 G1 H1 af q v dv => q _ G1 H1 ((st.to af).setD i dv) (Same.refl _)⟩
theorem ds_set {i : Nat} {x : Str} {pos' : Pos} (hN : X.N.Nodup) (hi : X.N[i]? = some x) (hx : Loc X.env.scope x) (he : PE X e (rd c W f)) (hs : swapsWith e (some (.Name x pos')) pos.line X.env = pure false := by rfl) (hf : X.fn x = true ∨ X.env.scope.names.lookup x = some .local := by first | exact .inl rfl | exact .inr rfl | assumption) :
    PS X (.Assign [.Name x pos'] e pos) (rs c W nw (sSet i f)) := ps_to (ps_set hN hi hx he hs hf) rs_set
theorem Sta.old {ha : Option Addr} {G0 B G H : Hp} {σ : L2.St} {δ : DE} {h : D} {a : Addr} (st : Sta c ha G0 B G H σ δ h) (e : H a = none) : B a = none := by
  cases z : B a with
  | none => rfl
  | some o => exact absurd e (st.mv.dm a (some_ne z))
theorem Sta.ne_ha {ha : Option Addr} {G0 B G H : Hp} {σ : L2.St} {δ : DE} {h : D} {a : Addr} (st : Sta c ha G0 B G H σ δ h) (e : H a = none) : ha ≠ some a := fun z => st.hne a z e
/-- the slots' lists behind an expression -/
theorem Sta.keep {ha : Option Addr} {B G H G1 H1 : Hp} {σ : L2.St} {δ : DE} {h1 : D} {fp : List Addr} (af : Af c ha G H G1 H1 h1) (o : OwnS c ha G H σ δ fp) (k : ∀ a ∈ fp, B a = none ∧ ha ≠ some a) : OwnS c ha G1 H1 σ δ fp := by
  refine ownS_keep af.gg o fun b hb => ?_
  obtain ⟨g, hne⟩ := ownS_at o b hb
  obtain ⟨u, e⟩ := ne_some hne
  exact ⟨by rw [e]; exact af.bt b u (k b hb).2 e, (af.mv.nw b hne).trans g⟩
/-- a slot takes what an expression made -/
theorem Sta.setO {ha : Option Addr} {G0 B G H G1 H1 : Hp} {σ : L2.St} {δ : DE} {h h1 : D} {v : V} {d : D} {f : List Addr} (st : Sta c ha G0 B G H σ δ h) (af : Af c ha G H G1 H1 h1) (i : Nat) (o : Own c ha G1 H1 v d f) (nf : f.Nodup) (kf : ∀ a ∈ f, H a = none) : Sta c ha G0 B G1 H1 (σ.set i (some v)) (δ.set i (some d)) h1 := by
  obtain ⟨fp, os, n, k⟩ := st.sl
  have os1 := Sta.keep (B := B) af os k
  obtain ⟨fp', o', h2'⟩ := ownS_set (i := i) o os1
  obtain ⟨n2, k2⟩ := h2' [] (by
    show (f ++ fp).Nodup
    refine List.nodup_append.mpr ⟨nf, n, fun a hx b hy => ?_⟩
    rintro rfl
    exact (ownS_at os a hy).2 (kf a hx))
  have st1 := st.to af
  refine ⟨⟨fp', o', n2, fun b hx => ?_⟩, st1.mv, st1.bt, st1.hd, st1.hb⟩
  rcases k2 b hx with z | z
  · exact ⟨st.old (kf b z), st.ne_ha (kf b z)⟩
  · exact k b z
theorem nw_own {ha : Option Addr} {H G1 H1 : Hp} {v : V} {d : D} (n : Nw c ha H G1 H1 v d) : ∃ f, Own c ha G1 H1 v d f ∧ f.Nodup ∧ ∀ a ∈ f, H a = none := by
  rcases n with n | ⟨a, xs, ds, rfl, rfl, k1, k2, k3, k4⟩
  · exact ⟨[], .frz n, by simp, fun a hx => nomatch hx⟩
  · exact ⟨[a], .hl k1 k2 (ownAll_of k4), by simp, fun b hx => by rw [List.mem_singleton.mp hx]; exact k3⟩
theorem Sta.setN {ha : Option Addr} {G0 B G H G1 H1 : Hp} {σ : L2.St} {δ : DE} {h h1 : D} {v : V} {d : D} (st : Sta c ha G0 B G H σ δ h) (af : Af c ha G H G1 H1 h1) (i : Nat) (n : Nw c ha H G1 H1 v d) : Sta c ha G0 B G1 H1 (σ.set i (some v)) (δ.set i (some d)) h1 := by
  obtain ⟨f, o, n1, n2⟩ := nw_own n
  exact st.setO af i o n1 n2
theorem rs_setN {i : Nat} (Dn : Ends) (σ : L2.St) (H : Hp) (x : rs c W nw (sSet i f) Dn σ H) : tAsg (rn c W f) (gName i) Dn σ H := by
  obtain ⟨ha, G0, B, G, δ, h, st, p⟩ := x
  exact ⟨ha, G0, B, G, δ, h, st, post_imp (post_fl st p) fun d h1 G1 H1 af q v n => q _ G1 H1 (st.setN af i n) (Same.refl _)⟩
theorem ds_setN {i : Nat} {x : Str} {pos' : Pos} (hN : X.N.Nodup) (hi : X.N[i]? = some x) (hx : Loc X.env.scope x) (he : PE X e (rn c W f)) (hs : swapsWith e (some (.Name x pos')) pos.line X.env = pure false := by rfl) (hf : X.fn x = true ∨ X.env.scope.names.lookup x = some .local := by first | exact .inl rfl | exact .inr rfl | assumption) :
    PS X (.Assign [.Name x pos'] e pos) (rs c W nw (sSet i f)) := ps_to (ps_set hN hi hx he hs hf) rs_setN
/-- x = [.. for ..], on one line -/
theorem rs_setLc {i : Nat} {vs : List Nat} {bind : D → DE → Option DE} {g : TG} (bd : BindD c vs g bind) (Dn : Ends) (σ : L2.St) (H : Hp) (x : rs c W nw (sSet i (eLc vs fs bind ga f)) Dn σ H) : tAsg (tLc (ri c W fs) g (rt c WF ga) (rd c WF f) vs) (gName i) Dn σ H := by
  obtain ⟨ha, G0, B, G, δ, h, st, p⟩ := x
  exact rn_lc bd σ H _ ⟨ha, G0, B, G, δ, h, st, post_imp (post_fl st p) fun d h1 G1 H1 af q v n => q _ G1 H1 (st.setN af i n) (Same.refl _)⟩
theorem rs_setLcF {i : Nat} {vs : List Nat} {bind : D → DE → Option DE} {g : TG} (bd : BindD c vs g bind) (Dn : Ends) (σ : L2.St) (H : Hp) (x : rs c W nw (sSet i (eFz (eLc vs fs bind ga f))) Dn σ H) : tAsg (tLc (ri c W fs) g (rt c WF ga) (rd c WF f) vs) (gName i) Dn σ H := by
  obtain ⟨ha, G0, B, G, δ, h, st, p⟩ := x
  refine rn_lc bd σ H _ ⟨ha, G0, B, G, δ, h, st, ?_⟩
  have p2 := post_fl st p
  unfold eFz at p2
  cases q : eLc vs fs bind ga f δ h with
  | ok d h1 =>
    rw [q] at p2
    intro G1 H1 af v n
    obtain ⟨G2, af2, dv⟩ := af_fz st.hne af n
    exact p2 G2 H1 af2 _ G2 H1 ((st.to af2).setD i dv) (Same.refl _)
  | exc n fs h1 => rw [q] at p2; exact p2
  | bad => rw [q] at p2; exact p2
section
variable {i : Nat} {y : Str} {py : Pos} {elt tg iter : Expr} {ifs : List Expr} {scope : Scope} {own : List (Str × Nat)} {spos : Pos} {bind : D → DE → Option DE} {g : TG}
theorem ds_setLc (hc : X.calm = true) (hN : X.N.Nodup) (hy : X.N[i]? = some y) (hyl : X.env.scope.names.lookup y = some .local)
    (hsw : swapsWith (.ListComp elt [⟨tg, iter, ifs, 0⟩] scope pos) (some (.Name y py)) spos.line X.env = pure true) (hi : PI X tg iter (ri c W fs)) (ok : BlkOk X.N X.env.scope scope own) (bd : BindD c (own.map (·.2)) g bind)
    (hg : ∀ (s : Shared) (H : Hp) (C : Addr) (cl : List (Str × Addr)) (fp : List Addr), PG (X.blk s H scope (compEnvC scope cl C X.env) fp) tg g) (ht : ∀ (s : Shared) (H : Hp) (C : Addr) (cl : List (Str × Addr)) (fp : List Addr), PTs (X.blk s H scope (compEnvC scope cl C X.env) fp) ifs (rt c WF ga))
    (he : ∀ (s : Shared) (H : Hp) (C : Addr) (cl : List (Str × Addr)) (fp : List Addr), PE (X.blk s H scope (compEnvC scope cl C X.env) fp) elt (rd c WF f)) (hs : ∀ x, foldedSetIterable iter X.env x = pure x := by intro _; rfl) :
    PS X (.Assign [.Name y py] (.ListComp elt [⟨tg, iter, ifs, 0⟩] scope pos) spos) (rs c W nw (sSet i (eLc (own.map (·.2)) fs bind ga f))) := ps_to (ps_setLc hc hN hy hyl hsw hi ok hg ht he hs) (rs_setLc bd)
theorem ds_setLcF (hc : X.calm = true) (hN : X.N.Nodup) (hy : X.N[i]? = some y) (hyl : X.env.scope.names.lookup y = some .local)
    (hsw : swapsWith (.ListComp elt [⟨tg, iter, ifs, 0⟩] scope pos) (some (.Name y py)) spos.line X.env = pure true) (hi : PI X tg iter (ri c W fs)) (ok : BlkOk X.N X.env.scope scope own) (bd : BindD c (own.map (·.2)) g bind)
    (hg : ∀ (s : Shared) (H : Hp) (C : Addr) (cl : List (Str × Addr)) (fp : List Addr), PG (X.blk s H scope (compEnvC scope cl C X.env) fp) tg g) (ht : ∀ (s : Shared) (H : Hp) (C : Addr) (cl : List (Str × Addr)) (fp : List Addr), PTs (X.blk s H scope (compEnvC scope cl C X.env) fp) ifs (rt c WF ga))
    (he : ∀ (s : Shared) (H : Hp) (C : Addr) (cl : List (Str × Addr)) (fp : List Addr), PE (X.blk s H scope (compEnvC scope cl C X.env) fp) elt (rd c WF f)) (hs : ∀ x, foldedSetIterable iter X.env x = pure x := by intro _; rfl) :
    PS X (.Assign [.Name y py] (.ListComp elt [⟨tg, iter, ifs, 0⟩] scope pos) spos) (rs c W nw (sSet i (eFz (eLc (own.map (·.2)) fs bind ga f)))) := ps_to (ps_setLc hc hN hy hyl hsw hi ok hg ht he hs) (rs_setLcF bd)
end
mutual
def frz : D → D
  | .hl ds => .lst (frzL ds)
  | d => d
def frzL : List D → List D
  | [] => []
  | d :: ds => frz d :: frzL ds
end
def addG (G H : Hp) (fp : List Addr) : Hp := fun b => if b ∈ fp then H b else G b
theorem addG_in {G H : Hp} {fp : List Addr} {b : Addr} (h : b ∈ fp) : addG G H fp b = H b := if_pos h
theorem addG_out {G H : Hp} {fp : List Addr} {b : Addr} (h : b ∉ fp) : addG G H fp b = G b := if_neg h
theorem addG_same {G H : Hp} {fp : List Addr} (s : Same G H) : Same G (addG G H fp) := fun b o e => by
  by_cases h : b ∈ fp
  · rw [addG_in h]; exact s b o e
  · rw [addG_out h]; exact e
theorem addG_gh {G H : Hp} {fp : List Addr} (s : Same G H) : Same (addG G H fp) H := fun b o e => by
  by_cases h : b ∈ fp
  · rw [addG_in h] at e; exact e
  · rw [addG_out h] at e; exact s b o e
theorem frz_id {d : D} (h : d.fr = true) : frz d = d := by
  cases d <;> first | rfl | (unfold frz; rfl) | cases h
theorem own_frz {ha : Option Addr} {G H : Hp} {v : V} {d : D} {fp : List Addr} {all : List Addr} (s : Same G H) (o : Own c ha G H v d fp) : (∀ b ∈ fp, b ∈ all) → Dq c ha (addG G H all) v (frz d) := by
  refine Own.rec (motive_1 := fun v d fp _ => (∀ b ∈ fp, b ∈ all) → Dq c ha (addG G H all) v (frz d)) (motive_2 := fun xs ds fp _ => (∀ b ∈ fp, b ∈ all) → DqAll c ha (addG G H all) xs (frzL ds)) ?_ ?_ ?_ ?_ o
  · intro v d h _
    rw [frz_id (dq_fr h)]
    exact dq_mono (addG_same s) h
  · intro a xs ds fp h1 h2 _ ih k
    unfold frz
    exact .lst ((addG_in (k a List.mem_cons_self)).trans h1) (ih fun b hb => k b (List.mem_cons_of_mem _ hb))
  · intro _
    unfold frzL
    exact .nil
  · intro v d f xs ds fp _ _ i1 i2 k
    unfold frzL
    exact .cons (i1 fun b hb => k b (List.mem_append_left _ hb)) (i2 fun b hb => k b (List.mem_append_right _ hb))
def frzS (i : Nat) (δ : DE) : DE := match δ[i]? with
  | some (some (.hl ds)) => δ.set i (some (.lst (frzL ds)))
  | _ => δ
theorem Sta.frz {ha : Option Addr} {G0 B G H : Hp} {σ : L2.St} {δ : DE} {h : D} (st : Sta c ha G0 B G H σ δ h) (i : Nat) : ∃ G', Sta c ha G0 B G' H σ (frzS i δ) h ∧ Same G G' := by
  unfold frzS
  split
  · rename_i ds e
    obtain ⟨fp, os, n, k⟩ := st.sl
    obtain ⟨v, f1, f, f2, e1, rfl, o, zoom⟩ := ownS_slot os e rfl
    have sG := addG_same (fp := f) st.gh
    have n2 := List.nodup_append.mp n
    have n3 := List.nodup_append.mp n2.2.1
    have hf : ∀ b ∈ f, b ∈ f1 ++ (f ++ f2) := fun b hb => List.mem_append_right _ (List.mem_append_left _ hb)
    refine ⟨addG G H f, ⟨⟨f1 ++ ([] ++ f2), ?_, ?_, fun a hx => k a ?_⟩, ⟨st.mv.gg.trans sG, addG_gh st.gh, fun a hn => ?_, st.mv.dm⟩, st.bt, hok_keep st.hd sG fun a e => ⟨?_, rfl⟩, st.hb⟩, sG⟩
    · have z := zoom (G' := addG G H f) (H' := H) sG (fun b hb => ⟨rfl, ?_⟩) (.frz (by have z := own_frz (all := f) st.gh o fun b hb => hb; unfold Fw.frz at z; exact z))
      · have e2 : σ.set i (some v) = σ := by
          refine List.ext_getElem? fun j => ?_
          by_cases hj : i = j
          · subst hj
            rw [e1, List.getElem?_set_self (List.getElem?_eq_some_iff.mp e1).1]
          · rw [List.getElem?_set_ne hj]
        rw [e2] at z
        exact z
      · have hb2 : b ∈ f1 ++ (f ++ f2) := (List.mem_append.mp hb).elim (List.mem_append_left _) fun z => List.mem_append_right _ (List.mem_append_right _ z)
        rw [addG_out fun z => (List.mem_append.mp hb).elim (fun q => n2.2.2 b q b (List.mem_append_left _ z) rfl) fun q => n3.2.2 b z b q rfl]
        exact (ownS_at os b hb2).1
    · rw [List.nil_append]
      exact List.nodup_append.mpr ⟨n2.1, n3.2.1, fun a h1 b h2 => n2.2.2 a h1 b (List.mem_append_right _ h2)⟩
    · rw [List.nil_append] at hx
      exact (List.mem_append.mp hx).elim (List.mem_append_left _) fun z => List.mem_append_right _ (List.mem_append_right _ z)
    · rw [addG_out fun z => hn (k a (hf a z)).1]
      exact st.mv.nw a hn
    · rw [addG_out fun z => (k a (hf a z)).2 e]
      subst e
      exact (hok_at st.hd).1
  · exact ⟨G, st, Same.refl _⟩
/-- ahead of a statement -/
def sFrz (i : Nat) (u : SF) : SF := fun δ h => u (frzS i δ) h
theorem ds_frz (i : Nat) (p : PS X s (rs c W nw u)) : PS X s (rs c W nw (sFrz i u)) := ps_to p fun Dn σ H x => by
  obtain ⟨ha, G0, B, G, δ, h, st, q⟩ := x
  obtain ⟨G', st', sG⟩ := st.frz i
  exact ⟨ha, G0, B, G', _, h, st', posts_from sG q⟩
def sRet (f : EF D) : SF := fun δ h => (f δ h).fl δ fun d h1 => .ret d h1
theorem ds_ret (he : PE X e (rd c W f)) : PS X (.Return (some e) pos) (rs c W false (sRet f)) := ps_to (ps_ret he) fun Dn σ H x => by
  obtain ⟨ha, G0, B, G, δ, h, st, p⟩ := x
  exact ⟨ha, G0, B, G, δ, h, st, post_imp (post_fl st p) fun d h1 G1 H1 af q v dv => q v G1 H1 (st.to af).af dv⟩
theorem ds_retW (he : PE X e (rn c W f)) : PS X (.Return (some e) pos) (rs c W true (sRet f)) := ps_to (ps_ret he) fun Dn σ H x => by
  obtain ⟨ha, G0, B, G, δ, h, st, p⟩ := x
  refine ⟨ha, G0, B, G, δ, h, st, post_imp (post_fl st p) fun d h1 G1 H1 af q v n => q v G1 H1 (st.to af).af ?_⟩
  obtain ⟨fp, o, n1, n2⟩ := nw_own n
  exact ⟨fp, o, n1, fun a hx => ⟨st.old (n2 a hx), st.ne_ha (n2 a hx)⟩⟩
/-- return x, the lists in x with it -/
def sRetV (i : Nat) : SF := fun δ h => match δ[i]? with
  | some (some (.hl ds)) => .ret (.hl ds) h
  | _ => .bad
theorem ds_retV {i : Nat} {x : Str} {p : Pos} (hN : X.N[i]? = some x) (hv : Vis X.env.scope x) (hd : (x == ("__debug__" : Str)) = false := by decide) (hcd : (x == ("__classdict__" : Str)) = false := by decide) : PS X (.Return (some (.Name x p)) pos) (rs c W true (sRetV i)) := ps_to (ps_ret (pe_var hN hv hd hcd)) fun Dn σ H x => by
  obtain ⟨ha, G0, B, G, δ, h, st, p⟩ := x
  unfold sRetV at p
  split at p
  · rename_i d e
    obtain ⟨fp, os, n, k⟩ := st.sl
    obtain ⟨v, f1, f, f2, e1, rfl, o, _⟩ := ownS_slot os e rfl
    exact ⟨v, e1, p v G H st.af ⟨f, o, (List.nodup_append.mp (List.nodup_append.mp n).2.1).1, fun a hx => k a (List.mem_append_right _ (List.mem_append_left _ hx))⟩⟩
  · exact p.elim
def sRetN : SF := fun _ h => .ret .non h
theorem ds_retN : PS X (.Return none pos) (rs c W false sRetN) := ps_to ps_retN fun Dn σ H x => by
  obtain ⟨ha, G0, B, G, δ, h, st, p⟩ := x
  exact p .non G H st.af .non
def sIf (g : EF Bool) (u v : SF) : SF := fun δ h => (g δ h).fl δ fun b h1 => if b then u δ h1 else v δ h1
theorem ds_if {ss2 : List Stmt} (hg : PT X e (rt c W g)) (p : PSs X ss (rs c W nw u)) (q : PSs X ss2 (rs c W nw v)) : PS X (.If e ss ss2 pos) (rs c W nw (sIf g u v)) := ps_to (ps_if hg p q) fun Dn σ H x => by
  obtain ⟨ha, G0, B, G, δ, h, st, p⟩ := x
  refine ⟨ha, G0, B, G, δ, h, st, post_imp (post_fl st p) fun b h1 G1 H1 af q => ?_⟩
  cases b with
  | true => exact ⟨ha, G0, B, G1, δ, h1, st.to af, q⟩
  | false => exact ⟨ha, G0, B, G1, δ, h1, st.to af, q⟩
theorem ds_pass : PS X (.Pass pos) (rs c W nw sNil) := ps_to ps_pass fun Dn σ H ⟨ha, G0, B, G, δ, h, st, p⟩ => p σ G H st (Same.refl _)
def sBrk : SF := fun δ h => .brk δ h
def sCt : SF := fun δ h => .ct δ h
theorem ds_brk : PS X (.Break pos) (rs c W nw sBrk) := ps_to ps_break fun Dn σ H ⟨ha, G0, B, G, δ, h, st, p⟩ => p σ G H st (Same.refl _)
theorem ds_ct : PS X (.Continue pos) (rs c W nw sCt) := ps_to ps_continue fun Dn σ H ⟨ha, G0, B, G, δ, h, st, p⟩ => p σ G H st (Same.refl _)
def sDrop (f : EF D) : SF := fun δ h => (f δ h).fl δ fun _ h1 => .nx δ h1
theorem ds_drop (he : PE X e (rd c W f)) (hs : swapsWith e none pos.line X.env = pure false := by rfl) : PS X (.Expr e pos) (rs c W nw (sDrop f)) := ps_to (ps_expr he hs) fun Dn σ H x => by
  obtain ⟨ha, G0, B, G, δ, h, st, p⟩ := x
  exact ⟨ha, G0, B, G, δ, h, st, post_imp (post_fl st p) fun d h1 G1 H1 af q v dv => q σ G1 H1 (st.to af) (Same.refl _)⟩
def sAug (i : Nat) (k : D → D → Option D) (f : EF D) : SF := fun δ h => match δ[i]? with
  | some (some x) => if x.fr then (f δ h).fl δ fun y h1 => match k x y with
    | some z => .nx (δ.set i (some z)) h1
    | none => .bad
    else .bad
  | _ => .bad
theorem ip_mul : PIp X .Mult (rI CMulW fun i j => .int (i * j)) := fun pins s σ H x y v u Q I rx ry h => by
  obtain ⟨i, j, rfl, rfl, hc, q⟩ := h
  obtain ⟨t, rfl⟩ := rx
  obtain ⟨t', rfl⟩ := ry
  exact imul_int ⟨.int _, H, I.tok _, ⟨_, rfl⟩, q⟩ hc.ok
theorem rs_aug {i : Nat} {ti : TIp} {k : D → D → Option D} (hr : OpD c ti k) (Dn : Ends) (σ : L2.St) (H : Hp) (x : rs c W nw (sAug i k f) Dn σ H) : tAug i (rd c W f) ti Dn σ H := by
  obtain ⟨ha, G0, B, G, δ, h, st, p⟩ := x
  unfold sAug at p
  split at p
  · rename_i d e
    split at p
    · rename_i hf
      obtain ⟨fp, o, n, kk⟩ := st.sl
      obtain ⟨v, f1, f, f2, h1, _, h3, _⟩ := ownS_slot o e (fr_nm hf)
      have dv := (own_fr h3 hf).1
      refine ⟨v, h1, ha, G0, B, G, δ, h, st, post_imp (post_fl st p) fun y h1 G1 H1 af q w dw => ?_⟩
      cases z : k d y with
      | none => rw [z] at q; exact q.elim
      | some r =>
        rw [z] at q
        refine hr af.gh (dq_mono af.gg dv) dw z fun u G' H' m s du => ?_
        exact q _ G' H' ((((st.to af).to (.of af.gh af.hd m s))).setD i du) m.gg
    · exact p.elim
  · exact p.elim
theorem ds_aug {i : Nat} {x : Str} {op : Operator} {ti : TIp} {k : D → D → Option D} {pos' : Pos} (hr : OpD c ti k) (hN : X.N.Nodup) (hi : X.N[i]? = some x) (hx : Loc X.env.scope x) (he : PE X e (rd c W f)) (ho : PIp X op ti) (hf : X.fn x = true ∨ X.env.scope.names.lookup x = some .local := by first | exact .inl rfl | exact .inr rfl | assumption) :
    PS X (.AugAssign (.Name x pos') op e pos) (rs c W nw (sAug i k f)) := ps_to (ps_aug hN hi hx he ho hf) (rs_aug hr)
def sAsg (bind : D → DE → Option DE) (f : EF D) : SF := fun δ h => (f δ h).fl δ fun d h1 => match bind d δ with
  | some δ2 => .nx δ2 h1
  | none => .bad
theorem ds_asg {tg : Expr} {gg : TG} {vs : List Nat} {bind : D → DE → Option DE} (bd : BindD c vs gg bind) (he : PE X e (rd c W f)) (hg : PG X tg gg) (hs : swapsWithSole [tg] e pos.line X.env = pure false := by rfl) (hw : swappedStores [tg] e X.env = pure none := by rfl)
    (h1 : (assignEach [tg] X.env).map (·.2) = [assign tg X.env] := by rfl) : PS X (.Assign [tg] e pos) (rs c W nw (sAsg bind f)) := ps_to (ps_asg he hg hs hw h1) fun Dn σ H x => by
  obtain ⟨ha, G0, B, G, δ, h, st, p⟩ := x
  refine ⟨ha, G0, B, G, δ, h, st, post_imp (post_fl st p) fun d h1 G1 H1 af q v dv => ?_⟩
  cases z : bind d δ with
  | none => rw [z] at q; exact q.elim
  | some δ2 =>
    rw [z] at q
    exact bd (st.to af) dv z fun σ2 st2 _ => q σ2 G1 H1 st2 (Same.refl _)
def sPar (i j : Nat) (fs : EF (List D)) : SF := fun δ h => (fs δ h).fl δ fun ds h1 => match ds with
  | [x, y] => .nx ((δ.set i (some x)).set j (some y)) h1
  | _ => .bad
theorem ds_par {i j : Nat} {x y : Str} {px py pt : Pos} {kt k2 pt2} (hc : X.calm = true) (hN : X.N.Nodup) (hi : X.N[i]? = some x) (hj : X.N[j]? = some y) (hij : i ≠ j)
    (hx : X.env.scope.names.lookup x = some .local) (hy : X.env.scope.names.lookup y = some .local) (ha : PA X [a, b] (ra c W fs))
    (hw : swappedStores [.Tuple [.Name x px, .Name y py] kt pt] (.Tuple [a, b] k2 pt2) X.env = pure (some [x, y]) := by rfl)
    (hs : swapsWithSole [.Tuple [.Name x px, .Name y py] kt pt] (.Tuple [a, b] k2 pt2) pos.line X.env = pure false := by rfl) :
    PS X (.Assign [.Tuple [.Name x px, .Name y py] kt pt] (.Tuple [a, b] k2 pt2) pos) (rs c W nw (sPar i j fs)) := ps_to (ps_par hc hN hi hj hij hx hy ha hw hs) fun Dn σ H x => by
  obtain ⟨ha, G0, B, G, δ, h, st, p⟩ := x
  refine ⟨ha, G0, B, G, δ, h, st, post_imp (post_fl st p) fun ds h1 G1 H1 af q vs dvs => ?_⟩
  split at q
  · obtain ⟨v, w, rfl, dv, dw⟩ := two_of dvs
    exact ⟨v, w, rfl, q _ G1 H1 (((st.to af).setD i dv).setD j dw) (Same.refl _)⟩
  · exact q.elim
def sPar3 (i j l : Nat) (fs : EF (List D)) : SF := fun δ h => (fs δ h).fl δ fun ds h1 => match ds with
  | [x, y, z] => .nx (((δ.set i (some x)).set j (some y)).set l (some z)) h1
  | _ => .bad
def forGo (bind : D → DE → Option DE) (body : SF) : List D → SF
  | [], δ, h => .nx δ h
  | x :: xs, δ, h => match bind x δ with
    | none => .bad
    | some δ2 => match body δ2 h with
      | .nx δ3 h3 => forGo bind body xs δ3 h3
      | .ct δ3 h3 => forGo bind body xs δ3 h3
      | .brk δ3 h3 => .nx δ3 h3
      | r => r
def sFor (it : EF (List D)) (bind : D → DE → Option DE) (body : SF) : SF := fun δ h => (it δ h).fl δ fun ds h1 => forGo bind body ds δ h1
theorem rs_for {vs : List Nat} {bind : D → DE → Option DE} {gg : TG} (bd : BindD c vs gg bind) (Dn : Ends) (σ : L2.St) (H : Hp) (x : rs c W nw (sFor fs bind u) Dn σ H) : tFor (ri c W fs) gg (rs c W nw u) Dn σ H := by
  obtain ⟨ha, G0, B, G, δ, h, st, p⟩ := x
  refine ⟨ha, G0, B, G, δ, h, st, post_imp (post_fl st p) fun ds h1 G1 H1 af q J w => ?_⟩
  refine ⟨fun i m σ H => m = ds.length - i ∧ i ≤ ds.length ∧ ∃ G δ h, Sta c ha G0 B G H σ δ h ∧ Same G1 G ∧ PostS c ha W nw G0 B G (forGo bind u (ds.drop i) δ h) Dn, ⟨_, rfl, Nat.zero_le _, G1, δ, h1, st.to af, Same.refl _, q⟩, ?_⟩
  rintro i m σ H ⟨rfl, hi, G, δ, h, st, s1, q⟩
  by_cases hlt : i < ds.length
  · refine .inr ⟨w.go i G H s1 st.gh hlt, fun σ' H' => i + 1 ≤ ds.length ∧ ∃ G δ h, Sta c ha G0 B G H' σ' δ h ∧ Same G1 G ∧ PostS c ha W nw G0 B G (forGo bind u (ds.drop (i + 1)) δ h) Dn, fun σ' H' hn => ⟨_, by omega, rfl, hn⟩, fun x H' y => ?_⟩
    have ei : ds[i]? = some ds[i] := List.getElem?_eq_getElem hlt
    obtain ⟨G2, m2, s2, dx⟩ := w.yld i G H x H' _ s1 st.gh ei y
    have af2 : Af c ha G H G2 H' h := .of st.gh st.hd m2 s2
    have ed : ds.drop i = ds[i] :: ds.drop (i + 1) := (List.drop_eq_getElem_cons hlt)
    rw [ed] at q
    unfold forGo at q
    cases qb : bind ds[i] δ with
    | none => rw [qb] at q; exact q.elim
    | some δ2 =>
      simp only [qb] at q
      refine bd (st.to af2) dx qb fun σ2 st2 _ => ⟨ha, G0, B, G2, δ2, h, st2, ?_⟩
      cases e : u δ2 h with
      | nx δ3 h3 =>
        rw [e] at q
        exact fun σ3 G3 H3 st3 s3 => ⟨hlt, G3, δ3, h3, st3, (s1.trans m2.gg).trans s3, posts_from (m2.gg.trans s3) q⟩
      | ct δ3 h3 =>
        rw [e] at q
        exact fun σ3 G3 H3 st3 s3 => ⟨hlt, G3, δ3, h3, st3, (s1.trans m2.gg).trans s3, posts_from (m2.gg.trans s3) q⟩
      | brk δ3 h3 =>
        rw [e] at q
        exact fun σ3 G3 H3 st3 s3 => q σ3 G3 H3 st3 (m2.gg.trans s3)
      | ret d h3 => rw [e] at q; exact q
      | exc n f δ3 h3 => rw [e] at q; exact posts_from m2.gg q
      | bad => rw [e] at q; exact q.elim
  · have hi2 : i = ds.length := by omega
    subst hi2
    rw [List.drop_length] at q
    exact .inl ⟨w.stop G H s1 st.gh, q σ G H st (Same.refl _)⟩
theorem ds_for {tg iter : Expr} {vs : List Nat} {bind : D → DE → Option DE} {gg : TG} (hp : PassesOwn (model X.prog X.w) X.A X.env X.xe) (hc : X.calm = true) (bd : BindD c vs gg bind) (hi : PI X tg iter (ri c W fs)) (hg : PG X tg gg) (hb : PSs X ss (rs c W nw u))
    (hs : ∀ x, foldedSetIterable iter X.env x = pure x := by intro _; rfl) : PS X (.For tg iter ss [] pos) (rs c W nw (sFor fs bind u)) := ps_to (ps_for hp hc hi hg hb hs) (rs_for bd)
def whGo (g : EF Bool) (body : SF) : Nat → SF
  | 0, _, _ => .bad
  | n + 1, δ, h => (g δ h).fl δ fun b h1 => if b then match body δ h1 with
      | .nx δ3 h3 => whGo g body n δ3 h3
      | .ct δ3 h3 => whGo g body n δ3 h3
      | .brk δ3 h3 => .nx δ3 h3
      | r => r
    else .nx δ h1
def sWh (n : Nat) (g : EF Bool) (body : SF) : SF := whGo g body n
theorem rs_wh {n : Nat} (Dn : Ends) (σ : L2.St) (H : Hp) (x : rs c W nw (sWh n g u) Dn σ H) : tWhile (rt c W g) (rs c W nw u) Dn σ H := by
  obtain ⟨ha, G0, B, G, δ, h, st, p⟩ := x
  refine ⟨fun m σ H => ∃ G δ h, Sta c ha G0 B G H σ δ h ∧ PostS c ha W nw G0 B G (whGo g u m δ h) Dn, ⟨n, G, δ, h, st, p⟩, ?_⟩
  rintro m σ H ⟨G, δ, h, st, q⟩
  cases m with
  | zero => exact q.elim
  | succ m =>
    unfold whGo at q
    refine ⟨ha, G0, B, G, δ, h, st, post_imp (post_fl st q) fun b h1 G1 H1 af q1 => ?_⟩
    cases b with
    | false => exact q1 σ G1 H1 (st.to af) (Same.refl _)
    | true =>
      refine ⟨fun σ' H' => ∃ G δ h, Sta c ha G0 B G H' σ' δ h ∧ PostS c ha W nw G0 B G (whGo g u m δ h) Dn, fun σ' H' hn => ⟨m, Nat.lt_succ_self _, hn⟩, ha, G0, B, G1, δ, h1, st.to af, ?_⟩
      rw [if_pos rfl] at q1
      cases e : u δ h1 with
      | nx δ3 h3 =>
        rw [e] at q1
        exact fun σ3 G3 H3 st3 s3 => ⟨G3, δ3, h3, st3, posts_from s3 q1⟩
      | ct δ3 h3 =>
        rw [e] at q1
        exact fun σ3 G3 H3 st3 s3 => ⟨G3, δ3, h3, st3, posts_from s3 q1⟩
      | brk δ3 h3 =>
        rw [e] at q1
        exact fun σ3 G3 H3 st3 s3 => q1 σ3 G3 H3 st3 s3
      | ret d h3 => rw [e] at q1; exact q1
      | exc n f δ3 h3 => rw [e] at q1; exact q1
      | bad => rw [e] at q1; exact q1.elim
theorem ds_wh {n : Nat} (hp : PassesOwn (model X.prog X.w) X.A X.env X.xe) (hg : PT X e (rt c W g)) (hb : PSs X ss (rs c W nw u)) : PS X (.While e ss [] pos) (rs c W nw (sWh n g u)) := ps_to (ps_while hp hg hb) rs_wh
end
end Fw
set_option maxHeartbeats 2000000
namespace Fw
open PySem PySem.Spec PyProof.Rows L2 Dz Vz
def getP : D → List Nat → Option D
  | d, [] => some d
  | .hl ds, j :: js => match ds[j]? with
    | some d => getP d js
    | none => none
  | _, _ :: _ => none
def setP : D → List Nat → D → D
  | _, [], x => x
  | .hl ds, j :: js, x => match ds[j]? with
    | some d => .hl (ds.set j (setP d js x))
    | none => .hl ds
  | d, _ :: _, _ => d
/-- v stands at the place js below v0 -/
def VAt (ha : Option Addr) (H : Hp) : V → List Nat → V → Prop
  | v0, [], v => v = v0
  | v0, j :: js, v => ∃ a xs x, v0 = .ref a ∧ ha ≠ some a ∧ H a = some (.lst xs) ∧ xs[j]? = some x ∧ VAt ha H x js v
section
variable {c : Cn} {ha : Option Addr} {G H G' H' : Hp}
theorem vat_keep (k : ∀ a o, ha ≠ some a → H a = some o → H' a = some o) : ∀ {js : List Nat} {v0 v : V}, VAt ha H v0 js v → VAt ha H' v0 js v
  | [], _, _, h => h
  | _ :: _, _, _, ⟨a, xs, x, h1, h2, h3, h4, h5⟩ => ⟨a, xs, x, h1, h2, k a _ h2 h3, h4, vat_keep k h5⟩
theorem vat_inj : ∀ {js : List Nat} {v0 v w : V}, VAt ha H v0 js v → VAt ha H v0 js w → v = w
  | [], _, _, _, h, h' => h.trans h'.symm
  | _ :: _, _, _, _, ⟨a, xs, x, h1, h2, h3, h4, h5⟩, ⟨b, ys, y, k1, k2, k3, k4, k5⟩ => by
    subst h1
    cases k1
    rw [h3] at k3
    cases k3
    rw [h4] at k4
    cases k4
    exact vat_inj h5 k5
theorem vat_app : ∀ {js : List Nat} {v0 v : V} {j : Nat} {a : Addr} {xs : List V} {x : V}, VAt ha H v0 js v → v = .ref a → ha ≠ some a → H a = some (.lst xs) → xs[j]? = some x → VAt ha H v0 (js ++ [j]) x
  | [], _, _, j, a, xs, x, h, e, n, h1, h2 => ⟨a, xs, x, by rw [← e]; exact h.symm, n, h1, h2, rfl⟩
  | _ :: _, _, _, j, a, xs, x, ⟨b, ys, y, k1, k2, k3, k4, k5⟩, e, n, h1, h2 => ⟨b, ys, y, k1, k2, k3, k4, vat_app k5 e n h1 h2⟩
theorem getP_app : ∀ {js : List Nat} {d : D} {j : Nat} {ds : List D} {x : D}, getP d js = some (.hl ds) → ds[j]? = some x → getP d (js ++ [j]) = some x
  | [], d, j, ds, x, e, h => by
    unfold getP at e
    cases e
    show getP (.hl ds) [j] = some x
    unfold getP
    rw [h]
    unfold getP
    rfl
  | i :: js, d, j, ds, x, e, h => by
    cases d with
    | hl es =>
      unfold getP at e
      show getP (.hl es) (i :: (js ++ [j])) = some x
      unfold getP
      cases q : es[i]? with
      | none => rw [q] at e; cases e
      | some y =>
        rw [q] at e
        exact getP_app (js := js) e h
    | _ => unfold getP at e; cases e
theorem own_zoom : ∀ {js : List Nat} {v0 : V} {d d' : D} {fp : List Addr}, Own c ha G H v0 d fp → (∀ b ∈ fp, ha ≠ some b) → getP d js = some d' →
    ∃ v f1 f f2, VAt ha H v0 js v ∧ fp = f1 ++ (f ++ f2) ∧ Own c ha G H v d' f ∧ ∀ {G' H' : Hp} {f' : List Addr} {d'' : D}, Same G G' → (∀ b ∈ f1 ++ f2, H' b = H b ∧ G' b = none) → Own c ha G' H' v d'' f' → Own c ha G' H' v0 (setP d js d'') (f1 ++ (f' ++ f2))
  | [], v0, d, d', fp, o, n, e => by
    unfold getP at e
    cases e
    refine ⟨v0, [], fp, [], rfl, by simp, o, fun {G' H' f' d''} s k o' => ?_⟩
    unfold setP
    rw [List.nil_append, List.append_nil]
    exact o'
  | j :: js, v0, d, d', fp, o, n, e => by
    cases o with
    | frz h => cases h <;> (unfold getP at e; cases e)
    | @hl a xs ds fpa h1 h2 h3 =>
      unfold getP at e
      cases q : ds[j]? with
      | none => rw [q] at e; cases e
      | some dj =>
        rw [q] at e
        obtain ⟨x, g1, g, g2, e1, e2, o2, zoom⟩ := ownAll_item h3 q
        subst e2
        obtain ⟨v, f1, f, f2, k1, k2, k3, zoom2⟩ := own_zoom (js := js) o2 (fun b hb => n b (List.mem_cons_of_mem _ (List.mem_append_right _ (List.mem_append_left _ hb)))) e
        subst k2
        refine ⟨v, a :: (g1 ++ f1), f, f2 ++ g2, ⟨a, xs, x, rfl, n a List.mem_cons_self, h1, e1, k1⟩, by simp [List.append_assoc], k3, fun {G' H' f' d''} s k o' => ?_⟩
        have o3 := zoom2 s (fun b hb => k b ?_) o'
        · have a3 := zoom s (fun b hb => k b ?_) o3
          · unfold setP
            rw [q]
            have ex : xs.set j x = xs := by
              refine List.ext_getElem? fun i => ?_
              by_cases hj : j = i
              · subst hj
                rw [e1, List.getElem?_set_self (List.getElem?_eq_some_iff.mp e1).1]
              · rw [List.getElem?_set_ne hj]
            rw [ex] at a3
            have ka := k a (List.mem_append_left _ List.mem_cons_self)
            have r := Own.hl (ka.1.trans h1) ka.2 a3
            have ef : a :: (g1 ++ ((f1 ++ (f' ++ f2)) ++ g2)) = (a :: (g1 ++ f1)) ++ (f' ++ (f2 ++ g2)) := by simp [List.append_assoc]
            rw [← ef]
            exact r
          · rcases List.mem_append.mp hb with z | z
            · exact List.mem_append_left _ (List.mem_cons_of_mem _ (List.mem_append_left _ z))
            · exact List.mem_append_right _ (List.mem_append_right _ z)
        · rcases List.mem_append.mp hb with z | z
          · exact List.mem_append_left _ (List.mem_cons_of_mem _ (List.mem_append_right _ z))
          · exact List.mem_append_right _ (List.mem_append_left _ z)
end
/-- a place: a slot, a way down -/
abbrev Pl := Nat × List Nat
def plD (δ : DE) (p : Pl) : Option D := match δ[p.1]? with
  | some (some d) => if d.nm then getP d p.2 else none
  | _ => none
def plS (δ : DE) (p : Pl) (x : D) : DE := match δ[p.1]? with
  | some (some d) => δ.set p.1 (some (setP d p.2 x))
  | _ => δ
def PlV (ha : Option Addr) (σ : L2.St) (H : Hp) (p : Pl) (v : V) : Prop := ∃ v0, σ[p.1]? = some (some v0) ∧ VAt ha H v0 p.2 v
section
variable {c : Cn} {ha : Option Addr} {G0 B G H G1 H1 : Hp} {σ : L2.St} {δ : DE} {h h1 : D}
/-- what stands at a place, and the place filled anew -/
theorem Sta.place {p : Pl} {d : D} (st : Sta c ha G0 B G H σ δ h) (e : plD δ p = some d) : ∃ v f1 f f2, PlV ha σ H p v ∧ Own c ha G H v d f ∧ (f1 ++ (f ++ f2)).Nodup ∧ (∀ a ∈ f1 ++ (f ++ f2), B a = none ∧ ha ≠ some a ∧ G a = none ∧ H a ≠ none) ∧
    ∀ {G' H' : Hp} {f' : List Addr} {d' : D}, Same G G' → (∀ b ∈ f1 ++ f2, H' b = H b ∧ G' b = none) → Own c ha G' H' v d' f' → OwnS c ha G' H' σ (plS δ p d') (f1 ++ (f' ++ f2)) := by
  obtain ⟨fp, os, n, k⟩ := st.sl
  unfold plD at e
  split at e
  · rename_i d0 e0
    by_cases nm : d0.nm = true
    case neg => rw [if_neg nm] at e; cases e
    rw [if_pos nm] at e
    obtain ⟨v0, a1, a, a2, e1, rfl, o, zoom⟩ := ownS_slot os e0 nm
    obtain ⟨v, f1, f, f2, k1, rfl, k3, zoom2⟩ := own_zoom o (fun b hb => (k b (List.mem_append_right _ (List.mem_append_left _ hb))).2) e
    have ef : a1 ++ ((f1 ++ (f ++ f2)) ++ a2) = (a1 ++ f1) ++ (f ++ (f2 ++ a2)) := by simp [List.append_assoc]
    refine ⟨v, a1 ++ f1, f, f2 ++ a2, ⟨v0, e1, k1⟩, k3, by rw [← ef]; exact n, fun b hb => ?_, fun {G' H' f' d'} s kk o' => ?_⟩
    · rw [← ef] at hb
      obtain ⟨z1, z2⟩ := k b hb
      obtain ⟨z3, z4⟩ := ownS_at os b hb
      exact ⟨z1, z2, z3, z4⟩
    · have o3 := zoom2 s (fun b hb => kk b ?_) o'
      · have os3 := zoom s (fun b hb => kk b ?_) o3
        · unfold plS
          rw [e0]
          have e2 : σ.set p.1 (some v0) = σ := by
            refine List.ext_getElem? fun j => ?_
            by_cases hj : p.1 = j
            · subst hj
              rw [e1, List.getElem?_set_self (List.getElem?_eq_some_iff.mp e1).1]
            · rw [List.getElem?_set_ne hj]
          rw [e2] at os3
          have eg : (a1 ++ f1) ++ (f' ++ (f2 ++ a2)) = a1 ++ ((f1 ++ (f' ++ f2)) ++ a2) := by simp [List.append_assoc]
          rw [eg]
          exact os3
        · rcases List.mem_append.mp hb with z | z
          · exact List.mem_append_left _ (List.mem_append_left _ z)
          · exact List.mem_append_right _ (List.mem_append_right _ z)
      · rcases List.mem_append.mp hb with z | z
        · exact List.mem_append_left _ (List.mem_append_right _ z)
        · exact List.mem_append_right _ (List.mem_append_left _ z)
  · cases e
theorem PlV.keep {p : Pl} {v : V} (x : PlV ha σ H p v) (af : Af c ha G H G1 H1 h1) : PlV ha σ H1 p v := by
  obtain ⟨v0, e, k⟩ := x
  exact ⟨v0, e, vat_keep (fun a o n e => af.bt a o n e) k⟩
theorem PlV.inj {p : Pl} {v w : V} (x : PlV ha σ H p v) (y : PlV ha σ H p w) : v = w := by
  obtain ⟨v0, e, k⟩ := x
  obtain ⟨w0, e', k'⟩ := y
  rw [e] at e'
  cases e'
  exact vat_inj k k'
/-- the list at a place is changed: new items es with their lists fe; the others stay -/
theorem Sta.change {p : Pl} {v : V} {ds : List D} (st : Sta c ha G0 B G H σ δ h) (e : plD δ p = some (.hl ds)) (pv : PlV ha σ H p v) :
    ∃ a xs f1 fd f2, v = .ref a ∧ H a = some (.lst xs) ∧ OwnAll c ha G H xs ds fd ∧ (f1 ++ ((a :: fd) ++ f2)).Nodup ∧ (∀ b ∈ f1 ++ ((a :: fd) ++ f2), B b = none ∧ ha ≠ some b ∧ G b = none ∧ H b ≠ none) ∧
      ∀ {G1 H1 : Hp} {h1 : D} {ys : List V} {es : List D} {fe : List Addr}, Af c ha G H G1 H1 h1 → OwnAll c ha G1 (upd H1 a (.lst ys)) ys es fe → (f1 ++ ((a :: fe) ++ f2)).Nodup → (∀ b ∈ fe, B b = none ∧ ha ≠ some b) → Sta c ha G0 B G1 (upd H1 a (.lst ys)) σ (plS δ p (.hl es)) h1 := by
  obtain ⟨w, f1, f, f2, k1, o, n, k, zoom⟩ := st.place e
  have ew := pv.inj k1
  subst ew
  cases o with
  | frz hq => cases hq
  | @hl a xs _ fd h1 h2 h3 =>
    refine ⟨a, xs, f1, fd, f2, rfl, h1, h3, n, k, fun {G1 H1 h1' ys es fe} af o2 n2 k2 => ?_⟩
    have ka := k a (List.mem_append_right _ (List.mem_append_left _ List.mem_cons_self))
    have na := List.nodup_append.mp n
    have nb := List.nodup_append.mp na.2.1
    have st1 := st.to af
    obtain ⟨ua, eua⟩ := ne_some ka.2.2.2
    have hna : H1 a ≠ none := some_ne (af.bt a _ ka.2.1 eua)
    have ga : G1 a = none := (af.mv.nw a ka.2.2.2).trans ka.2.2.1
    refine ⟨⟨f1 ++ ((a :: fe) ++ f2), zoom af.gg (fun b hb => ?_) (.hl upd_same ga o2), n2, fun b hb => ?_⟩, st1.mv.trans (Mv.put st1.gh ga hna), fun b o nb2 e2 => ?_, ?_, st1.hb⟩
    · have hb2 : b ∈ f1 ++ ((a :: fd) ++ f2) := (List.mem_append.mp hb).elim (List.mem_append_left _) fun z => List.mem_append_right _ (List.mem_append_right _ z)
      have kb := k b hb2
      have ne : b ≠ a := by
        rintro rfl
        rcases List.mem_append.mp hb with z | z
        · exact na.2.2 b z b (List.mem_append_left _ List.mem_cons_self) rfl
        · exact nb.2.2 b List.mem_cons_self b z rfl
      obtain ⟨u, eu⟩ := ne_some kb.2.2.2
      rw [upd_ne ne]
      exact ⟨by rw [eu]; exact af.bt b u kb.2.1 eu, (af.mv.nw b kb.2.2.2).trans kb.2.2.1⟩
    · rcases List.mem_append.mp hb with z | z
      · have := k b (List.mem_append_left _ z)
        exact ⟨this.1, this.2.1⟩
      · rcases List.mem_append.mp z with z | z
        · rcases List.mem_cons.mp z with z | z
          · rw [z]; exact ⟨ka.1, ka.2.1⟩
          · exact k2 b z
        · have := k b (List.mem_append_right _ (List.mem_append_right _ z))
          exact ⟨this.1, this.2.1⟩
    · rw [upd_ne fun z => by rw [z, ka.1] at e2; cases e2]
      exact st1.bt b o nb2 e2
    · refine hok_keep st1.hd (Same.refl _) fun b eb => ⟨?_, upd_ne fun z => ka.2.1 (by rw [← z]; exact eb)⟩
      subst eb
      exact (hok_at st1.hd).1
end
def rp (c : Cn) (W : WX) (f : EF Pl) : TE := fun σ H Q => ∃ ha G0 B G δ h, Sta c ha G0 B G H σ δ h ∧ Post c ha W σ G H (f δ h) fun p _ _ H' => ∀ v, PlV ha σ H' p v → Q v H'
section
variable {X : Cx} {W : WX} {c : Cn} {nw : Bool} {e a b e2 : Expr} {es : List Expr} {pos : Pos} {te : TE} {f fa fb fc : EF D} {k : EF Pl} {u : SF}
theorem pp_to (p : PE X e te) (i : ∀ σ H Q, rp c W k σ H Q → te σ H Q) : PE X e (rp c W k) := ⟨fun pins s σ H Q I h => p.run pins s σ H Q I (i σ H Q h)⟩
def pV (i : Nat) : EF Pl := fun δ h => match δ[i]? with
  | some (some d) => if d.nm then .ok (i, []) h else .bad
  | _ => .bad
theorem dp_v {i : Nat} {x : Str} (hN : X.N[i]? = some x) (hv : Vis X.env.scope x) (hd : (x == ("__debug__" : Str)) = false := by decide) (hcd : (x == ("__classdict__" : Str)) = false := by decide) : PE X (.Name x pos) (rp c W (pV i)) := pp_to (pe_var hN hv hd hcd) fun σ H Q x => by
  obtain ⟨ha, G0, B, G, δ, h, st, p⟩ := x
  unfold pV at p
  split at p
  · rename_i d e
    by_cases nm : d.nm = true
    case neg => rw [if_neg nm] at p; exact p.elim
    rw [if_pos nm] at p
    obtain ⟨fp, o, n, kk⟩ := st.sl
    obtain ⟨v, f1, f, f2, h1, _, h3, _⟩ := ownS_slot o e nm
    exact ⟨v, h1, post_ok p st.gh st.hd v ⟨v, h1, rfl⟩⟩
  · exact p.elim
/-- the place of an item -/
def pIx (k : EF Pl) (f : EF D) : EF Pl := fun δ h => (k δ h).bind fun p h1 => (f δ h1).bind fun y h2 => Ex.of (match plD δ p, y with
  | some (.hl ds), .int i => (ixN ds.length i).map fun j => (p.1, p.2 ++ [j])
  | _, _ => none) h2
theorem dp_ix (ha : PE X a (rp c W k)) (hb : PE X b (rd c W f)) (hs : PlainIx b := by exact fun _ _ => rfl) : PE X (.Subscript a b pos) (rp c W (pIx k f)) := pp_to (pe_ix ix_list ha hb hs) fun σ H Q x => by
  obtain ⟨ha, G0, B, G, δ, h, st, p⟩ := x
  refine ⟨ha, G0, B, G, δ, h, st, post_imp (post_bind p) fun pl h1 G1 H1 af1 p1 v pv => ?_⟩
  refine ⟨ha, G0, B, G1, δ, h1, st.to af1, post_imp (post_bind p1) fun y h2 G2 H2 af2 p2 w dw => ?_⟩
  obtain ⟨pl2, e, q⟩ := post_of p2
  split at e
  · rename_i ds i e1
    obtain ⟨j, e2, rfl⟩ := map_get e
    cases dw
    have st2 := (st.to af1).to af2
    obtain ⟨v', f1, fo, f2, k1, o, n, kk, _⟩ := st2.place e1
    have ev := (pv.keep af2).inj k1
    subst ev
    obtain ⟨v0, z1, z2⟩ := k1
    cases o with
    | frz hq => cases hq
    | @hl a xs _ fd g1 g2 g3 =>
      obtain ⟨_, hj, _, _⟩ := ixN_seq e2
      have hlen := ownAll_len g3
      obtain ⟨xj, ex⟩ : ∃ xj, xs[j]? = some xj := ⟨xs[j]'(by omega), List.getElem?_eq_getElem (by omega)⟩
      refine ⟨a, xs, i, xj, rfl, rfl, SqL.of g1, ?_, q _ _ (.refl af2.gh af2.hd) _ ⟨v0, z1, vat_app z2 rfl (kk a (List.mem_append_right _ (List.mem_append_left _ List.mem_cons_self))).2.1 g1 ex⟩⟩
      unfold atI
      rw [hlen, e2]
      exact ex
  · cases e
/-- a thing at rest at a place -/
def ePl (k : EF Pl) : EF D := fun δ h => (k δ h).bind fun p h1 => Ex.of (match plD δ p with
  | some d => if d.fr then some d else none
  | none => none) h1
theorem dx_pl (hk : PE X e (rp c W k)) : PE X e (rd c W (ePl k)) := pe_to hk fun σ H Q x => by
  obtain ⟨ha, G0, B, G, δ, h, st, p⟩ := x
  refine ⟨ha, G0, B, G, δ, h, st, post_imp (post_bind p) fun pl h1 G1 H1 af1 p1 v pv => ?_⟩
  obtain ⟨d, e, q⟩ := post_of p1
  split at e
  · rename_i d0 e0
    obtain ⟨hf, rfl⟩ := if_get e
    obtain ⟨v', f1, fo, f2, k1, o, n, kk, _⟩ := (st.to af1).place e0
    have ev := pv.inj k1
    subst ev
    exact q _ _ (.refl af1.gh af1.hd) _ (own_fr o hf).1
  · cases e
/-- len of a held list -/
def eLenP (k : EF Pl) : EF D := fun δ h => (k δ h).bind fun p h1 => Ex.of (match plD δ p with
  | some (.hl ds) => some (.int ds.length)
  | _ => none) h1
theorem dx_lenP {p : Pos} (hg : Gl X "len") (hm : X.mg "len" = none) (hk : PE X a (rp c W k)) (s1 : starEach (a :: []) X.env = (false, eval a X.env) :: starEach [] X.env := by rfl) (hpl : (backTo pos (starEach [] X.env)).any (·.1) = false := by rfl) : PE X (.Call (.Name "len" p) [a] [] pos) (rd c W (eLenP k)) := pe_to (pe_callB call_len_seq hg hm PySem.boot_len (pa_cons hk pa_nil s1) (by decide) (by decide) s1 hpl) fun σ H Q x => by
  obtain ⟨ha, G0, B, G, δ, h, st, p⟩ := x
  refine ⟨ha, G0, B, G, δ, h, st, post_imp (post_bind p) fun pl h1 G1 H1 af1 p1 v pv => ?_⟩
  obtain ⟨d, e, q⟩ := post_of p1
  split at e
  · rename_i ds e0
    cases e
    obtain ⟨v', f1, fo, f2, k1, o, n, kk, _⟩ := (st.to af1).place e0
    have ev := pv.inj k1
    subst ev
    cases o with
    | frz hq => cases hq
    | hl g1 g2 g3 => exact ⟨_, _, rfl, .inl (SqL.of g1), by rw [ownAll_len g3]; exact q _ _ (.refl af1.gh af1.hd) _ (.int _)⟩
  · cases e
def sApp (k : EF Pl) (f : EF D) : SF := fun δ h => (k δ h).fl δ fun p h1 => match plD δ p with
  | some (.hl ds) => (f δ h1).fl δ fun y h2 => if szOk ds.length then .nx (plS δ p (.hl (ds ++ [y]))) h2 else .bad
  | _ => .bad
theorem nodup_mid {α : Type} {f1 f2 g : List α} {a : α} {fd : List α} (n : (f1 ++ ((a :: fd) ++ f2)).Nodup) (ng : g.Nodup) (h : ∀ x ∈ g, x ∉ f1 ++ ((a :: fd) ++ f2)) : (f1 ++ ((a :: (fd ++ g)) ++ f2)).Nodup := by
  have e : (f1 ++ ((a :: (fd ++ g)) ++ f2)).Perm (g ++ (f1 ++ ((a :: fd) ++ f2))) := by
    have e1 : f1 ++ ((a :: (fd ++ g)) ++ f2) = (f1 ++ (a :: fd)) ++ (g ++ f2) := by simp [List.append_assoc]
    have e2 : f1 ++ ((a :: fd) ++ f2) = (f1 ++ (a :: fd)) ++ f2 := by simp [List.append_assoc]
    rw [e1, e2, ← List.append_assoc, ← List.append_assoc g]
    exact (List.perm_append_comm).append_right _
  refine e.nodup_iff.mpr (List.nodup_append.mpr ⟨ng, n, fun x hx y hy => ?_⟩)
  rintro rfl
  exact h x hx hy
/-- lists of items stay behind a deed that does not touch them -/
theorem ownAll_af {ha : Option Addr} {G H G1 H1 : Hp} {h1 : D} {xs : List V} {ds : List D} {fp : List Addr} {a : Addr} {o : HO} (af : Af c ha G H G1 H1 h1) (x : OwnAll c ha G H xs ds fp) (k : ∀ b ∈ fp, ha ≠ some b ∧ G b = none ∧ H b ≠ none ∧ b ≠ a) : OwnAll c ha G1 (upd H1 a o) xs ds fp := by
  refine ownAll_keep af.gg x fun b hb => ?_
  obtain ⟨k1, k2, k3, k4⟩ := k b hb
  obtain ⟨u, e⟩ := ne_some k3
  rw [upd_ne k4]
  exact ⟨by rw [e]; exact af.bt b u k1 e, (af.mv.nw b k3).trans k2⟩
theorem own_upd {ha : Option Addr} {G1 H1 : Hp} {v : V} {d : D} {fp : List Addr} {a : Addr} {o : HO} (x : Own c ha G1 H1 v d fp) (k : a ∉ fp) : Own c ha G1 (upd H1 a o) v d fp := by
  refine own_keep (Same.refl _) x fun b hb => ⟨upd_ne fun z => k (by rw [← z]; exact hb), (own_at x b hb).1⟩
theorem rs_app (Dn : Ends) (σ : L2.St) (H : Hp) (x : rs c W nw (sApp k f) Dn σ H) : tDrop (tBM c.K "list" rAppend (rp c W k) (tCons (rn c W f) tNil)) Dn σ H := by
  obtain ⟨ha, G0, B, G, δ, h, st, p⟩ := x
  refine ⟨ha, G0, B, G, δ, h, st, post_imp (post_fl st p) fun pl h1 G1 H1 af1 p1 v pv => ?_⟩
  have st1 := st.to af1
  split at p1
  · rename_i ds e0
    obtain ⟨a, xs, f1, fd, f2, rfl, hl, oa, n, kk, ch⟩ := st1.change e0 pv
    refine ⟨.inl ⟨rfl, xs, SqL.of hl⟩, ha, G0, B, G1, δ, h1, st1, post_imp (post_fl st1 p1) fun y h2 G2 H2 af2 q w nw => ?_⟩
    by_cases hz : szOk ds.length = true
    · rw [if_pos hz] at q
      obtain ⟨fe, oe, ne, ke⟩ := nw_own nw
      have ka := kk a (List.mem_append_right _ (List.mem_append_left _ List.mem_cons_self))
      have hl2 : H2 a = some (.lst xs) := af2.bt a _ ka.2.1 hl
      have nb := List.nodup_append.mp (List.nodup_append.mp n).2.1
      have na : a ∉ fe := fun z => by rw [ke a z] at hl; cases hl
      refine ⟨a, xs, w, rfl, rfl, hl2, ?_, q σ G2 _ (ch (es := ds ++ [y]) (fe := fd ++ (fe ++ [])) af2 (ownAll_app (ownAll_af af2 oa fun b hb => ?_) (.cons (own_upd oe na) .nil)) ?_ fun b hb => ?_) (Same.refl _)⟩
      · rw [ownAll_len oa, sizeLine_eq]
        have := of_decide_eq_true hz
        omega
      · have kb := kk b (List.mem_append_right _ (List.mem_append_left _ (List.mem_cons_of_mem _ hb)))
        refine ⟨kb.2.1, kb.2.2.1, kb.2.2.2, ?_⟩
        rintro rfl
        exact (List.nodup_cons.mp nb.1).1 hb
      · rw [List.append_nil]
        exact nodup_mid n ne fun x hx hy => (kk x hy).2.2.2 (ke x hx)
      · rw [List.append_nil] at hb
        rcases List.mem_append.mp hb with z | z
        · have := kk b (List.mem_append_right _ (List.mem_append_left _ (List.mem_cons_of_mem _ z)))
          exact ⟨this.1, this.2.1⟩
        · exact ⟨st1.old (ke b z), st1.ne_ha (ke b z)⟩
    · rw [if_neg hz] at q
      exact q.elim
  · exact p1.elim
theorem ds_app {apos pos2 : Pos} (hk : PE X a (rp c W k)) (he : PE X e (rn c W f)) (hK : X.K = c.K := by rfl) (hbase : attributeBase a "append" X.env (eval a X.env) = eval a X.env := by rfl)
    (hfew : ((backTo pos (starEach [e] X.env)).all (fun x => !x.1) && (backToKw pos (keywordEach [] X.env)).all (fun x => x.1.isSome)
      && decide ([e].length + ([] : List Keyword).length + (if ([] : List Keyword).isEmpty then 0 else 1) < 30)) = true := by rfl)
    (hline : (apos.endLine == pos.line) = true := by rfl) (s1 : starEach [e] X.env = (false, eval e X.env) :: starEach [] X.env := by rfl) (hplain : (backTo pos (starEach [] X.env)).any (·.1) = false := by rfl)
    (hs : swapsWith (.Call (.Attribute a "append" apos) [e] [] pos) none pos2.line X.env = pure false := by rfl) : PS X (.Expr (.Call (.Attribute a "append" apos) [e] [] pos) pos2) (rs c W nw (sApp k f)) :=
  ps_to (ps_expr (pe_bm PySem.F.plainAttrs_list PySem.F.slot_list_append PySem.F.type_list_append mt_append hk (pa_cons he pa_nil s1) hbase hfew hline s1 hplain) hs) (by rw [hK]; exact rs_app)
def sSt (k : EF Pl) (fi f : EF D) : SF := fun δ h => (f δ h).fl δ fun y h1 => (k δ h1).fl δ fun p h2 => (fi δ h2).fl δ fun z h3 => match plD δ p, z with
  | some (.hl ds), .int i => match ixN ds.length i with
    | some j => .nx (plS δ p (.hl (ds.set j y))) h3
    | none => .bad
  | _, _ => .bad
theorem nodup_ins {α : Type} {l1 l2 g : List α} (n : (l1 ++ l2).Nodup) (ng : g.Nodup) (h : ∀ x ∈ g, x ∉ l1 ++ l2) : (l1 ++ (g ++ l2)).Nodup := by
  have e : (l1 ++ (g ++ l2)).Perm (g ++ (l1 ++ l2)) := by
    rw [← List.append_assoc, ← List.append_assoc]
    exact (List.perm_append_comm).append_right _
  refine e.nodup_iff.mpr (List.nodup_append.mpr ⟨ng, n, fun x hx y hy => ?_⟩)
  rintro rfl
  exact h x hx hy
theorem rs_st (Dn : Ends) (σ : L2.St) (H : Hp) (x : rs c W nw (sSt k fb f) Dn σ H) : tAsg (rd c W f) (gSub (rp c W k) (rd c W fb) rSetL) Dn σ H := by
  obtain ⟨ha, G0, B, G, δ, h, st, p⟩ := x
  refine ⟨ha, G0, B, G, δ, h, st, post_imp (post_fl st p) fun y h1 G1 H1 af1 p1 w dw => ?_⟩
  have st1 := st.to af1
  refine ⟨ha, G0, B, G1, δ, h1, st1, post_imp (post_fl st1 p1) fun pl h2 G2 H2 af2 p2 v pv => ?_⟩
  have st2 := st1.to af2
  refine ⟨ha, G0, B, G2, δ, h2, st2, post_imp (post_fl st2 p2) fun z h3 G3 H3 af3 p3 iv di => ?_⟩
  have st3 := st2.to af3
  split at p3
  · rename_i ds i e0
    split at p3
    · rename_i j ej
      cases di
      obtain ⟨a, xs, f1, fd, f2, rfl, hl, oa, n, kk, ch⟩ := st3.change e0 (pv.keep af3)
      obtain ⟨_, hj, _, _⟩ := ixN_seq ej
      obtain ⟨dj, edj⟩ : ∃ dj, ds[j]? = some dj := ⟨ds[j], List.getElem?_eq_getElem hj⟩
      obtain ⟨vj, g1, g, g2, e1, rfl, oj, zoom⟩ := ownAll_item oa edj
      have nb := List.nodup_append.mp n
      have nc := List.nodup_append.mp nb.2.1
      have na := (List.nodup_cons.mp nc.1)
      have hm : ∀ b, b ∈ g1 ++ g2 → b ∈ g1 ++ (g ++ g2) := fun b hb => (List.mem_append.mp hb).elim (List.mem_append_left _) fun z => List.mem_append_right _ (List.mem_append_right _ z)
      refine ⟨a, xs, i, j, rfl, rfl, hl, by rw [ownAll_len oa]; exact ej, p3 σ G3 _ (ch (es := ds.set j y) (fe := g1 ++ ([] ++ g2)) (.refl st3.gh st3.hd) (zoom (Same.refl _) (fun b hb => ⟨upd_ne fun z => na.1 (by rw [← z]; exact hm b hb), ?_⟩) (.frz (dq_mono (af2.gg.trans af3.gg) dw))) ?_ fun b hb => ?_) (Same.refl _)⟩
      · exact (ownAll_at oa b (hm b hb)).1
      · have sb : (f1 ++ ((a :: (g1 ++ ([] ++ g2))) ++ f2)).Sublist (f1 ++ ((a :: (g1 ++ (g ++ g2))) ++ f2)) := by
          refine List.Sublist.append (List.Sublist.refl _) (List.Sublist.append ((List.Sublist.append (List.Sublist.refl _) (List.Sublist.append (List.nil_sublist _) (List.Sublist.refl _))).cons_cons a) (List.Sublist.refl _))
        exact n.sublist sb
      · have hb2 : b ∈ g1 ++ (g ++ g2) := hm b (by rw [List.nil_append] at hb; exact hb)
        have := kk b (List.mem_append_right _ (List.mem_append_left _ (List.mem_cons_of_mem _ hb2)))
        exact ⟨this.1, this.2.1⟩
    · exact p3.elim
  · exact p3.elim
theorem ds_st {tpos : Pos} (he : PE X e (rd c W f)) (hk : PE X a (rp c W k)) (hb : PE X b (rd c W fb))
    (hs : swapsWithSole [.Subscript a b tpos] e pos.line X.env = pure false := by rfl) (hw : swappedStores [.Subscript a b tpos] e X.env = pure none := by rfl)
    (h1 : (assignEach [.Subscript a b tpos] X.env).map (·.2) = [assign (.Subscript a b tpos) X.env] := by rfl)
    (ha : ∀ v, assign (.Subscript a b tpos) X.env v = (do
      let ov ← holding [v] (eval a X.env)
      let iv ← holding [v, ov] (eval b X.env)
      standAt tpos
      holding [v, ov, iv] (setItem ov iv v)
      release [v, ov, iv] []) := by intro _; rfl) : PS X (.Assign [.Subscript a b tpos] e pos) (rs c W nw (sSt k fb f)) := ps_to (ps_asg he (pg_sub hk hb set_list ha) hs hw h1) rs_st
def sStM (o : Nat) (fi f : EF D) : SF := fun δ h => (f δ h).fl δ fun y h1 => (eM o δ h1).fl δ fun _ h2 => (fi δ h2).fl δ fun z h3 => match z, h3 with
  | .int i, .hl ds => match ixN ds.length i with
    | some j => .nx δ (.hl (ds.set j y))
    | none => .bad
  | _, _ => .bad
theorem Sta.handed {ha : Option Addr} {G0 B G H : Hp} {σ : L2.St} {δ : DE} {h h' : D} {a : Addr} {o : HO} (st : Sta c ha G0 B G H σ δ h) (e : ha = some a) (k : Hok c ha G (upd H a o) h') : Sta c ha G0 B G (upd H a o) σ δ h' := by
  obtain ⟨fp, os, n, kk⟩ := st.sl
  subst e
  obtain ⟨g, hne⟩ := hok_at st.hd
  refine ⟨⟨fp, ownS_keep (Same.refl _) os fun b hb => ⟨upd_ne fun z => (kk b hb).2 (by rw [z]), (ownS_at os b hb).1⟩, n, kk⟩, st.mv.trans (Mv.put st.gh g hne), fun b u n e => ?_, k, st.hb⟩
  rw [upd_ne fun z => n (by rw [z])]
  exact st.bt b u n e
theorem rs_stM {o : Nat} (Dn : Ends) (σ : L2.St) (H : Hp) (x : rs c W nw (sStM o fb f) Dn σ H) : tAsg (rd c W f) (gSub (rm c W (eM o)) (rd c W fb) rSetL) Dn σ H := by
  obtain ⟨ha, G0, B, G, δ, h, st, p⟩ := x
  refine ⟨ha, G0, B, G, δ, h, st, post_imp (post_fl st p) fun y h1 G1 H1 af1 p1 w dw => ?_⟩
  have st1 := st.to af1
  refine ⟨ha, G0, B, G1, δ, h1, st1, post_imp (post_fl st1 p1) fun _ h2 G2 H2 af2 p2 v e1 => ?_⟩
  have st2 := st1.to af2
  refine ⟨ha, G0, B, G2, δ, h2, st2, post_imp (post_fl st2 p2) fun z h3 G3 H3 af3 p3 iv di => ?_⟩
  have st3 := st2.to af3
  split at p3
  · rename_i i ds
    split at p3
    · rename_i j ej
      cases di
      cases id st3.hd with
      | hand e2 g hl da =>
        rw [e1] at e2
        cases e2
        exact ⟨_, _, i, j, rfl, rfl, hl, by rw [dqAll_len da]; exact ej, p3 σ G3 _ (st3.handed e1 (.hand e1 g upd_same (dqAll_set (dq_mono (af2.gg.trans af3.gg) dw) j da))) (Same.refl _)⟩
    · exact p3.elim
  · exact p3.elim
theorem ds_stM {o : Nat} {tpos : Pos} (he : PE X e (rd c W f)) (hk : PE X a (rm c W (eM o))) (hb : PE X b (rd c W fb))
    (hs : swapsWithSole [.Subscript a b tpos] e pos.line X.env = pure false := by rfl) (hw : swappedStores [.Subscript a b tpos] e X.env = pure none := by rfl)
    (h1 : (assignEach [.Subscript a b tpos] X.env).map (·.2) = [assign (.Subscript a b tpos) X.env] := by rfl)
    (ha : ∀ v, assign (.Subscript a b tpos) X.env v = (do
      let ov ← holding [v] (eval a X.env)
      let iv ← holding [v, ov] (eval b X.env)
      standAt tpos
      holding [v, ov, iv] (setItem ov iv v)
      release [v, ov, iv] []) := by intro _; rfl) : PS X (.Assign [.Subscript a b tpos] e pos) (rs c W nw (sStM o fb f)) := ps_to (ps_asg he (pg_sub hk hb set_list ha) hs hw h1) rs_stM
def putD (f : Str) (v : D) : List (Str × D) → List (Str × D)
  | [] => [(f, v)]
  | (g, x) :: r => if g = f then (g, v) :: r else (g, x) :: putD f v r
theorem dqF_put {ha : Option Addr} {G : Hp} {C : Addr} {f : Str} {v : V} {d : D} (na : NoAttr c.K C f) (dv : Dq c ha G v d) : ∀ {xs : List (Str × V)} {fs : List (Str × D)}, DqF c ha G C xs fs → DqF c ha G C (putF f v xs) (putD f d fs)
  | _, _, .nil => .cons na dv .nil
  | _, _, .cons (n := m) h0 h t => by
    unfold putF putD
    by_cases e : m = f
    · rw [if_pos e, if_pos e]
      exact .cons h0 dv t
    · rw [if_neg e, if_neg e]
      exact .cons h0 h (dqF_put na dv t)
/-- self.f = e, self of the class n -/
def sAt (n : Str) (o : Nat) (m : Str) (f : EF D) : SF := fun δ h => (f δ h).fl δ fun y h1 => (eM o δ h1).fl δ fun _ h2 => match h2 with
  | .ins n' fs => if n' = n then (if szOk fs.length then (if fs.length < 900 then .nx δ (.ins n' (putD m y fs)) else .bad) else .bad) else .bad
  | _ => .bad
theorem ds_at {o : Nat} {n m : Str} {pos' : Pos} (na : ∀ C, c.mg n = some (.ref C) → NoAttr c.K C m) (ha : PE X a (rm c W (eM o))) (he : PE X e (rd c W f)) (hK : X.K = c.K := by rfl) (hs : swapsWith e (some (.Attribute a m pos')) pos.line X.env = pure false := by rfl) :
    PS X (.Assign [.Attribute a m pos'] e pos) (rs c W nw (sAt n o m f)) := ps_to (ps_fld ha he hs) fun Dn σ H x => by
  rw [hK]
  obtain ⟨ha, G0, B, G, δ, h, st, p⟩ := x
  refine ⟨ha, G0, B, G, δ, h, st, post_imp (post_fl st p) fun y h1 G1 H1 af1 p1 w dw => ?_⟩
  have st1 := st.to af1
  refine ⟨ha, G0, B, G1, δ, h1, st1, post_imp (post_fl st1 p1) fun _ h2 G2 H2 af2 p2 v e1 => ?_⟩
  have st2 := st1.to af2
  split at p2
  · rename_i n' fs
    by_cases hn : n' = n
    · rw [if_pos hn] at p2
      subst hn
      by_cases hz : szOk fs.length = true
      · rw [if_pos hz] at p2
        by_cases hl : fs.length < 900
        · rw [if_pos hl] at p2
          cases id st2.hd with
          | self e2 g k1 k2 k3 k4 =>
            rw [e1] at e2
            cases e2
            exact ⟨_, _, _, _, rfl, k3, k2.cl, na _ k1, by rw [dqF_len k4]; omega, p2 σ G2 _ (st2.handed e1 (.self e1 g k1 k2 upd_same (dqF_put (na _ k1) (dq_mono af2.gg dw) k4))) (Same.refl _)⟩
        · rw [if_neg hl] at p2
          exact p2.elim
      · rw [if_neg hz] at p2
        exact p2.elim
    · rw [if_neg hn] at p2
      exact p2.elim
  · exact p2.elim
end
end Fw
set_option maxHeartbeats 2000000
namespace Fw
open PySem PySem.Spec PyProof.Rows L2 Dz Vz
/-- what is handed to a def: things at rest, and the handed thing -/
inductive DmAll (c : Cn) (ha : Option Addr) (G : Hp) : List V → List D → Prop
  | nil : DmAll c ha G [] []
  | cons {v : V} {d : D} {xs : List V} {ds : List D} : Dq c ha G v d → DmAll c ha G xs ds → DmAll c ha G (v :: xs) (d :: ds)
  | me {a : Addr} {xs : List V} {ds : List D} : ha = some a → DmAll c ha G xs ds → DmAll c ha G (.ref a :: xs) (.me :: ds)
theorem dm_mono {c : Cn} {ha : Option Addr} {G G' : Hp} (s : Same G G') : ∀ {xs : List V} {ds : List D}, DmAll c ha G xs ds → DmAll c ha G' xs ds
  | _, _, .nil => .nil
  | _, _, .cons h t => .cons (dq_mono s h) (dm_mono s t)
  | _, _, .me h t => .me h (dm_mono s t)
theorem dm_of {c : Cn} {ha : Option Addr} {G : Hp} : ∀ {xs : List V} {ds : List D}, DqAll c ha G xs ds → DmAll c ha G xs ds
  | _, _, .nil => .nil
  | _, _, .cons h t => .cons h (dm_of t)
theorem dm_len {c : Cn} {ha : Option Addr} {G : Hp} : ∀ {xs : List V} {ds : List D}, DmAll c ha G xs ds → xs.length = ds.length
  | _, _, .nil => rfl
  | _, _, .cons _ t => congrArg Nat.succ (dm_len t)
  | _, _, .me _ t => congrArg Nat.succ (dm_len t)
theorem dm_app {c : Cn} {ha : Option Addr} {G : Hp} {ys : List V} {es : List D} (k : DqAll c ha G ys es) : ∀ {xs : List V} {ds : List D}, DmAll c ha G xs ds → DmAll c ha G (xs ++ ys) (ds ++ es)
  | _, _, .nil => dm_of k
  | _, _, .cons h t => .cons h (dm_app k t)
  | _, _, .me h t => .me h (dm_app k t)
theorem dm_start {c : Cn} {ha : Option Addr} {G H : Hp} (m : Nat) : ∀ {xs : List V} {ds : List D}, DmAll c ha G xs ds → OwnS c ha G H (xs.map some ++ List.replicate m none) (ds.map some ++ List.replicate m none) []
  | _, _, .nil => by
    show OwnS c ha G H (List.replicate m none) (List.replicate m none) []
    induction m with
    | zero => exact .nil
    | succ m ih => exact .non none ih
  | _, _, .cons h t => OwnS.some (f := []) (fp := []) (.frz h) (dm_start m t)
  | _, _, .me h t => .me h (dm_start m t)
abbrev Fn := List D → D → Ex D
def EndF (nw : Bool) (c : Cn) (ha : Option Addr) (G H : Hp) (r : Ex D) (Q : VK) (E : XK) : Prop := match r with
  | .ok d h' => ∀ v G' H', Af c ha G H G' H' h' → Res nw c ha H G' H' v d → Q v H'
  | .exc n fs h' => ∀ C dd G' H', Af c ha G H G' H' h' → c.mg n = some (.ref C) → XR c ha G' H H' C dd fs → E (.ref C) dd H'
  | .bad => False
/-- a def's promise: on n things it does as F -/
def spD (c : Cn) (nw : Bool) (n : Nat) (F : Fn) : Sp := fun vs H Q E => ∃ ha G ds h, ds.length = n ∧ Same G H ∧ Hok c ha G H h ∧ DmAll c ha G vs ds ∧ EndF nw c ha G H (F ds h) Q E
/-- what a body makes of a def -/
def runF (N : Nat) (body : SF) : Fn := fun ds h => match body (ds.map some ++ List.replicate (N - ds.length) none) h with
  | .ret d h' => .ok d h'
  | .nx _ h' => .ok .non h'
  | .exc n fs _ h' => .exc n fs h'
  | _ => .bad
section
variable {P : Program} {w : World} {c : Cn} {base : Heap} {nw : Bool} {x qual : Str} {params : Arguments} {body : List Stmt} {scope : Scope} {dvs : List V} {kws : List (Str × V)} {f : Addr} {fd : FuncData} {N ps : List Str} {k : Nat} {u : SF}
theorem ok_def (F : FunD c.K x qual params body scope dvs kws f fd) (S : FnScope N ps scope)
    (hb : ∀ (cdv : Value) (A : Around) (outer : List Env) (s : Shared) (H : Hp) (E : XK), Room k (A.deeper (envOfC qual scope s.heap.objs.size f cdv)) → PSs (cxOf (L2.CX P w) P w c.K c.mg base N qual scope f cdv A outer s H E) body (rs c (fun cls dd _ H' => E cls dd H') nw u)) (hnw : nw = true → ∀ δ h δ' h', u δ h ≠ .nx δ' h' := by intro z; cases z) :
    FnOk P w c.K c.mg base (L2.CX P w) (k + 1) f fd ps (spD c nw ps.length (runF N.length u)) := by
  refine F.ok S (fun vs H Q E h => ?_) (fun cdv A outer s H vs Q E hr h => ?_)
  · obtain ⟨ha, G, ds, hh, hl, _, _, dv, _⟩ := h
    rw [dm_len dv, hl]
  · obtain ⟨ha, G, ds, hh, hl, s1, ok, dv, fin⟩ := h
    refine ⟨_, hb cdv A outer s H E hr, ha, G, H, G, _, hh, ⟨⟨[], by unfold L2.start; rw [dm_len dv]; exact dm_start (N.length - ds.length) dv, by simp, fun a z => nomatch z⟩, Mv.refl s1, fun _ _ _ e => e, ok, fun a e => ?_⟩, ?_⟩
    · subst e
      exact (hok_at ok).2
    · unfold runF at fin
      cases e : u (ds.map some ++ List.replicate (N.length - ds.length) none) hh with
      | ret d h' => rw [e] at fin; exact fin
      | nx δ' h' =>
        rw [e] at fin
        cases nw with
        | false => exact fun σ' G' H' st _ => fin .non G' H' st.af .non
        | true => exact absurd e (hnw rfl _ _ _ _)
      | exc n fs δ' h' => rw [e] at fin; exact fun σ' C dd G1 H1 h1 G' H' st _ af m xr => fin C dd G' H' (st.af.trans af) m (xr.from fun _ e => st.old e)
      | brk δ' h' => rw [e] at fin; exact fin.elim
      | ct δ' h' => rw [e] at fin; exact fin.elim
      | bad => rw [e] at fin; exact fin.elim
theorem spD_len {n : Nat} {F : Fn} {vs : List V} {H : Hp} {Q : VK} {E : XK} (h : spD c nw n F vs H Q E) : vs.length = n := by
  obtain ⟨ha, G, ds, hh, hl, _, _, dv, _⟩ := h
  rw [dm_len dv, hl]
end
section
variable {X : Cx} {W : WX} {c : Cn} {nw : Bool} {e a b o : Expr} {es : List Expr} {pos : Pos} {te : TE} {f fa fb fo : EF D} {fs : EF (List D)}
def rg (c : Cn) (W : WX) (f : EF (List D)) : TA := fun σ H Q => ∃ ha G0 B G δ h, Sta c ha G0 B G H σ δ h ∧ Post c ha W σ G H (f δ h) fun ds _ G' H' => ∀ vs, DmAll c ha G' vs ds → Q vs H'
theorem pg_to {t : TA} (p : PA X es t) (i : ∀ σ H Q, rg c W fs σ H Q → t σ H Q) : PA X es (rg c W fs) := ⟨fun ps pins s σ H Q I h => p.run ps pins s σ H Q I (i σ H Q h)⟩
theorem dg_nil : PA X [] (rg c W eNil) := pg_to pa_nil fun σ H Q x => by
  obtain ⟨ha, G0, B, G, δ, h, st, p⟩ := x
  exact post_ok p st.gh st.hd [] .nil
theorem dg_cons (he : PE X e (rd c W f)) (hs : PA X es (rg c W fs)) (hst : starEach (e :: es) X.env = (false, eval e X.env) :: starEach es X.env := by rfl) : PA X (e :: es) (rg c W (eCons f fs)) := pg_to (pa_cons he hs hst) fun σ H Q x => by
  obtain ⟨ha, G0, B, G, δ, h, st, p⟩ := x
  refine ⟨ha, G0, B, G, δ, h, st, post_imp (post_bind p) fun d h1 G1 H1 af1 p1 v dv => ?_⟩
  refine ⟨ha, G0, B, G1, δ, h1, st.to af1, post_imp (post_bind p1) fun ds h2 G2 H2 af2 p2 vs dvs => ?_⟩
  exact post_ok p2 af2.gh af2.hd _ (.cons (dq_mono af2.gg dv) dvs)
/-- a name, which may hold the handed thing -/
def eVm (i : Nat) : EF D := fun δ h => match δ[i]? with
  | some (some .me) => .ok .me h
  | some (some d) => if d.fr then .ok d h else .bad
  | _ => .bad
theorem dg_v {i : Nat} {x : Str} {p : Pos} (hN : X.N[i]? = some x) (hv : Vis X.env.scope x) (hs : PA X es (rg c W fs)) (hd : (x == ("__debug__" : Str)) = false := by decide) (hcd : (x == ("__classdict__" : Str)) = false := by decide) (hst : starEach (.Name x p :: es) X.env = (false, eval (.Name x p) X.env) :: starEach es X.env := by rfl) : PA X (.Name x p :: es) (rg c W (eCons (eVm i) fs)) := pg_to (pa_cons (pe_var hN hv hd hcd) hs hst) fun σ H Q x => by
  obtain ⟨ha, G0, B, G, δ, h, st, p⟩ := x
  obtain ⟨fp, o, n, k⟩ := st.sl
  unfold eCons eVm at p
  split at p
  · rename_i e
    obtain ⟨a, h1, h2⟩ := ownS_me o e
    refine ⟨_, h1, ha, G0, B, G, δ, h, st, post_imp (post_bind p) fun ds h2' G2 H2 af2 p2 vs dvs => ?_⟩
    exact post_ok p2 af2.gh af2.hd _ (.me h2 dvs)
  · rename_i d nm e
    by_cases hf : d.fr = true
    · rw [if_pos hf] at p
      obtain ⟨v, f1, f, f2, h1, _, h3, _⟩ := ownS_slot o e (fr_nm hf)
      refine ⟨v, h1, ha, G0, B, G, δ, h, st, post_imp (post_bind p) fun ds h2 G2 H2 af2 p2 vs dvs => ?_⟩
      exact post_ok p2 af2.gh af2.hd _ (.cons (dq_mono af2.gg (own_fr h3 hf).1) dvs)
    · rw [if_neg hf] at p
      exact p.elim
  · exact p.elim
theorem run_fnD {CX : CXT} {k : Nat} {f : Addr} {fd : FuncData} {ps : List Str} {sp : Sp} {ds : List Value} {dvs : List V} {E : XK} {pins : List (Addr × Obj)} {σ : L2.St} {H : Hp} {s : Shared} {Q : VK} {us : List Value} {vs : List V} (F : FnOk X.prog X.w X.K X.mg X.base CX k f fd ps sp) (hr : Room k X.A) (hb : L2.Binds X.K fd ps ds) (hd : Vals dvs ds) (hx : PassesAt CX X σ E)
    (I : Inv X pins σ H s) (r : Vals vs us) (h : sp (vs ++ dvs) H Q E) : wpAny (model X.prog X.w) X.A (call (.ref f) us) (EP X pins σ Q) X.xe s := by
  have r2 : Vals (vs ++ dvs) (us ++ ds) := r.append hd
  have hl : (us ++ ds).length = ps.length := by rw [← r2.length]; exact F.len _ _ _ _ h
  refine wpAny_call (codeAny_mono (F.run X.A X.stack s H ⟨us, []⟩ (us ++ ds) (vs ++ dvs) Q E hr I.env0 (hb s us I.kIn hl) r2 h) fun r s' hq => ?_)
  cases r with
  | error e => exact hx pins H s e s' I hq
  | ok fl =>
    cases fl with
    | ret u => exact I.after hq
    | next => exact False.elim hq
    | brk => exact False.elim hq
    | cont => exact False.elim hq
def tCallD (sp : Sp) (dvs : List V) (E : L2.St → XK) (t : TA) : TE := fun σ H Q => t σ H fun vs H1 => sp (vs ++ dvs) H1 Q (E σ)
section
variable {CX : CXT} {k : Nat} {g C : Addr} {fd : FuncData} {ps : List Str} {sp : Sp} {ds : List Value} {dvs : List V} {E : L2.St → XK} {x m : Str} {p apos : Pos} {t : TA}
theorem pe_callD (F : FnOk X.prog X.w X.K X.mg X.base CX k g fd ps sp) (hr : Room k X.A) (hg : Gl X x) (hm : X.mg x = some (.ref g)) (hk : PySem.W.keepIn X.K (.ref g) = true) (hb : L2.Binds X.K fd ps ds) (hd : Vals dvs ds) (hx : ∀ σ, PassesAt CX X σ (E σ))
    (ha : PA X (e :: es) t) (hdb : (x == ("__debug__" : Str)) = false := by decide) (he : starEach (e :: es) X.env = (false, eval e X.env) :: starEach es X.env := by rfl) (hpl : (backTo pos (starEach es X.env)).any (·.1) = false := by rfl) :
    PE X (.Call (.Name x p) (e :: es) [] pos) (tCallD sp dvs E t) := by
  refine ⟨fun pins s σ H Q I h => ?_⟩
  refine wpAny_Call_Name_kw (ld_glob I hg hm ?_ hdb)
  refine PySem.W.callWith_K (h₀ := X.base) I.ok.mod.kin hk (thn (ha.run pos pins s σ H _ I h) fun us s1 ⟨vs, H1, I1, r, q⟩ => ⟨I1.kIn, ?_⟩) he hpl
  exact run_fnD F hr hb hd (hx σ) I1 r q
theorem pe_callD0 (F : FnOk X.prog X.w X.K X.mg X.base CX k g fd ps sp) (hr : Room k X.A) (hg : Gl X x) (hm : X.mg x = some (.ref g)) (hk : PySem.W.keepIn X.K (.ref g) = true) (hb : L2.Binds X.K fd ps ds) (hd : Vals dvs ds) (hx : ∀ σ, PassesAt CX X σ (E σ))
    (hdb : (x == ("__debug__" : Str)) = false := by decide) : PE X (.Call (.Name x p) [] [] pos) (tCallD sp dvs E tNil) := by
  refine ⟨fun pins s σ H Q I h => ?_⟩
  refine wpAny_Call_Name_kw (ld_glob I hg hm ?_ hdb)
  exact PySem.W.callWith_K0 I.kIn hk (run_fnD (us := []) F hr hb hd (hx σ) I .nil h)
def tMethD (C : Addr) (m : Str) (sp : Sp) (dvs : List V) (E : L2.St → XK) (ta : TE) (t : TA) : TE := fun σ H Q => ta σ H fun x H1 => ∃ a dx fs, x = .ref a ∧ H1 a = some (.ins C dx fs) ∧ fs.lookup m = none ∧ t σ H1 fun vs H2 => sp (x :: (vs ++ dvs)) H2 Q (E σ)
theorem pe_methD {pl : Sem Bool} {to : TE} (he : PE X o to) (c : Cls X.K C) (hm : Meth X.K C m g) (F : FnOk X.prog X.w X.K X.mg X.base CX k g fd ps sp) (hr : Room k X.A) (hb : L2.Binds X.K fd ps ds) (hd : Vals dvs ds) (hx : ∀ σ, PassesAt CX X σ (E σ)) (ha : PA X (e :: es) t)
    (hst : starEach (e :: es) X.env = (false, eval e X.env) :: starEach es X.env := by rfl) (hpl : (backTo pos (starEach es X.env)).any (·.1) = false := by rfl)
    (ht : eval (.Call (.Attribute o m apos) (e :: es) [] pos) X.env = (do
      let ov ← eval o X.env
      standAt apos.atName
      let (f, first) ← holding [ov] (getMethod ov m pl)
      callWith pos f first (backTo pos (starEach (e :: es) X.env)) (backToKw pos (keywordEach [] X.env))) := by rfl) :
    PE X (.Call (.Attribute o m apos) (e :: es) [] pos) (tMethD C m sp dvs E to t) := by
  refine ⟨fun pins s σ H Q I h => ?_⟩
  refine PySem.W.methodCall_KW (pl := pl) (thn (he.run pins s σ H _ I h) fun u s1 ⟨x, H1, I1, rx, a, dx, fs, ex, ea, l, q⟩ => ?_) ht
  subst ex
  obtain rfl : u = Value.ref a := rx
  refine getmeth_ok I1 ea c hm l ?_
  refine PySem.W.callWith_K (first := [.ref a]) (h₀ := X.base) I.ok.mod.kin hm.kp (thn (ha.run pos pins s1 σ H1 _ I1 q) fun us s2 ⟨vs, H2, I2, r, q2⟩ => ⟨I2.kIn, ?_⟩) hst hpl
  exact run_fnD (us := .ref a :: us) (vs := .ref a :: vs) F hr hb hd (hx σ) I2 (.cons rfl r) q2
theorem pe_methD0 {pl : Sem Bool} {to : TE} (he : PE X o to) (c : Cls X.K C) (hm : Meth X.K C m g) (F : FnOk X.prog X.w X.K X.mg X.base CX k g fd ps sp) (hr : Room k X.A) (hb : L2.Binds X.K fd ps ds) (hd : Vals dvs ds) (hx : ∀ σ, PassesAt CX X σ (E σ))
    (ht : eval (.Call (.Attribute o m apos) [] [] pos) X.env = (do
      let ov ← eval o X.env
      standAt apos.atName
      let (f, first) ← holding [ov] (getMethod ov m pl)
      callWith pos f first (backTo pos (starEach [] X.env)) (backToKw pos (keywordEach [] X.env))) := by rfl) :
    PE X (.Call (.Attribute o m apos) [] [] pos) (tMethD C m sp dvs E to tNil) := by
  refine ⟨fun pins s σ H Q I h => ?_⟩
  refine PySem.W.methodCall_KW (pl := pl) (thn (he.run pins s σ H _ I h) fun u s1 ⟨x, H1, I1, rx, a, dx, fs, ex, ea, l, q⟩ => ?_) ht
  subst ex
  obtain rfl : u = Value.ref a := rx
  refine getmeth_ok I1 ea c hm l ?_
  exact PySem.W.callWith_K0 (first := [.ref a]) I1.kIn hm.kp (run_fnD (us := [.ref a]) (vs := [.ref a]) F hr hb hd (hx σ) I1 (.cons rfl .nil) q)
def tMakeD (C : Addr) (sp : Sp) (dvs : List V) (E : L2.St → XK) (t : TA) : TE := fun σ H Q => t σ H fun vs H1 => ∀ x dx, H1 x = none → H1 dx = none → dx ≠ x →
  sp (.ref x :: (vs ++ dvs)) (upd (upd H1 dx (.own x)) x (.ins C dx [])) (fun v H2 => v = .non ∧ Q (.ref x) H2) (E σ)
theorem run_makeD {pins : List (Addr × Obj)} {σ : L2.St} {H : Hp} {s : Shared} {Q : VK} {us : List Value} {vs : List V} {E : XK} (M : Mk X.K C g) (F : FnOk X.prog X.w X.K X.mg X.base CX k g fd ps sp) (hr : Room (k + 1) X.A) (hb : L2.Binds X.K fd ps ds) (hd : Vals dvs ds)
    (hx : PassesAt CX X σ E) (I : Inv X pins σ H s) (r : Vals vs us)
    (h : ∀ x dx, H x = none → H dx = none → dx ≠ x → sp (.ref x :: (vs ++ dvs)) (upd (upd H dx (.own x)) x (.ins C dx [])) (fun v H2 => v = .non ∧ Q (.ref x) H2) E) :
    wpAny (model X.prog X.w) X.A (call (.ref C) us) (EP X pins σ Q) X.xe s := by
  have hq := h (s.heap.objs.size + 1) s.heap.objs.size (I.hok.fresh (Nat.le_succ _)) (I.hok.fresh (Nat.le_refl _)) (Nat.ne_of_lt (Nat.lt_succ_self _))
  have I2 := Inv.made (C := C) I
  have r2 : Vals (V.ref (s.heap.objs.size + 1) :: (vs ++ dvs)) (Value.ref (s.heap.objs.size + 1) :: (us ++ ds)) := .cons rfl (r.append hd)
  have hl : (Value.ref (s.heap.objs.size + 1) :: us ++ ds).length = ps.length := by
    have e := r2.length
    rw [F.len _ _ _ _ hq] at e
    exact e.symm
  refine wpAny_call (make_map (f := g) I.kIn M.makes M.init (beq_iff_eq.mp M.fn) (codeAny_mono (F.run _ X.stack _ _ ⟨Value.ref (s.heap.objs.size + 1) :: us, []⟩ (Value.ref (s.heap.objs.size + 1) :: (us ++ ds)) _ _ E (hr.make C us [])
    (I2.env0.make C us []) (hb _ (Value.ref (s.heap.objs.size + 1) :: us) I2.kIn hl) r2 hq) fun r s' hq' => ?_))
  cases r with
  | error e => exact hx pins _ _ e s' I2 hq'
  | ok fl =>
    cases fl with
    | ret u =>
      obtain ⟨v, H', I3, rv, ev, q3⟩ := I2.after hq'
      subst ev
      exact ⟨rv, ⟨V.ref (s.heap.objs.size + 1), H', I3, rfl, q3⟩⟩
    | next => exact False.elim hq'
    | brk => exact False.elim hq'
    | cont => exact False.elim hq'
theorem pe_makeD (M : Mk X.K C g) (F : FnOk X.prog X.w X.K X.mg X.base CX k g fd ps sp) (hr : Room (k + 1) X.A) (hg : Gl X x) (hm : X.mg x = some (.ref C)) (hb : L2.Binds X.K fd ps ds) (hd : Vals dvs ds) (hx : ∀ σ, PassesAt CX X σ (E σ))
    (ha : PA X (e :: es) t) (hdb : (x == ("__debug__" : Str)) = false := by decide) (he : starEach (e :: es) X.env = (false, eval e X.env) :: starEach es X.env := by rfl) (hpl : (backTo pos (starEach es X.env)).any (·.1) = false := by rfl) :
    PE X (.Call (.Name x p) (e :: es) [] pos) (tMakeD C sp dvs E t) := by
  refine ⟨fun pins s σ H Q I h => ?_⟩
  refine wpAny_Call_Name_kw (ld_glob I hg hm ?_ hdb)
  refine PySem.W.callWith_K (h₀ := X.base) I.ok.mod.kin M.kp (thn (ha.run pos pins s σ H _ I h) fun us s1 ⟨vs, H1, I1, r, q⟩ => ⟨I1.kIn, ?_⟩) he hpl
  exact run_makeD M F hr hb hd (hx σ) I1 r q
end
/-- what a call's end gives -/
theorem endF_of {ha : Option Addr} {σ : L2.St} {G H : Hp} {r : Ex D} {Q : VK} (p : Post c ha W σ G H r fun d _ G' H' => ∀ v, Dq c ha G' v d → Q v H') : EndF false c ha G H r Q (WE W σ) := by
  cases r with
  | ok d h' => exact fun v G' H' af res => p G' H' af v res
  | exc n fs h' => exact fun C dd G' H' af m x => p C dd G' H' af m x
  | bad => exact p
/-- a call: n things in all -/
def eCall (n : Nat) (F : Fn) (dd : List D) (fs : EF (List D)) : EF D := fun δ h => (fs δ h).bind fun ds h1 => if (ds ++ dd).length = n then F (ds ++ dd) h1 else .bad
theorem Post.arg {α β : Type} {ha : Option Addr} {σ : L2.St} {G H : Hp} {r : Ex α} {g : α → D → Ex β} {k : β → D → Hp → Hp → Prop} (p : Post c ha W σ G H (r.bind g) k) : Post c ha W σ G H r fun a h1 G1 H1 => Same G1 H1 ∧ Hok c ha G1 H1 h1 ∧ Post c ha W σ G1 H1 (g a h1) k := post_imp (post_bind p) fun a h1 G1 H1 af q => ⟨af.gh, af.hd, q⟩
section
variable {k n : Nat} {g C : Addr} {fd : FuncData} {ps : List Str} {F : Fn} {ds : List Value} {dvs : List V} {dd : List D} {x m : Str} {p apos : Pos}
theorem if_post {α : Type} {ha : Option Addr} {σ : L2.St} {G H : Hp} {p : Prop} [Decidable p] {r : Ex α} {K : α → D → Hp → Hp → Prop} (q : Post c ha W σ G H (if p then r else .bad) K) : p ∧ Post c ha W σ G H r K := by
  by_cases hp : p
  · rw [if_pos hp] at q
    exact ⟨hp, q⟩
  · rw [if_neg hp] at q
    exact q.elim
theorem rd_call (hd : ∀ ha G, DqAll c ha G dvs dd) (σ : L2.St) (H : Hp) (Q : VK) (x : rd c W (eCall n F dd fs) σ H Q) : tCallD (spD c false n F) dvs (WE W) (rg c W fs) σ H Q := by
  obtain ⟨ha, G0, B, G, δ, h, st, p⟩ := x
  refine ⟨ha, G0, B, G, δ, h, st, post_imp (Post.arg p) fun ds h1 G1 H1 af ⟨s1, o1, p1⟩ vs dv => ?_⟩
  obtain ⟨hl, p2⟩ := if_post p1
  exact ⟨ha, G1, ds ++ dd, h1, hl, s1, o1, dm_app (hd ha G1) dv, endF_of p2⟩
theorem dx_call (G : FnOk X.prog X.w X.K X.mg X.base (L2.CX X.prog X.w) k g fd ps (spD c false n F)) (hr : Room k X.A) (hg : Gl X x) (hm : X.mg x = some (.ref g)) (hk : PySem.W.keepIn X.K (.ref g) = true) (hb : L2.Binds X.K fd ps ds) (hv : Vals dvs ds) (hd : ∀ ha G, DqAll c ha G dvs dd) (hx : ∀ σ, PassesAt (L2.CX X.prog X.w) X σ (WE W σ))
    (ha : PA X (e :: es) (rg c W fs)) (hdb : (x == ("__debug__" : Str)) = false := by decide) (he : starEach (e :: es) X.env = (false, eval e X.env) :: starEach es X.env := by rfl) (hpl : (backTo pos (starEach es X.env)).any (·.1) = false := by rfl) :
    PE X (.Call (.Name x p) (e :: es) [] pos) (rd c W (eCall n F dd fs)) := pe_to (pe_callD G hr hg hm hk hb hv hx ha hdb he hpl) (rd_call hd)
theorem dx_call0 (G : FnOk X.prog X.w X.K X.mg X.base (L2.CX X.prog X.w) k g fd ps (spD c false n F)) (hr : Room k X.A) (hg : Gl X x) (hm : X.mg x = some (.ref g)) (hk : PySem.W.keepIn X.K (.ref g) = true) (hb : L2.Binds X.K fd ps ds) (hv : Vals dvs ds) (hd : ∀ ha G, DqAll c ha G dvs dd) (hx : ∀ σ, PassesAt (L2.CX X.prog X.w) X σ (WE W σ))
    (hdb : (x == ("__debug__" : Str)) = false := by decide) : PE X (.Call (.Name x p) [] [] pos) (rd c W (eCall n F dd eNil)) := pe_to (pe_callD0 G hr hg hm hk hb hv hx hdb) fun σ H Q x => by
  obtain ⟨ha, G0, B, G, δ, h, st, p⟩ := x
  simp only [eCall, eNil, Ex.bind] at p
  obtain ⟨hl, p2⟩ := if_post p
  exact ⟨ha, G, [] ++ dd, h, hl, st.gh, st.hd, dm_of (hd ha G), endF_of p2⟩
/-- o.m(..), o of the class nm -/
def eMeth (nm m : Str) (n : Nat) (F : Fn) (dd : List D) (fo : EF D) (fs : EF (List D)) : EF D := fun δ h => (fo δ h).bind fun d h1 => match d with
  | .ins n' xs => if n' = nm ∧ xs.lookup m = none then (fs δ h1).bind fun ds h2 => if (d :: (ds ++ dd)).length = n then F (d :: (ds ++ dd)) h2 else .bad else .bad
  | _ => .bad
theorem rd_meth {nm : Str} (mC : c.mg nm = some (.ref C)) (hd : ∀ ha G, DqAll c ha G dvs dd) (σ : L2.St) (H : Hp) (Q : VK) (x : rd c W (eMeth nm m n F dd fo fs) σ H Q) : tMethD C m (spD c false n F) dvs (WE W) (rd c W fo) (rg c W fs) σ H Q := by
  obtain ⟨ha, G0, B, G, δ, h, st, p⟩ := x
  refine ⟨ha, G0, B, G, δ, h, st, post_imp (post_bind p) fun d h1 G1 H1 af p1 v dv => ?_⟩
  cases dv with
  | ins k1 k2 k3 k4 =>
    obtain ⟨⟨rfl, hno⟩, p2⟩ := if_post p1
    rw [k1] at mC
    cases mC
    refine ⟨_, _, _, rfl, af.gh _ _ k2, dqF_no k4 hno, ha, G0, B, G1, δ, h1, st.to af, post_imp (Post.arg p2) fun ds h2 G2 H2 af2 ⟨s2, o2, p3⟩ vs dvs' => ?_⟩
    obtain ⟨hl, p4⟩ := if_post p3
    exact ⟨ha, G2, _, h2, hl, s2, o2, .cons (.ins k1 (af2.gg _ _ k2) k3 (dqF_mono af2.gg k4)) (dm_app (hd ha G2) dvs'), endF_of p4⟩
  | _ => exact p1.elim
theorem dx_meth {nm : Str} {pl : Sem Bool} (mC : c.mg nm = some (.ref C)) (he : PE X o (rd c W fo)) (cl : Cls X.K C) (hm : Meth X.K C m g) (G : FnOk X.prog X.w X.K X.mg X.base (L2.CX X.prog X.w) k g fd ps (spD c false n F)) (hr : Room k X.A) (hb : L2.Binds X.K fd ps ds) (hv : Vals dvs ds) (hd : ∀ ha G, DqAll c ha G dvs dd) (hx : ∀ σ, PassesAt (L2.CX X.prog X.w) X σ (WE W σ)) (ha : PA X (e :: es) (rg c W fs))
    (hst : starEach (e :: es) X.env = (false, eval e X.env) :: starEach es X.env := by rfl) (hpl : (backTo pos (starEach es X.env)).any (·.1) = false := by rfl)
    (ht : eval (.Call (.Attribute o m apos) (e :: es) [] pos) X.env = (do
      let ov ← eval o X.env
      standAt apos.atName
      let (f, first) ← holding [ov] (getMethod ov m pl)
      callWith pos f first (backTo pos (starEach (e :: es) X.env)) (backToKw pos (keywordEach [] X.env))) := by rfl) :
    PE X (.Call (.Attribute o m apos) (e :: es) [] pos) (rd c W (eMeth nm m n F dd fo fs)) := pe_to (pe_methD he cl hm G hr hb hv hx ha hst hpl ht) (rd_meth mC hd)
theorem dx_meth0 {nm : Str} {pl : Sem Bool} (mC : c.mg nm = some (.ref C)) (he : PE X o (rd c W fo)) (cl : Cls X.K C) (hm : Meth X.K C m g) (G : FnOk X.prog X.w X.K X.mg X.base (L2.CX X.prog X.w) k g fd ps (spD c false n F)) (hr : Room k X.A) (hb : L2.Binds X.K fd ps ds) (hv : Vals dvs ds) (hd : ∀ ha G, DqAll c ha G dvs dd) (hx : ∀ σ, PassesAt (L2.CX X.prog X.w) X σ (WE W σ))
    (ht : eval (.Call (.Attribute o m apos) [] [] pos) X.env = (do
      let ov ← eval o X.env
      standAt apos.atName
      let (f, first) ← holding [ov] (getMethod ov m pl)
      callWith pos f first (backTo pos (starEach [] X.env)) (backToKw pos (keywordEach [] X.env))) := by rfl) :
    PE X (.Call (.Attribute o m apos) [] [] pos) (rd c W (eMeth nm m n F dd fo eNil)) := pe_to (pe_methD0 he cl hm G hr hb hv hx ht) fun σ H Q x => by
  obtain ⟨ha, G0, B, G1, δ, h, st, p⟩ := rd_meth (dvs := dvs) mC hd σ H Q x
  refine ⟨ha, G0, B, G1, δ, h, st, post_imp p fun d h1 G2 H2 af q v dv => ?_⟩
  obtain ⟨a, dx, fs, e1, e2, e3, ha', G0', B', G', δ', h', st', p'⟩ := q v dv
  exact ⟨a, dx, fs, e1, e2, e3, post_ok p' st'.gh st'.hd [] .nil⟩
/-- C(..), C the class nm -/
def eMake (nm : Str) (n : Nat) (F : Fn) (dd : List D) (fs : EF (List D)) : EF D := fun δ h => (fs δ h).bind fun ds h1 => if (D.me :: (ds ++ dd)).length = n then
  match F (.me :: (ds ++ dd)) (.ins nm []) with
  | .ok .non (.ins n' xs) => if n' = nm then .ok (.ins n' xs) h1 else .bad
  | .exc n' xs _ => .exc n' xs h1
  | _ => .bad
  else .bad
theorem dqAll_ha {ha hb : Option Addr} {G : Hp} : ∀ {xs : List V} {ds : List D}, DqAll c ha G xs ds → DqAll c hb G xs ds
  | _, _, .nil => .nil
  | _, _, .cons h t => .cons (dq_ha h) (dqAll_ha t)
theorem XR.ha {ha hb : Option Addr} {G H0 H : Hp} {C : Addr} {dd : Option Addr} {fs : List (Str × D)} (x : XR c ha G H0 H C dd fs) : XR c hb G H0 H C dd fs := by
  rcases x with x | ⟨d, xs, h1, h2, h3, h4, h5⟩
  · exact .inl x
  · exact .inr ⟨d, xs, h1, h2, h3, h4, dqF_ha h5⟩
theorem rd_make {nm : Str} (mC : c.mg nm = some (.ref C)) (co : COk c.K C) (hd : ∀ ha G, DqAll c ha G dvs dd) (σ : L2.St) (H : Hp) (Q : VK) (x : rd c W (eMake nm n F dd fs) σ H Q) : tMakeD C (spD c false n F) dvs (WE W) (ra c W fs) σ H Q := by
  obtain ⟨ha, G0, B, G, δ, h, st, p⟩ := x
  refine ⟨ha, G0, B, G, δ, h, st, post_imp (post_bind p) fun ds h1 G1 H1 af p1 vs dv => fun x dx hx hdx hne => ?_⟩
  obtain ⟨hl, p2⟩ := if_post p1
  have gx : G1 x = none := old_none af.gh hx
  have gdx : G1 dx = none := old_none af.gh hdx
  have hk : ∀ a, ha = some a → H1 a ≠ none := fun a e => by
    subst e
    exact (hok_at af.hd).2
  -- the heap in which the new thing stands bare
  have hx2 : (upd H1 dx (.own x)) x = none := by rw [upd_ne hne.symm]; exact hx
  have m0 : Mv G1 H1 G1 (upd (upd H1 dx (.own x)) x (.ins C dx [])) := (Mv.hid af.gh hdx).trans (Mv.hid ((Mv.hid (o := .own x) af.gh hdx).gh) hx2)
  have s0 : Same H1 (upd (upd H1 dx (.own x)) x (.ins C dx [])) := (same_new hdx).trans (same_new hx2)
  refine ⟨some x, G1, .me :: (ds ++ dd), .ins nm [], hl, m0.gh, .self rfl gx mC co upd_same .nil, .me rfl (dm_of (dqAll_app (dqAll_ha dv) (hd _ G1))), ?_⟩
  have back : ∀ {G2 H2 : Hp} {h2 : D}, Af c (some x) G1 (upd (upd H1 dx (.own x)) x (.ins C dx [])) G2 H2 h2 → Same H1 H2 := fun {G2 H2 h2} a b o e => a.bt b o (fun z => by cases z; rw [hx] at e; cases e) (s0 b o e)
  have view : ∀ {G2 H2 : Hp} {h2 : D}, Af c (some x) G1 (upd (upd H1 dx (.own x)) x (.ins C dx [])) G2 H2 h2 → Af c ha G1 H1 G2 H2 h1 := fun {G2 H2 h2} a => .of af.gh af.hd (m0.trans a.mv) (back a)
  generalize eF : F (.me :: (ds ++ dd)) (.ins nm []) = r at p2
  cases r with
  | bad => exact p2.elim
  | exc n' xs h2 => exact fun C' dd' G2 H2 a m xr => p2 C' dd' G2 H2 (view a) m (xr.ha.from fun d e => by
    cases z : H1 d with
    | none => rfl
    | some o => rw [s0 d o z] at e; cases e)
  | ok d h2 =>
    cases d <;> first | (exact p2.elim) | skip
    cases h2 <;> first | (exact p2.elim) | skip
    rename_i n' xs
    obtain ⟨rfl, p3⟩ := if_post p2
    intro v G2 H2 a res
    cases (show Dq c (some x) G2 v .non from res)
    refine ⟨rfl, ?_⟩
    have af2 := view a
    cases a.hd with
    | @self a0 C0 dx0 n0 xs0 fs0 e1 g2 k1 k2 k3 k4 =>
      cases e1
      have sh : Same G2 (upd G2 x (.ins C0 dx0 xs0)) := same_new g2
      refine p3 (upd G2 x (.ins C0 dx0 xs0)) H2 ⟨Mv.shut af2.mv hx g2 k3, af2.bt, hok_keep af2.hd sh fun b eb => ⟨?_, rfl⟩⟩ _ (.ins k1 upd_same k2 (dqF_mono sh (dqF_ha k4)))
      rw [upd_ne fun z => hk b eb (by rw [z]; exact hx)]
      subst eb
      exact (hok_at af2.hd).1
theorem dx_make {nm : Str} (mC : c.mg nm = some (.ref C)) (co : COk c.K C) (M : Mk X.K C g) (G : FnOk X.prog X.w X.K X.mg X.base (L2.CX X.prog X.w) k g fd ps (spD c false n F)) (hr : Room (k + 1) X.A) (hg : Gl X nm) (hm : X.mg nm = some (.ref C)) (hb : L2.Binds X.K fd ps ds) (hv : Vals dvs ds) (hd : ∀ ha G, DqAll c ha G dvs dd) (hx : ∀ σ, PassesAt (L2.CX X.prog X.w) X σ (WE W σ))
    (ha : PA X (e :: es) (ra c W fs)) (hdb : (nm == ("__debug__" : Str)) = false := by decide) (he : starEach (e :: es) X.env = (false, eval e X.env) :: starEach es X.env := by rfl) (hpl : (backTo pos (starEach es X.env)).any (·.1) = false := by rfl) :
    PE X (.Call (.Name nm p) (e :: es) [] pos) (rd c W (eMake nm n F dd fs)) := pe_to (pe_makeD M G hr hg hm hb hv hx ha hdb he hpl) (rd_make mC co hd)
end
def No (c : Cn) (ha : Option Addr) (H G' H' : Hp) (v : V) (d : D) : Prop := ∃ fp, Own c ha G' H' v d fp ∧ fp.Nodup ∧ ∀ a ∈ fp, H a = none
def rw' (c : Cn) (W : WX) (f : EF D) : TE := fun σ H Q => ∃ ha G0 B G δ h, Sta c ha G0 B G H σ δ h ∧ Post c ha W σ G H (f δ h) fun d _ G' H' => ∀ v, No c ha H G' H' v d → Q v H'
theorem pw_to' (p : PE X e te) (i : ∀ σ H Q, rw' c W f σ H Q → te σ H Q) : PE X e (rw' c W f) := ⟨fun pins s σ H Q I h => p.run pins s σ H Q I (i σ H Q h)⟩
theorem no_from {ha : Option Addr} {G H G1 H1 G2 H2 : Hp} {h1 : D} {v : V} {d : D} (af : Af c ha G H G1 H1 h1) (n : No c ha H1 G2 H2 v d) : No c ha H G2 H2 v d := by
  obtain ⟨fp, o, n, k⟩ := n
  exact ⟨fp, o, n, fun a hx => af_old af (k a hx)⟩
theorem endW_of {ha : Option Addr} {σ : L2.St} {G H : Hp} {r : Ex D} {Q : VK} (p : Post c ha W σ G H r fun d _ G' H' => ∀ v, No c ha H G' H' v d → Q v H') : EndF true c ha G H r Q (WE W σ) := by
  cases r with
  | ok d h' => exact fun v G' H' af ⟨fp, o, n, k⟩ => p G' H' af v ⟨fp, o, n, fun a hx => (k a hx).1⟩
  | exc n fs h' => exact fun C dd G' H' af m x => p C dd G' H' af m x
  | bad => exact p
section
variable {k n : Nat} {g C : Addr} {fd : FuncData} {ps : List Str} {F : Fn} {ds : List Value} {dvs : List V} {dd : List D} {x m : Str} {p apos : Pos}
theorem rw_call (hd : ∀ ha G, DqAll c ha G dvs dd) (σ : L2.St) (H : Hp) (Q : VK) (x : rw' c W (eCall n F dd fs) σ H Q) : tCallD (spD c true n F) dvs (WE W) (rg c W fs) σ H Q := by
  obtain ⟨ha, G0, B, G, δ, h, st, p⟩ := x
  refine ⟨ha, G0, B, G, δ, h, st, post_imp (post_bind p) fun ds h1 G1 H1 af p1 vs dv => ?_⟩
  obtain ⟨hl, p2⟩ := if_post p1
  exact ⟨ha, G1, ds ++ dd, h1, hl, af.gh, af.hd, dm_app (hd ha G1) dv, endW_of (post_imp p2 fun d h2 G2 H2 af2 q v n => q v (no_from af n))⟩
theorem dw_call (G : FnOk X.prog X.w X.K X.mg X.base (L2.CX X.prog X.w) k g fd ps (spD c true n F)) (hr : Room k X.A) (hg : Gl X x) (hm : X.mg x = some (.ref g)) (hk : PySem.W.keepIn X.K (.ref g) = true) (hb : L2.Binds X.K fd ps ds) (hv : Vals dvs ds) (hd : ∀ ha G, DqAll c ha G dvs dd) (hx : ∀ σ, PassesAt (L2.CX X.prog X.w) X σ (WE W σ))
    (ha : PA X (e :: es) (rg c W fs)) (hdb : (x == ("__debug__" : Str)) = false := by decide) (he : starEach (e :: es) X.env = (false, eval e X.env) :: starEach es X.env := by rfl) (hpl : (backTo pos (starEach es X.env)).any (·.1) = false := by rfl) :
    PE X (.Call (.Name x p) (e :: es) [] pos) (rw' c W (eCall n F dd fs)) := pw_to' (pe_callD G hr hg hm hk hb hv hx ha hdb he hpl) (rw_call hd)
end
/-- all let rest -/
def eFw (f : EF D) : EF D := fun δ h => (f δ h).bind fun d h1 => .ok (frz d) h1
theorem dx_fw (p : PE X e (rw' c W f)) : PE X e (rd c W (eFw f)) := pe_to p fun σ H Q x => by
  obtain ⟨ha, G0, B, G, δ, h, st, p⟩ := x
  refine ⟨ha, G0, B, G, δ, h, st, ?_⟩
  unfold eFw at p
  cases e : f δ h with
  | ok d h1 =>
    rw [e] at p
    intro G1 H1 af1 v ⟨fp, o, nd, k⟩
    have s1 : Same G1 (addG G1 H1 fp) := addG_same af1.gh
    refine p (addG G1 H1 fp) H1 ⟨⟨af1.gg.trans s1, addG_gh af1.gh, fun a hn => ?_, af1.mv.dm⟩, af1.bt, hok_keep af1.hd s1 fun a e => ⟨?_, rfl⟩⟩ v (own_frz af1.gh o fun b hb => hb)
    · rw [addG_out fun z => hn (k a z)]
      exact af1.mv.nw a hn
    · rw [addG_out fun z => st.hne a e (k a z)]
      subst e
      exact (hok_at af1.hd).1
  | exc n fs h1 => rw [e] at p; exact p
  | bad => rw [e] at p; exact p
theorem dw_of (p : PE X e (rn c W f)) : PE X e (rw' c W f) := pw_to' p fun σ H Q x => by
  obtain ⟨ha, G0, B, G, δ, h, st, p⟩ := x
  exact ⟨ha, G0, B, G, δ, h, st, post_imp p fun d h1 G1 H1 af q v n => q v (nw_own n)⟩
theorem ds_setW {i : Nat} {x : Str} {pos' : Pos} (hN : X.N.Nodup) (hi : X.N[i]? = some x) (hx : Loc X.env.scope x) (he : PE X e (rw' c W f)) (hs : swapsWith e (some (.Name x pos')) pos.line X.env = pure false := by rfl) (hf : X.fn x = true ∨ X.env.scope.names.lookup x = some .local := by first | exact .inl rfl | exact .inr rfl | assumption) :
    PS X (.Assign [.Name x pos'] e pos) (rs c W nw (sSet i f)) := ps_to (ps_set hN hi hx he hs hf) fun Dn σ H x => by
  obtain ⟨ha, G0, B, G, δ, h, st, p⟩ := x
  exact ⟨ha, G0, B, G, δ, h, st, post_imp (post_fl st p) fun d h1 G1 H1 af q v ⟨f, o, n1, n2⟩ => q _ G1 H1 (st.setO af i o n1 n2) (Same.refl _)⟩
theorem ds_retWW (he : PE X e (rw' c W f)) : PS X (.Return (some e) pos) (rs c W true (sRet f)) := ps_to (ps_ret he) fun Dn σ H x => by
  obtain ⟨ha, G0, B, G, δ, h, st, p⟩ := x
  exact ⟨ha, G0, B, G, δ, h, st, post_imp (post_fl st p) fun d h1 G1 H1 af q v ⟨fp, o, n1, n2⟩ => q v G1 H1 (st.to af).af ⟨fp, o, n1, fun a hx => ⟨st.old (n2 a hx), st.ne_ha (n2 a hx)⟩⟩⟩
end
end Fw
set_option maxHeartbeats 2000000
namespace Fw
open PySem PySem.Spec PyProof.Rows L2 Dz Vz
abbrev Cn.at (c : Cn) (x : Option (Addr × Value × Option Addr)) : Cn := ⟨c.K, c.mg, x⟩
section
variable {c c' : Cn} {ha : Option Addr} {G G' H H' G0 B : Hp}
theorem dq_c (hK : c'.K = c.K) (hm : c'.mg = c.mg) {v : V} {d : D} (h : Dq c ha G v d) : Dq c' ha G v d := by
  refine Dq.rec (motive_1 := fun v d _ => Dq c' ha G v d) (motive_2 := fun xs ds _ => DqAll c' ha G xs ds) (motive_3 := fun C xs fs _ => DqF c' ha G C xs fs) ?_ ?_ ?_ ?_ ?_ ?_ ?_ ?_ ?_ ?_ ?_ h
  · exact .non
  · exact fun b => .bl b
  · exact fun i => .int i
  · exact fun x => .str x
  · exact fun h1 _ h2 => .tup (by rw [hK]; exact h1) h2
  · exact fun h1 _ h2 => .lst h1 h2
  · exact fun h1 h2 h3 _ h4 => .ins (by rw [hm]; exact h1) h2 (by rw [hK]; exact h3) h4
  · exact .nil
  · exact fun _ _ h1 h2 => .cons h1 h2
  · exact .nil
  · exact fun h0 _ _ h1 h2 => .cons (by rw [hK]; exact h0) h1 h2
theorem dqAll_c (hK : c'.K = c.K) (hm : c'.mg = c.mg) : ∀ {xs : List V} {ds : List D}, DqAll c ha G xs ds → DqAll c' ha G xs ds
  | _, _, .nil => .nil
  | _, _, .cons h t => .cons (dq_c hK hm h) (dqAll_c hK hm t)
theorem dqF_c (hK : c'.K = c.K) (hm : c'.mg = c.mg) {C : Addr} : ∀ {xs : List (Str × V)} {fs : List (Str × D)}, DqF c ha G C xs fs → DqF c' ha G C xs fs
  | _, _, .nil => .nil
  | _, _, .cons h0 h t => .cons (by rw [hK]; exact h0) (dq_c hK hm h) (dqF_c hK hm t)
theorem own_c (hK : c'.K = c.K) (hm : c'.mg = c.mg) {v : V} {d : D} {fp : List Addr} (h : Own c ha G H v d fp) : Own c' ha G H v d fp := by
  refine Own.rec (motive_1 := fun v d fp _ => Own c' ha G H v d fp) (motive_2 := fun xs ds fp _ => OwnAll c' ha G H xs ds fp) ?_ ?_ ?_ ?_ h
  · exact fun h => .frz (dq_c hK hm h)
  · exact fun h1 h2 _ ih => .hl h1 h2 ih
  · exact .nil
  · exact fun _ _ i1 i2 => .cons i1 i2
/-- into a suite: no slot holds an error yet -/
theorem ownS_in (hK : c'.K = c.K) (hm : c'.mg = c.mg) (hx : c.xa = none) : ∀ {σ : L2.St} {δ : DE} {fp : List Addr}, OwnS c ha G H σ δ fp → OwnS c' ha G H σ δ fp
  | _, _, _, .nil => .nil
  | _, _, _, .non o t => .non o (ownS_in hK hm hx t)
  | _, _, _, .me e t => .me e (ownS_in hK hm hx t)
  | _, _, _, .ex e _ _ _ => by rw [hx] at e; cases e
  | _, _, _, .some h t => .some (own_c hK hm h) (ownS_in hK hm hx t)
def dropX : Option D → Option D
  | some (.ex _ _) => none
  | o => o
theorem dropX_own {v : V} {d : D} {fp : List Addr} (h : Own c ha G H v d fp) : dropX (some d) = some d := by
  cases h with
  | frz h => cases h <;> rfl
  | hl _ _ _ => rfl
/-- out of a suite: the held error is forgotten -/
theorem ownS_out (hK : c'.K = c.K) (hm : c'.mg = c.mg) : ∀ {σ : L2.St} {δ : DE} {fp : List Addr}, OwnS c ha G H σ δ fp → ∃ fp', OwnS c' ha G H σ (δ.map dropX) fp' ∧ fp'.Sublist fp
  | _, _, _, .nil => ⟨[], .nil, List.Sublist.refl _⟩
  | _, _, _, .non o t => by
    obtain ⟨fp', h1, h2⟩ := ownS_out hK hm t
    exact ⟨fp', .non o h1, h2⟩
  | _, _, _, .me e t => by
    obtain ⟨fp', h1, h2⟩ := ownS_out hK hm t
    exact ⟨fp', .me e h1, h2⟩
  | _, _, _, .ex _ _ _ t => by
    obtain ⟨fp', h1, h2⟩ := ownS_out hK hm t
    exact ⟨fp', .non _ h1, h2.trans (List.sublist_append_right ..)⟩
  | _, _, _, .some h t => by
    obtain ⟨fp', h1, h2⟩ := ownS_out hK hm t
    refine ⟨_, ?_, List.Sublist.append (List.Sublist.refl _) h2⟩
    rw [List.map_cons, dropX_own h]
    exact .some (own_c hK hm h) h1
theorem hok_c (hK : c'.K = c.K) (hm : c'.mg = c.mg) {h : D} (x : Hok c ha G H h) : Hok c' ha G H h := by
  cases x with
  | non e => exact .non e
  | hand e g h d => exact .hand e g h (dqAll_c hK hm d)
  | self e g m cl h d => exact .self e g (by rw [hm]; exact m) (by rw [hK]; exact cl) h (dqF_c hK hm d)
/-- an empty slot takes the held error -/
theorem ownS_fill {a C : Addr} {dd : Option Addr} {n : Str} {fs : List (Str × D)} {fx : List Addr} (e1 : c.xa = some (a, .ref C, dd)) (e2 : c.mg n = some (.ref C)) (x : ExH c ha G H dd C fs fx) : ∀ {i : Nat} {σ : L2.St} {δ : DE} {fp : List Addr}, OwnS c ha G H σ δ fp → δ[i]? = some none →
    ∃ f1 f2, fp = f1 ++ f2 ∧ OwnS c ha G H (σ.set i (some (.ref a))) (δ.set i (some (.ex n fs))) (f1 ++ (fx ++ f2))
  | i, _, _, _, .nil, e => by simp at e
  | 0, _, _, _, .non o t, e => ⟨[], _, rfl, by rw [List.nil_append]; exact OwnS.ex e1 e2 x t⟩
  | 0, _, _, _, .me _ t, e => by simp at e
  | 0, _, _, _, .ex _ _ _ t, e => by simp at e
  | 0, _, _, _, .some _ t, e => by simp at e
  | i + 1, _, _, _, .non o t, e => by
    obtain ⟨f1, f2, h1, h2⟩ := ownS_fill e1 e2 x (i := i) t e
    exact ⟨f1, f2, h1, .non o h2⟩
  | i + 1, _, _, _, .me o t, e => by
    obtain ⟨f1, f2, h1, h2⟩ := ownS_fill e1 e2 x (i := i) t e
    exact ⟨f1, f2, h1, .me o h2⟩
  | i + 1, _, _, _, .ex (fx := g) o m y t, e => by
    obtain ⟨f1, f2, rfl, h2⟩ := ownS_fill e1 e2 x (i := i) t e
    refine ⟨g ++ f1, f2, by rw [List.append_assoc], ?_⟩
    rw [List.append_assoc]
    exact .ex o m y h2
  | i + 1, _, _, _, .some (f := g) h t, e => by
    obtain ⟨f1, f2, rfl, h2⟩ := ownS_fill e1 e2 x (i := i) t e
    refine ⟨g ++ f1, f2, by rw [List.append_assoc], ?_⟩
    rw [List.append_assoc]
    exact .some h h2
end
section
variable {X : Cx} {W : WX} {c : Cn} {nw : Bool} {e a b o : Expr} {es : List Expr} {pos : Pos} {te : TE} {f fa fb fo : EF D} {fs : EF (List D)} {u : SF} {ss : List Stmt}
/-- the fields as they lie behind an __init__ that keeps what it is handed -/
def flD1 (f : Str) : List D → Option (List (Str × D))
  | [x] => some [(f, x)]
  | _ => none
def flD2 (f g : Str) : List D → Option (List (Str × D))
  | [x, y] => some [(g, y), (f, x)]
  | _ => none
def sRaise (n : Str) (fl : List D → Option (List (Str × D))) (fs : EF (List D)) : SF := fun δ h => (fs δ h).fl δ fun ds h1 => match fl ds with
  | some fx => .exc n fx δ h1
  | none => .bad
def sRaise0 (n : Str) : SF := fun δ h => .exc n [] δ h
/-- what is asked of an error class that keeps its fields -/
structure Er1 (P : Program) (w : World) (c : Cn) (base : Heap) (gP : Addr) (x f : Str) (C fI : Addr) (fd : FuncData) : Prop where
  er : Kx.Er c.K gP C
  m : c.mg x = some (.ref C)
  na : NoAttr c.K C f
  iC : PySem.W.findIn c.K (.ref C) "__init__" = some (some (.ref fI))
  tI : PySem.W.typeIn c.K (.ref fI) = some (.type "function")
  G : FnOk P w c.K c.mg base CX0 1 fI fd ["self", f] (Ky.spIn C 1 (Ky.fl1 f))
  b : L2.Binds c.K fd ["self", f] []
structure Er2 (P : Program) (w : World) (c : Cn) (base : Heap) (gP : Addr) (x f g : Str) (C fI : Addr) (fd : FuncData) : Prop where
  er : Kx.Er c.K gP C
  m : c.mg x = some (.ref C)
  na : NoAttr c.K C f
  na2 : NoAttr c.K C g
  iC : PySem.W.findIn c.K (.ref C) "__init__" = some (some (.ref fI))
  tI : PySem.W.typeIn c.K (.ref fI) = some (.type "function")
  G : FnOk P w c.K c.mg base CX0 1 fI fd ["self", f, g] (Ky.spIn C 2 (Ky.fl2 f g))
  b : L2.Binds c.K fd ["self", f, g] []
theorem rd_mkN {C : Addr} {n : Nat} {fl : List V → List (Str × V)} {vs : List V} {H : Hp} {Q : XK} (hl : vs.length = n) (hn : n ≤ 1000) (k : ∀ d H', H d = none → Same H H' → H' d = some (.xd (fl vs)) → Q (.ref C) (some d) H') :
    vs.length ≤ 1000 ∧ ∀ a, H a = none → Ky.spIn C n fl (.ref a :: (vs ++ [])) (upd H a (exo a C none))
      (fun v' H2 => v' = .non ∧ ∃ (d : Addr) (fs : List (Str × V)), H2 a = some (exo a C (some d)) ∧ H2 d = some (exd d fs) ∧ H d = none ∧ Q (.ref C) (some d) (upd (del H2 a) d (.xd fs))) (fun _ _ _ => False) := by
  refine ⟨by omega, fun a ha => ⟨a, vs, by rw [List.append_nil], hl, upd_same, fun q H1 hq kq e1 e2 => ?_⟩⟩
  have hqa : q ≠ a := fun z => by
    rw [z, upd_same] at hq
    cases hq
  rw [upd_ne hqa] at hq
  exact ⟨rfl, q, _, e1, e2, hq, k q _ hq (Re.same_gone ha hq kq) upd_same⟩
theorem posts_exc {ha : Option Addr} {G0 B G1 H1 : Hp} {σ : L2.St} {δ : DE} {h1 : D} {n : Str} {fx : List (Str × D)} {Dn : Ends} {C : Addr} {xs : List (Str × V)} (st : Sta c ha G0 B G1 H1 σ δ h1) (m : c.mg n = some (.ref C)) (p : PostS c ha W nw G0 B G1 (.exc n fx δ h1) Dn) (df : DqF c ha G1 C xs fx) :
    ∀ d H', H1 d = none → Same H1 H' → H' d = some (.xd xs) → W (.ref C) (some d) σ H' := fun d H' hd s hx =>
  p σ C (some d) G1 H1 h1 G1 H' st (Same.refl _) (.of st.gh st.hd (Mv.of st.gh s) s) m (.inr ⟨d, xs, rfl, hx, old_none st.gh hd, hd, df⟩)
theorem rs_raise1 {x f : Str} {C : Addr} (m : c.mg x = some (.ref C)) (na : NoAttr c.K C f) (Dn : Ends) (σ : L2.St) (H : Hp) (z : rs c W nw (sRaise x (flD1 f) fs) Dn σ H) : tMkO C (Ky.spIn C 1 (Ky.fl1 f)) [] (ra c W fs) σ H fun cls d H' => W cls d σ H' := by
  obtain ⟨ha, G0, B, G, δ, h, st, p⟩ := z
  refine ⟨ha, G0, B, G, δ, h, st, post_imp (post_fl st p) fun ds h1 G1 H1 af q vs dv => ?_⟩
  split at q
  · rename_i fx e
    unfold flD1 at e
    split at e
    · cases e
      obtain ⟨v, rfl, dv1⟩ := one_of dv
      exact rd_mkN (n := 1) (C := C) (Q := fun cls d H' => W cls d σ H') (fl := Ky.fl1 f) (vs := [v]) rfl (by decide) (posts_exc (st.to af) m q (.cons na dv1 .nil))
    · cases e
  · exact q.elim
theorem rs_raise2 {x f g : Str} {C : Addr} (m : c.mg x = some (.ref C)) (na : NoAttr c.K C f) (na2 : NoAttr c.K C g) (Dn : Ends) (σ : L2.St) (H : Hp) (z : rs c W nw (sRaise x (flD2 f g) fs) Dn σ H) : tMkO C (Ky.spIn C 2 (Ky.fl2 f g)) [] (ra c W fs) σ H fun cls d H' => W cls d σ H' := by
  obtain ⟨ha, G0, B, G, δ, h, st, p⟩ := z
  refine ⟨ha, G0, B, G, δ, h, st, post_imp (post_fl st p) fun ds h1 G1 H1 af q vs dv => ?_⟩
  split at q
  · rename_i fx e
    unfold flD2 at e
    split at e
    · cases e
      obtain ⟨v, w, rfl, dv1, dw⟩ := two_of dv
      exact rd_mkN (n := 2) (C := C) (Q := fun cls d H' => W cls d σ H') (fl := Ky.fl2 f g) (vs := [v, w]) rfl (by decide) (posts_exc (st.to af) m q (.cons na2 dw (.cons na dv1 .nil)))
    · cases e
  · exact q.elim
section
variable {x n g : Str} {C fI gP : Addr} {fd : FuncData} {p : Pos}
theorem ds_raise1 (E : Er1 X.prog X.w c X.base gP x n C fI fd) (hc : X.calm = true) (tk : Takes X W) (hr : Room 2 X.A) (hg : Gl X x) (ha : PA X (e :: es) (ra c W fs)) (hK : X.K = c.K := by rfl) (hM : X.mg = c.mg := by rfl)
    (hdb : (x == ("__debug__" : Str)) = false := by decide) (he : starEach (e :: es) X.env = (false, eval e X.env) :: starEach es X.env := by rfl) {pos2 : Pos} (hpl : (backTo pos (starEach es X.env)).any (·.1) = false := by rfl) : PS X (.Raise (some (.Call (.Name x p) (e :: es) [] pos)) none pos2) (rs c W nw (sRaise x (flD1 n) fs)) := by
  obtain ⟨er, m, na, iC, tI, G, b⟩ := E
  rw [← hK] at er iC tI b
  have G' : FnOk X.prog X.w X.K X.mg X.base CX0 1 fI fd ["self", n] (Ky.spIn C 1 (Ky.fl1 n)) := by rw [hK, hM]; exact G
  exact ps_to (ps_raise hc tk (pmk_oex er.ox iC tI G' hr b .nil pass0 hg (by rw [hM]; exact m) ha hdb he hpl)) fun Dn σ H z => rs_raise1 m na Dn σ H z
theorem ds_raise2 (E : Er2 X.prog X.w c X.base gP x n g C fI fd) (hc : X.calm = true) (tk : Takes X W) (hr : Room 2 X.A) (hg : Gl X x) (ha : PA X (e :: es) (ra c W fs)) (hK : X.K = c.K := by rfl) (hM : X.mg = c.mg := by rfl)
    (hdb : (x == ("__debug__" : Str)) = false := by decide) (he : starEach (e :: es) X.env = (false, eval e X.env) :: starEach es X.env := by rfl) {pos2 : Pos} (hpl : (backTo pos (starEach es X.env)).any (·.1) = false := by rfl) : PS X (.Raise (some (.Call (.Name x p) (e :: es) [] pos)) none pos2) (rs c W nw (sRaise x (flD2 n g) fs)) := by
  obtain ⟨er, m, na, na2, iC, tI, G, b⟩ := E
  rw [← hK] at er iC tI b
  have G' : FnOk X.prog X.w X.K X.mg X.base CX0 1 fI fd ["self", n, g] (Ky.spIn C 2 (Ky.fl2 n g)) := by rw [hK, hM]; exact G
  exact ps_to (ps_raise hc tk (pmk_oex er.ox iC tI G' hr b .nil pass0 hg (by rw [hM]; exact m) ha hdb he hpl)) fun Dn σ H z => rs_raise2 m na na2 Dn σ H z
/-- an error class without fields -/
structure Er0 (c : Cn) (gP : Addr) (x : Str) (C : Addr) : Prop where
  er : Kx.Er c.K gP C
  m : c.mg x = some (.ref C)
  q : PySem.W.excIn c.K C PySem.HandSPX.veTail "ValueError.__new__" = true
  kC : PySem.W.keepIn c.K (.ref C) = true
theorem ds_raise0 (E : Er0 c gP x C) (hc : X.calm = true) (tk : Takes X W) (hg : Gl X x) (hK : X.K = c.K := by rfl) (hM : X.mg = c.mg := by rfl)
    (hdb : (x == ("__debug__" : Str)) = false := by decide) {pos2 : Pos} : PS X (.Raise (some (.Call (.Name x p) [] [] pos)) none pos2) (rs c W nw (sRaise0 x)) := by
  obtain ⟨er, m, q, kC⟩ := E
  rw [← hK] at er q kC
  refine ps_to (ps_raise hc tk (Re.pmk_bare q (by rw [hM]; exact m) kC (raises_own er.ox.exC er.ox.tyC) hg hdb)) fun Dn σ H z => ?_
  obtain ⟨ha, G0, B, G, δ, h, st, p⟩ := z
  exact p σ C none G H h G H st (Same.refl _) st.here m (.inl ⟨rfl, rfl⟩)
end
structure Cz where
  ms : Str → Option Bool
  i : Option Nat
  u : SF
def dropFl (i : Option Nat) (r : Fl) : Fl := match i, r with
  | some i, .nx δ h => .nx ((δ.map dropX).set i none) h
  | some i, .brk δ h => .brk ((δ.map dropX).set i none) h
  | some i, .ct δ h => .ct ((δ.map dropX).set i none) h
  | _, .exc _ _ _ _ => .bad
  | _, r => r
def exIn (i : Option Nat) (n : Str) (fs : List (Str × D)) (δ : DE) : DE := match i with
  | some i => δ.set i (some (.ex n fs))
  | none => δ
def Cz.here (z : Cz) (δ : DE) : Bool := match z.i with
  | some i => decide (i < δ.length)
  | none => true
def hdGo : List Cz → Str → List (Str × D) → SF
  | [], n, fs, δ, h => .exc n fs δ h
  | z :: r, n, fs, δ, h => match z.ms n with
    | some true => if z.here δ then dropFl z.i (z.u (exIn z.i n fs δ) h) else .bad
    | some false => hdGo r n fs δ h
    | none => .bad
def sTry (u : SF) (cs : List Cz) : SF := fun δ h => match u δ h with
  | .exc n fs δ' h' => hdGo cs n fs δ' h'
  | r => r
/-- the clauses, each with its suite's reading -/
inductive CzOk (X : Cx) (c : Cn) (nw : Bool) : List ExceptHandler → List Cz → List Wy.Cl → Prop
  | nil : CzOk X c nw [] [] []
  | cons {x n : Str} {Cc : Addr} {i : Nat} {ms : Str → Option Bool} {u : SF} {b : Stmt} {bs : List Stmt} {p1 p2 : Pos} {hs : List ExceptHandler} {r : List Cz} {l : List Wy.Cl} (hn : X.N[i]? = some n) (hk : X.env.kindOf n = some .local) (nm : Names X x (.ref Cc))
      (hm : ∀ n b C, ms n = some b → c.mg n = some (.ref C) → PySem.W.exmOne c.K (.ref C) (.ref Cc) = some b)
      (su : ∀ (e : Addr) (ob : Obj) (k : Value) (dd : Option Addr) (ps : List (Addr × Obj)), Zc k dd ob → (∃ us, ob.data = .fields us) → PSs (X.suite e ((e, ob) :: ps)) (b :: bs) (rs (c.at (some (e, k, dd))) WF nw u)) (rest : CzOk X c nw hs r l) :
      CzOk X c nw (.ExceptHandler (some (.Name x p1)) (some n) (b :: bs) p2 :: hs) (⟨ms, some i, u⟩ :: r) (⟨.ref Cc, some i, fun e k dd => rs (c.at (some (e, k, dd))) WF nw u⟩ :: l)
  | bare {x : Str} {Cc : Addr} {ms : Str → Option Bool} {u : SF} {b : Stmt} {bs : List Stmt} {p1 p2 : Pos} {hs : List ExceptHandler} {r : List Cz} {l : List Wy.Cl} (nm : Names X x (.ref Cc))
      (hm : ∀ n b C, ms n = some b → c.mg n = some (.ref C) → PySem.W.exmOne c.K (.ref C) (.ref Cc) = some b)
      (su : ∀ (e : Addr) (ob : Obj) (k : Value) (dd : Option Addr) (ps : List (Addr × Obj)), Zc k dd ob → (∃ us, ob.data = .fields us) → PSs (X.suite e ((e, ob) :: ps)) (b :: bs) (rs c WF nw u)) (rest : CzOk X c nw hs r l) :
      CzOk X c nw (.ExceptHandler (some (.Name x p1)) none (b :: bs) p2 :: hs) (⟨ms, none, u⟩ :: r) (⟨.ref Cc, none, fun e k dd => rs c WF nw u⟩ :: l)
theorem CzOk.cl {X : Cx} {c : Cn} {nw : Bool} {hs : List ExceptHandler} {cs : List Cz} {l : List Wy.Cl} (k : CzOk X c nw hs cs l) : Wy.ClOk X hs l := by
  induction k with
  | nil => exact .nil
  | cons hn hk nm hm su _ ih => exact .cons hn hk nm su ih
  | bare nm hm su _ ih => exact .bare nm su ih
theorem Sta.out {ha : Option Addr} {G0 B G H : Hp} {σ : L2.St} {δ : DE} {h : D} {x : Option (Addr × Value × Option Addr)} (st : Sta (c.at x) ha G0 B G H σ δ h) (i : Nat) : Sta c ha G0 B G H (σ.set i none) ((δ.map dropX).set i none) h := by
  obtain ⟨fp, os, n, k⟩ := st.sl
  obtain ⟨fp', o', sb⟩ := ownS_out (c := c.at x) (c' := c) rfl rfl os
  have st2 : Sta c ha G0 B G H σ (δ.map dropX) h := ⟨⟨fp', o', n.sublist sb, fun a hx => k a (sb.subset hx)⟩, st.mv, st.bt, hok_c (c := c.at x) (c' := c) rfl rfl st.hd, st.hb⟩
  exact st2.wipe1 i none
theorem res_c {ha : Option Addr} {B G' H' : Hp} {v : V} {d : D} {x : Option (Addr × Value × Option Addr)} (r : Res nw (c.at x) ha B G' H' v d) : Res nw c ha B G' H' v d := by
  cases nw with
  | false => exact dq_c (c := c.at x) (c' := c) rfl rfl (show Dq (c.at x) ha G' v d from r)
  | true =>
    obtain ⟨fp, o, n, k⟩ := r
    exact ⟨fp, own_c (c := c.at x) (c' := c) rfl rfl o, n, k⟩
theorem af_c {ha : Option Addr} {G H G' H' : Hp} {h' : D} {x : Option (Addr × Value × Option Addr)} (a : Af (c.at x) ha G H G' H' h') : Af c ha G H G' H' h' := ⟨a.mv, a.bt, hok_c (c := c.at x) (c' := c) rfl rfl a.hd⟩
/-- the held error comes into its slot -/
theorem Sta.exin {ha : Option Addr} {G0 B G1 H1 G' H' : Hp} {σ : L2.St} {δ : DE} {h1 h' : D} {C a : Addr} {dd : Option Addr} {n : Str} {fs : List (Str × D)} {i : Nat} (hx : c.xa = none) (st : Sta c ha G0 B G1 H1 σ δ h1) (af : Af c ha G1 H1 G' H' h') (m : c.mg n = some (.ref C)) (xr : XR c ha G' H1 H' C dd fs) (hi : i < δ.length) :
    Sta (c.at (some (a, .ref C, dd))) ha G0 B G' H' (σ.set i (some (.ref a))) (δ.set i (some (.ex n fs))) h' := by
  obtain ⟨fp, os, nn, k⟩ := st.sl
  have st2 := st.to af
  have os1 : OwnS c ha G' H' σ δ fp := Sta.keep (B := B) af os k
  obtain ⟨fp1, os2, sb⟩ := ownS_wipe (i := i) none os1
  have os3 := ownS_in (c := c) (c' := c.at (some (a, .ref C, dd))) rfl rfl hx os2
  have hs : (δ.set i none)[i]? = some none := by rw [List.getElem?_set_self hi]
  have key : ∀ fx, ExH (c.at (some (a, .ref C, dd))) ha G' H' dd C fs fx → (∀ d ∈ fx, H1 d = none) → fx.Nodup → Sta (c.at (some (a, .ref C, dd))) ha G0 B G' H' (σ.set i (some (.ref a))) (δ.set i (some (.ex n fs))) h' := by
    intro fx x kx nx
    obtain ⟨f1, f2, rfl, o4⟩ := ownS_fill (c := c.at (some (a, .ref C, dd))) (a := a) rfl m x os3 hs
    rw [List.set_set, List.set_set] at o4
    refine ⟨⟨_, o4, nodup_ins (nn.sublist sb) nx fun d hd hm => ?_, fun b hb => ?_⟩, st2.mv, st2.bt, hok_c (c := c) (c' := c.at (some (a, .ref C, dd))) rfl rfl st2.hd, st2.hb⟩
    · exact (ownS_at os d (sb.subset hm)).2 (kx d hd)
    · have hb2 : b ∈ fx ∨ b ∈ f1 ++ f2 := by
        rcases List.mem_append.mp hb with z | z
        · exact .inr (List.mem_append_left _ z)
        · exact (List.mem_append.mp z).imp id fun q => List.mem_append_right _ q
      rcases hb2 with z | z
      · exact ⟨st.old (kx b z), st.ne_ha (kx b z)⟩
      · exact k b (sb.subset z)
  rcases xr with ⟨rfl, rfl⟩ | ⟨d, xs, rfl, h2, h3, h4, h5⟩
  · exact key [] .none (fun d z => nomatch z) (by simp)
  · exact key [d] (.some h2 h3 (dqF_c (c := c) (c' := c.at (some (a, .ref C, some d))) rfl rfl h5)) (fun b z => by rw [List.mem_singleton.mp z]; exact h4) (by simp)
theorem try_ask {ha : Option Addr} {G0 B G : Hp} {Dn : Ends} {n : Str} {fs : List (Str × D)} {δ : DE} {h : D} (hx : c.xa = none) (hK : X.K = c.K) : ∀ {hs : List ExceptHandler} {cs : List Cz} {l : List Wy.Cl}, CzOk X c nw hs cs l → PostS c ha W nw G0 B G (hdGo cs n fs δ h) Dn →
    ∀ σ C dd G1 H1 h1 G' H', Sta c ha G0 B G1 H1 σ δ h1 → Same G G1 → Af c ha G1 H1 G' H' h → c.mg n = some (.ref C) → XR c ha G' H1 H' C dd fs → Wy.wCl X.K W Dn l (.ref C) dd σ H' := by
  intro hs cs l k
  induction k with
  | nil => exact fun p => p
  | @cons x nm0 Cc i ms u b bs p1 p2 hs r l hn hk nm hm su rest ih =>
    intro p σ C dd G1 H1 h1 G' H' st sg af m xr
    unfold hdGo at p
    cases e : ms n with
    | none => simp only [e] at p; exact p.elim
    | some t =>
      simp only [e] at p
      refine ⟨t, by rw [hK]; exact hm n t C e m, fun et a hna => ?_, fun et => ?_⟩
      · subst et
        have p0 : PostS c ha W nw G0 B G (if decide (i < δ.length) = true then dropFl (some i) (u (δ.set i (some (.ex n fs))) h) else .bad) Dn := p
        by_cases hi0 : decide (i < δ.length) = true
        case neg => rw [if_neg hi0] at p0; exact p0.elim
        rw [if_pos hi0] at p0
        have hi : i < δ.length := of_decide_eq_true hi0
        refine ⟨ha, G0, B, G', δ.set i (some (.ex n fs)), h, st.exin hx af m xr hi, ?_⟩
        have p2 := p0
        generalize u (δ.set i (some (.ex n fs))) h = r at p2
        have gg : Same G G' := sg.trans af.gg
        cases r with
        | nx δ' h' => exact fun σ' G2 H2 st2 s2 => p2 _ G2 H2 (st2.out i) (gg.trans s2)
        | brk δ' h' => exact fun σ' G2 H2 st2 s2 => p2 _ G2 H2 (st2.out i) (gg.trans s2)
        | ct δ' h' => exact fun σ' G2 H2 st2 s2 => p2 _ G2 H2 (st2.out i) (gg.trans s2)
        | ret d h' => exact fun v G2 H2 a2 r2 => p2 v G2 H2 (af_c a2) (res_c r2)
        | exc _ _ _ _ => exact p2.elim
        | bad => exact p2.elim
      · subst et
        exact ih p σ C dd G1 H1 h1 G' H' st sg af m xr
  | @bare x Cc ms u b bs p1 p2 hs r l nm hm su rest ih =>
    intro p σ C dd G1 H1 h1 G' H' st sg af m xr
    unfold hdGo at p
    cases e : ms n with
    | none => simp only [e] at p; exact p.elim
    | some t =>
      simp only [e] at p
      refine ⟨t, by rw [hK]; exact hm n t C e m, fun et a hna => ?_, fun et => ?_⟩
      · subst et
        refine ⟨ha, G0, B, G', δ, h, st.to af, ?_⟩
        have p2 : PostS c ha W nw G0 B G (dropFl none (u δ h)) Dn := p
        generalize u δ h = r at p2
        have gg : Same G G' := sg.trans af.gg
        cases r with
        | nx δ' h' => exact fun σ' G2 H2 st2 s2 => p2 _ G2 H2 st2 (gg.trans s2)
        | brk δ' h' => exact fun σ' G2 H2 st2 s2 => p2 _ G2 H2 st2 (gg.trans s2)
        | ct δ' h' => exact fun σ' G2 H2 st2 s2 => p2 _ G2 H2 st2 (gg.trans s2)
        | ret d h' => exact fun v G2 H2 a2 r2 => p2 v G2 H2 a2 r2
        | exc _ _ _ _ => exact p2.elim
        | bad => exact p2.elim
      · subst et
        exact ih p σ C dd G1 H1 h1 G' H' st sg af m xr
theorem ds_try {body : List Stmt} {h0 : ExceptHandler} {hr : List ExceptHandler} {cs : List Cz} {l : List Wy.Cl} (hx : c.xa = none) (st : X.stack = X.env :: X.outer) (fr : X.env.frame = some X.env.locals) (nd : X.N.Nodup) (tko : Takes X W)
    (bd : ∀ (W' : WX) (ps : List (Addr × Obj)) (xs : Value → Shared → Prop), Takes (X.tr ps xs) W' → PassesOwn (model X.prog X.w) X.A X.env xs → PSs (X.tr ps xs) body (rs c W' nw u))
    (cl : CzOk X c nw (h0 :: hr) cs l) (hK : X.K = c.K := by rfl) : PS X (.Try body (h0 :: hr) [] [] pos) (rs c W nw (sTry u cs)) := by
  refine ⟨fun pins s σ H Dn I z => (Wy.ps_try_named (tb := fun W' => rs c W' nw u) st fr nd tko bd cl.cl).run pins s σ H Dn I ?_⟩
  obtain ⟨ha, G0, B, G, δ, h, st', p⟩ := z
  refine ⟨ha, G0, B, G, δ, h, st', ?_⟩
  unfold sTry at p
  cases e : u δ h with
  | exc n fs δ' h' =>
    rw [e] at p
    intro σ' C dd G1 H1 h1 G' H' st1 sg af m xr
    exact try_ask hx hK cl p σ' C dd G1 H1 h1 G' H' st1 sg af m xr
  | nx δ' h' => rw [e] at p; exact p
  | brk δ' h' => rw [e] at p; exact p
  | ct δ' h' => rw [e] at p; exact p
  | ret d h' => rw [e] at p; exact p
  | bad => rw [e] at p; exact p
def eXf (ns : List Str) (i : Nat) (f : Str) : EF D := fun δ h => Ex.of (match δ[i]? with
  | some (some (.ex n fs)) => if ns.contains n then fs.lookup f else none
  | _ => none) h
theorem dx_xf {ns : List Str} {i : Nat} {x f : Str} {a : Addr} {oe : Obj} {k : Value} {dd : Option Addr} {pn : List (Addr × Obj)} {p : Pos} (hT : ∀ n C, ns.contains n = true → c.mg n = some (.ref C) → XfC X.K C) (hz : Zc k dd oe) (hf : ∃ vs, oe.data = .fields vs)
    (hN : X.N[i]? = some x) (hv : Vis X.env.scope x) (hK : X.K = c.K := by rfl) (hd : (x == ("__debug__" : Str)) = false := by decide) (hcd : (x == ("__classdict__" : Str)) = false := by decide) (hb : attributeBase (.Name x p) f (X.suite a ((a, oe) :: pn)).env (eval (.Name x p) (X.suite a ((a, oe) :: pn)).env) = eval (.Name x p) (X.suite a ((a, oe) :: pn)).env := by rfl) :
    PE (X.suite a ((a, oe) :: pn)) (.Attribute (.Name x p) f pos) (rd (c.at (some (a, k, dd))) W (eXf ns i f)) := by
  refine ⟨fun pins s σ H Q I z => ?_⟩
  obtain ⟨ha, G0, B, G, δ, h, st, q⟩ := z
  obtain ⟨d, e, q⟩ := post_of q
  split at e
  · rename_i n fs e1
    by_cases hns : ns.contains n = true
    case neg => rw [if_neg hns] at e; cases e
    rw [if_pos hns] at e
    obtain ⟨fp, os, nn, kk⟩ := st.sl
    obtain ⟨a', dd', C, fx, h1, h2, h3, h4⟩ := ownS_ex os e1
    cases h2
    cases h4 with
    | none => cases e
    | @some d0 _ xs _ g1 g2 g3 =>
      obtain ⟨na, w, g4, g5⟩ := dqF_look g3 e
      exact (pe_xf (hT n C hns h3) (by rw [hK]; exact na) hz hf (pe_var (X := X.suite a ((a, oe) :: pn)) hN hv hd hcd) hb).run pins s σ H Q I ⟨_, h1, rfl, rfl, d0, xs, w, rfl, g1, g4, q _ _ st.here _ g5⟩
  · cases e
/-- isinstance(e, C) -/
def eXi (ms : Str → Option Bool) (i : Nat) : EF D := fun δ h => Ex.of (match δ[i]? with
  | some (some (.ex n _)) => (ms n).map .bl
  | _ => none) h
theorem dx_xi {ms : Str → Option Bool} {i : Nat} {x y : Str} {a P Ct : Addr} {oe : Obj} {k : Value} {dd : Option Addr} {pn : List (Addr × Obj)} {p p1 p2 : Pos} (gt : Kx.Gt X.K) (hT : ∀ n C b, ms n = some b → c.mg n = some (.ref C) → Kx.Er X.K P C ∧ PySem.W.kitOne X.K (.ref C) (.ref Ct) = some b) (hz : Zc k dd oe) (hf : ∃ vs, oe.data = .fields vs)
    (hN : X.N[i]? = some x) (hv : Vis X.env.scope x) (hg : Gl X "isinstance") (hm : X.mg "isinstance" = none) (hgt : Gl X y) (hmt : X.mg y = some (.ref Ct)) (hd : (x == ("__debug__" : Str)) = false := by decide) (hcd : (x == ("__classdict__" : Str)) = false := by decide) (hdy : (y == ("__debug__" : Str)) = false := by decide)
    (s1 : starEach [.Name x p, .Name y p1] (X.suite a ((a, oe) :: pn)).env = (false, eval (.Name x p) (X.suite a ((a, oe) :: pn)).env) :: starEach [.Name y p1] (X.suite a ((a, oe) :: pn)).env := by rfl) (s2 : starEach [.Name y p1] (X.suite a ((a, oe) :: pn)).env = (false, eval (.Name y p1) (X.suite a ((a, oe) :: pn)).env) :: starEach [] (X.suite a ((a, oe) :: pn)).env := by rfl) (hpl : (backTo pos (starEach [.Name y p1] (X.suite a ((a, oe) :: pn)).env)).any (·.1) = false := by rfl) :
    PE (X.suite a ((a, oe) :: pn)) (.Call (.Name "isinstance" p2) [.Name x p, .Name y p1] [] pos) (rd (c.at (some (a, k, dd))) W (eXi ms i)) := by
  refine ⟨fun pins s σ H Q I z => ?_⟩
  obtain ⟨ha, G0, B, G, δ, h, st, q⟩ := z
  obtain ⟨d, e, q⟩ := post_of q
  split at e
  · rename_i n fs e1
    obtain ⟨b, e2, rfl⟩ := map_get e
    obtain ⟨fp, os, nn, kk⟩ := st.sl
    obtain ⟨a', dd', C, fx, h1, h2, h3, h4⟩ := ownS_ex os e1
    cases h2
    obtain ⟨er, kit⟩ := hT n C b e2 h3
    refine (pe_callB (X := X.suite a ((a, oe) :: pn)) (Re.call_isS (P := P) gt hz hf) hg hm PyProof.Rows.boot_isinstance (pa_cons (pe_var (X := X.suite a ((a, oe) :: pn)) hN hv hd hcd) (pa_cons (pe_glob (X := X.suite a ((a, oe) :: pn)) (v := .ref Ct) hgt hmt rfl hdy) pa_nil s2) s1) (by decide) (by decide) s1 hpl).run pins s σ H Q I ?_
    refine ⟨_, h1, C, .ref Ct, .ref Ct, b, rfl, ⟨rfl, ?_⟩, er, rfl, kit, q _ _ st.here _ (.bl b)⟩
    cases h4 with
    | none => exact .inl rfl
    | some g1 g2 g3 => exact .inr ⟨_, _, rfl, g1⟩
  · cases e
end
end Fw
set_option maxHeartbeats 2000000
namespace Fw
open PySem PySem.Spec PyProof.Rows L2 Dz Vz
/-- a def that may be called; dd: what lacks -/
structure Cal (P : Program) (w : World) (c : Cn) (base : Heap) (nw : Bool) (k : Nat) (g : Addr) (n : Nat) (F : Fn) (dd : List D) : Prop where
  ex : ∃ (fd : FuncData) (ps : List Str) (ds : List Value) (dvs : List V), FnOk P w c.K c.mg base (L2.CX P w) k g fd ps (spD c nw n F) ∧ L2.Binds c.K fd ps ds ∧ Vals dvs ds ∧ ∀ ha G, DqAll c ha G dvs dd
  kp : PySem.W.keepIn c.K (.ref g) = true
theorem passF {X : Cx} : ∀ σ, PassesAt (L2.CX X.prog X.w) X σ (WE WF σ) := fun σ pins H s e s' I h => by
  obtain ⟨a, B, H', cls, d, _, _, _, _, _, _, _, q⟩ := h
  exact q.elim
section
variable {P : Program} {w : World} {c : Cn} {base : Heap} {nw : Bool} {k n : Nat} {g : Addr} {F : Fn} {fd : FuncData} {ps : List Str} {x qual : Str} {params : Arguments} {body : List Stmt} {scope : Scope} {dvs : List V} {kws : List (Str × V)}
theorem cal_of (D : FunD c.K x qual params body scope dvs kws g fd) (G : FnOk P w c.K c.mg base (L2.CX P w) k g fd ps (spD c nw n F)) (b : L2.Binds c.K fd ps []) : Cal P w c base nw k g n F [] :=
  ⟨⟨fd, ps, [], [], G, b, .nil, fun _ _ => .nil⟩, D.kp⟩
theorem cal_of1 {dv : List V} {dd : List D} (D : FunD c.K x qual params body scope dvs kws g fd) (G : FnOk P w c.K c.mg base (L2.CX P w) k g fd ps (spD c nw n F)) (b : ∃ ds, Vals dv ds ∧ L2.Binds c.K fd ps ds) (hd : ∀ ha G, DqAll c ha G dv dd) : Cal P w c base nw k g n F dd := by
  obtain ⟨ds, v, b⟩ := b
  exact ⟨⟨fd, ps, ds, dv, G, b, v, hd⟩, D.kp⟩
end
section
variable {X : Cx} {W : WX} {c : Cn} {nw : Bool} {e a b o : Expr} {es : List Expr} {pos : Pos} {te : TE} {f fa fb fo : EF D} {fs : EF (List D)} {k n : Nat} {g C : Addr} {F : Fn} {dd : List D} {x m : Str} {p apos : Pos}
theorem cc_call (G : Cal X.prog X.w c X.base false k g n F dd) (hr : Room k X.A) (hm : c.mg x = some (.ref g)) (hx : ∀ σ, PassesAt (L2.CX X.prog X.w) X σ (WE W σ)) (ha : PA X (e :: es) (rg c W fs)) (hg : Gl X x := by rfl) (hK : X.K = c.K := by rfl) (hM : X.mg = c.mg := by rfl)
    (hdb : (x == ("__debug__" : Str)) = false := by decide) (he : starEach (e :: es) X.env = (false, eval e X.env) :: starEach es X.env := by rfl) (hpl : (backTo pos (starEach es X.env)).any (·.1) = false := by rfl) :
    PE X (.Call (.Name x p) (e :: es) [] pos) (rd c W (eCall n F dd fs)) := by
  obtain ⟨K, mg, xa⟩ := c
  cases hK
  cases hM
  obtain ⟨fd, ps, ds, dvs, F1, b1, v1, d1⟩ := G.ex
  exact dx_call F1 hr hg hm G.kp b1 v1 d1 hx ha hdb he hpl
theorem cc_call0 (G : Cal X.prog X.w c X.base false k g n F dd) (hr : Room k X.A) (hm : c.mg x = some (.ref g)) (hx : ∀ σ, PassesAt (L2.CX X.prog X.w) X σ (WE W σ)) (hg : Gl X x := by rfl) (hK : X.K = c.K := by rfl) (hM : X.mg = c.mg := by rfl)
    (hdb : (x == ("__debug__" : Str)) = false := by decide) : PE X (.Call (.Name x p) [] [] pos) (rd c W (eCall n F dd eNil)) := by
  obtain ⟨K, mg, xa⟩ := c
  cases hK
  cases hM
  obtain ⟨fd, ps, ds, dvs, F1, b1, v1, d1⟩ := G.ex
  exact dx_call0 F1 hr hg hm G.kp b1 v1 d1 hx hdb
theorem cw_call (G : Cal X.prog X.w c X.base true k g n F dd) (hr : Room k X.A) (hm : c.mg x = some (.ref g)) (hx : ∀ σ, PassesAt (L2.CX X.prog X.w) X σ (WE W σ)) (ha : PA X (e :: es) (rg c W fs)) (hg : Gl X x := by rfl) (hK : X.K = c.K := by rfl) (hM : X.mg = c.mg := by rfl)
    (hdb : (x == ("__debug__" : Str)) = false := by decide) (he : starEach (e :: es) X.env = (false, eval e X.env) :: starEach es X.env := by rfl) (hpl : (backTo pos (starEach es X.env)).any (·.1) = false := by rfl) :
    PE X (.Call (.Name x p) (e :: es) [] pos) (rw' c W (eCall n F dd fs)) := by
  obtain ⟨K, mg, xa⟩ := c
  cases hK
  cases hM
  obtain ⟨fd, ps, ds, dvs, F1, b1, v1, d1⟩ := G.ex
  exact dw_call F1 hr hg hm G.kp b1 v1 d1 hx ha hdb he hpl
theorem cc_meth {nm : Str} {pl : Sem Bool} (mC : c.mg nm = some (.ref C)) (he : PE X o (rd c W fo)) (cl : Cls c.K C) (hm : Meth c.K C m g) (G : Cal X.prog X.w c X.base false k g n F dd) (hr : Room k X.A) (hx : ∀ σ, PassesAt (L2.CX X.prog X.w) X σ (WE W σ)) (ha : PA X (e :: es) (rg c W fs)) (hK : X.K = c.K := by rfl) (hM : X.mg = c.mg := by rfl)
    (hst : starEach (e :: es) X.env = (false, eval e X.env) :: starEach es X.env := by rfl) (hpl : (backTo pos (starEach es X.env)).any (·.1) = false := by rfl)
    (ht : eval (.Call (.Attribute o m apos) (e :: es) [] pos) X.env = (do
      let ov ← eval o X.env
      standAt apos.atName
      let (f, first) ← holding [ov] (getMethod ov m pl)
      callWith pos f first (backTo pos (starEach (e :: es) X.env)) (backToKw pos (keywordEach [] X.env))) := by rfl) :
    PE X (.Call (.Attribute o m apos) (e :: es) [] pos) (rd c W (eMeth nm m n F dd fo fs)) := by
  obtain ⟨K, mg, xa⟩ := c
  cases hK
  cases hM
  obtain ⟨fd, ps, ds, dvs, F1, b1, v1, d1⟩ := G.ex
  exact dx_meth mC he cl hm F1 hr b1 v1 d1 hx ha hst hpl ht
theorem cc_meth0 {nm : Str} {pl : Sem Bool} (mC : c.mg nm = some (.ref C)) (he : PE X o (rd c W fo)) (cl : Cls c.K C) (hm : Meth c.K C m g) (G : Cal X.prog X.w c X.base false k g n F dd) (hr : Room k X.A) (hx : ∀ σ, PassesAt (L2.CX X.prog X.w) X σ (WE W σ)) (hK : X.K = c.K := by rfl) (hM : X.mg = c.mg := by rfl)
    (ht : eval (.Call (.Attribute o m apos) [] [] pos) X.env = (do
      let ov ← eval o X.env
      standAt apos.atName
      let (f, first) ← holding [ov] (getMethod ov m pl)
      callWith pos f first (backTo pos (starEach [] X.env)) (backToKw pos (keywordEach [] X.env))) := by rfl) :
    PE X (.Call (.Attribute o m apos) [] [] pos) (rd c W (eMeth nm m n F dd fo eNil)) := by
  obtain ⟨K, mg, xa⟩ := c
  cases hK
  cases hM
  obtain ⟨fd, ps, ds, dvs, F1, b1, v1, d1⟩ := G.ex
  exact dx_meth0 mC he cl hm F1 hr b1 v1 d1 hx ht
theorem cc_make {nm : Str} (mC : c.mg nm = some (.ref C)) (co : COk c.K C) (M : Mk c.K C g) (G : Cal X.prog X.w c X.base false k g n F dd) (hr : Room (k + 1) X.A) (hx : ∀ σ, PassesAt (L2.CX X.prog X.w) X σ (WE W σ))
    (ha : PA X (e :: es) (ra c W fs)) (hg : Gl X nm := by rfl) (hK : X.K = c.K := by rfl) (hM : X.mg = c.mg := by rfl) (hdb : (nm == ("__debug__" : Str)) = false := by decide) (he : starEach (e :: es) X.env = (false, eval e X.env) :: starEach es X.env := by rfl) (hpl : (backTo pos (starEach es X.env)).any (·.1) = false := by rfl) :
    PE X (.Call (.Name nm p) (e :: es) [] pos) (rd c W (eMake nm n F dd fs)) := by
  obtain ⟨K, mg, xa⟩ := c
  cases hK
  cases hM
  obtain ⟨fd, ps, ds, dvs, F1, b1, v1, d1⟩ := G.ex
  exact dx_make mC co M F1 hr hg mC b1 v1 d1 hx ha hdb he hpl
end
theorem fn_calm {P : Program} {w : World} {K : PySem.W.Frag} {mg : Str → Option Value} {base : Heap} {k : Nat} {f : Addr} {fd : FuncData} {ps : List Str} {sp : Sp} (F : FnOk P w K mg base (L2.CX P w) k f fd ps sp) : FnOk P w K mg base CX0 k f fd ps (fun vs H Q _ => sp vs H Q fun _ _ _ => False) := by
  refine ⟨fun vs H Q E h => F.len vs H Q _ h, fun A outer s H args us vs Q E r e b v h => codeAny_mono (F.run A outer s H args us vs Q _ r e b v h) fun z s' q => ?_⟩
  cases z with
  | error u =>
    obtain ⟨a, B, H', cls, d, _, _, _, _, _, _, _, q⟩ := q
    exact q.elim
  | ok fl => cases fl <;> exact q
end Fw
set_option maxHeartbeats 2000000
namespace Fw
open PySem PySem.Spec PyProof.Rows L2 Dz Vz
section
variable {X : Cx} {W : WX} {c : Cn} {nw : Bool} {e a b o : Expr} {es : List Expr} {pos : Pos} {te : TE} {f fa fb fo : EF D} {fs : EF (List D)} {k n : Nat} {g C : Addr} {F : Fn} {dd : List D} {x m : Str} {p apos : Pos}
def eLenI (nm : Str) (F : Fn) (f : EF D) : EF D := fun δ h => (f δ h).bind fun d h1 => match d with
  | .ins n' fs => if n' = nm then (F [.ins n' fs] h1).nox.bind fun y h2 => match y with
    | .int i => if 0 ≤ i ∧ i < 1000000 then .ok (.int i) h2 else .bad
    | _ => .bad
    else .bad
  | _ => .bad
theorem nox_end {nw : Bool} {ha : Option Addr} {σ : L2.St} {G H : Hp} {r : Ex D} {Q : VK} (p : Post c ha W σ G H r.nox fun d _ G' H' => ∀ v, Res nw c ha H G' H' v d → Q v H') : EndF nw c ha G H r Q fun _ _ _ => False := by
  cases r with
  | ok d h' => exact fun v G' H' af res => p G' H' af v res
  | exc n fs h' => exact p.elim
  | bad => exact p
theorem cc_lenI {nm : Str} (hc : Wi.Ln1 c.K C g) (mC : c.mg nm = some (.ref C)) (G : Cal X.prog X.w c X.base false k g 1 F []) (hr : Room (k + 1) X.A) (he : PE X a (rd c W f)) (hm : X.mg "len" = none) (hg : Gl X "len" := by rfl) (hK : X.K = c.K := by rfl) (hM : X.mg = c.mg := by rfl)
    (s1 : starEach (a :: []) X.env = (false, eval a X.env) :: starEach [] X.env := by rfl) (hpl : (backTo pos (starEach [] X.env)).any (·.1) = false := by rfl) : PE X (.Call (.Name "len" p) [a] [] pos) (rd c W (eLenI nm F f)) := by
  obtain ⟨K, mg, xa⟩ := c
  cases hK
  cases hM
  obtain ⟨fd, ps, ds, dvs, F1, b1, v1, d1⟩ := G.ex
  have dn : dvs = [] := by cases dvs with
    | nil => rfl
    | cons v vs => cases d1 none fun _ => none
  subst dn
  cases v1
  refine pe_to (pe_callB (Wi.call_lenO hc (fn_calm F1) b1 hr) hg hm PySem.boot_len (pa_cons he pa_nil s1) (by decide) (by decide) s1 hpl) fun σ H Q x => ?_
  obtain ⟨ha, G0, B, G, δ, h, st, p⟩ := x
  refine ⟨ha, G0, B, G, δ, h, st, post_imp (Post.arg p) fun d h1 G1 H1 af ⟨sm, ok, p1⟩ v dv => ?_⟩
  cases dv with
  | ins k1 k2 k3 k4 =>
    obtain ⟨rfl, p2⟩ := if_post p1
    rw [k1] at mC
    cases mC
    refine ⟨_, _, _, rfl, sm _ _ k2, ha, G1, [.ins _ _], h1, rfl, sm, ok, .cons (.ins k1 k2 k3 k4) .nil, nox_end (W := W) (σ := σ) (post_imp (post_bind p2) fun y h2 G2 H2 af2 q v dv => ?_)⟩
    cases (show Dq _ ha G2 v y from dv) with
    | int i =>
      obtain ⟨hi, q2⟩ := if_post q
      refine ⟨i.toNat, by rw [Int.toNat_of_nonneg hi.1], by omega, ?_⟩
      rw [Int.toNat_of_nonneg hi.1]
      exact post_ok q2 af2.gh af2.hd _ (.int i)
    | _ => exact q.elim
  | _ => exact p1.elim
def spIt (K : PySem.W.Frag) (C : Addr) (fld : Str) (n : Nat) : Sp := fun vs H Q _ => ∃ a dx fs l xs, vs = [.ref a] ∧ H a = some (.ins C dx fs) ∧ Cls K C ∧ NoAttr K C fld ∧ fs.lookup fld = some (.ref l) ∧ SqT K H l xs ∧ ∀ it, H it = none → n ≤ it → Q (.ref it) (upd H it (Wi.ItT l it))
def iOwnI (nm fld : Str) (f : EF D) : EF (List D) := fun δ h => (f δ h).bind fun d h1 => Ex.of (match d with
  | .ins n' fs => if n' = nm then match fs.lookup fld with
    | some (.tup ds) => some ds
    | _ => none
    else none
  | _ => none) h1
theorem di_own {nm fld : Str} {fd : FuncData} {ps : List Str} {tg : Expr} (hc : Wi.It1 c.K C g) (mC : c.mg nm = some (.ref C)) (FI : ∀ B : Heap, FnOk X.prog X.w c.K c.mg B CX0 k g fd ps (spIt c.K C fld B.objs.size)) (bI : Binds c.K fd ps []) (hr : Room k X.A) (he : PE X e (rd c W f)) (hK : X.K = c.K := by rfl) (hM : X.mg = c.mg := by rfl) : PI X tg e (ri c W (iOwnI nm fld f)) := by
  obtain ⟨K, mg, xa⟩ := c
  cases hK
  cases hM
  refine pi_to (Wi.pi_own hc FI bI hr he) fun σ H R x => ?_
  obtain ⟨ha, G0, B, G, δ, h, st, p⟩ := x
  refine ⟨ha, G0, B, G, δ, h, st, post_imp (post_bind p) fun d h1 G1 H1 af p1 v dv => ?_⟩
  obtain ⟨ds, e1, q⟩ := post_of p1
  cases dv with
  | ins k1 k2 k3 k4 =>
    rename_i a C' dx n' xs fs'
    replace e1 : (if n' = nm then match List.lookup fld fs' with | some (D.tup ds) => some ds | _ => none else none) = some ds := e1
    by_cases hn : n' = nm
    · rw [if_pos hn] at e1
      subst hn
      rw [k1] at mC
      cases mC
      split at e1
      · rename_i ds2 e2
        cases e1
        obtain ⟨na, w, g1, g2⟩ := dqF_look k4 e2
        cases g2 with
        | tup t1 t2 =>
          refine ⟨_, _, _, _, rfl, af.gh _ _ k2, ⟨_, Evl.ex_t af.gh t1⟩, fun n => ?_, ?_⟩
          · exact ⟨_, _, _, _, _, rfl, af.gh _ _ k2, k3.cl, na, g1, Evl.ex_t af.gh t1, fun it h1 h2 => ⟨it, rfl, h1, h2, rfl⟩⟩
          · exact q G1 H1 (.refl af.gh af.hd) _ (wd_tup t1 t2)
      · cases e1
    · rw [if_neg hn] at e1
      cases e1
  | _ => cases e1
def eNeI (nm : Str) (F : Fn) (fa fb : EF D) : EF D := fun δ h => (fa δ h).bind fun x h1 => (fb δ h1).bind fun y h2 => match x, y with
  | .ins n1 f1, .ins n2 f2 => if n1 = nm ∧ n2 = nm then (F [.ins n1 f1, .ins n2 f2] h2).nox.bind fun z h3 => match z with
    | .bl r => .ok (.bl (!r)) h3
    | _ => .bad
    else .bad
  | _, _ => .bad
theorem cc_neI {nm : Str} (fne : PySem.W.findIn c.K (.ref C) "__ne__" = some (some (.builtin "object.__ne__"))) (find : PySem.W.findIn c.K (.ref C) "__eq__" = some (some (.ref g))) (isf : PySem.W.isFn c.K (.ref g) = true) (hmo : PySem.W.mroIn c.K C (.type "object") = some true)
    (mC : c.mg nm = some (.ref C)) (G : Cal X.prog X.w c X.base false k g 2 F []) (room : Room (k + 1) X.A) (ha : PE X a (rd c W fa)) (hb : PE X b (rd c W fb)) (hK : X.K = c.K := by rfl) (hM : X.mg = c.mg := by rfl) (hm : behindInMarks .NotEq b = false := by rfl) : PE X (.Compare a [.NotEq] [b] pos) (rd c W (eNeI nm F fa fb)) := by
  obtain ⟨K, mg, xa⟩ := c
  cases hK
  cases hM
  obtain ⟨fd, ps, ds, dvs, F1, b1, v1, d1⟩ := G.ex
  have dn : dvs = [] := by cases dvs with
    | nil => rfl
    | cons v vs => cases d1 none fun _ => none
  subst dn
  cases v1
  refine pe_to (pe_cmpR (Wn.op_neI fne find isf hmo (fn_calm F1) b1 room) ha hb hm) fun σ H Q x => ?_
  obtain ⟨ha, G0, B, G, δ, h, st, p⟩ := x
  refine ⟨ha, G0, B, G, δ, h, st, post_imp (post_bind p) fun d h1 G1 H1 af p1 v dv => ?_⟩
  refine ⟨ha, G0, B, G1, δ, h1, st.to af, post_imp (Post.arg p1) fun d2 h2 G2 H2 af2 ⟨sm, ok, p2⟩ v2 dv2 => ?_⟩
  cases dv with
  | ins k1 k2 k3 k4 =>
    cases dv2 with
    | ins l1 l2 l3 l4 =>
      obtain ⟨⟨rfl, e2⟩, p3⟩ := if_post p2
      subst e2
      rw [k1] at mC
      cases mC
      rw [k1] at l1
      cases l1
      refine ⟨_, _, _, _, _, _, rfl, rfl, sm _ _ (af2.gg _ _ k2), sm _ _ l2, ha, G2, [.ins _ _, .ins _ _], h2, rfl, sm, ok, .cons (.ins k1 (af2.gg _ _ k2) k3 (dqF_mono af2.gg k4)) (.cons (.ins k1 l2 l3 l4) .nil), nox_end (W := W) (σ := σ) (post_imp (post_bind p3) fun y h3 G3 H3 af3 q v dv => ?_)⟩
      cases (show Dq _ ha G3 v y from dv) with
      | bl r => exact ⟨r, rfl, post_ok q af3.gh af3.hd _ (.bl _)⟩
      | _ => exact q.elim
    | _ => exact p2.elim
  | _ => exact p2.elim
theorem ct_neI {nm : Str} (fne : PySem.W.findIn c.K (.ref C) "__ne__" = some (some (.builtin "object.__ne__"))) (find : PySem.W.findIn c.K (.ref C) "__eq__" = some (some (.ref g))) (isf : PySem.W.isFn c.K (.ref g) = true) (hmo : PySem.W.mroIn c.K C (.type "object") = some true)
    (mC : c.mg nm = some (.ref C)) (G : Cal X.prog X.w c X.base false k g 2 F []) (room : Room (k + 1) X.A) (ha : PE X a (rd c W fa)) (hb : PE X b (rd c W fb)) (hK : X.K = c.K := by rfl) (hM : X.mg = c.mg := by rfl) (hm : behindInMarks .NotEq b = false := by rfl) : PT X (.Compare a [.NotEq] [b] pos) (rt c W (eT (eNeI nm F fa fb))) := by
  obtain ⟨K, mg, xa⟩ := c
  cases hK
  cases hM
  obtain ⟨fd, ps, ds, dvs, F1, b1, v1, d1⟩ := G.ex
  have dn : dvs = [] := by cases dvs with
    | nil => rfl
    | cons v vs => cases d1 none fun _ => none
  subst dn
  cases v1
  refine pt_to (pt_cmpR (Wn.op_neI fne find isf hmo (fn_calm F1) b1 room) ha hb hm) fun σ H Q x => ?_
  obtain ⟨ha, G0, B, G, δ, h, st, p⟩ := rt_T σ H Q x
  refine ⟨ha, G0, B, G, δ, h, st, post_imp (post_bind p) fun d h1 G1 H1 af p1 v dv => ?_⟩
  refine ⟨ha, G0, B, G1, δ, h1, st.to af, post_imp (Post.arg p1) fun d2 h2 G2 H2 af2 ⟨sm, ok, p2⟩ v2 dv2 => ?_⟩
  cases dv with
  | ins k1 k2 k3 k4 =>
    cases dv2 with
    | ins l1 l2 l3 l4 =>
      obtain ⟨⟨rfl, e2⟩, p3⟩ := if_post p2
      subst e2
      rw [k1] at mC
      cases mC
      rw [k1] at l1
      cases l1
      refine ⟨_, _, _, _, _, _, rfl, rfl, sm _ _ (af2.gg _ _ k2), sm _ _ l2, ha, G2, [.ins _ _, .ins _ _], h2, rfl, sm, ok, .cons (.ins k1 (af2.gg _ _ k2) k3 (dqF_mono af2.gg k4)) (.cons (.ins k1 l2 l3 l4) .nil), nox_end (W := W) (σ := σ) (post_imp (post_bind p3) fun y h3 G3 H3 af3 q v dv => ?_)⟩
      cases (show Dq _ ha G3 v y from dv) with
      | bl r => exact ⟨r, rfl, post_ok q af3.gh af3.hd _ (.bl _)⟩
      | _ => exact q.elim
    | _ => exact p2.elim
  | _ => exact p2.elim
end
end Fw
set_option maxHeartbeats 2000000
namespace Fw
open PySem PySem.Spec PyProof.Rows L2 Dz Vz
section
variable {X : Cx} {W : WX} {c : Cn} {nw : Bool} {e a b o : Expr} {es : List Expr} {pos : Pos} {te : TE} {f fa fb fo elt : EF D} {ga gb : EF Bool} {fs fs1 : EF (List D)}
def rao (c : Cn) (W : WX) (f : EF (List D)) : TA := fun σ H Q => ∃ ha G0 B G δ h, Sta c ha G0 B G H σ δ h ∧ Post c ha W σ G H (f δ h) fun ds _ G' H' => ∀ vs, (∃ fp, OwnAll c ha G' H' vs ds fp ∧ fp.Nodup ∧ ∀ a ∈ fp, H a = none) → Q vs H'
theorem pao_to {t : TA} (p : PA X es t) (i : ∀ σ H Q, rao c W fs σ H Q → t σ H Q) : PA X es (rao c W fs) := ⟨fun ps pins s σ H Q I h => p.run ps pins s σ H Q I (i σ H Q h)⟩
theorem dao_nil : PA X [] (rao c W eNil) := pao_to pa_nil fun σ H Q x => by
  obtain ⟨ha, G0, B, G, δ, h, st, p⟩ := x
  exact post_ok p st.gh st.hd [] ⟨[], .nil, by simp, fun a z => nomatch z⟩
/-- what is held stays behind a deed -/
theorem own_af {ha : Option Addr} {G0 B G H G1 H1 G2 H2 : Hp} {σ : L2.St} {δ : DE} {h h1 h2 : D} {v : V} {d : D} {fp : List Addr} (st : Sta c ha G0 B G H σ δ h) (af2 : Af c ha G1 H1 G2 H2 h2) (o : Own c ha G1 H1 v d fp) (k : ∀ a ∈ fp, H a = none) : Own c ha G2 H2 v d fp := by
  refine own_keep af2.gg o fun b hb => ?_
  obtain ⟨g, hne⟩ := own_at o b hb
  obtain ⟨u, e⟩ := ne_some hne
  exact ⟨by rw [e]; exact af2.bt b u (fun z => st.hne b z (k b hb)) e, (af2.mv.nw b hne).trans g⟩
theorem dao_cons (he : PE X e (rw' c W f)) (hs : PA X es (rao c W fs)) (hst : starEach (e :: es) X.env = (false, eval e X.env) :: starEach es X.env := by rfl) : PA X (e :: es) (rao c W (eCons f fs)) := pao_to (pa_cons he hs hst) fun σ H Q x => by
  obtain ⟨ha, G0, B, G, δ, h, st, p⟩ := x
  refine ⟨ha, G0, B, G, δ, h, st, post_imp (post_bind p) fun d h1 G1 H1 af1 p1 v ⟨f1, o1, n1, k1⟩ => ?_⟩
  refine ⟨ha, G0, B, G1, δ, h1, st.to af1, post_imp (post_bind p1) fun ds h2 G2 H2 af2 p2 vs ⟨f2, o2, n2, k2⟩ => ?_⟩
  refine post_ok p2 af2.gh af2.hd _ ⟨f1 ++ f2, .cons (own_af (h1 := h1) st af2 o1 k1) o2, List.nodup_append.mpr ⟨n1, n2, fun x hx y hy => ?_⟩, fun x hx => ?_⟩
  · rintro rfl
    exact (own_at o1 x hx).2 (k2 x hy)
  · rcases List.mem_append.mp hx with z | z
    · exact k1 x z
    · exact af_old af1 (k2 x z)
theorem dw_lst (hs : PA X es (rao c W fs)) : PE X (.List es pos) (rw' c W (eLst fs)) := pw_to' (pe_lst hs) fun σ H Q x => by
  obtain ⟨ha, G0, B, G, δ, h, st, p⟩ := x
  refine ⟨ha, G0, B, G, δ, h, st, post_imp (post_bind p) fun ds h1 G1 H1 af1 p1 vs ⟨fp, o, n, k⟩ => ?_⟩
  obtain ⟨d, e, q⟩ := post_of p1
  obtain ⟨z, rfl⟩ := if_get e
  refine ⟨by rw [ownAll_len o]; exact szOk_le z, fun l hl => ?_⟩
  have m := Mv.hid (o := .lst vs) af1.gh hl
  have nl : l ∉ fp := fun z => (ownAll_at o l z).2 hl
  refine q _ _ (.of af1.gh af1.hd m (same_new hl)) _ ⟨l :: fp, .hl upd_same (old_none af1.gh hl) (ownAll_keep (Same.refl _) o fun b hb => ⟨upd_ne fun z => nl (by rw [← z]; exact hb), (ownAll_at o b hb).1⟩), List.nodup_cons.mpr ⟨nl, n⟩, fun b hb => ?_⟩
  rcases List.mem_cons.mp hb with z | z
  · rw [z]; exact af_old af1 hl
  · exact k b z
structure LcJ (c : Cn) (ha : Option Addr) (bind : D → DE → Option DE) (test : EF Bool) (elt : EF D) (δw : DE) (items all : List D) (hE : D) (G1 H1 : Hp) (Da : Addr) (i : Nat) (H : Hp) : Prop where
  ex : ∃ G h acc ds ys fp, Af c ha G1 H1 G H h ∧ H Da = some (.lst acc) ∧ G Da = none ∧ OwnAll c ha G H acc ds fp ∧ fp.Nodup ∧ (∀ a ∈ fp, H1 a = none ∧ a ≠ Da) ∧ ds.length ≤ i ∧ lcGo bind test elt δw (items.drop i) h = .ok ys hE ∧ ds ++ ys = all
theorem lcw_run {ha : Option Addr} {bind : D → DE → Option DE} {g : TG} {vs : List Nat} {J : It} {items all : List D} {hE h1 : D} {G0 B G1 H1 : Hp} {σ : L2.St} {δ : DE} {Da : Addr} {Qd : Hp → Prop} (st : Sta c ha G0 B G1 H1 σ δ h1) (w : WalkD c ha G1 J items) (bd : BindD c vs g bind) (sz : szOk items.length = true)
    (hD : H1 Da = none) (go : lcGo bind ga f (wipeD δ vs) items h1 = .ok all hE)
    (fin : ∀ G H acc fp, Af c ha G1 H1 G H hE → H Da = some (.lst acc) → G Da = none → OwnAll c ha G H acc all fp → fp.Nodup → (∀ a ∈ fp, H1 a = none ∧ a ≠ Da) → Qd H) : LcW J g (rt c WF ga) (rw' c WF f) vs σ H1 Da Qd := by
  have hk := st.hne
  refine ⟨fun i m H => m = items.length - i ∧ i ≤ items.length ∧ LcJ c ha bind ga f (wipeD δ vs) items all hE G1 H1 Da i H, ⟨_, rfl, Nat.zero_le _, ⟨G1, h1, [], [], all, [], ?_⟩⟩, ?_⟩
  · have a0 : Af c ha G1 H1 G1 (upd H1 Da (.lst [])) h1 := .of st.gh st.hd (Mv.hid st.gh hD) (same_new hD)
    exact ⟨a0, upd_same, old_none st.gh hD, .nil, by simp, (fun a z => nomatch z), Nat.zero_le _, go, rfl⟩
  · rintro i m H ⟨rfl, hi, ⟨G, h, acc, ds, ys, fp, af, hDa, gD, da, nf, kf, hl, go, ea⟩⟩
    by_cases hlt : i < items.length
    · refine .inr ⟨w.go i G H af.gg af.gh hlt, fun H' => i + 1 ≤ items.length ∧ LcJ c ha bind ga f (wipeD δ vs) items all hE G1 H1 Da (i + 1) H', fun H' hn => ⟨_, by omega, rfl, hn⟩, fun x H' y => ?_⟩
      have ei : items[i]? = some items[i] := List.getElem?_eq_getElem hlt
      obtain ⟨G2, m2, s2, dx⟩ := w.yld i G H x H' _ af.gg af.gh ei y
      have af2 : Af c ha G H G2 H' h := .of af.gh af.hd m2 s2
      have st2 := ((st.wipe vs).to af).to af2
      have ed : items.drop i = items[i] :: items.drop (i + 1) := (List.drop_eq_getElem_cons hlt)
      rw [ed] at go
      unfold lcGo at go
      have keep : ∀ {G3 H3 : Hp} {h3 : D}, Af c ha G H G3 H3 h3 → OwnAll c ha G3 H3 acc ds fp := fun {G3 H3 h3} a3 => ownAll_keep a3.gg da fun b hb => by
        obtain ⟨g, hne⟩ := ownAll_at da b hb
        obtain ⟨u, e⟩ := ne_some hne
        exact ⟨by rw [e]; exact a3.bt b u (fun z => hk b z (kf b hb).1) e, (a3.mv.nw b hne).trans g⟩
      cases qb : bind items[i] (wipeD δ vs) with
      | none => rw [qb] at go; cases go
      | some δ2 =>
        simp only [qb] at go
        obtain ⟨b, h2, e1, go2⟩ := bind_ok go
        have e1' := nox_ok e1
        refine bd st2 dx qb fun σ2 st3 we => ⟨we.trans (by rw [wipe_wipe]), ha, G0, B, G2, δ2, h, st3, ?_⟩
        rw [e1']
        intro G3 H3 af3
        have d03 := (af.trans af2).trans af3
        have hD3 : H3 Da = some (.lst acc) := af3.bt _ _ (fun z => hk Da z hD) (s2 _ _ hDa)
        have gD3 : G3 Da = none := (af3.mv.nw Da (some_ne (s2 _ _ hDa))).trans ((m2.nw Da (some_ne hDa)).trans gD)
        cases b with
        | false =>
          have go3 : lcGo bind ga f (wipeD δ vs) (items.drop (i + 1)) h2 = .ok ys hE := go2
          exact ⟨hlt, ⟨G3, h2, acc, ds, ys, fp, d03, hD3, gD3, keep (af2.trans af3), nf, kf, by omega, go3, ea⟩⟩
        | true =>
          have go3 : ((f δ2 h2).nox.bind fun y h3 => (lcGo bind ga f (wipeD δ vs) (items.drop (i + 1)) h3).bind fun ys h4 => .ok (y :: ys) h4) = Ex.ok ys hE := go2
          obtain ⟨y1, h3, e3, go4⟩ := bind_ok go3
          obtain ⟨ys1, h4, e4, go5⟩ := bind_ok go4
          cases go5
          have e3' := nox_ok e3
          refine ⟨ha, G0, B, G3, δ2, h2, st3.to af3, ?_⟩
          rw [e3']
          intro G4 H4 af4 v ⟨fv, ov, nv, kv⟩
          have hD4 : H4 Da = some (.lst acc) := af4.bt _ _ (fun z => hk Da z hD) hD3
          have gD4 : G4 Da = none := (af4.mv.nw Da (some_ne hD3)).trans gD3
          have o3 := keep (af2.trans af3)
          have o4 := keep ((af2.trans af3).trans af4)
          have nDv : Da ∉ fv := fun z => by rw [kv Da z] at hD3; cases hD3
          refine ⟨acc, hD4, ?_, hlt, ⟨G4, h3, acc ++ [v], ds ++ [y1], ys1, fp ++ (fv ++ []), af_put (d03.trans af4) hD gD4 hk (some_ne hD4), upd_same, gD4, ownAll_app (ownAll_keep (Same.refl _) o4 fun b hb => ⟨upd_ne (kf b hb).2, (ownAll_at o4 b hb).1⟩) (.cons (own_upd ov nDv) .nil), ?_, fun b hb => ?_, ?_, e4, by rw [List.append_assoc]; exact ea⟩⟩
          · rw [ownAll_len da, sizeLine_eq]
            have := of_decide_eq_true sz
            omega
          · rw [List.append_nil]
            refine List.nodup_append.mpr ⟨nf, nv, fun x hx y hy => ?_⟩
            rintro rfl
            exact (ownAll_at o3 x hx).2 (kv x hy)
          · rw [List.append_nil] at hb
            rcases List.mem_append.mp hb with z | z
            · exact kf b z
            · exact ⟨af_old ((af.trans af2).trans af3) (kv b z), fun e => nDv (by rw [← e]; exact z)⟩
          · rw [List.length_append, List.length_singleton]
            omega
    · have hi2 : i = items.length := by omega
      subst hi2
      rw [List.drop_length] at go
      cases go
      rw [List.append_nil] at ea
      subst ea
      exact .inl ⟨w.stop G H af.gg af.gh, fin G H acc fp af hDa gD da nf kf⟩
theorem rw_lc {vs : List Nat} {bind : D → DE → Option DE} {g : TG} (bd : BindD c vs g bind) (σ : L2.St) (H : Hp) (Q : VK) (x : rw' c W (eLc vs fs bind ga f) σ H Q) : tLc (ri c W fs) g (rt c WF ga) (rw' c WF f) vs σ H Q := by
  obtain ⟨ha, G0, B, G, δ, h, st, p⟩ := x
  unfold eLc eLcL at p
  rw [bind_assoc] at p
  refine ⟨ha, G0, B, G, δ, h, st, post_imp (post_bind p) fun ds h1 G1 H1 af p1 J w Da hD => ?_⟩
  obtain ⟨hz, ys, h2, go, p2⟩ := post_lcL p1
  refine lcw_run (st.to af) w bd hz hD go fun G2 H2 acc fp af2 hDa gD da nf kf => ?_
  refine p2 G2 H2 af2 _ ⟨Da :: fp, .hl hDa gD da, List.nodup_cons.mpr ⟨fun z => (kf Da z).2 rfl, nf⟩, fun b hb => ?_⟩
  rcases List.mem_cons.mp hb with z | z
  · rw [z]; exact af_old af hD
  · exact af_old af (kf b z).1
theorem dw_lc {elt tg iter : Expr} {ifs : List Expr} {scope : Scope} {own : List (Str × Nat)} {bind : D → DE → Option DE} {g : TG} (hc : X.calm = true) (hN : X.N.Nodup) (hi : PI X tg iter (ri c W fs)) (ok : BlkOk X.N X.env.scope scope own) (bd : BindD c (own.map (·.2)) g bind)
    (hg : ∀ (s : Shared) (H : Hp) (C : Addr) (cl : List (Str × Addr)) (fp : List Addr), PG (X.blk s H scope (compEnvC scope cl C X.env) fp) tg g) (ht : ∀ (s : Shared) (H : Hp) (C : Addr) (cl : List (Str × Addr)) (fp : List Addr), PTs (X.blk s H scope (compEnvC scope cl C X.env) fp) ifs (rt c WF ga))
    (he : ∀ (s : Shared) (H : Hp) (C : Addr) (cl : List (Str × Addr)) (fp : List Addr), PE (X.blk s H scope (compEnvC scope cl C X.env) fp) elt (rw' c WF f)) (hs : ∀ x, foldedSetIterable iter X.env x = pure x := by intro _; rfl) :
    PE X (.ListComp elt [⟨tg, iter, ifs, 0⟩] scope pos) (rw' c W (eLc (own.map (·.2)) fs bind ga f)) := pw_to' (pe_lc hc hN hi ok hg ht he hs) (rw_lc bd)
theorem rw_setLc {i : Nat} {vs : List Nat} {bind : D → DE → Option DE} {g : TG} (bd : BindD c vs g bind) (Dn : Ends) (σ : L2.St) (H : Hp) (x : rs c W nw (sSet i (eLc vs fs bind ga f)) Dn σ H) : tAsg (tLc (ri c W fs) g (rt c WF ga) (rw' c WF f) vs) (gName i) Dn σ H := by
  obtain ⟨ha, G0, B, G, δ, h, st, p⟩ := x
  exact rw_lc bd σ H _ ⟨ha, G0, B, G, δ, h, st, post_imp (post_fl st p) fun d h1 G1 H1 af q v ⟨f, o, n1, n2⟩ => q _ G1 H1 (st.setO af i o n1 n2) (Same.refl _)⟩
theorem ds_setLcW {i : Nat} {y : Str} {py : Pos} {elt tg iter : Expr} {ifs : List Expr} {scope : Scope} {own : List (Str × Nat)} {spos : Pos} {bind : D → DE → Option DE} {g : TG} (hc : X.calm = true) (hN : X.N.Nodup) (hy : X.N[i]? = some y) (hyl : X.env.scope.names.lookup y = some .local)
    (hsw : swapsWith (.ListComp elt [⟨tg, iter, ifs, 0⟩] scope pos) (some (.Name y py)) spos.line X.env = pure true) (hi : PI X tg iter (ri c W fs)) (ok : BlkOk X.N X.env.scope scope own) (bd : BindD c (own.map (·.2)) g bind)
    (hg : ∀ (s : Shared) (H : Hp) (C : Addr) (cl : List (Str × Addr)) (fp : List Addr), PG (X.blk s H scope (compEnvC scope cl C X.env) fp) tg g) (ht : ∀ (s : Shared) (H : Hp) (C : Addr) (cl : List (Str × Addr)) (fp : List Addr), PTs (X.blk s H scope (compEnvC scope cl C X.env) fp) ifs (rt c WF ga))
    (he : ∀ (s : Shared) (H : Hp) (C : Addr) (cl : List (Str × Addr)) (fp : List Addr), PE (X.blk s H scope (compEnvC scope cl C X.env) fp) elt (rw' c WF f)) (hs : ∀ x, foldedSetIterable iter X.env x = pure x := by intro _; rfl) :
    PS X (.Assign [.Name y py] (.ListComp elt [⟨tg, iter, ifs, 0⟩] scope pos) spos) (rs c W nw (sSet i (eLc (own.map (·.2)) fs bind ga f))) := ps_to (ps_setLc hc hN hy hyl hsw hi ok hg ht he hs) (rw_setLc bd)
end
end Fw
set_option maxHeartbeats 2000000
namespace Fw
open PySem PySem.Spec PyProof.Rows L2 Dz Vz
def lc2Go (bind : D → DE → Option DE) (test : EF Bool) (inner : EF (List D)) (δ : DE) : List D → D → Ex (List D)
  | [], h => .ok [] h
  | x :: xs, h => match bind x δ with
    | none => .bad
    | some δ2 => (test δ2 h).nox.bind fun b h2 => if b then (inner δ2 h2).nox.bind fun ys h3 => (lc2Go bind test inner δ xs h3).bind fun zs h4 => .ok (ys ++ zs) h4 else lc2Go bind test inner δ xs h2
/-- no slot holds a list of its own -/
def slF (δ : DE) : Bool := δ.all fun o => match o with
  | some .me => true
  | some d => d.fr
  | none => true
def eInn (g : EF (List D)) : EF (List D) := fun δ h => if slF δ then g δ h else .bad
def eLc2 (vs vs1 : List Nat) (it : EF (List D)) (bind : D → DE → Option DE) (test : EF Bool) (it1 : EF (List D)) (bind1 : D → DE → Option DE) (test1 : EF Bool) (elt : EF D) : EF D := fun δ h => (it δ h).bind fun ds h1 => (lc2Go bind test (eInn (eLcL vs1 it1 bind1 test1 elt)) (wipeD δ vs) ds h1).bind fun ys h2 => if szOk ys.length then .ok (.hl ys) h2 else .bad
section
variable {X : Cx} {W : WX} {c : Cn} {nw : Bool} {f : EF D} {ga gb : EF Bool} {fs fs1 : EF (List D)} {inner : EF (List D)}
theorem lc2Go_ne {bind : D → DE → Option DE} {test : EF Bool} {δ : DE} : ∀ {ds : List D} {h : D} {n : Str} {fs : List (Str × D)} {h2 : D}, lc2Go bind test inner δ ds h ≠ .exc n fs h2
  | [], h, n, fs, h2, e => by cases e
  | d :: ds, h, n, fs, h2, e => by
    unfold lc2Go at e
    cases q : bind d δ with
    | none => rw [q] at e; cases e
    | some δ2 =>
      simp only [q] at e
      cases q2 : test δ2 h with
      | ok b h3 =>
        rw [q2] at e
        cases b with
        | true =>
          have e' : ((inner δ2 h3).nox.bind fun y h3 => (lc2Go bind test inner δ ds h3).bind fun ys h4 => .ok (y ++ ys) h4) = .exc n fs h2 := e
          cases q3 : inner δ2 h3 with
          | ok y h4 =>
            rw [q3] at e'
            have e2 : ((lc2Go bind test inner δ ds h4).bind fun ys h4 => Ex.ok (y ++ ys) h4) = .exc n fs h2 := e'
            cases q4 : lc2Go bind test inner δ ds h4 with
            | ok ys h5 => rw [q4] at e2; cases e2
            | exc n2 f2 h5 => exact lc2Go_ne q4
            | bad => rw [q4] at e2; cases e2
          | exc _ _ _ => rw [q3] at e'; cases e'
          | bad => rw [q3] at e'; cases e'
        | false =>
          have e' : lc2Go bind test inner δ ds h3 = .exc n fs h2 := e
          exact lc2Go_ne e'
      | exc _ _ _ => rw [q2] at e; cases e
      | bad => rw [q2] at e; cases e
theorem ownS_all {ha : Option Addr} {G H : Hp} : ∀ {σ : L2.St} {δ : DE} {fp : List Addr}, OwnS c ha G H σ δ fp → slF δ = true → OwnS c ha G H σ δ [] ∧ fp = []
  | _, _, _, .nil, _ => ⟨.nil, rfl⟩
  | _, _, _, .non o t, k => by
    obtain ⟨h, rfl⟩ := ownS_all t (by unfold slF at k ⊢; rw [List.all_cons] at k; exact k)
    exact ⟨.non o h, rfl⟩
  | _, _, _, .me e t, k => by
    obtain ⟨h, rfl⟩ := ownS_all t (by unfold slF at k ⊢; rw [List.all_cons] at k; exact k)
    exact ⟨.me e h, rfl⟩
  | _, _, _, .ex e m x t, k => by
    unfold slF at k
    rw [List.all_cons, Bool.and_eq_true] at k
    cases k.1
  | _, _, _, .some (d := d) h t, k => by
    unfold slF at k
    rw [List.all_cons, Bool.and_eq_true] at k
    obtain ⟨h2, rfl⟩ := ownS_all t k.2
    have hf : d.fr = true := by
      cases h with
      | frz h => exact dq_fr h
      | hl _ _ _ => cases k.1
    obtain ⟨q, rfl⟩ := own_fr h hf
    exact ⟨.some (f := []) (fp := []) (.frz q) h2, rfl⟩
theorem ownS_g {ha : Option Addr} {G H G' H' : Hp} {σ : L2.St} {δ : DE} (o : OwnS c ha G H σ δ []) (s : Same G G') : OwnS c ha G' H' σ δ [] := ownS_keep s o fun b hb => nomatch hb
theorem Sta.jump {ha : Option Addr} {G0 B G H G1 H1 G' H' : Hp} {σ : L2.St} {δ : DE} {h h' : D} (st : Sta c ha G0 B G H σ δ h) (k : slF δ = true) (s : Same G G') (af : Af c ha G1 H1 G' H' h') (hk : ∀ a, ha = some a → H1 a ≠ none) : Sta c ha G1 H1 G' H' σ δ h' := by
  obtain ⟨fp, os, n, kk⟩ := st.sl
  obtain ⟨o, rfl⟩ := ownS_all os k
  exact ⟨⟨[], ownS_g o s, by simp, fun a z => nomatch z⟩, af.mv, af.bt, af.hd, hk⟩
/-- the state within: what has come, at heap H -/
structure Lc2A (c : Cn) (ha : Option Addr) (G1 H1 : Hp) (Da : Addr) (ds : List D) (h : D) (H : Hp) : Prop where
  ex : ∃ G acc, Af c ha G1 H1 G H h ∧ H Da = some (.lst acc) ∧ G Da = none ∧ DqAll c ha G acc ds
theorem szOk_pre {ds ys : List D} (h : szOk (ds ++ ys).length = true) (hy : ys ≠ []) : ds.length < 1000000 := by
  have := of_decide_eq_true h
  rw [List.length_append] at this
  have : 0 < ys.length := List.length_pos_iff.mpr hy
  omega
theorem lc2_run {ha : Option Addr} {bind bind1 : D → DE → Option DE} {g g1 : TG} {vs vs1 : List Nat} {J : It} {items all : List D} {hE h1 : D} {G0 B G1 H1 : Hp} {σ : L2.St} {δ : DE} {Da : Addr} {Qd : Hp → Prop} (st : Sta c ha G0 B G1 H1 σ δ h1) (w : WalkD c ha G1 J items) (bd : BindD c vs g bind) (bd1 : BindD c vs1 g1 bind1) (sz : szOk all.length = true)
    (hD : H1 Da = none) (go : lc2Go bind ga (eInn (eLcL vs1 fs1 bind1 gb f)) (wipeD δ vs) items h1 = .ok all hE)
    (fin : ∀ G H acc, Af c ha G1 H1 G H hE → H Da = some (.lst acc) → G Da = none → DqAll c ha G acc all → Qd H) : ∃ Wi : Nat → Nat → Hp → Prop, (∃ m, Wi 0 m (upd H1 Da (.lst []))) ∧ ∀ i m H, Wi i m H →
      (J.stop i H ∧ Qd H) ∨ (J.go i H ∧ ∃ Nx : Hp → Prop, (∀ H', Nx H' → ∃ m', m' < m ∧ Wi (i + 1) m' H') ∧ ∀ x H', J.yld i H x H' → g x (wipe σ vs) H' fun σ2 H2 => wipe σ2 vs = wipe σ vs ∧ rt c WF ga σ2 H2 fun b H3 =>
        if b = true then ri c WF fs1 σ2 H3 fun J1 H4 => ∃ W1 : Nat → Nat → Hp → Prop, (∃ m, W1 0 m H4) ∧ ∀ j k H, W1 j k H →
          (J1.stop j H ∧ Nx H) ∨ (J1.go j H ∧ ∃ Nx1 : Hp → Prop, (∀ H', Nx1 H' → ∃ k', k' < k ∧ W1 (j + 1) k' H') ∧ ∀ x H', J1.yld j H x H' → g1 x (wipe σ2 vs1) H' fun σ3 H5 => wipe σ3 vs1 = wipe σ2 vs1 ∧ rt c WF gb σ3 H5 fun b H6 =>
            if b = true then rd c WF f σ3 H6 fun y H7 => ∃ acc, H7 Da = some (.lst acc) ∧ acc.length < sizeLine ∧ Nx1 (upd H7 Da (.lst (acc ++ [y]))) else Nx1 H6)
        else Nx H3) := by
  have hk := st.hne
  refine ⟨fun i m H => m = items.length - i ∧ i ≤ items.length ∧ ∃ ds ys h, Lc2A c ha G1 H1 Da ds h H ∧ lc2Go bind ga (eInn (eLcL vs1 fs1 bind1 gb f)) (wipeD δ vs) (items.drop i) h = .ok ys hE ∧ ds ++ ys = all, ⟨_, rfl, Nat.zero_le _, [], all, h1, ⟨G1, [], ?_⟩, go, rfl⟩, ?_⟩
  · exact ⟨.of st.gh st.hd (Mv.hid st.gh hD) (same_new hD), upd_same, old_none st.gh hD, .nil⟩
  · rintro i m H ⟨rfl, hi, ds, ys, h, ⟨G, acc, af, hDa, gD, da⟩, go, ea⟩
    by_cases hlt : i < items.length
    · refine .inr ⟨w.go i G H af.gg af.gh hlt, fun H' => i + 1 ≤ items.length ∧ ∃ ds ys h, Lc2A c ha G1 H1 Da ds h H' ∧ lc2Go bind ga (eInn (eLcL vs1 fs1 bind1 gb f)) (wipeD δ vs) (items.drop (i + 1)) h = .ok ys hE ∧ ds ++ ys = all, fun H' hn => ⟨_, by omega, rfl, hn⟩, fun x H' y => ?_⟩
      have ei : items[i]? = some items[i] := List.getElem?_eq_getElem hlt
      obtain ⟨G2, m2, s2, dx⟩ := w.yld i G H x H' _ af.gg af.gh ei y
      have af2 : Af c ha G H G2 H' h := .of af.gh af.hd m2 s2
      have st2 := ((st.wipe vs).to af).to af2
      have ed : items.drop i = items[i] :: items.drop (i + 1) := (List.drop_eq_getElem_cons hlt)
      rw [ed] at go
      unfold lc2Go at go
      cases qb : bind items[i] (wipeD δ vs) with
      | none => rw [qb] at go; cases go
      | some δ2 =>
        simp only [qb] at go
        obtain ⟨b, h2, e1, go2⟩ := bind_ok go
        have e1' := nox_ok e1
        refine bd st2 dx qb fun σ2 st3 we => ⟨we.trans (by rw [wipe_wipe]), ha, G0, B, G2, δ2, h, st3, ?_⟩
        rw [e1']
        intro G3 H3 af3
        have d03 := (af.trans af2).trans af3
        have hD3 : H3 Da = some (.lst acc) := af3.bt _ _ (fun z => hk Da z hD) (s2 _ _ hDa)
        have gD3 : G3 Da = none := (af3.mv.nw Da (some_ne (s2 _ _ hDa))).trans ((m2.nw Da (some_ne hDa)).trans gD)
        cases b with
        | false =>
          have go3 : lc2Go bind ga (eInn (eLcL vs1 fs1 bind1 gb f)) (wipeD δ vs) (items.drop (i + 1)) h2 = .ok ys hE := go2
          exact ⟨hlt, ds, ys, h2, ⟨G3, acc, d03, hD3, gD3, dqAll_mono (af2.gg.trans af3.gg) da⟩, go3, ea⟩
        | true =>
          have go3 : ((eInn (eLcL vs1 fs1 bind1 gb f) δ2 h2).nox.bind fun y h3 => (lc2Go bind ga (eInn (eLcL vs1 fs1 bind1 gb f)) (wipeD δ vs) (items.drop (i + 1)) h3).bind fun ys h4 => .ok (y ++ ys) h4) = Ex.ok ys hE := go2
          obtain ⟨y1, hI, e3, go4⟩ := bind_ok go3
          obtain ⟨ys1, hJ, e4, go5⟩ := bind_ok go4
          cases go5
          have e3' := nox_ok e3
          unfold eInn at e3'
          by_cases hsl : slF δ2 = true
          case neg => rw [if_neg hsl] at e3'; cases e3'
          rw [if_pos hsl] at e3'
          unfold eLcL at e3'
          obtain ⟨it1, h3, e5, e6⟩ := bind_ok e3'
          by_cases hz1 : szOk it1.length = true
          case neg => rw [if_neg hz1] at e6; cases e6
          rw [if_pos hz1] at e6
          have st4 := st3.to af3
          refine ⟨ha, G0, B, G3, δ2, h2, st4, ?_⟩
          rw [e5]
          intro G4 H4 af4 J1 w1
          have hD4 : H4 Da = some (.lst acc) := af4.bt _ _ (fun z => hk Da z hD) hD3
          have gD4 : G4 Da = none := (af4.mv.nw Da (some_ne hD3)).trans gD3
          have st5 := st4.to af4
          refine ⟨fun j k H => k = it1.length - j ∧ j ≤ it1.length ∧ ∃ G h acc ds' ys', Same G4 G ∧ Af c ha G1 H1 G H h ∧ H Da = some (.lst acc) ∧ G Da = none ∧ DqAll c ha G acc (ds ++ ds') ∧ lcGo bind1 gb f (wipeD δ2 vs1) (it1.drop j) h = .ok ys' hI ∧ ds' ++ ys' = y1, ⟨_, rfl, Nat.zero_le _, G4, h3, acc, [], y1, Same.refl _, d03.trans af4, hD4, gD4, by rw [List.append_nil]; exact dqAll_mono ((af2.gg.trans af3.gg).trans af4.gg) da, e6, rfl⟩, ?_⟩
          rintro j k H5 ⟨rfl, hj, G5, h5, acc5, ds', ys', sg5, af5, hD5, gD5, da5, go5, ea5⟩
          by_cases hlt1 : j < it1.length
          · refine .inr ⟨w1.go j G5 H5 sg5 af5.gh hlt1, fun H' => j + 1 ≤ it1.length ∧ ∃ G h acc ds' ys', Same G4 G ∧ Af c ha G1 H1 G H' h ∧ H' Da = some (.lst acc) ∧ G Da = none ∧ DqAll c ha G acc (ds ++ ds') ∧ lcGo bind1 gb f (wipeD δ2 vs1) (it1.drop (j + 1)) h = .ok ys' hI ∧ ds' ++ ys' = y1, fun H' hn => ⟨_, by omega, rfl, hn⟩, fun x6 H6 y6 => ?_⟩
            have ej : it1[j]? = some it1[j] := List.getElem?_eq_getElem hlt1
            obtain ⟨G6, m6, s6, dx6⟩ := w1.yld j G5 H5 x6 H6 _ sg5 af5.gh ej y6
            have af6 : Af c ha G5 H5 G6 H6 h5 := .of af5.gh af5.hd m6 s6
            have st6 := ((st5.jump (h' := h5) (G' := G5) (H' := H5) hsl sg5 af5 hk).wipe vs1).to af6
            have ed1 : it1.drop j = it1[j] :: it1.drop (j + 1) := (List.drop_eq_getElem_cons hlt1)
            rw [ed1] at go5
            unfold lcGo at go5
            cases qb1 : bind1 it1[j] (wipeD δ2 vs1) with
            | none => rw [qb1] at go5; cases go5
            | some δ3 =>
              simp only [qb1] at go5
              obtain ⟨b1, h7, f1, go6⟩ := bind_ok go5
              have f1' := nox_ok f1
              refine bd1 st6 dx6 qb1 fun σ3 st7 we1 => ⟨we1.trans (by rw [wipe_wipe]), ha, G1, H1, G6, δ3, h5, st7, ?_⟩
              rw [f1']
              intro G7 H7 af7
              have d57 := (af5.trans af6).trans af7
              have hD7 : H7 Da = some (.lst acc5) := af7.bt _ _ (fun z => hk Da z hD) (s6 _ _ hD5)
              have gD7 : G7 Da = none := (af7.mv.nw Da (some_ne (s6 _ _ hD5))).trans ((m6.nw Da (some_ne hD5)).trans gD5)
              cases b1 with
              | false =>
                have go7 : lcGo bind1 gb f (wipeD δ2 vs1) (it1.drop (j + 1)) h7 = .ok ys' hI := go6
                exact ⟨hlt1, G7, h7, acc5, ds', ys', sg5.trans (af6.gg.trans af7.gg), d57, hD7, gD7, dqAll_mono (af6.gg.trans af7.gg) da5, go7, ea5⟩
              | true =>
                have go7 : ((f δ3 h7).nox.bind fun y h3 => (lcGo bind1 gb f (wipeD δ2 vs1) (it1.drop (j + 1)) h3).bind fun ys h4 => .ok (y :: ys) h4) = Ex.ok ys' hI := go6
                obtain ⟨y8, h8, e8, go8⟩ := bind_ok go7
                obtain ⟨ys8, h9, e9, go9⟩ := bind_ok go8
                cases go9
                have e8' := nox_ok e8
                refine ⟨ha, G1, H1, G7, δ3, h7, st7.to af7, ?_⟩
                rw [e8']
                intro G8 H8 af8 v dv
                have hD8 : H8 Da = some (.lst acc5) := af8.bt _ _ (fun z => hk Da z hD) hD7
                have gD8 : G8 Da = none := (af8.mv.nw Da (some_ne hD7)).trans gD7
                have gg := (af6.gg.trans af7.gg).trans af8.gg
                have d48 := d57.trans af8
                refine ⟨acc5, hD8, ?_, hlt1, G8, h8, acc5 ++ [v], ds' ++ [y8], ys8, sg5.trans gg, ?_, upd_same, gD8, ?_, e9, by rw [List.append_assoc]; exact ea5⟩
                · have lt : (ds ++ ds').length < 1000000 := by
                    refine szOk_pre (ys := y8 :: ys8 ++ ys1) ?_ (by simp)
                    rw [← ea, ← ea5] at sz
                    rw [List.append_assoc]
                    rw [List.append_assoc] at sz
                    exact sz
                  rw [dqAll_len da5, sizeLine_eq]
                  omega
                · exact af_put d48 hD gD8 hk (some_ne hD8)
                · rw [← List.append_assoc]
                  exact dqAll_app (dqAll_mono gg da5) (.cons dv .nil)
          · have hj2 : j = it1.length := by omega
            subst hj2
            rw [List.drop_length] at go5
            cases go5
            rw [List.append_nil] at ea5
            subst ea5
            exact .inl ⟨w1.stop G5 H5 sg5 af5.gh, hlt, ds ++ ds', ys1, hI, ⟨G5, acc5, af5, hD5, gD5, da5⟩, e4, by rw [List.append_assoc]; exact ea⟩
    · have hi2 : i = items.length := by omega
      subst hi2
      rw [List.drop_length] at go
      cases go
      rw [List.append_nil] at ea
      subst ea
      exact .inl ⟨w.stop G H af.gg af.gh, fin G H acc af hDa gD da⟩
theorem rn_lc2 {vs vs1 : List Nat} {bind bind1 : D → DE → Option DE} {g g1 : TG} (bd : BindD c vs g bind) (bd1 : BindD c vs1 g1 bind1) (σ : L2.St) (H : Hp) (Q : VK) (x : rn c W (eLc2 vs vs1 fs bind ga fs1 bind1 gb f) σ H Q) : tLc2 (ri c W fs) g (rt c WF ga) (ri c WF fs1) g1 (rt c WF gb) (rd c WF f) vs vs1 σ H Q := by
  obtain ⟨ha, G0, B, G, δ, h, st, p⟩ := x
  unfold eLc2 at p
  refine ⟨ha, G0, B, G, δ, h, st, post_imp (post_bind p) fun ds h1 G1 H1 af p1 J w Da hD => ?_⟩
  cases q : lc2Go bind ga (eInn (eLcL vs1 fs1 bind1 gb f)) (wipeD δ vs) ds h1 with
  | bad => rw [q] at p1; exact p1.elim
  | exc n xs h2 => exact absurd q lc2Go_ne
  | ok ys h2 =>
    rw [q] at p1
    obtain ⟨hz, p2⟩ := if_post (show Post c ha W σ G1 H1 (if szOk ys.length = true then Ex.ok (D.hl ys) h2 else .bad) _ from p1)
    exact lc2_run (st.to af) w bd bd1 hz hD q fun G2 H2 acc af2 hDa gD da => p2 G2 H2 af2 _ (.inr ⟨Da, acc, ys, rfl, rfl, hDa, gD, af_old af hD, da⟩)
theorem dn_lc2 {elt tg iter tg1 iter1 : Expr} {ifs ifs1 : List Expr} {scope : Scope} {own : List (Str × Nat)} {vs1 : List Nat} {pos : Pos} {bind bind1 : D → DE → Option DE} {g g1 : TG} (hc : X.calm = true) (hN : X.N.Nodup) (hi : PI X tg iter (ri c W fs)) (ok : BlkOk X.N X.env.scope scope own) (hv : ∀ i ∈ vs1, i ∈ own.map (·.2)) (bd : BindD c (own.map (·.2)) g bind) (bd1 : BindD c vs1 g1 bind1)
    (hg : ∀ (s : Shared) (H : Hp) (C : Addr) (cl : List (Str × Addr)) (fp : List Addr), PG (X.blk s H scope (compEnvC scope cl C X.env) fp) tg g) (ht : ∀ (s : Shared) (H : Hp) (C : Addr) (cl : List (Str × Addr)) (fp : List Addr), PTs (X.blk s H scope (compEnvC scope cl C X.env) fp) ifs (rt c WF ga))
    (hi1 : ∀ (s : Shared) (H : Hp) (C : Addr) (cl : List (Str × Addr)) (fp : List Addr), PI (X.blk s H scope (compEnvC scope cl C X.env) fp) tg1 iter1 (ri c WF fs1))
    (hg1 : ∀ (s : Shared) (H : Hp) (C : Addr) (cl : List (Str × Addr)) (fp : List Addr), PG (X.blk s H scope (compEnvC scope cl C X.env) fp) tg1 g1) (ht1 : ∀ (s : Shared) (H : Hp) (C : Addr) (cl : List (Str × Addr)) (fp : List Addr), PTs (X.blk s H scope (compEnvC scope cl C X.env) fp) ifs1 (rt c WF gb))
    (he : ∀ (s : Shared) (H : Hp) (C : Addr) (cl : List (Str × Addr)) (fp : List Addr), PE (X.blk s H scope (compEnvC scope cl C X.env) fp) elt (rd c WF f)) (hs : ∀ x, foldedSetIterable iter X.env x = pure x := by intro _; rfl) (hs1 : ∀ env x, foldedSetIterable iter1 env x = pure x := by intro _ _; rfl) :
    PE X (.ListComp elt [⟨tg, iter, ifs, 0⟩, ⟨tg1, iter1, ifs1, 0⟩] scope pos) (rn c W (eLc2 (own.map (·.2)) vs1 fs bind ga fs1 bind1 gb f)) := pn_to (pe_lc2 hc hN hi ok hv hg ht hi1 hg1 ht1 he hs hs1) (rn_lc2 bd bd1)
theorem ds_setLc2F {i : Nat} {y : Str} {py : Pos} {elt tg iter tg1 iter1 : Expr} {ifs ifs1 : List Expr} {scope : Scope} {own : List (Str × Nat)} {vs1 : List Nat} {pos spos : Pos} {bind bind1 : D → DE → Option DE} {g g1 : TG} (hc : X.calm = true) (hN : X.N.Nodup) (hy : X.N[i]? = some y) (hyl : X.env.scope.names.lookup y = some .local)
    (hsw : swapsWith (.ListComp elt [⟨tg, iter, ifs, 0⟩, ⟨tg1, iter1, ifs1, 0⟩] scope pos) (some (.Name y py)) spos.line X.env = pure true) (hi : PI X tg iter (ri c W fs)) (ok : BlkOk X.N X.env.scope scope own) (hv : ∀ i ∈ vs1, i ∈ own.map (·.2)) (bd : BindD c (own.map (·.2)) g bind) (bd1 : BindD c vs1 g1 bind1)
    (hg : ∀ (s : Shared) (H : Hp) (C : Addr) (cl : List (Str × Addr)) (fp : List Addr), PG (X.blk s H scope (compEnvC scope cl C X.env) fp) tg g) (ht : ∀ (s : Shared) (H : Hp) (C : Addr) (cl : List (Str × Addr)) (fp : List Addr), PTs (X.blk s H scope (compEnvC scope cl C X.env) fp) ifs (rt c WF ga))
    (hi1 : ∀ (s : Shared) (H : Hp) (C : Addr) (cl : List (Str × Addr)) (fp : List Addr), PI (X.blk s H scope (compEnvC scope cl C X.env) fp) tg1 iter1 (ri c WF fs1))
    (hg1 : ∀ (s : Shared) (H : Hp) (C : Addr) (cl : List (Str × Addr)) (fp : List Addr), PG (X.blk s H scope (compEnvC scope cl C X.env) fp) tg1 g1) (ht1 : ∀ (s : Shared) (H : Hp) (C : Addr) (cl : List (Str × Addr)) (fp : List Addr), PTs (X.blk s H scope (compEnvC scope cl C X.env) fp) ifs1 (rt c WF gb))
    (he : ∀ (s : Shared) (H : Hp) (C : Addr) (cl : List (Str × Addr)) (fp : List Addr), PE (X.blk s H scope (compEnvC scope cl C X.env) fp) elt (rd c WF f)) (hs : ∀ x, foldedSetIterable iter X.env x = pure x := by intro _; rfl) (hs1 : ∀ env x, foldedSetIterable iter1 env x = pure x := by intro _ _; rfl) :
    PS X (.Assign [.Name y py] (.ListComp elt [⟨tg, iter, ifs, 0⟩, ⟨tg1, iter1, ifs1, 0⟩] scope pos) spos) (rs c W nw (sSet i (eFz (eLc2 (own.map (·.2)) vs1 fs bind ga fs1 bind1 gb f)))) := ps_to (ps_setLc2 hc hN hy hyl hsw hi ok hv hg ht hi1 hg1 ht1 he hs hs1) fun Dn σ H x => by
  obtain ⟨ha, G0, B, G, δ, h, st, p⟩ := x
  refine rn_lc2 bd bd1 σ H _ ⟨ha, G0, B, G, δ, h, st, ?_⟩
  have p2 := post_fl st p
  unfold eFz at p2
  cases q : eLc2 (own.map (·.2)) vs1 fs bind ga fs1 bind1 gb f δ h with
  | ok d h1 =>
    rw [q] at p2
    intro G1 H1 af v n
    obtain ⟨G2, af2, dv⟩ := af_fz st.hne af n
    exact p2 G2 H1 af2 _ G2 H1 ((st.to af2).setD i dv) (Same.refl _)
  | exc n fs h1 => rw [q] at p2; exact p2
  | bad => rw [q] at p2; exact p2
end
end Fw
set_option maxHeartbeats 2000000
namespace Fw
open PySem PySem.Spec PyProof.Rows L2 Dz Vz
section
variable {X : Cx} {W : WX} {c : Cn} {nw : Bool} {e a b o : Expr} {es : List Expr} {pos : Pos} {f fa fb fo : EF D} {fs : EF (List D)}
theorem xv (i : Nat) {x : Str} (hN : X.N[i]? = some x := by rfl) (hv : Vis X.env.scope x := by first | exact Or.inl rfl | exact Or.inr (Or.inl rfl) | exact Or.inr (Or.inr rfl)) (hd : (x == ("__debug__" : Str)) = false := by decide) (hcd : (x == ("__classdict__" : Str)) = false := by decide) : PE X (.Name x pos) (rd c W (eV i)) := dx_v hN hv hd hcd
theorem xM (i : Nat) {x : Str} (hN : X.N[i]? = some x := by rfl) (hv : Vis X.env.scope x := by first | exact Or.inl rfl | exact Or.inr (Or.inl rfl) | exact Or.inr (Or.inr rfl)) (hd : (x == ("__debug__" : Str)) = false := by decide) (hcd : (x == ("__classdict__" : Str)) = false := by decide) : PE X (.Name x pos) (rm c W (eM i)) := dm_v hN hv hd hcd
theorem xP (i : Nat) {x : Str} (hN : X.N[i]? = some x := by rfl) (hv : Vis X.env.scope x := by first | exact Or.inl rfl | exact Or.inr (Or.inl rfl) | exact Or.inr (Or.inr rfl)) (hd : (x == ("__debug__" : Str)) = false := by decide) (hcd : (x == ("__classdict__" : Str)) = false := by decide) : PE X (.Name x pos) (rp c W (pV i)) := dp_v hN hv hd hcd
theorem xA (i : Nat) {x n : Str} {p : Pos} (hN : X.N[i]? = some x := by rfl) (hv : Vis X.env.scope x := by first | exact Or.inl rfl | exact Or.inr (Or.inl rfl) | exact Or.inr (Or.inr rfl)) (hd : (x == ("__debug__" : Str)) = false := by decide) (hcd : (x == ("__classdict__" : Str)) = false := by decide) (hb : attributeBase (.Name x p) n X.env (eval (.Name x p) X.env) = eval (.Name x p) X.env := by rfl) (hK : X.K = c.K := by rfl) : PE X (.Attribute (.Name x p) n pos) (rd c W (eAtV i n)) := dx_atV hN hv hd hcd hb hK
theorem xG (i : Nat) {x : Str} {p : Pos} (hs : PA X es (rg c W fs)) (hN : X.N[i]? = some x := by rfl) (hv : Vis X.env.scope x := by first | exact Or.inl rfl | exact Or.inr (Or.inl rfl) | exact Or.inr (Or.inr rfl)) (hd : (x == ("__debug__" : Str)) = false := by decide) (hcd : (x == ("__classdict__" : Str)) = false := by decide) (hst : starEach (.Name x p :: es) X.env = (false, eval (.Name x p) X.env) :: starEach es X.env := by rfl) : PA X (.Name x p :: es) (rg c W (eCons (eVm i) fs)) := dg_v hN hv hs hd hcd hst
theorem xRV (i : Nat) {x : Str} {p : Pos} (hN : X.N[i]? = some x := by rfl) (hv : Vis X.env.scope x := by first | exact Or.inl rfl | exact Or.inr (Or.inl rfl) | exact Or.inr (Or.inr rfl)) (hd : (x == ("__debug__" : Str)) = false := by decide) (hcd : (x == ("__classdict__" : Str)) = false := by decide) : PS X (.Return (some (.Name x p)) pos) (rs c W true (sRetV i)) := ds_retV hN hv hd hcd
/-- a module's int, string, tuple of flat things -/
theorem xgI {x : Str} {i : Int} (hm : ∃ t, c.mg x = some (.int i t)) (hg : Gl X x := by rfl) (hM : X.mg = c.mg := by rfl) (hdb : (x == ("__debug__" : Str)) = false := by decide) : PE X (.Name x pos) (rd c W (eC (.int i))) := by
  obtain ⟨t, e⟩ := hm
  exact dx_c (pe_glob (v := .int i) hg (by rw [hM]; exact e) ⟨_, rfl⟩ hdb) fun _ _ => .int i
theorem xgS {x z : Str} (hm : ∃ t, c.mg x = some (.str z t)) (hg : Gl X x := by rfl) (hM : X.mg = c.mg := by rfl) (hdb : (x == ("__debug__" : Str)) = false := by decide) : PE X (.Name x pos) (rd c W (eC (.str z))) := by
  obtain ⟨t, e⟩ := hm
  exact dx_c (pe_glob (v := .str z) hg (by rw [hM]; exact e) ⟨_, rfl⟩ hdb) fun _ _ => .str z
theorem xgT {x : Str} {ds : List D} {g : Addr} (hm : c.mg x = some (.ref g) ∧ ∀ ha G, Dq c ha G (.ref g) (.tup ds)) (hg : Gl X x := by rfl) (hM : X.mg = c.mg := by rfl) (hdb : (x == ("__debug__" : Str)) = false := by decide) : PE X (.Name x pos) (rd c W (eC (.tup ds))) :=
  dx_c (pe_glob (v := .ref g) hg (by rw [hM]; exact hm.1) rfl hdb) hm.2
end
structure CT where
  x : Str
  as : List Str
  ms : List Str
structure Tb where
  fn : List He.DefD
  gl : List Str
  frs : List Str
  nI : List (Str × Int)
  nS : List (Str × Str)
  nT : List (Str × List He.Dv)
  cls : List CT
  bas : Str
  errs : List Str
  bare : List Str
  ini : List (Str × List Str)
  exm : List (Str × Str × Bool)
  kit : List (Str × Str × Bool)
  /-- class and special method -/
  spc : List (Str × Str)
  nes : List Str
  vcl : List Str
abbrev nb6 : List String := ["int", "bool", "str", "list", "tuple", "dict"]
abbrev six : List String := ["NoneType", "bool", "int", "str", "list", "tuple"]
def gtB (K : PySem.W.Frag) : Bool := He.eqO (PySem.W.specialIn K (.builtin "object.__class__") "__get__") (some (some (.builtin "getset_descriptor.__get__"))) && decide (PySem.W.takesIn K (.builtin "object.__class__") = some true)
def clsB (K : PySem.W.Frag) (t : CT) : Bool := (He.Fa.cls t.x).ok K && (t.as.all (fun f => (He.Fa.noat t.x f).ok K) && ((He.Fa.mkr t.x).ok K && (t.ms.all (fun m => (He.Fa.meth t.x m).ok K) && (He.eqO (PySem.W.findIn K (.ref (He.ga K t.x)) "__class__") (some (some (.builtin "object.__class__"))) && (decide (PySem.W.mroIn K (He.ga K t.x) (.type "object") = some true) && nb6.all (fun n => decide (PySem.W.kitOne K (.ref (He.ga K t.x)) (.type n) = some false)))))))
def iniB (K : PySem.W.Frag) (p : Str × List Str) : Bool := He.eqO (PySem.W.findIn K (.ref (He.ga K p.1)) "__init__") (some (some (.ref (He.ma K (He.ga K p.1) "__init__")))) && (decide (PySem.W.typeIn K (.ref (He.ma K (He.ga K p.1) "__init__")) = some (.type "function")) && p.2.all (fun f => He.eqO (PySem.W.findIn K (.ref (He.ga K p.1)) f) (some none)))
def spcB (K : PySem.W.Frag) (p : Str × Str) : Bool := He.eqO (PySem.W.findIn K (.ref (He.ga K p.1)) p.2) (some (some (.ref (He.ma K (He.ga K p.1) p.2)))) && PySem.W.isFn K (.ref (He.ma K (He.ga K p.1) p.2))
def gcdB (K : PySem.W.Frag) : Bool := He.eqO (PySem.W.nsIn K mainGlobals "gcd") (some (some (.builtin "math.gcd")))
def Tb.ck (t : Tb) (K : PySem.W.Frag) : Bool := t.gl.all (fun x => (He.Fa.glo x).ok K) && (t.frs.all (fun x => (He.Fa.free x).ok K) && (t.nI.all (fun p => (He.Fa.int p.1 p.2).ok K) && (t.nS.all (fun p => (He.Fa.str p.1 p.2).ok K) && (t.nT.all (fun p => He.tupB K p.1 p.2) && (t.cls.all (clsB K) && (t.errs.all (fun x => Kf.erB K (He.ga K t.bas) (He.ga K x)) && (t.bare.all (fun x => PySem.W.excIn K (He.ga K x) PySem.HandSPX.veTail "ValueError.__new__") && (t.ini.all (iniB K) &&
  (t.exm.all (fun p => decide (PySem.W.exmOne K (.ref (He.ga K p.1)) (.ref (He.ga K p.2.1)) = some p.2.2)) && (t.kit.all (fun p => decide (PySem.W.kitOne K (.ref (He.ga K p.1)) (.ref (He.ga K p.2.1)) = some p.2.2)) && (t.spc.all (spcB K) && (t.nes.all (fun x => He.eqO (PySem.W.findIn K (.ref (He.ga K x)) "__ne__") (some (some (.builtin "object.__ne__")))) && (t.vcl.all (fun x => six.all fun n => decide (PySem.W.kitOne K (.type n) (.ref (He.ga K x)) = some false)) && (gtB K && gcdB K))))))))))))))
structure Fs (t : Tb) (K : PySem.W.Frag) (mg : Str → Option Value) : Prop where
  says : He.SaysD [] t.fn K
  gl : ∀ (i : Nat) (x : Str), t.gl[i]? = some x → mg x = some (.ref (He.ga K x))
  fr : ∀ (i : Nat) (x : Str), t.frs[i]? = some x → mg x = none
  int : ∀ (i : Nat) (p : Str × Int), t.nI[i]? = some p → ∃ k, mg p.1 = some (.int p.2 k)
  str : ∀ (i : Nat) (p : Str × Str), t.nS[i]? = some p → ∃ k, mg p.1 = some (.str p.2 k)
  tup : ∀ (i : Nat) (p : Str × List He.Dv), t.nT[i]? = some p → ∀ H, SqT K H (He.ga K p.1) (p.2.map (He.Dv.v K))
  cls : ∀ (i : Nat) (p : CT), t.cls[i]? = some p → COk K (He.ga K p.x) ∧ Mk K (He.ga K p.x) (He.ma K (He.ga K p.x) "__init__")
  noat : ∀ (i : Nat) (p : CT), t.cls[i]? = some p → ∀ m ∈ p.as, NoAttr K (He.ga K p.x) m
  meth : ∀ (i : Nat) (p : CT), t.cls[i]? = some p → ∀ m ∈ p.ms, Meth K (He.ga K p.x) m (He.ma K (He.ga K p.x) m)
  er : ∀ (i : Nat) (x : Str), t.errs[i]? = some x → Kx.Er K (He.ga K t.bas) (He.ga K x)
  bare : ∀ (i : Nat) (x : Str), t.bare[i]? = some x → PySem.W.excIn K (He.ga K x) PySem.HandSPX.veTail "ValueError.__new__" = true
  ini : ∀ (i : Nat) (p : Str × List Str), t.ini[i]? = some p → iniB K p = true
  exm : ∀ p ∈ t.exm, PySem.W.exmOne K (.ref (He.ga K p.1)) (.ref (He.ga K p.2.1)) = some p.2.2
  kit : ∀ p ∈ t.kit, PySem.W.kitOne K (.ref (He.ga K p.1)) (.ref (He.ga K p.2.1)) = some p.2.2
  spc : ∀ (i : Nat) (p : Str × Str), t.spc[i]? = some p → PySem.W.findIn K (.ref (He.ga K p.1)) p.2 = some (some (.ref (He.ma K (He.ga K p.1) p.2))) ∧ PySem.W.isFn K (.ref (He.ma K (He.ga K p.1) p.2)) = true
  ne : ∀ (i : Nat) (x : Str), t.nes[i]? = some x → PySem.W.findIn K (.ref (He.ga K x)) "__ne__" = some (some (.builtin "object.__ne__"))
  vcl : ∀ x ∈ t.vcl, ∀ n ∈ six, PySem.W.kitOne K (.type n) (.ref (He.ga K x)) = some false
  gt : GtK K
  gcd : mg "gcd" = some (.builtin "math.gcd")
theorem Fs.of {t : Tb} {K : PySem.W.Frag} {h : Heap} {mg : Str → Option Value} (X : K.In h) (G : h.Ns mainGlobals mg) (k : t.ck K = true) (c : He.SaysD [] t.fn K) : Fs t K mg := by
  obtain ⟨k1, k⟩ := He.ba k
  obtain ⟨k2, k⟩ := He.ba k
  obtain ⟨k3, k⟩ := He.ba k
  obtain ⟨k4, k⟩ := He.ba k
  obtain ⟨k5, k⟩ := He.ba k
  obtain ⟨k6, k⟩ := He.ba k
  obtain ⟨k7, k⟩ := He.ba k
  obtain ⟨k8, k⟩ := He.ba k
  obtain ⟨k9, k⟩ := He.ba k
  obtain ⟨k10, k⟩ := He.ba k
  obtain ⟨k11, k⟩ := He.ba k
  obtain ⟨k12, k⟩ := He.ba k
  obtain ⟨k13, k⟩ := He.ba k
  obtain ⟨kv, k⟩ := He.ba k
  obtain ⟨k14, k15⟩ := He.ba k
  obtain ⟨g1, g2⟩ := He.ba k14
  have cc : ∀ (i : Nat) (p : CT), t.cls[i]? = some p → clsB K p = true := fun i p e => List.all_eq_true.mp k6 p (List.mem_of_getElem? e)
  refine ⟨c, fun i x e => He.glo_ok X G (List.all_eq_true.mp k1 x (List.mem_of_getElem? e)), fun i x e => He.free_ok X G (List.all_eq_true.mp k2 x (List.mem_of_getElem? e)), fun i p e => He.int_ok X G (List.all_eq_true.mp k3 p (List.mem_of_getElem? e)), fun i p e => He.str_ok X G (List.all_eq_true.mp k4 p (List.mem_of_getElem? e)),
    fun i p e H => He.tupB_ok (List.all_eq_true.mp k5 p (List.mem_of_getElem? e)) H, fun i p e => ?_, fun i p e m hm => ?_, fun i p e m hm => ?_, fun i x e => Kf.erB_ok (List.all_eq_true.mp k7 x (List.mem_of_getElem? e)), fun i x e => List.all_eq_true.mp k8 x (List.mem_of_getElem? e), fun i p e => List.all_eq_true.mp k9 p (List.mem_of_getElem? e),
    fun p hp => of_decide_eq_true (List.all_eq_true.mp k10 p hp), fun p hp => of_decide_eq_true (List.all_eq_true.mp k11 p hp), fun i p e => ?_, fun i x e => He.eqO_ok (List.all_eq_true.mp k13 x (List.mem_of_getElem? e)), fun x hx n hn => of_decide_eq_true (List.all_eq_true.mp (List.all_eq_true.mp kv x hx) n hn), ⟨He.eqO_ok g1, of_decide_eq_true g2⟩, PySem.W.mg_of X G (He.eqO_ok k15)⟩
  · obtain ⟨c1, z⟩ := He.ba (cc i p e)
    obtain ⟨c2, z⟩ := He.ba z
    obtain ⟨c3, z⟩ := He.ba z
    obtain ⟨c4, z⟩ := He.ba z
    obtain ⟨c5, z⟩ := He.ba z
    obtain ⟨c6, c7⟩ := He.ba z
    exact ⟨⟨He.cls_ok c1, He.eqO_ok c5, of_decide_eq_true c6, fun n hn => of_decide_eq_true (List.all_eq_true.mp c7 n hn)⟩, He.mkr_ok c3⟩
  · obtain ⟨c1, z⟩ := He.ba (cc i p e)
    obtain ⟨c2, z⟩ := He.ba z
    exact He.noat_ok (List.all_eq_true.mp c2 m hm)
  · obtain ⟨c1, z⟩ := He.ba (cc i p e)
    obtain ⟨c2, z⟩ := He.ba z
    obtain ⟨c3, z⟩ := He.ba z
    obtain ⟨c4, z⟩ := He.ba z
    exact He.meth_ok (List.all_eq_true.mp c4 m hm)
  · obtain ⟨c1, c2⟩ := He.ba (List.all_eq_true.mp k12 p (List.mem_of_getElem? e))
    exact ⟨He.eqO_ok c1, c2⟩
def msOf (l : List (Str × Bool)) : Str → Option Bool := fun n => l.lookup n
theorem lookup_mem {α : Type} : ∀ {l : List (Str × α)} {n : Str} {b : α}, l.lookup n = some b → (n, b) ∈ l
  | [], n, b, h => nomatch h
  | (m, x) :: l, n, b, h => by
    rw [List.lookup_cons] at h
    cases q : n == m with
    | true =>
      rw [q] at h
      cases h
      rw [eq_of_beq q]
      exact List.mem_cons_self
    | false =>
      rw [q] at h
      exact List.mem_cons_of_mem _ (lookup_mem h)
theorem ms_ok {t : Tb} {c : Cn} (T : Fs t c.K c.mg) {l : List (Str × Bool)} {y : Str} (h : l.all (fun p => t.gl.contains p.1 && t.exm.any (fun q => decide (q = (p.1, y, p.2)))) = true) (n : Str) (b : Bool) (C : Addr) (e : msOf l n = some b) (m : c.mg n = some (.ref C)) : PySem.W.exmOne c.K (.ref C) (.ref (He.ga c.K y)) = some b := by
  obtain ⟨h1, h2⟩ := He.ba (List.all_eq_true.mp h _ (lookup_mem e))
  obtain ⟨q, hq, eq⟩ := List.any_eq_true.mp h2
  have eq := of_decide_eq_true eq
  subst eq
  obtain ⟨i, hi⟩ := List.getElem?_of_mem (List.contains_iff_mem.mp h1)
  rw [T.gl i n hi] at m
  cases m
  exact T.exm _ hq
theorem xi_ok {t : Tb} {c : Cn} (T : Fs t c.K c.mg) {l : List (Str × Bool)} {y : Str} (h : l.all (fun p => t.gl.contains p.1 && (t.errs.contains p.1 && t.kit.any (fun q => decide (q = (p.1, y, p.2))))) = true) (n : Str) (C : Addr) (b : Bool) (e : msOf l n = some b) (m : c.mg n = some (.ref C)) : Kx.Er c.K (He.ga c.K t.bas) C ∧ PySem.W.kitOne c.K (.ref C) (.ref (He.ga c.K y)) = some b := by
  obtain ⟨h1, h2⟩ := He.ba (List.all_eq_true.mp h _ (lookup_mem e))
  obtain ⟨h2, h3⟩ := He.ba h2
  obtain ⟨q, hq, eq⟩ := List.any_eq_true.mp h3
  have eq := of_decide_eq_true eq
  subst eq
  obtain ⟨i, hi⟩ := List.getElem?_of_mem (List.contains_iff_mem.mp h1)
  obtain ⟨j, hj⟩ := List.getElem?_of_mem (List.contains_iff_mem.mp h2)
  rw [T.gl i n hi] at m
  cases m
  exact ⟨T.er j n hj, T.kit _ hq⟩
theorem xf_ok {t : Tb} {c : Cn} (T : Fs t c.K c.mg) {l : List Str} (h : l.all (fun p => t.gl.contains p && t.errs.contains p) = true) (n : Str) (C : Addr) (e : l.contains n = true) (m : c.mg n = some (.ref C)) : XfC c.K C := by
  obtain ⟨h1, h2⟩ := He.ba (List.all_eq_true.mp h _ (List.contains_iff_mem.mp e))
  obtain ⟨i, hi⟩ := List.getElem?_of_mem (List.contains_iff_mem.mp h1)
  obtain ⟨j, hj⟩ := List.getElem?_of_mem (List.contains_iff_mem.mp h2)
  rw [T.gl i n hi] at m
  cases m
  exact (T.er j n hj).xf
structure EA1 (P : Program) (w : World) (c : Cn) (base : Heap) (x f : Str) : Prop where
  ex : ∃ gP C fI fd, Er1 P w c base gP x f C fI fd
structure EA2 (P : Program) (w : World) (c : Cn) (base : Heap) (x f g : Str) : Prop where
  ex : ∃ gP C fI fd, Er2 P w c base gP x f g C fI fd
structure EA0 (c : Cn) (x : Str) : Prop where
  ex : ∃ gP C, Er0 c gP x C
section
variable {P : Program} {w : World} {K : PySem.W.Frag} {mg : Str → Option Value} {base : Heap} {t : Tb} {fd : FuncData} {x n n2 : Str} {params : Arguments} {body : List Stmt} {scope : Scope} {qual nm : Str} {kws : List (Str × V)}
theorem lenN {C : Addr} {n : Nat} {fl : List V → List (Str × V)} {vs : List V} {H : Hp} {Q : VK} {E : XK} (h : Ky.spIn C n fl vs H Q E) : vs.length = n + 1 := by
  obtain ⟨a, xs, rfl, hl, _⟩ := h
  rw [List.length_cons, hl]
theorem ea1 (T : Fs t K mg) (i j k : Nat) (h1 : t.errs[i]? = some x) (h2 : t.ini[j]? = some (x, [n])) (h3 : t.gl[k]? = some x) (G : FnOk P w K mg base CX0 1 (He.ma K (He.ga K x) "__init__") fd ["self", n] (Ky.spIn (He.ga K x) 1 (Ky.fl1 n))) (b : L2.Binds K fd ["self", n] []) : EA1 P w ⟨K, mg, none⟩ base x n := by
  obtain ⟨c1, c⟩ := He.ba (T.ini j _ h2)
  obtain ⟨c2, c3⟩ := He.ba c
  have c4 := He.eqO_ok (List.all_eq_true.mp c3 n List.mem_cons_self)
  exact ⟨_, _, _, fd, ⟨T.er i x h1, T.gl k x h3, c4, He.eqO_ok c1, of_decide_eq_true c2, G, b⟩⟩
theorem ea2 (T : Fs t K mg) (i j k : Nat) (h1 : t.errs[i]? = some x) (h2 : t.ini[j]? = some (x, [n, n2])) (h3 : t.gl[k]? = some x) (G : FnOk P w K mg base CX0 1 (He.ma K (He.ga K x) "__init__") fd ["self", n, n2] (Ky.spIn (He.ga K x) 2 (Ky.fl2 n n2))) (b : L2.Binds K fd ["self", n, n2] []) : EA2 P w ⟨K, mg, none⟩ base x n n2 := by
  obtain ⟨c1, c⟩ := He.ba (T.ini j _ h2)
  obtain ⟨c2, c3⟩ := He.ba c
  have c4 := He.eqO_ok (List.all_eq_true.mp c3 n List.mem_cons_self)
  have c5 := He.eqO_ok (List.all_eq_true.mp c3 n2 (List.mem_cons_of_mem _ List.mem_cons_self))
  exact ⟨_, _, _, fd, ⟨T.er i x h1, T.gl k x h3, c4, c5, He.eqO_ok c1, of_decide_eq_true c2, G, b⟩⟩
theorem ea0 (T : Fs t K mg) (i j k : Nat) (h1 : t.errs[i]? = some x) (h2 : t.bare[j]? = some x) (h3 : t.gl[k]? = some x) : EA0 ⟨K, mg, none⟩ x := ⟨_, _, ⟨T.er i x h1, T.gl k x h3, T.bare j x h2, (T.er i x h1).ox.kC⟩⟩
theorem noatI (T : Fs t K mg) (j : Nat) {l : List Str} (h2 : t.ini[j]? = some (x, l)) (hn : n ∈ l) : PySem.W.findIn K (.ref (He.ga K x)) n = some none := by
  obtain ⟨c1, c⟩ := He.ba (T.ini j _ h2)
  obtain ⟨c2, c3⟩ := He.ba c
  exact He.eqO_ok (List.all_eq_true.mp c3 n hn)
end
section
variable {X : Cx} {W : WX} {c : Cn} {nw : Bool} {e : Expr} {es : List Expr} {pos : Pos} {fs : EF (List D)} {x n g : Str} {p : Pos}
theorem xr1 (E : EA1 X.prog X.w c X.base x n) (tk : Takes X W) (hr : Room 2 X.A) (ha : PA X (e :: es) (ra c W fs)) (hc : X.calm = true := by rfl) (hg : Gl X x := by rfl) (hK : X.K = c.K := by rfl) (hM : X.mg = c.mg := by rfl)
    (hdb : (x == ("__debug__" : Str)) = false := by decide) (he : starEach (e :: es) X.env = (false, eval e X.env) :: starEach es X.env := by rfl) {pos2 : Pos} (hpl : (backTo pos (starEach es X.env)).any (·.1) = false := by rfl) : PS X (.Raise (some (.Call (.Name x p) (e :: es) [] pos)) none pos2) (rs c W nw (sRaise x (flD1 n) fs)) := by
  obtain ⟨gP, C, fI, fd, E⟩ := E.ex
  exact ds_raise1 E hc tk hr hg ha hK hM hdb he hpl
theorem xr2 (E : EA2 X.prog X.w c X.base x n g) (tk : Takes X W) (hr : Room 2 X.A) (ha : PA X (e :: es) (ra c W fs)) (hc : X.calm = true := by rfl) (hg : Gl X x := by rfl) (hK : X.K = c.K := by rfl) (hM : X.mg = c.mg := by rfl)
    (hdb : (x == ("__debug__" : Str)) = false := by decide) (he : starEach (e :: es) X.env = (false, eval e X.env) :: starEach es X.env := by rfl) {pos2 : Pos} (hpl : (backTo pos (starEach es X.env)).any (·.1) = false := by rfl) : PS X (.Raise (some (.Call (.Name x p) (e :: es) [] pos)) none pos2) (rs c W nw (sRaise x (flD2 n g) fs)) := by
  obtain ⟨gP, C, fI, fd, E⟩ := E.ex
  exact ds_raise2 E hc tk hr hg ha hK hM hdb he hpl
theorem xr0 (E : EA0 c x) (tk : Takes X W) (hc : X.calm = true := by rfl) (hg : Gl X x := by rfl) (hK : X.K = c.K := by rfl) (hM : X.mg = c.mg := by rfl)
    (hdb : (x == ("__debug__" : Str)) = false := by decide) {pos2 : Pos} : PS X (.Raise (some (.Call (.Name x p) [] [] pos)) none pos2) (rs c W nw (sRaise0 x)) := by
  obtain ⟨gP, C, E⟩ := E.ex
  exact ds_raise0 E hc tk hg hK hM hdb
end
end Fw
set_option maxHeartbeats 2000000
namespace Fw
open PySem PySem.Spec PyProof.Rows L2 Dz Vz
section
variable {X : Cx} {W : WX} {c : Cn} {nw : Bool} {e a b o iter elt tg : Expr} {es ifs : List Expr} {pos p : Pos} {f fa fb fo : EF D} {fs : EF (List D)} {ga : EF Bool} {s : Stmt} {u : SF} {ss : List Stmt}
/-- isinstance(e, C) for things at rest; ms: what is known of instances; bf: plain things are none -/
def eIsC (ms : Str → Option Bool) (bf : Bool) (f : EF D) : EF D := fun δ h => (f δ h).bind fun d h1 => Ex.of (match d with
  | .ins n _ => (ms n).map .bl
  | d => match tyS d with
    | some _ => if bf then some (.bl false) else none
    | none => none) h1
theorem dx_isC {t : Tb} {y : Str} {ms : List (Str × Bool)} {bf : Bool} {p1 : Pos} (T : Fs t c.K c.mg) (iy : Nat) (hy : t.gl[iy]? = some y) (hms : ms.all (fun p => t.gl.contains p.1 && t.kit.any (fun q => decide (q = (p.1, y, p.2)))) = true) (hbf : (!bf || t.vcl.contains y) = true) (hm : X.mg "isinstance" = none) (ha : PE X a (rd c W f)) (hg : Gl X "isinstance" := by rfl) (hgy : Gl X y := by rfl) (hK : X.K = c.K := by rfl) (hM : X.mg = c.mg := by rfl) (hdy : (y == ("__debug__" : Str)) = false := by decide)
    (s1 : starEach (a :: [.Name y p1]) X.env = (false, eval a X.env) :: starEach [.Name y p1] X.env := by rfl) (s2 : starEach (.Name y p1 :: []) X.env = (false, eval (.Name y p1) X.env) :: starEach [] X.env := by rfl) (hpl : (backTo pos (starEach [.Name y p1] X.env)).any (·.1) = false := by rfl) : PE X (.Call (.Name "isinstance" p) [a, .Name y p1] [] pos) (rd c W (eIsC (msOf ms) bf f)) :=
  pe_to (pe_callB call_isi hg hm PyProof.Rows.boot_isinstance (pa_cons ha (pa_cons (pe_glob (v := .ref (He.ga c.K y)) hgy (by rw [hM]; exact T.gl iy y hy) rfl hdy) pa_nil s2) s1) (by decide) (by decide) s1 hpl) fun σ H Q x => by
    obtain ⟨ha, G0, B, G, δ, h, st, p⟩ := x
    refine ⟨ha, G0, B, G, δ, h, st, post_imp (post_bind p) fun d h1 G1 H1 af p1 v dv => ?_⟩
    obtain ⟨z, e, q⟩ := post_of p1
    have key : ∀ b tt, z = .bl b → TyX c.K H1 v tt → PySem.W.kitOne c.K tt (.ref (He.ga c.K y)) = some b → rIsi X.K [v, .ref (He.ga c.K y)] H1 Q := fun b tt ez ty k => by
      subst ez
      rw [hK]
      exact ⟨v, _, tt, _, b, rfl, .own _, ty, k, q _ _ (.refl af.gh af.hd) _ (.bl b)⟩
    have plain : ∀ t0, tyS d = some t0 → (if bf then some (D.bl false) else none) = some z → rIsi X.K [v, .ref (He.ga c.K y)] H1 Q := fun t0 e0 e1 => by
      obtain ⟨hb, rfl⟩ := if_get e1
      obtain ⟨ty, hin⟩ := ty_dq (H := H1) af.gh dv e0
      rw [hb] at hbf
      exact key false _ rfl ty (T.vcl y (List.contains_iff_mem.mp (by simpa using hbf)) _ hin)
    cases dv with
    | ins k1 k2 k3 k4 =>
      obtain ⟨b, e1, rfl⟩ := map_get e
      obtain ⟨h1, h2⟩ := He.ba (List.all_eq_true.mp hms _ (lookup_mem e1))
      obtain ⟨r, hr, er⟩ := List.any_eq_true.mp h2
      have er := of_decide_eq_true er
      subst er
      obtain ⟨i, hi⟩ := List.getElem?_of_mem (List.contains_iff_mem.mp h1)
      have g := T.gl i _ hi
      rw [k1] at g
      cases g
      exact key b _ rfl (.base (.ins (af.gh _ _ k2) k3.cl k3.ca T.gt.hn T.gt.ht k3.mo)) (T.kit _ hr)
    | non => exact plain _ rfl e
    | bl b => exact plain _ rfl e
    | int i => exact plain _ rfl e
    | str x => exact plain _ rfl e
    | tup h1 h2 => exact plain _ rfl e
    | lst h1 h2 => exact plain _ rfl e
def kMin3 : List D → Option D
  | [.int i, .int j, .int k] => some (.int (let m := if j < i then j else i; if k < m then k else m))
  | _ => none
def kMax3 : List D → Option D
  | [.int i, .int j, .int k] => some (.int (let m := if j > i then j else i; if k > m then k else m))
  | _ => none
theorem three_of {ha : Option Addr} {G : Hp} {vs : List V} {d1 d2 d3 : D} (h : DqAll c ha G vs [d1, d2, d3]) : ∃ u v w, vs = [u, v, w] ∧ Dq c ha G u d1 ∧ Dq c ha G v d2 ∧ Dq c ha G w d3 := by
  cases h with
  | cons h t =>
    obtain ⟨v, w, rfl, h2, h3⟩ := two_of t
    exact ⟨_, v, w, rfl, h, h2, h3⟩
theorem nu_min2 (i j : Int) : nuMin2 (.int i) (.int j) = some (.int (if j < i then j else i)) := by
  show (some (decide (j < i))).map (fun c => if c = true then V.int j else V.int i) = _
  by_cases h : j < i
  · simp [h]
  · simp [h]
theorem nu_max2 (i j : Int) : nuMax2 (.int i) (.int j) = some (.int (if j > i then j else i)) := by
  show (some (decide (i < j))).map (fun c => if c = true then V.int j else V.int i) = _
  by_cases h : i < j
  · simp [h]
  · simp [h]
theorem k_min3 : CaD c (rNuC3 nuMin3) kMin3 := by
  intro ha G H ds d vs Q s dv e fin
  unfold kMin3 at e
  split at e <;> cases e
  obtain ⟨u, v, w, rfl, d1, d2, d3⟩ := three_of dv
  cases d1
  cases d2
  cases d3
  refine ⟨_, _, _, _, rfl, ?_, fin _ G H (Mv.refl s) (Same.refl _) (.int _)⟩
  unfold nuMin3
  rw [nu_min2, Option.bind_some, nu_min2]
theorem k_max3 : CaD c (rNuC3 nuMax3) kMax3 := by
  intro ha G H ds d vs Q s dv e fin
  unfold kMax3 at e
  split at e <;> cases e
  obtain ⟨u, v, w, rfl, d1, d2, d3⟩ := three_of dv
  cases d1
  cases d2
  cases d3
  refine ⟨_, _, _, _, rfl, ?_, fin _ G H (Mv.refl s) (Same.refl _) (.int _)⟩
  unfold nuMax3
  rw [nu_max2, Option.bind_some, nu_max2]
def kMaxL : List D → Option D
  | [.lst (.int i :: ds)] => (intL ds).map fun ns => .int (ns.foldl (fun m x => if m < x then x else m) i)
  | _ => none
def kMinL : List D → Option D
  | [.lst (.int i :: ds)] => (intL ds).map fun ns => .int (ns.foldl (fun m x => if x < m then x else m) i)
  | _ => none
section
variable {x y : Str} {pos' py : Pos} {scope : Scope} {own : List (Str × Nat)} {bind : D → DE → Option DE} {g : TG}
theorem sS (i : Nat) (hN : X.N.Nodup) (he : PE X e (rd c W f)) (hi : X.N[i]? = some x := by rfl) (hx : Loc X.env.scope x := by first | exact Or.inl rfl | exact Or.inr rfl) (hs : swapsWith e (some (.Name x pos')) pos.line X.env = pure false := by rfl) (hf : X.fn x = true ∨ X.env.scope.names.lookup x = some .local := by first | exact .inr rfl | exact .inl rfl | assumption) : PS X (.Assign [.Name x pos'] e pos) (rs c W nw (sSet i f)) := ds_set hN hi hx he hs hf
theorem sSN (i : Nat) (hN : X.N.Nodup) (he : PE X e (rn c W f)) (hi : X.N[i]? = some x := by rfl) (hx : Loc X.env.scope x := by first | exact Or.inl rfl | exact Or.inr rfl) (hs : swapsWith e (some (.Name x pos')) pos.line X.env = pure false := by rfl) (hf : X.fn x = true ∨ X.env.scope.names.lookup x = some .local := by first | exact .inr rfl | exact .inl rfl | assumption) : PS X (.Assign [.Name x pos'] e pos) (rs c W nw (sSet i f)) := ds_setN hN hi hx he hs hf
theorem sSW (i : Nat) (hN : X.N.Nodup) (he : PE X e (rw' c W f)) (hi : X.N[i]? = some x := by rfl) (hx : Loc X.env.scope x := by first | exact Or.inl rfl | exact Or.inr rfl) (hs : swapsWith e (some (.Name x pos')) pos.line X.env = pure false := by rfl) (hf : X.fn x = true ∨ X.env.scope.names.lookup x = some .local := by first | exact .inr rfl | exact .inl rfl | assumption) : PS X (.Assign [.Name x pos'] e pos) (rs c W nw (sSet i f)) := ds_setW hN hi hx he hs hf
theorem sA (i : Nat) {op : Operator} {ti : TIp} {k : D → D → Option D} (hr : OpD c ti k) (ho : PIp X op ti) (hN : X.N.Nodup) (he : PE X e (rd c W f)) (hi : X.N[i]? = some x := by rfl) (hx : Loc X.env.scope x := by first | exact Or.inl rfl | exact Or.inr rfl) (hf : X.fn x = true ∨ X.env.scope.names.lookup x = some .local := by first | exact .inr rfl | exact .inl rfl | assumption) :
    PS X (.AugAssign (.Name x pos') op e pos) (rs c W nw (sAug i k f)) := ds_aug hr hN hi hx he ho hf
/-- a loop's or a clause's own name -/
theorem gN (i : Nat) (hN : X.N.Nodup) (hi : X.N[i]? = some x := by rfl) (hx : Loc X.env.scope x := by first | exact Or.inl rfl | exact Or.inr rfl) (hf : X.fn x = true ∨ X.env.scope.names.lookup x = some .local := by first | exact .inr rfl | exact .inl rfl | assumption) : PG X (.Name x pos) (gName i) := pg_name hN hi hx hf
end
end
end Fw
set_option maxHeartbeats 2000000
namespace Fw
open PySem PySem.Spec PyProof.Rows L2 Dz Vz
theorem noat_of {t : Tb} {K : PySem.W.Frag} {mg : Str → Option Value} (T : Fs t K mg) (i : Nat) {p : CT} (hp : t.cls[i]? = some p) (hg : mg p.x = some (.ref (He.ga K p.x))) {m : Str} (hm : m ∈ p.as) {C : Addr} (e : mg p.x = some (.ref C)) : NoAttr K C m := by
  rw [hg] at e
  cases e
  exact T.noat i p hp m hm
abbrev NoNx (u : SF) : Prop := ∀ δ h δ' h', u δ h ≠ .nx δ' h'
theorem nx_seq {u v : SF} (k : NoNx v) : NoNx (sSeq u v) := fun δ h δ' h' e => by
  unfold sSeq at e
  cases q : u δ h with
  | nx δ1 h1 => rw [q] at e; exact k _ _ _ _ e
  | _ => rw [q] at e; cases e
theorem nx_ret {f : EF D} : NoNx (sRet f) := fun δ h δ' h' e => by
  unfold sRet at e
  cases q : f δ h <;> (rw [q] at e; cases e)
theorem nx_retV {i : Nat} : NoNx (sRetV i) := fun δ h δ' h' e => by
  unfold sRetV at e
  split at e <;> cases e
theorem nx_frz {i : Nat} {u : SF} (k : NoNx u) : NoNx (sFrz i u) := fun δ h δ' h' e => k _ _ _ _ e
theorem nx_if {g : EF Bool} {u v : SF} (k1 : NoNx u) (k2 : NoNx v) : NoNx (sIf g u v) := fun δ h δ' h' e => by
  unfold sIf at e
  cases q : g δ h with
  | ok b h1 =>
    rw [q] at e
    cases b with
    | true => exact k1 _ _ _ _ e
    | false => exact k2 _ _ _ _ e
  | _ => rw [q] at e; cases e
section
variable {P : Program} {w : World} {c : Cn} {base : Heap} {nw : Bool} {x qual : Str} {params : Arguments} {body : List Stmt} {scope : Scope} {dvs : List V} {kws : List (Str × V)} {f : Addr} {fd : FuncData} {N ps : List Str} {k n : Nat}
/-- a def of which nothing is known -/
theorem bad_def (F : FunD c.K x qual params body scope dvs kws f fd) (S : FnScope N ps scope) (hn : ps.length = n := by rfl) : FnOk P w c.K c.mg base (L2.CX P w) k f fd ps (spD c nw n fun _ _ => .bad) := by
  refine ⟨fun vs H Q E h => ?_, fun A outer s H args us vs Q E r e b v h => ?_⟩
  · obtain ⟨ha, G, ds, hh, hl, _, _, dv, _⟩ := h
    rw [dm_len dv, hl, hn]
  · obtain ⟨ha, G, ds, hh, hl, _, _, dv, fin⟩ := h
    exact fin.elim
end
structure ItA (P : Program) (w : World) (K : PySem.W.Frag) (mg : Str → Option Value) (C g : Addr) (fld : Str) : Prop where
  ex : ∃ fd ps, (∀ B : Heap, FnOk P w K mg B CX0 1 g fd ps (spIt K C fld B.objs.size)) ∧ Binds K fd ps []
section
variable {X : Cx} {W : WX} {c : Cn} {tg e : Expr} {f : EF D} {C g : Addr} {nm fld : Str}
theorem di_ownP (hc : Wi.It1 c.K C g) (mC : c.mg nm = some (.ref C)) (I : ItA X.prog X.w c.K c.mg C g fld) (hr : Room 1 X.A) (he : PE X e (rd c W f)) (hK : X.K = c.K := by rfl) (hM : X.mg = c.mg := by rfl) : PI X tg e (ri c W (iOwnI nm fld f)) := by
  obtain ⟨fd, ps, F, b⟩ := I.ex
  exact di_own hc mC F b hr he hK hM
theorem rd_iter {K : PySem.W.Frag} {n : Nat} {N : List Str} {vs : List V} {H : Hp} {Q : VK} {E : XK} (hN : N.length = 1) (h : spIt K C fld n vs H Q E) : tFld K (tVar 0) fld (start N vs) H fun v H1 => Wi.rIterT K n [v] H1 Q := by
  obtain ⟨a, dx, fs, l, xs, rfl, h1, h2, h3, h4, h5, h6⟩ := h
  exact ⟨.ref a, rfl, a, C, dx, fs, .ref l, rfl, h1, h2, h3, h4, l, xs, rfl, h5, h6⟩
theorem len_it {K : PySem.W.Frag} {n : Nat} {vs : List V} {H : Hp} {Q : VK} {E : XK} (h : spIt K C fld n vs H Q E) : vs.length = 1 := by
  obtain ⟨a, dx, fs, l, xs, rfl, _⟩ := h
  rfl
end
end Fw
set_option maxHeartbeats 2000000
namespace Fw
open PySem PySem.Spec PyProof.Rows L2 Dz Vz
def sHand (i : Nat) (u : SF) : SF := fun δ h => match δ[i]?, h with
  | some (some (.hl ds)), .non => if slF (δ.set i none) && ds.all D.fr then match u (δ.set i (some .me)) (.hl ds) with
    | .ret d _ => .ret d .non
    | _ => .bad
    else .bad
  | _, _ => .bad
section
variable {X : Cx} {W : WX} {c : Cn} {ss : List Stmt} {u : SF}
theorem slF_cons {o : Option D} {δ : DE} (h : slF (o :: δ) = true) : slF [o] = true ∧ slF δ = true := by
  unfold slF at h ⊢
  rw [List.all_cons, Bool.and_eq_true] at h
  exact ⟨by rw [List.all_cons, h.1]; rfl, h.2⟩
theorem slF_own {ha : Option Addr} {G H : Hp} {v : V} {d : D} {f : List Addr} (h : Own c ha G H v d f) (k : slF [some d] = true) : Dq c ha G v d := by
  cases h with
  | frz h => exact h
  | hl _ _ _ => cases k
theorem ownS_rest {G H : Hp} {hb : Option Addr} : ∀ {σ : L2.St} {δ : DE} {fp : List Addr}, OwnS c none G H σ δ fp → slF δ = true → OwnS c hb G H σ δ []
  | _, _, _, .nil, _ => .nil
  | _, _, _, .non o t, k => .non o (ownS_rest t (slF_cons k).2)
  | _, _, _, .me e t, k => nomatch e
  | _, _, _, .ex e m x t, k => nomatch (slF_cons k).1
  | _, _, _, .some h t, k => .some (f := []) (fp := []) (.frz (dq_ha (slF_own h (slF_cons k).1))) (ownS_rest t (slF_cons k).2)
theorem ownS_hand {G H : Hp} {a : Addr} : ∀ {i : Nat} {σ : L2.St} {δ : DE} {fp : List Addr}, OwnS c none G H σ δ fp → σ[i]? = some (some (.ref a)) → slF (δ.set i none) = true → OwnS c (some a) G H σ (δ.set i (some .me)) []
  | _, _, _, _, .nil, e, _ => by simp at e
  | 0, _, _, _, .non o t, e, k => by
    have e := Option.some.inj e
    subst e
    exact .me rfl (ownS_rest t (slF_cons k).2)
  | 0, _, _, _, .me e0 t, e, k => nomatch e0
  | 0, _, _, _, .ex e1 m x t, e, k => by
    cases Option.some.inj e
    exact .me rfl (ownS_rest t (slF_cons k).2)
  | 0, _, _, _, .some h t, e, k => by
    cases Option.some.inj e
    exact .me rfl (ownS_rest t (slF_cons k).2)
  | i + 1, _, _, _, .non o t, e, k => .non o (ownS_hand (i := i) t e (slF_cons k).2)
  | i + 1, _, _, _, .me e0 t, e, k => nomatch e0
  | i + 1, _, _, _, .ex e1 m x t, e, k => nomatch (slF_cons k).1
  | i + 1, _, _, _, .some h t, e, k => .some (f := []) (fp := []) (.frz (dq_ha (slF_own h (slF_cons k).1))) (ownS_hand (i := i) t e (slF_cons k).2)
theorem dss_hand (i : Nat) (p : PSs X ss (rs c W false u)) : PSs X ss (rs c W false (sHand i u)) := pss_to p fun Dn σ H x => by
  obtain ⟨ha, G0, B, G, δ, h, st, q⟩ := x
  unfold sHand at q
  split at q
  · rename_i ds e
    by_cases hc : (slF (δ.set i none) && ds.all D.fr) = true
    case neg => rw [if_neg hc] at q; exact q.elim
    rw [if_pos hc] at q
    rw [Bool.and_eq_true] at hc
    have hn : ha = none := by cases st.hd; assumption
    subst hn
    obtain ⟨fp, os, n, k⟩ := st.sl
    obtain ⟨v, f1, f, f2, h1, ef, ho, _⟩ := ownS_slot os e rfl
    cases ho with
    | frz z => cases z
    | @hl a xs _ fq g1 g2 g3 =>
      obtain ⟨da, rfl⟩ := ownAll_fr g3 hc.2
      have hB : B a = none := (k a (by rw [ef]; simp)).1
      refine ⟨some a, G, H, G, δ.set i (some .me), .hl ds, ⟨⟨[], ownS_hand os h1 hc.1, by simp, fun a z => nomatch z⟩, Mv.refl st.gh, fun _ _ _ e => e, .hand rfl g2 g1 (dqAll_ha da), fun b e => by cases e; rw [g1]; exact fun z => nomatch z⟩, ?_⟩
      cases r : u (δ.set i (some .me)) (.hl ds) with
      | ret d h' =>
        rw [r] at q
        intro v G' H' af res
        refine q v G' H' ⟨st.mv.trans af.mv, fun b o _ eb => ?_, .non rfl⟩ (dq_ha res)
        exact af.bt b o (fun z => by cases z; rw [hB] at eb; cases eb) (st.bt b o (fun z => nomatch z) eb)
      | _ => rw [r] at q; exact q.elim
  · exact q.elim
end
end Fw
set_option maxHeartbeats 2000000
namespace Fw
open PySem PySem.Spec PyProof.Rows L2 Dz Vz
/-- a hand at a: its cells at c -/
structure HandAt (H : Hp) (a c : Addr) (cs : List Int) (p g t : Int) : Prop where
  l : H a = some (.lst [.ref c, .int p, .int g, .int t])
  c : H c = some (.lst (cs.map V.int))
  n : ∀ z ∈ cs, 0 ≤ z
  le : cs.length ≤ 63
  t0 : 0 ≤ t
  t1 : t < 2147483648
theorem HandAt.ne {H : Hp} {a c : Addr} {cs : List Int} {p g t : Int} (h : HandAt H a c cs p g t) : c ≠ a := fun z => by
  have e := h.l
  rw [← z, h.c] at e
  have e2 := HO.lst.inj (Option.some.inj e)
  cases cs with
  | nil => cases e2
  | cons y ys => cases e2
def spHand (K : PySem.W.Frag) : Sp := fun vs H Q _ => ∃ (s : Addr) (ns : List Int), vs = [.ref s] ∧ SqL K H s (ns.map V.int) ∧ ns.length ≤ 63 ∧
  ∀ (a c : Addr) (cs : List Int) (t : Int) (H' : Hp), Same H H' → HandAt H' a c cs 0 0 t → Q (.ref a) H'
structure HandOk (P : Program) (w : World) (K : PySem.W.Frag) (mg : Str → Option Value) (base : Heap) (g : Addr) : Prop where
  ex : ∃ fd, FnOk P w K mg base CX0 1 g fd ["_law_script"] (spHand K) ∧ Binds K fd ["_law_script"] []
  kp : PySem.W.keepIn K (.ref g) = true
/-- what a hand is at the start -/
def hand0 (cs : List Int) (t : Int) : D := .hl [.lst (cs.map D.int), .int 0, .int 0, .int t]
/-- the law's body, behind its hand, ends in True -/
def LawB (N : Nat) (u : SF) : Prop := ∀ (cs : List Int) (t : Int), (∀ z ∈ cs, 0 ≤ z) → cs.length ≤ 63 → 0 ≤ t → t < 2147483648 → ∃ h', u (none :: some .me :: List.replicate N none) (hand0 cs t) = .ret (.bl true) h'
def spLaw (K : PySem.W.Frag) : Sp := fun vs H Q _ => ∃ (s : Addr) (ns : List Int), vs = [.ref s] ∧ SqL K H s (ns.map V.int) ∧ ns.length ≤ 63 ∧ ∀ H', Q (.bl true) H'
theorem ownS_none {c : Cn} {ha : Option Addr} {G H : Hp} : ∀ (σ : L2.St), OwnS c ha G H σ (List.replicate σ.length none) []
  | [] => .nil
  | o :: σ => .non o (ownS_none σ)
theorem ints_dq {c : Cn} {ha : Option Addr} {G : Hp} : ∀ (cs : List Int), DqAll c ha G (cs.map V.int) (cs.map D.int)
  | [] => .nil
  | i :: cs => .cons (.int i) (ints_dq cs)
theorem law_read {c : Cn} {N : Nat} {u : SF} {W : WX} {E : XK} {vs : List V} {H : Hp} {Q : VK} {names : List Str} {CXE : XK} (hN : names.length = N + 2) (hu : LawB N u) (h : spLaw c.K vs H Q E) :
    tSeq (tAsg (tCall (spHand c.K) [] CXE (tCons (tVar 0) tNil)) (gName 1)) (rs c W false u) { nx := fun _ H' => Q .non H', rt := Q } (start names vs) H := by
  obtain ⟨s, ns, rfl, hS, hl, q⟩ := h
  refine ⟨.ref s, rfl, s, ns, rfl, hS, hl, fun a cc cs t H' sm hd => ?_⟩
  obtain ⟨h', e⟩ := hu cs t hd.n hd.le hd.t0 hd.t1
  have hG : Same (fun b => if b = a then none else H' b) H' := fun b o e => by
    replace e : (if b = a then none else H' b) = some o := e
    by_cases hb : b = a
    · rw [if_pos hb] at e; cases e
    · rw [if_neg hb] at e; exact e
  have hst : (start names [.ref s]).set 1 (some (.ref a)) = some (.ref s) :: some (.ref a) :: List.replicate N none := by
    unfold L2.start
    rw [hN]
    rfl
  show rs c W false u _ ((start names [.ref s]).set 1 (some (.ref a))) H'
  rw [hst]
  refine ⟨some a, fun b => if b = a then none else H' b, H', fun b => if b = a then none else H' b, none :: some .me :: List.replicate N none, hand0 cs t, ⟨⟨[], ?_, by simp, fun a z => nomatch z⟩, Mv.refl hG, fun _ _ _ e => e, .hand rfl (if_pos rfl) hd.l ?_, fun b e => by cases e; rw [hd.l]; exact fun z => nomatch z⟩, ?_⟩
  · refine .non _ (.me rfl ?_)
    have z := ownS_none (c := c) (ha := some a) (G := fun b => if b = a then none else H' b) (H := H') (List.replicate N none)
    rw [List.length_replicate] at z
    exact z
  · exact .cons (.lst (by show (if cc = a then none else H' cc) = _; rw [if_neg hd.ne]; exact hd.c) (ints_dq cs)) (.cons (.int _) (.cons (.int _) (.cons (.int _) .nil)))
  · rw [e]
    intro v G' H2 af res
    cases (show Dq c (some a) G' v (.bl true) from res)
    exact q H2
theorem len_law {K : PySem.W.Frag} {vs : List V} {H : Hp} {Q : VK} {E : XK} (h : spLaw K vs H Q E) : vs.length = 1 := by
  obtain ⟨s, ns, rfl, _⟩ := h
  rfl
end Fw
namespace Fw
open PySem PySem.Spec PyProof.Rows L2
theorem fn_calm0 {P : Program} {w : World} {K : PySem.W.Frag} {mg : Str → Option Value} {base : Heap} {k : Nat} {f : Addr} {fd : FuncData} {ps : List Str} (F : FnOk P w K mg base (L2.CX P w) k f fd ps (spLaw K)) : FnOk P w K mg base CX0 k f fd ps (spLaw K) := by
  have z := fn_calm F
  exact ⟨fun vs H Q E h => z.len vs H Q E h, fun A outer s H args us vs Q E r e b v h => z.run A outer s H args us vs Q E r e b v h⟩
end Fw
namespace N71
open PySem PySem.Spec Fw
def tup_OFFERED : List D := [.int 0, .int 2, .int 3, .int 5, .int 7, .int 11, .int 13]
def F_is_whole : Fn := runF 3 (sSeq (sIf (eOr (eNot (eTru (eIs "int" (eV 0)))) (eTru (eIs "bool" (eV 0)))) (sRet (eC (.bl false))) sNil)
    (sRet (eB (eAnd (eT (eB (eOr (eT (eOp oIsN (eV 1) (eC .non))) (eT (eOp oGe (eV 0) (eV 1)))))) (eT (eB (eOr (eT (eOp oIsN (eV 2) (eC .non))) (eT (eOp oLe (eV 0) (eV 2))))))))))
def F_is_sequence : Fn := runF 1 (sRet (eIs2 "list" "tuple" (eV 0)))
def F_is_ratio : Fn := runF 3 (sSeq (sIf (eOr (eNot (eTru (eIs "tuple" (eV 0)))) (eT (eOp oNe (eBi kLen (eCons (eV 0) eNil)) (eC (.int 2))))) (sRet (eC (.bl false))) sNil)
    (sSeq (sAsg (bTp [(bNm 1), (bNm 2)]) (eV 0))
    (sRet (eB (eAnd (eT (eCall 3 F_is_whole [.non, .non] (eCons (eVm 1) eNil))) (eAnd (eT (eCall 3 F_is_whole [.non] (eCons (eVm 2) (eCons (eC (.int 1)) eNil)))) (eT (eOp oEq (eBi kGcd (eCons (eV 1) (eCons (eV 2) eNil))) (eC (.int 1))))))))))
def F_in_lowest_terms : Fn := runF 3 (sSeq (sSet 2 (eBi kGcd (eCons (eV 0) (eCons (eV 1) eNil))))
    (sSeq (sIf (eT (eOp oLt (eV 1) (eC (.int 0)))) (sSet 2 (eUn oNeg (eV 2))) sNil)
    (sRet (eTup (eCons (eOp oDiv (eV 0) (eV 2)) (eCons (eOp oDiv (eV 1) (eV 2)) eNil))))))
def F_ratio_times : Fn := runF 2 (sRet (eCall 2 F_in_lowest_terms [] (eCons (eOp oMul (eOp oIx (eV 0) (eC (.int 0))) (eOp oIx (eV 1) (eC (.int 0)))) (eCons (eOp oMul (eOp oIx (eV 0) (eC (.int 1))) (eOp oIx (eV 1) (eC (.int 1)))) eNil))))
def F_over_one_bottom : Fn := runF 5 (sSeq (sSet 1 (eC (.int 1)))
    (sSeq (sFor (iSeq (eV 0)) (bTp [(bNm 2), (bNm 3)]) (sSet 1 (eOp oDiv (eOp oMul (eV 1) (eV 3)) (eBi kGcd (eCons (eV 1) (eCons (eV 3) eNil))))))
    (sRet (eTup (eCons (eFz (eLc [4, 3] (iSeq (eV 0)) (bTp [(bNm 4), (bNm 3)]) tYesD (eOp oMul (eV 4) (eOp oDiv (eV 1) (eV 3))))) (eCons (eV 1) eNil))))))
def F_summed_wholes : Fn := runF 4 (sRet (eBi kSum (eCons (eFz (eLc [2, 3] (iRg kZip (eCons (eV 0) (eCons (eV 1) eNil))) (bTp [(bNm 2), (bNm 3)]) tYesD (eOp oMul (eV 2) (eV 3)))) eNil)))
def F_zero_row : Fn := runF 2 (sRet (eFz (eOn oTimes (eTup (eCons (eAtV 0 "zero") eNil)) (eV 1))))
def F_unit_row : Fn := runF 3 (sRet (eFz (eOn oPlus (eFz (eOn oPlus (eCall 2 F_zero_row [] (eCons (eVm 0) (eCons (eVm 2) eNil))) (eTup (eCons (eAtV 0 "one") eNil)))) (eCall 2 F_zero_row [] (eCons (eVm 0) (eCons (eOp oSub (eOp oSub (eV 1) (eV 2)) (eC (.int 1))) eNil))))))
def F_Figures_times : Fn := runF 3 (sSeq (sIf (eT (eOp oEq (eAtV 0 "prime") (eC (.int 0)))) (sRet (eCall 2 F_ratio_times [] (eCons (eVm 1) (eCons (eVm 2) eNil)))) sNil)
    (sRet (eOp oMod (eOp oMul (eV 1) (eV 2)) (eAtV 0 "prime"))))
def F_row_scaled : Fn := runF 4 (sRet (eBi kTup (eCons (eFz (eLc [3] (iSeq (eV 2)) (bNm 3) tYesD (eMeth "Figures" "times" 3 F_Figures_times [] (eV 0) (eCons (eVm 1) (eCons (eVm 3) eNil))))) eNil)))
def F_summed_lines : Fn := runF 4 (sSeq (sSet 3 (eCall 2 F_summed_wholes [] (eCons (eOp oIx (eV 1) (eC (.int 0))) (eCons (eOp oIx (eV 2) (eC (.int 0))) eNil))))
    (sSeq (sIf (eT (eOp oNe (eAtV 0 "prime") (eC (.int 0)))) (sRet (eOp oMod (eV 3) (eAtV 0 "prime"))) sNil)
    (sRet (eCall 2 F_in_lowest_terms [] (eCons (eVm 3) (eCons (eOp oMul (eOp oIx (eV 1) (eC (.int 1))) (eOp oIx (eV 2) (eC (.int 1)))) eNil))))))
def F_whole_line : Fn := runF 2 (sRet (eIf (eT (eOp oNe (eAtV 0 "prime") (eC (.int 0)))) (eTup (eCons (eV 1) (eCons (eC (.int 1)) eNil))) (eCall 1 F_over_one_bottom [] (eCons (eVm 1) eNil))))
def F_summed_products : Fn := runF 3 (sRet (eCall 3 F_summed_lines [] (eCons (eVm 0) (eCons (eCall 2 F_whole_line [] (eCons (eVm 0) (eCons (eVm 1) eNil))) (eCons (eCall 2 F_whole_line [] (eCons (eVm 0) (eCons (eVm 2) eNil))) eNil)))))
def F_column_led : Fn := runF 5 (sSeq (sSet 3 (eCall 2 F_whole_line [] (eCons (eVm 0) (eCons (eVm 2) eNil))))
    (sRet (eBi kTup (eCons (eFz (eLc [4] (iSeq (eV 1)) (bNm 4) tYesD (eCall 3 F_summed_lines [] (eCons (eVm 0) (eCons (eCall 2 F_whole_line [] (eCons (eVm 0) (eCons (eVm 4) eNil))) (eCons (eVm 3) eNil)))))) eNil))))
def F_flipped_table : Fn := runF 3 (sSeq (sIf (eT (eOp oEq (eBi kLen (eCons (eV 0) eNil)) (eC (.int 0)))) (sRet (eTup eNil)) sNil)
    (sRet (eBi kTup (eCons (eFz (eLc [2] (iRg rg1 (eCons (eBi kLen (eCons (eOp oIx (eV 0) (eC (.int 0))) eNil)) eNil)) (bNm 2) tYesD (eBi kTup (eCons (eFz (eLc [1] (iSeq (eV 0)) (bNm 1) tYesD (eOp oIx (eV 1) (eV 2)))) eNil)))) eNil))))
def F_row_times : Fn := runF 4 (sRet (eBi kTup (eCons (eFz (eLc [3] (iSeq (eV 2)) (bNm 3) tYesD (eCall 3 F_summed_lines [] (eCons (eVm 0) (eCons (eVm 1) (eCons (eVm 3) eNil)))))) eNil)))
def F_table_times : Fn := runF 5 (sSeq (sSet 3 (eFz (eLc [4] (iSeq (eCall 1 F_flipped_table [] (eCons (eVm 2) eNil))) (bNm 4) tYesD (eCall 2 F_whole_line [] (eCons (eVm 0) (eCons (eVm 4) eNil))))))
    (sRet (eBi kTup (eCons (eFz (eLc [4] (iSeq (eV 1)) (bNm 4) tYesD (eCall 3 F_row_times [] (eCons (eVm 0) (eCons (eCall 2 F_whole_line [] (eCons (eVm 0) (eCons (eVm 4) eNil))) (eCons (eVm 3) eNil)))))) eNil))))
def F_fits_count : Fn := runF 2 (sSeq (sIf (eT (eOp oIsN (eV 1) (eC .non))) (sRet (eCh oLe oLe (eC (.int 1)) (eV 0) (eC (.int 5)))) sNil)
    (sRet (eOp oEq (eV 0) (eV 1))))
def F_Figures_is_number : Fn := runF 2 (sSeq (sIf (eT (eOp oEq (eAtV 0 "prime") (eC (.int 0)))) (sRet (eCall 1 F_is_ratio [] (eCons (eVm 1) eNil))) sNil)
    (sRet (eCall 3 F_is_whole [] (eCons (eVm 1) (eCons (eC (.int 0)) (eCons (eOp oSub (eAtV 0 "prime") (eC (.int 1))) eNil))))))
def F_all_are_numbers : Fn := runF 3 (sRet (eBi kAll (eCons (eFz (eLc [2] (iSeq (eV 1)) (bNm 2) tYesD (eMeth "Figures" "is_number" 2 F_Figures_is_number [] (eV 0) (eCons (eVm 2) eNil)))) eNil)))
def F_check_table : Fn := runF 8 (sSeq (sIf (eOr (eNot (eTru (eCall 1 F_is_sequence [] (eCons (eVm 1) eNil)))) (eNot (eTru (eCall 2 F_fits_count [] (eCons (eBi kLen (eCons (eV 1) eNil)) (eCons (eVm 2) eNil)))))) (sRaise "BadTable" (flD2 "index" "what") (eCons (eC (.int 0)) (eCons (eC (.str "rows")) eNil))) sNil)
    (sSeq (sSet 4 (eLst eNil))
    (sSeq (sSet 5 (eV 3))
    (sSeq (sFor (iRg kEnum (eCons (eV 1) eNil)) (bTp [(bNm 6), (bNm 7)]) (sSeq (sIf (eOr (eNot (eTru (eCall 1 F_is_sequence [] (eCons (eVm 7) eNil)))) (eNot (eTru (eCall 2 F_fits_count [] (eCons (eBi kLen (eCons (eV 7) eNil)) (eCons (eVm 5) eNil)))))) (sRaise "BadTable" (flD2 "index" "what") (eCons (eV 6) (eCons (eC (.str "columns")) eNil))) sNil)
    (sSeq (sSet 5 (eBi kLen (eCons (eV 7) eNil)))
    (sSeq (sIf (eNot (eTru (eCall 2 F_all_are_numbers [] (eCons (eVm 0) (eCons (eVm 7) eNil))))) (sRaise "BadTable" (flD2 "index" "what") (eCons (eV 6) (eCons (eC (.str "number")) eNil))) sNil)
    (sApp (pV 4) (eBi kTup (eCons (eV 7) eNil)))))))
    (sFrz 4 (sRet (eBi kTup (eCons (eV 4) eNil))))))))
def F_check_letters : Fn := runF 6 (sSeq (sIf (eNot (eTru (eCall 1 F_is_sequence [] (eCons (eVm 1) eNil)))) (sRaise "BadLetters" (flD2 "what" "index") (eCons (eV 3) (eCons (eC (.int 0)) eNil))) sNil)
    (sSeq (sFor (iRg kEnum (eCons (eFz (eSl (eV 1) eNo (eOpt (eV 2)))) eNil)) (bTp [(bNm 4), (bNm 5)]) (sIf (eNot (eTru (eMeth "Figures" "is_number" 2 F_Figures_is_number [] (eV 0) (eCons (eVm 5) eNil)))) (sRaise "BadLetters" (flD2 "what" "index") (eCons (eV 3) (eCons (eV 4) eNil))) sNil))
    (sSeq (sIf (eT (eOp oNe (eBi kLen (eCons (eV 1) eNil)) (eV 2))) (sRaise "BadLetters" (flD2 "what" "index") (eCons (eV 3) (eCons (eBi kMin2 (eCons (eBi kLen (eCons (eV 1) eNil)) (eCons (eV 2) eNil))) eNil))) sNil)
    (sRet (eBi kTup (eCons (eV 1) eNil))))))
def F_check_width : Fn := runF 3 (sIf (eAnd (eT (eOp oNe (eAtV 0 "prime") (eC (.int 0)))) (eT (eOp oGt (eBi kMax2 (eCons (eV 1) (eCons (eV 2) eNil))) (eAtV 0 "prime")))) (sRaise "BadPair" (flD1 "what") (eCons (eC (.str "wide")) eNil)) sNil)
def F_Pair___init__ : Fn := runF 4 (sSeq (sSet 2 (eCall 4 F_check_table [.non, .non] (eCons (eVm 1) (eCons (eVm 2) eNil))))
    (sSeq (sSet 3 (eCall 4 F_check_table [.non, .non] (eCons (eVm 1) (eCons (eVm 3) eNil))))
    (sSeq (sIf (eOr (eT (eOp oNe (eBi kLen (eCons (eV 2) eNil)) (eBi kLen (eCons (eV 3) eNil)))) (eT (eOp oNe (eBi kLen (eCons (eOp oIx (eV 2) (eC (.int 0))) eNil)) (eBi kLen (eCons (eOp oIx (eV 3) (eC (.int 0))) eNil))))) (sRaise "BadPair" (flD1 "what") (eCons (eC (.str "size")) eNil)) sNil)
    (sSeq (sDrop (eCall 3 F_check_width [] (eCons (eVm 1) (eCons (eBi kLen (eCons (eV 2) eNil)) (eCons (eBi kLen (eCons (eOp oIx (eV 2) (eC (.int 0))) eNil)) eNil)))))
    (sSeq (sAt "Pair" 0 "figures" (eV 1))
    (sSeq (sAt "Pair" 0 "first" (eV 2))
    (sSeq (sAt "Pair" 0 "second" (eV 3))
    (sSeq (sAt "Pair" 0 "rows" (eBi kLen (eCons (eV 2) eNil)))
    (sAt "Pair" 0 "columns" (eBi kLen (eCons (eOp oIx (eV 2) (eC (.int 0))) eNil)))))))))))
def F_Pair_answers : Fn := runF 6 (sSeq (sSet 3 (eAtV 0 "figures"))
    (sSeq (sSet 1 (eCall 4 F_check_letters [] (eCons (eVm 3) (eCons (eVm 1) (eCons (eAtV 0 "rows") (eCons (eC (.str "left")) eNil))))))
    (sSeq (sSet 2 (eCall 4 F_check_letters [] (eCons (eVm 3) (eCons (eVm 2) (eCons (eAtV 0 "columns") (eCons (eC (.str "right")) eNil))))))
    (sSeq (sSet 4 (eCall 3 F_summed_products [] (eCons (eVm 3) (eCons (eVm 1) (eCons (eCall 3 F_column_led [] (eCons (eVm 3) (eCons (eAtV 0 "first") (eCons (eVm 2) eNil)))) eNil)))))
    (sSeq (sSet 5 (eCall 3 F_summed_products [] (eCons (eVm 3) (eCons (eVm 1) (eCons (eCall 3 F_column_led [] (eCons (eVm 3) (eCons (eAtV 0 "second") (eCons (eVm 2) eNil)))) eNil)))))
    (sRet (eTup (eCons (eV 4) (eCons (eV 5) eNil)))))))))
def F_is_side : Fn := runF 2 (sRet (eB (eAnd (eT (eCall 3 F_is_whole [] (eCons (eVm 1) (eCons (eC (.int 1)) (eCons (eC (.int 5)) eNil))))) (eT (eB (eOr (eT (eOp oEq (eAtV 0 "prime") (eC (.int 0)))) (eT (eOp oLe (eV 1) (eAtV 0 "prime")))))))))
def F_is_number_row : Fn := runF 3 (sRet (eB (eAnd (eT (eCall 1 F_is_sequence [] (eCons (eVm 1) eNil))) (eAnd (eT (eOp oEq (eBi kLen (eCons (eV 1) eNil)) (eV 2))) (eT (eCall 2 F_all_are_numbers [] (eCons (eVm 0) (eCons (eVm 1) eNil))))))))
def F_check_product : Fn := runF 8 (sSeq (sSet 3 (eAtV 0 "figures"))
    (sSeq (sIf (eOr (eNot (eTru (eCall 1 F_is_sequence [] (eCons (eVm 1) eNil)))) (eT (eOp oNe (eBi kLen (eCons (eV 1) eNil)) (eC (.int 4))))) (sRaise "BadProgram" (flD2 "index" "what") (eCons (eV 2) (eCons (eC (.str "product")) eNil))) sNil)
    (sSeq (sAsg (bTp [(bNm 4), (bNm 5), (bNm 6), (bNm 7)]) (eV 1))
    (sSeq (sIf (eNot (eTru (eCall 3 F_is_number_row [] (eCons (eVm 3) (eCons (eVm 4) (eCons (eAtV 0 "rows") eNil)))))) (sRaise "BadProgram" (flD2 "index" "what") (eCons (eV 2) (eCons (eC (.str "left")) eNil))) sNil)
    (sSeq (sIf (eNot (eTru (eCall 3 F_is_number_row [] (eCons (eVm 3) (eCons (eVm 5) (eCons (eAtV 0 "columns") eNil)))))) (sRaise "BadProgram" (flD2 "index" "what") (eCons (eV 2) (eCons (eC (.str "right")) eNil))) sNil)
    (sSeq (sIf (eOr (eNot (eTru (eMeth "Figures" "is_number" 2 F_Figures_is_number [] (eV 3) (eCons (eVm 6) eNil)))) (eNot (eTru (eMeth "Figures" "is_number" 2 F_Figures_is_number [] (eV 3) (eCons (eVm 7) eNil))))) (sRaise "BadProgram" (flD2 "index" "what") (eCons (eV 2) (eCons (eC (.str "number")) eNil))) sNil)
    (sRet (eTup (eCons (eBi kTup (eCons (eV 4) eNil)) (eCons (eBi kTup (eCons (eV 5) eNil)) (eCons (eV 6) (eCons (eV 7) eNil))))))))))))
def F_Program___init__ : Fn := runF 7 (sSeq (sIf (eNot (eTru (eCall 2 F_is_side [] (eCons (eVm 1) (eCons (eVm 2) eNil))))) (sRaise "BadProgram" (flD2 "index" "what") (eCons (eC (.int 0)) (eCons (eC (.str "rows")) eNil))) sNil)
    (sSeq (sIf (eNot (eTru (eCall 2 F_is_side [] (eCons (eVm 1) (eCons (eVm 3) eNil))))) (sRaise "BadProgram" (flD2 "index" "what") (eCons (eC (.int 0)) (eCons (eC (.str "columns")) eNil))) sNil)
    (sSeq (sIf (eOr (eNot (eTru (eCall 1 F_is_sequence [] (eCons (eVm 4) eNil)))) (eT (eOp oGt (eBi kLen (eCons (eV 4) eNil)) (eC (.int 30))))) (sRaise "BadProgram" (flD2 "index" "what") (eCons (eC (.int 0)) (eCons (eC (.str "many")) eNil))) sNil)
    (sSeq (sAt "Program" 0 "figures" (eV 1))
    (sSeq (sAt "Program" 0 "rows" (eV 2))
    (sSeq (sAt "Program" 0 "columns" (eV 3))
    (sAt "Program" 0 "products" (eBi kTup (eCons (eFz (eLc [5, 6] (iRg kEnum (eCons (eV 4) eNil)) (bTp [(bNm 5), (bNm 6)]) tYesD (eCall 3 F_check_product [] (eCons (eVm 0) (eCons (eVm 6) (eCons (eVm 5) eNil)))))) eNil)))))))))
def F_Program___len__ : Fn := runF 1 (sRet (eBi kLen (eCons (eAtV 0 "products") eNil)))
def F_answer_table : Fn := runF 5 (sSeq (sSet 2 (eAtV 0 "figures"))
    (sSeq (sIf (eT (eOp oEq (eLenI "Program" F_Program___len__ (eV 0)) (eC (.int 0)))) (sRet (eFz (eOn oTimes (eTup (eCons (eCall 2 F_zero_row [] (eCons (eVm 2) (eCons (eAtV 0 "columns") eNil))) eNil)) (eAtV 0 "rows")))) sNil)
    (sSeq (sSet 3 (eCall 1 F_flipped_table [] (eCons (eFz (eLc [4] (iOwnI "Program" "products" (eV 0)) (bNm 4) tYesD (eCall 3 F_row_scaled [] (eCons (eVm 2) (eCons (eOp oIx (eV 4) (eV 1)) (eCons (eOp oIx (eV 4) (eC (.int 0))) eNil)))))) eNil)))
    (sRet (eCall 3 F_table_times [] (eCons (eVm 2) (eCons (eVm 3) (eCons (eFz (eLc [4] (iOwnI "Program" "products" (eV 0)) (bNm 4) tYesD (eOp oIx (eV 4) (eC (.int 1))))) eNil))))))))
def F_Program_pair : Fn := runF 1 (sRet (eMake "Pair" 4 F_Pair___init__ [] (eCons (eAtV 0 "figures") (eCons (eCall 2 F_answer_table [] (eCons (eVm 0) (eCons (eC (.int 2)) eNil))) (eCons (eCall 2 F_answer_table [] (eCons (eVm 0) (eCons (eC (.int 3)) eNil))) eNil)))))
def F_plain_program : Fn := runF 5 (sSeq (sSet 1 (eAtV 0 "figures"))
    (sSeq (sSet 2 (eFz (eLc2 [3, 4] [4] (iRg rg1 (eCons (eAtV 0 "rows") eNil)) (bNm 3) tYesD (iRg rg1 (eCons (eAtV 0 "columns") eNil)) (bNm 4) (eOr (eT (eOp oNe (eOp oIx (eOp oIx (eAtV 0 "first") (eV 3)) (eV 4)) (eAtV 1 "zero"))) (eT (eOp oNe (eOp oIx (eOp oIx (eAtV 0 "second") (eV 3)) (eV 4)) (eAtV 1 "zero")))) (eTup (eCons (eCall 3 F_unit_row [] (eCons (eVm 1) (eCons (eAtV 0 "rows") (eCons (eVm 3) eNil)))) (eCons (eCall 3 F_unit_row [] (eCons (eVm 1) (eCons (eAtV 0 "columns") (eCons (eVm 4) eNil)))) (eCons (eOp oIx (eOp oIx (eAtV 0 "first") (eV 3)) (eV 4)) (eCons (eOp oIx (eOp oIx (eAtV 0 "second") (eV 3)) (eV 4)) eNil))))))))
    (sRet (eMake "Program" 5 F_Program___init__ [] (eCons (eV 1) (eCons (eAtV 0 "rows") (eCons (eAtV 0 "columns") (eCons (eV 2) eNil))))))))
def F_placed_row : Fn := runF 4 (sRet (eFz (eOn oPlus (eFz (eOn oPlus (eCall 2 F_zero_row [] (eCons (eVm 0) (eCons (eVm 2) eNil))) (eV 1))) (eCall 2 F_zero_row [] (eCons (eVm 0) (eCons (eOp oSub (eOp oSub (eV 3) (eV 2)) (eBi kLen (eCons (eV 1) eNil))) eNil))))))
def F_corner_products : Fn := runF 12 (sSeq (sSet 4 (eLst eNil))
    (sSeq (sSet 5 (eC (.int 0)))
    (sSeq (sSet 6 (eC (.int 0)))
    (sSeq (sFor (iSeq (eV 3)) (bNm 7) (sSeq (sFor (iOwnI "Program" "products" (eV 7)) (bTp [(bNm 8), (bNm 9), (bNm 10), (bNm 11)]) (sSeq (sSet 8 (eCall 4 F_placed_row [] (eCons (eVm 0) (eCons (eVm 8) (eCons (eVm 5) (eCons (eVm 1) eNil))))))
    (sApp (pV 4) (eTup (eCons (eV 8) (eCons (eCall 4 F_placed_row [] (eCons (eVm 0) (eCons (eVm 9) (eCons (eVm 6) (eCons (eVm 2) eNil))))) (eCons (eV 10) (eCons (eV 11) eNil))))))))
    (sPar 5 6 (eCons (eOp oAdd (eV 5) (eAtV 7 "rows")) (eCons (eOp oAdd (eV 6) (eAtV 7 "columns")) eNil)))))
    (sFrz 4 (sRet (eV 4)))))))
def F_Figures___eq__ : Fn := runF 2 (sRet (eB (eAnd (eT (eIsC (msOf [("Figures", true)]) false (eV 1))) (eT (eOp oEq (eAtV 0 "prime") (eAtV 1 "prime"))))))
def F_programs_beside : Fn := runF 5 (sSeq (sIf (eOr (eNot (eTru (eCall 1 F_is_sequence [] (eCons (eVm 0) eNil)))) (eNot (eT (eCh oLe oLe (eC (.int 1)) (eBi kLen (eCons (eV 0) eNil)) (eC (.int 5)))))) (sRaise "BadMany" (flD1 "most") (eCons (eC (.int 5)) eNil)) sNil)
    (sSeq (sSet 1 (eAt (eOp oIx (eV 0) (eC (.int 0))) "figures"))
    (sSeq (sFor (iSeq (eV 0)) (bNm 2) (sIf (eT (eNeI "Figures" F_Figures___eq__ (eAtV 2 "figures") (eV 1))) (sRaise0 "Unlike") sNil))
    (sSeq (sSet 3 (eBi kSum (eCons (eFz (eLc [2] (iSeq (eV 0)) (bNm 2) tYesD (eAtV 2 "rows"))) eNil)))
    (sSeq (sSet 4 (eBi kSum (eCons (eFz (eLc [2] (iSeq (eV 0)) (bNm 2) tYesD (eAtV 2 "columns"))) eNil)))
    (sRet (eMake "Program" 5 F_Program___init__ [] (eCons (eV 1) (eCons (eV 3) (eCons (eV 4) (eCons (eCall 4 F_corner_products [] (eCons (eVm 1) (eCons (eVm 3) (eCons (eVm 4) (eCons (eVm 0) eNil))))) eNil)))))))))))
def F_Figures___init__ : Fn := runF 2 (sSeq (sIf (eOr (eNot (eTru (eCall 3 F_is_whole [.non, .non] (eCons (eVm 1) eNil)))) (eT (eOp oNin (eV 1) (eC (.tup tup_OFFERED))))) (sRaise "BadFigures" (flD1 "prime") (eCons (eV 1) eNil)) sNil)
    (sSeq (sAt "Figures" 0 "prime" (eV 1))
    (sSeq (sAt "Figures" 0 "zero" (eIf (eT (eOp oEq (eV 1) (eC (.int 0)))) (eTup (eCons (eC (.int 0)) (eCons (eC (.int 1)) eNil))) (eC (.int 0))))
    (sAt "Figures" 0 "one" (eIf (eT (eOp oEq (eV 1) (eC (.int 0)))) (eTup (eCons (eC (.int 1)) (eCons (eC (.int 1)) eNil))) (eC (.int 1)))))))
def F__law_mixed : Fn := runF 4 (sSeq (sSet 2 (eOp oMod (eBi kInt (eCons (eOp oAdd (eOp oAdd (eOp oMul (eV 0) (eC (.int 39373))) (eOp oMul (eV 1) (eC (.int 6151)))) (eC (.int 50021))) eNil)) (eC (.int 2147483399))))
    (sSeq (sSet 3 (eOp oMod (eBi kInt (eCons (eOp oAdd (eOp oAdd (eOp oMul (eV 2) (eV 2)) (eOp oMul (eV 1) (eC (.int 81071)))) (eOp oDiv (eV 2) (eC (.int 137)))) eNil)) (eC (.int 2147483629))))
    (sRet (eOp oDiv (eBi kInt (eCons (eOp oMod (eBi kInt (eCons (eOp oAdd (eOp oMul (eV 3) (eC (.int 62089))) (eOp oDiv (eV 2) (eC (.int 11)))) eNil)) (eC (.int 2147483587))) eNil)) (eC (.int 64))))))
def F__law_take : Fn := runF 4 (sSeq (sIf (eAnd (eT (eOp oEq (eIxM 0 (eC (.int 2))) (eC (.int 0)))) (eT (eOp oLt (eIxM 0 (eC (.int 1))) (eBi kLen (eCons (eIxM 0 (eC (.int 0))) eNil))))) (sSeq (sSet 2 (eOp oIx (eIxM 0 (eC (.int 0))) (eIxM 0 (eC (.int 1)))))
    (sSeq (sStM 0 (eC (.int 1)) (eOp oAdd (eIxM 0 (eC (.int 1))) (eC (.int 1))))
    (sSeq (sIf (eT (eOp oLt (eV 2) (eOp oPow (eC (.int 10)) (eC (.int 18))))) (sRet (eOp oMod (eBi kInt (eCons (eCall 2 F__law_mixed [] (eCons (eOp oMod (eBi kInt (eCons (eV 2) eNil)) (eC (.int 2147483399))) (eCons (eIxM 0 (eC (.int 1))) eNil))) eNil)) (eV 1))) sNil)
    (sStM 0 (eC (.int 2)) (eV 2))))) sNil)
    (sSeq (sIf (eT (eOp oGt (eIxM 0 (eC (.int 2))) (eC (.int 0)))) (sSeq (sSet 3 (eIxM 0 (eC (.int 2))))
    (sSeq (sStM 0 (eC (.int 2)) (eOp oDiv (eBi kInt (eCons (eV 3) eNil)) (eV 1)))
    (sRet (eOp oMod (eBi kInt (eCons (eV 3) eNil)) (eV 1))))) sNil)
    (sSeq (sStM 0 (eC (.int 3)) (eOp oMod (eBi kInt (eCons (eOp oAdd (eIxM 0 (eC (.int 3))) (eC (.int 1))) eNil)) (eC (.int 2147483549))))
    (sRet (eOp oMod (eBi kInt (eCons (eCall 2 F__law_mixed [] (eCons (eIxM 0 (eC (.int 3))) (eCons (eIxM 0 (eC (.int 1))) eNil))) eNil)) (eV 1))))))
def F__law_gcd : Fn := runF 6 (sSeq (sSet 2 (eBi kAbs (eCons (eV 0) eNil)))
    (sSeq (sSet 3 (eBi kAbs (eCons (eV 1) eNil)))
    (sSeq (sFor (iRg rg1 (eCons (eC (.int 60000)) eNil)) (bNm 4) (sSeq (sIf (eT (eOp oEq (eV 3) (eC (.int 0)))) (sRet (eV 2)) sNil)
    (sSeq (sSet 5 (eOp oMod (eBi kInt (eCons (eV 2) eNil)) (eV 3)))
    (sSeq (sSet 2 (eV 3))
    (sSet 3 (eV 5))))))
    (sRet (eC (.int 1))))))
def F__law_ratio : Fn := runF 3 (sSeq (sSet 2 (eCall 2 F__law_gcd [] (eCons (eVm 0) (eCons (eVm 1) eNil))))
    (sSeq (sIf (eT (eOp oLt (eV 1) (eC (.int 0)))) (sSet 2 (eUn oNeg (eV 2))) sNil)
    (sRet (eTup (eCons (eOp oDiv (eV 0) (eV 2)) (eCons (eOp oDiv (eV 1) (eV 2)) eNil))))))
def F__law_num : Fn := runF 2 (sSeq (sIf (eT (eOp oEq (eV 0) (eC (.int 0)))) (sRet (eTup (eCons (eV 1) (eCons (eC (.int 1)) eNil)))) sNil)
    (sRet (eOp oMod (eBi kInt (eCons (eV 1) eNil)) (eV 0))))
def F__law_plus : Fn := runF 3 (sSeq (sIf (eT (eOp oEq (eV 0) (eC (.int 0)))) (sSeq (sIf (eAnd (eT (eOp oEq (eOp oIx (eV 1) (eC (.int 1))) (eC (.int 1)))) (eT (eOp oEq (eOp oIx (eV 2) (eC (.int 1))) (eC (.int 1))))) (sRet (eTup (eCons (eOp oAdd (eOp oIx (eV 1) (eC (.int 0))) (eOp oIx (eV 2) (eC (.int 0)))) (eCons (eC (.int 1)) eNil)))) sNil)
    (sRet (eCall 2 F__law_ratio [] (eCons (eOp oAdd (eOp oMul (eOp oIx (eV 1) (eC (.int 0))) (eOp oIx (eV 2) (eC (.int 1)))) (eOp oMul (eOp oIx (eV 2) (eC (.int 0))) (eOp oIx (eV 1) (eC (.int 1))))) (eCons (eOp oMul (eOp oIx (eV 1) (eC (.int 1))) (eOp oIx (eV 2) (eC (.int 1)))) eNil))))) sNil)
    (sRet (eOp oMod (eBi kInt (eCons (eOp oAdd (eV 1) (eV 2)) eNil)) (eV 0))))
def F__law_times : Fn := runF 3 (sSeq (sIf (eT (eOp oEq (eV 0) (eC (.int 0)))) (sSeq (sIf (eAnd (eT (eOp oEq (eOp oIx (eV 1) (eC (.int 1))) (eC (.int 1)))) (eT (eOp oEq (eOp oIx (eV 2) (eC (.int 1))) (eC (.int 1))))) (sRet (eTup (eCons (eOp oMul (eOp oIx (eV 1) (eC (.int 0))) (eOp oIx (eV 2) (eC (.int 0)))) (eCons (eC (.int 1)) eNil)))) sNil)
    (sRet (eCall 2 F__law_ratio [] (eCons (eOp oMul (eOp oIx (eV 1) (eC (.int 0))) (eOp oIx (eV 2) (eC (.int 0)))) (eCons (eOp oMul (eOp oIx (eV 1) (eC (.int 1))) (eOp oIx (eV 2) (eC (.int 1)))) eNil))))) sNil)
    (sRet (eOp oMod (eBi kInt (eCons (eOp oMul (eV 1) (eV 2)) eNil)) (eV 0))))
def F__law_zero : Fn := runF 2 (sRet (eOp oEq (eV 1) (eCall 2 F__law_num [] (eCons (eVm 0) (eCons (eC (.int 0)) eNil)))))
def F__law_blank : Fn := runF 4 (sRet (eLc [3] (iRg rg1 (eCons (eV 1) eNil)) (bNm 3) tYesD (eOn oTimes (eFz (eLst (eCons (eCall 2 F__law_num [] (eCons (eVm 0) (eCons (eC (.int 0)) eNil))) eNil))) (eV 2))))
def F__law_summed : Fn := runF 10 (sSeq (sSet 5 (eCall 3 F__law_blank [] (eCons (eVm 0) (eCons (eVm 1) (eCons (eVm 2) eNil)))))
    (sSeq (sFor (iSeq (eV 3)) (bNm 6) (sFor (iRg rg1 (eCons (eV 1) eNil)) (bNm 7) (sSeq (sSet 8 (eCall 3 F__law_times [] (eCons (eVm 0) (eCons (eOp oIx (eV 6) (eV 4)) (eCons (eOp oIx (eOp oIx (eV 6) (eC (.int 0))) (eV 7)) eNil)))))
    (sFor (iRg rg1 (eCons (eV 2) eNil)) (bNm 9) (sSt (pIx (pV 5) (eV 7)) (eV 9) (eCall 3 F__law_plus [] (eCons (eVm 0) (eCons (ePl (pIx (pIx (pV 5) (eV 7)) (eV 9))) (eCons (eCall 3 F__law_times [] (eCons (eVm 0) (eCons (eVm 8) (eCons (eOp oIx (eOp oIx (eV 6) (eC (.int 1))) (eV 9)) eNil)))) eNil)))))))))
    (sRetV 5)))
def F__law_figures : Fn := runF 1 (sRet (eOp oIx (eTup (eCons (eC (.int 0)) (eCons (eC (.int 5)) (eCons (eC (.int 3)) (eCons (eC (.int 7)) (eCons (eC (.int 0)) (eCons (eC (.int 5)) (eCons (eC (.int 2)) (eCons (eC (.int 13)) (eCons (eC (.int 5)) (eCons (eC (.int 3)) (eCons (eC (.int 0)) (eCons (eC (.int 11)) eNil))))))))))))) (eCall 2 F__law_take [] (eCons (eVm 0) (eCons (eC (.int 12)) eNil)))))
def F__law_number : Fn := runF 3 (sSeq (sIf (eT (eOp oGt (eV 1) (eC (.int 0)))) (sRet (eCall 2 F__law_take [] (eCons (eVm 0) (eCons (eVm 1) eNil)))) sNil)
    (sSeq (sSet 2 (eOp oSub (eCall 2 F__law_take [] (eCons (eVm 0) (eCons (eC (.int 7)) eNil))) (eC (.int 3))))
    (sSeq (sIf (eT (eOp oEq (eCall 2 F__law_take [] (eCons (eVm 0) (eCons (eC (.int 4)) eNil))) (eC (.int 0)))) (sRet (eCall 2 F__law_ratio [] (eCons (eVm 2) (eCons (eOp oAdd (eC (.int 2)) (eCall 2 F__law_take [] (eCons (eVm 0) (eCons (eC (.int 2)) eNil)))) eNil)))) sNil)
    (sRet (eTup (eCons (eV 2) (eCons (eC (.int 1)) eNil)))))))
def F__law_size : Fn := runF 4 (sSeq (sSet 3 (eIf (eT (eOp oGt (eV 1) (eC (.int 0)))) (eBi kMin3 (eCons (eV 2) (eCons (eC (.int 5)) (eCons (eV 1) eNil)))) (eBi kMin2 (eCons (eV 2) (eCons (eC (.int 5)) eNil)))))
    (sSeq (sIf (eT (eOp oEq (eCall 2 F__law_take [] (eCons (eVm 0) (eCons (eC (.int 8)) eNil))) (eC (.int 0)))) (sRet (eV 3)) sNil)
    (sRet (eOp oAdd (eC (.int 1)) (eCall 2 F__law_take [] (eCons (eVm 0) (eCons (eBi kMin2 (eCons (eV 3) (eCons (eC (.int 3)) eNil))) eNil)))))))
def F__law_free : Fn := runF 6 (sRet (eLc [5] (iRg rg1 (eCons (eV 2) eNil)) (bNm 5) tYesD (eLc [4] (iRg rg1 (eCons (eV 3) eNil)) (bNm 4) tYesD (eCall 2 F__law_number [] (eCons (eVm 0) (eCons (eVm 1) eNil))))))
def F__law_exact : Nat → Fn
  | 0 => fun _ _ => .bad
  | fu + 1 => runF 3 (sSeq (sIf (eTru (eIs "tuple" (eV 1))) (sSeq (sIf (eOr (eNot (eTru (eIs "tuple" (eV 0)))) (eT (eOp oNe (eBi kLen (eCons (eV 0) eNil)) (eBi kLen (eCons (eV 1) eNil))))) (sRet (eC (.bl false))) sNil)
    (sRet (eOp oEq (eFz (eLc [2] (iRg rg1 (eCons (eBi kLen (eCons (eV 1) eNil)) eNil)) (bNm 2) (eNot (eTru (eCall 2 (F__law_exact fu) [] (eCons (eOp oIx (eV 0) (eV 2)) (eCons (eOp oIx (eV 1) (eV 2)) eNil))))) (eV 2))) (eFz (eLst eNil))))) sNil)
    (sSeq (sIf (eT (eOp oIsN (eV 1) (eC .non))) (sRet (eOp oIsN (eV 0) (eC .non))) sNil)
    (sSeq (sIf (eTru (eIs "bool" (eV 1))) (sRet (eIf (eTru (eV 1)) (eOp oIsB (eV 0) (eC (.bl true))) (eOp oIsB (eV 0) (eC (.bl false))))) sNil)
    (sSeq (sIf (eTru (eIs "str" (eV 1))) (sRet (eB (eAnd (eT (eIs "str" (eV 0))) (eT (eOp oEq (eV 0) (eV 1)))))) sNil)
    (sRet (eB (eAnd (eT (eIs "int" (eV 0))) (eAnd (eT (eB (eNot (eT (eIs "bool" (eV 0)))))) (eT (eOp oEq (eV 0) (eV 1)))))))))))
def F__law_list : Fn := runF 2 (sRet (eFz (eIf (eTru (eCall 2 F__law_take [] (eCons (eVm 0) (eCons (eC (.int 2)) eNil)))) (eBi kList (eCons (eV 1) eNil)) (eBi kTup (eCons (eV 1) eNil)))))
def F__law_numbers : Fn := runF 4 (sSeq (sIf (eOr (eNot (eTru (eIs "tuple" (eV 1)))) (eT (eOp oNe (eBi kLen (eCons (eV 1) eNil)) (eV 2)))) (sRet (eC (.bl false))) sNil)
    (sSeq (sFor (iSeq (eV 1)) (bNm 3) (sIf (eT (eOp oGt (eV 0) (eC (.int 0)))) (sIf (eOr (eNot (eTru (eIs "int" (eV 3)))) (eOr (eTru (eIs "bool" (eV 3))) (eNot (eT (eCh oLe oLt (eC (.int 0)) (eV 3) (eV 0)))))) (sRet (eC (.bl false))) sNil) (sIf (eOr (eNot (eTru (eIs "tuple" (eV 3)))) (eT (eOp oNe (eBi kLen (eCons (eV 3) eNil)) (eC (.int 2))))) (sRet (eC (.bl false))) (sIf (eOr (eNot (eTru (eIs "int" (eOp oIx (eV 3) (eC (.int 0)))))) (eOr (eNot (eTru (eIs "int" (eOp oIx (eV 3) (eC (.int 1)))))) (eT (eOp oLt (eOp oIx (eV 3) (eC (.int 1))) (eC (.int 1)))))) (sRet (eC (.bl false))) (sIf (eOr (eTru (eIs "bool" (eOp oIx (eV 3) (eC (.int 0))))) (eOr (eTru (eIs "bool" (eOp oIx (eV 3) (eC (.int 1))))) (eT (eOp oNe (eCall 2 F__law_gcd [] (eCons (eOp oIx (eV 3) (eC (.int 0))) (eCons (eOp oIx (eV 3) (eC (.int 1))) eNil))) (eC (.int 1)))))) (sRet (eC (.bl false))) sNil)))))
    (sRet (eC (.bl true)))))
def F__law_products : Fn := runF 5 (sSeq (sIf (eOr (eT (eOp oNe (eAt (eAtV 1 "figures") "prime") (eV 0))) (eOr (eNot (eTru (eCall 2 (F__law_exact 5) [] (eCons (eAtV 1 "rows") (eCons (eVm 2) eNil))))) (eNot (eTru (eCall 2 (F__law_exact 5) [] (eCons (eAtV 1 "columns") (eCons (eVm 3) eNil))))))) (sRet (eC .non)) sNil)
    (sSeq (sIf (eOr (eNot (eTru (eIs "tuple" (eAtV 1 "products")))) (eT (eOp oNe (eLenI "Program" F_Program___len__ (eV 1)) (eBi kLen (eCons (eAtV 1 "products") eNil))))) (sRet (eC .non)) sNil)
    (sSeq (sFor (iSeq (eAtV 1 "products")) (bNm 4) (sSeq (sIf (eOr (eNot (eTru (eIs "tuple" (eV 4)))) (eT (eOp oNe (eBi kLen (eCons (eV 4) eNil)) (eC (.int 4))))) (sRet (eC .non)) sNil)
    (sSeq (sIf (eOr (eNot (eTru (eCall 3 F__law_numbers [] (eCons (eVm 0) (eCons (eOp oIx (eV 4) (eC (.int 0))) (eCons (eVm 2) eNil)))))) (eNot (eTru (eCall 3 F__law_numbers [] (eCons (eVm 0) (eCons (eOp oIx (eV 4) (eC (.int 1))) (eCons (eVm 3) eNil))))))) (sRet (eC .non)) sNil)
    (sIf (eNot (eTru (eCall 3 F__law_numbers [] (eCons (eVm 0) (eCons (eTup (eCons (eOp oIx (eV 4) (eC (.int 2))) (eCons (eOp oIx (eV 4) (eC (.int 3))) eNil))) (eCons (eC (.int 2)) eNil)))))) (sRet (eC .non)) sNil))))
    (sRet (eAtV 1 "products")))))
def F__law_right : Fn := runF 7 (sSeq (sSet 3 (eBi kLen (eCons (eOp oIx (eV 2) (eC (.int 0))) eNil)))
    (sSeq (sSet 4 (eBi kLen (eCons (eOp oIx (eOp oIx (eV 2) (eC (.int 0))) (eC (.int 0))) eNil)))
    (sSeq (sFor (iRg rg1 (eCons (eC (.int 2)) eNil)) (bNm 5) (sIf (eT (eOp oNe (eFw (eCall 5 F__law_summed [] (eCons (eVm 0) (eCons (eVm 3) (eCons (eVm 4) (eCons (eVm 1) (eCons (eOp oAdd (eC (.int 2)) (eV 5)) eNil))))))) (eFz (eLc [6] (iSeq (eOp oIx (eV 2) (eV 5))) (bNm 6) tYesD (eFz (eBi kList (eCons (eV 6) eNil))))))) (sRet (eC (.bl false))) sNil))
    (sRet (eC (.bl true))))))
def F__law_passed_pair : Fn := runF 5 (sSeq (sSet 3 (eCall 2 F__law_list [] (eCons (eVm 0) (eCons (eFz (eLc [4] (iSeq (eOp oIx (eV 2) (eC (.int 0)))) (bNm 4) tYesD (eCall 2 F__law_list [] (eCons (eVm 0) (eCons (eVm 4) eNil))))) eNil))))
    (sRet (eMake "Pair" 4 F_Pair___init__ [] (eCons (eMake "Figures" 2 F_Figures___init__ [] (eCons (eV 1) eNil)) (eCons (eV 3) (eCons (eCall 2 F__law_list [] (eCons (eVm 0) (eCons (eFz (eLc [4] (iSeq (eOp oIx (eV 2) (eC (.int 1)))) (bNm 4) tYesD (eCall 2 F__law_list [] (eCons (eVm 0) (eCons (eVm 4) eNil))))) eNil))) eNil))))))
def F__law_placed : Fn := runF 4 (sRet (eFz (eOn oPlus (eFz (eOn oPlus (eFz (eOn oTimes (eTup (eCons (eCall 2 F__law_num [] (eCons (eVm 0) (eCons (eC (.int 0)) eNil))) eNil)) (eV 2))) (eBi kTup (eCons (eV 1) eNil)))) (eFz (eOn oTimes (eTup (eCons (eCall 2 F__law_num [] (eCons (eVm 0) (eCons (eC (.int 0)) eNil))) eNil)) (eOp oSub (eOp oSub (eV 3) (eV 2)) (eBi kLen (eCons (eV 1) eNil))))))))
def F__law_cells : Fn := runF 10 (sSeq (sSet 2 (eBi kLen (eCons (eOp oIx (eV 1) (eC (.int 0))) eNil)))
    (sSeq (sSet 3 (eBi kLen (eCons (eOp oIx (eOp oIx (eV 1) (eC (.int 0))) (eC (.int 0))) eNil)))
    (sSeq (sSet 4 (eLst eNil))
    (sSeq (sFor (iRg rg1 (eCons (eV 2) eNil)) (bNm 5) (sFor (iRg rg1 (eCons (eV 3) eNil)) (bNm 6) (sIf (eOr (eNot (eTru (eCall 2 F__law_zero [] (eCons (eVm 0) (eCons (eOp oIx (eOp oIx (eOp oIx (eV 1) (eC (.int 0))) (eV 5)) (eV 6)) eNil))))) (eNot (eTru (eCall 2 F__law_zero [] (eCons (eVm 0) (eCons (eOp oIx (eOp oIx (eOp oIx (eV 1) (eC (.int 1))) (eV 5)) (eV 6)) eNil)))))) (sSeq (sSet 7 (eBi kTup (eCons (eFz (eLc [8] (iRg rg1 (eCons (eV 2) eNil)) (bNm 8) tYesD (eCall 2 F__law_num [] (eCons (eVm 0) (eCons (eBi kInt (eCons (eOp oEq (eV 8) (eV 5)) eNil)) eNil))))) eNil)))
    (sSeq (sSet 9 (eBi kTup (eCons (eFz (eLc [8] (iRg rg1 (eCons (eV 3) eNil)) (bNm 8) tYesD (eCall 2 F__law_num [] (eCons (eVm 0) (eCons (eBi kInt (eCons (eOp oEq (eV 8) (eV 6)) eNil)) eNil))))) eNil)))
    (sApp (pV 4) (eTup (eCons (eV 7) (eCons (eV 9) (eCons (eOp oIx (eOp oIx (eOp oIx (eV 1) (eC (.int 0))) (eV 5)) (eV 6)) (eCons (eOp oIx (eOp oIx (eOp oIx (eV 1) (eC (.int 1))) (eV 5)) (eV 6)) eNil)))))))) sNil)))
    (sFrz 4 (sRet (eBi kTup (eCons (eV 4) eNil))))))))
def F__law_plain : Fn := runF 8 (sSeq (sSet 2 (eCall 3 F__law_size [] (eCons (eVm 0) (eCons (eVm 1) (eCons (eC (.int 5)) eNil)))))
    (sSeq (sSet 3 (eCall 3 F__law_size [] (eCons (eVm 0) (eCons (eVm 1) (eCons (eC (.int 5)) eNil)))))
    (sSeq (sSet 4 (eLst (eCons (eCall 4 F__law_free [] (eCons (eVm 0) (eCons (eVm 1) (eCons (eVm 2) (eCons (eVm 3) eNil))))) (eCons (eCall 4 F__law_free [] (eCons (eVm 0) (eCons (eVm 1) (eCons (eVm 2) (eCons (eVm 3) eNil))))) eNil))))
    (sSeq (sIf (eT (eOp oGt (eCall 2 F__law_take [] (eCons (eVm 0) (eCons (eC (.int 3)) eNil))) (eC (.int 0)))) (sFor (iRg rg1 (eCons (eOp oMul (eV 2) (eV 3)) eNil)) (bNm 5) (sSeq (sIf (eT (eOp oEq (eCall 2 F__law_take [] (eCons (eVm 0) (eCons (eC (.int 3)) eNil))) (eC (.int 0)))) (sSt (pIx (pIx (pV 4) (eC (.int 0))) (eOp oDiv (eV 5) (eV 3))) (eOp oMod (eBi kInt (eCons (eV 5) eNil)) (eV 3)) (eCall 2 F__law_num [] (eCons (eVm 1) (eCons (eC (.int 0)) eNil)))) sNil)
    (sIf (eT (eOp oEq (eCall 2 F__law_take [] (eCons (eVm 0) (eCons (eC (.int 3)) eNil))) (eC (.int 0)))) (sSt (pIx (pIx (pV 4) (eC (.int 1))) (eOp oDiv (eV 5) (eV 3))) (eOp oMod (eBi kInt (eCons (eV 5) eNil)) (eV 3)) (eCall 2 F__law_num [] (eCons (eVm 1) (eCons (eC (.int 0)) eNil)))) sNil))) sNil)
    (sSeq (sFrz 4 (sSet 6 (eCall 1 F_plain_program [] (eCons (eCall 3 F__law_passed_pair [] (eCons (eVm 0) (eCons (eVm 1) (eCons (eVm 4) eNil)))) eNil))))
    (sSeq (sSet 7 (eCall 4 F__law_products [] (eCons (eVm 1) (eCons (eVm 6) (eCons (eVm 2) (eCons (eVm 3) eNil))))))
    (sRet (eB (eAnd (eT (eOp oNotN (eV 7) (eC .non))) (eAnd (eT (eCall 2 (F__law_exact 5) [] (eCons (eVm 7) (eCons (eCall 2 F__law_cells [] (eCons (eVm 1) (eCons (eVm 4) eNil))) eNil)))) (eT (eCall 3 F__law_right [] (eCons (eVm 1) (eCons (eVm 7) (eCons (eVm 4) eNil)))))))))))))))
def F__law_free_program : Fn := runF 11 (sSeq (sSet 3 (eOp oAdd (eC (.int 1)) (eCall 2 F__law_take [] (eCons (eVm 0) (eCons (eVm 2) eNil)))))
    (sSeq (sSet 4 (eOp oAdd (eC (.int 1)) (eCall 2 F__law_take [] (eCons (eVm 0) (eCons (eVm 2) eNil)))))
    (sSeq (sSet 5 (eLst eNil))
    (sSeq (sFor (iRg rg1 (eCons (eCall 2 F__law_take [] (eCons (eVm 0) (eCons (eC (.int 5)) eNil))) eNil)) (bNm 6) (sSeq (sSet 7 (eBi kTup (eCons (eFz (eLc [8] (iRg rg1 (eCons (eV 3) eNil)) (bNm 8) tYesD (eCall 2 F__law_number [] (eCons (eVm 0) (eCons (eVm 1) eNil))))) eNil)))
    (sSeq (sSet 9 (eBi kTup (eCons (eFz (eLc [10] (iRg rg1 (eCons (eV 4) eNil)) (bNm 10) tYesD (eCall 2 F__law_number [] (eCons (eVm 0) (eCons (eVm 1) eNil))))) eNil)))
    (sApp (pV 5) (eTup (eCons (eV 7) (eCons (eV 9) (eCons (eCall 2 F__law_number [] (eCons (eVm 0) (eCons (eVm 1) eNil))) (eCons (eCall 2 F__law_number [] (eCons (eVm 0) (eCons (eVm 1) eNil))) eNil)))))))))
    (sFrz 5 (sRet (eFz (eLst (eCons (eV 3) (eCons (eV 4) (eCons (eBi kTup (eCons (eV 5) eNil)) eNil)))))))))))
def F__law_corner_due : Fn := runF 12 (sSeq (sSet 2 (eBi kSum (eCons (eFz (eLc [3] (iSeq (eV 1)) (bNm 3) tYesD (eOp oIx (eV 3) (eC (.int 0))))) eNil)))
    (sSeq (sSet 4 (eBi kSum (eCons (eFz (eLc [3] (iSeq (eV 1)) (bNm 3) tYesD (eOp oIx (eV 3) (eC (.int 1))))) eNil)))
    (sSeq (sSet 5 (eLst eNil))
    (sSeq (sSet 6 (eC (.int 0)))
    (sSeq (sSet 7 (eC (.int 0)))
    (sSeq (sFor (iSeq (eV 1)) (bNm 3) (sSeq (sFor (iSeq (eOp oIx (eV 3) (eC (.int 2)))) (bTp [(bNm 8), (bNm 9), (bNm 10), (bNm 11)]) (sApp (pV 5) (eTup (eCons (eCall 4 F__law_placed [] (eCons (eVm 0) (eCons (eVm 8) (eCons (eVm 6) (eCons (eVm 2) eNil))))) (eCons (eCall 4 F__law_placed [] (eCons (eVm 0) (eCons (eVm 9) (eCons (eVm 7) (eCons (eVm 4) eNil))))) (eCons (eV 10) (eCons (eV 11) eNil)))))))
    (sSeq (sSet 6 (eOp oAdd (eV 6) (eOp oIx (eV 3) (eC (.int 0)))))
    (sSet 7 (eOp oAdd (eV 7) (eOp oIx (eV 3) (eC (.int 1))))))))
    (sFrz 5 (sRet (eBi kTup (eCons (eV 5) eNil))))))))))
def F__law_asked : Fn := runF 2 (sTry (sRet (eCall 1 F_programs_beside [] (eCons (eVm 0) eNil))) [⟨(msOf [("BadFigures", false), ("BadTable", false), ("BadLetters", false), ("BadPair", false), ("Unlike", false), ("BadProgram", false), ("BadMany", true)]), some 1, (sRet (eFz (eLst (eCons (eC (.str "many")) (eCons (eXf ["BadMany"] 1 "most") (eCons (eXi (msOf [("BadFigures", true), ("BadTable", true), ("BadLetters", true), ("BadPair", true), ("Unlike", true), ("BadProgram", true), ("BadMany", true)]) 1) eNil))))))⟩, ⟨(msOf [("BadFigures", false), ("BadTable", false), ("BadLetters", false), ("BadPair", false), ("Unlike", true), ("BadProgram", false), ("BadMany", false)]), some 1, (sRet (eFz (eLst (eCons (eC (.str "unlike")) (eCons (eXi (msOf [("BadFigures", true), ("BadTable", true), ("BadLetters", true), ("BadPair", true), ("Unlike", true), ("BadProgram", true), ("BadMany", true)]) 1) eNil)))))⟩, ⟨(msOf [("BadFigures", false), ("BadTable", false), ("BadLetters", false), ("BadPair", false), ("Unlike", false), ("BadProgram", true), ("BadMany", false)]), some 1, (sRet (eFz (eLst (eCons (eC (.str "program")) (eCons (eXf ["BadTable", "BadLetters", "BadProgram"] 1 "index") (eCons (eXf ["BadTable", "BadLetters", "BadPair", "BadProgram"] 1 "what") eNil))))))⟩])
def F__law_beside : Fn := runF 12 (sSeq (sSet 3 (eFz (eLc [4] (iRg rg1 (eCons (eOp oAdd (eC (.int 1)) (eCall 2 F__law_take [] (eCons (eVm 0) (eCons (eC (.int 5)) eNil)))) eNil)) (bNm 4) tYesD (eCall 3 F__law_free_program [] (eCons (eVm 0) (eCons (eVm 1) (eCons (eC (.int 2)) eNil)))))))
    (sSeq (sSet 5 (eFz (eLc [6] (iSeq (eV 3)) (bNm 6) tYesD (eMake "Program" 5 F_Program___init__ [] (eCons (eV 2) (eCons (eOp oIx (eV 6) (eC (.int 0))) (eCons (eOp oIx (eV 6) (eC (.int 1))) (eCons (eOp oIx (eV 6) (eC (.int 2))) eNil))))))))
    (sSeq (sSet 7 (eBi kSum (eCons (eFz (eLc [6] (iSeq (eV 3)) (bNm 6) tYesD (eOp oIx (eV 6) (eC (.int 0))))) eNil)))
    (sSeq (sSet 8 (eBi kSum (eCons (eFz (eLc [6] (iSeq (eV 3)) (bNm 6) tYesD (eOp oIx (eV 6) (eC (.int 1))))) eNil)))
    (sSeq (sSet 9 (eIf (eT (eOp oGt (eV 1) (eC (.int 0)))) (eBi kMin2 (eCons (eC (.int 5)) (eCons (eV 1) eNil))) (eC (.int 5))))
    (sSeq (sSet 10 (eCall 1 F__law_asked [] (eCons (eCall 2 F__law_list [] (eCons (eVm 0) (eCons (eVm 5) eNil))) eNil)))
    (sSeq (sIf (eT (eOp oGt (eV 7) (eV 9))) (sRet (eOp oEq (eV 10) (eFz (eLst (eCons (eC (.str "program")) (eCons (eC (.int 0)) (eCons (eC (.str "rows")) eNil))))))) sNil)
    (sSeq (sIf (eT (eOp oGt (eV 8) (eV 9))) (sRet (eOp oEq (eV 10) (eFz (eLst (eCons (eC (.str "program")) (eCons (eC (.int 0)) (eCons (eC (.str "columns")) eNil))))))) sNil)
    (sSeq (sIf (eTru (eIs "list" (eV 10))) (sRet (eC (.bl false))) sNil)
    (sSeq (sSet 11 (eCall 4 F__law_products [] (eCons (eVm 1) (eCons (eVm 10) (eCons (eVm 7) (eCons (eVm 8) eNil))))))
    (sSeq (sIf (eOr (eT (eOp oIsN (eV 11) (eC .non))) (eNot (eTru (eCall 2 (F__law_exact 5) [] (eCons (eVm 11) (eCons (eCall 2 F__law_corner_due [] (eCons (eVm 1) (eCons (eVm 3) eNil))) eNil)))))) (sRet (eC (.bl false))) sNil)
    (sRet (eOp oEq (eFz (eLc [4] (iRg rg1 (eCons (eBi kLen (eCons (eV 3) eNil)) eNil)) (bNm 4) (eT (eOp oNe (eAt (eOp oIx (eV 5) (eV 4)) "products") (eOp oIx (eOp oIx (eV 3) (eV 4)) (eC (.int 2))))) (eV 4))) (eFz (eLst eNil)))))))))))))))
def F__law_refused : Fn := runF 11 (sSeq (sSet 3 (eMake "Program" 5 F_Program___init__ [] (eCons (eV 2) (eCons (eC (.int 1)) (eCons (eC (.int 1)) (eCons (eTup eNil) eNil))))))
    (sSeq (sSet 4 (eOp oIx (eTup (eCons (eFz (eLst eNil)) (eCons (eTup eNil) (eCons (eFz (eOn oTimes (eFz (eLst (eCons (eV 3) eNil))) (eC (.int 6)))) (eCons (eC .non) (eCons (eC (.int 3)) eNil)))))) (eCall 2 F__law_take [] (eCons (eVm 0) (eCons (eC (.int 5)) eNil)))))
    (sSeq (sIf (eT (eOp oNe (eCall 1 F__law_asked [] (eCons (eVm 4) eNil)) (eFz (eLst (eCons (eC (.str "many")) (eCons (eC (.int 5)) (eCons (eC (.bl true)) eNil))))))) (sRet (eC (.bl false))) sNil)
    (sSeq (sSet 5 (eMake "Program" 5 F_Program___init__ [] (eCons (eMake "Figures" 2 F_Figures___init__ [] (eCons (eIf (eT (eOp oEq (eV 1) (eC (.int 0)))) (eC (.int 7)) (eC (.int 0))) eNil)) (eCons (eC (.int 1)) (eCons (eC (.int 1)) (eCons (eTup eNil) eNil))))))
    (sSeq (sSet 6 (eFz (eOn oPlus (eFz (eOn oPlus (eFz (eOn oTimes (eFz (eLst (eCons (eV 3) eNil))) (eOp oAdd (eC (.int 1)) (eCall 2 F__law_take [] (eCons (eVm 0) (eCons (eC (.int 3)) eNil)))))) (eFz (eLst (eCons (eV 5) eNil))))) (eFz (eOn oTimes (eFz (eLst (eCons (eV 3) eNil))) (eCall 2 F__law_take [] (eCons (eVm 0) (eCons (eC (.int 2)) eNil))))))))
    (sSeq (sIf (eT (eOp oNe (eCall 1 F__law_asked [] (eCons (eVm 6) eNil)) (eFz (eLst (eCons (eC (.str "unlike")) (eCons (eC (.bl true)) eNil)))))) (sRet (eC (.bl false))) sNil)
    (sSeq (sSet 7 (eTup (eCons (eTup (eCons (eAtV 2 "one") eNil)) (eCons (eTup (eCons (eAtV 2 "one") eNil)) (eCons (eAtV 2 "one") (eCons (eAtV 2 "zero") eNil))))))
    (sSeq (sSet 8 (eFz (eLc [9] (iRg rg1 (eCons (eC (.int 2)) eNil)) (bNm 9) tYesD (eMake "Program" 5 F_Program___init__ [] (eCons (eV 2) (eCons (eC (.int 1)) (eCons (eC (.int 1)) (eCons (eFz (eOn oTimes (eFz (eLst (eCons (eV 7) eNil))) (eOp oAdd (eC (.int 15)) (eV 9)))) eNil))))))))
    (sSeq (sIf (eT (eOp oNe (eCall 1 F__law_asked [] (eCons (eFz (eLst (eCons (eOp oIx (eV 8) (eC (.int 0))) (eCons (eOp oIx (eV 8) (eC (.int 1))) eNil)))) eNil)) (eFz (eLst (eCons (eC (.str "program")) (eCons (eC (.int 0)) (eCons (eC (.str "many")) eNil))))))) (sRet (eC (.bl false))) sNil)
    (sSeq (sSet 10 (eCall 1 F__law_asked [] (eCons (eFz (eLst (eCons (eOp oIx (eV 8) (eC (.int 0))) (eCons (eOp oIx (eV 8) (eC (.int 0))) eNil)))) eNil)))
    (sRet (eB (eAnd (eT (eB (eNot (eT (eIs "list" (eV 10)))))) (eAnd (eT (eOp oEq (eLenI "Program" F_Program___len__ (eV 10)) (eC (.int 30)))) (eT (eCall 2 (F__law_exact 5) [] (eCons (eAtV 10 "rows") (eCons (eC (.int 2)) eNil))))))))))))))))))
def B_law : SF := (sSeq (sFor (iRg rg1 (eCons (eC (.int 2)) eNil)) (bNm 2) (sSeq (sSet 3 (eCall 1 F__law_figures [] (eCons (eVm 1) eNil)))
    (sSeq (sSet 4 (eMake "Figures" 2 F_Figures___init__ [] (eCons (eV 3) eNil)))
    (sIf (eOr (eNot (eTru (eCall 2 F__law_plain [] (eCons (eVm 1) (eCons (eVm 3) eNil))))) (eOr (eNot (eTru (eCall 3 F__law_beside [] (eCons (eVm 1) (eCons (eVm 3) (eCons (eVm 4) eNil)))))) (eNot (eTru (eCall 3 F__law_refused [] (eCons (eVm 1) (eCons (eVm 3) (eCons (eVm 4) eNil)))))))) (sRet (eC (.bl false))) sNil))))
    (sRet (eC (.bl true))))
end N71
namespace N71
open PySem PySem.Spec PyProof.Rows L2 Fw
def top (i : Nat) : Stmt := PySem.Challenge.pw_sparedproducts_k71_whole_plain_programs.main.body.getD i (.Pass ⟨0, 0, 0, 0⟩)
def fn0 : List He.DefD := [⟨("is_whole", none), "is_whole", "is_whole", defArgs (top 12), defBody (top 12), defScope (top 12), [.non, .non], []⟩,
  ⟨("is_sequence", none), "is_sequence", "is_sequence", defArgs (top 13), defBody (top 13), defScope (top 13), [], []⟩,
  ⟨("is_ratio", none), "is_ratio", "is_ratio", defArgs (top 14), defBody (top 14), defScope (top 14), [], []⟩,
  ⟨("in_lowest_terms", none), "in_lowest_terms", "in_lowest_terms", defArgs (top 15), defBody (top 15), defScope (top 15), [], []⟩,
  ⟨("ratio_times", none), "ratio_times", "ratio_times", defArgs (top 16), defBody (top 16), defScope (top 16), [], []⟩,
  ⟨("over_one_bottom", none), "over_one_bottom", "over_one_bottom", defArgs (top 18), defBody (top 18), defScope (top 18), [], []⟩,
  ⟨("summed_wholes", none), "summed_wholes", "summed_wholes", defArgs (top 19), defBody (top 19), defScope (top 19), [], []⟩,
  ⟨("zero_row", none), "zero_row", "zero_row", defArgs (top 21), defBody (top 21), defScope (top 21), [], []⟩,
  ⟨("unit_row", none), "unit_row", "unit_row", defArgs (top 22), defBody (top 22), defScope (top 22), [], []⟩,
  ⟨("Figures", some "times"), "times", "Figures.times", defArgs (inClass (top 54) 4), defBody (inClass (top 54) 4), defScope (inClass (top 54) 4), [], []⟩,
  ⟨("row_scaled", none), "row_scaled", "row_scaled", defArgs (top 23), defBody (top 23), defScope (top 23), [], []⟩,
  ⟨("summed_lines", none), "summed_lines", "summed_lines", defArgs (top 26), defBody (top 26), defScope (top 26), [], []⟩,
  ⟨("whole_line", none), "whole_line", "whole_line", defArgs (top 25), defBody (top 25), defScope (top 25), [], []⟩,
  ⟨("summed_products", none), "summed_products", "summed_products", defArgs (top 24), defBody (top 24), defScope (top 24), [], []⟩,
  ⟨("column_led", none), "column_led", "column_led", defArgs (top 27), defBody (top 27), defScope (top 27), [], []⟩]
def fn1 : List He.DefD := [⟨("flipped_table", none), "flipped_table", "flipped_table", defArgs (top 30), defBody (top 30), defScope (top 30), [], []⟩,
  ⟨("row_times", none), "row_times", "row_times", defArgs (top 29), defBody (top 29), defScope (top 29), [], []⟩,
  ⟨("table_times", none), "table_times", "table_times", defArgs (top 28), defBody (top 28), defScope (top 28), [], []⟩,
  ⟨("fits_count", none), "fits_count", "fits_count", defArgs (top 33), defBody (top 33), defScope (top 33), [], []⟩,
  ⟨("Figures", some "is_number"), "is_number", "Figures.is_number", defArgs (inClass (top 54) 10), defBody (inClass (top 54) 10), defScope (inClass (top 54) 10), [], []⟩,
  ⟨("all_are_numbers", none), "all_are_numbers", "all_are_numbers", defArgs (top 35), defBody (top 35), defScope (top 35), [], []⟩,
  ⟨("check_table", none), "check_table", "check_table", defArgs (top 34), defBody (top 34), defScope (top 34), [.non, .non], []⟩,
  ⟨("check_letters", none), "check_letters", "check_letters", defArgs (top 36), defBody (top 36), defScope (top 36), [], []⟩,
  ⟨("check_width", none), "check_width", "check_width", defArgs (top 38), defBody (top 38), defScope (top 38), [], []⟩,
  ⟨("Pair", some "__init__"), "__init__", "Pair.__init__", defArgs (inClass (top 39) 0), defBody (inClass (top 39) 0), defScope (inClass (top 39) 0), [], []⟩,
  ⟨("Pair", some "answers"), "answers", "Pair.answers", defArgs (inClass (top 39) 8), defBody (inClass (top 39) 8), defScope (inClass (top 39) 8), [], []⟩,
  ⟨("is_side", none), "is_side", "is_side", defArgs (top 42), defBody (top 42), defScope (top 42), [], []⟩,
  ⟨("is_number_row", none), "is_number_row", "is_number_row", defArgs (top 43), defBody (top 43), defScope (top 43), [], []⟩,
  ⟨("check_product", none), "check_product", "check_product", defArgs (top 44), defBody (top 44), defScope (top 44), [], []⟩,
  ⟨("Program", some "__init__"), "__init__", "Program.__init__", defArgs (inClass (top 45) 0), defBody (inClass (top 45) 0), defScope (inClass (top 45) 0), [], []⟩]
def fn2 : List He.DefD := [⟨("Program", some "__len__"), "__len__", "Program.__len__", defArgs (inClass (top 45) 2), defBody (inClass (top 45) 2), defScope (inClass (top 45) 2), [], []⟩,
  ⟨("Program", some "__iter__"), "__iter__", "Program.__iter__", defArgs (inClass (top 45) 3), defBody (inClass (top 45) 3), defScope (inClass (top 45) 3), [], []⟩,
  ⟨("answer_table", none), "answer_table", "answer_table", defArgs (top 46), defBody (top 46), defScope (top 46), [], []⟩,
  ⟨("Program", some "pair"), "pair", "Program.pair", defArgs (inClass (top 45) 5), defBody (inClass (top 45) 5), defScope (inClass (top 45) 5), [], []⟩,
  ⟨("plain_program", none), "plain_program", "plain_program", defArgs (top 48), defBody (top 48), defScope (top 48), [], []⟩,
  ⟨("placed_row", none), "placed_row", "placed_row", defArgs (top 49), defBody (top 49), defScope (top 49), [], []⟩,
  ⟨("corner_products", none), "corner_products", "corner_products", defArgs (top 50), defBody (top 50), defScope (top 50), [], []⟩,
  ⟨("Figures", some "__eq__"), "__eq__", "Figures.__eq__", defArgs (inClass (top 54) 1), defBody (inClass (top 54) 1), defScope (inClass (top 54) 1), [], []⟩,
  ⟨("programs_beside", none), "programs_beside", "programs_beside", defArgs (top 51), defBody (top 51), defScope (top 51), [], []⟩,
  ⟨("Figures", some "__init__"), "__init__", "Figures.__init__", defArgs (inClass (top 54) 0), defBody (inClass (top 54) 0), defScope (inClass (top 54) 0), [], []⟩,
  ⟨("_law_hand", none), "_law_hand", "_law_hand", defArgs (top 56), defBody (top 56), defScope (top 56), [], []⟩,
  ⟨("_law_mixed", none), "_law_mixed", "_law_mixed", defArgs (top 57), defBody (top 57), defScope (top 57), [], []⟩,
  ⟨("_law_take", none), "_law_take", "_law_take", defArgs (top 58), defBody (top 58), defScope (top 58), [], []⟩,
  ⟨("_law_gcd", none), "_law_gcd", "_law_gcd", defArgs (top 59), defBody (top 59), defScope (top 59), [], []⟩,
  ⟨("_law_ratio", none), "_law_ratio", "_law_ratio", defArgs (top 60), defBody (top 60), defScope (top 60), [], []⟩]
def fn3 : List He.DefD := [⟨("_law_num", none), "_law_num", "_law_num", defArgs (top 61), defBody (top 61), defScope (top 61), [], []⟩,
  ⟨("_law_plus", none), "_law_plus", "_law_plus", defArgs (top 62), defBody (top 62), defScope (top 62), [], []⟩,
  ⟨("_law_times", none), "_law_times", "_law_times", defArgs (top 63), defBody (top 63), defScope (top 63), [], []⟩,
  ⟨("_law_zero", none), "_law_zero", "_law_zero", defArgs (top 64), defBody (top 64), defScope (top 64), [], []⟩,
  ⟨("_law_blank", none), "_law_blank", "_law_blank", defArgs (top 65), defBody (top 65), defScope (top 65), [], []⟩,
  ⟨("_law_summed", none), "_law_summed", "_law_summed", defArgs (top 66), defBody (top 66), defScope (top 66), [], []⟩,
  ⟨("_law_figures", none), "_law_figures", "_law_figures", defArgs (top 67), defBody (top 67), defScope (top 67), [], []⟩,
  ⟨("_law_number", none), "_law_number", "_law_number", defArgs (top 68), defBody (top 68), defScope (top 68), [], []⟩,
  ⟨("_law_size", none), "_law_size", "_law_size", defArgs (top 69), defBody (top 69), defScope (top 69), [], []⟩,
  ⟨("_law_free", none), "_law_free", "_law_free", defArgs (top 70), defBody (top 70), defScope (top 70), [], []⟩,
  ⟨("_law_exact", none), "_law_exact", "_law_exact", defArgs (top 71), defBody (top 71), defScope (top 71), [], []⟩,
  ⟨("_law_list", none), "_law_list", "_law_list", defArgs (top 72), defBody (top 72), defScope (top 72), [], []⟩,
  ⟨("_law_numbers", none), "_law_numbers", "_law_numbers", defArgs (top 74), defBody (top 74), defScope (top 74), [], []⟩,
  ⟨("_law_products", none), "_law_products", "_law_products", defArgs (top 73), defBody (top 73), defScope (top 73), [], []⟩,
  ⟨("_law_right", none), "_law_right", "_law_right", defArgs (top 75), defBody (top 75), defScope (top 75), [], []⟩]
def fn4 : List He.DefD := [⟨("_law_passed_pair", none), "_law_passed_pair", "_law_passed_pair", defArgs (top 76), defBody (top 76), defScope (top 76), [], []⟩,
  ⟨("_law_placed", none), "_law_placed", "_law_placed", defArgs (top 77), defBody (top 77), defScope (top 77), [], []⟩,
  ⟨("_law_cells", none), "_law_cells", "_law_cells", defArgs (top 78), defBody (top 78), defScope (top 78), [], []⟩,
  ⟨("_law_plain", none), "_law_plain", "_law_plain", defArgs (top 79), defBody (top 79), defScope (top 79), [], []⟩,
  ⟨("_law_free_program", none), "_law_free_program", "_law_free_program", defArgs (top 80), defBody (top 80), defScope (top 80), [], []⟩,
  ⟨("_law_corner_due", none), "_law_corner_due", "_law_corner_due", defArgs (top 81), defBody (top 81), defScope (top 81), [], []⟩,
  ⟨("_law_asked", none), "_law_asked", "_law_asked", defArgs (top 82), defBody (top 82), defScope (top 82), [], []⟩,
  ⟨("_law_beside", none), "_law_beside", "_law_beside", defArgs (top 83), defBody (top 83), defScope (top 83), [], []⟩,
  ⟨("_law_refused", none), "_law_refused", "_law_refused", defArgs (top 84), defBody (top 84), defScope (top 84), [], []⟩,
  ⟨("law", none), "law", "law", defArgs (top 85), defBody (top 85), defScope (top 85), [], []⟩,
  ⟨("BadFigures", some "__init__"), "__init__", "BadFigures.__init__", defArgs (inClass (top 4) 0), defBody (inClass (top 4) 0), defScope (inClass (top 4) 0), [], []⟩,
  ⟨("BadTable", some "__init__"), "__init__", "BadTable.__init__", defArgs (inClass (top 5) 0), defBody (inClass (top 5) 0), defScope (inClass (top 5) 0), [], []⟩,
  ⟨("BadLetters", some "__init__"), "__init__", "BadLetters.__init__", defArgs (inClass (top 6) 0), defBody (inClass (top 6) 0), defScope (inClass (top 6) 0), [], []⟩,
  ⟨("BadPair", some "__init__"), "__init__", "BadPair.__init__", defArgs (inClass (top 7) 0), defBody (inClass (top 7) 0), defScope (inClass (top 7) 0), [], []⟩,
  ⟨("BadProgram", some "__init__"), "__init__", "BadProgram.__init__", defArgs (inClass (top 9) 0), defBody (inClass (top 9) 0), defScope (inClass (top 9) 0), [], []⟩]
def fn5 : List He.DefD := [⟨("BadMany", some "__init__"), "__init__", "BadMany.__init__", defArgs (inClass (top 10) 0), defBody (inClass (top 10) 0), defScope (inClass (top 10) 0), [], []⟩]
def fns : List He.DefD := fn0 ++ fn1 ++ fn2 ++ fn3 ++ fn4 ++ fn5
def gls : List Str := (["is_whole", "is_sequence", "is_ratio", "in_lowest_terms", "ratio_times", "over_one_bottom", "summed_wholes", "zero_row", "unit_row", "row_scaled", "summed_products", "whole_line", "summed_lines", "column_led", "table_times", "row_times", "flipped_table", "fits_count", "check_table", "all_are_numbers", "check_letters", "check_width", "is_side", "is_number_row", "check_product"] : List Str) ++ (["answer_table", "plain_program", "placed_row", "corner_products", "programs_beside", "_law_hand", "_law_mixed", "_law_take", "_law_gcd", "_law_ratio", "_law_num", "_law_plus", "_law_times", "_law_zero", "_law_blank", "_law_summed", "_law_figures", "_law_number", "_law_size", "_law_free", "_law_exact", "_law_list", "_law_products", "_law_numbers", "_law_right"] : List Str) ++ (["_law_passed_pair", "_law_placed", "_law_cells", "_law_plain", "_law_free_program", "_law_corner_due", "_law_asked", "_law_beside", "_law_refused", "law", "OFFERED", "PairError", "BadFigures", "BadTable", "BadLetters", "BadPair", "Unlike", "BadProgram", "BadMany", "Pair", "Program", "Figures"] : List Str)
def tb : Tb where
  fn := fns
  gl := gls
  frs := (["abs", "all", "bool", "enumerate", "int", "isinstance", "iter", "len", "list", "max", "min", "range", "str", "sum", "tuple", "zip"] : List Str)
  nI := [("MOST_ROWS", 5), ("MOST_PRODUCTS", 30)]
  nS := []
  nT := [("OFFERED", [.int 0, .int 2, .int 3, .int 5, .int 7, .int 11, .int 13])]
  cls := [⟨"Pair", ["figures", "first", "second", "rows", "columns"], ["answers"]⟩, ⟨"Program", ["figures", "rows", "columns", "products"], ["pair"]⟩, ⟨"Figures", ["prime", "zero", "one"], ["times", "is_number"]⟩]
  bas := "PairError"
  errs := ["BadFigures", "BadTable", "BadLetters", "BadPair", "Unlike", "BadProgram", "BadMany"]
  bare := ["Unlike"]
  ini := [("BadFigures", ["prime"]), ("BadTable", ["index", "what"]), ("BadLetters", ["what", "index"]), ("BadPair", ["what"]), ("BadProgram", ["index", "what"]), ("BadMany", ["most"])]
  exm := [("BadFigures", "BadProgram", false), ("BadTable", "BadProgram", false), ("BadLetters", "BadProgram", false), ("BadPair", "BadProgram", false), ("Unlike", "BadProgram", false), ("BadProgram", "BadProgram", true), ("BadMany", "BadProgram", false), ("BadFigures", "Unlike", false), ("BadTable", "Unlike", false), ("BadLetters", "Unlike", false), ("BadPair", "Unlike", false), ("Unlike", "Unlike", true), ("BadProgram", "Unlike", false), ("BadMany", "Unlike", false), ("BadFigures", "BadMany", false), ("BadTable", "BadMany", false), ("BadLetters", "BadMany", false), ("BadPair", "BadMany", false), ("Unlike", "BadMany", false), ("BadProgram", "BadMany", false), ("BadMany", "BadMany", true)]
  kit := [("Figures", "Figures", true), ("BadFigures", "PairError", true), ("BadTable", "PairError", true), ("BadLetters", "PairError", true), ("BadPair", "PairError", true), ("Unlike", "PairError", true), ("BadProgram", "PairError", true), ("BadMany", "PairError", true)]
  spc := [("Program", "__len__"), ("Program", "__iter__"), ("Figures", "__eq__")]
  nes := ["Figures"]
  vcl := []
section
variable {P : Program} {w : World} {K : PySem.W.Frag} {mg : Str → Option Value} {base : Heap}
theorem tupOk_OFFERED (T : Fs tb K mg) : mg "OFFERED" = some (.ref (He.ga K "OFFERED")) ∧ ∀ ha G, Dq ⟨K, mg, none⟩ ha G (.ref (He.ga K "OFFERED")) (.tup tup_OFFERED) := ⟨T.gl 60 "OFFERED" rfl, fun ha G => .tup (T.tup 0 _ rfl G) (.cons (.int _) (.cons (.int _) (.cons (.int _) (.cons (.int _) (.cons (.int _) (.cons (.int _) (.cons (.int _) .nil)))))))⟩
theorem er_BadFigures (T : Fs tb K mg) : EA1 P w ⟨K, mg, none⟩ base "BadFigures" "prime" := by
  obtain ⟨fd, D⟩ : ∃ fd, FunD K "__init__" "BadFigures.__init__" (defArgs (inClass (top 4) 0)) (defBody (inClass (top 4) 0)) (defScope (inClass (top 4) 0)) [] [] (He.ma K (He.ga K "BadFigures") "__init__") fd := T.says.def_ 70 rfl
  exact ea1 T 0 0 62 rfl rfl rfl (FunD.ok D (N := ["self", "prime"]) ⟨rfl, rfl, rfl, by decide +kernel, rfl, by decide +kernel, by decide +kernel⟩ (fun vs H Q E h => lenN h) (fun cdv A outer s H vs Q E hr h => ⟨_, PSs.nox (pss_one (ps_ost (pv 0) (pv 1))), Ky.rd1 rfl (T.er 0 _ rfl) (noatI T 0 rfl (by decide)) h⟩)) (FunD.bindsN D (fun _ _ _ _ _ _ us hl => match us, hl with | [_, _], _ => rfl))
theorem er_BadTable (T : Fs tb K mg) : EA2 P w ⟨K, mg, none⟩ base "BadTable" "index" "what" := by
  obtain ⟨fd, D⟩ : ∃ fd, FunD K "__init__" "BadTable.__init__" (defArgs (inClass (top 5) 0)) (defBody (inClass (top 5) 0)) (defScope (inClass (top 5) 0)) [] [] (He.ma K (He.ga K "BadTable") "__init__") fd := T.says.def_ 71 rfl
  exact ea2 T 1 1 63 rfl rfl rfl (FunD.ok D (N := ["self", "index", "what"]) ⟨rfl, rfl, rfl, by decide +kernel, rfl, by decide +kernel, by decide +kernel⟩ (fun vs H Q E h => lenN h) (fun cdv A outer s H vs Q E hr h => ⟨_, PSs.nox (pss_cons (ps_ost (pv 0) (pv 1)) (pss_one (ps_ost (pv 0) (pv 2)))), Ky.rd2 rfl (T.er 1 _ rfl) (noatI T 1 rfl (by decide)) (noatI T 1 rfl (by decide)) h⟩)) (FunD.bindsN D (fun _ _ _ _ _ _ us hl => match us, hl with | [_, _, _], _ => rfl))
theorem er_BadLetters (T : Fs tb K mg) : EA2 P w ⟨K, mg, none⟩ base "BadLetters" "what" "index" := by
  obtain ⟨fd, D⟩ : ∃ fd, FunD K "__init__" "BadLetters.__init__" (defArgs (inClass (top 6) 0)) (defBody (inClass (top 6) 0)) (defScope (inClass (top 6) 0)) [] [] (He.ma K (He.ga K "BadLetters") "__init__") fd := T.says.def_ 72 rfl
  exact ea2 T 2 2 64 rfl rfl rfl (FunD.ok D (N := ["self", "what", "index"]) ⟨rfl, rfl, rfl, by decide +kernel, rfl, by decide +kernel, by decide +kernel⟩ (fun vs H Q E h => lenN h) (fun cdv A outer s H vs Q E hr h => ⟨_, PSs.nox (pss_cons (ps_ost (pv 0) (pv 1)) (pss_one (ps_ost (pv 0) (pv 2)))), Ky.rd2 rfl (T.er 2 _ rfl) (noatI T 2 rfl (by decide)) (noatI T 2 rfl (by decide)) h⟩)) (FunD.bindsN D (fun _ _ _ _ _ _ us hl => match us, hl with | [_, _, _], _ => rfl))
theorem er_BadPair (T : Fs tb K mg) : EA1 P w ⟨K, mg, none⟩ base "BadPair" "what" := by
  obtain ⟨fd, D⟩ : ∃ fd, FunD K "__init__" "BadPair.__init__" (defArgs (inClass (top 7) 0)) (defBody (inClass (top 7) 0)) (defScope (inClass (top 7) 0)) [] [] (He.ma K (He.ga K "BadPair") "__init__") fd := T.says.def_ 73 rfl
  exact ea1 T 3 3 65 rfl rfl rfl (FunD.ok D (N := ["self", "what"]) ⟨rfl, rfl, rfl, by decide +kernel, rfl, by decide +kernel, by decide +kernel⟩ (fun vs H Q E h => lenN h) (fun cdv A outer s H vs Q E hr h => ⟨_, PSs.nox (pss_one (ps_ost (pv 0) (pv 1))), Ky.rd1 rfl (T.er 3 _ rfl) (noatI T 3 rfl (by decide)) h⟩)) (FunD.bindsN D (fun _ _ _ _ _ _ us hl => match us, hl with | [_, _], _ => rfl))
theorem er_Unlike (T : Fs tb K mg) : EA0 ⟨K, mg, none⟩ "Unlike" := ea0 T 4 0 66 rfl rfl rfl
theorem er_BadProgram (T : Fs tb K mg) : EA2 P w ⟨K, mg, none⟩ base "BadProgram" "index" "what" := by
  obtain ⟨fd, D⟩ : ∃ fd, FunD K "__init__" "BadProgram.__init__" (defArgs (inClass (top 9) 0)) (defBody (inClass (top 9) 0)) (defScope (inClass (top 9) 0)) [] [] (He.ma K (He.ga K "BadProgram") "__init__") fd := T.says.def_ 74 rfl
  exact ea2 T 5 4 67 rfl rfl rfl (FunD.ok D (N := ["self", "index", "what"]) ⟨rfl, rfl, rfl, by decide +kernel, rfl, by decide +kernel, by decide +kernel⟩ (fun vs H Q E h => lenN h) (fun cdv A outer s H vs Q E hr h => ⟨_, PSs.nox (pss_cons (ps_ost (pv 0) (pv 1)) (pss_one (ps_ost (pv 0) (pv 2)))), Ky.rd2 rfl (T.er 5 _ rfl) (noatI T 4 rfl (by decide)) (noatI T 4 rfl (by decide)) h⟩)) (FunD.bindsN D (fun _ _ _ _ _ _ us hl => match us, hl with | [_, _, _], _ => rfl))
theorem er_BadMany (T : Fs tb K mg) : EA1 P w ⟨K, mg, none⟩ base "BadMany" "most" := by
  obtain ⟨fd, D⟩ : ∃ fd, FunD K "__init__" "BadMany.__init__" (defArgs (inClass (top 10) 0)) (defBody (inClass (top 10) 0)) (defScope (inClass (top 10) 0)) [] [] (He.ma K (He.ga K "BadMany") "__init__") fd := T.says.def_ 75 rfl
  exact ea1 T 6 5 68 rfl rfl rfl (FunD.ok D (N := ["self", "most"]) ⟨rfl, rfl, rfl, by decide +kernel, rfl, by decide +kernel, by decide +kernel⟩ (fun vs H Q E h => lenN h) (fun cdv A outer s H vs Q E hr h => ⟨_, PSs.nox (pss_one (ps_ost (pv 0) (pv 1))), Ky.rd1 rfl (T.er 6 _ rfl) (noatI T 5 rfl (by decide)) h⟩)) (FunD.bindsN D (fun _ _ _ _ _ _ us hl => match us, hl with | [_, _], _ => rfl))
theorem it_Program (T : Fs tb K mg) : ItA P w K mg (He.ga K "Program") (He.ma K (He.ga K "Program") "__iter__") "products" := by
  obtain ⟨fd, D⟩ : ∃ fd, FunD K "__iter__" "Program.__iter__" (defArgs (inClass (top 45) 3)) (defBody (inClass (top 45) 3)) (defScope (inClass (top 45) 3)) [] [] (He.ma K (He.ga K "Program") "__iter__") fd := T.says.def_ 31 rfl
  exact ⟨⟨fd, ["self"], fun B => FunD.ok D (N := ["self"]) ⟨rfl, rfl, rfl, by decide +kernel, rfl, by decide +kernel, by decide +kernel⟩ (fun vs H Q E h => len_it (Q := Q) (E := E) h) (fun cdv A outer s H vs Q E hr h => ⟨_, PSs.nox (pss_one (ps_ret (pe_callB Wi.call_iterT (by rfl) (T.fr 6 "iter" rfl) (by decide +kernel) (pa_cons (pe_fld (pv 0) rfl) pa_nil)))), rd_iter (N := ["self"]) (E := E) rfl h⟩), FunD.bindsN D (fun _ _ _ _ _ _ us hl => match us, hl with | [_], _ => rfl)⟩⟩
theorem scH : FnScope ["_law_script", "_law_total", "_law_cells_here", "_law_cell"] ["_law_script"] (defScope (top 56)) := ⟨rfl, rfl, rfl, by decide +kernel, rfl, by decide +kernel, by decide +kernel⟩
theorem ok_hand {fd : FuncData} {f : Addr} (T : Fs tb K mg) (F : FunD K "_law_hand" "_law_hand" (defArgs (top 56)) (defBody (top 56)) (defScope (top 56)) [] [] f fd) : FnOk P w K mg base CX0 1 f fd ["_law_script"] (spHand K) := by
  refine F.ok scH (fun vs H Q E h => ?_) (fun cdv A outer s H vs Q E hr h => ?_)
  · obtain ⟨a, ns, rfl, _⟩ := h
    rfl
  · obtain ⟨a, ns, rfl, hS, hlen, k⟩ := h
    refine ⟨_, PSs.nox (pss_cons (ps_set (i := 1) scH.nd rfl (Or.inl rfl) (pe_op op_add (pe_callB call_len (by rfl) (T.fr 7 "len" rfl) PySem.boot_len (pa_cons (pv 0) pa_nil)) pe_int))
      (pss_cons (ps_set (i := 2) scH.nd rfl (Or.inl rfl) (pe_lst pa_nil))
      (pss_cons (ps_for PassesOwn.never rfl (pi_list (pv 0)) (pg_name (i := 3) scH.nd rfl (Or.inl rfl))
        (pss_cons (ps_set (i := 1) scH.nd rfl (Or.inl rfl) (pe_op op_mod (pe_callTy call_int1 (by rfl) (T.fr 4 "int" rfl) PyProof.Rows.boot_int (pa_cons (pe_op op_add (pe_op op_mul (pv 1) pe_int) (pe_callTy call_int1 (by rfl) (T.fr 4 "int" rfl) PyProof.Rows.boot_int (pa_cons (pv 3) pa_nil))) pa_nil)) pe_int))
        (pss_one (ps_expr (pe_bm PySem.F.plainAttrs_list PySem.F.slot_list_append PySem.F.type_list_append mt_append (pv 2) (pa_cons (pe_callB call_abs (by rfl) (T.fr 0 "abs" rfl) (by decide +kernel) (pa_cons (pe_callTy call_int1 (by rfl) (T.fr 4 "int" rfl) PyProof.Rows.boot_int (pa_cons (pv 3) pa_nil)) pa_nil)) pa_nil))))))
      (pss_one (ps_ret (pe_lst (pa_cons (pv 2) (pa_cons pe_int (pa_cons pe_int (pa_cons (pv 1) pa_nil)))))))))), ?_⟩
    have hn2 : (ns.map V.int).length ≤ 63 := by rw [List.length_map]; exact hlen
    refine ⟨_, rfl, _, _, rfl, Or.inl ⟨_, hS, rfl⟩, _, _, rfl, rfl, Nat.zero_le _, fun c hc => ?_⟩
    have s0 : Same H (upd H c (.lst [])) := fun b o e => by
      rw [upd_ne (ne_of_none e hc)]
      exact e
    refine ⟨_, rfl, a, rfl, ⟨_, s0.seq hS⟩, for_list (K := K) (a := a) (xs := ns.map V.int) (fun i σ H2 => ∃ (cs : List Int) (t : Int) (v : Option V), σ = [some (.ref a), some (.int t), some (.ref c), v] ∧ Same H H2 ∧ H2 c = some (.lst (cs.map V.int)) ∧ (∀ z ∈ cs, 0 ≤ z) ∧ cs.length = i ∧ 0 ≤ t ∧ t < 2147483648)
      ⟨[], _, none, rfl, s0, upd_same, (fun z hz => nomatch hz), rfl, by omega, by omega⟩ (fun i σ H2 _ ⟨_, _, _, _, s2, _⟩ => s2.seq hS) ?_ ?_⟩
    · rintro i y σ H2 hi ⟨cs, t, v, rfl, s2, h2, hz, hk, t0, t1⟩
      obtain ⟨z, rfl⟩ : ∃ z, y = V.int z := by
        rw [List.getElem?_map] at hi
        cases e : ns[i]? with
        | none =>
          rw [e] at hi
          cases hi
        | some z =>
          rw [e] at hi
          exact ⟨z, (Option.some.inj hi).symm⟩
      have hil : i < (ns.map V.int).length := (List.getElem?_eq_some_iff.mp hi).1
      refine ⟨_, rfl, _, _, rfl, rfl, .inr ⟨by decide, by decide⟩, _, rfl, .inl ⟨_, rfl, _, _, rfl, rfl, .inl ⟨_, rfl, _, _, rfl, rfl, (by show (0 : Int) < 2147483563; decide), ?_⟩⟩⟩
      refine ⟨_, rfl, .inl ⟨rfl, _, SqL.of h2⟩, _, rfl, .inl ⟨_, rfl, _, rfl, c, _, _, rfl, rfl, h2, ?_, ?_⟩⟩
      · rw [List.length_map]
        exact small1000 (by omega)
      · refine ⟨cs ++ [if z < 0 then -z else z], _, _, rfl, ?_, ?_, ?_, ?_, ?_, ?_⟩
        · intro b o e
          by_cases hb : b = c
          · rw [hb, hc] at e
            cases e
          · rw [upd_ne hb]
            exact s2 b o e
        · rw [upd_same, List.map_append]
          rfl
        · intro x hx
          rcases List.mem_append.mp hx with hx | hx
          · exact hz x hx
          · rw [List.mem_singleton.mp hx]
            split <;> omega
        · rw [List.length_append, hk]
          rfl
        · exact Int.emod_nonneg _ (by decide)
        · exact Int.lt_trans (Int.emod_lt_of_pos _ (by decide)) (by decide)
    · rintro σ H2 ⟨cs, t, v, rfl, s2, h2, hz, hk, t0, t1⟩
      refine ⟨_, rfl, _, rfl, (by show 4 ≤ sizeLine; decide), fun p hp => ?_⟩
      have hcp : c ≠ p := ne_of_none h2 hp
      refine k p c cs t _ (fun b o e => ?_) ⟨upd_same, by rw [upd_ne hcp]; exact h2, hz, by omega, t0, t1⟩
      rw [upd_ne (ne_of_none (s2 b o e) hp)]
      exact s2 b o e
theorem hand_ok (T : Fs tb K mg) : HandOk P w K mg base (He.ga K "_law_hand") := by
  obtain ⟨fd, D⟩ : ∃ fd, FunD K "_law_hand" "_law_hand" (defArgs (top 56)) (defBody (top 56)) (defScope (top 56)) [] [] (He.ga K "_law_hand") fd := T.says.def_ 40 rfl
  exact ⟨⟨fd, ok_hand T D, FunD.bindsN D (fun _ _ _ _ _ _ us hl => match us, hl with | [_], _ => rfl)⟩, D.kp⟩
end
end N71
namespace N71
open PySem PySem.Spec PyProof.Rows L2 Fw
section
variable {P : Program} {w : World} {K : PySem.W.Frag} {mg : Str → Option Value} {base : Heap}
theorem sc_is_whole : FnScope ["thing", "low", "high"] ["thing", "low", "high"] (defScope (top 12)) := ⟨rfl, rfl, rfl, by decide +kernel, rfl, by decide +kernel, by decide +kernel⟩
theorem fok_is_whole {fd : FuncData} (T : Fs tb K mg) (D : FunD K "is_whole" "is_whole" (defArgs (top 12)) (defBody (top 12)) (defScope (top 12)) [.non, .non] [] (He.ga K "is_whole") fd) : FnOk P w K mg base (L2.CX P w) 1 (He.ga K "is_whole") fd ["thing", "low", "high"] (spD ⟨K, mg, none⟩ false 3 F_is_whole) :=
  (ok_def (N := ["thing", "low", "high"]) (ps := ["thing", "low", "high"]) (k := 0) (c := ⟨K, mg, none⟩) D sc_is_whole (fun cdv A outer s H E hr => (ds_cons (ds_if (PW.pt (dw_or (dt_not (dt_tru rfl (dx_is T.gt (by decide) (by rfl) (T.fr 5 "isinstance" rfl) (xv 0) (pe_bltn (v := .ty "int") (by rfl) (T.fr 4 "int" rfl) (by decide +kernel) rfl)))) (dw_or1 (dt_tru rfl (dx_is T.gt (by decide) (by rfl) (T.fr 5 "isinstance" rfl) (xv 0) (pe_bltn (v := .ty "bool") (by rfl) (T.fr 2 "bool" rfl) (by decide +kernel) rfl)))))) (ds_one (ds_ret dx_b)) ds_nil)
      (ds_one (ds_ret (dx_and (dx_or (dx_cmp op_isN d_isN (xv 1) dx_n) (dx_one (dx_cmp op_ge d_ge (xv 0) (xv 1)))) (dx_one (dx_or (dx_cmp op_isN d_isN (xv 2) dx_n) (dx_one (dx_cmp op_le d_le (xv 0) (xv 2)))))))))))
theorem cal_is_whole_0 (T : Fs tb K mg) : Cal P w ⟨K, mg, none⟩ base false 1 (He.ga K "is_whole") 3 F_is_whole [] := by
  obtain ⟨fd, D⟩ : ∃ fd, FunD K "is_whole" "is_whole" (defArgs (top 12)) (defBody (top 12)) (defScope (top 12)) [.non, .non] [] (He.ga K "is_whole") fd := T.says.def_ 0 rfl
  exact cal_of1 D (fok_is_whole T D) (FunD.binds1 D 3 2 (by simp) rfl fun T kV doc pm an cdv ct us its h1 h2 => by
    match us, its, h1, h2 with
    | [_, _, _], [_, _], _, _ => exact ⟨_, rfl, by first | rfl | kernel_rfl⟩) fun _ _ => .nil
theorem cal_is_whole_1 (T : Fs tb K mg) : Cal P w ⟨K, mg, none⟩ base false 1 (He.ga K "is_whole") 3 F_is_whole [.non] := by
  obtain ⟨fd, D⟩ : ∃ fd, FunD K "is_whole" "is_whole" (defArgs (top 12)) (defBody (top 12)) (defScope (top 12)) [.non, .non] [] (He.ga K "is_whole") fd := T.says.def_ 0 rfl
  exact cal_of1 D (fok_is_whole T D) (FunD.binds1 D 2 1 (by simp) rfl fun T kV doc pm an cdv ct us its h1 h2 => by
    match us, its, h1, h2 with
    | [_, _], [_, _], _, _ => exact ⟨_, rfl, by first | rfl | kernel_rfl⟩) fun _ _ => (.cons .non .nil)
theorem cal_is_whole_2 (T : Fs tb K mg) : Cal P w ⟨K, mg, none⟩ base false 1 (He.ga K "is_whole") 3 F_is_whole [.non, .non] := by
  obtain ⟨fd, D⟩ : ∃ fd, FunD K "is_whole" "is_whole" (defArgs (top 12)) (defBody (top 12)) (defScope (top 12)) [.non, .non] [] (He.ga K "is_whole") fd := T.says.def_ 0 rfl
  exact cal_of1 D (fok_is_whole T D) (FunD.binds1 D 1 0 (by simp) rfl fun T kV doc pm an cdv ct us its h1 h2 => by
    match us, its, h1, h2 with
    | [_], [_, _], _, _ => exact ⟨_, rfl, by first | rfl | kernel_rfl⟩) fun _ _ => (.cons .non (.cons .non .nil))
theorem sc_is_sequence : FnScope ["thing"] ["thing"] (defScope (top 13)) := ⟨rfl, rfl, rfl, by decide +kernel, rfl, by decide +kernel, by decide +kernel⟩
theorem cal_is_sequence (T : Fs tb K mg) : Cal P w ⟨K, mg, none⟩ base false 1 (He.ga K "is_sequence") 1 F_is_sequence [] := by
  obtain ⟨fd, D⟩ : ∃ fd, FunD K "is_sequence" "is_sequence" (defArgs (top 13)) (defBody (top 13)) (defScope (top 13)) [] [] (He.ga K "is_sequence") fd := T.says.def_ 1 rfl
  exact cal_of D (ok_def (N := ["thing"]) (ps := ["thing"]) (k := 0) (c := ⟨K, mg, none⟩) D sc_is_sequence (fun cdv A outer s H E hr => (ds_one (ds_ret (dx_is2 T.gt (by decide) (by decide) (by rfl) (T.fr 5 "isinstance" rfl) (xv 0) (pe_bltn (v := .ty "list") (by rfl) (T.fr 8 "list" rfl) (by decide +kernel) rfl) (pe_bltn (v := .ty "tuple") (by rfl) (T.fr 14 "tuple" rfl) (by decide +kernel) rfl)))))) (FunD.bindsN D (fun _ _ _ _ _ _ us hl => match us, hl with | [_], _ => rfl))
theorem sc_is_ratio : FnScope ["thing", "top", "bottom"] ["thing"] (defScope (top 14)) := ⟨rfl, rfl, rfl, by decide +kernel, rfl, by decide +kernel, by decide +kernel⟩
theorem cal_is_ratio (T : Fs tb K mg) : Cal P w ⟨K, mg, none⟩ base false 2 (He.ga K "is_ratio") 1 F_is_ratio [] := by
  obtain ⟨fd, D⟩ : ∃ fd, FunD K "is_ratio" "is_ratio" (defArgs (top 14)) (defBody (top 14)) (defScope (top 14)) [] [] (He.ga K "is_ratio") fd := T.says.def_ 2 rfl
  exact cal_of D (ok_def (N := ["thing", "top", "bottom"]) (ps := ["thing"]) (k := 1) (c := ⟨K, mg, none⟩) D sc_is_ratio (fun cdv A outer s H E hr => (ds_cons (ds_if (PW.pt (dw_or (dt_not (dt_tru rfl (dx_is T.gt (by decide) (by rfl) (T.fr 5 "isinstance" rfl) (xv 0) (pe_bltn (v := .ty "tuple") (by rfl) (T.fr 14 "tuple" rfl) (by decide +kernel) rfl)))) (dw_or1 (dt_cmp (c_neD hr.units rfl) d_ne (dx_bi (c_len rfl) k_len (by rfl) (T.fr 7 "len" rfl) PySem.boot_len (da_cons (xv 0) da_nil)) dx_i)))) (ds_one (ds_ret dx_b)) ds_nil)
      (ds_cons (ds_asg (vs := [1, 2]) (gg := (gTup K 2 (gCons (gName 1) (gCons (gName 2) gNil)))) (bind := (bTp [(bNm 1), (bNm 2)])) (bd_tp rfl (ba_cons (bd_nm (by decide)) (ba_cons (bd_nm (by decide)) ba_nil))) (xv 0) (pg_tup rfl (pgs_cons (gN 1 sc_is_ratio.nd) (pgs_cons (gN 2 sc_is_ratio.nd) pgs_nil))))
      (ds_one (ds_ret (dx_and (cc_call (cal_is_whole_2 T) (hr.mono (by decide)) (T.gl 0 "is_whole" rfl) (fun σ => passAt (takes_of rfl rfl rfl rfl) σ) (xG 1 dg_nil)) (dx_and (cc_call (cal_is_whole_1 T) (hr.mono (by decide)) (T.gl 0 "is_whole" rfl) (fun σ => passAt (takes_of rfl rfl rfl rfl) σ) (xG 2 (dg_cons dx_i dg_nil))) (dx_one (dx_cmp (c_eqD hr.units rfl) d_eq (dx_fun cr_gcd k_gcd (by rfl) T.gcd (da_cons (xv 1) (da_cons (xv 2) da_nil))) dx_i)))))))))) (FunD.bindsN D (fun _ _ _ _ _ _ us hl => match us, hl with | [_], _ => rfl))
theorem sc_in_lowest_terms : FnScope ["top", "bottom", "divisor"] ["top", "bottom"] (defScope (top 15)) := ⟨rfl, rfl, rfl, by decide +kernel, rfl, by decide +kernel, by decide +kernel⟩
theorem cal_in_lowest_terms (T : Fs tb K mg) : Cal P w ⟨K, mg, none⟩ base false 1 (He.ga K "in_lowest_terms") 2 F_in_lowest_terms [] := by
  obtain ⟨fd, D⟩ : ∃ fd, FunD K "in_lowest_terms" "in_lowest_terms" (defArgs (top 15)) (defBody (top 15)) (defScope (top 15)) [] [] (He.ga K "in_lowest_terms") fd := T.says.def_ 3 rfl
  exact cal_of D (ok_def (N := ["top", "bottom", "divisor"]) (ps := ["top", "bottom"]) (k := 0) (c := ⟨K, mg, none⟩) D sc_in_lowest_terms (fun cdv A outer s H E hr => (ds_cons (sS 2 sc_in_lowest_terms.nd (dx_fun cr_gcd k_gcd (by rfl) T.gcd (da_cons (xv 0) (da_cons (xv 1) da_nil))))
      (ds_cons (ds_if (dt_cmp op_lt d_lt (xv 1) dx_i) (ds_one (sS 2 sc_in_lowest_terms.nd (dx_neg (xv 2)))) ds_nil)
      (ds_one (ds_ret (dx_tup (da_cons (dx_op op_fdivG d_div (xv 0) (xv 2)) (da_cons (dx_op op_fdivG d_div (xv 1) (xv 2)) da_nil))))))))) (FunD.bindsN D (fun _ _ _ _ _ _ us hl => match us, hl with | [_, _], _ => rfl))
theorem sc_ratio_times : FnScope ["one", "other"] ["one", "other"] (defScope (top 16)) := ⟨rfl, rfl, rfl, by decide +kernel, rfl, by decide +kernel, by decide +kernel⟩
theorem cal_ratio_times (T : Fs tb K mg) : Cal P w ⟨K, mg, none⟩ base false 2 (He.ga K "ratio_times") 2 F_ratio_times [] := by
  obtain ⟨fd, D⟩ : ∃ fd, FunD K "ratio_times" "ratio_times" (defArgs (top 16)) (defBody (top 16)) (defScope (top 16)) [] [] (He.ga K "ratio_times") fd := T.says.def_ 4 rfl
  exact cal_of D (ok_def (N := ["one", "other"]) (ps := ["one", "other"]) (k := 1) (c := ⟨K, mg, none⟩) D sc_ratio_times (fun cdv A outer s H E hr => (ds_one (ds_ret (cc_call (cal_in_lowest_terms T) (hr.mono (by decide)) (T.gl 3 "in_lowest_terms" rfl) (fun σ => passAt (takes_of rfl rfl rfl rfl) σ) (dg_cons (dx_op op_mulW d_mul (dx_ix (xv 0) dx_i) (dx_ix (xv 1) dx_i)) (dg_cons (dx_op op_mulW d_mul (dx_ix (xv 0) dx_i) (dx_ix (xv 1) dx_i)) dg_nil))))))) (FunD.bindsN D (fun _ _ _ _ _ _ us hl => match us, hl with | [_, _], _ => rfl))
theorem sc_over_one_bottom : FnScope ["row", "bottom", "_", "part", "top"] ["row"] (defScope (top 18)) := ⟨rfl, rfl, rfl, by decide +kernel, rfl, by decide +kernel, by decide +kernel⟩
theorem cal_over_one_bottom (T : Fs tb K mg) : Cal P w ⟨K, mg, none⟩ base false 1 (He.ga K "over_one_bottom") 1 F_over_one_bottom [] := by
  obtain ⟨fd, D⟩ : ∃ fd, FunD K "over_one_bottom" "over_one_bottom" (defArgs (top 18)) (defBody (top 18)) (defScope (top 18)) [] [] (He.ga K "over_one_bottom") fd := T.says.def_ 5 rfl
  exact cal_of D (ok_def (N := ["row", "bottom", "_", "part", "top"]) (ps := ["row"]) (k := 0) (c := ⟨K, mg, none⟩) D sc_over_one_bottom (fun cdv A outer s H E hr => (ds_cons (sS 1 sc_over_one_bottom.nd dx_i)
      (ds_cons (ds_for (vs := [2, 3]) (gg := (gTup K 2 (gCons (gName 2) (gCons (gName 3) gNil)))) (bind := (bTp [(bNm 2), (bNm 3)])) (passes_of rfl) rfl (bd_tp rfl (ba_cons (bd_nm (by decide)) (ba_cons (bd_nm (by decide)) ba_nil))) (di_seq (xv 0)) (pg_tup rfl (pgs_cons (gN 2 sc_over_one_bottom.nd) (pgs_cons (gN 3 sc_over_one_bottom.nd) pgs_nil))) (ds_one (sS 1 sc_over_one_bottom.nd (dx_op op_fdivG d_div (dx_op op_mulW d_mul (xv 1) (xv 3)) (dx_fun cr_gcd k_gcd (by rfl) T.gcd (da_cons (xv 1) (da_cons (xv 3) da_nil)))))))
      (ds_one (ds_ret (dx_tup (da_cons (dx_fz (dn_lc (own := [("top", 4), ("part", 3)]) (g := (gTup K 2 (gCons (gName 4) (gCons (gName 3) gNil)))) (bind := (bTp [(bNm 4), (bNm 3)])) rfl sc_over_one_bottom.nd (di_seq (xv 0)) (blkOk_by (own := [("top", 4), ("part", 3)]) (N := ["row", "bottom", "_", "part", "top"]) (sc := defScope (top 18)) (by decide +kernel)) (bd_tp rfl (ba_cons (bd_nm (by decide)) (ba_cons (bd_nm (by decide)) ba_nil))) (fun _ _ _ _ _ => (pg_tup rfl (pgs_cons (gN 4 sc_over_one_bottom.nd) (pgs_cons (gN 3 sc_over_one_bottom.nd) pgs_nil)))) (fun _ _ _ _ _ => pts_no) (fun _ _ _ _ _ => (dx_op op_mulW d_mul (xv 4) (dx_op op_fdivG d_div (xv 1) (xv 3)))))) (da_cons (xv 1) da_nil))))))))) (FunD.bindsN D (fun _ _ _ _ _ _ us hl => match us, hl with | [_], _ => rfl))
theorem sc_summed_wholes : FnScope ["one", "other", "left", "right"] ["one", "other"] (defScope (top 19)) := ⟨rfl, rfl, rfl, by decide +kernel, rfl, by decide +kernel, by decide +kernel⟩
theorem cal_summed_wholes (T : Fs tb K mg) : Cal P w ⟨K, mg, none⟩ base false 1 (He.ga K "summed_wholes") 2 F_summed_wholes [] := by
  obtain ⟨fd, D⟩ : ∃ fd, FunD K "summed_wholes" "summed_wholes" (defArgs (top 19)) (defBody (top 19)) (defScope (top 19)) [] [] (He.ga K "summed_wholes") fd := T.says.def_ 6 rfl
  exact cal_of D (ok_def (N := ["one", "other", "left", "right"]) (ps := ["one", "other"]) (k := 0) (c := ⟨K, mg, none⟩) D sc_summed_wholes (fun cdv A outer s H E hr => (ds_one (ds_ret (dx_bi (c_sum rfl rfl) k_sum (by rfl) (T.fr 13 "sum" rfl) (by decide +kernel) (da_cons (dx_fz (dn_lc (own := [("left", 2), ("right", 3)]) (g := (gTup K 2 (gCons (gName 2) (gCons (gName 3) gNil)))) (bind := (bTp [(bNm 2), (bNm 3)])) rfl sc_summed_wholes.nd (di_zip (by rfl) (T.fr 15 "zip" rfl) (da_cons (xv 0) (da_cons (xv 1) da_nil))) (blkOk_by (own := [("left", 2), ("right", 3)]) (N := ["one", "other", "left", "right"]) (sc := defScope (top 19)) (by decide +kernel)) (bd_tp rfl (ba_cons (bd_nm (by decide)) (ba_cons (bd_nm (by decide)) ba_nil))) (fun _ _ _ _ _ => (pg_tup rfl (pgs_cons (gN 2 sc_summed_wholes.nd) (pgs_cons (gN 3 sc_summed_wholes.nd) pgs_nil)))) (fun _ _ _ _ _ => pts_no) (fun _ _ _ _ _ => (dx_op op_mulW d_mul (xv 2) (xv 3))))) da_nil)))))) (FunD.bindsN D (fun _ _ _ _ _ _ us hl => match us, hl with | [_, _], _ => rfl))
theorem sc_zero_row : FnScope ["figures", "many"] ["figures", "many"] (defScope (top 21)) := ⟨rfl, rfl, rfl, by decide +kernel, rfl, by decide +kernel, by decide +kernel⟩
theorem cal_zero_row (T : Fs tb K mg) : Cal P w ⟨K, mg, none⟩ base false 1 (He.ga K "zero_row") 2 F_zero_row [] := by
  obtain ⟨fd, D⟩ : ∃ fd, FunD K "zero_row" "zero_row" (defArgs (top 21)) (defBody (top 21)) (defScope (top 21)) [] [] (He.ga K "zero_row") fd := T.says.def_ 7 rfl
  exact cal_of D (ok_def (N := ["figures", "many"]) (ps := ["figures", "many"]) (k := 0) (c := ⟨K, mg, none⟩) D sc_zero_row (fun cdv A outer s H E hr => (ds_one (ds_ret (dx_fz (dn_times (dx_tup (da_cons (xA 0) da_nil)) (xv 1))))))) (FunD.bindsN D (fun _ _ _ _ _ _ us hl => match us, hl with | [_, _], _ => rfl))
theorem sc_unit_row : FnScope ["figures", "many", "place"] ["figures", "many", "place"] (defScope (top 22)) := ⟨rfl, rfl, rfl, by decide +kernel, rfl, by decide +kernel, by decide +kernel⟩
theorem cal_unit_row (T : Fs tb K mg) : Cal P w ⟨K, mg, none⟩ base false 2 (He.ga K "unit_row") 3 F_unit_row [] := by
  obtain ⟨fd, D⟩ : ∃ fd, FunD K "unit_row" "unit_row" (defArgs (top 22)) (defBody (top 22)) (defScope (top 22)) [] [] (He.ga K "unit_row") fd := T.says.def_ 8 rfl
  exact cal_of D (ok_def (N := ["figures", "many", "place"]) (ps := ["figures", "many", "place"]) (k := 1) (c := ⟨K, mg, none⟩) D sc_unit_row (fun cdv A outer s H E hr => (ds_one (ds_ret (dx_fz (dn_plus (dx_fz (dn_plus (cc_call (cal_zero_row T) (hr.mono (by decide)) (T.gl 7 "zero_row" rfl) (fun σ => passAt (takes_of rfl rfl rfl rfl) σ) (xG 0 (xG 2 dg_nil))) (dx_tup (da_cons (xA 0) da_nil)))) (cc_call (cal_zero_row T) (hr.mono (by decide)) (T.gl 7 "zero_row" rfl) (fun σ => passAt (takes_of rfl rfl rfl rfl) σ) (xG 0 (dg_cons (dx_op op_sub d_sub (dx_op op_sub d_sub (xv 1) (xv 2)) dx_i) dg_nil))))))))) (FunD.bindsN D (fun _ _ _ _ _ _ us hl => match us, hl with | [_, _, _], _ => rfl))
theorem sc_Figures_times : FnScope ["self", "one", "other"] ["self", "one", "other"] (defScope (inClass (top 54) 4)) := ⟨rfl, rfl, rfl, by decide +kernel, rfl, by decide +kernel, by decide +kernel⟩
theorem cal_Figures_times (T : Fs tb K mg) : Cal P w ⟨K, mg, none⟩ base false 3 (He.ma K (He.ga K "Figures") "times") 3 F_Figures_times [] := by
  obtain ⟨fd, D⟩ : ∃ fd, FunD K "times" "Figures.times" (defArgs (inClass (top 54) 4)) (defBody (inClass (top 54) 4)) (defScope (inClass (top 54) 4)) [] [] (He.ma K (He.ga K "Figures") "times") fd := T.says.def_ 9 rfl
  exact cal_of D (ok_def (N := ["self", "one", "other"]) (ps := ["self", "one", "other"]) (k := 2) (c := ⟨K, mg, none⟩) D sc_Figures_times (fun cdv A outer s H E hr => (ds_cons (ds_if (dt_cmp (c_eqD hr.units rfl) d_eq (xA 0) dx_i) (ds_one (ds_ret (cc_call (cal_ratio_times T) (hr.mono (by decide)) (T.gl 4 "ratio_times" rfl) (fun σ => passAt (takes_of rfl rfl rfl rfl) σ) (xG 1 (xG 2 dg_nil))))) ds_nil)
      (ds_one (ds_ret (dx_op op_modN d_mod (dx_op op_mulW d_mul (xv 1) (xv 2)) (xA 0))))))) (FunD.bindsN D (fun _ _ _ _ _ _ us hl => match us, hl with | [_, _, _], _ => rfl))
theorem sc_row_scaled : FnScope ["figures", "number", "row", "entry"] ["figures", "number", "row"] (defScope (top 23)) := ⟨rfl, rfl, rfl, by decide +kernel, rfl, by decide +kernel, by decide +kernel⟩
theorem cal_row_scaled (T : Fs tb K mg) : Cal P w ⟨K, mg, none⟩ base false 4 (He.ga K "row_scaled") 3 F_row_scaled [] := by
  obtain ⟨fd, D⟩ : ∃ fd, FunD K "row_scaled" "row_scaled" (defArgs (top 23)) (defBody (top 23)) (defScope (top 23)) [] [] (He.ga K "row_scaled") fd := T.says.def_ 10 rfl
  exact cal_of D (ok_def (N := ["figures", "number", "row", "entry"]) (ps := ["figures", "number", "row"]) (k := 3) (c := ⟨K, mg, none⟩) D sc_row_scaled (fun cdv A outer s H E hr => (ds_one (ds_ret (dx_ty (c_tup rfl) k_tup (by rfl) (T.fr 14 "tuple" rfl) PyProof.Rows.boot_tuple (da_cons (dx_fz (dn_lc (own := [("entry", 3)]) (g := (gName 3)) (bind := (bNm 3)) rfl sc_row_scaled.nd (di_seq (xv 2)) (blkOk_by (own := [("entry", 3)]) (N := ["figures", "number", "row", "entry"]) (sc := defScope (top 23)) (by decide +kernel)) (bd_nm (by decide)) (fun _ _ _ _ _ => (gN 3 sc_row_scaled.nd)) (fun _ _ _ _ _ => pts_no) (fun _ _ _ _ _ => (cc_meth (T.gl 71 "Figures" rfl) (xv 0) (T.cls 2 _ rfl).1.cl (T.meth 2 _ rfl "times" (by decide)) (cal_Figures_times T) (hr.mono (by decide)) passF (xG 1 (xG 3 dg_nil)))))) da_nil)))))) (FunD.bindsN D (fun _ _ _ _ _ _ us hl => match us, hl with | [_, _, _], _ => rfl))
theorem sc_summed_lines : FnScope ["figures", "one", "other", "total"] ["figures", "one", "other"] (defScope (top 26)) := ⟨rfl, rfl, rfl, by decide +kernel, rfl, by decide +kernel, by decide +kernel⟩
theorem cal_summed_lines (T : Fs tb K mg) : Cal P w ⟨K, mg, none⟩ base false 2 (He.ga K "summed_lines") 3 F_summed_lines [] := by
  obtain ⟨fd, D⟩ : ∃ fd, FunD K "summed_lines" "summed_lines" (defArgs (top 26)) (defBody (top 26)) (defScope (top 26)) [] [] (He.ga K "summed_lines") fd := T.says.def_ 11 rfl
  exact cal_of D (ok_def (N := ["figures", "one", "other", "total"]) (ps := ["figures", "one", "other"]) (k := 1) (c := ⟨K, mg, none⟩) D sc_summed_lines (fun cdv A outer s H E hr => (ds_cons (sS 3 sc_summed_lines.nd (cc_call (cal_summed_wholes T) (hr.mono (by decide)) (T.gl 6 "summed_wholes" rfl) (fun σ => passAt (takes_of rfl rfl rfl rfl) σ) (dg_cons (dx_ix (xv 1) dx_i) (dg_cons (dx_ix (xv 2) dx_i) dg_nil))))
      (ds_cons (ds_if (dt_cmp (c_neD hr.units rfl) d_ne (xA 0) dx_i) (ds_one (ds_ret (dx_op op_modN d_mod (xv 3) (xA 0)))) ds_nil)
      (ds_one (ds_ret (cc_call (cal_in_lowest_terms T) (hr.mono (by decide)) (T.gl 3 "in_lowest_terms" rfl) (fun σ => passAt (takes_of rfl rfl rfl rfl) σ) (xG 3 (dg_cons (dx_op op_mulW d_mul (dx_ix (xv 1) dx_i) (dx_ix (xv 2) dx_i)) dg_nil))))))))) (FunD.bindsN D (fun _ _ _ _ _ _ us hl => match us, hl with | [_, _, _], _ => rfl))
theorem sc_whole_line : FnScope ["figures", "row"] ["figures", "row"] (defScope (top 25)) := ⟨rfl, rfl, rfl, by decide +kernel, rfl, by decide +kernel, by decide +kernel⟩
theorem cal_whole_line (T : Fs tb K mg) : Cal P w ⟨K, mg, none⟩ base false 2 (He.ga K "whole_line") 2 F_whole_line [] := by
  obtain ⟨fd, D⟩ : ∃ fd, FunD K "whole_line" "whole_line" (defArgs (top 25)) (defBody (top 25)) (defScope (top 25)) [] [] (He.ga K "whole_line") fd := T.says.def_ 12 rfl
  exact cal_of D (ok_def (N := ["figures", "row"]) (ps := ["figures", "row"]) (k := 1) (c := ⟨K, mg, none⟩) D sc_whole_line (fun cdv A outer s H E hr => (ds_one (ds_ret (dx_if (dt_cmp (c_neD hr.units rfl) d_ne (xA 0) dx_i) (dx_tup (da_cons (xv 1) (da_cons dx_i da_nil))) (cc_call (cal_over_one_bottom T) (hr.mono (by decide)) (T.gl 5 "over_one_bottom" rfl) (fun σ => passAt (takes_of rfl rfl rfl rfl) σ) (xG 1 dg_nil))))))) (FunD.bindsN D (fun _ _ _ _ _ _ us hl => match us, hl with | [_, _], _ => rfl))
theorem sc_summed_products : FnScope ["figures", "one", "other"] ["figures", "one", "other"] (defScope (top 24)) := ⟨rfl, rfl, rfl, by decide +kernel, rfl, by decide +kernel, by decide +kernel⟩
theorem cal_summed_products (T : Fs tb K mg) : Cal P w ⟨K, mg, none⟩ base false 3 (He.ga K "summed_products") 3 F_summed_products [] := by
  obtain ⟨fd, D⟩ : ∃ fd, FunD K "summed_products" "summed_products" (defArgs (top 24)) (defBody (top 24)) (defScope (top 24)) [] [] (He.ga K "summed_products") fd := T.says.def_ 13 rfl
  exact cal_of D (ok_def (N := ["figures", "one", "other"]) (ps := ["figures", "one", "other"]) (k := 2) (c := ⟨K, mg, none⟩) D sc_summed_products (fun cdv A outer s H E hr => (ds_one (ds_ret (cc_call (cal_summed_lines T) (hr.mono (by decide)) (T.gl 12 "summed_lines" rfl) (fun σ => passAt (takes_of rfl rfl rfl rfl) σ) (xG 0 (dg_cons (cc_call (cal_whole_line T) (hr.mono (by decide)) (T.gl 11 "whole_line" rfl) (fun σ => passAt (takes_of rfl rfl rfl rfl) σ) (xG 0 (xG 1 dg_nil))) (dg_cons (cc_call (cal_whole_line T) (hr.mono (by decide)) (T.gl 11 "whole_line" rfl) (fun σ => passAt (takes_of rfl rfl rfl rfl) σ) (xG 0 (xG 2 dg_nil))) dg_nil)))))))) (FunD.bindsN D (fun _ _ _ _ _ _ us hl => match us, hl with | [_, _, _], _ => rfl))
theorem sc_column_led : FnScope ["figures", "table", "column", "line", "row"] ["figures", "table", "column"] (defScope (top 27)) := ⟨rfl, rfl, rfl, by decide +kernel, rfl, by decide +kernel, by decide +kernel⟩
theorem cal_column_led (T : Fs tb K mg) : Cal P w ⟨K, mg, none⟩ base false 3 (He.ga K "column_led") 3 F_column_led [] := by
  obtain ⟨fd, D⟩ : ∃ fd, FunD K "column_led" "column_led" (defArgs (top 27)) (defBody (top 27)) (defScope (top 27)) [] [] (He.ga K "column_led") fd := T.says.def_ 14 rfl
  exact cal_of D (ok_def (N := ["figures", "table", "column", "line", "row"]) (ps := ["figures", "table", "column"]) (k := 2) (c := ⟨K, mg, none⟩) D sc_column_led (fun cdv A outer s H E hr => (ds_cons (sS 3 sc_column_led.nd (cc_call (cal_whole_line T) (hr.mono (by decide)) (T.gl 11 "whole_line" rfl) (fun σ => passAt (takes_of rfl rfl rfl rfl) σ) (xG 0 (xG 2 dg_nil))))
      (ds_one (ds_ret (dx_ty (c_tup rfl) k_tup (by rfl) (T.fr 14 "tuple" rfl) PyProof.Rows.boot_tuple (da_cons (dx_fz (dn_lc (own := [("row", 4)]) (g := (gName 4)) (bind := (bNm 4)) rfl sc_column_led.nd (di_seq (xv 1)) (blkOk_by (own := [("row", 4)]) (N := ["figures", "table", "column", "line", "row"]) (sc := defScope (top 27)) (by decide +kernel)) (bd_nm (by decide)) (fun _ _ _ _ _ => (gN 4 sc_column_led.nd)) (fun _ _ _ _ _ => pts_no) (fun _ _ _ _ _ => (cc_call (cal_summed_lines T) (hr.mono (by decide)) (T.gl 12 "summed_lines" rfl) passF (xG 0 (dg_cons (cc_call (cal_whole_line T) (hr.mono (by decide)) (T.gl 11 "whole_line" rfl) passF (xG 0 (xG 4 dg_nil))) (xG 3 dg_nil))))))) da_nil))))))) (FunD.bindsN D (fun _ _ _ _ _ _ us hl => match us, hl with | [_, _, _], _ => rfl))
theorem sc_flipped_table : FnScope ["table", "row", "column"] ["table"] (defScope (top 30)) := ⟨rfl, rfl, rfl, by decide +kernel, rfl, by decide +kernel, by decide +kernel⟩
theorem cal_flipped_table (T : Fs tb K mg) : Cal P w ⟨K, mg, none⟩ base false 1 (He.ga K "flipped_table") 1 F_flipped_table [] := by
  obtain ⟨fd, D⟩ : ∃ fd, FunD K "flipped_table" "flipped_table" (defArgs (top 30)) (defBody (top 30)) (defScope (top 30)) [] [] (He.ga K "flipped_table") fd := T.says.def_ 15 rfl
  exact cal_of D (ok_def (N := ["table", "row", "column"]) (ps := ["table"]) (k := 0) (c := ⟨K, mg, none⟩) D sc_flipped_table (fun cdv A outer s H E hr => (ds_cons (ds_if (dt_cmp (c_eqD hr.units rfl) d_eq (dx_bi (c_len rfl) k_len (by rfl) (T.fr 7 "len" rfl) PySem.boot_len (da_cons (xv 0) da_nil)) dx_i) (ds_one (ds_ret (dx_tup da_nil))) ds_nil)
      (ds_one (ds_ret (dx_ty (c_tup rfl) k_tup (by rfl) (T.fr 14 "tuple" rfl) PyProof.Rows.boot_tuple (da_cons (dx_fz (dn_lc (own := [("column", 2)]) (g := (gName 2)) (bind := (bNm 2)) rfl sc_flipped_table.nd (di_rg1 (by rfl) (T.fr 11 "range" rfl) (da_cons (dx_bi (c_len rfl) k_len (by rfl) (T.fr 7 "len" rfl) PySem.boot_len (da_cons (dx_ix (xv 0) dx_i) da_nil)) da_nil)) (blkOk_by (own := [("column", 2)]) (N := ["table", "row", "column"]) (sc := defScope (top 30)) (by decide +kernel)) (bd_nm (by decide)) (fun _ _ _ _ _ => (gN 2 sc_flipped_table.nd)) (fun _ _ _ _ _ => pts_no) (fun _ _ _ _ _ => (dx_ty (c_tup rfl) k_tup (by rfl) (T.fr 14 "tuple" rfl) PyProof.Rows.boot_tuple (da_cons (dx_fz (dn_lc (own := [("row", 1)]) (g := (gName 1)) (bind := (bNm 1)) rfl sc_flipped_table.nd (di_seq (xv 0)) (blkOk_by (own := [("row", 1)]) (N := ["table", "row", "column"]) (sc := relS _ (defScope (top 30))) (by decide +kernel)) (bd_nm (by decide)) (fun _ _ _ _ _ => (gN 1 sc_flipped_table.nd)) (fun _ _ _ _ _ => pts_no) (fun _ _ _ _ _ => (dx_ix (xv 1) (xv 2))))) da_nil))))) da_nil))))))) (FunD.bindsN D (fun _ _ _ _ _ _ us hl => match us, hl with | [_], _ => rfl))
theorem sc_row_times : FnScope ["figures", "line", "lines", "other"] ["figures", "line", "lines"] (defScope (top 29)) := ⟨rfl, rfl, rfl, by decide +kernel, rfl, by decide +kernel, by decide +kernel⟩
theorem cal_row_times (T : Fs tb K mg) : Cal P w ⟨K, mg, none⟩ base false 3 (He.ga K "row_times") 3 F_row_times [] := by
  obtain ⟨fd, D⟩ : ∃ fd, FunD K "row_times" "row_times" (defArgs (top 29)) (defBody (top 29)) (defScope (top 29)) [] [] (He.ga K "row_times") fd := T.says.def_ 16 rfl
  exact cal_of D (ok_def (N := ["figures", "line", "lines", "other"]) (ps := ["figures", "line", "lines"]) (k := 2) (c := ⟨K, mg, none⟩) D sc_row_times (fun cdv A outer s H E hr => (ds_one (ds_ret (dx_ty (c_tup rfl) k_tup (by rfl) (T.fr 14 "tuple" rfl) PyProof.Rows.boot_tuple (da_cons (dx_fz (dn_lc (own := [("other", 3)]) (g := (gName 3)) (bind := (bNm 3)) rfl sc_row_times.nd (di_seq (xv 2)) (blkOk_by (own := [("other", 3)]) (N := ["figures", "line", "lines", "other"]) (sc := defScope (top 29)) (by decide +kernel)) (bd_nm (by decide)) (fun _ _ _ _ _ => (gN 3 sc_row_times.nd)) (fun _ _ _ _ _ => pts_no) (fun _ _ _ _ _ => (cc_call (cal_summed_lines T) (hr.mono (by decide)) (T.gl 12 "summed_lines" rfl) passF (xG 0 (xG 1 (xG 3 dg_nil))))))) da_nil)))))) (FunD.bindsN D (fun _ _ _ _ _ _ us hl => match us, hl with | [_, _, _], _ => rfl))
theorem sc_table_times : FnScope ["figures", "left", "right", "lines", "row"] ["figures", "left", "right"] (defScope (top 28)) := ⟨rfl, rfl, rfl, by decide +kernel, rfl, by decide +kernel, by decide +kernel⟩
theorem cal_table_times (T : Fs tb K mg) : Cal P w ⟨K, mg, none⟩ base false 4 (He.ga K "table_times") 3 F_table_times [] := by
  obtain ⟨fd, D⟩ : ∃ fd, FunD K "table_times" "table_times" (defArgs (top 28)) (defBody (top 28)) (defScope (top 28)) [] [] (He.ga K "table_times") fd := T.says.def_ 17 rfl
  exact cal_of D (ok_def (N := ["figures", "left", "right", "lines", "row"]) (ps := ["figures", "left", "right"]) (k := 3) (c := ⟨K, mg, none⟩) D sc_table_times (fun cdv A outer s H E hr => (ds_cons (sS 3 sc_table_times.nd (dx_fz (dn_lc (own := [("row", 4)]) (g := (gName 4)) (bind := (bNm 4)) rfl sc_table_times.nd (di_seq (cc_call (cal_flipped_table T) (hr.mono (by decide)) (T.gl 16 "flipped_table" rfl) (fun σ => passAt (takes_of rfl rfl rfl rfl) σ) (xG 2 dg_nil))) (blkOk_by (own := [("row", 4)]) (N := ["figures", "left", "right", "lines", "row"]) (sc := defScope (top 28)) (by decide +kernel)) (bd_nm (by decide)) (fun _ _ _ _ _ => (gN 4 sc_table_times.nd)) (fun _ _ _ _ _ => pts_no) (fun _ _ _ _ _ => (cc_call (cal_whole_line T) (hr.mono (by decide)) (T.gl 11 "whole_line" rfl) passF (xG 0 (xG 4 dg_nil)))))))
      (ds_one (ds_ret (dx_ty (c_tup rfl) k_tup (by rfl) (T.fr 14 "tuple" rfl) PyProof.Rows.boot_tuple (da_cons (dx_fz (dn_lc (own := [("row", 4)]) (g := (gName 4)) (bind := (bNm 4)) rfl sc_table_times.nd (di_seq (xv 1)) (blkOk_by (own := [("row", 4)]) (N := ["figures", "left", "right", "lines", "row"]) (sc := defScope (top 28)) (by decide +kernel)) (bd_nm (by decide)) (fun _ _ _ _ _ => (gN 4 sc_table_times.nd)) (fun _ _ _ _ _ => pts_no) (fun _ _ _ _ _ => (cc_call (cal_row_times T) (hr.mono (by decide)) (T.gl 15 "row_times" rfl) passF (xG 0 (dg_cons (cc_call (cal_whole_line T) (hr.mono (by decide)) (T.gl 11 "whole_line" rfl) passF (xG 0 (xG 4 dg_nil))) (xG 3 dg_nil))))))) da_nil))))))) (FunD.bindsN D (fun _ _ _ _ _ _ us hl => match us, hl with | [_, _, _], _ => rfl))
theorem sc_fits_count : FnScope ["many", "due"] ["many", "due"] (defScope (top 33)) := ⟨rfl, rfl, rfl, by decide +kernel, rfl, by decide +kernel, by decide +kernel⟩
theorem cal_fits_count (T : Fs tb K mg) : Cal P w ⟨K, mg, none⟩ base false 1 (He.ga K "fits_count") 2 F_fits_count [] := by
  obtain ⟨fd, D⟩ : ∃ fd, FunD K "fits_count" "fits_count" (defArgs (top 33)) (defBody (top 33)) (defScope (top 33)) [] [] (He.ga K "fits_count") fd := T.says.def_ 18 rfl
  exact cal_of D (ok_def (N := ["many", "due"]) (ps := ["many", "due"]) (k := 0) (c := ⟨K, mg, none⟩) D sc_fits_count (fun cdv A outer s H E hr => (ds_cons (ds_if (dt_cmp op_isN d_isN (xv 1) dx_n) (ds_one (ds_ret (dx_ch op_le op_le d_le d_le dx_i (xv 0) (xgI (T.int 0 _ rfl))))) ds_nil)
      (ds_one (ds_ret (dx_cmp (c_eqD hr.units rfl) d_eq (xv 0) (xv 1))))))) (FunD.bindsN D (fun _ _ _ _ _ _ us hl => match us, hl with | [_, _], _ => rfl))
theorem sc_Figures_is_number : FnScope ["self", "thing"] ["self", "thing"] (defScope (inClass (top 54) 10)) := ⟨rfl, rfl, rfl, by decide +kernel, rfl, by decide +kernel, by decide +kernel⟩
theorem cal_Figures_is_number (T : Fs tb K mg) : Cal P w ⟨K, mg, none⟩ base false 3 (He.ma K (He.ga K "Figures") "is_number") 2 F_Figures_is_number [] := by
  obtain ⟨fd, D⟩ : ∃ fd, FunD K "is_number" "Figures.is_number" (defArgs (inClass (top 54) 10)) (defBody (inClass (top 54) 10)) (defScope (inClass (top 54) 10)) [] [] (He.ma K (He.ga K "Figures") "is_number") fd := T.says.def_ 19 rfl
  exact cal_of D (ok_def (N := ["self", "thing"]) (ps := ["self", "thing"]) (k := 2) (c := ⟨K, mg, none⟩) D sc_Figures_is_number (fun cdv A outer s H E hr => (ds_cons (ds_if (dt_cmp (c_eqD hr.units rfl) d_eq (xA 0) dx_i) (ds_one (ds_ret (cc_call (cal_is_ratio T) (hr.mono (by decide)) (T.gl 2 "is_ratio" rfl) (fun σ => passAt (takes_of rfl rfl rfl rfl) σ) (xG 1 dg_nil)))) ds_nil)
      (ds_one (ds_ret (cc_call (cal_is_whole_0 T) (hr.mono (by decide)) (T.gl 0 "is_whole" rfl) (fun σ => passAt (takes_of rfl rfl rfl rfl) σ) (xG 1 (dg_cons dx_i (dg_cons (dx_op op_sub d_sub (xA 0) dx_i) dg_nil))))))))) (FunD.bindsN D (fun _ _ _ _ _ _ us hl => match us, hl with | [_, _], _ => rfl))
end
end N71
namespace N71
open PySem PySem.Spec PyProof.Rows L2 Fw
section
variable {P : Program} {w : World} {K : PySem.W.Frag} {mg : Str → Option Value} {base : Heap}
theorem sc_all_are_numbers : FnScope ["figures", "row", "entry"] ["figures", "row"] (defScope (top 35)) := ⟨rfl, rfl, rfl, by decide +kernel, rfl, by decide +kernel, by decide +kernel⟩
theorem cal_all_are_numbers (T : Fs tb K mg) : Cal P w ⟨K, mg, none⟩ base false 4 (He.ga K "all_are_numbers") 2 F_all_are_numbers [] := by
  obtain ⟨fd, D⟩ : ∃ fd, FunD K "all_are_numbers" "all_are_numbers" (defArgs (top 35)) (defBody (top 35)) (defScope (top 35)) [] [] (He.ga K "all_are_numbers") fd := T.says.def_ 20 rfl
  exact cal_of D (ok_def (N := ["figures", "row", "entry"]) (ps := ["figures", "row"]) (k := 3) (c := ⟨K, mg, none⟩) D sc_all_are_numbers (fun cdv A outer s H E hr => (ds_one (ds_ret (dx_bi (c_all rfl rfl) k_all (by rfl) (T.fr 1 "all" rfl) (by decide +kernel) (da_cons (dx_fz (dn_lc (own := [("entry", 2)]) (g := (gName 2)) (bind := (bNm 2)) rfl sc_all_are_numbers.nd (di_seq (xv 1)) (blkOk_by (own := [("entry", 2)]) (N := ["figures", "row", "entry"]) (sc := defScope (top 35)) (by decide +kernel)) (bd_nm (by decide)) (fun _ _ _ _ _ => (gN 2 sc_all_are_numbers.nd)) (fun _ _ _ _ _ => pts_no) (fun _ _ _ _ _ => (cc_meth (T.gl 71 "Figures" rfl) (xv 0) (T.cls 2 _ rfl).1.cl (T.meth 2 _ rfl "is_number" (by decide)) (cal_Figures_is_number T) (hr.mono (by decide)) passF (xG 2 dg_nil))))) da_nil)))))) (FunD.bindsN D (fun _ _ _ _ _ _ us hl => match us, hl with | [_, _], _ => rfl))
theorem sc_check_table : FnScope ["figures", "table", "rows", "columns", "checked", "due", "index", "row"] ["figures", "table", "rows", "columns"] (defScope (top 34)) := ⟨rfl, rfl, rfl, by decide +kernel, rfl, by decide +kernel, by decide +kernel⟩
theorem fok_check_table {fd : FuncData} (T : Fs tb K mg) (D : FunD K "check_table" "check_table" (defArgs (top 34)) (defBody (top 34)) (defScope (top 34)) [.non, .non] [] (He.ga K "check_table") fd) : FnOk P w K mg base (L2.CX P w) 5 (He.ga K "check_table") fd ["figures", "table", "rows", "columns"] (spD ⟨K, mg, none⟩ false 4 F_check_table) :=
  (ok_def (N := ["figures", "table", "rows", "columns", "checked", "due", "index", "row"]) (ps := ["figures", "table", "rows", "columns"]) (k := 4) (c := ⟨K, mg, none⟩) D sc_check_table (fun cdv A outer s H E hr => (ds_cons (ds_if (PW.pt (dw_or (dt_not (dt_tru rfl (cc_call (cal_is_sequence T) (hr.mono (by decide)) (T.gl 1 "is_sequence" rfl) (fun σ => passAt (takes_of rfl rfl rfl rfl) σ) (xG 1 dg_nil)))) (dw_or1 (dt_not (dt_tru rfl (cc_call (cal_fits_count T) (hr.mono (by decide)) (T.gl 17 "fits_count" rfl) (fun σ => passAt (takes_of rfl rfl rfl rfl) σ) (dg_cons (dx_bi (c_len rfl) k_len (by rfl) (T.fr 7 "len" rfl) PySem.boot_len (da_cons (xv 1) da_nil)) (xG 2 dg_nil)))))))) (ds_one (xr2 (er_BadTable T) (takes_of rfl rfl rfl rfl) (hr.mono (by decide)) (da_cons dx_i (da_cons dx_s da_nil)))) ds_nil)
      (ds_cons (sSN 4 sc_check_table.nd (dn_lst da_nil))
      (ds_cons (sS 5 sc_check_table.nd (xv 3))
      (ds_cons (ds_for (vs := [6, 7]) (gg := (gTup K 2 (gCons (gName 6) (gCons (gName 7) gNil)))) (bind := (bTp [(bNm 6), (bNm 7)])) (passes_of rfl) rfl (bd_tp rfl (ba_cons (bd_nm (by decide)) (ba_cons (bd_nm (by decide)) ba_nil))) (di_enum (by rfl) (T.fr 3 "enumerate" rfl) (da_cons (xv 1) da_nil)) (pg_tup rfl (pgs_cons (gN 6 sc_check_table.nd) (pgs_cons (gN 7 sc_check_table.nd) pgs_nil))) (ds_cons (ds_if (PW.pt (dw_or (dt_not (dt_tru rfl (cc_call (cal_is_sequence T) (hr.mono (by decide)) (T.gl 1 "is_sequence" rfl) (fun σ => passAt (takes_of rfl rfl rfl rfl) σ) (xG 7 dg_nil)))) (dw_or1 (dt_not (dt_tru rfl (cc_call (cal_fits_count T) (hr.mono (by decide)) (T.gl 17 "fits_count" rfl) (fun σ => passAt (takes_of rfl rfl rfl rfl) σ) (dg_cons (dx_bi (c_len rfl) k_len (by rfl) (T.fr 7 "len" rfl) PySem.boot_len (da_cons (xv 7) da_nil)) (xG 5 dg_nil)))))))) (ds_one (xr2 (er_BadTable T) (takes_of rfl rfl rfl rfl) (hr.mono (by decide)) (da_cons (xv 6) (da_cons dx_s da_nil)))) ds_nil)
      (ds_cons (sS 5 sc_check_table.nd (dx_bi (c_len rfl) k_len (by rfl) (T.fr 7 "len" rfl) PySem.boot_len (da_cons (xv 7) da_nil)))
      (ds_cons (ds_if (dt_not (dt_tru rfl (cc_call (cal_all_are_numbers T) (hr.mono (by decide)) (T.gl 19 "all_are_numbers" rfl) (fun σ => passAt (takes_of rfl rfl rfl rfl) σ) (xG 0 (xG 7 dg_nil))))) (ds_one (xr2 (er_BadTable T) (takes_of rfl rfl rfl rfl) (hr.mono (by decide)) (da_cons (xv 6) (da_cons dx_s da_nil)))) ds_nil)
      (ds_one (ds_app (xP 4) (dn_of (dx_ty (c_tup rfl) k_tup (by rfl) (T.fr 14 "tuple" rfl) PyProof.Rows.boot_tuple (da_cons (xv 7) da_nil)))))))))
      (ds_one (ds_frz 4 (ds_ret (dx_ty (c_tup rfl) k_tup (by rfl) (T.fr 14 "tuple" rfl) PyProof.Rows.boot_tuple (da_cons (xv 4) da_nil)))))))))))
theorem cal_check_table_0 (T : Fs tb K mg) : Cal P w ⟨K, mg, none⟩ base false 5 (He.ga K "check_table") 4 F_check_table [] := by
  obtain ⟨fd, D⟩ : ∃ fd, FunD K "check_table" "check_table" (defArgs (top 34)) (defBody (top 34)) (defScope (top 34)) [.non, .non] [] (He.ga K "check_table") fd := T.says.def_ 21 rfl
  exact cal_of1 D (fok_check_table T D) (FunD.binds1 D 4 2 (by simp) rfl fun T kV doc pm an cdv ct us its h1 h2 => by
    match us, its, h1, h2 with
    | [_, _, _, _], [_, _], _, _ => exact ⟨_, rfl, by first | rfl | kernel_rfl⟩) fun _ _ => .nil
theorem cal_check_table_1 (T : Fs tb K mg) : Cal P w ⟨K, mg, none⟩ base false 5 (He.ga K "check_table") 4 F_check_table [.non] := by
  obtain ⟨fd, D⟩ : ∃ fd, FunD K "check_table" "check_table" (defArgs (top 34)) (defBody (top 34)) (defScope (top 34)) [.non, .non] [] (He.ga K "check_table") fd := T.says.def_ 21 rfl
  exact cal_of1 D (fok_check_table T D) (FunD.binds1 D 3 1 (by simp) rfl fun T kV doc pm an cdv ct us its h1 h2 => by
    match us, its, h1, h2 with
    | [_, _, _], [_, _], _, _ => exact ⟨_, rfl, by first | rfl | kernel_rfl⟩) fun _ _ => (.cons .non .nil)
theorem cal_check_table_2 (T : Fs tb K mg) : Cal P w ⟨K, mg, none⟩ base false 5 (He.ga K "check_table") 4 F_check_table [.non, .non] := by
  obtain ⟨fd, D⟩ : ∃ fd, FunD K "check_table" "check_table" (defArgs (top 34)) (defBody (top 34)) (defScope (top 34)) [.non, .non] [] (He.ga K "check_table") fd := T.says.def_ 21 rfl
  exact cal_of1 D (fok_check_table T D) (FunD.binds1 D 2 0 (by simp) rfl fun T kV doc pm an cdv ct us its h1 h2 => by
    match us, its, h1, h2 with
    | [_, _], [_, _], _, _ => exact ⟨_, rfl, by first | rfl | kernel_rfl⟩) fun _ _ => (.cons .non (.cons .non .nil))
theorem sc_check_letters : FnScope ["figures", "numbers", "many", "what", "index", "number"] ["figures", "numbers", "many", "what"] (defScope (top 36)) := ⟨rfl, rfl, rfl, by decide +kernel, rfl, by decide +kernel, by decide +kernel⟩
theorem cal_check_letters (T : Fs tb K mg) : Cal P w ⟨K, mg, none⟩ base false 4 (He.ga K "check_letters") 4 F_check_letters [] := by
  obtain ⟨fd, D⟩ : ∃ fd, FunD K "check_letters" "check_letters" (defArgs (top 36)) (defBody (top 36)) (defScope (top 36)) [] [] (He.ga K "check_letters") fd := T.says.def_ 22 rfl
  exact cal_of D (ok_def (N := ["figures", "numbers", "many", "what", "index", "number"]) (ps := ["figures", "numbers", "many", "what"]) (k := 3) (c := ⟨K, mg, none⟩) D sc_check_letters (fun cdv A outer s H E hr => (ds_cons (ds_if (dt_not (dt_tru rfl (cc_call (cal_is_sequence T) (hr.mono (by decide)) (T.gl 1 "is_sequence" rfl) (fun σ => passAt (takes_of rfl rfl rfl rfl) σ) (xG 1 dg_nil)))) (ds_one (xr2 (er_BadLetters T) (takes_of rfl rfl rfl rfl) (hr.mono (by decide)) (da_cons (xv 3) (da_cons dx_i da_nil)))) ds_nil)
      (ds_cons (ds_for (vs := [4, 5]) (gg := (gTup K 2 (gCons (gName 4) (gCons (gName 5) gNil)))) (bind := (bTp [(bNm 4), (bNm 5)])) (passes_of rfl) rfl (bd_tp rfl (ba_cons (bd_nm (by decide)) (ba_cons (bd_nm (by decide)) ba_nil))) (di_enum (by rfl) (T.fr 3 "enumerate" rfl) (da_cons (dx_fz (dn_sl (xv 1) do_no (do_e (xv 2)))) da_nil)) (pg_tup rfl (pgs_cons (gN 4 sc_check_letters.nd) (pgs_cons (gN 5 sc_check_letters.nd) pgs_nil))) (ds_one (ds_if (dt_not (dt_tru rfl (cc_meth (T.gl 71 "Figures" rfl) (xv 0) (T.cls 2 _ rfl).1.cl (T.meth 2 _ rfl "is_number" (by decide)) (cal_Figures_is_number T) (hr.mono (by decide)) (fun σ => passAt (takes_of rfl rfl rfl rfl) σ) (xG 5 dg_nil)))) (ds_one (xr2 (er_BadLetters T) (takes_of rfl rfl rfl rfl) (hr.mono (by decide)) (da_cons (xv 3) (da_cons (xv 4) da_nil)))) ds_nil)))
      (ds_cons (ds_if (dt_cmp (c_neD hr.units rfl) d_ne (dx_bi (c_len rfl) k_len (by rfl) (T.fr 7 "len" rfl) PySem.boot_len (da_cons (xv 1) da_nil)) (xv 2)) (ds_one (xr2 (er_BadLetters T) (takes_of rfl rfl rfl rfl) (hr.mono (by decide)) (da_cons (xv 3) (da_cons (dx_bi (call_min2 rfl) k_min2 (by rfl) (T.fr 10 "min" rfl) (by decide +kernel) (da_cons (dx_bi (c_len rfl) k_len (by rfl) (T.fr 7 "len" rfl) PySem.boot_len (da_cons (xv 1) da_nil)) (da_cons (xv 2) da_nil))) da_nil)))) ds_nil)
      (ds_one (ds_ret (dx_ty (c_tup rfl) k_tup (by rfl) (T.fr 14 "tuple" rfl) PyProof.Rows.boot_tuple (da_cons (xv 1) da_nil))))))))) (FunD.bindsN D (fun _ _ _ _ _ _ us hl => match us, hl with | [_, _, _, _], _ => rfl))
theorem sc_check_width : FnScope ["figures", "rows", "columns"] ["figures", "rows", "columns"] (defScope (top 38)) := ⟨rfl, rfl, rfl, by decide +kernel, rfl, by decide +kernel, by decide +kernel⟩
theorem cal_check_width (T : Fs tb K mg) : Cal P w ⟨K, mg, none⟩ base false 3 (He.ga K "check_width") 3 F_check_width [] := by
  obtain ⟨fd, D⟩ : ∃ fd, FunD K "check_width" "check_width" (defArgs (top 38)) (defBody (top 38)) (defScope (top 38)) [] [] (He.ga K "check_width") fd := T.says.def_ 23 rfl
  exact cal_of D (ok_def (N := ["figures", "rows", "columns"]) (ps := ["figures", "rows", "columns"]) (k := 2) (c := ⟨K, mg, none⟩) D sc_check_width (fun cdv A outer s H E hr => (ds_one (ds_if (PW.pt (dw_and (dt_cmp (c_neD hr.units rfl) d_ne (xA 0) dx_i) (dw_and1 (dt_cmp op_gt d_gt (dx_bi (call_max2 rfl) k_max2 (by rfl) (T.fr 9 "max" rfl) (by decide +kernel) (da_cons (xv 1) (da_cons (xv 2) da_nil))) (xA 0))))) (ds_one (xr1 (er_BadPair T) (takes_of rfl rfl rfl rfl) (hr.mono (by decide)) (da_cons dx_s da_nil))) ds_nil)))) (FunD.bindsN D (fun _ _ _ _ _ _ us hl => match us, hl with | [_, _, _], _ => rfl))
theorem sc_Pair___init__ : FnScope ["self", "figures", "first", "second"] ["self", "figures", "first", "second"] (defScope (inClass (top 39) 0)) := ⟨rfl, rfl, rfl, by decide +kernel, rfl, by decide +kernel, by decide +kernel⟩
theorem cal_Pair___init__ (T : Fs tb K mg) : Cal P w ⟨K, mg, none⟩ base false 6 (He.ma K (He.ga K "Pair") "__init__") 4 F_Pair___init__ [] := by
  obtain ⟨fd, D⟩ : ∃ fd, FunD K "__init__" "Pair.__init__" (defArgs (inClass (top 39) 0)) (defBody (inClass (top 39) 0)) (defScope (inClass (top 39) 0)) [] [] (He.ma K (He.ga K "Pair") "__init__") fd := T.says.def_ 24 rfl
  exact cal_of D (ok_def (N := ["self", "figures", "first", "second"]) (ps := ["self", "figures", "first", "second"]) (k := 5) (c := ⟨K, mg, none⟩) D sc_Pair___init__ (fun cdv A outer s H E hr => (ds_cons (sS 2 sc_Pair___init__.nd (cc_call (cal_check_table_2 T) (hr.mono (by decide)) (T.gl 18 "check_table" rfl) (fun σ => passAt (takes_of rfl rfl rfl rfl) σ) (xG 1 (xG 2 dg_nil))))
      (ds_cons (sS 3 sc_Pair___init__.nd (cc_call (cal_check_table_2 T) (hr.mono (by decide)) (T.gl 18 "check_table" rfl) (fun σ => passAt (takes_of rfl rfl rfl rfl) σ) (xG 1 (xG 3 dg_nil))))
      (ds_cons (ds_if (PW.pt (dw_or (dt_cmp (c_neD hr.units rfl) d_ne (dx_bi (c_len rfl) k_len (by rfl) (T.fr 7 "len" rfl) PySem.boot_len (da_cons (xv 2) da_nil)) (dx_bi (c_len rfl) k_len (by rfl) (T.fr 7 "len" rfl) PySem.boot_len (da_cons (xv 3) da_nil))) (dw_or1 (dt_cmp (c_neD hr.units rfl) d_ne (dx_bi (c_len rfl) k_len (by rfl) (T.fr 7 "len" rfl) PySem.boot_len (da_cons (dx_ix (xv 2) dx_i) da_nil)) (dx_bi (c_len rfl) k_len (by rfl) (T.fr 7 "len" rfl) PySem.boot_len (da_cons (dx_ix (xv 3) dx_i) da_nil)))))) (ds_one (xr1 (er_BadPair T) (takes_of rfl rfl rfl rfl) (hr.mono (by decide)) (da_cons dx_s da_nil))) ds_nil)
      (ds_cons (ds_drop (cc_call (cal_check_width T) (hr.mono (by decide)) (T.gl 21 "check_width" rfl) (fun σ => passAt (takes_of rfl rfl rfl rfl) σ) (xG 1 (dg_cons (dx_bi (c_len rfl) k_len (by rfl) (T.fr 7 "len" rfl) PySem.boot_len (da_cons (xv 2) da_nil)) (dg_cons (dx_bi (c_len rfl) k_len (by rfl) (T.fr 7 "len" rfl) PySem.boot_len (da_cons (dx_ix (xv 2) dx_i) da_nil)) dg_nil)))))
      (ds_cons (ds_at (fun C e => noat_of T 0 rfl (T.gl 69 "Pair" rfl) (by decide) e) (xM 0) (xv 1))
      (ds_cons (ds_at (fun C e => noat_of T 0 rfl (T.gl 69 "Pair" rfl) (by decide) e) (xM 0) (xv 2))
      (ds_cons (ds_at (fun C e => noat_of T 0 rfl (T.gl 69 "Pair" rfl) (by decide) e) (xM 0) (xv 3))
      (ds_cons (ds_at (fun C e => noat_of T 0 rfl (T.gl 69 "Pair" rfl) (by decide) e) (xM 0) (dx_bi (c_len rfl) k_len (by rfl) (T.fr 7 "len" rfl) PySem.boot_len (da_cons (xv 2) da_nil)))
      (ds_one (ds_at (fun C e => noat_of T 0 rfl (T.gl 69 "Pair" rfl) (by decide) e) (xM 0) (dx_bi (c_len rfl) k_len (by rfl) (T.fr 7 "len" rfl) PySem.boot_len (da_cons (dx_ix (xv 2) dx_i) da_nil)))))))))))))) (FunD.bindsN D (fun _ _ _ _ _ _ us hl => match us, hl with | [_, _, _, _], _ => rfl))
theorem sc_Pair_answers : FnScope ["self", "left", "right", "figures", "first", "second"] ["self", "left", "right"] (defScope (inClass (top 39) 8)) := ⟨rfl, rfl, rfl, by decide +kernel, rfl, by decide +kernel, by decide +kernel⟩
theorem cal_Pair_answers (T : Fs tb K mg) : Cal P w ⟨K, mg, none⟩ base false 5 (He.ma K (He.ga K "Pair") "answers") 3 F_Pair_answers [] := by
  obtain ⟨fd, D⟩ : ∃ fd, FunD K "answers" "Pair.answers" (defArgs (inClass (top 39) 8)) (defBody (inClass (top 39) 8)) (defScope (inClass (top 39) 8)) [] [] (He.ma K (He.ga K "Pair") "answers") fd := T.says.def_ 25 rfl
  exact cal_of D (ok_def (N := ["self", "left", "right", "figures", "first", "second"]) (ps := ["self", "left", "right"]) (k := 4) (c := ⟨K, mg, none⟩) D sc_Pair_answers (fun cdv A outer s H E hr => (ds_cons (sS 3 sc_Pair_answers.nd (xA 0))
      (ds_cons (sS 1 sc_Pair_answers.nd (cc_call (cal_check_letters T) (hr.mono (by decide)) (T.gl 20 "check_letters" rfl) (fun σ => passAt (takes_of rfl rfl rfl rfl) σ) (xG 3 (xG 1 (dg_cons (xA 0) (dg_cons dx_s dg_nil))))))
      (ds_cons (sS 2 sc_Pair_answers.nd (cc_call (cal_check_letters T) (hr.mono (by decide)) (T.gl 20 "check_letters" rfl) (fun σ => passAt (takes_of rfl rfl rfl rfl) σ) (xG 3 (xG 2 (dg_cons (xA 0) (dg_cons dx_s dg_nil))))))
      (ds_cons (sS 4 sc_Pair_answers.nd (cc_call (cal_summed_products T) (hr.mono (by decide)) (T.gl 10 "summed_products" rfl) (fun σ => passAt (takes_of rfl rfl rfl rfl) σ) (xG 3 (xG 1 (dg_cons (cc_call (cal_column_led T) (hr.mono (by decide)) (T.gl 13 "column_led" rfl) (fun σ => passAt (takes_of rfl rfl rfl rfl) σ) (xG 3 (dg_cons (xA 0) (xG 2 dg_nil)))) dg_nil)))))
      (ds_cons (sS 5 sc_Pair_answers.nd (cc_call (cal_summed_products T) (hr.mono (by decide)) (T.gl 10 "summed_products" rfl) (fun σ => passAt (takes_of rfl rfl rfl rfl) σ) (xG 3 (xG 1 (dg_cons (cc_call (cal_column_led T) (hr.mono (by decide)) (T.gl 13 "column_led" rfl) (fun σ => passAt (takes_of rfl rfl rfl rfl) σ) (xG 3 (dg_cons (xA 0) (xG 2 dg_nil)))) dg_nil)))))
      (ds_one (ds_ret (dx_tup (da_cons (xv 4) (da_cons (xv 5) da_nil)))))))))))) (FunD.bindsN D (fun _ _ _ _ _ _ us hl => match us, hl with | [_, _, _], _ => rfl))
theorem sc_is_side : FnScope ["figures", "many"] ["figures", "many"] (defScope (top 42)) := ⟨rfl, rfl, rfl, by decide +kernel, rfl, by decide +kernel, by decide +kernel⟩
theorem cal_is_side (T : Fs tb K mg) : Cal P w ⟨K, mg, none⟩ base false 2 (He.ga K "is_side") 2 F_is_side [] := by
  obtain ⟨fd, D⟩ : ∃ fd, FunD K "is_side" "is_side" (defArgs (top 42)) (defBody (top 42)) (defScope (top 42)) [] [] (He.ga K "is_side") fd := T.says.def_ 26 rfl
  exact cal_of D (ok_def (N := ["figures", "many"]) (ps := ["figures", "many"]) (k := 1) (c := ⟨K, mg, none⟩) D sc_is_side (fun cdv A outer s H E hr => (ds_one (ds_ret (dx_and (cc_call (cal_is_whole_0 T) (hr.mono (by decide)) (T.gl 0 "is_whole" rfl) (fun σ => passAt (takes_of rfl rfl rfl rfl) σ) (xG 1 (dg_cons dx_i (dg_cons (xgI (T.int 0 _ rfl)) dg_nil)))) (dx_one (dx_or (dx_cmp (c_eqD hr.units rfl) d_eq (xA 0) dx_i) (dx_one (dx_cmp op_le d_le (xv 1) (xA 0)))))))))) (FunD.bindsN D (fun _ _ _ _ _ _ us hl => match us, hl with | [_, _], _ => rfl))
theorem sc_is_number_row : FnScope ["figures", "thing", "many"] ["figures", "thing", "many"] (defScope (top 43)) := ⟨rfl, rfl, rfl, by decide +kernel, rfl, by decide +kernel, by decide +kernel⟩
theorem cal_is_number_row (T : Fs tb K mg) : Cal P w ⟨K, mg, none⟩ base false 5 (He.ga K "is_number_row") 3 F_is_number_row [] := by
  obtain ⟨fd, D⟩ : ∃ fd, FunD K "is_number_row" "is_number_row" (defArgs (top 43)) (defBody (top 43)) (defScope (top 43)) [] [] (He.ga K "is_number_row") fd := T.says.def_ 27 rfl
  exact cal_of D (ok_def (N := ["figures", "thing", "many"]) (ps := ["figures", "thing", "many"]) (k := 4) (c := ⟨K, mg, none⟩) D sc_is_number_row (fun cdv A outer s H E hr => (ds_one (ds_ret (dx_and (cc_call (cal_is_sequence T) (hr.mono (by decide)) (T.gl 1 "is_sequence" rfl) (fun σ => passAt (takes_of rfl rfl rfl rfl) σ) (xG 1 dg_nil)) (dx_and (dx_cmp (c_eqD hr.units rfl) d_eq (dx_bi (c_len rfl) k_len (by rfl) (T.fr 7 "len" rfl) PySem.boot_len (da_cons (xv 1) da_nil)) (xv 2)) (dx_one (cc_call (cal_all_are_numbers T) (hr.mono (by decide)) (T.gl 19 "all_are_numbers" rfl) (fun σ => passAt (takes_of rfl rfl rfl rfl) σ) (xG 0 (xG 1 dg_nil)))))))))) (FunD.bindsN D (fun _ _ _ _ _ _ us hl => match us, hl with | [_, _, _], _ => rfl))
theorem sc_check_product : FnScope ["program", "entry", "index", "figures", "left", "right", "first", "second"] ["program", "entry", "index"] (defScope (top 44)) := ⟨rfl, rfl, rfl, by decide +kernel, rfl, by decide +kernel, by decide +kernel⟩
theorem cal_check_product (T : Fs tb K mg) : Cal P w ⟨K, mg, none⟩ base false 6 (He.ga K "check_product") 3 F_check_product [] := by
  obtain ⟨fd, D⟩ : ∃ fd, FunD K "check_product" "check_product" (defArgs (top 44)) (defBody (top 44)) (defScope (top 44)) [] [] (He.ga K "check_product") fd := T.says.def_ 28 rfl
  exact cal_of D (ok_def (N := ["program", "entry", "index", "figures", "left", "right", "first", "second"]) (ps := ["program", "entry", "index"]) (k := 5) (c := ⟨K, mg, none⟩) D sc_check_product (fun cdv A outer s H E hr => (ds_cons (sS 3 sc_check_product.nd (xA 0))
      (ds_cons (ds_if (PW.pt (dw_or (dt_not (dt_tru rfl (cc_call (cal_is_sequence T) (hr.mono (by decide)) (T.gl 1 "is_sequence" rfl) (fun σ => passAt (takes_of rfl rfl rfl rfl) σ) (xG 1 dg_nil)))) (dw_or1 (dt_cmp (c_neD hr.units rfl) d_ne (dx_bi (c_len rfl) k_len (by rfl) (T.fr 7 "len" rfl) PySem.boot_len (da_cons (xv 1) da_nil)) dx_i)))) (ds_one (xr2 (er_BadProgram T) (takes_of rfl rfl rfl rfl) (hr.mono (by decide)) (da_cons (xv 2) (da_cons dx_s da_nil)))) ds_nil)
      (ds_cons (ds_asg (vs := [4, 5, 6, 7]) (gg := (gTup K 4 (gCons (gName 4) (gCons (gName 5) (gCons (gName 6) (gCons (gName 7) gNil)))))) (bind := (bTp [(bNm 4), (bNm 5), (bNm 6), (bNm 7)])) (bd_tp rfl (ba_cons (bd_nm (by decide)) (ba_cons (bd_nm (by decide)) (ba_cons (bd_nm (by decide)) (ba_cons (bd_nm (by decide)) ba_nil))))) (xv 1) (pg_tup rfl (pgs_cons (gN 4 sc_check_product.nd) (pgs_cons (gN 5 sc_check_product.nd) (pgs_cons (gN 6 sc_check_product.nd) (pgs_cons (gN 7 sc_check_product.nd) pgs_nil))))))
      (ds_cons (ds_if (dt_not (dt_tru rfl (cc_call (cal_is_number_row T) (hr.mono (by decide)) (T.gl 23 "is_number_row" rfl) (fun σ => passAt (takes_of rfl rfl rfl rfl) σ) (xG 3 (xG 4 (dg_cons (xA 0) dg_nil)))))) (ds_one (xr2 (er_BadProgram T) (takes_of rfl rfl rfl rfl) (hr.mono (by decide)) (da_cons (xv 2) (da_cons dx_s da_nil)))) ds_nil)
      (ds_cons (ds_if (dt_not (dt_tru rfl (cc_call (cal_is_number_row T) (hr.mono (by decide)) (T.gl 23 "is_number_row" rfl) (fun σ => passAt (takes_of rfl rfl rfl rfl) σ) (xG 3 (xG 5 (dg_cons (xA 0) dg_nil)))))) (ds_one (xr2 (er_BadProgram T) (takes_of rfl rfl rfl rfl) (hr.mono (by decide)) (da_cons (xv 2) (da_cons dx_s da_nil)))) ds_nil)
      (ds_cons (ds_if (PW.pt (dw_or (dt_not (dt_tru rfl (cc_meth (T.gl 71 "Figures" rfl) (xv 3) (T.cls 2 _ rfl).1.cl (T.meth 2 _ rfl "is_number" (by decide)) (cal_Figures_is_number T) (hr.mono (by decide)) (fun σ => passAt (takes_of rfl rfl rfl rfl) σ) (xG 6 dg_nil)))) (dw_or1 (dt_not (dt_tru rfl (cc_meth (T.gl 71 "Figures" rfl) (xv 3) (T.cls 2 _ rfl).1.cl (T.meth 2 _ rfl "is_number" (by decide)) (cal_Figures_is_number T) (hr.mono (by decide)) (fun σ => passAt (takes_of rfl rfl rfl rfl) σ) (xG 7 dg_nil))))))) (ds_one (xr2 (er_BadProgram T) (takes_of rfl rfl rfl rfl) (hr.mono (by decide)) (da_cons (xv 2) (da_cons dx_s da_nil)))) ds_nil)
      (ds_one (ds_ret (dx_tup (da_cons (dx_ty (c_tup rfl) k_tup (by rfl) (T.fr 14 "tuple" rfl) PyProof.Rows.boot_tuple (da_cons (xv 4) da_nil)) (da_cons (dx_ty (c_tup rfl) k_tup (by rfl) (T.fr 14 "tuple" rfl) PyProof.Rows.boot_tuple (da_cons (xv 5) da_nil)) (da_cons (xv 6) (da_cons (xv 7) da_nil))))))))))))))) (FunD.bindsN D (fun _ _ _ _ _ _ us hl => match us, hl with | [_, _, _], _ => rfl))
theorem sc_Program___init__ : FnScope ["self", "figures", "rows", "columns", "products", "index", "entry"] ["self", "figures", "rows", "columns", "products"] (defScope (inClass (top 45) 0)) := ⟨rfl, rfl, rfl, by decide +kernel, rfl, by decide +kernel, by decide +kernel⟩
theorem cal_Program___init__ (T : Fs tb K mg) : Cal P w ⟨K, mg, none⟩ base false 7 (He.ma K (He.ga K "Program") "__init__") 5 F_Program___init__ [] := by
  obtain ⟨fd, D⟩ : ∃ fd, FunD K "__init__" "Program.__init__" (defArgs (inClass (top 45) 0)) (defBody (inClass (top 45) 0)) (defScope (inClass (top 45) 0)) [] [] (He.ma K (He.ga K "Program") "__init__") fd := T.says.def_ 29 rfl
  exact cal_of D (ok_def (N := ["self", "figures", "rows", "columns", "products", "index", "entry"]) (ps := ["self", "figures", "rows", "columns", "products"]) (k := 6) (c := ⟨K, mg, none⟩) D sc_Program___init__ (fun cdv A outer s H E hr => (ds_cons (ds_if (dt_not (dt_tru rfl (cc_call (cal_is_side T) (hr.mono (by decide)) (T.gl 22 "is_side" rfl) (fun σ => passAt (takes_of rfl rfl rfl rfl) σ) (xG 1 (xG 2 dg_nil))))) (ds_one (xr2 (er_BadProgram T) (takes_of rfl rfl rfl rfl) (hr.mono (by decide)) (da_cons dx_i (da_cons dx_s da_nil)))) ds_nil)
      (ds_cons (ds_if (dt_not (dt_tru rfl (cc_call (cal_is_side T) (hr.mono (by decide)) (T.gl 22 "is_side" rfl) (fun σ => passAt (takes_of rfl rfl rfl rfl) σ) (xG 1 (xG 3 dg_nil))))) (ds_one (xr2 (er_BadProgram T) (takes_of rfl rfl rfl rfl) (hr.mono (by decide)) (da_cons dx_i (da_cons dx_s da_nil)))) ds_nil)
      (ds_cons (ds_if (PW.pt (dw_or (dt_not (dt_tru rfl (cc_call (cal_is_sequence T) (hr.mono (by decide)) (T.gl 1 "is_sequence" rfl) (fun σ => passAt (takes_of rfl rfl rfl rfl) σ) (xG 4 dg_nil)))) (dw_or1 (dt_cmp op_gt d_gt (dx_bi (c_len rfl) k_len (by rfl) (T.fr 7 "len" rfl) PySem.boot_len (da_cons (xv 4) da_nil)) (xgI (T.int 1 _ rfl)))))) (ds_one (xr2 (er_BadProgram T) (takes_of rfl rfl rfl rfl) (hr.mono (by decide)) (da_cons dx_i (da_cons dx_s da_nil)))) ds_nil)
      (ds_cons (ds_at (fun C e => noat_of T 1 rfl (T.gl 70 "Program" rfl) (by decide) e) (xM 0) (xv 1))
      (ds_cons (ds_at (fun C e => noat_of T 1 rfl (T.gl 70 "Program" rfl) (by decide) e) (xM 0) (xv 2))
      (ds_cons (ds_at (fun C e => noat_of T 1 rfl (T.gl 70 "Program" rfl) (by decide) e) (xM 0) (xv 3))
      (ds_one (ds_at (fun C e => noat_of T 1 rfl (T.gl 70 "Program" rfl) (by decide) e) (xM 0) (dx_ty (c_tup rfl) k_tup (by rfl) (T.fr 14 "tuple" rfl) PyProof.Rows.boot_tuple (da_cons (dx_fz (dn_lc (own := [("index", 5), ("entry", 6)]) (g := (gTup K 2 (gCons (gName 5) (gCons (gName 6) gNil)))) (bind := (bTp [(bNm 5), (bNm 6)])) rfl sc_Program___init__.nd (di_enum (by rfl) (T.fr 3 "enumerate" rfl) (da_cons (xv 4) da_nil)) (blkOk_by (own := [("index", 5), ("entry", 6)]) (N := ["self", "figures", "rows", "columns", "products", "index", "entry"]) (sc := defScope (inClass (top 45) 0)) (by decide +kernel)) (bd_tp rfl (ba_cons (bd_nm (by decide)) (ba_cons (bd_nm (by decide)) ba_nil))) (fun _ _ _ _ _ => (pg_tup rfl (pgs_cons (gN 5 sc_Program___init__.nd) (pgs_cons (gN 6 sc_Program___init__.nd) pgs_nil)))) (fun _ _ _ _ _ => pts_no) (fun _ _ _ _ _ => (cc_call (cal_check_product T) (hr.mono (by decide)) (T.gl 24 "check_product" rfl) passF (xG 0 (xG 6 (xG 5 dg_nil))))))) da_nil)))))))))))) (FunD.bindsN D (fun _ _ _ _ _ _ us hl => match us, hl with | [_, _, _, _, _], _ => rfl))
theorem sc_Program___len__ : FnScope ["self"] ["self"] (defScope (inClass (top 45) 2)) := ⟨rfl, rfl, rfl, by decide +kernel, rfl, by decide +kernel, by decide +kernel⟩
theorem cal_Program___len__ (T : Fs tb K mg) : Cal P w ⟨K, mg, none⟩ base false 1 (He.ma K (He.ga K "Program") "__len__") 1 F_Program___len__ [] := by
  obtain ⟨fd, D⟩ : ∃ fd, FunD K "__len__" "Program.__len__" (defArgs (inClass (top 45) 2)) (defBody (inClass (top 45) 2)) (defScope (inClass (top 45) 2)) [] [] (He.ma K (He.ga K "Program") "__len__") fd := T.says.def_ 30 rfl
  exact cal_of D (ok_def (N := ["self"]) (ps := ["self"]) (k := 0) (c := ⟨K, mg, none⟩) D sc_Program___len__ (fun cdv A outer s H E hr => (ds_one (ds_ret (dx_bi (c_len rfl) k_len (by rfl) (T.fr 7 "len" rfl) PySem.boot_len (da_cons (xA 0) da_nil)))))) (FunD.bindsN D (fun _ _ _ _ _ _ us hl => match us, hl with | [_], _ => rfl))
theorem sc_answer_table : FnScope ["program", "place", "figures", "left", "entry"] ["program", "place"] (defScope (top 46)) := ⟨rfl, rfl, rfl, by decide +kernel, rfl, by decide +kernel, by decide +kernel⟩
theorem cal_answer_table (T : Fs tb K mg) : Cal P w ⟨K, mg, none⟩ base false 5 (He.ga K "answer_table") 2 F_answer_table [] := by
  obtain ⟨fd, D⟩ : ∃ fd, FunD K "answer_table" "answer_table" (defArgs (top 46)) (defBody (top 46)) (defScope (top 46)) [] [] (He.ga K "answer_table") fd := T.says.def_ 32 rfl
  exact cal_of D (ok_def (N := ["program", "place", "figures", "left", "entry"]) (ps := ["program", "place"]) (k := 4) (c := ⟨K, mg, none⟩) D sc_answer_table (fun cdv A outer s H E hr => (ds_cons (sS 2 sc_answer_table.nd (xA 0))
      (ds_cons (ds_if (dt_cmp (c_eqD hr.units rfl) d_eq (cc_lenI ⟨(T.spc 0 _ rfl).1, (T.spc 0 _ rfl).2⟩ (T.gl 70 "Program" rfl) (cal_Program___len__ T) (hr.mono (by decide)) (xv 0) (T.fr 7 "len" rfl)) dx_i) (ds_one (ds_ret (dx_fz (dn_times (dx_tup (da_cons (cc_call (cal_zero_row T) (hr.mono (by decide)) (T.gl 7 "zero_row" rfl) (fun σ => passAt (takes_of rfl rfl rfl rfl) σ) (xG 2 (dg_cons (xA 0) dg_nil))) da_nil)) (xA 0))))) ds_nil)
      (ds_cons (sS 3 sc_answer_table.nd (cc_call (cal_flipped_table T) (hr.mono (by decide)) (T.gl 16 "flipped_table" rfl) (fun σ => passAt (takes_of rfl rfl rfl rfl) σ) (dg_cons (dx_fz (dn_lc (own := [("entry", 4)]) (g := (gName 4)) (bind := (bNm 4)) rfl sc_answer_table.nd (di_ownP ⟨(T.spc 1 _ rfl).1, (T.spc 1 _ rfl).2⟩ (T.gl 70 "Program" rfl) (it_Program T) (hr.mono (by decide)) (xv 0)) (blkOk_by (own := [("entry", 4)]) (N := ["program", "place", "figures", "left", "entry"]) (sc := defScope (top 46)) (by decide +kernel)) (bd_nm (by decide)) (fun _ _ _ _ _ => (gN 4 sc_answer_table.nd)) (fun _ _ _ _ _ => pts_no) (fun _ _ _ _ _ => (cc_call (cal_row_scaled T) (hr.mono (by decide)) (T.gl 9 "row_scaled" rfl) passF (xG 2 (dg_cons (dx_ix (xv 4) (xv 1)) (dg_cons (dx_ix (xv 4) dx_i) dg_nil))))))) dg_nil)))
      (ds_one (ds_ret (cc_call (cal_table_times T) (hr.mono (by decide)) (T.gl 14 "table_times" rfl) (fun σ => passAt (takes_of rfl rfl rfl rfl) σ) (xG 2 (xG 3 (dg_cons (dx_fz (dn_lc (own := [("entry", 4)]) (g := (gName 4)) (bind := (bNm 4)) rfl sc_answer_table.nd (di_ownP ⟨(T.spc 1 _ rfl).1, (T.spc 1 _ rfl).2⟩ (T.gl 70 "Program" rfl) (it_Program T) (hr.mono (by decide)) (xv 0)) (blkOk_by (own := [("entry", 4)]) (N := ["program", "place", "figures", "left", "entry"]) (sc := defScope (top 46)) (by decide +kernel)) (bd_nm (by decide)) (fun _ _ _ _ _ => (gN 4 sc_answer_table.nd)) (fun _ _ _ _ _ => pts_no) (fun _ _ _ _ _ => (dx_ix (xv 4) dx_i)))) dg_nil))))))))))) (FunD.bindsN D (fun _ _ _ _ _ _ us hl => match us, hl with | [_, _], _ => rfl))
theorem sc_Program_pair : FnScope ["self"] ["self"] (defScope (inClass (top 45) 5)) := ⟨rfl, rfl, rfl, by decide +kernel, rfl, by decide +kernel, by decide +kernel⟩
theorem cal_Program_pair (T : Fs tb K mg) : Cal P w ⟨K, mg, none⟩ base false 8 (He.ma K (He.ga K "Program") "pair") 1 F_Program_pair [] := by
  obtain ⟨fd, D⟩ : ∃ fd, FunD K "pair" "Program.pair" (defArgs (inClass (top 45) 5)) (defBody (inClass (top 45) 5)) (defScope (inClass (top 45) 5)) [] [] (He.ma K (He.ga K "Program") "pair") fd := T.says.def_ 33 rfl
  exact cal_of D (ok_def (N := ["self"]) (ps := ["self"]) (k := 7) (c := ⟨K, mg, none⟩) D sc_Program_pair (fun cdv A outer s H E hr => (ds_one (ds_ret (cc_make (T.gl 69 "Pair" rfl) (T.cls 0 _ rfl).1 (T.cls 0 _ rfl).2 (cal_Pair___init__ T) (hr.mono (by decide)) (fun σ => passAt (takes_of rfl rfl rfl rfl) σ) (da_cons (xA 0) (da_cons (cc_call (cal_answer_table T) (hr.mono (by decide)) (T.gl 25 "answer_table" rfl) (fun σ => passAt (takes_of rfl rfl rfl rfl) σ) (xG 0 (dg_cons dx_i dg_nil))) (da_cons (cc_call (cal_answer_table T) (hr.mono (by decide)) (T.gl 25 "answer_table" rfl) (fun σ => passAt (takes_of rfl rfl rfl rfl) σ) (xG 0 (dg_cons dx_i dg_nil))) da_nil)))))))) (FunD.bindsN D (fun _ _ _ _ _ _ us hl => match us, hl with | [_], _ => rfl))
theorem sc_plain_program : FnScope ["pair", "figures", "products", "row", "column"] ["pair"] (defScope (top 48)) := ⟨rfl, rfl, rfl, by decide +kernel, rfl, by decide +kernel, by decide +kernel⟩
theorem cal_plain_program (T : Fs tb K mg) : Cal P w ⟨K, mg, none⟩ base false 9 (He.ga K "plain_program") 1 F_plain_program [] := by
  obtain ⟨fd, D⟩ : ∃ fd, FunD K "plain_program" "plain_program" (defArgs (top 48)) (defBody (top 48)) (defScope (top 48)) [] [] (He.ga K "plain_program") fd := T.says.def_ 34 rfl
  exact cal_of D (ok_def (N := ["pair", "figures", "products", "row", "column"]) (ps := ["pair"]) (k := 8) (c := ⟨K, mg, none⟩) D sc_plain_program (fun cdv A outer s H E hr => (ds_cons (sS 1 sc_plain_program.nd (xA 0))
      (ds_cons (ds_setLc2F (i := 2) (own := [("row", 3), ("column", 4)]) (vs1 := [4]) (g := (gName 3)) (g1 := (gName 4)) (bind := (bNm 3)) (bind1 := (bNm 4)) rfl sc_plain_program.nd rfl rfl (sw_true rfl rfl rfl (by decide +kernel)) (di_rg1 (by rfl) (T.fr 11 "range" rfl) (da_cons (xA 0) da_nil)) (blkOk_by (own := [("row", 3), ("column", 4)]) (N := ["pair", "figures", "products", "row", "column"]) (sc := defScope (top 48)) (by decide +kernel)) (by decide) (bd_nm (by decide)) (bd_nm (by decide)) (fun _ _ _ _ _ => (gN 3 sc_plain_program.nd)) (fun _ _ _ _ _ => pts_no) (fun _ _ _ _ _ => (di_rg1 (by rfl) (T.fr 11 "range" rfl) (da_cons (xA 0) da_nil))) (fun _ _ _ _ _ => (gN 4 sc_plain_program.nd)) (fun _ _ _ _ _ => (pts_if (PW.pt (dw_or (dt_cmp (c_neD hr.units rfl) d_ne (dx_ix (dx_ix (xA 0) (xv 3)) (xv 4)) (xA 1)) (dw_or1 (dt_cmp (c_neD hr.units rfl) d_ne (dx_ix (dx_ix (xA 0) (xv 3)) (xv 4)) (xA 1))))))) (fun _ _ _ _ _ => (dx_tup (da_cons (cc_call (cal_unit_row T) (hr.mono (by decide)) (T.gl 8 "unit_row" rfl) passF (xG 1 (dg_cons (xA 0) (xG 3 dg_nil)))) (da_cons (cc_call (cal_unit_row T) (hr.mono (by decide)) (T.gl 8 "unit_row" rfl) passF (xG 1 (dg_cons (xA 0) (xG 4 dg_nil)))) (da_cons (dx_ix (dx_ix (xA 0) (xv 3)) (xv 4)) (da_cons (dx_ix (dx_ix (xA 0) (xv 3)) (xv 4)) da_nil)))))))
      (ds_one (ds_ret (cc_make (T.gl 70 "Program" rfl) (T.cls 1 _ rfl).1 (T.cls 1 _ rfl).2 (cal_Program___init__ T) (hr.mono (by decide)) (fun σ => passAt (takes_of rfl rfl rfl rfl) σ) (da_cons (xv 1) (da_cons (xA 0) (da_cons (xA 0) (da_cons (xv 2) da_nil))))))))))) (FunD.bindsN D (fun _ _ _ _ _ _ us hl => match us, hl with | [_], _ => rfl))
theorem sc_placed_row : FnScope ["figures", "row", "ahead", "many"] ["figures", "row", "ahead", "many"] (defScope (top 49)) := ⟨rfl, rfl, rfl, by decide +kernel, rfl, by decide +kernel, by decide +kernel⟩
theorem cal_placed_row (T : Fs tb K mg) : Cal P w ⟨K, mg, none⟩ base false 2 (He.ga K "placed_row") 4 F_placed_row [] := by
  obtain ⟨fd, D⟩ : ∃ fd, FunD K "placed_row" "placed_row" (defArgs (top 49)) (defBody (top 49)) (defScope (top 49)) [] [] (He.ga K "placed_row") fd := T.says.def_ 35 rfl
  exact cal_of D (ok_def (N := ["figures", "row", "ahead", "many"]) (ps := ["figures", "row", "ahead", "many"]) (k := 1) (c := ⟨K, mg, none⟩) D sc_placed_row (fun cdv A outer s H E hr => (ds_one (ds_ret (dx_fz (dn_plus (dx_fz (dn_plus (cc_call (cal_zero_row T) (hr.mono (by decide)) (T.gl 7 "zero_row" rfl) (fun σ => passAt (takes_of rfl rfl rfl rfl) σ) (xG 0 (xG 2 dg_nil))) (xv 1))) (cc_call (cal_zero_row T) (hr.mono (by decide)) (T.gl 7 "zero_row" rfl) (fun σ => passAt (takes_of rfl rfl rfl rfl) σ) (xG 0 (dg_cons (dx_op op_sub d_sub (dx_op op_sub d_sub (xv 3) (xv 2)) (dx_bi (c_len rfl) k_len (by rfl) (T.fr 7 "len" rfl) PySem.boot_len (da_cons (xv 1) da_nil))) dg_nil))))))))) (FunD.bindsN D (fun _ _ _ _ _ _ us hl => match us, hl with | [_, _, _, _], _ => rfl))
theorem sc_corner_products : FnScope ["figures", "rows", "columns", "programs", "made", "row", "column", "program", "left", "right", "first", "second"] ["figures", "rows", "columns", "programs"] (defScope (top 50)) := ⟨rfl, rfl, rfl, by decide +kernel, rfl, by decide +kernel, by decide +kernel⟩
theorem cal_corner_products (T : Fs tb K mg) : Cal P w ⟨K, mg, none⟩ base false 3 (He.ga K "corner_products") 4 F_corner_products [] := by
  obtain ⟨fd, D⟩ : ∃ fd, FunD K "corner_products" "corner_products" (defArgs (top 50)) (defBody (top 50)) (defScope (top 50)) [] [] (He.ga K "corner_products") fd := T.says.def_ 36 rfl
  exact cal_of D (ok_def (N := ["figures", "rows", "columns", "programs", "made", "row", "column", "program", "left", "right", "first", "second"]) (ps := ["figures", "rows", "columns", "programs"]) (k := 2) (c := ⟨K, mg, none⟩) D sc_corner_products (fun cdv A outer s H E hr => (ds_cons (sSN 4 sc_corner_products.nd (dn_lst da_nil))
      (ds_cons (sS 5 sc_corner_products.nd dx_i)
      (ds_cons (sS 6 sc_corner_products.nd dx_i)
      (ds_cons (ds_for (vs := [7]) (gg := (gName 7)) (bind := (bNm 7)) (passes_of rfl) rfl (bd_nm (by decide)) (di_seq (xv 3)) (gN 7 sc_corner_products.nd) (ds_cons (ds_for (vs := [8, 9, 10, 11]) (gg := (gTup K 4 (gCons (gName 8) (gCons (gName 9) (gCons (gName 10) (gCons (gName 11) gNil)))))) (bind := (bTp [(bNm 8), (bNm 9), (bNm 10), (bNm 11)])) (passes_of rfl) rfl (bd_tp rfl (ba_cons (bd_nm (by decide)) (ba_cons (bd_nm (by decide)) (ba_cons (bd_nm (by decide)) (ba_cons (bd_nm (by decide)) ba_nil))))) (di_ownP ⟨(T.spc 1 _ rfl).1, (T.spc 1 _ rfl).2⟩ (T.gl 70 "Program" rfl) (it_Program T) (hr.mono (by decide)) (xv 7)) (pg_tup rfl (pgs_cons (gN 8 sc_corner_products.nd) (pgs_cons (gN 9 sc_corner_products.nd) (pgs_cons (gN 10 sc_corner_products.nd) (pgs_cons (gN 11 sc_corner_products.nd) pgs_nil))))) (ds_cons (sS 8 sc_corner_products.nd (cc_call (cal_placed_row T) (hr.mono (by decide)) (T.gl 27 "placed_row" rfl) (fun σ => passAt (takes_of rfl rfl rfl rfl) σ) (xG 0 (xG 8 (xG 5 (xG 1 dg_nil))))))
      (ds_one (ds_app (xP 4) (dn_of (dx_tup (da_cons (xv 8) (da_cons (cc_call (cal_placed_row T) (hr.mono (by decide)) (T.gl 27 "placed_row" rfl) (fun σ => passAt (takes_of rfl rfl rfl rfl) σ) (xG 0 (xG 9 (xG 6 (xG 2 dg_nil))))) (da_cons (xv 10) (da_cons (xv 11) da_nil))))))))))
      (ds_one (ds_par (i := 5) (j := 6) rfl sc_corner_products.nd rfl rfl (by decide) rfl rfl (da_cons (dx_op op_add d_add (xv 5) (xA 7)) (da_cons (dx_op op_add d_add (xv 6) (xA 7)) da_nil))))))
      (ds_one (ds_frz 4 (ds_ret (xv 4)))))))))) (FunD.bindsN D (fun _ _ _ _ _ _ us hl => match us, hl with | [_, _, _, _], _ => rfl))
theorem sc_Figures___eq__ : FnScope ["self", "other"] ["self", "other"] (defScope (inClass (top 54) 1)) := ⟨rfl, rfl, rfl, by decide +kernel, rfl, by decide +kernel, by decide +kernel⟩
theorem cal_Figures___eq__ (T : Fs tb K mg) : Cal P w ⟨K, mg, none⟩ base false 1 (He.ma K (He.ga K "Figures") "__eq__") 2 F_Figures___eq__ [] := by
  obtain ⟨fd, D⟩ : ∃ fd, FunD K "__eq__" "Figures.__eq__" (defArgs (inClass (top 54) 1)) (defBody (inClass (top 54) 1)) (defScope (inClass (top 54) 1)) [] [] (He.ma K (He.ga K "Figures") "__eq__") fd := T.says.def_ 37 rfl
  exact cal_of D (ok_def (N := ["self", "other"]) (ps := ["self", "other"]) (k := 0) (c := ⟨K, mg, none⟩) D sc_Figures___eq__ (fun cdv A outer s H E hr => (ds_one (ds_ret (dx_and (dx_isC (ms := [("Figures", true)]) (bf := false) T 71 rfl (by decide +kernel) (by decide +kernel) (T.fr 5 "isinstance" rfl) (xv 1)) (dx_one (dx_cmp (c_eqD hr.units rfl) d_eq (xA 0) (xA 1)))))))) (FunD.bindsN D (fun _ _ _ _ _ _ us hl => match us, hl with | [_, _], _ => rfl))
theorem sc_programs_beside : FnScope ["programs", "figures", "program", "rows", "columns"] ["programs"] (defScope (top 51)) := ⟨rfl, rfl, rfl, by decide +kernel, rfl, by decide +kernel, by decide +kernel⟩
theorem cal_programs_beside (T : Fs tb K mg) : Cal P w ⟨K, mg, none⟩ base false 9 (He.ga K "programs_beside") 1 F_programs_beside [] := by
  obtain ⟨fd, D⟩ : ∃ fd, FunD K "programs_beside" "programs_beside" (defArgs (top 51)) (defBody (top 51)) (defScope (top 51)) [] [] (He.ga K "programs_beside") fd := T.says.def_ 38 rfl
  exact cal_of D (ok_def (N := ["programs", "figures", "program", "rows", "columns"]) (ps := ["programs"]) (k := 8) (c := ⟨K, mg, none⟩) D sc_programs_beside (fun cdv A outer s H E hr => (ds_cons (ds_if (PW.pt (dw_or (dt_not (dt_tru rfl (cc_call (cal_is_sequence T) (hr.mono (by decide)) (T.gl 1 "is_sequence" rfl) (fun σ => passAt (takes_of rfl rfl rfl rfl) σ) (xG 0 dg_nil)))) (dw_or1 (dt_not (dt_ch op_le op_le d_le d_le dx_i (dx_bi (c_len rfl) k_len (by rfl) (T.fr 7 "len" rfl) PySem.boot_len (da_cons (xv 0) da_nil)) (xgI (T.int 0 _ rfl))))))) (ds_one (xr1 (er_BadMany T) (takes_of rfl rfl rfl rfl) (hr.mono (by decide)) (da_cons (xgI (T.int 0 _ rfl)) da_nil))) ds_nil)
      (ds_cons (sS 1 sc_programs_beside.nd (dx_at (dx_ix (xv 0) dx_i)))
      (ds_cons (ds_for (vs := [2]) (gg := (gName 2)) (bind := (bNm 2)) (passes_of rfl) rfl (bd_nm (by decide)) (di_seq (xv 0)) (gN 2 sc_programs_beside.nd) (ds_one (ds_if (ct_neI (T.ne 0 _ rfl) (T.spc 2 _ rfl).1 (T.spc 2 _ rfl).2 (T.cls 2 _ rfl).1.mo (T.gl 71 "Figures" rfl) (cal_Figures___eq__ T) (hr.mono (by decide)) (xA 2) (xv 1)) (ds_one (xr0 (er_Unlike T) (takes_of rfl rfl rfl rfl))) ds_nil)))
      (ds_cons (sS 3 sc_programs_beside.nd (dx_bi (c_sum rfl rfl) k_sum (by rfl) (T.fr 13 "sum" rfl) (by decide +kernel) (da_cons (dx_fz (dn_lc (own := [("program", 2)]) (g := (gName 2)) (bind := (bNm 2)) rfl sc_programs_beside.nd (di_seq (xv 0)) (blkOk_by (own := [("program", 2)]) (N := ["programs", "figures", "program", "rows", "columns"]) (sc := defScope (top 51)) (by decide +kernel)) (bd_nm (by decide)) (fun _ _ _ _ _ => (gN 2 sc_programs_beside.nd)) (fun _ _ _ _ _ => pts_no) (fun _ _ _ _ _ => (xA 2)))) da_nil)))
      (ds_cons (sS 4 sc_programs_beside.nd (dx_bi (c_sum rfl rfl) k_sum (by rfl) (T.fr 13 "sum" rfl) (by decide +kernel) (da_cons (dx_fz (dn_lc (own := [("program", 2)]) (g := (gName 2)) (bind := (bNm 2)) rfl sc_programs_beside.nd (di_seq (xv 0)) (blkOk_by (own := [("program", 2)]) (N := ["programs", "figures", "program", "rows", "columns"]) (sc := defScope (top 51)) (by decide +kernel)) (bd_nm (by decide)) (fun _ _ _ _ _ => (gN 2 sc_programs_beside.nd)) (fun _ _ _ _ _ => pts_no) (fun _ _ _ _ _ => (xA 2)))) da_nil)))
      (ds_one (ds_ret (cc_make (T.gl 70 "Program" rfl) (T.cls 1 _ rfl).1 (T.cls 1 _ rfl).2 (cal_Program___init__ T) (hr.mono (by decide)) (fun σ => passAt (takes_of rfl rfl rfl rfl) σ) (da_cons (xv 1) (da_cons (xv 3) (da_cons (xv 4) (da_cons (cc_call (cal_corner_products T) (hr.mono (by decide)) (T.gl 28 "corner_products" rfl) (fun σ => passAt (takes_of rfl rfl rfl rfl) σ) (xG 1 (xG 3 (xG 4 (xG 0 dg_nil))))) da_nil)))))))))))))) (FunD.bindsN D (fun _ _ _ _ _ _ us hl => match us, hl with | [_], _ => rfl))
theorem sc_Figures___init__ : FnScope ["self", "prime"] ["self", "prime"] (defScope (inClass (top 54) 0)) := ⟨rfl, rfl, rfl, by decide +kernel, rfl, by decide +kernel, by decide +kernel⟩
theorem cal_Figures___init__ (T : Fs tb K mg) : Cal P w ⟨K, mg, none⟩ base false 3 (He.ma K (He.ga K "Figures") "__init__") 2 F_Figures___init__ [] := by
  obtain ⟨fd, D⟩ : ∃ fd, FunD K "__init__" "Figures.__init__" (defArgs (inClass (top 54) 0)) (defBody (inClass (top 54) 0)) (defScope (inClass (top 54) 0)) [] [] (He.ma K (He.ga K "Figures") "__init__") fd := T.says.def_ 39 rfl
  exact cal_of D (ok_def (N := ["self", "prime"]) (ps := ["self", "prime"]) (k := 2) (c := ⟨K, mg, none⟩) D sc_Figures___init__ (fun cdv A outer s H E hr => (ds_cons (ds_if (PW.pt (dw_or (dt_not (dt_tru rfl (cc_call (cal_is_whole_2 T) (hr.mono (by decide)) (T.gl 0 "is_whole" rfl) (fun σ => passAt (takes_of rfl rfl rfl rfl) σ) (xG 1 dg_nil)))) (dw_or1 (dt_cmp (c_nin rfl) d_nin (xv 1) (xgT (tupOk_OFFERED T)))))) (ds_one (xr1 (er_BadFigures T) (takes_of rfl rfl rfl rfl) (hr.mono (by decide)) (da_cons (xv 1) da_nil))) ds_nil)
      (ds_cons (ds_at (fun C e => noat_of T 2 rfl (T.gl 71 "Figures" rfl) (by decide) e) (xM 0) (xv 1))
      (ds_cons (ds_at (fun C e => noat_of T 2 rfl (T.gl 71 "Figures" rfl) (by decide) e) (xM 0) (dx_if (dt_cmp (c_eqD hr.units rfl) d_eq (xv 1) dx_i) (dx_tup (da_cons dx_i (da_cons dx_i da_nil))) dx_i))
      (ds_one (ds_at (fun C e => noat_of T 2 rfl (T.gl 71 "Figures" rfl) (by decide) e) (xM 0) (dx_if (dt_cmp (c_eqD hr.units rfl) d_eq (xv 1) dx_i) (dx_tup (da_cons dx_i (da_cons dx_i da_nil))) dx_i)))))))) (FunD.bindsN D (fun _ _ _ _ _ _ us hl => match us, hl with | [_, _], _ => rfl))
theorem sc__law_mixed : FnScope ["_law_number_here", "_law_turn", "_law_once", "_law_twice"] ["_law_number_here", "_law_turn"] (defScope (top 57)) := ⟨rfl, rfl, rfl, by decide +kernel, rfl, by decide +kernel, by decide +kernel⟩
theorem cal__law_mixed (T : Fs tb K mg) : Cal P w ⟨K, mg, none⟩ base false 1 (He.ga K "_law_mixed") 2 F__law_mixed [] := by
  obtain ⟨fd, D⟩ : ∃ fd, FunD K "_law_mixed" "_law_mixed" (defArgs (top 57)) (defBody (top 57)) (defScope (top 57)) [] [] (He.ga K "_law_mixed") fd := T.says.def_ 41 rfl
  exact cal_of D (ok_def (N := ["_law_number_here", "_law_turn", "_law_once", "_law_twice"]) (ps := ["_law_number_here", "_law_turn"]) (k := 0) (c := ⟨K, mg, none⟩) D sc__law_mixed (fun cdv A outer s H E hr => (ds_cons (sS 2 sc__law_mixed.nd (dx_op op_modN d_mod (dx_ty call_int1 k_int (by rfl) (T.fr 4 "int" rfl) PyProof.Rows.boot_int (da_cons (dx_op op_add d_add (dx_op op_add d_add (dx_op op_mulW d_mul (xv 0) dx_i) (dx_op op_mulW d_mul (xv 1) dx_i)) dx_i) da_nil)) dx_i))
      (ds_cons (sS 3 sc__law_mixed.nd (dx_op op_modN d_mod (dx_ty call_int1 k_int (by rfl) (T.fr 4 "int" rfl) PyProof.Rows.boot_int (da_cons (dx_op op_add d_add (dx_op op_add d_add (dx_op op_mulW d_mul (xv 2) (xv 2)) (dx_op op_mulW d_mul (xv 1) dx_i)) (dx_op op_fdivG d_div (xv 2) dx_i)) da_nil)) dx_i))
      (ds_one (ds_ret (dx_op op_fdivG d_div (dx_ty call_int1 k_int (by rfl) (T.fr 4 "int" rfl) PyProof.Rows.boot_int (da_cons (dx_op op_modN d_mod (dx_ty call_int1 k_int (by rfl) (T.fr 4 "int" rfl) PyProof.Rows.boot_int (da_cons (dx_op op_add d_add (dx_op op_mulW d_mul (xv 3) dx_i) (dx_op op_fdivG d_div (xv 2) dx_i)) da_nil)) dx_i) da_nil)) dx_i))))))) (FunD.bindsN D (fun _ _ _ _ _ _ us hl => match us, hl with | [_, _], _ => rfl))
end
end N71
namespace N71
open PySem PySem.Spec PyProof.Rows L2 Fw
section
variable {P : Program} {w : World} {K : PySem.W.Frag} {mg : Str → Option Value} {base : Heap}
theorem sc__law_take : FnScope ["_law_hand_here", "_law_many", "_law_cell", "_law_rest"] ["_law_hand_here", "_law_many"] (defScope (top 58)) := ⟨rfl, rfl, rfl, by decide +kernel, rfl, by decide +kernel, by decide +kernel⟩
theorem cal__law_take (T : Fs tb K mg) : Cal P w ⟨K, mg, none⟩ base false 2 (He.ga K "_law_take") 2 F__law_take [] := by
  obtain ⟨fd, D⟩ : ∃ fd, FunD K "_law_take" "_law_take" (defArgs (top 58)) (defBody (top 58)) (defScope (top 58)) [] [] (He.ga K "_law_take") fd := T.says.def_ 42 rfl
  exact cal_of D (ok_def (N := ["_law_hand_here", "_law_many", "_law_cell", "_law_rest"]) (ps := ["_law_hand_here", "_law_many"]) (k := 1) (c := ⟨K, mg, none⟩) D sc__law_take (fun cdv A outer s H E hr => (ds_cons (ds_if (PW.pt (dw_and (dt_cmp (c_eqD hr.units rfl) d_eq (dx_ixM (xM 0) dx_i) dx_i) (dw_and1 (dt_cmp op_lt d_lt (dx_ixM (xM 0) dx_i) (dx_bi (c_len rfl) k_len (by rfl) (T.fr 7 "len" rfl) PySem.boot_len (da_cons (dx_ixM (xM 0) dx_i) da_nil)))))) (ds_cons (sS 2 sc__law_take.nd (dx_ix (dx_ixM (xM 0) dx_i) (dx_ixM (xM 0) dx_i)))
      (ds_cons (ds_stM (dx_op op_add d_add (dx_ixM (xM 0) dx_i) dx_i) (xM 0) dx_i)
      (ds_cons (ds_if (dt_cmp op_lt d_lt (xv 2) (dx_op op_pow d_pow dx_i dx_i)) (ds_one (ds_ret (dx_op op_modN d_mod (dx_ty call_int1 k_int (by rfl) (T.fr 4 "int" rfl) PyProof.Rows.boot_int (da_cons (cc_call (cal__law_mixed T) (hr.mono (by decide)) (T.gl 31 "_law_mixed" rfl) (fun σ => passAt (takes_of rfl rfl rfl rfl) σ) (dg_cons (dx_op op_modN d_mod (dx_ty call_int1 k_int (by rfl) (T.fr 4 "int" rfl) PyProof.Rows.boot_int (da_cons (xv 2) da_nil)) dx_i) (dg_cons (dx_ixM (xM 0) dx_i) dg_nil))) da_nil)) (xv 1)))) ds_nil)
      (ds_one (ds_stM (xv 2) (xM 0) dx_i))))) ds_nil)
      (ds_cons (ds_if (dt_cmp op_gt d_gt (dx_ixM (xM 0) dx_i) dx_i) (ds_cons (sS 3 sc__law_take.nd (dx_ixM (xM 0) dx_i))
      (ds_cons (ds_stM (dx_op op_fdivG d_div (dx_ty call_int1 k_int (by rfl) (T.fr 4 "int" rfl) PyProof.Rows.boot_int (da_cons (xv 3) da_nil)) (xv 1)) (xM 0) dx_i)
      (ds_one (ds_ret (dx_op op_modN d_mod (dx_ty call_int1 k_int (by rfl) (T.fr 4 "int" rfl) PyProof.Rows.boot_int (da_cons (xv 3) da_nil)) (xv 1)))))) ds_nil)
      (ds_cons (ds_stM (dx_op op_modN d_mod (dx_ty call_int1 k_int (by rfl) (T.fr 4 "int" rfl) PyProof.Rows.boot_int (da_cons (dx_op op_add d_add (dx_ixM (xM 0) dx_i) dx_i) da_nil)) dx_i) (xM 0) dx_i)
      (ds_one (ds_ret (dx_op op_modN d_mod (dx_ty call_int1 k_int (by rfl) (T.fr 4 "int" rfl) PyProof.Rows.boot_int (da_cons (cc_call (cal__law_mixed T) (hr.mono (by decide)) (T.gl 31 "_law_mixed" rfl) (fun σ => passAt (takes_of rfl rfl rfl rfl) σ) (dg_cons (dx_ixM (xM 0) dx_i) (dg_cons (dx_ixM (xM 0) dx_i) dg_nil))) da_nil)) (xv 1))))))))) (FunD.bindsN D (fun _ _ _ _ _ _ us hl => match us, hl with | [_, _], _ => rfl))
theorem sc__law_gcd : FnScope ["_law_one", "_law_other", "_law_a", "_law_b", "_law_k", "_law_rest"] ["_law_one", "_law_other"] (defScope (top 59)) := ⟨rfl, rfl, rfl, by decide +kernel, rfl, by decide +kernel, by decide +kernel⟩
theorem cal__law_gcd (T : Fs tb K mg) : Cal P w ⟨K, mg, none⟩ base false 1 (He.ga K "_law_gcd") 2 F__law_gcd [] := by
  obtain ⟨fd, D⟩ : ∃ fd, FunD K "_law_gcd" "_law_gcd" (defArgs (top 59)) (defBody (top 59)) (defScope (top 59)) [] [] (He.ga K "_law_gcd") fd := T.says.def_ 43 rfl
  exact cal_of D (ok_def (N := ["_law_one", "_law_other", "_law_a", "_law_b", "_law_k", "_law_rest"]) (ps := ["_law_one", "_law_other"]) (k := 0) (c := ⟨K, mg, none⟩) D sc__law_gcd (fun cdv A outer s H E hr => (ds_cons (sS 2 sc__law_gcd.nd (dx_bi call_abs k_abs (by rfl) (T.fr 0 "abs" rfl) (by decide +kernel) (da_cons (xv 0) da_nil)))
      (ds_cons (sS 3 sc__law_gcd.nd (dx_bi call_abs k_abs (by rfl) (T.fr 0 "abs" rfl) (by decide +kernel) (da_cons (xv 1) da_nil)))
      (ds_cons (ds_for (vs := [4]) (gg := (gName 4)) (bind := (bNm 4)) (passes_of rfl) rfl (bd_nm (by decide)) (di_rg1 (by rfl) (T.fr 11 "range" rfl) (da_cons dx_i da_nil)) (gN 4 sc__law_gcd.nd) (ds_cons (ds_if (dt_cmp (c_eqD hr.units rfl) d_eq (xv 3) dx_i) (ds_one (ds_ret (xv 2))) ds_nil)
      (ds_cons (sS 5 sc__law_gcd.nd (dx_op op_modN d_mod (dx_ty call_int1 k_int (by rfl) (T.fr 4 "int" rfl) PyProof.Rows.boot_int (da_cons (xv 2) da_nil)) (xv 3)))
      (ds_cons (sS 2 sc__law_gcd.nd (xv 3))
      (ds_one (sS 3 sc__law_gcd.nd (xv 5)))))))
      (ds_one (ds_ret dx_i))))))) (FunD.bindsN D (fun _ _ _ _ _ _ us hl => match us, hl with | [_, _], _ => rfl))
theorem sc__law_ratio : FnScope ["_law_top", "_law_bottom", "_law_common"] ["_law_top", "_law_bottom"] (defScope (top 60)) := ⟨rfl, rfl, rfl, by decide +kernel, rfl, by decide +kernel, by decide +kernel⟩
theorem cal__law_ratio (T : Fs tb K mg) : Cal P w ⟨K, mg, none⟩ base false 2 (He.ga K "_law_ratio") 2 F__law_ratio [] := by
  obtain ⟨fd, D⟩ : ∃ fd, FunD K "_law_ratio" "_law_ratio" (defArgs (top 60)) (defBody (top 60)) (defScope (top 60)) [] [] (He.ga K "_law_ratio") fd := T.says.def_ 44 rfl
  exact cal_of D (ok_def (N := ["_law_top", "_law_bottom", "_law_common"]) (ps := ["_law_top", "_law_bottom"]) (k := 1) (c := ⟨K, mg, none⟩) D sc__law_ratio (fun cdv A outer s H E hr => (ds_cons (sS 2 sc__law_ratio.nd (cc_call (cal__law_gcd T) (hr.mono (by decide)) (T.gl 33 "_law_gcd" rfl) (fun σ => passAt (takes_of rfl rfl rfl rfl) σ) (xG 0 (xG 1 dg_nil))))
      (ds_cons (ds_if (dt_cmp op_lt d_lt (xv 1) dx_i) (ds_one (sS 2 sc__law_ratio.nd (dx_neg (xv 2)))) ds_nil)
      (ds_one (ds_ret (dx_tup (da_cons (dx_op op_fdivG d_div (xv 0) (xv 2)) (da_cons (dx_op op_fdivG d_div (xv 1) (xv 2)) da_nil))))))))) (FunD.bindsN D (fun _ _ _ _ _ _ us hl => match us, hl with | [_, _], _ => rfl))
theorem sc__law_num : FnScope ["_law_p", "_law_many"] ["_law_p", "_law_many"] (defScope (top 61)) := ⟨rfl, rfl, rfl, by decide +kernel, rfl, by decide +kernel, by decide +kernel⟩
theorem cal__law_num (T : Fs tb K mg) : Cal P w ⟨K, mg, none⟩ base false 1 (He.ga K "_law_num") 2 F__law_num [] := by
  obtain ⟨fd, D⟩ : ∃ fd, FunD K "_law_num" "_law_num" (defArgs (top 61)) (defBody (top 61)) (defScope (top 61)) [] [] (He.ga K "_law_num") fd := T.says.def_ 45 rfl
  exact cal_of D (ok_def (N := ["_law_p", "_law_many"]) (ps := ["_law_p", "_law_many"]) (k := 0) (c := ⟨K, mg, none⟩) D sc__law_num (fun cdv A outer s H E hr => (ds_cons (ds_if (dt_cmp (c_eqD hr.units rfl) d_eq (xv 0) dx_i) (ds_one (ds_ret (dx_tup (da_cons (xv 1) (da_cons dx_i da_nil))))) ds_nil)
      (ds_one (ds_ret (dx_op op_modN d_mod (dx_ty call_int1 k_int (by rfl) (T.fr 4 "int" rfl) PyProof.Rows.boot_int (da_cons (xv 1) da_nil)) (xv 0))))))) (FunD.bindsN D (fun _ _ _ _ _ _ us hl => match us, hl with | [_, _], _ => rfl))
theorem sc__law_plus : FnScope ["_law_p", "_law_one", "_law_other"] ["_law_p", "_law_one", "_law_other"] (defScope (top 62)) := ⟨rfl, rfl, rfl, by decide +kernel, rfl, by decide +kernel, by decide +kernel⟩
theorem cal__law_plus (T : Fs tb K mg) : Cal P w ⟨K, mg, none⟩ base false 3 (He.ga K "_law_plus") 3 F__law_plus [] := by
  obtain ⟨fd, D⟩ : ∃ fd, FunD K "_law_plus" "_law_plus" (defArgs (top 62)) (defBody (top 62)) (defScope (top 62)) [] [] (He.ga K "_law_plus") fd := T.says.def_ 46 rfl
  exact cal_of D (ok_def (N := ["_law_p", "_law_one", "_law_other"]) (ps := ["_law_p", "_law_one", "_law_other"]) (k := 2) (c := ⟨K, mg, none⟩) D sc__law_plus (fun cdv A outer s H E hr => (ds_cons (ds_if (dt_cmp (c_eqD hr.units rfl) d_eq (xv 0) dx_i) (ds_cons (ds_if (PW.pt (dw_and (dt_cmp (c_eqD hr.units rfl) d_eq (dx_ix (xv 1) dx_i) dx_i) (dw_and1 (dt_cmp (c_eqD hr.units rfl) d_eq (dx_ix (xv 2) dx_i) dx_i)))) (ds_one (ds_ret (dx_tup (da_cons (dx_op op_add d_add (dx_ix (xv 1) dx_i) (dx_ix (xv 2) dx_i)) (da_cons dx_i da_nil))))) ds_nil)
      (ds_one (ds_ret (cc_call (cal__law_ratio T) (hr.mono (by decide)) (T.gl 34 "_law_ratio" rfl) (fun σ => passAt (takes_of rfl rfl rfl rfl) σ) (dg_cons (dx_op op_add d_add (dx_op op_mulW d_mul (dx_ix (xv 1) dx_i) (dx_ix (xv 2) dx_i)) (dx_op op_mulW d_mul (dx_ix (xv 2) dx_i) (dx_ix (xv 1) dx_i))) (dg_cons (dx_op op_mulW d_mul (dx_ix (xv 1) dx_i) (dx_ix (xv 2) dx_i)) dg_nil)))))) ds_nil)
      (ds_one (ds_ret (dx_op op_modN d_mod (dx_ty call_int1 k_int (by rfl) (T.fr 4 "int" rfl) PyProof.Rows.boot_int (da_cons (dx_op op_add d_add (xv 1) (xv 2)) da_nil)) (xv 0))))))) (FunD.bindsN D (fun _ _ _ _ _ _ us hl => match us, hl with | [_, _, _], _ => rfl))
theorem sc__law_times : FnScope ["_law_p", "_law_one", "_law_other"] ["_law_p", "_law_one", "_law_other"] (defScope (top 63)) := ⟨rfl, rfl, rfl, by decide +kernel, rfl, by decide +kernel, by decide +kernel⟩
theorem cal__law_times (T : Fs tb K mg) : Cal P w ⟨K, mg, none⟩ base false 3 (He.ga K "_law_times") 3 F__law_times [] := by
  obtain ⟨fd, D⟩ : ∃ fd, FunD K "_law_times" "_law_times" (defArgs (top 63)) (defBody (top 63)) (defScope (top 63)) [] [] (He.ga K "_law_times") fd := T.says.def_ 47 rfl
  exact cal_of D (ok_def (N := ["_law_p", "_law_one", "_law_other"]) (ps := ["_law_p", "_law_one", "_law_other"]) (k := 2) (c := ⟨K, mg, none⟩) D sc__law_times (fun cdv A outer s H E hr => (ds_cons (ds_if (dt_cmp (c_eqD hr.units rfl) d_eq (xv 0) dx_i) (ds_cons (ds_if (PW.pt (dw_and (dt_cmp (c_eqD hr.units rfl) d_eq (dx_ix (xv 1) dx_i) dx_i) (dw_and1 (dt_cmp (c_eqD hr.units rfl) d_eq (dx_ix (xv 2) dx_i) dx_i)))) (ds_one (ds_ret (dx_tup (da_cons (dx_op op_mulW d_mul (dx_ix (xv 1) dx_i) (dx_ix (xv 2) dx_i)) (da_cons dx_i da_nil))))) ds_nil)
      (ds_one (ds_ret (cc_call (cal__law_ratio T) (hr.mono (by decide)) (T.gl 34 "_law_ratio" rfl) (fun σ => passAt (takes_of rfl rfl rfl rfl) σ) (dg_cons (dx_op op_mulW d_mul (dx_ix (xv 1) dx_i) (dx_ix (xv 2) dx_i)) (dg_cons (dx_op op_mulW d_mul (dx_ix (xv 1) dx_i) (dx_ix (xv 2) dx_i)) dg_nil)))))) ds_nil)
      (ds_one (ds_ret (dx_op op_modN d_mod (dx_ty call_int1 k_int (by rfl) (T.fr 4 "int" rfl) PyProof.Rows.boot_int (da_cons (dx_op op_mulW d_mul (xv 1) (xv 2)) da_nil)) (xv 0))))))) (FunD.bindsN D (fun _ _ _ _ _ _ us hl => match us, hl with | [_, _, _], _ => rfl))
theorem sc__law_zero : FnScope ["_law_p", "_law_one"] ["_law_p", "_law_one"] (defScope (top 64)) := ⟨rfl, rfl, rfl, by decide +kernel, rfl, by decide +kernel, by decide +kernel⟩
theorem cal__law_zero (T : Fs tb K mg) : Cal P w ⟨K, mg, none⟩ base false 2 (He.ga K "_law_zero") 2 F__law_zero [] := by
  obtain ⟨fd, D⟩ : ∃ fd, FunD K "_law_zero" "_law_zero" (defArgs (top 64)) (defBody (top 64)) (defScope (top 64)) [] [] (He.ga K "_law_zero") fd := T.says.def_ 48 rfl
  exact cal_of D (ok_def (N := ["_law_p", "_law_one"]) (ps := ["_law_p", "_law_one"]) (k := 1) (c := ⟨K, mg, none⟩) D sc__law_zero (fun cdv A outer s H E hr => (ds_one (ds_ret (dx_cmp (c_eqD hr.units rfl) d_eq (xv 1) (cc_call (cal__law_num T) (hr.mono (by decide)) (T.gl 35 "_law_num" rfl) (fun σ => passAt (takes_of rfl rfl rfl rfl) σ) (xG 0 (dg_cons dx_i dg_nil)))))))) (FunD.bindsN D (fun _ _ _ _ _ _ us hl => match us, hl with | [_, _], _ => rfl))
theorem sc__law_blank : FnScope ["_law_p", "_law_rows", "_law_columns", "_law_i"] ["_law_p", "_law_rows", "_law_columns"] (defScope (top 65)) := ⟨rfl, rfl, rfl, by decide +kernel, rfl, by decide +kernel, by decide +kernel⟩
theorem cal__law_blank (T : Fs tb K mg) : Cal P w ⟨K, mg, none⟩ base true 2 (He.ga K "_law_blank") 3 F__law_blank [] := by
  obtain ⟨fd, D⟩ : ∃ fd, FunD K "_law_blank" "_law_blank" (defArgs (top 65)) (defBody (top 65)) (defScope (top 65)) [] [] (He.ga K "_law_blank") fd := T.says.def_ 49 rfl
  exact cal_of D (ok_def (N := ["_law_p", "_law_rows", "_law_columns", "_law_i"]) (ps := ["_law_p", "_law_rows", "_law_columns"]) (k := 1) (c := ⟨K, mg, none⟩) D sc__law_blank (fun cdv A outer s H E hr => (ds_one (ds_retWW (dw_lc (own := [("_law_i", 3)]) (g := (gName 3)) (bind := (bNm 3)) rfl sc__law_blank.nd (di_rg1 (by rfl) (T.fr 11 "range" rfl) (da_cons (xv 1) da_nil)) (blkOk_by (own := [("_law_i", 3)]) (N := ["_law_p", "_law_rows", "_law_columns", "_law_i"]) (sc := defScope (top 65)) (by decide +kernel)) (bd_nm (by decide)) (fun _ _ _ _ _ => (gN 3 sc__law_blank.nd)) (fun _ _ _ _ _ => pts_no) (fun _ _ _ _ _ => (dw_of (dn_times (dx_fz (dn_lst (da_cons (cc_call (cal__law_num T) (hr.mono (by decide)) (T.gl 35 "_law_num" rfl) passF (xG 0 (dg_cons dx_i dg_nil))) da_nil))) (xv 2)))))))) (fun _ => by repeat (first | exact nx_ret | exact nx_retV | apply nx_seq | apply nx_frz | apply nx_if))) (FunD.bindsN D (fun _ _ _ _ _ _ us hl => match us, hl with | [_, _, _], _ => rfl))
theorem sc__law_summed : FnScope ["_law_p", "_law_rows", "_law_columns", "_law_products_here", "_law_at", "_law_told", "_law_product", "_law_i", "_law_share", "_law_j"] ["_law_p", "_law_rows", "_law_columns", "_law_products_here", "_law_at"] (defScope (top 66)) := ⟨rfl, rfl, rfl, by decide +kernel, rfl, by decide +kernel, by decide +kernel⟩
theorem cal__law_summed (T : Fs tb K mg) : Cal P w ⟨K, mg, none⟩ base true 4 (He.ga K "_law_summed") 5 F__law_summed [] := by
  obtain ⟨fd, D⟩ : ∃ fd, FunD K "_law_summed" "_law_summed" (defArgs (top 66)) (defBody (top 66)) (defScope (top 66)) [] [] (He.ga K "_law_summed") fd := T.says.def_ 50 rfl
  exact cal_of D (ok_def (N := ["_law_p", "_law_rows", "_law_columns", "_law_products_here", "_law_at", "_law_told", "_law_product", "_law_i", "_law_share", "_law_j"]) (ps := ["_law_p", "_law_rows", "_law_columns", "_law_products_here", "_law_at"]) (k := 3) (c := ⟨K, mg, none⟩) D sc__law_summed (fun cdv A outer s H E hr => (ds_cons (sSW 5 sc__law_summed.nd (cw_call (cal__law_blank T) (hr.mono (by decide)) (T.gl 39 "_law_blank" rfl) (fun σ => passAt (takes_of rfl rfl rfl rfl) σ) (xG 0 (xG 1 (xG 2 dg_nil)))))
      (ds_cons (ds_for (vs := [6]) (gg := (gName 6)) (bind := (bNm 6)) (passes_of rfl) rfl (bd_nm (by decide)) (di_seq (xv 3)) (gN 6 sc__law_summed.nd) (ds_one (ds_for (vs := [7]) (gg := (gName 7)) (bind := (bNm 7)) (passes_of rfl) rfl (bd_nm (by decide)) (di_rg1 (by rfl) (T.fr 11 "range" rfl) (da_cons (xv 1) da_nil)) (gN 7 sc__law_summed.nd) (ds_cons (sS 8 sc__law_summed.nd (cc_call (cal__law_times T) (hr.mono (by decide)) (T.gl 37 "_law_times" rfl) (fun σ => passAt (takes_of rfl rfl rfl rfl) σ) (xG 0 (dg_cons (dx_ix (xv 6) (xv 4)) (dg_cons (dx_ix (dx_ix (xv 6) dx_i) (xv 7)) dg_nil)))))
      (ds_one (ds_for (vs := [9]) (gg := (gName 9)) (bind := (bNm 9)) (passes_of rfl) rfl (bd_nm (by decide)) (di_rg1 (by rfl) (T.fr 11 "range" rfl) (da_cons (xv 2) da_nil)) (gN 9 sc__law_summed.nd) (ds_one (ds_st (cc_call (cal__law_plus T) (hr.mono (by decide)) (T.gl 36 "_law_plus" rfl) (fun σ => passAt (takes_of rfl rfl rfl rfl) σ) (xG 0 (dg_cons (dx_pl (dp_ix (dp_ix (xP 5) (xv 7)) (xv 9))) (dg_cons (cc_call (cal__law_times T) (hr.mono (by decide)) (T.gl 37 "_law_times" rfl) (fun σ => passAt (takes_of rfl rfl rfl rfl) σ) (xG 0 (xG 8 (dg_cons (dx_ix (dx_ix (xv 6) dx_i) (xv 9)) dg_nil)))) dg_nil)))) (dp_ix (xP 5) (xv 7)) (xv 9)))))))))
      (ds_one (xRV 5))))) (fun _ => by repeat (first | exact nx_ret | exact nx_retV | apply nx_seq | apply nx_frz | apply nx_if))) (FunD.bindsN D (fun _ _ _ _ _ _ us hl => match us, hl with | [_, _, _, _, _], _ => rfl))
theorem sc__law_figures : FnScope ["_law_hand_here"] ["_law_hand_here"] (defScope (top 67)) := ⟨rfl, rfl, rfl, by decide +kernel, rfl, by decide +kernel, by decide +kernel⟩
theorem cal__law_figures (T : Fs tb K mg) : Cal P w ⟨K, mg, none⟩ base false 3 (He.ga K "_law_figures") 1 F__law_figures [] := by
  obtain ⟨fd, D⟩ : ∃ fd, FunD K "_law_figures" "_law_figures" (defArgs (top 67)) (defBody (top 67)) (defScope (top 67)) [] [] (He.ga K "_law_figures") fd := T.says.def_ 51 rfl
  exact cal_of D (ok_def (N := ["_law_hand_here"]) (ps := ["_law_hand_here"]) (k := 2) (c := ⟨K, mg, none⟩) D sc__law_figures (fun cdv A outer s H E hr => (ds_one (ds_ret (dx_ix (dx_tup (da_cons dx_i (da_cons dx_i (da_cons dx_i (da_cons dx_i (da_cons dx_i (da_cons dx_i (da_cons dx_i (da_cons dx_i (da_cons dx_i (da_cons dx_i (da_cons dx_i (da_cons dx_i da_nil))))))))))))) (cc_call (cal__law_take T) (hr.mono (by decide)) (T.gl 32 "_law_take" rfl) (fun σ => passAt (takes_of rfl rfl rfl rfl) σ) (xG 0 (dg_cons dx_i dg_nil)))))))) (FunD.bindsN D (fun _ _ _ _ _ _ us hl => match us, hl with | [_], _ => rfl))
theorem sc__law_number : FnScope ["_law_hand_here", "_law_p", "_law_top"] ["_law_hand_here", "_law_p"] (defScope (top 68)) := ⟨rfl, rfl, rfl, by decide +kernel, rfl, by decide +kernel, by decide +kernel⟩
theorem cal__law_number (T : Fs tb K mg) : Cal P w ⟨K, mg, none⟩ base false 3 (He.ga K "_law_number") 2 F__law_number [] := by
  obtain ⟨fd, D⟩ : ∃ fd, FunD K "_law_number" "_law_number" (defArgs (top 68)) (defBody (top 68)) (defScope (top 68)) [] [] (He.ga K "_law_number") fd := T.says.def_ 52 rfl
  exact cal_of D (ok_def (N := ["_law_hand_here", "_law_p", "_law_top"]) (ps := ["_law_hand_here", "_law_p"]) (k := 2) (c := ⟨K, mg, none⟩) D sc__law_number (fun cdv A outer s H E hr => (ds_cons (ds_if (dt_cmp op_gt d_gt (xv 1) dx_i) (ds_one (ds_ret (cc_call (cal__law_take T) (hr.mono (by decide)) (T.gl 32 "_law_take" rfl) (fun σ => passAt (takes_of rfl rfl rfl rfl) σ) (xG 0 (xG 1 dg_nil))))) ds_nil)
      (ds_cons (sS 2 sc__law_number.nd (dx_op op_sub d_sub (cc_call (cal__law_take T) (hr.mono (by decide)) (T.gl 32 "_law_take" rfl) (fun σ => passAt (takes_of rfl rfl rfl rfl) σ) (xG 0 (dg_cons dx_i dg_nil))) dx_i))
      (ds_cons (ds_if (dt_cmp (c_eqD hr.units rfl) d_eq (cc_call (cal__law_take T) (hr.mono (by decide)) (T.gl 32 "_law_take" rfl) (fun σ => passAt (takes_of rfl rfl rfl rfl) σ) (xG 0 (dg_cons dx_i dg_nil))) dx_i) (ds_one (ds_ret (cc_call (cal__law_ratio T) (hr.mono (by decide)) (T.gl 34 "_law_ratio" rfl) (fun σ => passAt (takes_of rfl rfl rfl rfl) σ) (xG 2 (dg_cons (dx_op op_add d_add dx_i (cc_call (cal__law_take T) (hr.mono (by decide)) (T.gl 32 "_law_take" rfl) (fun σ => passAt (takes_of rfl rfl rfl rfl) σ) (xG 0 (dg_cons dx_i dg_nil)))) dg_nil))))) ds_nil)
      (ds_one (ds_ret (dx_tup (da_cons (xv 2) (da_cons dx_i da_nil)))))))))) (FunD.bindsN D (fun _ _ _ _ _ _ us hl => match us, hl with | [_, _], _ => rfl))
theorem sc__law_size : FnScope ["_law_hand_here", "_law_p", "_law_most", "_law_great"] ["_law_hand_here", "_law_p", "_law_most"] (defScope (top 69)) := ⟨rfl, rfl, rfl, by decide +kernel, rfl, by decide +kernel, by decide +kernel⟩
theorem cal__law_size (T : Fs tb K mg) : Cal P w ⟨K, mg, none⟩ base false 3 (He.ga K "_law_size") 3 F__law_size [] := by
  obtain ⟨fd, D⟩ : ∃ fd, FunD K "_law_size" "_law_size" (defArgs (top 69)) (defBody (top 69)) (defScope (top 69)) [] [] (He.ga K "_law_size") fd := T.says.def_ 53 rfl
  exact cal_of D (ok_def (N := ["_law_hand_here", "_law_p", "_law_most", "_law_great"]) (ps := ["_law_hand_here", "_law_p", "_law_most"]) (k := 2) (c := ⟨K, mg, none⟩) D sc__law_size (fun cdv A outer s H E hr => (ds_cons (sS 3 sc__law_size.nd (dx_if (dt_cmp op_gt d_gt (xv 1) dx_i) (dx_bi (call_min3Nu rfl) k_min3 (by rfl) (T.fr 10 "min" rfl) (by decide +kernel) (da_cons (xv 2) (da_cons dx_i (da_cons (xv 1) da_nil)))) (dx_bi (call_min2 rfl) k_min2 (by rfl) (T.fr 10 "min" rfl) (by decide +kernel) (da_cons (xv 2) (da_cons dx_i da_nil)))))
      (ds_cons (ds_if (dt_cmp (c_eqD hr.units rfl) d_eq (cc_call (cal__law_take T) (hr.mono (by decide)) (T.gl 32 "_law_take" rfl) (fun σ => passAt (takes_of rfl rfl rfl rfl) σ) (xG 0 (dg_cons dx_i dg_nil))) dx_i) (ds_one (ds_ret (xv 3))) ds_nil)
      (ds_one (ds_ret (dx_op op_add d_add dx_i (cc_call (cal__law_take T) (hr.mono (by decide)) (T.gl 32 "_law_take" rfl) (fun σ => passAt (takes_of rfl rfl rfl rfl) σ) (xG 0 (dg_cons (dx_bi (call_min2 rfl) k_min2 (by rfl) (T.fr 10 "min" rfl) (by decide +kernel) (da_cons (xv 3) (da_cons dx_i da_nil))) dg_nil)))))))))) (FunD.bindsN D (fun _ _ _ _ _ _ us hl => match us, hl with | [_, _, _], _ => rfl))
theorem sc__law_free : FnScope ["_law_hand_here", "_law_p", "_law_rows", "_law_columns", "_law_j", "_law_i"] ["_law_hand_here", "_law_p", "_law_rows", "_law_columns"] (defScope (top 70)) := ⟨rfl, rfl, rfl, by decide +kernel, rfl, by decide +kernel, by decide +kernel⟩
theorem cal__law_free (T : Fs tb K mg) : Cal P w ⟨K, mg, none⟩ base true 4 (He.ga K "_law_free") 4 F__law_free [] := by
  obtain ⟨fd, D⟩ : ∃ fd, FunD K "_law_free" "_law_free" (defArgs (top 70)) (defBody (top 70)) (defScope (top 70)) [] [] (He.ga K "_law_free") fd := T.says.def_ 54 rfl
  exact cal_of D (ok_def (N := ["_law_hand_here", "_law_p", "_law_rows", "_law_columns", "_law_j", "_law_i"]) (ps := ["_law_hand_here", "_law_p", "_law_rows", "_law_columns"]) (k := 3) (c := ⟨K, mg, none⟩) D sc__law_free (fun cdv A outer s H E hr => (ds_one (ds_retWW (dw_lc (own := [("_law_i", 5)]) (g := (gName 5)) (bind := (bNm 5)) rfl sc__law_free.nd (di_rg1 (by rfl) (T.fr 11 "range" rfl) (da_cons (xv 2) da_nil)) (blkOk_by (own := [("_law_i", 5)]) (N := ["_law_hand_here", "_law_p", "_law_rows", "_law_columns", "_law_j", "_law_i"]) (sc := defScope (top 70)) (by decide +kernel)) (bd_nm (by decide)) (fun _ _ _ _ _ => (gN 5 sc__law_free.nd)) (fun _ _ _ _ _ => pts_no) (fun _ _ _ _ _ => (dw_of (dn_lc (own := [("_law_j", 4)]) (g := (gName 4)) (bind := (bNm 4)) rfl sc__law_free.nd (di_rg1 (by rfl) (T.fr 11 "range" rfl) (da_cons (xv 3) da_nil)) (blkOk_by (own := [("_law_j", 4)]) (N := ["_law_hand_here", "_law_p", "_law_rows", "_law_columns", "_law_j", "_law_i"]) (sc := relS _ (defScope (top 70))) (by decide +kernel)) (bd_nm (by decide)) (fun _ _ _ _ _ => (gN 4 sc__law_free.nd)) (fun _ _ _ _ _ => pts_no) (fun _ _ _ _ _ => (cc_call (cal__law_number T) (hr.mono (by decide)) (T.gl 42 "_law_number" rfl) passF (xG 0 (xG 1 dg_nil))))))))))) (fun _ => by repeat (first | exact nx_ret | exact nx_retV | apply nx_seq | apply nx_frz | apply nx_if))) (FunD.bindsN D (fun _ _ _ _ _ _ us hl => match us, hl with | [_, _, _, _], _ => rfl))
theorem sc__law_exact : FnScope ["_law_told", "_law_due", "_law_k"] ["_law_told", "_law_due"] (defScope (top 71)) := ⟨rfl, rfl, rfl, by decide +kernel, rfl, by decide +kernel, by decide +kernel⟩
theorem cal__law_exact (T : Fs tb K mg) : ∀ fu : Nat, Cal P w ⟨K, mg, none⟩ base false (1 + fu) (He.ga K "_law_exact") 2 (F__law_exact fu) [] := by
  obtain ⟨fd, D⟩ : ∃ fd, FunD K "_law_exact" "_law_exact" (defArgs (top 71)) (defBody (top 71)) (defScope (top 71)) [] [] (He.ga K "_law_exact") fd := T.says.def_ 55 rfl
  have bd : L2.Binds K fd ["_law_told", "_law_due"] [] := (FunD.bindsN D (fun _ _ _ _ _ _ us hl => match us, hl with | [_, _], _ => rfl))
  intro fu
  induction fu with
  | zero => exact cal_of D (bad_def (c := ⟨K, mg, none⟩) D sc__law_exact) bd
  | succ fu ih => exact cal_of D (ok_def (N := ["_law_told", "_law_due", "_law_k"]) (ps := ["_law_told", "_law_due"]) (k := 1 + fu) (c := ⟨K, mg, none⟩) D sc__law_exact (fun cdv A outer s H E hr => (ds_cons (ds_if (dt_tru rfl (dx_is T.gt (by decide) (by rfl) (T.fr 5 "isinstance" rfl) (xv 1) (pe_bltn (v := .ty "tuple") (by rfl) (T.fr 14 "tuple" rfl) (by decide +kernel) rfl))) (ds_cons (ds_if (PW.pt (dw_or (dt_not (dt_tru rfl (dx_is T.gt (by decide) (by rfl) (T.fr 5 "isinstance" rfl) (xv 0) (pe_bltn (v := .ty "tuple") (by rfl) (T.fr 14 "tuple" rfl) (by decide +kernel) rfl)))) (dw_or1 (dt_cmp (c_neD hr.units rfl) d_ne (dx_bi (c_len rfl) k_len (by rfl) (T.fr 7 "len" rfl) PySem.boot_len (da_cons (xv 0) da_nil)) (dx_bi (c_len rfl) k_len (by rfl) (T.fr 7 "len" rfl) PySem.boot_len (da_cons (xv 1) da_nil)))))) (ds_one (ds_ret dx_b)) ds_nil)
      (ds_one (ds_ret (dx_cmp (c_eqD hr.units rfl) d_eq (dx_fz (dn_lc (own := [("_law_k", 2)]) (g := (gName 2)) (bind := (bNm 2)) rfl sc__law_exact.nd (di_rg1 (by rfl) (T.fr 11 "range" rfl) (da_cons (dx_bi (c_len rfl) k_len (by rfl) (T.fr 7 "len" rfl) PySem.boot_len (da_cons (xv 1) da_nil)) da_nil)) (blkOk_by (own := [("_law_k", 2)]) (N := ["_law_told", "_law_due", "_law_k"]) (sc := defScope (top 71)) (by decide +kernel)) (bd_nm (by decide)) (fun _ _ _ _ _ => (gN 2 sc__law_exact.nd)) (fun _ _ _ _ _ => (pts_if (dt_not (dt_tru rfl (cc_call ih (hr.mono (by omega)) (T.gl 45 "_law_exact" rfl) passF (dg_cons (dx_ix (xv 0) (xv 2)) (dg_cons (dx_ix (xv 1) (xv 2)) dg_nil))))))) (fun _ _ _ _ _ => (xv 2)))) (dx_fz (dn_lst da_nil)))))) ds_nil)
      (ds_cons (ds_if (dt_cmp op_isN d_isN (xv 1) dx_n) (ds_one (ds_ret (dx_cmp op_isN d_isN (xv 0) dx_n))) ds_nil)
      (ds_cons (ds_if (dt_tru rfl (dx_is T.gt (by decide) (by rfl) (T.fr 5 "isinstance" rfl) (xv 1) (pe_bltn (v := .ty "bool") (by rfl) (T.fr 2 "bool" rfl) (by decide +kernel) rfl))) (ds_one (ds_ret (dx_if (dt_tru rfl (xv 1)) (dx_cmp op_isBl d_isB (xv 0) dx_b) (dx_cmp op_isBl d_isB (xv 0) dx_b)))) ds_nil)
      (ds_cons (ds_if (dt_tru rfl (dx_is T.gt (by decide) (by rfl) (T.fr 5 "isinstance" rfl) (xv 1) (pe_bltn (v := .ty "str") (by rfl) (T.fr 12 "str" rfl) (by decide +kernel) rfl))) (ds_one (ds_ret (dx_and (dx_is T.gt (by decide) (by rfl) (T.fr 5 "isinstance" rfl) (xv 0) (pe_bltn (v := .ty "str") (by rfl) (T.fr 12 "str" rfl) (by decide +kernel) rfl)) (dx_one (dx_cmp (c_eqD hr.units rfl) d_eq (xv 0) (xv 1)))))) ds_nil)
      (ds_one (ds_ret (dx_and (dx_is T.gt (by decide) (by rfl) (T.fr 5 "isinstance" rfl) (xv 0) (pe_bltn (v := .ty "int") (by rfl) (T.fr 4 "int" rfl) (by decide +kernel) rfl)) (dx_and (dx_not (dx_is T.gt (by decide) (by rfl) (T.fr 5 "isinstance" rfl) (xv 0) (pe_bltn (v := .ty "bool") (by rfl) (T.fr 2 "bool" rfl) (by decide +kernel) rfl))) (dx_one (dx_cmp (c_eqD hr.units rfl) d_eq (xv 0) (xv 1))))))))))))) bd
theorem sc__law_list : FnScope ["_law_hand_here", "_law_items"] ["_law_hand_here", "_law_items"] (defScope (top 72)) := ⟨rfl, rfl, rfl, by decide +kernel, rfl, by decide +kernel, by decide +kernel⟩
theorem cal__law_list (T : Fs tb K mg) : Cal P w ⟨K, mg, none⟩ base false 3 (He.ga K "_law_list") 2 F__law_list [] := by
  obtain ⟨fd, D⟩ : ∃ fd, FunD K "_law_list" "_law_list" (defArgs (top 72)) (defBody (top 72)) (defScope (top 72)) [] [] (He.ga K "_law_list") fd := T.says.def_ 56 rfl
  exact cal_of D (ok_def (N := ["_law_hand_here", "_law_items"]) (ps := ["_law_hand_here", "_law_items"]) (k := 2) (c := ⟨K, mg, none⟩) D sc__law_list (fun cdv A outer s H E hr => (ds_one (ds_ret (dx_fz (dn_if (dt_tru rfl (cc_call (cal__law_take T) (hr.mono (by decide)) (T.gl 32 "_law_take" rfl) (fun σ => passAt (takes_of rfl rfl rfl rfl) σ) (xG 0 (dg_cons dx_i dg_nil)))) (dn_ty (c_list rfl) k_list (by rfl) (T.fr 8 "list" rfl) (by decide +kernel) (da_cons (xv 1) da_nil)) (dn_of (dx_ty (c_tup rfl) k_tup (by rfl) (T.fr 14 "tuple" rfl) PyProof.Rows.boot_tuple (da_cons (xv 1) da_nil))))))))) (FunD.bindsN D (fun _ _ _ _ _ _ us hl => match us, hl with | [_, _], _ => rfl))
theorem sc__law_numbers : FnScope ["_law_p", "_law_numbers_here", "_law_many", "_law_number_here"] ["_law_p", "_law_numbers_here", "_law_many"] (defScope (top 74)) := ⟨rfl, rfl, rfl, by decide +kernel, rfl, by decide +kernel, by decide +kernel⟩
theorem cal__law_numbers (T : Fs tb K mg) : Cal P w ⟨K, mg, none⟩ base false 2 (He.ga K "_law_numbers") 3 F__law_numbers [] := by
  obtain ⟨fd, D⟩ : ∃ fd, FunD K "_law_numbers" "_law_numbers" (defArgs (top 74)) (defBody (top 74)) (defScope (top 74)) [] [] (He.ga K "_law_numbers") fd := T.says.def_ 57 rfl
  exact cal_of D (ok_def (N := ["_law_p", "_law_numbers_here", "_law_many", "_law_number_here"]) (ps := ["_law_p", "_law_numbers_here", "_law_many"]) (k := 1) (c := ⟨K, mg, none⟩) D sc__law_numbers (fun cdv A outer s H E hr => (ds_cons (ds_if (PW.pt (dw_or (dt_not (dt_tru rfl (dx_is T.gt (by decide) (by rfl) (T.fr 5 "isinstance" rfl) (xv 1) (pe_bltn (v := .ty "tuple") (by rfl) (T.fr 14 "tuple" rfl) (by decide +kernel) rfl)))) (dw_or1 (dt_cmp (c_neD hr.units rfl) d_ne (dx_bi (c_len rfl) k_len (by rfl) (T.fr 7 "len" rfl) PySem.boot_len (da_cons (xv 1) da_nil)) (xv 2))))) (ds_one (ds_ret dx_b)) ds_nil)
      (ds_cons (ds_for (vs := [3]) (gg := (gName 3)) (bind := (bNm 3)) (passes_of rfl) rfl (bd_nm (by decide)) (di_seq (xv 1)) (gN 3 sc__law_numbers.nd) (ds_one (ds_if (dt_cmp op_gt d_gt (xv 0) dx_i) (ds_one (ds_if (PW.pt (dw_or (dt_not (dt_tru rfl (dx_is T.gt (by decide) (by rfl) (T.fr 5 "isinstance" rfl) (xv 3) (pe_bltn (v := .ty "int") (by rfl) (T.fr 4 "int" rfl) (by decide +kernel) rfl)))) (dw_or (dt_tru rfl (dx_is T.gt (by decide) (by rfl) (T.fr 5 "isinstance" rfl) (xv 3) (pe_bltn (v := .ty "bool") (by rfl) (T.fr 2 "bool" rfl) (by decide +kernel) rfl))) (dw_or1 (dt_not (dt_ch op_le op_lt d_le d_lt dx_i (xv 3) (xv 0))))))) (ds_one (ds_ret dx_b)) ds_nil)) (ds_one (ds_if (PW.pt (dw_or (dt_not (dt_tru rfl (dx_is T.gt (by decide) (by rfl) (T.fr 5 "isinstance" rfl) (xv 3) (pe_bltn (v := .ty "tuple") (by rfl) (T.fr 14 "tuple" rfl) (by decide +kernel) rfl)))) (dw_or1 (dt_cmp (c_neD hr.units rfl) d_ne (dx_bi (c_len rfl) k_len (by rfl) (T.fr 7 "len" rfl) PySem.boot_len (da_cons (xv 3) da_nil)) dx_i)))) (ds_one (ds_ret dx_b)) (ds_one (ds_if (PW.pt (dw_or (dt_not (dt_tru rfl (dx_is T.gt (by decide) (by rfl) (T.fr 5 "isinstance" rfl) (dx_ix (xv 3) dx_i) (pe_bltn (v := .ty "int") (by rfl) (T.fr 4 "int" rfl) (by decide +kernel) rfl)))) (dw_or (dt_not (dt_tru rfl (dx_is T.gt (by decide) (by rfl) (T.fr 5 "isinstance" rfl) (dx_ix (xv 3) dx_i) (pe_bltn (v := .ty "int") (by rfl) (T.fr 4 "int" rfl) (by decide +kernel) rfl)))) (dw_or1 (dt_cmp op_lt d_lt (dx_ix (xv 3) dx_i) dx_i))))) (ds_one (ds_ret dx_b)) (ds_one (ds_if (PW.pt (dw_or (dt_tru rfl (dx_is T.gt (by decide) (by rfl) (T.fr 5 "isinstance" rfl) (dx_ix (xv 3) dx_i) (pe_bltn (v := .ty "bool") (by rfl) (T.fr 2 "bool" rfl) (by decide +kernel) rfl))) (dw_or (dt_tru rfl (dx_is T.gt (by decide) (by rfl) (T.fr 5 "isinstance" rfl) (dx_ix (xv 3) dx_i) (pe_bltn (v := .ty "bool") (by rfl) (T.fr 2 "bool" rfl) (by decide +kernel) rfl))) (dw_or1 (dt_cmp (c_neD hr.units rfl) d_ne (cc_call (cal__law_gcd T) (hr.mono (by decide)) (T.gl 33 "_law_gcd" rfl) (fun σ => passAt (takes_of rfl rfl rfl rfl) σ) (dg_cons (dx_ix (xv 3) dx_i) (dg_cons (dx_ix (xv 3) dx_i) dg_nil))) dx_i))))) (ds_one (ds_ret dx_b)) ds_nil)))))))))
      (ds_one (ds_ret dx_b)))))) (FunD.bindsN D (fun _ _ _ _ _ _ us hl => match us, hl with | [_, _, _], _ => rfl))
theorem sc__law_products : FnScope ["_law_p", "_law_program", "_law_rows", "_law_columns", "_law_product"] ["_law_p", "_law_program", "_law_rows", "_law_columns"] (defScope (top 73)) := ⟨rfl, rfl, rfl, by decide +kernel, rfl, by decide +kernel, by decide +kernel⟩
theorem cal__law_products (T : Fs tb K mg) : Cal P w ⟨K, mg, none⟩ base false 7 (He.ga K "_law_products") 4 F__law_products [] := by
  obtain ⟨fd, D⟩ : ∃ fd, FunD K "_law_products" "_law_products" (defArgs (top 73)) (defBody (top 73)) (defScope (top 73)) [] [] (He.ga K "_law_products") fd := T.says.def_ 58 rfl
  exact cal_of D (ok_def (N := ["_law_p", "_law_program", "_law_rows", "_law_columns", "_law_product"]) (ps := ["_law_p", "_law_program", "_law_rows", "_law_columns"]) (k := 6) (c := ⟨K, mg, none⟩) D sc__law_products (fun cdv A outer s H E hr => (ds_cons (ds_if (PW.pt (dw_or (dt_cmp (c_neD hr.units rfl) d_ne (dx_at (xA 1)) (xv 0)) (dw_or (dt_not (dt_tru rfl (cc_call (cal__law_exact T 5) (hr.mono (by decide)) (T.gl 45 "_law_exact" rfl) (fun σ => passAt (takes_of rfl rfl rfl rfl) σ) (dg_cons (xA 1) (xG 2 dg_nil))))) (dw_or1 (dt_not (dt_tru rfl (cc_call (cal__law_exact T 5) (hr.mono (by decide)) (T.gl 45 "_law_exact" rfl) (fun σ => passAt (takes_of rfl rfl rfl rfl) σ) (dg_cons (xA 1) (xG 3 dg_nil))))))))) (ds_one (ds_ret dx_n)) ds_nil)
      (ds_cons (ds_if (PW.pt (dw_or (dt_not (dt_tru rfl (dx_is T.gt (by decide) (by rfl) (T.fr 5 "isinstance" rfl) (xA 1) (pe_bltn (v := .ty "tuple") (by rfl) (T.fr 14 "tuple" rfl) (by decide +kernel) rfl)))) (dw_or1 (dt_cmp (c_neD hr.units rfl) d_ne (cc_lenI ⟨(T.spc 0 _ rfl).1, (T.spc 0 _ rfl).2⟩ (T.gl 70 "Program" rfl) (cal_Program___len__ T) (hr.mono (by decide)) (xv 1) (T.fr 7 "len" rfl)) (dx_bi (c_len rfl) k_len (by rfl) (T.fr 7 "len" rfl) PySem.boot_len (da_cons (xA 1) da_nil)))))) (ds_one (ds_ret dx_n)) ds_nil)
      (ds_cons (ds_for (vs := [4]) (gg := (gName 4)) (bind := (bNm 4)) (passes_of rfl) rfl (bd_nm (by decide)) (di_seq (xA 1)) (gN 4 sc__law_products.nd) (ds_cons (ds_if (PW.pt (dw_or (dt_not (dt_tru rfl (dx_is T.gt (by decide) (by rfl) (T.fr 5 "isinstance" rfl) (xv 4) (pe_bltn (v := .ty "tuple") (by rfl) (T.fr 14 "tuple" rfl) (by decide +kernel) rfl)))) (dw_or1 (dt_cmp (c_neD hr.units rfl) d_ne (dx_bi (c_len rfl) k_len (by rfl) (T.fr 7 "len" rfl) PySem.boot_len (da_cons (xv 4) da_nil)) dx_i)))) (ds_one (ds_ret dx_n)) ds_nil)
      (ds_cons (ds_if (PW.pt (dw_or (dt_not (dt_tru rfl (cc_call (cal__law_numbers T) (hr.mono (by decide)) (T.gl 48 "_law_numbers" rfl) (fun σ => passAt (takes_of rfl rfl rfl rfl) σ) (xG 0 (dg_cons (dx_ix (xv 4) dx_i) (xG 2 dg_nil)))))) (dw_or1 (dt_not (dt_tru rfl (cc_call (cal__law_numbers T) (hr.mono (by decide)) (T.gl 48 "_law_numbers" rfl) (fun σ => passAt (takes_of rfl rfl rfl rfl) σ) (xG 0 (dg_cons (dx_ix (xv 4) dx_i) (xG 3 dg_nil))))))))) (ds_one (ds_ret dx_n)) ds_nil)
      (ds_one (ds_if (dt_not (dt_tru rfl (cc_call (cal__law_numbers T) (hr.mono (by decide)) (T.gl 48 "_law_numbers" rfl) (fun σ => passAt (takes_of rfl rfl rfl rfl) σ) (xG 0 (dg_cons (dx_tup (da_cons (dx_ix (xv 4) dx_i) (da_cons (dx_ix (xv 4) dx_i) da_nil))) (dg_cons dx_i dg_nil)))))) (ds_one (ds_ret dx_n)) ds_nil)))))
      (ds_one (ds_ret (xA 1)))))))) (FunD.bindsN D (fun _ _ _ _ _ _ us hl => match us, hl with | [_, _, _, _], _ => rfl))
theorem sc__law_right : FnScope ["_law_p", "_law_products_here", "_law_tables", "_law_rows", "_law_columns", "_law_at", "_law_row"] ["_law_p", "_law_products_here", "_law_tables"] (defScope (top 75)) := ⟨rfl, rfl, rfl, by decide +kernel, rfl, by decide +kernel, by decide +kernel⟩
theorem cal__law_right (T : Fs tb K mg) : Cal P w ⟨K, mg, none⟩ base false 5 (He.ga K "_law_right") 3 F__law_right [] := by
  obtain ⟨fd, D⟩ : ∃ fd, FunD K "_law_right" "_law_right" (defArgs (top 75)) (defBody (top 75)) (defScope (top 75)) [] [] (He.ga K "_law_right") fd := T.says.def_ 59 rfl
  exact cal_of D (ok_def (N := ["_law_p", "_law_products_here", "_law_tables", "_law_rows", "_law_columns", "_law_at", "_law_row"]) (ps := ["_law_p", "_law_products_here", "_law_tables"]) (k := 4) (c := ⟨K, mg, none⟩) D sc__law_right (fun cdv A outer s H E hr => (ds_cons (sS 3 sc__law_right.nd (dx_bi (c_len rfl) k_len (by rfl) (T.fr 7 "len" rfl) PySem.boot_len (da_cons (dx_ix (xv 2) dx_i) da_nil)))
      (ds_cons (sS 4 sc__law_right.nd (dx_bi (c_len rfl) k_len (by rfl) (T.fr 7 "len" rfl) PySem.boot_len (da_cons (dx_ix (dx_ix (xv 2) dx_i) dx_i) da_nil)))
      (ds_cons (ds_for (vs := [5]) (gg := (gName 5)) (bind := (bNm 5)) (passes_of rfl) rfl (bd_nm (by decide)) (di_rg1 (by rfl) (T.fr 11 "range" rfl) (da_cons dx_i da_nil)) (gN 5 sc__law_right.nd) (ds_one (ds_if (dt_cmp (c_neD hr.units rfl) d_ne (dx_fw (cw_call (cal__law_summed T) (hr.mono (by decide)) (T.gl 40 "_law_summed" rfl) (fun σ => passAt (takes_of rfl rfl rfl rfl) σ) (xG 0 (xG 3 (xG 4 (xG 1 (dg_cons (dx_op op_add d_add dx_i (xv 5)) dg_nil))))))) (dx_fz (dn_lc (own := [("_law_row", 6)]) (g := (gName 6)) (bind := (bNm 6)) rfl sc__law_right.nd (di_seq (dx_ix (xv 2) (xv 5))) (blkOk_by (own := [("_law_row", 6)]) (N := ["_law_p", "_law_products_here", "_law_tables", "_law_rows", "_law_columns", "_law_at", "_law_row"]) (sc := defScope (top 75)) (by decide +kernel)) (bd_nm (by decide)) (fun _ _ _ _ _ => (gN 6 sc__law_right.nd)) (fun _ _ _ _ _ => pts_no) (fun _ _ _ _ _ => (dx_fz (dn_ty (c_list rfl) k_list (by rfl) (T.fr 8 "list" rfl) (by decide +kernel) (da_cons (xv 6) da_nil))))))) (ds_one (ds_ret dx_b)) ds_nil)))
      (ds_one (ds_ret dx_b))))))) (FunD.bindsN D (fun _ _ _ _ _ _ us hl => match us, hl with | [_, _, _], _ => rfl))
theorem sc__law_passed_pair : FnScope ["_law_hand_here", "_law_p", "_law_tables", "_law_first", "_law_row"] ["_law_hand_here", "_law_p", "_law_tables"] (defScope (top 76)) := ⟨rfl, rfl, rfl, by decide +kernel, rfl, by decide +kernel, by decide +kernel⟩
theorem cal__law_passed_pair (T : Fs tb K mg) : Cal P w ⟨K, mg, none⟩ base false 8 (He.ga K "_law_passed_pair") 3 F__law_passed_pair [] := by
  obtain ⟨fd, D⟩ : ∃ fd, FunD K "_law_passed_pair" "_law_passed_pair" (defArgs (top 76)) (defBody (top 76)) (defScope (top 76)) [] [] (He.ga K "_law_passed_pair") fd := T.says.def_ 60 rfl
  exact cal_of D (ok_def (N := ["_law_hand_here", "_law_p", "_law_tables", "_law_first", "_law_row"]) (ps := ["_law_hand_here", "_law_p", "_law_tables"]) (k := 7) (c := ⟨K, mg, none⟩) D sc__law_passed_pair (fun cdv A outer s H E hr => (ds_cons (sS 3 sc__law_passed_pair.nd (cc_call (cal__law_list T) (hr.mono (by decide)) (T.gl 46 "_law_list" rfl) (fun σ => passAt (takes_of rfl rfl rfl rfl) σ) (xG 0 (dg_cons (dx_fz (dn_lc (own := [("_law_row", 4)]) (g := (gName 4)) (bind := (bNm 4)) rfl sc__law_passed_pair.nd (di_seq (dx_ix (xv 2) dx_i)) (blkOk_by (own := [("_law_row", 4)]) (N := ["_law_hand_here", "_law_p", "_law_tables", "_law_first", "_law_row"]) (sc := defScope (top 76)) (by decide +kernel)) (bd_nm (by decide)) (fun _ _ _ _ _ => (gN 4 sc__law_passed_pair.nd)) (fun _ _ _ _ _ => pts_no) (fun _ _ _ _ _ => (cc_call (cal__law_list T) (hr.mono (by decide)) (T.gl 46 "_law_list" rfl) passF (xG 0 (xG 4 dg_nil)))))) dg_nil))))
      (ds_one (ds_ret (cc_make (T.gl 69 "Pair" rfl) (T.cls 0 _ rfl).1 (T.cls 0 _ rfl).2 (cal_Pair___init__ T) (hr.mono (by decide)) (fun σ => passAt (takes_of rfl rfl rfl rfl) σ) (da_cons (cc_make (T.gl 71 "Figures" rfl) (T.cls 2 _ rfl).1 (T.cls 2 _ rfl).2 (cal_Figures___init__ T) (hr.mono (by decide)) (fun σ => passAt (takes_of rfl rfl rfl rfl) σ) (da_cons (xv 1) da_nil)) (da_cons (xv 3) (da_cons (cc_call (cal__law_list T) (hr.mono (by decide)) (T.gl 46 "_law_list" rfl) (fun σ => passAt (takes_of rfl rfl rfl rfl) σ) (xG 0 (dg_cons (dx_fz (dn_lc (own := [("_law_row", 4)]) (g := (gName 4)) (bind := (bNm 4)) rfl sc__law_passed_pair.nd (di_seq (dx_ix (xv 2) dx_i)) (blkOk_by (own := [("_law_row", 4)]) (N := ["_law_hand_here", "_law_p", "_law_tables", "_law_first", "_law_row"]) (sc := defScope (top 76)) (by decide +kernel)) (bd_nm (by decide)) (fun _ _ _ _ _ => (gN 4 sc__law_passed_pair.nd)) (fun _ _ _ _ _ => pts_no) (fun _ _ _ _ _ => (cc_call (cal__law_list T) (hr.mono (by decide)) (T.gl 46 "_law_list" rfl) passF (xG 0 (xG 4 dg_nil)))))) dg_nil))) da_nil))))))))) (FunD.bindsN D (fun _ _ _ _ _ _ us hl => match us, hl with | [_, _, _], _ => rfl))
theorem sc__law_placed : FnScope ["_law_p", "_law_numbers_here", "_law_at", "_law_many"] ["_law_p", "_law_numbers_here", "_law_at", "_law_many"] (defScope (top 77)) := ⟨rfl, rfl, rfl, by decide +kernel, rfl, by decide +kernel, by decide +kernel⟩
theorem cal__law_placed (T : Fs tb K mg) : Cal P w ⟨K, mg, none⟩ base false 2 (He.ga K "_law_placed") 4 F__law_placed [] := by
  obtain ⟨fd, D⟩ : ∃ fd, FunD K "_law_placed" "_law_placed" (defArgs (top 77)) (defBody (top 77)) (defScope (top 77)) [] [] (He.ga K "_law_placed") fd := T.says.def_ 61 rfl
  exact cal_of D (ok_def (N := ["_law_p", "_law_numbers_here", "_law_at", "_law_many"]) (ps := ["_law_p", "_law_numbers_here", "_law_at", "_law_many"]) (k := 1) (c := ⟨K, mg, none⟩) D sc__law_placed (fun cdv A outer s H E hr => (ds_one (ds_ret (dx_fz (dn_plus (dx_fz (dn_plus (dx_fz (dn_times (dx_tup (da_cons (cc_call (cal__law_num T) (hr.mono (by decide)) (T.gl 35 "_law_num" rfl) (fun σ => passAt (takes_of rfl rfl rfl rfl) σ) (xG 0 (dg_cons dx_i dg_nil))) da_nil)) (xv 2))) (dx_ty (c_tup rfl) k_tup (by rfl) (T.fr 14 "tuple" rfl) PyProof.Rows.boot_tuple (da_cons (xv 1) da_nil)))) (dx_fz (dn_times (dx_tup (da_cons (cc_call (cal__law_num T) (hr.mono (by decide)) (T.gl 35 "_law_num" rfl) (fun σ => passAt (takes_of rfl rfl rfl rfl) σ) (xG 0 (dg_cons dx_i dg_nil))) da_nil)) (dx_op op_sub d_sub (dx_op op_sub d_sub (xv 3) (xv 2)) (dx_bi (c_len rfl) k_len (by rfl) (T.fr 7 "len" rfl) PySem.boot_len (da_cons (xv 1) da_nil))))))))))) (FunD.bindsN D (fun _ _ _ _ _ _ us hl => match us, hl with | [_, _, _, _], _ => rfl))
end
end N71
namespace N71
open PySem PySem.Spec PyProof.Rows L2 Fw
section
variable {P : Program} {w : World} {K : PySem.W.Frag} {mg : Str → Option Value} {base : Heap}
theorem sc__law_cells : FnScope ["_law_p", "_law_tables", "_law_rows", "_law_columns", "_law_told", "_law_i", "_law_j", "_law_u", "_law_k", "_law_v"] ["_law_p", "_law_tables"] (defScope (top 78)) := ⟨rfl, rfl, rfl, by decide +kernel, rfl, by decide +kernel, by decide +kernel⟩
theorem cal__law_cells (T : Fs tb K mg) : Cal P w ⟨K, mg, none⟩ base false 3 (He.ga K "_law_cells") 2 F__law_cells [] := by
  obtain ⟨fd, D⟩ : ∃ fd, FunD K "_law_cells" "_law_cells" (defArgs (top 78)) (defBody (top 78)) (defScope (top 78)) [] [] (He.ga K "_law_cells") fd := T.says.def_ 62 rfl
  exact cal_of D (ok_def (N := ["_law_p", "_law_tables", "_law_rows", "_law_columns", "_law_told", "_law_i", "_law_j", "_law_u", "_law_k", "_law_v"]) (ps := ["_law_p", "_law_tables"]) (k := 2) (c := ⟨K, mg, none⟩) D sc__law_cells (fun cdv A outer s H E hr => (ds_cons (sS 2 sc__law_cells.nd (dx_bi (c_len rfl) k_len (by rfl) (T.fr 7 "len" rfl) PySem.boot_len (da_cons (dx_ix (xv 1) dx_i) da_nil)))
      (ds_cons (sS 3 sc__law_cells.nd (dx_bi (c_len rfl) k_len (by rfl) (T.fr 7 "len" rfl) PySem.boot_len (da_cons (dx_ix (dx_ix (xv 1) dx_i) dx_i) da_nil)))
      (ds_cons (sSN 4 sc__law_cells.nd (dn_lst da_nil))
      (ds_cons (ds_for (vs := [5]) (gg := (gName 5)) (bind := (bNm 5)) (passes_of rfl) rfl (bd_nm (by decide)) (di_rg1 (by rfl) (T.fr 11 "range" rfl) (da_cons (xv 2) da_nil)) (gN 5 sc__law_cells.nd) (ds_one (ds_for (vs := [6]) (gg := (gName 6)) (bind := (bNm 6)) (passes_of rfl) rfl (bd_nm (by decide)) (di_rg1 (by rfl) (T.fr 11 "range" rfl) (da_cons (xv 3) da_nil)) (gN 6 sc__law_cells.nd) (ds_one (ds_if (PW.pt (dw_or (dt_not (dt_tru rfl (cc_call (cal__law_zero T) (hr.mono (by decide)) (T.gl 38 "_law_zero" rfl) (fun σ => passAt (takes_of rfl rfl rfl rfl) σ) (xG 0 (dg_cons (dx_ix (dx_ix (dx_ix (xv 1) dx_i) (xv 5)) (xv 6)) dg_nil))))) (dw_or1 (dt_not (dt_tru rfl (cc_call (cal__law_zero T) (hr.mono (by decide)) (T.gl 38 "_law_zero" rfl) (fun σ => passAt (takes_of rfl rfl rfl rfl) σ) (xG 0 (dg_cons (dx_ix (dx_ix (dx_ix (xv 1) dx_i) (xv 5)) (xv 6)) dg_nil)))))))) (ds_cons (sS 7 sc__law_cells.nd (dx_ty (c_tup rfl) k_tup (by rfl) (T.fr 14 "tuple" rfl) PyProof.Rows.boot_tuple (da_cons (dx_fz (dn_lc (own := [("_law_k", 8)]) (g := (gName 8)) (bind := (bNm 8)) rfl sc__law_cells.nd (di_rg1 (by rfl) (T.fr 11 "range" rfl) (da_cons (xv 2) da_nil)) (blkOk_by (own := [("_law_k", 8)]) (N := ["_law_p", "_law_tables", "_law_rows", "_law_columns", "_law_told", "_law_i", "_law_j", "_law_u", "_law_k", "_law_v"]) (sc := defScope (top 78)) (by decide +kernel)) (bd_nm (by decide)) (fun _ _ _ _ _ => (gN 8 sc__law_cells.nd)) (fun _ _ _ _ _ => pts_no) (fun _ _ _ _ _ => (cc_call (cal__law_num T) (hr.mono (by decide)) (T.gl 35 "_law_num" rfl) passF (xG 0 (dg_cons (dx_ty call_int1 k_int (by rfl) (T.fr 4 "int" rfl) PyProof.Rows.boot_int (da_cons (dx_cmp (c_eqD hr.units rfl) d_eq (xv 8) (xv 5)) da_nil)) dg_nil)))))) da_nil)))
      (ds_cons (sS 9 sc__law_cells.nd (dx_ty (c_tup rfl) k_tup (by rfl) (T.fr 14 "tuple" rfl) PyProof.Rows.boot_tuple (da_cons (dx_fz (dn_lc (own := [("_law_k", 8)]) (g := (gName 8)) (bind := (bNm 8)) rfl sc__law_cells.nd (di_rg1 (by rfl) (T.fr 11 "range" rfl) (da_cons (xv 3) da_nil)) (blkOk_by (own := [("_law_k", 8)]) (N := ["_law_p", "_law_tables", "_law_rows", "_law_columns", "_law_told", "_law_i", "_law_j", "_law_u", "_law_k", "_law_v"]) (sc := defScope (top 78)) (by decide +kernel)) (bd_nm (by decide)) (fun _ _ _ _ _ => (gN 8 sc__law_cells.nd)) (fun _ _ _ _ _ => pts_no) (fun _ _ _ _ _ => (cc_call (cal__law_num T) (hr.mono (by decide)) (T.gl 35 "_law_num" rfl) passF (xG 0 (dg_cons (dx_ty call_int1 k_int (by rfl) (T.fr 4 "int" rfl) PyProof.Rows.boot_int (da_cons (dx_cmp (c_eqD hr.units rfl) d_eq (xv 8) (xv 6)) da_nil)) dg_nil)))))) da_nil)))
      (ds_one (ds_app (xP 4) (dn_of (dx_tup (da_cons (xv 7) (da_cons (xv 9) (da_cons (dx_ix (dx_ix (dx_ix (xv 1) dx_i) (xv 5)) (xv 6)) (da_cons (dx_ix (dx_ix (dx_ix (xv 1) dx_i) (xv 5)) (xv 6)) da_nil)))))))))) ds_nil)))))
      (ds_one (ds_frz 4 (ds_ret (dx_ty (c_tup rfl) k_tup (by rfl) (T.fr 14 "tuple" rfl) PyProof.Rows.boot_tuple (da_cons (xv 4) da_nil))))))))))) (FunD.bindsN D (fun _ _ _ _ _ _ us hl => match us, hl with | [_, _], _ => rfl))
theorem sc__law_plain : FnScope ["_law_hand_here", "_law_p", "_law_rows", "_law_columns", "_law_tables", "_law_k", "_law_told", "_law_products_here"] ["_law_hand_here", "_law_p"] (defScope (top 79)) := ⟨rfl, rfl, rfl, by decide +kernel, rfl, by decide +kernel, by decide +kernel⟩
theorem cal__law_plain (T : Fs tb K mg) : Cal P w ⟨K, mg, none⟩ base false 10 (He.ga K "_law_plain") 2 F__law_plain [] := by
  obtain ⟨fd, D⟩ : ∃ fd, FunD K "_law_plain" "_law_plain" (defArgs (top 79)) (defBody (top 79)) (defScope (top 79)) [] [] (He.ga K "_law_plain") fd := T.says.def_ 63 rfl
  exact cal_of D (ok_def (N := ["_law_hand_here", "_law_p", "_law_rows", "_law_columns", "_law_tables", "_law_k", "_law_told", "_law_products_here"]) (ps := ["_law_hand_here", "_law_p"]) (k := 9) (c := ⟨K, mg, none⟩) D sc__law_plain (fun cdv A outer s H E hr => (ds_cons (sS 2 sc__law_plain.nd (cc_call (cal__law_size T) (hr.mono (by decide)) (T.gl 43 "_law_size" rfl) (fun σ => passAt (takes_of rfl rfl rfl rfl) σ) (xG 0 (xG 1 (dg_cons dx_i dg_nil)))))
      (ds_cons (sS 3 sc__law_plain.nd (cc_call (cal__law_size T) (hr.mono (by decide)) (T.gl 43 "_law_size" rfl) (fun σ => passAt (takes_of rfl rfl rfl rfl) σ) (xG 0 (xG 1 (dg_cons dx_i dg_nil)))))
      (ds_cons (sSW 4 sc__law_plain.nd (dw_lst (dao_cons (cw_call (cal__law_free T) (hr.mono (by decide)) (T.gl 44 "_law_free" rfl) (fun σ => passAt (takes_of rfl rfl rfl rfl) σ) (xG 0 (xG 1 (xG 2 (xG 3 dg_nil))))) (dao_cons (cw_call (cal__law_free T) (hr.mono (by decide)) (T.gl 44 "_law_free" rfl) (fun σ => passAt (takes_of rfl rfl rfl rfl) σ) (xG 0 (xG 1 (xG 2 (xG 3 dg_nil))))) dao_nil))))
      (ds_cons (ds_if (dt_cmp op_gt d_gt (cc_call (cal__law_take T) (hr.mono (by decide)) (T.gl 32 "_law_take" rfl) (fun σ => passAt (takes_of rfl rfl rfl rfl) σ) (xG 0 (dg_cons dx_i dg_nil))) dx_i) (ds_one (ds_for (vs := [5]) (gg := (gName 5)) (bind := (bNm 5)) (passes_of rfl) rfl (bd_nm (by decide)) (di_rg1 (by rfl) (T.fr 11 "range" rfl) (da_cons (dx_op op_mulW d_mul (xv 2) (xv 3)) da_nil)) (gN 5 sc__law_plain.nd) (ds_cons (ds_if (dt_cmp (c_eqD hr.units rfl) d_eq (cc_call (cal__law_take T) (hr.mono (by decide)) (T.gl 32 "_law_take" rfl) (fun σ => passAt (takes_of rfl rfl rfl rfl) σ) (xG 0 (dg_cons dx_i dg_nil))) dx_i) (ds_one (ds_st (cc_call (cal__law_num T) (hr.mono (by decide)) (T.gl 35 "_law_num" rfl) (fun σ => passAt (takes_of rfl rfl rfl rfl) σ) (xG 1 (dg_cons dx_i dg_nil))) (dp_ix (dp_ix (xP 4) dx_i) (dx_op op_fdivG d_div (xv 5) (xv 3))) (dx_op op_modN d_mod (dx_ty call_int1 k_int (by rfl) (T.fr 4 "int" rfl) PyProof.Rows.boot_int (da_cons (xv 5) da_nil)) (xv 3)))) ds_nil)
      (ds_one (ds_if (dt_cmp (c_eqD hr.units rfl) d_eq (cc_call (cal__law_take T) (hr.mono (by decide)) (T.gl 32 "_law_take" rfl) (fun σ => passAt (takes_of rfl rfl rfl rfl) σ) (xG 0 (dg_cons dx_i dg_nil))) dx_i) (ds_one (ds_st (cc_call (cal__law_num T) (hr.mono (by decide)) (T.gl 35 "_law_num" rfl) (fun σ => passAt (takes_of rfl rfl rfl rfl) σ) (xG 1 (dg_cons dx_i dg_nil))) (dp_ix (dp_ix (xP 4) dx_i) (dx_op op_fdivG d_div (xv 5) (xv 3))) (dx_op op_modN d_mod (dx_ty call_int1 k_int (by rfl) (T.fr 4 "int" rfl) PyProof.Rows.boot_int (da_cons (xv 5) da_nil)) (xv 3)))) ds_nil))))) ds_nil)
      (ds_cons (ds_frz 4 (sS 6 sc__law_plain.nd (cc_call (cal_plain_program T) (hr.mono (by decide)) (T.gl 26 "plain_program" rfl) (fun σ => passAt (takes_of rfl rfl rfl rfl) σ) (dg_cons (cc_call (cal__law_passed_pair T) (hr.mono (by decide)) (T.gl 50 "_law_passed_pair" rfl) (fun σ => passAt (takes_of rfl rfl rfl rfl) σ) (xG 0 (xG 1 (xG 4 dg_nil)))) dg_nil))))
      (ds_cons (sS 7 sc__law_plain.nd (cc_call (cal__law_products T) (hr.mono (by decide)) (T.gl 47 "_law_products" rfl) (fun σ => passAt (takes_of rfl rfl rfl rfl) σ) (xG 1 (xG 6 (xG 2 (xG 3 dg_nil))))))
      (ds_one (ds_ret (dx_and (dx_cmp op_notN d_notN (xv 7) dx_n) (dx_and (cc_call (cal__law_exact T 5) (hr.mono (by decide)) (T.gl 45 "_law_exact" rfl) (fun σ => passAt (takes_of rfl rfl rfl rfl) σ) (xG 7 (dg_cons (cc_call (cal__law_cells T) (hr.mono (by decide)) (T.gl 52 "_law_cells" rfl) (fun σ => passAt (takes_of rfl rfl rfl rfl) σ) (xG 1 (xG 4 dg_nil))) dg_nil))) (dx_one (cc_call (cal__law_right T) (hr.mono (by decide)) (T.gl 49 "_law_right" rfl) (fun σ => passAt (takes_of rfl rfl rfl rfl) σ) (xG 1 (xG 7 (xG 4 dg_nil))))))))))))))))) (FunD.bindsN D (fun _ _ _ _ _ _ us hl => match us, hl with | [_, _], _ => rfl))
theorem sc__law_free_program : FnScope ["_law_hand_here", "_law_p", "_law_room", "_law_rows", "_law_columns", "_law_products_here", "_law_k", "_law_u", "_law_i", "_law_v", "_law_j"] ["_law_hand_here", "_law_p", "_law_room"] (defScope (top 80)) := ⟨rfl, rfl, rfl, by decide +kernel, rfl, by decide +kernel, by decide +kernel⟩
theorem cal__law_free_program (T : Fs tb K mg) : Cal P w ⟨K, mg, none⟩ base false 4 (He.ga K "_law_free_program") 3 F__law_free_program [] := by
  obtain ⟨fd, D⟩ : ∃ fd, FunD K "_law_free_program" "_law_free_program" (defArgs (top 80)) (defBody (top 80)) (defScope (top 80)) [] [] (He.ga K "_law_free_program") fd := T.says.def_ 64 rfl
  exact cal_of D (ok_def (N := ["_law_hand_here", "_law_p", "_law_room", "_law_rows", "_law_columns", "_law_products_here", "_law_k", "_law_u", "_law_i", "_law_v", "_law_j"]) (ps := ["_law_hand_here", "_law_p", "_law_room"]) (k := 3) (c := ⟨K, mg, none⟩) D sc__law_free_program (fun cdv A outer s H E hr => (ds_cons (sS 3 sc__law_free_program.nd (dx_op op_add d_add dx_i (cc_call (cal__law_take T) (hr.mono (by decide)) (T.gl 32 "_law_take" rfl) (fun σ => passAt (takes_of rfl rfl rfl rfl) σ) (xG 0 (xG 2 dg_nil)))))
      (ds_cons (sS 4 sc__law_free_program.nd (dx_op op_add d_add dx_i (cc_call (cal__law_take T) (hr.mono (by decide)) (T.gl 32 "_law_take" rfl) (fun σ => passAt (takes_of rfl rfl rfl rfl) σ) (xG 0 (xG 2 dg_nil)))))
      (ds_cons (sSN 5 sc__law_free_program.nd (dn_lst da_nil))
      (ds_cons (ds_for (vs := [6]) (gg := (gName 6)) (bind := (bNm 6)) (passes_of rfl) rfl (bd_nm (by decide)) (di_rg1 (by rfl) (T.fr 11 "range" rfl) (da_cons (cc_call (cal__law_take T) (hr.mono (by decide)) (T.gl 32 "_law_take" rfl) (fun σ => passAt (takes_of rfl rfl rfl rfl) σ) (xG 0 (dg_cons dx_i dg_nil))) da_nil)) (gN 6 sc__law_free_program.nd) (ds_cons (sS 7 sc__law_free_program.nd (dx_ty (c_tup rfl) k_tup (by rfl) (T.fr 14 "tuple" rfl) PyProof.Rows.boot_tuple (da_cons (dx_fz (dn_lc (own := [("_law_i", 8)]) (g := (gName 8)) (bind := (bNm 8)) rfl sc__law_free_program.nd (di_rg1 (by rfl) (T.fr 11 "range" rfl) (da_cons (xv 3) da_nil)) (blkOk_by (own := [("_law_i", 8)]) (N := ["_law_hand_here", "_law_p", "_law_room", "_law_rows", "_law_columns", "_law_products_here", "_law_k", "_law_u", "_law_i", "_law_v", "_law_j"]) (sc := defScope (top 80)) (by decide +kernel)) (bd_nm (by decide)) (fun _ _ _ _ _ => (gN 8 sc__law_free_program.nd)) (fun _ _ _ _ _ => pts_no) (fun _ _ _ _ _ => (cc_call (cal__law_number T) (hr.mono (by decide)) (T.gl 42 "_law_number" rfl) passF (xG 0 (xG 1 dg_nil)))))) da_nil)))
      (ds_cons (sS 9 sc__law_free_program.nd (dx_ty (c_tup rfl) k_tup (by rfl) (T.fr 14 "tuple" rfl) PyProof.Rows.boot_tuple (da_cons (dx_fz (dn_lc (own := [("_law_j", 10)]) (g := (gName 10)) (bind := (bNm 10)) rfl sc__law_free_program.nd (di_rg1 (by rfl) (T.fr 11 "range" rfl) (da_cons (xv 4) da_nil)) (blkOk_by (own := [("_law_j", 10)]) (N := ["_law_hand_here", "_law_p", "_law_room", "_law_rows", "_law_columns", "_law_products_here", "_law_k", "_law_u", "_law_i", "_law_v", "_law_j"]) (sc := defScope (top 80)) (by decide +kernel)) (bd_nm (by decide)) (fun _ _ _ _ _ => (gN 10 sc__law_free_program.nd)) (fun _ _ _ _ _ => pts_no) (fun _ _ _ _ _ => (cc_call (cal__law_number T) (hr.mono (by decide)) (T.gl 42 "_law_number" rfl) passF (xG 0 (xG 1 dg_nil)))))) da_nil)))
      (ds_one (ds_app (xP 5) (dn_of (dx_tup (da_cons (xv 7) (da_cons (xv 9) (da_cons (cc_call (cal__law_number T) (hr.mono (by decide)) (T.gl 42 "_law_number" rfl) (fun σ => passAt (takes_of rfl rfl rfl rfl) σ) (xG 0 (xG 1 dg_nil))) (da_cons (cc_call (cal__law_number T) (hr.mono (by decide)) (T.gl 42 "_law_number" rfl) (fun σ => passAt (takes_of rfl rfl rfl rfl) σ) (xG 0 (xG 1 dg_nil))) da_nil)))))))))))
      (ds_one (ds_frz 5 (ds_ret (dx_fz (dn_lst (da_cons (xv 3) (da_cons (xv 4) (da_cons (dx_ty (c_tup rfl) k_tup (by rfl) (T.fr 14 "tuple" rfl) PyProof.Rows.boot_tuple (da_cons (xv 5) da_nil)) da_nil)))))))))))))) (FunD.bindsN D (fun _ _ _ _ _ _ us hl => match us, hl with | [_, _, _], _ => rfl))
theorem sc__law_corner_due : FnScope ["_law_p", "_law_parts", "_law_rows", "_law_part", "_law_columns", "_law_told", "_law_i", "_law_j", "_law_u", "_law_v", "_law_c", "_law_d"] ["_law_p", "_law_parts"] (defScope (top 81)) := ⟨rfl, rfl, rfl, by decide +kernel, rfl, by decide +kernel, by decide +kernel⟩
theorem cal__law_corner_due (T : Fs tb K mg) : Cal P w ⟨K, mg, none⟩ base false 3 (He.ga K "_law_corner_due") 2 F__law_corner_due [] := by
  obtain ⟨fd, D⟩ : ∃ fd, FunD K "_law_corner_due" "_law_corner_due" (defArgs (top 81)) (defBody (top 81)) (defScope (top 81)) [] [] (He.ga K "_law_corner_due") fd := T.says.def_ 65 rfl
  exact cal_of D (ok_def (N := ["_law_p", "_law_parts", "_law_rows", "_law_part", "_law_columns", "_law_told", "_law_i", "_law_j", "_law_u", "_law_v", "_law_c", "_law_d"]) (ps := ["_law_p", "_law_parts"]) (k := 2) (c := ⟨K, mg, none⟩) D sc__law_corner_due (fun cdv A outer s H E hr => (ds_cons (sS 2 sc__law_corner_due.nd (dx_bi (c_sum rfl rfl) k_sum (by rfl) (T.fr 13 "sum" rfl) (by decide +kernel) (da_cons (dx_fz (dn_lc (own := [("_law_part", 3)]) (g := (gName 3)) (bind := (bNm 3)) rfl sc__law_corner_due.nd (di_seq (xv 1)) (blkOk_by (own := [("_law_part", 3)]) (N := ["_law_p", "_law_parts", "_law_rows", "_law_part", "_law_columns", "_law_told", "_law_i", "_law_j", "_law_u", "_law_v", "_law_c", "_law_d"]) (sc := defScope (top 81)) (by decide +kernel)) (bd_nm (by decide)) (fun _ _ _ _ _ => (gN 3 sc__law_corner_due.nd)) (fun _ _ _ _ _ => pts_no) (fun _ _ _ _ _ => (dx_ix (xv 3) dx_i)))) da_nil)))
      (ds_cons (sS 4 sc__law_corner_due.nd (dx_bi (c_sum rfl rfl) k_sum (by rfl) (T.fr 13 "sum" rfl) (by decide +kernel) (da_cons (dx_fz (dn_lc (own := [("_law_part", 3)]) (g := (gName 3)) (bind := (bNm 3)) rfl sc__law_corner_due.nd (di_seq (xv 1)) (blkOk_by (own := [("_law_part", 3)]) (N := ["_law_p", "_law_parts", "_law_rows", "_law_part", "_law_columns", "_law_told", "_law_i", "_law_j", "_law_u", "_law_v", "_law_c", "_law_d"]) (sc := defScope (top 81)) (by decide +kernel)) (bd_nm (by decide)) (fun _ _ _ _ _ => (gN 3 sc__law_corner_due.nd)) (fun _ _ _ _ _ => pts_no) (fun _ _ _ _ _ => (dx_ix (xv 3) dx_i)))) da_nil)))
      (ds_cons (sSN 5 sc__law_corner_due.nd (dn_lst da_nil))
      (ds_cons (sS 6 sc__law_corner_due.nd dx_i)
      (ds_cons (sS 7 sc__law_corner_due.nd dx_i)
      (ds_cons (ds_for (vs := [3]) (gg := (gName 3)) (bind := (bNm 3)) (passes_of rfl) rfl (bd_nm (by decide)) (di_seq (xv 1)) (gN 3 sc__law_corner_due.nd) (ds_cons (ds_for (vs := [8, 9, 10, 11]) (gg := (gTup K 4 (gCons (gName 8) (gCons (gName 9) (gCons (gName 10) (gCons (gName 11) gNil)))))) (bind := (bTp [(bNm 8), (bNm 9), (bNm 10), (bNm 11)])) (passes_of rfl) rfl (bd_tp rfl (ba_cons (bd_nm (by decide)) (ba_cons (bd_nm (by decide)) (ba_cons (bd_nm (by decide)) (ba_cons (bd_nm (by decide)) ba_nil))))) (di_seq (dx_ix (xv 3) dx_i)) (pg_tup rfl (pgs_cons (gN 8 sc__law_corner_due.nd) (pgs_cons (gN 9 sc__law_corner_due.nd) (pgs_cons (gN 10 sc__law_corner_due.nd) (pgs_cons (gN 11 sc__law_corner_due.nd) pgs_nil))))) (ds_one (ds_app (xP 5) (dn_of (dx_tup (da_cons (cc_call (cal__law_placed T) (hr.mono (by decide)) (T.gl 51 "_law_placed" rfl) (fun σ => passAt (takes_of rfl rfl rfl rfl) σ) (xG 0 (xG 8 (xG 6 (xG 2 dg_nil))))) (da_cons (cc_call (cal__law_placed T) (hr.mono (by decide)) (T.gl 51 "_law_placed" rfl) (fun σ => passAt (takes_of rfl rfl rfl rfl) σ) (xG 0 (xG 9 (xG 7 (xG 4 dg_nil))))) (da_cons (xv 10) (da_cons (xv 11) da_nil)))))))))
      (ds_cons (sS 6 sc__law_corner_due.nd (dx_op op_add d_add (xv 6) (dx_ix (xv 3) dx_i)))
      (ds_one (sS 7 sc__law_corner_due.nd (dx_op op_add d_add (xv 7) (dx_ix (xv 3) dx_i)))))))
      (ds_one (ds_frz 5 (ds_ret (dx_ty (c_tup rfl) k_tup (by rfl) (T.fr 14 "tuple" rfl) PyProof.Rows.boot_tuple (da_cons (xv 5) da_nil))))))))))))) (FunD.bindsN D (fun _ _ _ _ _ _ us hl => match us, hl with | [_, _], _ => rfl))
theorem sc__law_asked : FnScope ["_law_programs", "e"] ["_law_programs"] (defScope (top 82)) := ⟨rfl, rfl, rfl, by decide +kernel, rfl, by decide +kernel, by decide +kernel⟩
theorem cal__law_asked (T : Fs tb K mg) : Cal P w ⟨K, mg, none⟩ base false 10 (He.ga K "_law_asked") 1 F__law_asked [] := by
  obtain ⟨fd, D⟩ : ∃ fd, FunD K "_law_asked" "_law_asked" (defArgs (top 82)) (defBody (top 82)) (defScope (top 82)) [] [] (He.ga K "_law_asked") fd := T.says.def_ 66 rfl
  exact cal_of D (ok_def (N := ["_law_programs", "e"]) (ps := ["_law_programs"]) (k := 9) (c := ⟨K, mg, none⟩) D sc__law_asked (fun cdv A outer s H E hr => (ds_one (ds_try rfl rfl rfl sc__law_asked.nd (takes_of rfl rfl rfl rfl) (fun W pn xe tk po => (ds_one (ds_ret (cc_call (cal_programs_beside T) (hr.mono (by decide)) (T.gl 29 "programs_beside" rfl) (fun σ => passAt tk σ) (xG 0 dg_nil))))) (.cons (i := 1) (ms := (msOf [("BadFigures", false), ("BadTable", false), ("BadLetters", false), ("BadPair", false), ("Unlike", false), ("BadProgram", false), ("BadMany", true)])) (u := (sRet (eFz (eLst (eCons (eC (.str "many")) (eCons (eXf ["BadMany"] 1 "most") (eCons (eXi (msOf [("BadFigures", true), ("BadTable", true), ("BadLetters", true), ("BadPair", true), ("Unlike", true), ("BadProgram", true), ("BadMany", true)]) 1) eNil))))))) rfl rfl ⟨by rfl, by decide, Or.inl (T.gl 68 "BadMany" rfl)⟩ (ms_ok (y := "BadMany") T (by decide +kernel)) (fun a oe k dd pn hz hf => (ds_one (ds_ret (dx_fz (dn_lst (da_cons dx_s (da_cons (dx_xf (xf_ok T (by decide +kernel)) hz hf rfl (by first | exact Or.inl rfl | exact Or.inr (Or.inl rfl))) (da_cons (dx_xi ⟨T.gt.hn, T.gt.ht⟩ (xi_ok (y := "PairError") T (by decide +kernel)) hz hf rfl (by first | exact Or.inl rfl | exact Or.inr (Or.inl rfl)) (by rfl) (T.fr 5 "isinstance" rfl) (by rfl) (T.gl 61 "PairError" rfl)) da_nil)))))))) (.cons (i := 1) (ms := (msOf [("BadFigures", false), ("BadTable", false), ("BadLetters", false), ("BadPair", false), ("Unlike", true), ("BadProgram", false), ("BadMany", false)])) (u := (sRet (eFz (eLst (eCons (eC (.str "unlike")) (eCons (eXi (msOf [("BadFigures", true), ("BadTable", true), ("BadLetters", true), ("BadPair", true), ("Unlike", true), ("BadProgram", true), ("BadMany", true)]) 1) eNil)))))) rfl rfl ⟨by rfl, by decide, Or.inl (T.gl 66 "Unlike" rfl)⟩ (ms_ok (y := "Unlike") T (by decide +kernel)) (fun a oe k dd pn hz hf => (ds_one (ds_ret (dx_fz (dn_lst (da_cons dx_s (da_cons (dx_xi ⟨T.gt.hn, T.gt.ht⟩ (xi_ok (y := "PairError") T (by decide +kernel)) hz hf rfl (by first | exact Or.inl rfl | exact Or.inr (Or.inl rfl)) (by rfl) (T.fr 5 "isinstance" rfl) (by rfl) (T.gl 61 "PairError" rfl)) da_nil))))))) (.cons (i := 1) (ms := (msOf [("BadFigures", false), ("BadTable", false), ("BadLetters", false), ("BadPair", false), ("Unlike", false), ("BadProgram", true), ("BadMany", false)])) (u := (sRet (eFz (eLst (eCons (eC (.str "program")) (eCons (eXf ["BadTable", "BadLetters", "BadProgram"] 1 "index") (eCons (eXf ["BadTable", "BadLetters", "BadPair", "BadProgram"] 1 "what") eNil))))))) rfl rfl ⟨by rfl, by decide, Or.inl (T.gl 67 "BadProgram" rfl)⟩ (ms_ok (y := "BadProgram") T (by decide +kernel)) (fun a oe k dd pn hz hf => (ds_one (ds_ret (dx_fz (dn_lst (da_cons dx_s (da_cons (dx_xf (xf_ok T (by decide +kernel)) hz hf rfl (by first | exact Or.inl rfl | exact Or.inr (Or.inl rfl))) (da_cons (dx_xf (xf_ok T (by decide +kernel)) hz hf rfl (by first | exact Or.inl rfl | exact Or.inr (Or.inl rfl))) da_nil)))))))) .nil))))))) (FunD.bindsN D (fun _ _ _ _ _ _ us hl => match us, hl with | [_], _ => rfl))
theorem sc__law_beside : FnScope ["_law_hand_here", "_law_p", "_law_figures_here", "_law_parts", "_law_k", "_law_programs", "_law_part", "_law_rows", "_law_columns", "_law_great", "_law_told", "_law_products_here"] ["_law_hand_here", "_law_p", "_law_figures_here"] (defScope (top 83)) := ⟨rfl, rfl, rfl, by decide +kernel, rfl, by decide +kernel, by decide +kernel⟩
theorem cal__law_beside (T : Fs tb K mg) : Cal P w ⟨K, mg, none⟩ base false 11 (He.ga K "_law_beside") 3 F__law_beside [] := by
  obtain ⟨fd, D⟩ : ∃ fd, FunD K "_law_beside" "_law_beside" (defArgs (top 83)) (defBody (top 83)) (defScope (top 83)) [] [] (He.ga K "_law_beside") fd := T.says.def_ 67 rfl
  exact cal_of D (ok_def (N := ["_law_hand_here", "_law_p", "_law_figures_here", "_law_parts", "_law_k", "_law_programs", "_law_part", "_law_rows", "_law_columns", "_law_great", "_law_told", "_law_products_here"]) (ps := ["_law_hand_here", "_law_p", "_law_figures_here"]) (k := 10) (c := ⟨K, mg, none⟩) D sc__law_beside (fun cdv A outer s H E hr => (ds_cons (sS 3 sc__law_beside.nd (dx_fz (dn_lc (own := [("_law_k", 4)]) (g := (gName 4)) (bind := (bNm 4)) rfl sc__law_beside.nd (di_rg1 (by rfl) (T.fr 11 "range" rfl) (da_cons (dx_op op_add d_add dx_i (cc_call (cal__law_take T) (hr.mono (by decide)) (T.gl 32 "_law_take" rfl) (fun σ => passAt (takes_of rfl rfl rfl rfl) σ) (xG 0 (dg_cons dx_i dg_nil)))) da_nil)) (blkOk_by (own := [("_law_k", 4)]) (N := ["_law_hand_here", "_law_p", "_law_figures_here", "_law_parts", "_law_k", "_law_programs", "_law_part", "_law_rows", "_law_columns", "_law_great", "_law_told", "_law_products_here"]) (sc := defScope (top 83)) (by decide +kernel)) (bd_nm (by decide)) (fun _ _ _ _ _ => (gN 4 sc__law_beside.nd)) (fun _ _ _ _ _ => pts_no) (fun _ _ _ _ _ => (cc_call (cal__law_free_program T) (hr.mono (by decide)) (T.gl 54 "_law_free_program" rfl) passF (xG 0 (xG 1 (dg_cons dx_i dg_nil))))))))
      (ds_cons (sS 5 sc__law_beside.nd (dx_fz (dn_lc (own := [("_law_part", 6)]) (g := (gName 6)) (bind := (bNm 6)) rfl sc__law_beside.nd (di_seq (xv 3)) (blkOk_by (own := [("_law_part", 6)]) (N := ["_law_hand_here", "_law_p", "_law_figures_here", "_law_parts", "_law_k", "_law_programs", "_law_part", "_law_rows", "_law_columns", "_law_great", "_law_told", "_law_products_here"]) (sc := defScope (top 83)) (by decide +kernel)) (bd_nm (by decide)) (fun _ _ _ _ _ => (gN 6 sc__law_beside.nd)) (fun _ _ _ _ _ => pts_no) (fun _ _ _ _ _ => (cc_make (T.gl 70 "Program" rfl) (T.cls 1 _ rfl).1 (T.cls 1 _ rfl).2 (cal_Program___init__ T) (hr.mono (by decide)) passF (da_cons (xv 2) (da_cons (dx_ix (xv 6) dx_i) (da_cons (dx_ix (xv 6) dx_i) (da_cons (dx_ix (xv 6) dx_i) da_nil)))))))))
      (ds_cons (sS 7 sc__law_beside.nd (dx_bi (c_sum rfl rfl) k_sum (by rfl) (T.fr 13 "sum" rfl) (by decide +kernel) (da_cons (dx_fz (dn_lc (own := [("_law_part", 6)]) (g := (gName 6)) (bind := (bNm 6)) rfl sc__law_beside.nd (di_seq (xv 3)) (blkOk_by (own := [("_law_part", 6)]) (N := ["_law_hand_here", "_law_p", "_law_figures_here", "_law_parts", "_law_k", "_law_programs", "_law_part", "_law_rows", "_law_columns", "_law_great", "_law_told", "_law_products_here"]) (sc := defScope (top 83)) (by decide +kernel)) (bd_nm (by decide)) (fun _ _ _ _ _ => (gN 6 sc__law_beside.nd)) (fun _ _ _ _ _ => pts_no) (fun _ _ _ _ _ => (dx_ix (xv 6) dx_i)))) da_nil)))
      (ds_cons (sS 8 sc__law_beside.nd (dx_bi (c_sum rfl rfl) k_sum (by rfl) (T.fr 13 "sum" rfl) (by decide +kernel) (da_cons (dx_fz (dn_lc (own := [("_law_part", 6)]) (g := (gName 6)) (bind := (bNm 6)) rfl sc__law_beside.nd (di_seq (xv 3)) (blkOk_by (own := [("_law_part", 6)]) (N := ["_law_hand_here", "_law_p", "_law_figures_here", "_law_parts", "_law_k", "_law_programs", "_law_part", "_law_rows", "_law_columns", "_law_great", "_law_told", "_law_products_here"]) (sc := defScope (top 83)) (by decide +kernel)) (bd_nm (by decide)) (fun _ _ _ _ _ => (gN 6 sc__law_beside.nd)) (fun _ _ _ _ _ => pts_no) (fun _ _ _ _ _ => (dx_ix (xv 6) dx_i)))) da_nil)))
      (ds_cons (sS 9 sc__law_beside.nd (dx_if (dt_cmp op_gt d_gt (xv 1) dx_i) (dx_bi (call_min2 rfl) k_min2 (by rfl) (T.fr 10 "min" rfl) (by decide +kernel) (da_cons dx_i (da_cons (xv 1) da_nil))) dx_i))
      (ds_cons (sS 10 sc__law_beside.nd (cc_call (cal__law_asked T) (hr.mono (by decide)) (T.gl 56 "_law_asked" rfl) (fun σ => passAt (takes_of rfl rfl rfl rfl) σ) (dg_cons (cc_call (cal__law_list T) (hr.mono (by decide)) (T.gl 46 "_law_list" rfl) (fun σ => passAt (takes_of rfl rfl rfl rfl) σ) (xG 0 (xG 5 dg_nil))) dg_nil)))
      (ds_cons (ds_if (dt_cmp op_gt d_gt (xv 7) (xv 9)) (ds_one (ds_ret (dx_cmp (c_eqD hr.units rfl) d_eq (xv 10) (dx_fz (dn_lst (da_cons dx_s (da_cons dx_i (da_cons dx_s da_nil)))))))) ds_nil)
      (ds_cons (ds_if (dt_cmp op_gt d_gt (xv 8) (xv 9)) (ds_one (ds_ret (dx_cmp (c_eqD hr.units rfl) d_eq (xv 10) (dx_fz (dn_lst (da_cons dx_s (da_cons dx_i (da_cons dx_s da_nil)))))))) ds_nil)
      (ds_cons (ds_if (dt_tru rfl (dx_is T.gt (by decide) (by rfl) (T.fr 5 "isinstance" rfl) (xv 10) (pe_bltn (v := .ty "list") (by rfl) (T.fr 8 "list" rfl) (by decide +kernel) rfl))) (ds_one (ds_ret dx_b)) ds_nil)
      (ds_cons (sS 11 sc__law_beside.nd (cc_call (cal__law_products T) (hr.mono (by decide)) (T.gl 47 "_law_products" rfl) (fun σ => passAt (takes_of rfl rfl rfl rfl) σ) (xG 1 (xG 10 (xG 7 (xG 8 dg_nil))))))
      (ds_cons (ds_if (PW.pt (dw_or (dt_cmp op_isN d_isN (xv 11) dx_n) (dw_or1 (dt_not (dt_tru rfl (cc_call (cal__law_exact T 5) (hr.mono (by decide)) (T.gl 45 "_law_exact" rfl) (fun σ => passAt (takes_of rfl rfl rfl rfl) σ) (xG 11 (dg_cons (cc_call (cal__law_corner_due T) (hr.mono (by decide)) (T.gl 55 "_law_corner_due" rfl) (fun σ => passAt (takes_of rfl rfl rfl rfl) σ) (xG 1 (xG 3 dg_nil))) dg_nil)))))))) (ds_one (ds_ret dx_b)) ds_nil)
      (ds_one (ds_ret (dx_cmp (c_eqD hr.units rfl) d_eq (dx_fz (dn_lc (own := [("_law_k", 4)]) (g := (gName 4)) (bind := (bNm 4)) rfl sc__law_beside.nd (di_rg1 (by rfl) (T.fr 11 "range" rfl) (da_cons (dx_bi (c_len rfl) k_len (by rfl) (T.fr 7 "len" rfl) PySem.boot_len (da_cons (xv 3) da_nil)) da_nil)) (blkOk_by (own := [("_law_k", 4)]) (N := ["_law_hand_here", "_law_p", "_law_figures_here", "_law_parts", "_law_k", "_law_programs", "_law_part", "_law_rows", "_law_columns", "_law_great", "_law_told", "_law_products_here"]) (sc := defScope (top 83)) (by decide +kernel)) (bd_nm (by decide)) (fun _ _ _ _ _ => (gN 4 sc__law_beside.nd)) (fun _ _ _ _ _ => (pts_if (dt_cmp (c_neD hr.units rfl) d_ne (dx_at (dx_ix (xv 5) (xv 4))) (dx_ix (dx_ix (xv 3) (xv 4)) dx_i)))) (fun _ _ _ _ _ => (xv 4)))) (dx_fz (dn_lst da_nil)))))))))))))))))) (FunD.bindsN D (fun _ _ _ _ _ _ us hl => match us, hl with | [_, _, _], _ => rfl))
theorem sc__law_refused : FnScope ["_law_hand_here", "_law_p", "_law_figures_here", "_law_one", "_law_strange", "_law_other", "_law_programs", "_law_product", "_law_full", "_law_k", "_law_told"] ["_law_hand_here", "_law_p", "_law_figures_here"] (defScope (top 84)) := ⟨rfl, rfl, rfl, by decide +kernel, rfl, by decide +kernel, by decide +kernel⟩
theorem cal__law_refused (T : Fs tb K mg) : Cal P w ⟨K, mg, none⟩ base false 11 (He.ga K "_law_refused") 3 F__law_refused [] := by
  obtain ⟨fd, D⟩ : ∃ fd, FunD K "_law_refused" "_law_refused" (defArgs (top 84)) (defBody (top 84)) (defScope (top 84)) [] [] (He.ga K "_law_refused") fd := T.says.def_ 68 rfl
  exact cal_of D (ok_def (N := ["_law_hand_here", "_law_p", "_law_figures_here", "_law_one", "_law_strange", "_law_other", "_law_programs", "_law_product", "_law_full", "_law_k", "_law_told"]) (ps := ["_law_hand_here", "_law_p", "_law_figures_here"]) (k := 10) (c := ⟨K, mg, none⟩) D sc__law_refused (fun cdv A outer s H E hr => (ds_cons (sS 3 sc__law_refused.nd (cc_make (T.gl 70 "Program" rfl) (T.cls 1 _ rfl).1 (T.cls 1 _ rfl).2 (cal_Program___init__ T) (hr.mono (by decide)) (fun σ => passAt (takes_of rfl rfl rfl rfl) σ) (da_cons (xv 2) (da_cons dx_i (da_cons dx_i (da_cons (dx_tup da_nil) da_nil))))))
      (ds_cons (sS 4 sc__law_refused.nd (dx_ix (dx_tup (da_cons (dx_fz (dn_lst da_nil)) (da_cons (dx_tup da_nil) (da_cons (dx_fz (dn_times (dx_fz (dn_lst (da_cons (xv 3) da_nil))) dx_i)) (da_cons dx_n (da_cons dx_i da_nil)))))) (cc_call (cal__law_take T) (hr.mono (by decide)) (T.gl 32 "_law_take" rfl) (fun σ => passAt (takes_of rfl rfl rfl rfl) σ) (xG 0 (dg_cons dx_i dg_nil)))))
      (ds_cons (ds_if (dt_cmp (c_neD hr.units rfl) d_ne (cc_call (cal__law_asked T) (hr.mono (by decide)) (T.gl 56 "_law_asked" rfl) (fun σ => passAt (takes_of rfl rfl rfl rfl) σ) (xG 4 dg_nil)) (dx_fz (dn_lst (da_cons dx_s (da_cons dx_i (da_cons dx_b da_nil)))))) (ds_one (ds_ret dx_b)) ds_nil)
      (ds_cons (sS 5 sc__law_refused.nd (cc_make (T.gl 70 "Program" rfl) (T.cls 1 _ rfl).1 (T.cls 1 _ rfl).2 (cal_Program___init__ T) (hr.mono (by decide)) (fun σ => passAt (takes_of rfl rfl rfl rfl) σ) (da_cons (cc_make (T.gl 71 "Figures" rfl) (T.cls 2 _ rfl).1 (T.cls 2 _ rfl).2 (cal_Figures___init__ T) (hr.mono (by decide)) (fun σ => passAt (takes_of rfl rfl rfl rfl) σ) (da_cons (dx_if (dt_cmp (c_eqD hr.units rfl) d_eq (xv 1) dx_i) dx_i dx_i) da_nil)) (da_cons dx_i (da_cons dx_i (da_cons (dx_tup da_nil) da_nil))))))
      (ds_cons (sS 6 sc__law_refused.nd (dx_fz (dn_plus (dx_fz (dn_plus (dx_fz (dn_times (dx_fz (dn_lst (da_cons (xv 3) da_nil))) (dx_op op_add d_add dx_i (cc_call (cal__law_take T) (hr.mono (by decide)) (T.gl 32 "_law_take" rfl) (fun σ => passAt (takes_of rfl rfl rfl rfl) σ) (xG 0 (dg_cons dx_i dg_nil)))))) (dx_fz (dn_lst (da_cons (xv 5) da_nil))))) (dx_fz (dn_times (dx_fz (dn_lst (da_cons (xv 3) da_nil))) (cc_call (cal__law_take T) (hr.mono (by decide)) (T.gl 32 "_law_take" rfl) (fun σ => passAt (takes_of rfl rfl rfl rfl) σ) (xG 0 (dg_cons dx_i dg_nil))))))))
      (ds_cons (ds_if (dt_cmp (c_neD hr.units rfl) d_ne (cc_call (cal__law_asked T) (hr.mono (by decide)) (T.gl 56 "_law_asked" rfl) (fun σ => passAt (takes_of rfl rfl rfl rfl) σ) (xG 6 dg_nil)) (dx_fz (dn_lst (da_cons dx_s (da_cons dx_b da_nil))))) (ds_one (ds_ret dx_b)) ds_nil)
      (ds_cons (sS 7 sc__law_refused.nd (dx_tup (da_cons (dx_tup (da_cons (xA 2) da_nil)) (da_cons (dx_tup (da_cons (xA 2) da_nil)) (da_cons (xA 2) (da_cons (xA 2) da_nil))))))
      (ds_cons (ds_setLcF (i := 8) (own := [("_law_k", 9)]) (g := (gName 9)) (bind := (bNm 9)) rfl sc__law_refused.nd rfl rfl (sw_true rfl rfl rfl (by decide +kernel)) (di_rg1 (by rfl) (T.fr 11 "range" rfl) (da_cons dx_i da_nil)) (blkOk_by (own := [("_law_k", 9)]) (N := ["_law_hand_here", "_law_p", "_law_figures_here", "_law_one", "_law_strange", "_law_other", "_law_programs", "_law_product", "_law_full", "_law_k", "_law_told"]) (sc := defScope (top 84)) (by decide +kernel)) (bd_nm (by decide)) (fun _ _ _ _ _ => (gN 9 sc__law_refused.nd)) (fun _ _ _ _ _ => pts_no) (fun _ _ _ _ _ => (cc_make (T.gl 70 "Program" rfl) (T.cls 1 _ rfl).1 (T.cls 1 _ rfl).2 (cal_Program___init__ T) (hr.mono (by decide)) passF (da_cons (xv 2) (da_cons dx_i (da_cons dx_i (da_cons (dx_fz (dn_times (dx_fz (dn_lst (da_cons (xv 7) da_nil))) (dx_op op_add d_add dx_i (xv 9)))) da_nil)))))))
      (ds_cons (ds_if (dt_cmp (c_neD hr.units rfl) d_ne (cc_call (cal__law_asked T) (hr.mono (by decide)) (T.gl 56 "_law_asked" rfl) (fun σ => passAt (takes_of rfl rfl rfl rfl) σ) (dg_cons (dx_fz (dn_lst (da_cons (dx_ix (xv 8) dx_i) (da_cons (dx_ix (xv 8) dx_i) da_nil)))) dg_nil)) (dx_fz (dn_lst (da_cons dx_s (da_cons dx_i (da_cons dx_s da_nil)))))) (ds_one (ds_ret dx_b)) ds_nil)
      (ds_cons (sS 10 sc__law_refused.nd (cc_call (cal__law_asked T) (hr.mono (by decide)) (T.gl 56 "_law_asked" rfl) (fun σ => passAt (takes_of rfl rfl rfl rfl) σ) (dg_cons (dx_fz (dn_lst (da_cons (dx_ix (xv 8) dx_i) (da_cons (dx_ix (xv 8) dx_i) da_nil)))) dg_nil)))
      (ds_one (ds_ret (dx_and (dx_not (dx_is T.gt (by decide) (by rfl) (T.fr 5 "isinstance" rfl) (xv 10) (pe_bltn (v := .ty "list") (by rfl) (T.fr 8 "list" rfl) (by decide +kernel) rfl))) (dx_and (dx_cmp (c_eqD hr.units rfl) d_eq (cc_lenI ⟨(T.spc 0 _ rfl).1, (T.spc 0 _ rfl).2⟩ (T.gl 70 "Program" rfl) (cal_Program___len__ T) (hr.mono (by decide)) (xv 10) (T.fr 7 "len" rfl)) dx_i) (dx_one (cc_call (cal__law_exact T 5) (hr.mono (by decide)) (T.gl 45 "_law_exact" rfl) (fun σ => passAt (takes_of rfl rfl rfl rfl) σ) (dg_cons (xA 10) (dg_cons dx_i dg_nil)))))))))))))))))))) (FunD.bindsN D (fun _ _ _ _ _ _ us hl => match us, hl with | [_, _, _], _ => rfl))
theorem sc_law : FnScope ["_law_script", "_law_hand_here", "_law_turn", "_law_p", "_law_figures_here"] ["_law_script"] (defScope (top 85)) := ⟨rfl, rfl, rfl, by decide +kernel, rfl, by decide +kernel, by decide +kernel⟩
theorem law_ok (T : Fs tb K mg) (hu : LawB 3 B_law) : ∃ fd : FuncData, (∀ (s : Shared) (v : Value), BindsTo s fd ⟨[v], []⟩ [("_law_script", v)]) ∧ ∀ base : Heap, FnOk P w K mg base CX0 12 (He.ga K "law") fd ["_law_script"] (spLaw K) := by
  obtain ⟨fd, D⟩ : ∃ fd, FunD K "law" "law" (defArgs (top 85)) (defBody (top 85)) (defScope (top 85)) [] [] (He.ga K "law") fd := T.says.def_ 69 rfl
  have bW := FunD.bindsA (ps := ["_law_script"]) D fun _ _ _ _ _ _ us hl => match us, hl with | [_], _ => rfl
  refine ⟨fd, fun s v => bW s [v] rfl, fun base => ?_⟩
  obtain ⟨⟨fh, GH, bH⟩, kH⟩ := hand_ok (P := P) (w := w) (base := base) T
  refine fn_calm0 (FunD.ok (CX := L2.CX P w) (k := 11) D sc_law (fun vs H Q E h => len_law (Q := Q) (E := E) h) (fun cdv A outer s H vs Q E hr h => ⟨_, pss_cons (ps_set (i := 1) sc_law.nd rfl (by first | exact Or.inl rfl | exact Or.inr rfl) (pe_call GH (hr.mono (by decide)) (by rfl) (T.gl 30 "_law_hand" rfl) kH bH .nil pass0 (pa_cons (pv 0) pa_nil))) (ds_cons (ds_for (vs := [2]) (gg := (gName 2)) (bind := (bNm 2)) (passes_of rfl) rfl (bd_nm (by decide)) (di_rg1 (by rfl) (T.fr 11 "range" rfl) (da_cons dx_i da_nil)) (gN 2 sc_law.nd) (ds_cons (sS 3 sc_law.nd (cc_call (cal__law_figures T) (hr.mono (by decide)) (T.gl 41 "_law_figures" rfl) (fun σ => passAt (takes_of rfl rfl rfl rfl) σ) (xG 1 dg_nil)))
      (ds_cons (sS 4 sc_law.nd (cc_make (T.gl 71 "Figures" rfl) (T.cls 2 _ rfl).1 (T.cls 2 _ rfl).2 (cal_Figures___init__ T) (hr.mono (by decide)) (fun σ => passAt (takes_of rfl rfl rfl rfl) σ) (da_cons (xv 3) da_nil)))
      (ds_one (ds_if (PW.pt (dw_or (dt_not (dt_tru rfl (cc_call (cal__law_plain T) (hr.mono (by decide)) (T.gl 53 "_law_plain" rfl) (fun σ => passAt (takes_of rfl rfl rfl rfl) σ) (xG 1 (xG 3 dg_nil))))) (dw_or (dt_not (dt_tru rfl (cc_call (cal__law_beside T) (hr.mono (by decide)) (T.gl 57 "_law_beside" rfl) (fun σ => passAt (takes_of rfl rfl rfl rfl) σ) (xG 1 (xG 3 (xG 4 dg_nil)))))) (dw_or1 (dt_not (dt_tru rfl (cc_call (cal__law_refused T) (hr.mono (by decide)) (T.gl 58 "_law_refused" rfl) (fun σ => passAt (takes_of rfl rfl rfl rfl) σ) (xG 1 (xG 3 (xG 4 dg_nil)))))))))) (ds_one (ds_ret dx_b)) ds_nil)))))
      (ds_one (ds_ret dx_b))), law_read (c := ⟨K, mg, none⟩) (names := ["_law_script", "_law_hand_here", "_law_turn", "_law_p", "_law_figures_here"]) (W := fun cls dd _ H' => E cls dd H') rfl hu h⟩))
end
end N71
namespace Fw
open PySem PySem.Spec L2
theorem eC_a (d : D) (δ : DE) (h : D) : eC d δ h = (.ok d h) := (rfl)
theorem eOp_a (f : D → D → Option D) (fa fb : EF D) (δ : DE) (h : D) : eOp f fa fb δ h = ((fa δ h).bind fun x h1 => (fb δ h1).bind fun y h2 => Ex.of (f x y) h2) := (rfl)
theorem eUn_a (f : D → Option D) (fa : EF D) (δ : DE) (h : D) : eUn f fa δ h = ((fa δ h).bind fun x h1 => Ex.of (f x) h1) := (rfl)
theorem eT_a (f : EF D) (δ : DE) (h : D) : eT f δ h = ((f δ h).bind bD) := (rfl)
theorem eTru_a (f : EF D) (δ : DE) (h : D) : eTru f δ h = ((f δ h).bind fun d h1 => Ex.of (truD d) h1) := (rfl)
theorem eAnd_a (g1 g2 : EF Bool) (δ : DE) (h : D) : eAnd g1 g2 δ h = ((g1 δ h).bind fun b h1 => if b then g2 δ h1 else .ok false h1) := (rfl)
theorem eOr_a (g1 g2 : EF Bool) (δ : DE) (h : D) : eOr g1 g2 δ h = ((g1 δ h).bind fun b h1 => if b then .ok true h1 else g2 δ h1) := (rfl)
theorem eNot_a (g : EF Bool) (δ : DE) (h : D) : eNot g δ h = ((g δ h).bind fun b h1 => .ok (!b) h1) := (rfl)
theorem eB_a (g : EF Bool) (δ : DE) (h : D) : eB g δ h = ((g δ h).bind fun b h1 => .ok (.bl b) h1) := (rfl)
theorem eIf_a (g : EF Bool) (fa fb : EF D) (δ : DE) (h : D) : eIf g fa fb δ h = ((g δ h).bind fun b h1 => if b then fa δ h1 else fb δ h1) := (rfl)
theorem eCh_a (k1 k2 : D → D → Option D) (fa fb fc : EF D) (δ : DE) (h : D) : eCh k1 k2 fa fb fc δ h = ((fa δ h).bind fun x h1 => (fb δ h1).bind fun y h2 => (Ex.of (k1 x y) h2).bind fun z h3 => (bD z h3).bind fun b h4 => if b then (fc δ h4).bind fun w h5 => Ex.of (k2 y w) h5 else .ok (.bl false) h4) := (rfl)
theorem eNil_a (δ : DE) (h : D) : eNil δ h = (.ok [] h) := (rfl)
theorem eCons_a (f : EF D) (g : EF (List D)) (δ : DE) (h : D) : eCons f g δ h = ((f δ h).bind fun d h1 => (g δ h1).bind fun ds h2 => .ok (d :: ds) h2) := (rfl)
theorem eTup_a (fs : EF (List D)) (δ : DE) (h : D) : eTup fs δ h = ((fs δ h).bind fun ds h1 => Ex.of (if szOk ds.length then some (.tup ds) else none) h1) := (rfl)
theorem eLst_a (fs : EF (List D)) (δ : DE) (h : D) : eLst fs δ h = ((fs δ h).bind fun ds h1 => Ex.of (if szOk ds.length then some (.hl ds) else none) h1) := (rfl)
theorem eFz_a (f : EF D) (δ : DE) (h : D) : eFz f δ h = ((f δ h).bind fun d h1 => .ok (sfz d) h1) := (rfl)
theorem eM_a (i : Nat) (δ : DE) (h : D) : eM i δ h = (match δ[i]? with
 | some (some .me) => .ok () h
 | _ => .bad) := (rfl)
theorem eIxM_a (i : Nat) (fb : EF D) (δ : DE) (h : D) : eIxM i fb δ h = ((eM i δ h).bind fun _ h1 => (fb δ h1).bind fun y h2 => Ex.of (match y, h2 with
 | .int i, .hl ds => atI ds i
 | _, _ => none) h2) := (rfl)
theorem eNo_a (δ : DE) (h : D) : eNo δ h = (.ok none h) := (rfl)
theorem eSl_a (f : EF D) (lo hi : EF (Option Int)) (δ : DE) (h : D) : eSl f lo hi δ h = ((f δ h).bind fun d h1 => (lo δ h1).bind fun l h2 => (hi δ h2).bind fun u h3 => Ex.of (slD d l u) h3) := (rfl)
theorem eBi_a (k : List D → Option D) (fs : EF (List D)) (δ : DE) (h : D) : eBi k fs δ h = ((fs δ h).bind fun ds h1 => Ex.of (k ds) h1) := (rfl)
theorem eIs_a (n : String) (f : EF D) (δ : DE) (h : D) : eIs n f δ h = ((f δ h).bind fun d h1 => Ex.of ((isS n d).map .bl) h1) := (rfl)
theorem eIs2_a (n m : String) (f : EF D) (δ : DE) (h : D) : eIs2 n m f δ h = ((f δ h).bind fun d h1 => Ex.of (match isS n d, isS m d with
 | some k, some l => some (.bl (k || l))
 | _, _ => none) h1) := (rfl)
theorem iSeq_a (f : EF D) (δ : DE) (h : D) : iSeq f δ h = ((f δ h).bind fun d h1 => Ex.of (itS d) h1) := (rfl)
theorem iRg_a (k : List D → Option (List D)) (fs : EF (List D)) (δ : DE) (h : D) : iRg k fs δ h = ((fs δ h).bind fun ds h1 => Ex.of (k ds) h1) := (rfl)
theorem eLcL_a (vs : List Nat) (it : EF (List D)) (bind : D → DE → Option DE) (test : EF Bool) (elt : EF D) (δ : DE) (h : D) : eLcL vs it bind test elt δ h = ((it δ h).bind fun ds h1 => if szOk ds.length then lcGo bind test elt (wipeD δ vs) ds h1 else .bad) := (rfl)
theorem eLc_a (vs : List Nat) (it : EF (List D)) (bind : D → DE → Option DE) (test : EF Bool) (elt : EF D) (δ : DE) (h : D) : eLc vs it bind test elt δ h = ((eLcL vs it bind test elt δ h).bind fun ys h2 => .ok (.hl ys) h2) := (rfl)
theorem tYesD_a (δ : DE) (h : D) : tYesD δ h = (.ok true h) := (rfl)
theorem sNil_a (δ : DE) (h : D) : sNil δ h = (.nx δ h) := (rfl)
theorem sSeq_a (u v : SF) (δ : DE) (h : D) : sSeq u v δ h = ((u δ h).bind v) := (rfl)
theorem sSet_a (i : Nat) (f : EF D) (δ : DE) (h : D) : sSet i f δ h = ((f δ h).fl δ fun d h1 => .nx (δ.set i (some d)) h1) := (rfl)
theorem sFrz_a (i : Nat) (u : SF) (δ : DE) (h : D) : sFrz i u δ h = (u (frzS i δ) h) := (rfl)
theorem sRet_a (f : EF D) (δ : DE) (h : D) : sRet f δ h = ((f δ h).fl δ fun d h1 => .ret d h1) := (rfl)
theorem sRetV_a (i : Nat) (δ : DE) (h : D) : sRetV i δ h = (match δ[i]? with
 | some (some (.hl ds)) => .ret (.hl ds) h
 | _ => .bad) := (rfl)
theorem sRetN_a (δ : DE) (h : D) : sRetN δ h = (.ret .non h) := (rfl)
theorem sIf_a (g : EF Bool) (u v : SF) (δ : DE) (h : D) : sIf g u v δ h = ((g δ h).fl δ fun b h1 => if b then u δ h1 else v δ h1) := (rfl)
theorem sBrk_a (δ : DE) (h : D) : sBrk δ h = (.brk δ h) := (rfl)
theorem sCt_a (δ : DE) (h : D) : sCt δ h = (.ct δ h) := (rfl)
theorem sDrop_a (f : EF D) (δ : DE) (h : D) : sDrop f δ h = ((f δ h).fl δ fun _ h1 => .nx δ h1) := (rfl)
theorem sAug_a (i : Nat) (k : D → D → Option D) (f : EF D) (δ : DE) (h : D) : sAug i k f δ h = (match δ[i]? with
 | some (some x) => if x.fr then (f δ h).fl δ fun y h1 => match k x y with
  | some z => .nx (δ.set i (some z)) h1
  | none => .bad
  else .bad
 | _ => .bad) := (rfl)
theorem sAsg_a (bind : D → DE → Option DE) (f : EF D) (δ : DE) (h : D) : sAsg bind f δ h = ((f δ h).fl δ fun d h1 => match bind d δ with
 | some δ2 => .nx δ2 h1
 | none => .bad) := (rfl)
theorem sPar_a (i j : Nat) (fs : EF (List D)) (δ : DE) (h : D) : sPar i j fs δ h = ((fs δ h).fl δ fun ds h1 => match ds with
 | [x, y] => .nx ((δ.set i (some x)).set j (some y)) h1
 | _ => .bad) := (rfl)
theorem sPar3_a (i j l : Nat) (fs : EF (List D)) (δ : DE) (h : D) : sPar3 i j l fs δ h = ((fs δ h).fl δ fun ds h1 => match ds with
 | [x, y, z] => .nx (((δ.set i (some x)).set j (some y)).set l (some z)) h1
 | _ => .bad) := (rfl)
theorem sFor_a (it : EF (List D)) (bind : D → DE → Option DE) (body : SF) (δ : DE) (h : D) : sFor it bind body δ h = ((it δ h).fl δ fun ds h1 => forGo bind body ds δ h1) := (rfl)
theorem pV_a (i : Nat) (δ : DE) (h : D) : pV i δ h = (match δ[i]? with
 | some (some d) => if d.nm then .ok (i, []) h else .bad
 | _ => .bad) := (rfl)
theorem pIx_a (k : EF Pl) (f : EF D) (δ : DE) (h : D) : pIx k f δ h = ((k δ h).bind fun p h1 => (f δ h1).bind fun y h2 => Ex.of (match plD δ p, y with
 | some (.hl ds), .int i => (ixN ds.length i).map fun j => (p.1, p.2 ++ [j])
 | _, _ => none) h2) := (rfl)
theorem ePl_a (k : EF Pl) (δ : DE) (h : D) : ePl k δ h = ((k δ h).bind fun p h1 => Ex.of (match plD δ p with
 | some d => if d.fr then some d else none
 | none => none) h1) := (rfl)
theorem eLenP_a (k : EF Pl) (δ : DE) (h : D) : eLenP k δ h = ((k δ h).bind fun p h1 => Ex.of (match plD δ p with
 | some (.hl ds) => some (.int ds.length)
 | _ => none) h1) := (rfl)
theorem sApp_a (k : EF Pl) (f : EF D) (δ : DE) (h : D) : sApp k f δ h = ((k δ h).fl δ fun p h1 => match plD δ p with
 | some (.hl ds) => (f δ h1).fl δ fun y h2 => if szOk ds.length then .nx (plS δ p (.hl (ds ++ [y]))) h2 else .bad
 | _ => .bad) := (rfl)
theorem sSt_a (k : EF Pl) (fi f : EF D) (δ : DE) (h : D) : sSt k fi f δ h = ((f δ h).fl δ fun y h1 => (k δ h1).fl δ fun p h2 => (fi δ h2).fl δ fun z h3 => match plD δ p, z with
 | some (.hl ds), .int i => match ixN ds.length i with
  | some j => .nx (plS δ p (.hl (ds.set j y))) h3
  | none => .bad
 | _, _ => .bad) := (rfl)
theorem sStM_a (o : Nat) (fi f : EF D) (δ : DE) (h : D) : sStM o fi f δ h = ((f δ h).fl δ fun y h1 => (eM o δ h1).fl δ fun _ h2 => (fi δ h2).fl δ fun z h3 => match z, h3 with
 | .int i, .hl ds => match ixN ds.length i with
  | some j => .nx δ (.hl (ds.set j y))
  | none => .bad
 | _, _ => .bad) := (rfl)
theorem sAt_a (n : Str) (o : Nat) (m : Str) (f : EF D) (δ : DE) (h : D) : sAt n o m f δ h = ((f δ h).fl δ fun y h1 => (eM o δ h1).fl δ fun _ h2 => match h2 with
 | .ins n' fs => if n' = n then (if szOk fs.length then (if fs.length < 900 then .nx δ (.ins n' (putD m y fs)) else .bad) else .bad) else .bad
 | _ => .bad) := (rfl)
theorem eCall_a (n : Nat) (F : Fn) (dd : List D) (fs : EF (List D)) (δ : DE) (h : D) : eCall n F dd fs δ h = ((fs δ h).bind fun ds h1 => if (ds ++ dd).length = n then F (ds ++ dd) h1 else .bad) := (rfl)
theorem eMeth_a (nm m : Str) (n : Nat) (F : Fn) (dd : List D) (fo : EF D) (fs : EF (List D)) (δ : DE) (h : D) : eMeth nm m n F dd fo fs δ h = ((fo δ h).bind fun d h1 => match d with
 | .ins n' xs => if n' = nm ∧ xs.lookup m = none then (fs δ h1).bind fun ds h2 => if (d :: (ds ++ dd)).length = n then F (d :: (ds ++ dd)) h2 else .bad else .bad
 | _ => .bad) := (rfl)
theorem eMake_a (nm : Str) (n : Nat) (F : Fn) (dd : List D) (fs : EF (List D)) (δ : DE) (h : D) : eMake nm n F dd fs δ h = ((fs δ h).bind fun ds h1 => if (D.me :: (ds ++ dd)).length = n then
 match F (.me :: (ds ++ dd)) (.ins nm []) with
 | .ok .non (.ins n' xs) => if n' = nm then .ok (.ins n' xs) h1 else .bad
 | .exc n' xs _ => .exc n' xs h1
 | _ => .bad
 else .bad) := (rfl)
theorem eFw_a (f : EF D) (δ : DE) (h : D) : eFw f δ h = ((f δ h).bind fun d h1 => .ok (frz d) h1) := (rfl)
theorem sRaise_a (n : Str) (fl : List D → Option (List (Str × D))) (fs : EF (List D)) (δ : DE) (h : D) : sRaise n fl fs δ h = ((fs δ h).fl δ fun ds h1 => match fl ds with
 | some fx => .exc n fx δ h1
 | none => .bad) := (rfl)
theorem sRaise0_a (n : Str) (δ : DE) (h : D) : sRaise0 n δ h = (.exc n [] δ h) := (rfl)
theorem sTry_a (u : SF) (cs : List Cz) (δ : DE) (h : D) : sTry u cs δ h = (match u δ h with
 | .exc n fs δ' h' => hdGo cs n fs δ' h'
 | r => r) := (rfl)
theorem eXf_a (ns : List Str) (i : Nat) (f : Str) (δ : DE) (h : D) : eXf ns i f δ h = (Ex.of (match δ[i]? with
 | some (some (.ex n fs)) => if ns.contains n then fs.lookup f else none
 | _ => none) h) := (rfl)
theorem eXi_a (ms : Str → Option Bool) (i : Nat) (δ : DE) (h : D) : eXi ms i δ h = (Ex.of (match δ[i]? with
 | some (some (.ex n _)) => (ms n).map .bl
 | _ => none) h) := (rfl)
theorem eNeI_a (nm : Str) (F : Fn) (fa fb : EF D) (δ : DE) (h : D) : eNeI nm F fa fb δ h = ((fa δ h).bind fun x h1 => (fb δ h1).bind fun y h2 => match x, y with
 | .ins n1 f1, .ins n2 f2 => if n1 = nm ∧ n2 = nm then (F [.ins n1 f1, .ins n2 f2] h2).nox.bind fun z h3 => match z with
  | .bl r => .ok (.bl (!r)) h3
  | _ => .bad
  else .bad
 | _, _ => .bad) := (rfl)
theorem eInn_a (g : EF (List D)) (δ : DE) (h : D) : eInn g δ h = (if slF δ then g δ h else .bad) := (rfl)
theorem eLc2_a (vs vs1 : List Nat) (it : EF (List D)) (bind : D → DE → Option DE) (test : EF Bool) (it1 : EF (List D)) (bind1 : D → DE → Option DE) (test1 : EF Bool) (elt : EF D) (δ : DE) (h : D) : eLc2 vs vs1 it bind test it1 bind1 test1 elt δ h = ((it δ h).bind fun ds h1 => (lc2Go bind test (eInn (eLcL vs1 it1 bind1 test1 elt)) (wipeD δ vs) ds h1).bind fun ys h2 => if szOk ys.length then .ok (.hl ys) h2 else .bad) := (rfl)
theorem eIsC_a (ms : Str → Option Bool) (bf : Bool) (f : EF D) (δ : DE) (h : D) : eIsC ms bf f δ h = ((f δ h).bind fun d h1 => Ex.of (match d with
 | .ins n _ => (ms n).map .bl
 | d => match tyS d with
  | some _ => if bf then some (.bl false) else none
  | none => none) h1) := (rfl)
def lenID (nm : Str) (F : Fn) (d h : D) : Ex D := match d with
  | .ins n' fs => if n' = nm then (F [.ins n' fs] h).nox.bind fun y h2 => match y with
    | .int i => if 0 ≤ i ∧ i < 1000000 then .ok (.int i) h2 else .bad
    | _ => .bad
    else .bad
  | _ => .bad
theorem eLenI_a (nm : Str) (F : Fn) (f : EF D) (δ : DE) (h : D) : eLenI nm F f δ h = (f δ h).bind fun d h1 => lenID nm F d h1 := (rfl)
theorem lenI_ok {nm : Str} {F : Fn} {fs : List (Str × D)} {h : D} {n : Nat} (e : F [.ins nm fs] h = .ok (.int n) h) (hn : n ≤ 1000) : lenID nm F (.ins nm fs) h = .ok (.int n) h := by
  unfold lenID
  simp only [e, if_true, Ex.nox, Ex.bind]
  exact if_pos ⟨by omega, by omega⟩
def iowD (nm fld : Str) (d h : D) : Ex (List D) := Ex.of (match d with
  | .ins n' fs => if n' = nm then match fs.lookup fld with
    | some (.tup ds) => some ds
    | _ => none
    else none
  | _ => none) h
theorem iOwnI_a (nm fld : Str) (f : EF D) (δ : DE) (h : D) : iOwnI nm fld f δ h = (f δ h).bind fun d h1 => iowD nm fld d h1 := (rfl)
def atvD (o : Option (Option D)) (n : Str) (h : D) : Ex D := Ex.of (match o, h with
  | some (some (.ins _ fs)), _ => fs.lookup n
  | some (some .me), .ins _ fs => fs.lookup n
  | _, _ => none) h
theorem eAtV_a (i : Nat) (n : Str) (δ : DE) (h : D) : eAtV i n δ h = atvD δ[i]? n h := (rfl)
theorem atv_ins {m n : Str} {fs : List (Str × D)} {h : D} : atvD (some (some (.ins m fs))) n h = Ex.of (fs.lookup n) h := (rfl)
theorem atv_me {m n : Str} {fs : List (Str × D)} : atvD (some (some .me)) n (.ins m fs) = Ex.of (fs.lookup n) (.ins m fs) := (rfl)
def attD (d : D) (n : Str) (h : D) : Ex D := Ex.of (match d with
  | .ins _ fs => fs.lookup n
  | _ => none) h
theorem eAt_a (f : EF D) (n : Str) (δ : DE) (h : D) : eAt f n δ h = (f δ h).bind fun d h1 => attD d n h1 := (rfl)
theorem att_ins {m n : Str} {fs : List (Str × D)} {h : D} : attD (.ins m fs) n h = Ex.of (fs.lookup n) h := (rfl)
def vD (o : Option (Option D)) (h : D) : Ex D := match o with
  | some (some d) => if d.fr then .ok d h else .bad
  | _ => .bad
def vmD (o : Option (Option D)) (h : D) : Ex D := match o with
  | some (some .me) => .ok .me h
  | some (some d) => if d.fr then .ok d h else .bad
  | _ => .bad
theorem eV_a (i : Nat) (δ : DE) (h : D) : eV i δ h = vD δ[i]? h := (rfl)
theorem eVm_a (i : Nat) (δ : DE) (h : D) : eVm i δ h = vmD δ[i]? h := (rfl)
theorem vD_fr {d h : D} (e : d.fr = true) : vD (some (some d)) h = .ok d h := if_pos e
theorem vmD_fr {d h : D} (e : d.fr = true) : vmD (some (some d)) h = .ok d h := by
  cases d <;> first | rfl | cases e
theorem vmD_me {h : D} : vmD (some (some .me)) h = .ok .me h := (rfl)
theorem vD_non {h : D} : vD (some (some .non)) h = .ok .non h := (rfl)
theorem vmD_non {h : D} : vmD (some (some .non)) h = .ok .non h := (rfl)
theorem vD_bl {b : Bool} {h : D} : vD (some (some (.bl b))) h = .ok (.bl b) h := (rfl)
theorem vmD_bl {b : Bool} {h : D} : vmD (some (some (.bl b))) h = .ok (.bl b) h := (rfl)
theorem vD_int {i : Int} {h : D} : vD (some (some (.int i))) h = .ok (.int i) h := (rfl)
theorem vmD_int {i : Int} {h : D} : vmD (some (some (.int i))) h = .ok (.int i) h := (rfl)
theorem vD_str {x : Str} {h : D} : vD (some (some (.str x))) h = .ok (.str x) h := (rfl)
theorem vmD_str {x : Str} {h : D} : vmD (some (some (.str x))) h = .ok (.str x) h := (rfl)
theorem vD_tup {ds : List D} {h : D} : vD (some (some (.tup ds))) h = .ok (.tup ds) h := (rfl)
theorem vmD_tup {ds : List D} {h : D} : vmD (some (some (.tup ds))) h = .ok (.tup ds) h := (rfl)
theorem vD_lst {ds : List D} {h : D} : vD (some (some (.lst ds))) h = .ok (.lst ds) h := (rfl)
theorem vmD_lst {ds : List D} {h : D} : vmD (some (some (.lst ds))) h = .ok (.lst ds) h := (rfl)
theorem vD_ins {n : Str} {fs : List (Str × D)} {h : D} : vD (some (some (.ins n fs))) h = .ok (.ins n fs) h := (rfl)
theorem vmD_ins {n : Str} {fs : List (Str × D)} {h : D} : vmD (some (some (.ins n fs))) h = .ok (.ins n fs) h := (rfl)
theorem eOn_a (f : D → D → Option D) (fa fb : EF D) : eOn f fa fb = eOp f fa fb := (rfl)
end Fw
namespace N71
open PySem PySem.Spec L2 Fw
theorem bind_okE {α β : Type} (a : α) (h : D) (k : α → D → Ex β) : (Ex.ok a h).bind k = k a h := (rfl)
theorem fl_okE {α : Type} (a : α) (h : D) (δ : DE) (k : α → D → Fl) : (Ex.ok a h).fl δ k = k a h := (rfl)
theorem fl_excE {α : Type} (n : Str) (fs : List (Str × D)) (h : D) (δ : DE) (k : α → D → Fl) : (Ex.exc n fs h : Ex α).fl δ k = .exc n fs δ h := (rfl)
theorem bind_excE {α β : Type} (n : Str) (fs : List (Str × D)) (h : D) (k : α → D → Ex β) : (Ex.exc n fs h : Ex α).bind k = .exc n fs h := (rfl)
theorem seq_nx (δ : DE) (h : D) (k : SF) : (Fl.nx δ h).bind k = k δ h := (rfl)
theorem seq_ret (d h : D) (k : SF) : (Fl.ret d h).bind k = .ret d h := (rfl)
theorem seq_exc (n : Str) (fs : List (Str × D)) (δ : DE) (h : D) (k : SF) : (Fl.exc n fs δ h).bind k = .exc n fs δ h := (rfl)
theorem of_someE {α : Type} (a : α) (h : D) : Ex.of (some a) h = .ok a h := (rfl)
theorem nox_okE {α : Type} (a : α) (h : D) : (Ex.ok a h).nox = .ok a h := (rfl)
theorem eq_int (i j : Int) : eqD (.int i) (.int j) = some (decide (i = j)) := by
  unfold eqD toPy
  rfl
theorem oAdd_i (i j : Int) : oAdd (.int i) (.int j) = (some (.int (i + j)) : Option D) := (rfl)
theorem oSub_i (i j : Int) : oSub (.int i) (.int j) = (some (.int (i - j)) : Option D) := (rfl)
theorem oMul_i (i j : Int) : oMul (.int i) (.int j) = (if cMul i j then some (.int (i * j)) else none : Option D) := (rfl)
theorem oDiv_i (i j : Int) : oDiv (.int i) (.int j) = (if cDiv i j then some (.int (i.fdiv j)) else none : Option D) := (rfl)
theorem oMod_i (i j : Int) : oMod (.int i) (.int j) = (if cMod i j then some (.int (i.fmod j)) else none : Option D) := (rfl)
theorem oPow_i (i j : Int) : oPow (.int i) (.int j) = (if cPow i j then some (.int (i ^ j.toNat)) else none : Option D) := (rfl)
theorem oLt_i (i j : Int) : oLt (.int i) (.int j) = (some (.bl (decide (i < j))) : Option D) := (rfl)
theorem oLe_i (i j : Int) : oLe (.int i) (.int j) = (some (.bl (decide (i ≤ j))) : Option D) := (rfl)
theorem oGt_i (i j : Int) : oGt (.int i) (.int j) = (some (.bl (decide (j < i))) : Option D) := (rfl)
theorem oGe_i (i j : Int) : oGe (.int i) (.int j) = (some (.bl (decide (j ≤ i))) : Option D) := (rfl)
theorem oEq_a (x y : D) : oEq x y = (eqD x y).map .bl := (rfl)
theorem oNe_a (x y : D) : oNe x y = (eqD x y).map fun b => .bl (!b) := (rfl)
theorem oNeg_i (i : Int) : oNeg (.int i) = some (.int (-i)) := (rfl)
theorem oIsB_i (a b : Bool) : oIsB (.bl a) (.bl b) = some (.bl (decide (a = b))) := (rfl)
theorem bNm_a (i : Nat) (d : D) (δ : DE) : bNm i d δ = some (δ.set i (some d)) := (rfl)
theorem bTp_a (bs : List (D → DE → Option DE)) (ds : List D) (δ : DE) : bTp bs (.tup ds) δ = bAll bs ds δ := (rfl)
theorem isa_int_int : Dz.isaB "int" "int" = true := (rfl)
theorem isa_int_bool : Dz.isaB "int" "bool" = false := (rfl)
theorem isa_int_str : Dz.isaB "int" "str" = false := (rfl)
theorem isa_int_list : Dz.isaB "int" "list" = false := (rfl)
theorem isa_int_tuple : Dz.isaB "int" "tuple" = false := (rfl)
theorem isa_bool_int : Dz.isaB "bool" "int" = true := (rfl)
theorem isa_bool_bool : Dz.isaB "bool" "bool" = true := (rfl)
theorem isa_bool_str : Dz.isaB "bool" "str" = false := (rfl)
theorem isa_bool_list : Dz.isaB "bool" "list" = false := (rfl)
theorem isa_bool_tuple : Dz.isaB "bool" "tuple" = false := (rfl)
theorem isa_str_int : Dz.isaB "str" "int" = false := (rfl)
theorem isa_str_bool : Dz.isaB "str" "bool" = false := (rfl)
theorem isa_str_str : Dz.isaB "str" "str" = true := (rfl)
theorem isa_str_list : Dz.isaB "str" "list" = false := (rfl)
theorem isa_str_tuple : Dz.isaB "str" "tuple" = false := (rfl)
theorem isa_list_int : Dz.isaB "list" "int" = false := (rfl)
theorem isa_list_bool : Dz.isaB "list" "bool" = false := (rfl)
theorem isa_list_str : Dz.isaB "list" "str" = false := (rfl)
theorem isa_list_list : Dz.isaB "list" "list" = true := (rfl)
theorem isa_list_tuple : Dz.isaB "list" "tuple" = false := (rfl)
theorem isa_tuple_int : Dz.isaB "tuple" "int" = false := (rfl)
theorem isa_tuple_bool : Dz.isaB "tuple" "bool" = false := (rfl)
theorem isa_tuple_str : Dz.isaB "tuple" "str" = false := (rfl)
theorem isa_tuple_list : Dz.isaB "tuple" "list" = false := (rfl)
theorem isa_tuple_tuple : Dz.isaB "tuple" "tuple" = true := (rfl)
theorem isa_NoneType_int : Dz.isaB "NoneType" "int" = false := (rfl)
theorem isa_NoneType_bool : Dz.isaB "NoneType" "bool" = false := (rfl)
theorem isa_NoneType_str : Dz.isaB "NoneType" "str" = false := (rfl)
theorem isa_NoneType_list : Dz.isaB "NoneType" "list" = false := (rfl)
theorem isa_NoneType_tuple : Dz.isaB "NoneType" "tuple" = false := (rfl)
theorem kLen_t (ds : List D) : kLen [.tup ds] = some (.int ds.length) := (rfl)
theorem kLen_l (ds : List D) : kLen [.lst ds] = some (.int ds.length) := (rfl)
theorem kGcd_i (i j : Int) : Fw.kGcd [.int i, .int j] = some (.int ((Nat.gcd i.natAbs j.natAbs : Nat) : Int)) := (rfl)
theorem oIx_t (ds : List D) (i : Int) : oIx (.tup ds) (.int i) = atI ds i := (rfl)
theorem oIx_l (ds : List D) (i : Int) : oIx (.lst ds) (.int i) = atI ds i := (rfl)
theorem lk_hit {α : Type} (n : Str) (v : α) (l : List (Str × α)) : List.lookup n ((n, v) :: l) = some v := by
  rw [List.lookup_cons, beq_self_eq_true]
theorem lk_miss {α : Type} (n m : Str) (v : α) (l : List (Str × α)) (h : (n == m) = false) : List.lookup n ((m, v) :: l) = List.lookup n l := by
  rw [List.lookup_cons, h]
theorem nc0 : ((0 : Nat) : Int) = 0 := (rfl)
theorem nc1 : ((1 : Nat) : Int) = 1 := (rfl)
theorem nc2 : ((2 : Nat) : Int) = 2 := (rfl)
theorem nc3 : ((3 : Nat) : Int) = 3 := (rfl)
theorem nc4 : ((4 : Nat) : Int) = 4 := (rfl)
theorem nc5 : ((5 : Nat) : Int) = 5 := (rfl)
theorem nc6 : ((6 : Nat) : Int) = 6 := (rfl)
theorem nc30 : ((30 : Nat) : Int) = 30 := (rfl)
theorem itS_t (ds : List D) : itS (.tup ds) = some ds := (rfl)
theorem itS_l (ds : List D) : itS (.lst ds) = some ds := (rfl)
end N71
local macro_rules | `(tactic| push_cast [$xs,*]) => `(tactic| simp only [Fw.eV_a, Fw.eC_a, Fw.eOp_a, Fw.eUn_a, Fw.eT_a, Fw.eTru_a, Fw.eAnd_a, Fw.eOr_a, Fw.eNot_a, Fw.eB_a, Fw.eIf_a, Fw.eCh_a, Fw.eNil_a, Fw.eCons_a, Fw.eTup_a, Fw.eLst_a, Fw.eFz_a, Fw.eM_a, Fw.eIxM_a, Fw.eNo_a, Fw.eSl_a, Fw.eAt_a, Fw.eAtV_a, Fw.eBi_a, Fw.eIs_a, Fw.eIs2_a, Fw.iSeq_a, Fw.iRg_a, Fw.eLcL_a, Fw.eLc_a, Fw.tYesD_a, Fw.sNil_a, Fw.sSeq_a, Fw.sSet_a, Fw.sFrz_a, Fw.sRet_a, Fw.sRetV_a, Fw.sRetN_a, Fw.sIf_a, Fw.sBrk_a, Fw.sCt_a, Fw.sDrop_a, Fw.sAug_a, Fw.sAsg_a, Fw.sPar_a, Fw.sPar3_a, Fw.sFor_a, Fw.pV_a, Fw.pIx_a, Fw.ePl_a, Fw.eLenP_a, Fw.sApp_a, Fw.sSt_a, Fw.sStM_a, Fw.sAt_a, Fw.eVm_a, Fw.eCall_a, Fw.eMeth_a, Fw.eMake_a, Fw.eFw_a, Fw.sRaise_a, Fw.sRaise0_a, Fw.sTry_a, Fw.eXf_a, Fw.eXi_a, Fw.eLenI_a, Fw.iOwnI_a, Fw.eNeI_a, Fw.eInn_a, Fw.eIsC_a, Fw.eOn_a, Fw.runF, N71.bind_okE, N71.fl_okE, N71.fl_excE, N71.bind_excE, N71.seq_nx, N71.seq_ret, N71.seq_exc, N71.of_someE, N71.nox_okE, Fw.bD, Fw.truD, N71.oAdd_i, N71.oSub_i, N71.oMul_i, N71.oDiv_i, N71.oMod_i, N71.oPow_i, N71.oLt_i, N71.oLe_i, N71.oGt_i, N71.oGe_i, N71.oEq_a, N71.oNe_a, Fw.oIsN, Fw.oNotN, N71.oIsB_i, N71.oNeg_i, N71.eq_int, Fw.vmD_me, Fw.atv_ins, Fw.atv_me, Fw.att_ins, Fw.vD_non, Fw.vmD_non, Fw.vD_bl, Fw.vmD_bl, Fw.vD_int, Fw.vmD_int, Fw.vD_str, Fw.vmD_str, Fw.vD_tup, Fw.vmD_tup, Fw.vD_lst, Fw.vmD_lst, Fw.vD_ins, Fw.vmD_ins, N71.bNm_a, N71.bTp_a, Fw.bAll, N71.itS_t, N71.itS_l, Fw.frzS, Fw.tyS, Fw.isS, List.map, List.append, List.length_cons, List.length_nil, List.replicate, List.getElem?_cons_zero, List.getElem?_cons_succ, List.set_cons_zero, List.set_cons_succ, List.cons_append, List.nil_append, Nat.reduceSub, Nat.reduceAdd, Option.map_some, if_true, if_false, Bool.not_true, Bool.not_false, Bool.false_eq_true, ite_true, ite_false, reduceIte, decide_true, decide_false, eq_self, N71.nc0, N71.nc1, N71.nc2, N71.nc3, N71.nc4, N71.nc5, N71.nc6, N71.nc30, N71.oIx_t, N71.oIx_l, N71.kLen_t, N71.kLen_l, N71.kGcd_i, N71.lk_hit, N71.isa_int_int, N71.isa_int_bool, N71.isa_int_str, N71.isa_int_list, N71.isa_int_tuple, N71.isa_bool_int, N71.isa_bool_bool, N71.isa_bool_str, N71.isa_bool_list, N71.isa_bool_tuple, N71.isa_str_int, N71.isa_str_bool, N71.isa_str_str, N71.isa_str_list, N71.isa_str_tuple, N71.isa_list_int, N71.isa_list_bool, N71.isa_list_str, N71.isa_list_list, N71.isa_list_tuple, N71.isa_tuple_int, N71.isa_tuple_bool, N71.isa_tuple_str, N71.isa_tuple_list, N71.isa_tuple_tuple, N71.isa_NoneType_int, N71.isa_NoneType_bool, N71.isa_NoneType_str, N71.isa_NoneType_list, N71.isa_NoneType_tuple, $xs,*])
namespace N71
open PySem PySem.Spec L2 Fw
theorem E_num0 (m : Int) (h : D) : F__law_num [.int 0, .int m] h = .ok (.tup [.int m, .int 1]) h := by
  unfold F__law_num
  push_cast [szOk]
  rfl
theorem E_num (p m : Int) (h : D) (hp : p ≠ 0) : F__law_num [.int p, .int m] h = .ok (.int (m.fmod p)) h := by
  unfold F__law_num
  push_cast [kInt, cMod, hp, decide_false, decide_true, not_false_eq_true, ne_eq]
end N71
namespace N71
open PySem PySem.Spec L2 Fw
theorem lc_map {bind : D → DE → Option DE} {elt : EF D} {δ : DE} {h : D} (f : D → D) : ∀ (ds : List D), (∀ x ∈ ds, ∃ δ2, bind x δ = some δ2 ∧ elt δ2 h = .ok (f x) h) → lcGo bind tYesD elt δ ds h = .ok (ds.map f) h
  | [], _ => rfl
  | x :: xs, k => by
    obtain ⟨δ2, e1, e2⟩ := k x List.mem_cons_self
    have ih := lc_map f xs fun y hy => k y (List.mem_cons_of_mem _ hy)
    unfold lcGo
    simp only [e1, tYesD, nox_okE, bind_okE, if_true, e2, ih, List.map_cons]
theorem lc_draw {bind : D → DE → Option DE} {elt : EF D} {δ : DE} {I : D → Prop} {R : D → Prop} : ∀ (ds : List D) (h : D), I h → (∀ x ∈ ds, ∀ h, I h → ∃ δ2, bind x δ = some δ2 ∧ ∃ y h', elt δ2 h = .ok y h' ∧ R y ∧ I h') → ∃ ys h', lcGo bind tYesD elt δ ds h = .ok ys h' ∧ ys.length = ds.length ∧ (∀ y ∈ ys, R y) ∧ I h'
  | [], h, i, _ => ⟨[], h, rfl, rfl, (fun y hy => nomatch hy), i⟩
  | x :: xs, h, i, k => by
    obtain ⟨δ2, e1, y, h1, e2, r, i1⟩ := k x List.mem_cons_self h i
    obtain ⟨ys, h2, e3, l, rs, i2⟩ := lc_draw xs h1 i1 fun y hy => k y (List.mem_cons_of_mem _ hy)
    refine ⟨y :: ys, h2, ?_, by rw [List.length_cons, List.length_cons, l], fun z hz => ?_, i2⟩
    · unfold lcGo
      simp only [e1, tYesD, nox_okE, bind_okE, if_true, e2, e3]
    · rcases List.mem_cons.mp hz with e | hz
      · rw [e]; exact r
      · exact rs z hz
theorem lc_filter {bind : D → DE → Option DE} {test : EF Bool} {elt : EF D} {δ : DE} {h : D} (p : D → Bool) (f : D → D) : ∀ (ds : List D), (∀ x ∈ ds, ∃ δ2, bind x δ = some δ2 ∧ test δ2 h = .ok (p x) h ∧ (p x = true → elt δ2 h = .ok (f x) h)) → lcGo bind test elt δ ds h = .ok ((ds.filter p).map f) h
  | [], _ => rfl
  | x :: xs, k => by
    obtain ⟨δ2, e1, e2, e3⟩ := k x List.mem_cons_self
    have ih := lc_filter p f xs fun y hy => k y (List.mem_cons_of_mem _ hy)
    unfold lcGo
    cases hp : p x with
    | true => simp only [e1, e2, hp, nox_okE, bind_okE, if_true, e3 hp, ih, List.filter_cons, List.map_cons]
    | false => simp only [e1, e2, hp, nox_okE, bind_okE, if_false, Bool.false_eq_true, ih, List.filter_cons]
theorem for_inv {bind : D → DE → Option DE} {body : SF} (Inv : Nat → DE → D → Prop) (all : List D) : ∀ (n : Nat) (ds : List D) (δ : DE) (h : D), ds = all.drop n → n ≤ all.length → Inv n δ h → (∀ i x δ h, all[i]? = some x → Inv i δ h → ∃ δ2, bind x δ = some δ2 ∧ ∃ δ3 h3, body δ2 h = .nx δ3 h3 ∧ Inv (i + 1) δ3 h3) → ∃ δ' h', forGo bind body ds δ h = .nx δ' h' ∧ Inv all.length δ' h'
  | n, [], δ, h, e, hn, i, _ => by
    have : n = all.length := by
      have := congrArg List.length e
      rw [List.length_drop, List.length_nil] at this
      omega
    subst this
    exact ⟨δ, h, rfl, i⟩
  | n, x :: xs, δ, h, e, hn, i, k => by
    have hx : all[n]? = some x := by
      have : (all.drop n)[0]? = some x := by rw [← e]; rfl
      rw [List.getElem?_drop] at this
      exact this
    have hl : n < all.length := (List.getElem?_eq_some_iff.mp hx).1
    obtain ⟨δ2, e1, δ3, h3, e2, i2⟩ := k n x δ h hx i
    have ed : xs = all.drop (n + 1) := by
      have := congrArg List.tail e
      rw [List.tail_drop] at this
      exact this
    obtain ⟨δ4, h4, e3, i3⟩ := for_inv Inv all (n + 1) xs δ3 h3 ed hl i2 k
    refine ⟨δ4, h4, ?_, i3⟩
    unfold forGo
    simp only [e1, e2, e3]
theorem for_all {bind : D → DE → Option DE} {body : SF} (Inv : Nat → DE → D → Prop) (all : List D) (δ : DE) (h : D) (i : Inv 0 δ h) (k : ∀ i x δ h, all[i]? = some x → Inv i δ h → ∃ δ2, bind x δ = some δ2 ∧ ∃ δ3 h3, body δ2 h = .nx δ3 h3 ∧ Inv (i + 1) δ3 h3) : ∃ δ' h', forGo bind body all δ h = .nx δ' h' ∧ Inv all.length δ' h' := for_inv Inv all 0 all δ h rfl (Nat.zero_le _) i k
theorem log_lt {i : Int} {n : Nat} (h : i.natAbs < 2 ^ n) : i.natAbs.log2 ≤ n := by
  by_cases h0 : i.natAbs = 0
  · rw [h0]; exact Nat.zero_le _
  · have := (Nat.log2_lt h0).mpr h
    omega
theorem mul_ok {i j : Int} (hi : i.natAbs < 2 ^ 64) (hj : j.natAbs < 2 ^ 64) : cMul i j = true := by
  have := log_lt hi
  have := log_lt hj
  exact decide_eq_true (by omega)
theorem div_ok {i j : Int} (h0 : j ≠ 0) (hj : j.natAbs < 2 ^ 64) : cDiv i j = true := by
  have := log_lt hj
  unfold cDiv
  rw [decide_eq_true h0, decide_eq_true (by omega : j.natAbs.log2 < 9000)]
  rfl
theorem mod_ok {i j : Int} (h0 : j ≠ 0) : cMod i j = true := decide_eq_true h0
theorem atI_n {α : Type} {xs : List α} {i : Nat} {x : α} (h : xs[i]? = some x) : atI xs (i : Int) = some x := by
  have hl : i < xs.length := (List.getElem?_eq_some_iff.mp h).1
  unfold atI ixN
  rw [if_pos (Int.natCast_nonneg i), if_pos (by omega), Option.bind_some, Int.toNat_natCast, h]
end N71
set_option exponentiation.threshold 20000
namespace N71
open PySem PySem.Spec L2 Fw
theorem at0 {α : Type} {a : α} {l : List α} : atI (a :: l) 0 = some a := atI_n (i := 0) rfl
theorem at1 {α : Type} {a b : α} {l : List α} : atI (a :: b :: l) 1 = some b := atI_n (i := 1) rfl
theorem at2 {α : Type} {a b c : α} {l : List α} : atI (a :: b :: c :: l) 2 = some c := atI_n (i := 2) rfl
theorem at3 {α : Type} {a b c d : α} {l : List α} : atI (a :: b :: c :: d :: l) 3 = some d := atI_n (i := 3) rfl
theorem ix41 : ixN 4 1 = some 1 := (rfl)
theorem ix42 : ixN 4 2 = some 2 := (rfl)
theorem ix43 : ixN 4 3 = some 3 := (rfl)
theorem fm {a m : Int} (h : 0 < m) : 0 ≤ a.fmod m ∧ a.fmod m < m := by
  rw [Int.fmod_eq_emod_of_nonneg _ (Int.le_of_lt h)]
  exact ⟨Int.emod_nonneg _ (by omega), Int.emod_lt_of_pos _ h⟩
theorem fd {a m : Int} (h : 0 < m) (ha : 0 ≤ a) : 0 ≤ a.fdiv m ∧ a.fdiv m ≤ a := by
  rw [Int.fdiv_eq_ediv_of_nonneg _ (Int.le_of_lt h)]
  exact ⟨Int.ediv_nonneg ha (Int.le_of_lt h), Int.ediv_le_self _ ha⟩
theorem na {a : Int} {b : Nat} (h0 : 0 ≤ a) (h1 : a < b) : a.natAbs < b := by omega
theorem sm {i j : Int} (h0 : 0 ≤ i) (h1 : i < 2 ^ 63) (k0 : 0 ≤ j) (k1 : j < 2 ^ 63) : cMul i j = true := mul_ok (by omega) (by omega)
theorem E_mixed (n t : Int) (h : D) (hn : 0 ≤ n) (hn1 : n < 2 ^ 40) (ht : 0 ≤ t) (ht1 : t < 2 ^ 40) : ∃ r, F__law_mixed [.int n, .int t] h = .ok (.int r) h ∧ 0 ≤ r := by
  have m1 := sm hn (by omega) (show (0 : Int) ≤ 39373 by decide) (by decide)
  have m2 := sm ht (by omega) (show (0 : Int) ≤ 6151 by decide) (by decide)
  have m3 := sm ht (by omega) (show (0 : Int) ≤ 81071 by decide) (by decide)
  obtain ⟨A, eA⟩ : ∃ A, A = (n * 39373 + t * 6151 + 50021).fmod 2147483399 := ⟨_, rfl⟩
  obtain ⟨a0, a1⟩ := fm (a := n * 39373 + t * 6151 + 50021) (show (0 : Int) < 2147483399 by decide)
  rw [← eA] at a0 a1
  have m4 := sm a0 (by omega) a0 (by omega)
  obtain ⟨d0, d1⟩ := fd (m := 137) (by decide) a0
  obtain ⟨d2, d3⟩ := fd (m := 11) (by decide) a0
  obtain ⟨B, eB⟩ : ∃ B, B = (A * A + t * 81071 + A.fdiv 137).fmod 2147483629 := ⟨_, rfl⟩
  obtain ⟨b0, b1⟩ := fm (a := A * A + t * 81071 + A.fdiv 137) (show (0 : Int) < 2147483629 by decide)
  rw [← eB] at b0 b1
  have m5 := sm b0 (by omega) (show (0 : Int) ≤ 62089 by decide) (by decide)
  obtain ⟨c0, c1⟩ := fm (a := B * 62089 + A.fdiv 11) (show (0 : Int) < 2147483587 by decide)
  obtain ⟨f0, _⟩ := fd (m := 64) (by decide) c0
  refine ⟨_, ?_, f0⟩
  unfold F__law_mixed
  push_cast [m1, m2, m3, m4, m5, ← eA, ← eB, kInt, mod_ok (show (2147483399 : Int) ≠ 0 by decide), mod_ok (show (2147483629 : Int) ≠ 0 by decide), mod_ok (show (2147483587 : Int) ≠ 0 by decide), div_ok (show (137 : Int) ≠ 0 by decide) (by decide), div_ok (show (11 : Int) ≠ 0 by decide) (by decide), div_ok (show (64 : Int) ≠ 0 by decide) (by decide)]
/-- a hand -/
def HandI (h : D) : Prop := ∃ (cs : List Int) (p g t : Int), h = .hl [.lst (cs.map D.int), .int p, .int g, .int t] ∧ (∀ z ∈ cs, 0 ≤ z) ∧ cs.length ≤ 63 ∧ 0 ≤ p ∧ p ≤ 63 ∧ 0 ≤ g ∧ 0 ≤ t ∧ t < 2147483648
theorem hand_0 (cs : List Int) (t : Int) (h1 : ∀ z ∈ cs, 0 ≤ z) (h2 : cs.length ≤ 63) (h3 : 0 ≤ t) (h4 : t < 2147483648) : HandI (hand0 cs t) := ⟨cs, 0, 0, t, rfl, h1, h2, by omega, by omega, by omega, h3, h4⟩
theorem E_take (m : Int) (h : D) (hh : HandI h) (hm : 0 < m) (hm1 : m < 2 ^ 62) : ∃ r h', F__law_take [.me, .int m] h = .ok (.int r) h' ∧ 0 ≤ r ∧ r < m ∧ HandI h' := by
  obtain ⟨cs, p, g, t, rfl, hc, hl, p0, p1, g0, t0, t1⟩ := hh
  have hm0 : m ≠ 0 := by omega
  have mm := mod_ok (i := 0) hm0
  have md : ∀ i, cMod i m = true := fun i => mod_ok hm0
  have dd : ∀ i, cDiv i m = true := fun i => div_ok hm0 (by omega)
  have k1 : kLen [.lst (cs.map D.int)] = some (.int cs.length) := by
    show some (D.int ((cs.map D.int).length : Nat)) = _
    rw [List.length_map]
  -- the last way
  have last : ∀ p g, 0 ≤ p → p ≤ 63 → 0 ≤ g → ∃ q h', F__law_mixed [.int ((t + 1).fmod 2147483549), .int p] (.hl [.lst (cs.map D.int), .int p, .int g, .int ((t + 1).fmod 2147483549)]) = .ok (.int q) (.hl [.lst (cs.map D.int), .int p, .int g, .int ((t + 1).fmod 2147483549)]) ∧ h' = D.hl [.lst (cs.map D.int), .int p, .int g, .int ((t + 1).fmod 2147483549)] ∧ HandI h' := fun p g p0 p1 g0 => by
    obtain ⟨a0, a1⟩ := fm (a := t + 1) (show (0 : Int) < 2147483549 by decide)
    obtain ⟨q, e, _⟩ := E_mixed ((t + 1).fmod 2147483549) p (.hl [.lst (cs.map D.int), .int p, .int g, .int ((t + 1).fmod 2147483549)]) a0 (by omega) p0 (by omega)
    exact ⟨q, _, e, rfl, cs, p, g, _, rfl, hc, hl, p0, p1, g0, a0, by omega⟩
  have mt := mod_ok (i := t + 1) (show (2147483549 : Int) ≠ 0 by decide)
  by_cases hg : g = 0
  · subst hg
    by_cases hp : p < cs.length
    · obtain ⟨z, hz⟩ : ∃ z, cs[p.toNat]? = some z := ⟨cs[p.toNat], List.getElem?_eq_getElem (by omega)⟩
      have z0 := hc z (List.mem_of_getElem? hz)
      have ez : atI (cs.map D.int) p = some (.int z) := by
        have := atI_n (xs := cs.map D.int) (i := p.toNat) (x := .int z) (by rw [List.getElem?_map, hz]; rfl)
        rw [Int.toNat_of_nonneg p0] at this
        exact this
      by_cases h18 : z < 10 ^ 18
      · obtain ⟨a0, a1⟩ := fm (a := z) (show (0 : Int) < 2147483399 by decide)
        obtain ⟨q, e, _⟩ := E_mixed (z.fmod 2147483399) (p + 1) (.hl [.lst (cs.map D.int), .int (p + 1), .int 0, .int t]) a0 (by omega) (by omega) (by omega)
        refine ⟨q.fmod m, .hl [.lst (cs.map D.int), .int (p + 1), .int 0, .int t], ?_, (fm hm).1, (fm hm).2, cs, p + 1, 0, t, rfl, hc, hl, by omega, by omega, by omega, t0, t1⟩
        unfold F__law_take
        push_cast [eIxM, eM, sStM, at0, at1, at2, at3, ix41, k1, hp, ez, e, kInt, md, oIx, cPow, mod_ok (show (2147483399 : Int) ≠ 0 by decide), decide_true, decide_false]
        have h18' : (decide (z < 10 ^ (18 : Int).toNat)) = true := decide_eq_true (by exact h18)
        have cp : (decide ((0:Int) ≤ 18) && (decide ((18:Int) ≤ 1000000) && decide ((10:Int).natAbs < 2 ^ 64))) = true := by decide
        push_cast [cp, h18', e, md, kInt, eIxM, eM, at1, mod_ok (show (2147483399 : Int) ≠ 0 by decide)]
      · have h18' : (decide (z < 10 ^ (18 : Int).toNat)) = false := decide_eq_false (by exact h18)
        have cp : (decide ((0:Int) ≤ 18) && (decide ((18:Int) ≤ 1000000) && decide ((10:Int).natAbs < 2 ^ 64))) = true := by decide
        have zp : (0 : Int) < z := by omega
        refine ⟨z.fmod m, .hl [.lst (cs.map D.int), .int (p + 1), .int (z.fdiv m), .int t], ?_, (fm hm).1, (fm hm).2, cs, p + 1, z.fdiv m, t, rfl, hc, hl, by omega, by omega, (fd hm z0).1, t0, t1⟩
        unfold F__law_take
        push_cast [eIxM, eM, sStM, at0, at1, at2, at3, ix41, ix42, k1, hp, ez, kInt, md, dd, oIx, cPow, cp, h18', zp, decide_true, decide_false]
    · obtain ⟨q, h', e, rfl, hi⟩ := last p 0 p0 p1 (by omega)
      refine ⟨q.fmod m, _, ?_, (fm hm).1, (fm hm).2, hi⟩
      have hz : ¬ (0 : Int) < 0 := by omega
      unfold F__law_take
      push_cast [eIxM, eM, sStM, at0, at1, at2, at3, ix43, k1, hp, e, kInt, md, mt, hz, decide_true, decide_false]
  · have gp : (0 : Int) < g := by omega
    refine ⟨g.fmod m, .hl [.lst (cs.map D.int), .int p, .int (g.fdiv m), .int t], ?_, (fm hm).1, (fm hm).2, cs, p, g.fdiv m, t, rfl, hc, hl, p0, p1, (fd hm g0).1, t0, t1⟩
    unfold F__law_take
    push_cast [eIxM, eM, sStM, at0, at1, at2, at3, ix42, hg, gp, kInt, md, dd, decide_true, decide_false]
end N71
set_option exponentiation.threshold 20000
namespace N71
open PySem PySem.Spec L2 Fw
theorem gcd_loop {d0 d1 : D} {h : D} : ∀ (l : List D) (a b : Int) (o4 o5 : Option D), 0 ≤ a → 0 ≤ b → b.natAbs < l.length →
    forGo (bNm 4) (sSeq (sIf (eT (eOp oEq (eV 3) (eC (.int 0)))) (sRet (eV 2)) sNil) (sSeq (sSet 5 (eOp oMod (eBi kInt (eCons (eV 2) eNil)) (eV 3))) (sSeq (sSet 2 (eV 3)) (sSet 3 (eV 5))))) l [some d0, some d1, some (.int a), some (.int b), o4, o5] h = .ret (.int ((Nat.gcd a.natAbs b.natAbs : Nat) : Int)) h
  | [], a, b, o4, o5, ha, hb, hl => by simp at hl
  | x :: xs, a, b, o4, o5, ha, hb, hl => by
    unfold forGo
    by_cases h0 : b = 0
    · subst h0
      have : ((Nat.gcd a.natAbs (Int.natAbs 0) : Nat) : Int) = a := by
        rw [Int.natAbs_zero, Nat.gcd_zero_right]; omega
      rw [this]
      push_cast [decide_true]
    · have hm := mod_ok (i := a) h0
      have bp : 0 < b := by omega
      obtain ⟨r0, r1⟩ := fm (a := a) bp
      have e : a.fmod b = ((a.natAbs % b.natAbs : Nat) : Int) := by
        rw [Int.fmod_eq_emod_of_nonneg _ hb]
        obtain ⟨m, rfl⟩ := Int.eq_ofNat_of_zero_le ha
        obtain ⟨n, rfl⟩ := Int.eq_ofNat_of_zero_le hb
        rfl
      have ih := gcd_loop (h := h) (d0 := d0) (d1 := d1) xs b (a.fmod b) (some x) (some (.int (a.fmod b))) hb r0 (by
        rw [List.length_cons] at hl
        omega)
      have eg : Nat.gcd b.natAbs (a.fmod b).natAbs = Nat.gcd a.natAbs b.natAbs := by
        rw [e, Int.natAbs_natCast, Nat.gcd_comm a.natAbs, Nat.gcd_rec b.natAbs a.natAbs, Nat.gcd_comm]
      rw [eg] at ih
      push_cast [h0, hm, kInt, decide_false]
      exact ih
theorem rg_len {lo : Int} {n : Nat} : (rgD lo n).length = n := rgD_len
theorem E_gcd (x y : Int) (h : D) (hy : y.natAbs < 60000) : F__law_gcd [.int x, .int y] h = .ok (.int ((Nat.gcd x.natAbs y.natAbs : Nat) : Int)) h := by
  have ax : (if x < 0 then -x else x) = (x.natAbs : Int) := by split <;> omega
  have ay : (if y < 0 then -y else y) = (y.natAbs : Int) := by split <;> omega
  have e := gcd_loop (h := h) (d0 := .int x) (d1 := .int y) (rgD 0 60000) (x.natAbs : Int) (y.natAbs : Int) none none (by omega) (by omega) (by rw [rg_len]; omega)
  rw [Int.natAbs_natCast, Int.natAbs_natCast] at e
  have rg : rgOk 60000 = true := by decide
  unfold F__law_gcd
  push_cast [kAbs, ax, ay, sFor, rg1, rg, (show (60000 : Int).toNat = 60000 from rfl), e]
/-- numbers in lowest terms -/
def Low (t b : Int) : Prop := 1 ≤ b ∧ Nat.gcd t.natAbs b.natAbs = 1
def rat (t b : Int) : D := .tup [.int t, .int b]
def zeroD (p : Int) : D := if p = 0 then rat 0 1 else .int 0
def oneD (p : Int) : D := if p = 0 then rat 1 1 else .int 1
def NuD (p : Int) (d : D) : Prop := (p = 0 ∧ ∃ t b, d = rat t b ∧ Low t b ∧ t.natAbs < 2 ^ 20 ∧ b < 2 ^ 10) ∨ (p ≠ 0 ∧ ∃ i, d = .int i ∧ 0 ≤ i ∧ i < p)
/-- the figures that are offered -/
def Pr (p : Int) : Prop := p = 0 ∨ p = 2 ∨ p = 3 ∨ p = 5 ∨ p = 7 ∨ p = 11 ∨ p = 13
theorem pr0 {p : Int} (h : Pr p) : 0 ≤ p ∧ p ≤ 13 ∧ p ≠ 1 := by unfold Pr at h; omega
theorem low_div {t b : Int} (hb : 0 < b) : Low (t.fdiv ((Nat.gcd t.natAbs b.natAbs : Nat) : Int)) (b.fdiv ((Nat.gcd t.natAbs b.natAbs : Nat) : Int)) := by
  have g0 : 0 < Nat.gcd t.natAbs b.natAbs := Nat.gcd_pos_of_pos_right _ (by omega)
  have c := Nat.coprime_div_gcd_div_gcd g0
  have e1 : ∀ z : Int, (Nat.gcd t.natAbs b.natAbs) ∣ z.natAbs → (z.fdiv ((Nat.gcd t.natAbs b.natAbs : Nat) : Int)).natAbs = z.natAbs / Nat.gcd t.natAbs b.natAbs := fun z hz => by
    rw [Int.fdiv_eq_ediv_of_nonneg _ (by omega), Int.natAbs_ediv_of_dvd (Int.ofNat_dvd_left.mpr hz), Int.natAbs_natCast]
  refine ⟨?_, by rw [e1 t (Nat.gcd_dvd_left ..), e1 b (Nat.gcd_dvd_right ..)]; exact c⟩
  have h1 := e1 b (Nat.gcd_dvd_right ..)
  have h2 : 0 < b.natAbs / Nat.gcd t.natAbs b.natAbs := Nat.div_pos (Nat.le_of_dvd (by omega) (Nat.gcd_dvd_right ..)) g0
  have h3 : 0 ≤ b.fdiv ((Nat.gcd t.natAbs b.natAbs : Nat) : Int) := (fd (by omega) (by omega)).1
  omega
theorem E_ratio (t b : Int) (h : D) (hb : 0 < b) (hb1 : b < 60000) (ht : t.natAbs < 2 ^ 60) : F__law_ratio [.int t, .int b] h = .ok (rat (t.fdiv ((Nat.gcd t.natAbs b.natAbs : Nat) : Int)) (b.fdiv ((Nat.gcd t.natAbs b.natAbs : Nat) : Int))) h := by
  have g0 : 0 < Nat.gcd t.natAbs b.natAbs := Nat.gcd_pos_of_pos_right _ (by omega)
  have g1 : Nat.gcd t.natAbs b.natAbs ≤ b.natAbs := Nat.le_of_dvd (by omega) (Nat.gcd_dvd_right ..)
  have eg := E_gcd t b h (by omega)
  have nb : ¬ b < 0 := by omega
  have d1 : ∀ i, cDiv i ((Nat.gcd t.natAbs b.natAbs : Nat) : Int) = true := fun i => div_ok (by omega) (by omega)
  unfold F__law_ratio
  push_cast [eg, nb, d1, decide_false, szOk]
  rfl
theorem E_ratio_low (t b : Int) (h : D) (l : Low t b) (hb1 : b < 60000) (ht : t.natAbs < 2 ^ 60) : F__law_ratio [.int t, .int b] h = .ok (rat t b) h := by
  rw [E_ratio t b h (by have := l.1; omega) hb1 ht, l.2]
  have e : ∀ z : Int, z.fdiv ((1 : Nat) : Int) = z := fun z => by rw [Int.fdiv_eq_ediv_of_nonneg _ (by decide)]; exact Int.ediv_one z
  rw [e, e]
theorem E_num0' (p : Int) (h : D) : F__law_num [.int p, .int 0] h = .ok (zeroD p) h := by
  unfold zeroD
  by_cases hp : p = 0
  · subst hp
    exact E_num0 0 h
  · rw [E_num p 0 h hp, if_neg hp, Int.zero_fmod]
theorem E_num1' (p : Int) (h : D) (hp : Pr p) : F__law_num [.int p, .int 1] h = .ok (oneD p) h := by
  unfold oneD
  by_cases h0 : p = 0
  · subst h0
    exact E_num0 1 h
  · obtain ⟨a, b, c⟩ := pr0 hp
    rw [E_num p 1 h h0, if_neg h0, Int.fmod_eq_emod_of_nonneg _ a, Int.emod_eq_of_lt (by decide) (by omega)]
theorem nu_zero {p : Int} (hp : Pr p) : NuD p (zeroD p) := by
  obtain ⟨a, b, c⟩ := pr0 hp
  unfold zeroD
  by_cases h0 : p = 0
  · rw [if_pos h0]; exact .inl ⟨h0, 0, 1, rfl, ⟨by decide, by decide⟩, by decide, by decide⟩
  · rw [if_neg h0]; exact .inr ⟨h0, 0, rfl, by omega, by omega⟩
theorem nu_one {p : Int} (hp : Pr p) : NuD p (oneD p) := by
  obtain ⟨a, b, c⟩ := pr0 hp
  unfold oneD
  by_cases h0 : p = 0
  · rw [if_pos h0]; exact .inl ⟨h0, 1, 1, rfl, ⟨by decide, by decide⟩, by decide, by decide⟩
  · rw [if_neg h0]; exact .inr ⟨h0, 1, rfl, by omega, by omega⟩
theorem plus_l {p : Int} {x : D} {h : D} (hp : Pr p) (hx : NuD p x) : F__law_plus [.int p, zeroD p, x] h = .ok x h := by
  obtain ⟨a, b, c⟩ := pr0 hp
  rcases hx with ⟨rfl, t, b, rfl, l, ht, hb⟩ | ⟨h0, i, rfl, i0, i1⟩
  · have z : zeroD 0 = rat 0 1 := if_pos rfl
    have m1 := mul_ok (i := 0) (j := b) (by decide) (by have := l.1; omega)
    have m2 := mul_ok (i := t) (j := 1) (by omega) (by decide)
    have m3 := mul_ok (i := 1) (j := b) (by decide) (by have := l.1; omega)
    rw [z]
    by_cases hb1 : b = 1
    · subst hb1
      unfold F__law_plus rat
      push_cast [oIx, at0, at1, decide_true, szOk, Int.zero_add]
      rfl
    · have e := E_ratio_low t b h l (by omega) (by omega)
      unfold F__law_plus rat
      unfold rat at e
      push_cast [oIx, at0, at1, decide_true, decide_false, hb1, m1, m2, m3, Int.zero_mul, Int.zero_add, Int.mul_one, Int.one_mul, e]
  · have z : zeroD p = .int 0 := if_neg h0
    have e : (0 + i).fmod p = i := by
      rw [Int.zero_add, Int.fmod_eq_emod_of_nonneg _ a, Int.emod_eq_of_lt i0 i1]
    have m1 := mod_ok (i := 0 + i) h0
    rw [z]
    unfold F__law_plus
    push_cast [h0, decide_false, kInt, m1, e]
theorem plus_r {p : Int} {x : D} {h : D} (hp : Pr p) (hx : NuD p x) : F__law_plus [.int p, x, zeroD p] h = .ok x h := by
  obtain ⟨a, b, c⟩ := pr0 hp
  rcases hx with ⟨rfl, t, b, rfl, l, ht, hb⟩ | ⟨h0, i, rfl, i0, i1⟩
  · have z : zeroD 0 = rat 0 1 := if_pos rfl
    have m1 := mul_ok (i := 0) (j := b) (by decide) (by have := l.1; omega)
    have m2 := mul_ok (i := t) (j := 1) (by omega) (by decide)
    have m3 := mul_ok (i := b) (j := 1) (by have := l.1; omega) (by decide)
    rw [z]
    by_cases hb1 : b = 1
    · subst hb1
      unfold F__law_plus rat
      push_cast [oIx, at0, at1, decide_true, szOk, Int.add_zero]
      rfl
    · have e := E_ratio_low t b h l (by omega) (by omega)
      unfold F__law_plus rat
      unfold rat at e
      push_cast [oIx, at0, at1, decide_true, decide_false, hb1, m1, m2, m3, Int.zero_mul, Int.add_zero, Int.mul_one, Int.one_mul, e]
  · have z : zeroD p = .int 0 := if_neg h0
    have e : (i + 0).fmod p = i := by
      rw [Int.add_zero, Int.fmod_eq_emod_of_nonneg _ a, Int.emod_eq_of_lt i0 i1]
    have m1 := mod_ok (i := i + 0) h0
    rw [z]
    unfold F__law_plus
    push_cast [h0, decide_false, kInt, m1, e]
theorem times_one {p : Int} {x : D} {h : D} (hp : Pr p) (hx : NuD p x) : F__law_times [.int p, x, oneD p] h = .ok x h := by
  obtain ⟨a, b, c⟩ := pr0 hp
  rcases hx with ⟨rfl, t, b, rfl, l, ht, hb⟩ | ⟨h0, i, rfl, i0, i1⟩
  · have z : oneD 0 = rat 1 1 := if_pos rfl
    have m2 := mul_ok (i := t) (j := 1) (by omega) (by decide)
    have m3 := mul_ok (i := b) (j := 1) (by have := l.1; omega) (by decide)
    rw [z]
    by_cases hb1 : b = 1
    · subst hb1
      unfold F__law_times rat
      push_cast [oIx, at0, at1, decide_true, szOk, m2, Int.mul_one]
      rfl
    · have e := E_ratio_low t b h l (by omega) (by omega)
      unfold F__law_times rat
      unfold rat at e
      push_cast [oIx, at0, at1, decide_true, decide_false, hb1, m2, m3, Int.mul_one, e]
  · have z : oneD p = .int 1 := if_neg h0
    have e : (i * 1).fmod p = i := by
      rw [Int.mul_one, Int.fmod_eq_emod_of_nonneg _ a, Int.emod_eq_of_lt i0 i1]
    have m1 := mod_ok (i := i * 1) h0
    have m2 := mul_ok (i := i) (j := 1) (by omega) (by decide)
    rw [z]
    unfold F__law_times
    push_cast [h0, decide_false, kInt, m1, m2, e]
theorem times_zero {p : Int} {x : D} {h : D} (hp : Pr p) (hx : NuD p x) : F__law_times [.int p, x, zeroD p] h = .ok (zeroD p) h := by
  obtain ⟨a, b, c⟩ := pr0 hp
  rcases hx with ⟨rfl, t, b, rfl, l, ht, hb⟩ | ⟨h0, i, rfl, i0, i1⟩
  · have z : zeroD 0 = rat 0 1 := if_pos rfl
    have m2 := mul_ok (i := t) (j := 0) (by omega) (by decide)
    have m3 := mul_ok (i := b) (j := 1) (by have := l.1; omega) (by decide)
    rw [z]
    by_cases hb1 : b = 1
    · subst hb1
      unfold F__law_times rat
      push_cast [oIx, at0, at1, decide_true, szOk, m2, Int.mul_zero]
      rfl
    · have e := E_ratio 0 b h (by have := l.1; omega) (by omega) (by decide)
      have l1 := l.1
      have e2 : ((Nat.gcd (Int.natAbs 0) b.natAbs : Nat) : Int) = b := by
        rw [Int.natAbs_zero, Nat.gcd_zero_left]; omega
      have e3 : b.fdiv b = 1 := by
        rw [Int.fdiv_eq_ediv_of_nonneg _ (by omega)]; exact Int.ediv_self (by omega)
      rw [e2, e3, Int.zero_fdiv] at e
      unfold F__law_times rat
      unfold rat at e
      push_cast [oIx, at0, at1, decide_true, decide_false, hb1, m2, m3, Int.mul_one, Int.mul_zero, e]
  · have z : zeroD p = .int 0 := if_neg h0
    have e : (i * 0).fmod p = 0 := by rw [Int.mul_zero, Int.zero_fmod]
    have m1 := mod_ok (i := i * 0) h0
    have m2 := mul_ok (i := i) (j := 0) (by omega) (by decide)
    rw [z]
    unfold F__law_times
    push_cast [h0, decide_false, kInt, m1, m2, e]
end N71
set_option exponentiation.threshold 20000
namespace N71
open PySem PySem.Spec L2 Fw
def Dr (r : Ex D) (R : D → Prop) : Prop := ∃ d h', r = .ok d h' ∧ R d ∧ HandI h'
theorem E_figures (h : D) (hh : HandI h) : Dr (F__law_figures [.me] h) fun d => ∃ p, d = .int p ∧ Pr p := by
  obtain ⟨r, h', e, r0, r1, hi⟩ := E_take 12 h hh (by decide) (by decide)
  have key : ∃ p, atI [D.int 0, .int 5, .int 3, .int 7, .int 0, .int 5, .int 2, .int 13, .int 5, .int 3, .int 0, .int 11] r = some (.int p) ∧ Pr p := by
    have : r = 0 ∨ r = 1 ∨ r = 2 ∨ r = 3 ∨ r = 4 ∨ r = 5 ∨ r = 6 ∨ r = 7 ∨ r = 8 ∨ r = 9 ∨ r = 10 ∨ r = 11 := by omega
    unfold Pr
    rcases this with rfl | rfl | rfl | rfl | rfl | rfl | rfl | rfl | rfl | rfl | rfl | rfl <;> exact ⟨_, rfl, by decide⟩
  obtain ⟨p, ea, hp⟩ := key
  refine ⟨.int p, h', ?_, ⟨p, rfl, hp⟩, hi⟩
  unfold F__law_figures
  push_cast [szOk, Nat.reduceLeDiff, e, oIx, ea]
theorem E_number (p : Int) (h : D) (hp : Pr p) (hh : HandI h) : Dr (F__law_number [.me, .int p] h) (NuD p) := by
  obtain ⟨a, b, c⟩ := pr0 hp
  by_cases h0 : p = 0
  · subst h0
    obtain ⟨t, h1, e1, t0, t1, i1⟩ := E_take 7 h hh (by decide) (by decide)
    obtain ⟨k, h2, e2, k0, k1, i2⟩ := E_take 4 h1 i1 (by decide) (by decide)
    by_cases hk : k = 0
    · subst hk
      obtain ⟨q, h3, e3, q0, q1, i3⟩ := E_take 2 h2 i2 (by decide) (by decide)
      have er := E_ratio (t - 3) (2 + q) h3 (by omega) (by omega) (by omega)
      have l := low_div (t := t - 3) (b := 2 + q) (by omega)
      have g0 : 0 < Nat.gcd (t - 3).natAbs (2 + q).natAbs := Nat.gcd_pos_of_pos_right _ (by omega)
      refine ⟨_, h3, ?_, .inl ⟨rfl, _, _, rfl, l, ?_, ?_⟩, i3⟩
      · unfold F__law_number
        push_cast [e1, e2, e3, er, Int.reduceLT]
      · rw [Int.fdiv_eq_ediv_of_nonneg _ (by omega)]
        have := Int.natAbs_ediv_le_natAbs (t - 3) ((Nat.gcd (t - 3).natAbs (2 + q).natAbs : Nat) : Int)
        omega
      · have := (fd (a := 2 + q) (m := ((Nat.gcd (t - 3).natAbs (2 + q).natAbs : Nat) : Int)) (by omega) (by omega)).2
        omega
    · refine ⟨rat (t - 3) 1, h2, ?_, .inl ⟨rfl, _, _, rfl, ⟨by decide, by simp⟩, by omega, by decide⟩, i2⟩
      unfold F__law_number rat
      push_cast [e1, e2, hk, Int.reduceLT, szOk, Nat.reduceLeDiff]
  · obtain ⟨r, h', e, r0, r1, hi⟩ := E_take p h hh (by omega) (by omega)
    have pp : 0 < p := by omega
    refine ⟨.int r, h', ?_, .inr ⟨h0, r, rfl, r0, r1⟩, hi⟩
    unfold F__law_number
    push_cast [pp, e]
theorem E_size (p : Int) (h : D) (hp : Pr p) (hh : HandI h) : Dr (F__law_size [.me, .int p, .int 5] h) fun d => ∃ n : Nat, d = .int n ∧ 1 ≤ n ∧ n ≤ 5 ∧ (p ≠ 0 → (n : Int) ≤ p) := by
  obtain ⟨a, b, c⟩ := pr0 hp
  have key : ∃ g : Nat, 1 ≤ g ∧ g ≤ 5 ∧ (p ≠ 0 → (g : Int) ≤ p) ∧ (if 0 < p then some (D.int (if p < 5 then p else 5)) else some (.int 5)) = some (.int g) := by
    by_cases h0 : 0 < p
    · rw [if_pos h0]
      by_cases h5 : p < 5
      · exact ⟨p.toNat, by omega, by omega, by omega, by rw [if_pos h5, Int.toNat_of_nonneg a]⟩
      · exact ⟨5, by omega, by omega, by omega, by rw [if_neg h5]; rfl⟩
    · rw [if_neg h0]
      exact ⟨5, by omega, by omega, by omega, rfl⟩
  obtain ⟨g, g1, g5, gp, eg⟩ := key
  have em : (if (3 : Int) < (g : Int) then (3 : Int) else (g : Int)) = (min g 3 : Nat) := by split <;> omega
  obtain ⟨k, h1, e1, k0, k1, i1⟩ := E_take 8 h hh (by decide) (by decide)
  have e0 : (if 0 < p then kMin3 [.int 5, .int 5, .int p] else kMin2 [.int 5, .int 5]) = some (.int g) := by
    rw [← eg]
    by_cases h0 : 0 < p
    · rw [if_pos h0, if_pos h0]; rfl
    · rw [if_neg h0, if_neg h0]; rfl
  have first : ∀ (δ : DE) (x y z : Option D), δ = [some .me, some (.int p), some (.int 5), z] → eIf (eT (eOp oGt (eV 1) (eC (.int 0)))) (eBi kMin3 (eCons (eV 2) (eCons (eC (.int 5)) (eCons (eV 1) eNil)))) (eBi kMin2 (eCons (eV 2) (eCons (eC (.int 5)) eNil))) δ h = .ok (.int g) h := fun δ x y z ed => by
    subst ed
    by_cases h0 : 0 < p
    · rw [if_pos h0] at e0
      push_cast [h0, e0]
    · rw [if_neg h0] at e0
      push_cast [h0, e0]
  have f1 := first _ none none none rfl
  by_cases hk : k = 0
  · subst hk
    refine ⟨.int g, h1, ?_, ⟨g, rfl, g1, g5, gp⟩, i1⟩
    unfold F__law_size
    simp only [runF, sSeq_a, sSet_a, List.map, List.append, List.length_cons, List.length_nil, Nat.reduceAdd, Nat.reduceSub, List.replicate, List.cons_append, List.nil_append, f1]
    push_cast [e1]
  · obtain ⟨q, h2, e2, q0, q1, i2⟩ := E_take ((min g 3 : Nat) : Int) h1 i1 (by omega) (by omega)
    refine ⟨.int ((1 + q.toNat : Nat) : Int), h2, ?_, ⟨1 + q.toNat, rfl, by omega, by omega, fun z => by have := gp z; omega⟩, i2⟩
    have eq : (1 : Int) + q = ((1 + q.toNat : Nat) : Int) := by omega
    unfold F__law_size
    simp only [runF, sSeq_a, sSet_a, List.map, List.append, List.length_cons, List.length_nil, Nat.reduceAdd, Nat.reduceSub, List.replicate, List.cons_append, List.nil_append, f1]
    push_cast [e1, hk, kMin2, em, e2, eq]
theorem un_map {α : Type} {f : α → D} {P : α → Prop} : ∀ (ys : List D), (∀ y ∈ ys, ∃ r, y = f r ∧ P r) → ∃ rs : List α, ys = rs.map f ∧ ∀ r ∈ rs, P r
  | [], _ => ⟨[], rfl, fun r hr => nomatch hr⟩
  | y :: ys, k => by
    obtain ⟨r, rfl, pr⟩ := k y List.mem_cons_self
    obtain ⟨rs, e, ps⟩ := un_map ys fun z hz => k z (List.mem_cons_of_mem _ hz)
    refine ⟨r :: rs, by rw [e]; rfl, fun z hz => ?_⟩
    rcases List.mem_cons.mp hz with e | hz
    · rw [e]; exact pr
    · exact ps z hz
theorem rg1_n (n : Nat) (h : n ≤ 1000) : rg1 [.int (n : Int)] = some (rgD 0 n) := by
  have e : rgOk (n : Int) = true := by
    unfold rgOk
    rw [decide_eq_true (show (-1000000 : Int) ≤ n by omega), decide_eq_true (show (n : Int) ≤ 1000000 by omega)]
    rfl
  show (if rgOk (n : Int) then some (rgD 0 (n : Int).toNat) else none) = _
  rw [e, if_pos rfl, Int.toNat_natCast]
theorem sz_n (n : Nat) (h : n ≤ 1000) : szOk n = true := decide_eq_true (by omega)
/-- rows of numbers -/
def Row (p : Int) (c : Nat) (r : List D) : Prop := r.length = c ∧ ∀ x ∈ r, NuD p x
theorem E_free (p : Int) (r c : Nat) (h : D) (hp : Pr p) (hr : r ≤ 5) (hc : c ≤ 5) (hh : HandI h) : Dr (F__law_free [.me, .int p, .int r, .int c] h) fun d => ∃ rows : List (List D), d = .hl (rows.map D.hl) ∧ rows.length = r ∧ ∀ row ∈ rows, Row p c row := by
  obtain ⟨ys, h', e, l, rs, i⟩ := lc_draw (bind := bNm 5) (elt := eLc [4] (iRg rg1 (eCons (eV 3) eNil)) (bNm 4) tYesD (eCall 2 F__law_number [] (eCons (eVm 0) (eCons (eVm 1) eNil)))) (δ := [some .me, some (.int p), some (.int r), some (.int c), none, none]) (I := HandI) (R := fun d => ∃ row, d = .hl row ∧ Row p c row) (rgD 0 r) h hh fun x hx h1 i1 => by
    refine ⟨_, rfl, ?_⟩
    obtain ⟨zs, h2, e2, l2, r2, i2⟩ := lc_draw (bind := bNm 4) (elt := eCall 2 F__law_number [] (eCons (eVm 0) (eCons (eVm 1) eNil))) (δ := [some .me, some (.int p), some (.int r), some (.int c), none, some x]) (I := HandI) (R := NuD p) (rgD 0 c) h1 i1 fun y hy h3 i3 => by
      obtain ⟨d, h4, e4, n4, i4⟩ := E_number p h3 hp i3
      refine ⟨_, rfl, d, h4, ?_, n4, i4⟩
      push_cast [e4]
    refine ⟨.hl zs, h2, ?_, ⟨zs, rfl, by rw [l2, rg_len], r2⟩, i2⟩
    push_cast [rg1_n c (by omega), wipeD, rg_len, sz_n c (by omega), e2]
  obtain ⟨rows, rfl, pr⟩ := un_map (f := D.hl) (P := Row p c) ys rs
  refine ⟨_, h', ?_, ⟨rows, rfl, by rw [List.length_map, rg_len] at l; exact l, pr⟩, i⟩
  unfold F__law_free
  push_cast [rg1_n r (by omega), wipeD, rg_len, sz_n r (by omega), e]
/-- a list or a tuple of these -/
def SeqOf (ds : List D) (d : D) : Prop := d = .lst ds ∨ d = .tup ds
theorem E_list (ds : List D) (h : D) (hh : HandI h) : Dr (F__law_list [.me, .lst ds] h) (SeqOf ds) := by
  obtain ⟨k, h1, e1, k0, k1, i1⟩ := E_take 2 h hh (by decide) (by decide)
  by_cases hk : k = 0
  · subst hk
    refine ⟨.tup ds, h1, ?_, .inr rfl, i1⟩
    unfold F__law_list
    push_cast [e1, Fw.kTup, Fw.kList, sfz, bne_self_eq_false]
  · refine ⟨.lst ds, h1, ?_, .inl rfl, i1⟩
    have kb : (k != 0) = true := by simp [hk]
    unfold F__law_list
    push_cast [e1, Fw.kTup, Fw.kList, sfz, kb]
end N71
set_option exponentiation.threshold 20000
namespace N71
open PySem PySem.Spec L2 Fw
def fig (p : Int) : D := .ins "Figures" [("prime", .int p), ("zero", zeroD p), ("one", oneD p)]
theorem E_fig (p : Int) (hp : Pr p) : F_Figures___init__ [.me, .int p] (.ins "Figures" []) = .ok .non (fig p) := by
  rcases hp with rfl | rfl | rfl | rfl | rfl | rfl | rfl <;> rfl
theorem E_whole0 (i : Int) (h : D) : F_is_whole [.int i, .non, .non] h = .ok (.bl true) h := rfl
theorem E_whole1 (i lo : Int) (h : D) (hl : lo ≤ i) : F_is_whole [.int i, .int lo, .non] h = .ok (.bl true) h := by
  unfold F_is_whole
  push_cast [hl]
theorem E_whole2 (i lo hi : Int) (h : D) : F_is_whole [.int i, .int lo, .int hi] h = .ok (.bl (decide (lo ≤ i) && decide (i ≤ hi))) h := by
  unfold F_is_whole
  by_cases h1 : lo ≤ i
  · by_cases h2 : i ≤ hi
    · push_cast [h1, h2, Bool.and_true]
    · push_cast [h1, h2, Bool.and_false]
  · push_cast [h1, Bool.false_and]
theorem E_is_ratio (t b : Int) (h : D) (l : Low t b) : F_is_ratio [rat t b] h = .ok (.bl true) h := by
  have e : ((Nat.gcd t.natAbs b.natAbs : Nat) : Int) = 1 := by rw [l.2]; rfl
  unfold F_is_ratio rat
  push_cast [E_whole0, E_whole1 b 1 _ l.1, e, szOk]
theorem E_is_number (p : Int) (d h : D) (hp : Pr p) (hd : NuD p d) : F_Figures_is_number [fig p, d] h = .ok (.bl true) h := by
  rcases hd with ⟨rfl, t, b, rfl, l, ht, hb⟩ | ⟨h0, i, rfl, i0, i1⟩
  · have e := E_is_ratio t b h l
    unfold rat at e
    unfold F_Figures_is_number fig rat
    push_cast [e]
  · have e := E_whole2 i 0 (p - 1) h
    rw [decide_eq_true i0, decide_eq_true (show i ≤ p - 1 by omega)] at e
    unfold F_Figures_is_number fig
    push_cast [h0, e, Bool.and_true]
end N71
set_option exponentiation.threshold 20000
namespace N71
open PySem PySem.Spec L2 Fw
theorem bls_true : ∀ (ds : List D), bls (ds.map fun _ => D.bl true) = some (ds.map fun _ => true)
  | [] => rfl
  | d :: ds => by
    show (bls (ds.map fun _ => D.bl true)).map (true :: ·) = _
    rw [bls_true ds]
    rfl
theorem all_true (ds : List D) : kAll [.lst (ds.map fun _ => D.bl true)] = some (.bl true) := by
  show (bls (ds.map fun _ => D.bl true)).map (fun ns => D.bl (ns.all id)) = _
  rw [bls_true]
  have : (ds.map fun _ => true).all id = true := by
    rw [List.all_map]; simp
  show some (D.bl ((ds.map fun _ => true).all id)) = _
  rw [this]
theorem no_num (p : Int) : List.lookup "is_number" [("prime", D.int p), ("zero", zeroD p), ("one", oneD p)] = none := (rfl)
theorem meth_num {fo : EF D} {fs : EF (List D)} {δ : DE} {h x : D} {p : Int} (hp : Pr p) (hx : NuD p x) (e1 : fo δ h = .ok (fig p) h) (e2 : fs δ h = .ok [x] h) : eMeth "Figures" "is_number" 2 F_Figures_is_number [] fo fs δ h = .ok (.bl true) h := by
  have e := E_is_number p x h hp hx
  rw [eMeth_a, e1]
  unfold fig at e ⊢
  push_cast [and_self, e2, List.append_nil, e]
  exact if_pos ⟨trivial, no_num p⟩
theorem SeqOf.itS {ds : List D} {d : D} (s : SeqOf ds d) : itS d = some ds := by rcases s with rfl | rfl <;> rfl
theorem SeqOf.fr {ds : List D} {d : D} (s : SeqOf ds d) : d.fr = true := by rcases s with rfl | rfl <;> rfl
theorem SeqOf.len {ds : List D} {d : D} (s : SeqOf ds d) : kLen [d] = some (.int ds.length) := by rcases s with rfl | rfl <;> rfl
theorem SeqOf.tup {ds : List D} {d : D} (s : SeqOf ds d) : Fw.kTup [d] = some (.tup ds) := by rcases s with rfl | rfl <;> rfl
theorem SeqOf.enum {ds : List D} {d : D} (s : SeqOf ds d) : kEnum [d] = some (enD 0 ds) := by rcases s with rfl | rfl <;> rfl
theorem SeqOf.vm {ds : List D} {d : D} (s : SeqOf ds d) : ∀ (δ : DE) (i : Nat) (h : D), δ[i]? = some (some d) → eVm i δ h = .ok d h := by
  intro δ i h e
  unfold eVm
  rw [e]
  rcases s with rfl | rfl <;> rfl
theorem SeqOf.v {ds : List D} {d : D} (s : SeqOf ds d) : ∀ (δ : DE) (i : Nat) (h : D), δ[i]? = some (some d) → eV i δ h = .ok d h := by
  intro δ i h e
  unfold eV
  rw [e]
  rcases s with rfl | rfl <;> rfl
theorem SeqOf.vd {ds : List D} {d : D} (s : SeqOf ds d) (h : D) : vD (some (some d)) h = .ok d h := vD_fr s.fr
theorem SeqOf.vm' {ds : List D} {d : D} (s : SeqOf ds d) (h : D) : vmD (some (some d)) h = .ok d h := vmD_fr s.fr
theorem fg_p {p : Int} {h : D} : atvD (some (some (fig p))) "prime" h = .ok (.int p) h := (rfl)
theorem fg_z {p : Int} {h : D} : atvD (some (some (fig p))) "zero" h = .ok (zeroD p) h := (rfl)
theorem fg_o {p : Int} {h : D} : atvD (some (some (fig p))) "one" h = .ok (oneD p) h := (rfl)
theorem ft_p {p : Int} {h : D} : attD (fig p) "prime" h = .ok (.int p) h := (rfl)
theorem vd_fig {p : Int} {h : D} : vD (some (some (fig p))) h = .ok (fig p) h := (rfl)
theorem vm_fig {p : Int} {h : D} : vmD (some (some (fig p))) h = .ok (fig p) h := (rfl)
theorem E_seq {ds : List D} {d : D} (s : SeqOf ds d) (h : D) : F_is_sequence [d] h = .ok (.bl true) h := by rcases s with rfl | rfl <;> rfl
theorem fig_fr (p : Int) : (fig p).fr = true := (rfl)
theorem sz_len {ds : List D} (h : ds.length ≤ 1000) : szOk ds.length = true := sz_n _ h
theorem E_all_numbers (p : Int) (ds : List D) (d h : D) (hp : Pr p) (s : SeqOf ds d) (hl : ds.length ≤ 1000) (hn : ∀ x ∈ ds, NuD p x) : F_all_are_numbers [fig p, d] h = .ok (.bl true) h := by
  have e := lc_map (bind := bNm 2) (elt := eMeth "Figures" "is_number" 2 F_Figures_is_number [] (eV 0) (eCons (eVm 2) eNil)) (δ := [some (fig p), some d, none]) (h := h) (fun _ => .bl true) ds fun x hx => ⟨_, rfl, meth_num (p := p) (x := x) hp (hn x hx) (by unfold fig; rfl) (by
    have : x.fr = true := by rcases hn x hx with ⟨_, t, b, rfl, _⟩ | ⟨_, i, rfl, _⟩ <;> rfl
    rcases hn x hx with ⟨_, t, b, rfl, _⟩ | ⟨_, i, rfl, _⟩ <;> rfl)⟩
  have v := s.v [some (fig p), some d, none] 1 h rfl
  unfold F_all_are_numbers
  simp only [runF, sRet_a, eBi_a, eCons_a, eFz_a, eLc_a, eLcL_a, iSeq_a, List.map, List.append, List.length_cons, List.length_nil, Nat.reduceAdd, Nat.reduceSub, List.replicate, List.cons_append, List.nil_append, v, bind_okE, s.itS, of_someE, wipeD, List.set_cons_succ, List.set_cons_zero, sz_len hl, if_true, e, sfz, eNil_a, all_true, fl_okE]
theorem enD_get : ∀ (ds : List D) (k i : Nat), (enD k ds)[i]? = (ds[i]?).map fun d => D.tup [.int ((k + i : Nat) : Int), d]
  | [], _, i => by simp [enD]
  | d :: ds, k, 0 => rfl
  | d :: ds, k, i + 1 => by
    show (enD (k + 1) ds)[i]? = _
    rw [enD_get ds (k + 1) i]
    show _ = (ds[i]?).map _
    have : k + 1 + i = k + (i + 1) := by omega
    rw [this]
theorem enD_len : ∀ (ds : List D) (k : Nat), (enD k ds).length = ds.length
  | [], _ => rfl
  | d :: ds, k => congrArg Nat.succ (enD_len ds (k + 1))
theorem frzL_id : ∀ (ds : List D), (∀ d ∈ ds, d.fr = true) → frzL ds = ds
  | [], _ => rfl
  | d :: ds, k => by
    unfold frzL
    rw [frz_id (k d List.mem_cons_self), frzL_id ds fun z hz => k z (List.mem_cons_of_mem _ hz)]
theorem frzL_tup (rows : List (List D)) : frzL (rows.map D.tup) = rows.map D.tup := frzL_id _ fun d hd => by
  obtain ⟨r, _, rfl⟩ := List.mem_map.mp hd
  rfl
def SeqT (rows : List (List D)) (ds : List D) : Prop := ds.length = rows.length ∧ ∀ (i : Nat) (row : List D), rows[i]? = some row → ∃ e, ds[i]? = some e ∧ SeqOf row e
theorem fits_non (c : Nat) (h : D) (c1 : 1 ≤ c) (c5 : c ≤ 5) : F_fits_count [.int c, .non] h = .ok (.bl true) h := by
  unfold F_fits_count
  push_cast [decide_eq_true (show (1 : Int) ≤ (c : Int) by omega), decide_eq_true (show (c : Int) ≤ 5 by omega)]
theorem fits_eq (c : Nat) (h : D) : F_fits_count [.int c, .int c] h = .ok (.bl true) h := by
  unfold F_fits_count
  push_cast [szOk]
theorem E_check_table (p : Int) (c : Nat) (rows : List (List D)) (ds : List D) (d h : D) (hp : Pr p) (hd : SeqOf ds d) (ht : SeqT rows ds) (r1 : 1 ≤ rows.length) (r5 : rows.length ≤ 5) (c1 : 1 ≤ c) (c5 : c ≤ 5) (hr : ∀ row ∈ rows, Row p c row) :
    F_check_table [fig p, d, .non, .non] h = .ok (.tup (rows.map D.tup)) h := by
  obtain ⟨δ', h', eF, iF⟩ := for_all (bind := bTp [(bNm 6), (bNm 7)]) (body := (sSeq (sIf (eOr (eNot (eTru (eCall 1 F_is_sequence [] (eCons (eVm 7) eNil)))) (eNot (eTru (eCall 2 F_fits_count [] (eCons (eBi kLen (eCons (eV 7) eNil)) (eCons (eVm 5) eNil)))))) (sRaise "BadTable" (flD2 "index" "what") (eCons (eV 6) (eCons (eC (.str "columns")) eNil))) sNil)
    (sSeq (sSet 5 (eBi kLen (eCons (eV 7) eNil)))
    (sSeq (sIf (eNot (eTru (eCall 2 F_all_are_numbers [] (eCons (eVm 0) (eCons (eVm 7) eNil))))) (sRaise "BadTable" (flD2 "index" "what") (eCons (eV 6) (eCons (eC (.str "number")) eNil))) sNil)
    (sApp (pV 4) (eBi Fw.kTup (eCons (eV 7) eNil))))))) (fun i δ h' => h' = h ∧ ∃ x y, δ = [some (fig p), some d, some .non, some .non, some (.hl ((rows.take i).map D.tup)), some (if i = 0 then .non else .int c), x, y]) (enD 0 ds) [some (fig p), some d, some .non, some .non, some (.hl []), some .non, none, none] h ⟨rfl, none, none, rfl⟩ fun i x δ hh hx ⟨e1, x0, y0, e2⟩ => by
      subst e1 e2
      rw [enD_get] at hx
      have hi : i < rows.length := by
        rw [← ht.1]
        cases q : ds[i]? with
        | none => rw [q] at hx; cases hx
        | some z => exact (List.getElem?_eq_some_iff.mp q).1
      obtain ⟨e, he, se⟩ := ht.2 i rows[i] (List.getElem?_eq_getElem hi)
      rw [he] at hx
      cases hx
      have rw1 := hr rows[i] (List.getElem_mem hi)
      have tk : rows.take (i + 1) = rows.take i ++ [rows[i]] := List.take_succ_eq_append_getElem hi
      refine ⟨_, rfl, _, _, ?_, rfl, some (.int ((0 + i : Nat) : Int)), some e, rfl⟩
      have tl : (rows.take i).length = i := by rw [List.length_take]; omega
      have an := E_all_numbers p rows[i] e hh hp se (by rw [rw1.1]; omega) rw1.2
      have sl : szOk ((rows.take i).map D.tup).length = true := sz_n _ (by rw [List.length_map, tl]; omega)
      by_cases h0 : i = 0
      · subst h0
        push_cast [se.vd, se.vm', vd_fig, vm_fig, E_seq se, fits_non c hh c1 c5, an, List.append_nil, se.len, rw1.1, se.tup, plD, getP, plS, setP, D.nm, sl, tk, List.map_append, Nat.zero_add, Bool.or_false]
        try rfl
      · push_cast [se.vd, se.vm', vd_fig, vm_fig, E_seq se, h0, fits_eq c hh, an, List.append_nil, se.len, rw1.1, se.tup, plD, getP, plS, setP, D.nm, sl, tk, List.map_append, Nat.zero_add, (show (i + 1 = 0) = False by simp)]
        try rfl
  obtain ⟨rfl, x, y, rfl⟩ := iF
  have tf : rows.take (enD 0 ds).length = rows := by rw [enD_len, ht.1, List.take_length]
  rw [tf] at eF
  have lr := fits_non rows.length h' r1 r5
  unfold F_check_table
  push_cast [hd.vd, hd.vm', vd_fig, vm_fig, E_seq hd, hd.len, ht.1, lr, List.append_nil, szOk, Nat.zero_le, hd.enum, eF, frz, Fw.kTup, frzL_tup]
end N71
set_option exponentiation.threshold 20000
namespace N71
open PySem PySem.Spec L2 Fw
theorem E_width (p : Int) (r c : Nat) (h : D) (hp : p ≠ 0 → (r : Int) ≤ p ∧ (c : Int) ≤ p) : F_check_width [fig p, .int r, .int c] h = .ok .non h := by
  by_cases h0 : p = 0
  · subst h0
    unfold F_check_width fig
    push_cast []
  · obtain ⟨a, b⟩ := hp h0
    have nm : ¬ p < (if (c : Int) > (r : Int) then (c : Int) else (r : Int)) := by split <;> omega
    unfold F_check_width fig
    push_cast [h0, kMax2, nm]
def pairI (p : Int) (r c : Nat) (A B : List (List D)) : D := .ins "Pair" [("figures", fig p), ("first", .tup (A.map D.tup)), ("second", .tup (B.map D.tup)), ("rows", .int r), ("columns", .int c)]
/-- a table: r rows of c numbers -/
structure Tab (p : Int) (r c : Nat) (A : List (List D)) : Prop where
  r1 : 1 ≤ r
  r5 : r ≤ 5
  c1 : 1 ≤ c
  c5 : c ≤ 5
  rp : p ≠ 0 → (r : Int) ≤ p ∧ (c : Int) ≤ p
  l : A.length = r
  row : ∀ x ∈ A, Row p c x
theorem Tab.at0 {p : Int} {r c : Nat} {A : List (List D)} (t : Tab p r c A) : ∃ x, atI (A.map D.tup) 0 = some (.tup x) ∧ x.length = c := by
  have hl : 0 < A.length := by have := t.l; have := t.r1; omega
  exact ⟨A[0], atI_n (i := 0) (by rw [List.getElem?_map, List.getElem?_eq_getElem hl]; rfl), (t.row _ (List.getElem_mem hl)).1⟩
theorem E_pair (p : Int) (r c : Nat) (A B : List (List D)) (ds es : List D) (d e : D) (hp : Pr p) (a : Tab p r c A) (b : Tab p r c B) (hd : SeqOf ds d) (ht : SeqT A ds) (he : SeqOf es e) (hu : SeqT B es) : F_Pair___init__ [.me, fig p, d, e] (.ins "Pair" []) = .ok .non (pairI p r c A B) := by
  have e1 := E_check_table p c A ds d (.ins "Pair" []) hp hd ht (by rw [a.l]; exact a.r1) (by rw [a.l]; exact a.r5) a.c1 a.c5 a.row
  have e2 := E_check_table p c B es e (.ins "Pair" []) hp he hu (by rw [b.l]; exact b.r1) (by rw [b.l]; exact b.r5) a.c1 a.c5 b.row
  obtain ⟨x, ax, lx⟩ := a.at0
  obtain ⟨y, ay, ly⟩ := b.at0
  have w := E_width p r c (.ins "Pair" []) a.rp
  unfold F_Pair___init__ pairI
  push_cast [hd.vd, hd.vm', he.vd, he.vm', vd_fig, vm_fig, e1, e2, ax, ay, lx, ly, List.length_map, a.l, b.l, w, putD, szOk, Nat.zero_le, Nat.reduceLT, Nat.reduceLeDiff, if_neg (show ¬ ("figures" : Str) = "first" by decide), if_neg (show ¬ ("figures" : Str) = "second" by decide), if_neg (show ¬ ("figures" : Str) = "rows" by decide), if_neg (show ¬ ("figures" : Str) = "columns" by decide), if_neg (show ¬ ("first" : Str) = "second" by decide), if_neg (show ¬ ("first" : Str) = "rows" by decide), if_neg (show ¬ ("first" : Str) = "columns" by decide), if_neg (show ¬ ("second" : Str) = "rows" by decide), if_neg (show ¬ ("second" : Str) = "columns" by decide), if_neg (show ¬ ("rows" : Str) = "columns" by decide)]
theorem flat_rep {α : Type} (n : Nat) (z : α) : (List.replicate n [z]).flatten = List.replicate n z := by
  induction n with
  | zero => rfl
  | succ n ih => rw [List.replicate_succ, List.flatten_cons, ih, List.replicate_succ]; rfl
theorem rep_ok (n : Nat) (h : n ≤ 1000) : cRep (n : Int) 1 = true := by
  unfold cRep
  rw [decide_eq_true (show (0 : Int) ≤ n by omega), decide_eq_true (show (n : Int) ≤ 1000 by omega), decide_eq_true (show 1 ≤ 1000 by omega)]
  rfl
theorem times_t (z : D) (n : Nat) (h : n ≤ 1000) : oTimes (.tup [z]) (.int (n : Int)) = some (.tup (List.replicate n z)) := by
  show (if (cRep (n : Int) 1 && !([z] : List D).isEmpty) = true then some (D.tup (List.replicate (n : Int).toNat [z]).flatten) else none) = _
  rw [rep_ok n h, Int.toNat_natCast, flat_rep]
  rfl
theorem times_l (z : D) (n : Nat) (h : n ≤ 1000) : oTimes (.lst [z]) (.int (n : Int)) = some (.hl (List.replicate n z)) := by
  show (if cRep (n : Int) 1 = true then some (D.hl (List.replicate (n : Int).toNat [z]).flatten) else none) = _
  rw [rep_ok n h, Int.toNat_natCast, flat_rep]
  rfl
theorem E_zero_row (p : Int) (n : Nat) (h : D) (hn : n ≤ 1000) : F_zero_row [fig p, .int n] h = .ok (.tup (List.replicate n (zeroD p))) h := by
  have t := times_t (zeroD p) n hn
  unfold F_zero_row fig
  push_cast [lk_miss "zero" "prime" _ _ (by decide), szOk, Nat.reduceLeDiff, t, sfz]
theorem plus_t (ds es : List D) (h : ds.length + es.length ≤ 1000) : oPlus (.tup ds) (.tup es) = some (.tup (ds ++ es)) := by
  show (if szOk (ds.length + es.length) = true then some (D.tup (ds ++ es)) else none) = _
  rw [sz_n _ h]
  rfl
def unitL (p : Int) (n i : Nat) : List D := List.replicate i (zeroD p) ++ [oneD p] ++ List.replicate (n - i - 1) (zeroD p)
theorem unit_len {p : Int} {n i : Nat} (h : i < n) : (unitL p n i).length = n := by
  unfold unitL
  rw [List.length_append, List.length_append, List.length_replicate, List.length_replicate]
  simp
  omega
theorem unit_at {p : Int} {n i k : Nat} (h : i < n) (hk : k < n) : (unitL p n i)[k]? = some (if k = i then oneD p else zeroD p) := by
  unfold unitL
  by_cases h1 : k < i
  · rw [List.append_assoc, List.getElem?_append_left (by rw [List.length_replicate]; exact h1), List.getElem?_replicate, if_pos h1, if_neg (by omega)]
  · by_cases h2 : k = i
    · subst h2
      rw [List.append_assoc, List.getElem?_append_right (by rw [List.length_replicate]; omega), List.length_replicate, Nat.sub_self, if_pos rfl]
      rfl
    · rw [List.getElem?_append_right (by rw [List.length_append, List.length_replicate]; simp; omega), List.length_append, List.length_replicate, List.getElem?_replicate, if_neg h2]
      rw [if_pos (by simp; omega)]
theorem unit_map {p : Int} {n i : Nat} (h : i < n) : unitL p n i = (List.range n).map fun k => if k = i then oneD p else zeroD p := by
  refine List.ext_getElem? fun k => ?_
  by_cases hk : k < n
  · rw [unit_at h hk, List.getElem?_map, List.getElem?_range hk]
    rfl
  · rw [List.getElem?_eq_none (by rw [unit_len h]; omega), List.getElem?_eq_none (by rw [List.length_map, List.length_range]; omega)]
theorem E_unit_row (p : Int) (n i : Nat) (h : D) (hi : i < n) (hn : n ≤ 300) : F_unit_row [fig p, .int n, .int i] h = .ok (.tup (unitL p n i)) h := by
  have z1 := E_zero_row p i h (by omega)
  have z2 := E_zero_row p (n - i - 1) h (by omega)
  have es : (n : Int) - (i : Int) - 1 = ((n - i - 1 : Nat) : Int) := by omega
  have p1 := plus_t (List.replicate i (zeroD p)) [oneD p] (by rw [List.length_replicate]; simp; omega)
  have p2 := plus_t (List.replicate i (zeroD p) ++ [oneD p]) (List.replicate (n - i - 1) (zeroD p)) (by rw [List.length_append, List.length_replicate, List.length_replicate]; simp; omega)
  have ef : List.lookup "one" [("prime", D.int p), ("zero", zeroD p), ("one", oneD p)] = some (oneD p) := rfl
  have ea : ∀ l, eAtV 0 "one" (some (fig p) :: l) h = .ok (oneD p) h := fun l => rfl
  unfold F_unit_row unitL
  push_cast [vd_fig, vm_fig, fg_o, z1, List.append_nil, szOk, Nat.reduceLeDiff, p1, sfz, es, z2, p2]
end N71
set_option exponentiation.threshold 20000
namespace N71
open PySem PySem.Spec L2 Fw
theorem NuD.vd {p : Int} {x : D} (n : NuD p x) (h : D) : vD (some (some x)) h = .ok x h := by rcases n with ⟨_, t, b, rfl, _⟩ | ⟨_, i, rfl, _⟩ <;> rfl
theorem NuD.vm {p : Int} {x : D} (n : NuD p x) (h : D) : vmD (some (some x)) h = .ok x h := by rcases n with ⟨_, t, b, rfl, _⟩ | ⟨_, i, rfl, _⟩ <;> rfl
def sideB (p n : Int) : Bool := decide (1 ≤ n) && decide (n ≤ 5) && (decide (p = 0) || decide (n ≤ p))
theorem E_side (p n : Int) (h : D) : F_is_side [fig p, .int n] h = .ok (.bl (sideB p n)) h := by
  have w := E_whole2 n 1 5 h
  unfold sideB
  unfold F_is_side
  cases hb : (decide (1 ≤ n) && decide (n ≤ 5)) with
  | false =>
    rw [hb] at w
    push_cast [vd_fig, vm_fig, fg_p, List.append_nil, w, Bool.false_and]
  | true =>
    rw [hb] at w
    by_cases h0 : p = 0
    · push_cast [vd_fig, vm_fig, fg_p, List.append_nil, w, h0, Bool.true_and, Bool.true_or]
    · push_cast [vd_fig, vm_fig, fg_p, List.append_nil, w, h0, Bool.true_and, Bool.false_or]
theorem E_number_row (p : Int) (n : Nat) (u : List D) (h : D) (hp : Pr p) (hu : Row p n u) (hn : n ≤ 1000) : F_is_number_row [fig p, .tup u, .int n] h = .ok (.bl true) h := by
  have s := E_seq (.inr rfl : SeqOf u (.tup u)) h
  have a := E_all_numbers p u (.tup u) h hp (.inr rfl) (by rw [hu.1]; exact hn) hu.2
  unfold F_is_number_row
  push_cast [vd_fig, vm_fig, List.append_nil, s, a, hu.1, Bool.and_true]
def Prd (p : Int) (r c : Nat) (d : D) : Prop := ∃ u v x y, d = .tup [.tup u, .tup v, x, y] ∧ Row p r u ∧ Row p c v ∧ NuD p x ∧ NuD p y
def progH (p : Int) (r c : Nat) : D := .ins "Program" [("figures", fig p), ("rows", .int r), ("columns", .int c)]
def progI (p : Int) (r c : Nat) (ps : List D) : D := .ins "Program" [("figures", fig p), ("rows", .int r), ("columns", .int c), ("products", .tup ps)]
theorem ph_f {p : Int} {r c : Nat} : atvD (some (some .me)) "figures" (progH p r c) = .ok (fig p) (progH p r c) := (rfl)
theorem ph_r {p : Int} {r c : Nat} : atvD (some (some .me)) "rows" (progH p r c) = .ok (.int r) (progH p r c) := (rfl)
theorem ph_c {p : Int} {r c : Nat} : atvD (some (some .me)) "columns" (progH p r c) = .ok (.int c) (progH p r c) := (rfl)
theorem E_check_product (p : Int) (r c : Nat) (d : D) (i : Int) (hp : Pr p) (hr : r ≤ 5) (hc : c ≤ 5) (hd : Prd p r c d) : F_check_product [.me, d, .int i] (progH p r c) = .ok d (progH p r c) := by
  obtain ⟨u, v, x, y, rfl, hu, hv, hx, hy⟩ := hd
  have s := E_seq (.inr rfl : SeqOf [.tup u, .tup v, x, y] (.tup [.tup u, .tup v, x, y])) (progH p r c)
  have nu := E_number_row p r u (progH p r c) hp hu (by omega)
  have nv := E_number_row p c v (progH p r c) hp hv (by omega)
  have mx : ∀ (a0 a1 a2 a4 a5 a7 : Option D), eMeth "Figures" "is_number" 2 F_Figures_is_number [] (eV 3) (eCons (eVm 6) eNil) [a0, a1, a2, some (fig p), a4, a5, some x, a7] (progH p r c) = .ok (.bl true) (progH p r c) := fun a0 a1 a2 a4 a5 a7 => meth_num hp hx rfl (by push_cast [hx.vm])
  have my : ∀ (a0 a1 a2 a4 a5 a7 : Option D), eMeth "Figures" "is_number" 2 F_Figures_is_number [] (eV 3) (eCons (eVm 7) eNil) [a0, a1, a2, some (fig p), a4, a5, a7, some y] (progH p r c) = .ok (.bl true) (progH p r c) := fun a0 a1 a2 a4 a5 a7 => meth_num hp hy rfl (by push_cast [hy.vm])
  unfold F_check_product
  simp only [runF, sSeq_a, sSet_a, eAtV_a, List.map, List.append, List.length_cons, List.length_nil, Nat.reduceAdd, Nat.reduceSub, List.replicate, List.cons_append, List.nil_append, List.getElem?_cons_zero, ph_f, fl_okE, List.set_cons_succ, List.set_cons_zero, seq_nx, sIf_a, eOr_a, eNot_a, eTru_a, eCall_a, eCons_a, eNil_a, eVm_a, List.getElem?_cons_succ, vmD_tup, bind_okE, List.append_nil, s, if_true, truD, of_someE, Bool.not_true, Bool.false_eq_true, if_false, eT_a, eOp_a, eBi_a, eV_a, vD_tup, kLen_t, eC_a, oNe_a, nc4, eq_int, eq_self, decide_true, Option.map_some, bD, sNil_a, sAsg_a, bTp_a, bAll, bNm_a, vm_fig, ph_r, ph_c, nu, nv, mx, my, sRet_a, eTup_a, hx.vd, hy.vd, szOk, Nat.reduceLeDiff, Fw.kTup]
theorem sA1 : ¬ ("figures" : Str) = "rows" := by decide
theorem sA2 : ¬ ("figures" : Str) = "columns" := by decide
theorem sA3 : ¬ ("figures" : Str) = "products" := by decide
theorem sA4 : ¬ ("rows" : Str) = "columns" := by decide
theorem sA5 : ¬ ("rows" : Str) = "products" := by decide
theorem sA6 : ¬ ("columns" : Str) = "products" := by decide
def badP (what : Str) : List (Str × D) := [("what", .str what), ("index", .int 0)]
theorem E_prog_r (p r c : Int) (d : D) (hs : sideB p r = false) : F_Program___init__ [.me, fig p, .int r, .int c, d] (.ins "Program" []) = .exc "BadProgram" (badP "rows") (.ins "Program" []) := by
  have e := E_side p r (.ins "Program" [])
  rw [hs] at e
  unfold F_Program___init__ badP
  push_cast [vd_fig, vm_fig, List.append_nil, e, flD2]
theorem E_prog_c (p r c : Int) (d : D) (hs : sideB p r = true) (hc : sideB p c = false) : F_Program___init__ [.me, fig p, .int r, .int c, d] (.ins "Program" []) = .exc "BadProgram" (badP "columns") (.ins "Program" []) := by
  have e := E_side p r (.ins "Program" [])
  have e2 := E_side p c (.ins "Program" [])
  rw [hs] at e
  rw [hc] at e2
  unfold F_Program___init__ badP
  push_cast [vd_fig, vm_fig, List.append_nil, e, e2, flD2]
theorem E_prog_m (p r c : Int) (ps : List D) (d : D) (hs : sideB p r = true) (hc : sideB p c = true) (hd : SeqOf ps d) (hm : 30 < ps.length) : F_Program___init__ [.me, fig p, .int r, .int c, d] (.ins "Program" []) = .exc "BadProgram" (badP "many") (.ins "Program" []) := by
  have e := E_side p r (.ins "Program" [])
  have e2 := E_side p c (.ins "Program" [])
  rw [hs] at e
  rw [hc] at e2
  have hm2 : (30 : Int) < (ps.length : Int) := by omega
  unfold F_Program___init__ badP
  push_cast [vd_fig, vm_fig, List.append_nil, e, e2, flD2, hd.vd, hd.vm', E_seq hd, hd.len, hm2]
theorem map_id {f : D → D} : ∀ (ds : List D), (∀ d ∈ ds, f d = d) → ds.map f = ds
  | [], _ => rfl
  | d :: ds, k => by
    rw [List.map_cons, k d List.mem_cons_self, map_id ds fun z hz => k z (List.mem_cons_of_mem _ hz)]
theorem Prd.vm {p : Int} {r c : Nat} {d : D} (n : Prd p r c d) (h : D) : vmD (some (some d)) h = .ok d h := by
  obtain ⟨u, v, x, y, rfl, _⟩ := n
  rfl
def fstI : D → D
  | .tup [_, d] => d
  | d => d
theorem en_map : ∀ (ds : List D) (k : Nat), (enD k ds).map fstI = ds
  | [], _ => rfl
  | d :: ds, k => by
    show d :: (enD (k + 1) ds).map fstI = _
    rw [en_map ds (k + 1)]
theorem en_mem : ∀ (ds : List D) (k : Nat) (x : D), x ∈ enD k ds → ∃ (i : Nat) (d : D), x = .tup [.int (i : Nat), d] ∧ d ∈ ds
  | [], _, x, h => by cases h
  | d :: ds, k, x, h => by
    rcases List.mem_cons.mp h with rfl | h
    · exact ⟨k, d, rfl, List.mem_cons_self⟩
    · obtain ⟨i, e, h1, h2⟩ := en_mem ds (k + 1) x h
      exact ⟨i, e, h1, List.mem_cons_of_mem _ h2⟩
theorem E_prog (p : Int) (r c : Nat) (ps : List D) (d : D) (hp : Pr p) (hs : sideB p r = true) (hc : sideB p c = true) (hr5 : r ≤ 5) (hc5 : c ≤ 5) (hd : SeqOf ps d) (hm : ps.length ≤ 30) (hps : ∀ x ∈ ps, Prd p r c x) : F_Program___init__ [.me, fig p, .int r, .int c, d] (.ins "Program" []) = .ok .non (progI p r c ps) := by
  have e := E_side p r (.ins "Program" [])
  have e2 := E_side p c (.ins "Program" [])
  rw [hs] at e
  rw [hc] at e2
  have hm2 : ¬ (30 : Int) < (ps.length : Int) := by omega
  have el := lc_map (bind := bTp [(bNm 5), (bNm 6)]) (elt := eCall 3 F_check_product [] (eCons (eVm 0) (eCons (eVm 6) (eCons (eVm 5) eNil)))) (δ := [some .me, some (fig p), some (.int r), some (.int c), some d, none, none]) (h := progH p r c) fstI (enD 0 ps) fun x hx => by
    obtain ⟨i, z, rfl, hz⟩ := en_mem ps 0 x hx
    have pz := hps z hz
    refine ⟨_, rfl, ?_⟩
    have ec := E_check_product p r c z i hp hr5 hc5 pz
    push_cast [pz.vm, List.append_nil, ec]
    rfl
  rw [en_map] at el
  have se : szOk (enD 0 ps).length = true := by rw [enD_len]; exact sz_n _ (by omega)
  have elm := el
  unfold progH at el
  unfold F_Program___init__ progI
  push_cast [vd_fig, vm_fig, List.append_nil, e, e2, hd.vd, hd.vm', E_seq hd, hd.len, hm2, putD, szOk, Nat.zero_le, Nat.reduceLT, Nat.reduceLeDiff, if_neg sA1, if_neg sA2, if_neg sA3, if_neg sA4, if_neg sA5, if_neg sA6, hd.enum, wipeD, se, enD_len, decide_eq_true (show ps.length ≤ 1000000 by omega), el, sfz, Fw.kTup]
end N71
set_option exponentiation.threshold 20000
namespace N71
open PySem PySem.Spec L2 Fw
def Exd : Nat → D → Prop
  | 0, _ => False
  | n + 1, d => (∃ i, d = .int i) ∨ ∃ ds, d = .tup ds ∧ ds.length ≤ 1000 ∧ ∀ x ∈ ds, Exd n x
theorem Exd.vm {n : Nat} {d : D} (e : Exd n d) (h : D) : vmD (some (some d)) h = .ok d h := by
  cases n with
  | zero => exact e.elim
  | succ n => rcases e with ⟨i, rfl⟩ | ⟨ds, rfl, _⟩ <;> rfl
theorem rgD_mem {n : Nat} {x : D} (h : x ∈ rgD 0 n) : ∃ i : Nat, x = .int i ∧ i < n := by
  unfold rgD at h
  obtain ⟨i, hi, rfl⟩ := List.mem_map.mp h
  exact ⟨i, by rw [Int.zero_add], List.mem_range.mp hi⟩
theorem filter_no {ds : List D} : (ds.filter fun _ => false) = [] := by
  induction ds with
  | nil => rfl
  | cons d ds ih => rw [List.filter_cons]; exact ih
theorem eq_nil : eqD (.lst []) (.lst []) = some true := rfl
theorem exact_refl : ∀ (n : Nat) (d h : D), Exd n d → F__law_exact n [d, d] h = .ok (.bl true) h
  | 0, d, h, e => e.elim
  | n + 1, d, h, e => by
    rcases e with ⟨i, rfl⟩ | ⟨ds, rfl, hl, hs⟩
    · unfold F__law_exact
      push_cast [Bool.and_true]
    · have el := lc_filter (bind := bNm 2) (test := eNot (eTru (eCall 2 (F__law_exact n) [] (eCons (eOp oIx (eV 0) (eV 2)) (eCons (eOp oIx (eV 1) (eV 2)) eNil))))) (elt := eV 2) (δ := [some (.tup ds), some (.tup ds), none]) (h := h) (fun _ => false) id (rgD 0 ds.length) fun x hx => by
        obtain ⟨i, rfl, hi⟩ := rgD_mem hx
        have ei := exact_refl n ds[i] h (hs _ (List.getElem_mem hi))
        have ea := atI_n (xs := ds) (i := i) (List.getElem?_eq_getElem hi)
        refine ⟨_, rfl, ?_, fun z => by cases z⟩
        push_cast [ea, List.append_nil, ei]
      rw [filter_no] at el
      unfold F__law_exact
      push_cast [rg1_n ds.length hl, wipeD, rg_len, sz_n ds.length hl, el, List.map_nil, sfz, szOk, Nat.zero_le, decide_eq_true (show ds.length ≤ 1000000 by omega), eq_nil]
theorem NuD.ex {p : Int} {x : D} (n : NuD p x) : Exd 2 x := by
  rcases n with ⟨_, t, b, rfl, _⟩ | ⟨_, i, rfl, _⟩
  · refine .inr ⟨_, rfl, by simp, fun y hy => ?_⟩
    rcases List.mem_cons.mp hy with rfl | hy
    · exact .inl ⟨_, rfl⟩
    · rw [List.mem_singleton.mp hy]; exact .inl ⟨_, rfl⟩
  · exact .inl ⟨_, rfl⟩
theorem Exd.up : ∀ {n : Nat} {d : D}, Exd n d → Exd (n + 1) d
  | 0, _, e => e.elim
  | n + 1, _, .inl e => .inl e
  | n + 1, _, .inr ⟨ds, e, l, k⟩ => .inr ⟨ds, e, l, fun x hx => (k x hx).up⟩
theorem Prd.ex {p : Int} {r c : Nat} {d : D} (hr : r ≤ 5) (hc : c ≤ 5) (n : Prd p r c d) : Exd 4 d := by
  obtain ⟨u, v, x, y, rfl, hu, hv, hx, hy⟩ := n
  refine .inr ⟨_, rfl, by simp, fun z hz => ?_⟩
  simp only [List.mem_cons, List.not_mem_nil, or_false] at hz
  rcases hz with rfl | rfl | rfl | rfl
  · exact .inr ⟨_, rfl, by rw [hu.1]; omega, fun z hz => (hu.2 z hz).ex⟩
  · exact .inr ⟨_, rfl, by rw [hv.1]; omega, fun z hz => (hv.2 z hz).ex⟩
  · exact hx.ex.up
  · exact hy.ex.up
theorem E_exact_int (i : Int) (h : D) : F__law_exact 5 [.int i, .int i] h = .ok (.bl true) h := exact_refl 5 _ h (.inl ⟨i, rfl⟩)
theorem E_numbers (p : Int) (n : Nat) (u : List D) (h : D) (hp : Pr p) (hu : Row p n u) : F__law_numbers [.int p, .tup u, .int n] h = .ok (.bl true) h := by
  obtain ⟨a, b, c⟩ := pr0 hp
  obtain ⟨δ', h', eF, rfl, x, rfl⟩ := for_all (bind := bNm 3) (body := (sIf (eT (eOp oGt (eV 0) (eC (.int 0)))) (sIf (eOr (eNot (eTru (eIs "int" (eV 3)))) (eOr (eTru (eIs "bool" (eV 3))) (eNot (eT (eCh oLe oLt (eC (.int 0)) (eV 3) (eV 0)))))) (sRet (eC (.bl false))) sNil) (sIf (eOr (eNot (eTru (eIs "tuple" (eV 3)))) (eT (eOp oNe (eBi kLen (eCons (eV 3) eNil)) (eC (.int 2))))) (sRet (eC (.bl false))) (sIf (eOr (eNot (eTru (eIs "int" (eOp oIx (eV 3) (eC (.int 0)))))) (eOr (eNot (eTru (eIs "int" (eOp oIx (eV 3) (eC (.int 1)))))) (eT (eOp oLt (eOp oIx (eV 3) (eC (.int 1))) (eC (.int 1)))))) (sRet (eC (.bl false))) (sIf (eOr (eTru (eIs "bool" (eOp oIx (eV 3) (eC (.int 0))))) (eOr (eTru (eIs "bool" (eOp oIx (eV 3) (eC (.int 1))))) (eT (eOp oNe (eCall 2 F__law_gcd [] (eCons (eOp oIx (eV 3) (eC (.int 0))) (eCons (eOp oIx (eV 3) (eC (.int 1))) eNil))) (eC (.int 1)))))) (sRet (eC (.bl false))) sNil))))) (fun i δ h' => h' = h ∧ ∃ x, δ = [some (.int p), some (.tup u), some (.int n), x]) u [some (.int p), some (.tup u), some (.int n), none] h ⟨rfl, none, rfl⟩ fun i x δ hh hx ⟨e1, x0, e2⟩ => by
    subst e1 e2
    refine ⟨_, rfl, ?_⟩
    rcases hu.2 x (List.mem_of_getElem? hx) with ⟨rfl, t, b, rfl, l, ht, hb⟩ | ⟨h0, i, rfl, i0, i1⟩
    · have eg := E_gcd t b hh (by have := l.1; omega)
      rw [l.2] at eg
      have nb : ¬ b < 1 := by have := l.1; omega
      refine ⟨[some (.int 0), some (.tup u), some (.int n), some (rat t b)], hh, ?_, rfl, some (rat t b), rfl⟩
      unfold rat
      push_cast [Int.reduceLT, at0, at1, nb, eg, List.append_nil]
    · have pp : 0 < p := by omega
      refine ⟨[some (.int p), some (.tup u), some (.int n), some (.int i)], hh, ?_, rfl, some (.int i), rfl⟩
      push_cast [pp, i0, i1]
  unfold F__law_numbers
  push_cast [hu.1, eF]
theorem pi_r {p : Int} {r c : Nat} {ps : List D} {h : D} : atvD (some (some (progI p r c ps))) "rows" h = .ok (.int r) h := (rfl)
theorem pi_c {p : Int} {r c : Nat} {ps : List D} {h : D} : atvD (some (some (progI p r c ps))) "columns" h = .ok (.int c) h := (rfl)
theorem pi_f {p : Int} {r c : Nat} {ps : List D} {h : D} : atvD (some (some (progI p r c ps))) "figures" h = .ok (fig p) h := (rfl)
theorem pi_p {p : Int} {r c : Nat} {ps : List D} {h : D} : atvD (some (some (progI p r c ps))) "products" h = .ok (.tup ps) h := (rfl)
theorem pa_p {p : Int} {r c : Nat} {ps : List D} {h : D} : attD (progI p r c ps) "products" h = .ok (.tup ps) h := (rfl)
theorem vd_prog {p : Int} {r c : Nat} {ps : List D} {h : D} : vD (some (some (progI p r c ps))) h = .ok (progI p r c ps) h := (rfl)
theorem vm_prog {p : Int} {r c : Nat} {ps : List D} {h : D} : vmD (some (some (progI p r c ps))) h = .ok (progI p r c ps) h := (rfl)
theorem len_prog {p : Int} {r c : Nat} {ps : List D} {h : D} (hl : ps.length ≤ 1000) : lenID "Program" F_Program___len__ (progI p r c ps) h = .ok (.int ps.length) h := lenI_ok rfl hl
theorem iow_prog {p : Int} {r c : Nat} {ps : List D} {h : D} : iowD "Program" "products" (progI p r c ps) h = .ok ps h := (rfl)
theorem E_products (p : Int) (r c : Nat) (ps : List D) (h : D) (hp : Pr p) (hl : ps.length ≤ 1000) (hps : ∀ x ∈ ps, Prd p r c x) : F__law_products [.int p, progI p r c ps, .int r, .int c] h = .ok (.tup ps) h := by
  have ln := len_prog (p := p) (r := r) (c := c) (h := h) hl
  obtain ⟨δ', h', eF, rfl, x, rfl⟩ := for_all (bind := bNm 4) (body := (sSeq (sIf (eOr (eNot (eTru (eIs "tuple" (eV 4)))) (eT (eOp oNe (eBi kLen (eCons (eV 4) eNil)) (eC (.int 4))))) (sRet (eC .non)) sNil)
    (sSeq (sIf (eOr (eNot (eTru (eCall 3 F__law_numbers [] (eCons (eVm 0) (eCons (eOp oIx (eV 4) (eC (.int 0))) (eCons (eVm 2) eNil)))))) (eNot (eTru (eCall 3 F__law_numbers [] (eCons (eVm 0) (eCons (eOp oIx (eV 4) (eC (.int 1))) (eCons (eVm 3) eNil))))))) (sRet (eC .non)) sNil)
    (sIf (eNot (eTru (eCall 3 F__law_numbers [] (eCons (eVm 0) (eCons (eTup (eCons (eOp oIx (eV 4) (eC (.int 2))) (eCons (eOp oIx (eV 4) (eC (.int 3))) eNil))) (eCons (eC (.int 2)) eNil)))))) (sRet (eC .non)) sNil)))) (fun i δ h' => h' = h ∧ ∃ x, δ = [some (.int p), some (progI p r c ps), some (.int r), some (.int c), x]) ps [some (.int p), some (progI p r c ps), some (.int r), some (.int c), none] h ⟨rfl, none, rfl⟩ fun i x δ hh hx ⟨e1, x0, e2⟩ => by
    subst e1 e2
    refine ⟨_, rfl, ?_⟩
    obtain ⟨u, v, y, z, rfl, hu, hv, hy, hz⟩ := hps x (List.mem_of_getElem? hx)
    have n1 := E_numbers p r u hh hp hu
    have n2 := E_numbers p c v hh hp hv
    have n3 : F__law_numbers [.int p, .tup [y, z], .int 2] hh = .ok (.bl true) hh := E_numbers p 2 [y, z] hh hp ⟨rfl, fun w hw => by
      rcases List.mem_cons.mp hw with rfl | hw
      · exact hy
      · rw [List.mem_singleton.mp hw]; exact hz⟩
    refine ⟨[some (.int p), some (progI p r c ps), some (.int r), some (.int c), some (.tup [.tup u, .tup v, y, z])], hh, ?_, rfl, _, rfl⟩
    push_cast [at0, at1, at2, at3, n1, n2, List.append_nil, sz_n 2 (by omega), n3]
  have x1 := E_exact_int r h'
  have x2 := E_exact_int c h'
  unfold F__law_products
  push_cast [pi_r, pi_c, pi_f, pi_p, ft_p, vm_prog, vd_prog, x1, x2, List.append_nil, ln, eF]
end N71
set_option exponentiation.threshold 20000
namespace N71
open PySem PySem.Spec L2 Fw
theorem lc2_map {bind : D → DE → Option DE} {test : EF Bool} {inner : EF (List D)} {δ : DE} {h : D} (g : D → List D) : ∀ (ds : List D), (∀ x ∈ ds, ∃ δ2, bind x δ = some δ2 ∧ test δ2 h = .ok true h ∧ inner δ2 h = .ok (g x) h) → lc2Go bind test inner δ ds h = .ok (ds.map g).flatten h
  | [], _ => rfl
  | x :: xs, k => by
    obtain ⟨δ2, e1, e2, e3⟩ := k x List.mem_cons_self
    have ih := lc2_map g xs fun y hy => k y (List.mem_cons_of_mem _ hy)
    unfold lc2Go
    simp only [e1, e2, e3, ih, nox_okE, bind_okE, if_true, List.map_cons, List.flatten_cons]
def isZ (p : Int) (x : D) : Bool := (eqD x (zeroD p)).getD false
theorem eq_z {p : Int} {x : D} (n : NuD p x) : eqD x (zeroD p) = some (isZ p x) := by
  have key : ∃ b, eqD x (zeroD p) = some b := by
    rcases n with ⟨rfl, t, b, rfl, _⟩ | ⟨h0, i, rfl, _⟩
    · exact ⟨_, rfl⟩
    · unfold zeroD
      rw [if_neg h0]
      exact ⟨_, rfl⟩
  obtain ⟨b, e⟩ := key
  unfold isZ
  rw [e]
  rfl
def get2 (A : List (List D)) (i j : Nat) : D := ((A[i]?.getD [])[j]?).getD .non
theorem get2_ok {p : Int} {r c : Nat} {A : List (List D)} (t : Tab p r c A) {i j : Nat} (hi : i < r) (hj : j < c) (f : List D → D) : ∃ row, atI (A.map f) (i : Int) = some (f row) ∧ atI row (j : Int) = some (get2 A i j) ∧ NuD p (get2 A i j) := by
  have hl : i < A.length := by rw [t.l]; exact hi
  have rw1 := t.row _ (List.getElem_mem hl)
  have hj2 : j < A[i].length := by rw [rw1.1]; exact hj
  have e : get2 A i j = A[i][j] := by
    unfold get2
    rw [List.getElem?_eq_getElem hl, Option.getD_some, List.getElem?_eq_getElem hj2, Option.getD_some]
  refine ⟨A[i], atI_n (by rw [List.getElem?_map, List.getElem?_eq_getElem hl]; rfl), ?_, ?_⟩
  · rw [e]; exact atI_n (List.getElem?_eq_getElem hj2)
  · rw [e]; exact rw1.2 _ (List.getElem_mem hj2)
def cellD (p : Int) (r c : Nat) (A B : List (List D)) (i j : Nat) : D := .tup [.tup (unitL p r i), .tup (unitL p c j), get2 A i j, get2 B i j]
def nzB (p : Int) (A B : List (List D)) (i j : Nat) : Bool := !(isZ p (get2 A i j)) || !(isZ p (get2 B i j))
def nzD (p : Int) (A B : List (List D)) (i : Nat) (y : D) : Bool := match y with
  | .int j => nzB p A B i j.toNat
  | _ => false
def celD (p : Int) (r c : Nat) (A B : List (List D)) (i : Nat) (y : D) : D := match y with
  | .int j => cellD p r c A B i j.toNat
  | _ => .non
def rowJ (p : Int) (r c : Nat) (A B : List (List D)) (x : D) : List D := match x with
  | .int i => ((rgD 0 c).filter (nzD p A B i.toNat)).map (celD p r c A B i.toNat)
  | _ => []
def allC (p : Int) (r c : Nat) (A B : List (List D)) : List D := ((rgD 0 r).map (rowJ p r c A B)).flatten
theorem flat_len {g : D → List D} (k : ∀ x, (g x).length ≤ 5) : ∀ (ds : List D), ((ds.map g).flatten).length ≤ 5 * ds.length
  | [] => Nat.zero_le _
  | d :: ds => by
    rw [List.map_cons, List.flatten_cons, List.length_append, List.length_cons]
    have := k d
    have := flat_len k ds
    omega
theorem row_len {p : Int} {r c : Nat} {A B : List (List D)} (hc : c ≤ 5) (x : D) : (rowJ p r c A B x).length ≤ 5 := by
  unfold rowJ
  split
  · rw [List.length_map]
    have := List.length_filter_le (nzD p A B (Int.toNat ‹Int›)) (rgD 0 c)
    rw [rg_len] at this
    omega
  · exact Nat.zero_le _
theorem all_len {p : Int} {r c : Nat} {A B : List (List D)} (hr : r ≤ 5) (hc : c ≤ 5) : (allC p r c A B).length ≤ 25 := by
  have := flat_len (row_len (p := p) (r := r) (c := c) (A := A) (B := B) hc) (rgD 0 r)
  rw [rg_len] at this
  unfold allC
  omega
theorem unit_row' {p : Int} {n i : Nat} (hp : Pr p) (h : i < n) : Row p n (unitL p n i) := ⟨unit_len h, fun x hx => by
  rw [unit_map h] at hx
  obtain ⟨k, _, rfl⟩ := List.mem_map.mp hx
  by_cases e : k = i
  · rw [if_pos e]; exact nu_one hp
  · rw [if_neg e]; exact nu_zero hp⟩
theorem all_prd {p : Int} {r c : Nat} {A B : List (List D)} (hp : Pr p) (a : Tab p r c A) (b : Tab p r c B) : ∀ x ∈ allC p r c A B, Prd p r c x := by
  intro x hx
  unfold allC at hx
  obtain ⟨l, hl, hx⟩ := List.mem_flatten.mp hx
  obtain ⟨y, hy, rfl⟩ := List.mem_map.mp hl
  obtain ⟨i, rfl, hi⟩ := rgD_mem hy
  unfold rowJ at hx
  obtain ⟨z, hz, rfl⟩ := List.mem_map.mp hx
  obtain ⟨j, rfl, hj⟩ := rgD_mem (List.mem_filter.mp hz).1
  obtain ⟨_, _, _, na⟩ := get2_ok a hi hj D.tup
  obtain ⟨_, _, _, nb⟩ := get2_ok b hi hj D.tup
  exact ⟨_, _, _, _, rfl, unit_row' hp (by simpa using hi), unit_row' hp (by simpa using hj), by simpa using na, by simpa using nb⟩
theorem eMake_ok {nm : Str} {n : Nat} {F : Fn} {dd : List D} {fs : EF (List D)} {δ : DE} {h h1 : D} {ds : List D} {xs : List (Str × D)} (e1 : fs δ h = .ok ds h1) (e2 : F (.me :: (ds ++ dd)) (.ins nm []) = .ok .non (.ins nm xs)) (e3 : (D.me :: (ds ++ dd)).length = n) : eMake nm n F dd fs δ h = .ok (.ins nm xs) h1 := by
  unfold eMake
  rw [e1]
  show (if (D.me :: (ds ++ dd)).length = n then _ else _) = _
  rw [if_pos e3, e2]
  exact if_pos rfl
theorem eMake_exc {nm : Str} {n : Nat} {F : Fn} {dd : List D} {fs : EF (List D)} {δ : DE} {h h1 h2 : D} {ds : List D} {x : Str} {xs : List (Str × D)} (e1 : fs δ h = .ok ds h1) (e2 : F (.me :: (ds ++ dd)) (.ins nm []) = .exc x xs h2) (e3 : (D.me :: (ds ++ dd)).length = n) : eMake nm n F dd fs δ h = .exc x xs h1 := by
  unfold eMake
  rw [e1]
  show (if (D.me :: (ds ++ dd)).length = n then _ else _) = _
  rw [if_pos e3, e2]
theorem tab_side {p : Int} {r c : Nat} {A : List (List D)} (t : Tab p r c A) : sideB p r = true ∧ sideB p c = true := by
  have h1 := t.r1
  have h2 := t.r5
  have h3 := t.c1
  have h4 := t.c5
  unfold sideB
  by_cases h0 : p = 0
  · rw [decide_eq_true h0, decide_eq_true (show (1 : Int) ≤ r by omega), decide_eq_true (show (r : Int) ≤ 5 by omega), decide_eq_true (show (1 : Int) ≤ c by omega), decide_eq_true (show (c : Int) ≤ 5 by omega)]
    exact ⟨rfl, rfl⟩
  · obtain ⟨h5, h6⟩ := t.rp h0
    rw [decide_eq_true h5, decide_eq_true h6, decide_eq_true (show (1 : Int) ≤ r by omega), decide_eq_true (show (r : Int) ≤ 5 by omega), decide_eq_true (show (1 : Int) ≤ c by omega), decide_eq_true (show (c : Int) ≤ 5 by omega), Bool.or_true]
    exact ⟨rfl, rfl⟩
theorem pr_r {p : Int} {r c : Nat} {A B : List (List D)} {h : D} : atvD (some (some (pairI p r c A B))) "rows" h = .ok (.int r) h := (rfl)
theorem pr_c {p : Int} {r c : Nat} {A B : List (List D)} {h : D} : atvD (some (some (pairI p r c A B))) "columns" h = .ok (.int c) h := (rfl)
theorem pr_f {p : Int} {r c : Nat} {A B : List (List D)} {h : D} : atvD (some (some (pairI p r c A B))) "figures" h = .ok (fig p) h := (rfl)
theorem pr_1 {p : Int} {r c : Nat} {A B : List (List D)} {h : D} : atvD (some (some (pairI p r c A B))) "first" h = .ok (.tup (A.map D.tup)) h := (rfl)
theorem pr_2 {p : Int} {r c : Nat} {A B : List (List D)} {h : D} : atvD (some (some (pairI p r c A B))) "second" h = .ok (.tup (B.map D.tup)) h := (rfl)
theorem vm_int' {i : Int} {h : D} : vmD (some (some (.int i))) h = .ok (.int i) h := (rfl)
theorem slF_p {p : Int} {r c : Nat} {A B : List (List D)} {i : Int} : slF [some (pairI p r c A B), some (fig p), none, some (.int i), none] = true := (rfl)
end N71
set_option exponentiation.threshold 20000
namespace N71
open PySem PySem.Spec L2 Fw
theorem eLc2_b {vs vs1 : List Nat} {it it1 : EF (List D)} {bind bind1 : D → DE → Option DE} {test test1 : EF Bool} {elt : EF D} {δ : DE} {h : D} {ds ys : List D} (e1 : it δ h = .ok ds h) (e2 : lc2Go bind test (eInn (eLcL vs1 it1 bind1 test1 elt)) (wipeD δ vs) ds h = .ok ys h) (hl : ys.length ≤ 1000) : eFz (eLc2 vs vs1 it bind test it1 bind1 test1 elt) δ h = .ok (.lst ys) h := by
  unfold eFz eLc2
  rw [e1]
  simp only [bind_okE, e2, sz_n _ hl, if_true, sfz]
theorem E_plain (p : Int) (r c : Nat) (A B : List (List D)) (h : D) (hp : Pr p) (a : Tab p r c A) (b : Tab p r c B) : F_plain_program [pairI p r c A B] h = .ok (progI p r c (allC p r c A B)) h := by
  have r5 := a.r5
  have c5 := a.c5
  have el := lc2_map (bind := bNm 3) (test := tYesD) (inner := eInn (eLcL [4] (iRg rg1 (eCons (eAtV 0 "columns") eNil)) (bNm 4) (eOr (eT (eOp oNe (eOp oIx (eOp oIx (eAtV 0 "first") (eV 3)) (eV 4)) (eAtV 1 "zero"))) (eT (eOp oNe (eOp oIx (eOp oIx (eAtV 0 "second") (eV 3)) (eV 4)) (eAtV 1 "zero")))) (eTup (eCons (eCall 3 F_unit_row [] (eCons (eVm 1) (eCons (eAtV 0 "rows") (eCons (eVm 3) eNil)))) (eCons (eCall 3 F_unit_row [] (eCons (eVm 1) (eCons (eAtV 0 "columns") (eCons (eVm 4) eNil)))) (eCons (eOp oIx (eOp oIx (eAtV 0 "first") (eV 3)) (eV 4)) (eCons (eOp oIx (eOp oIx (eAtV 0 "second") (eV 3)) (eV 4)) eNil))))))) (δ := [some (pairI p r c A B), some (fig p), none, none, none]) (h := h) (rowJ p r c A B) (rgD 0 r) fun x hx => by
    obtain ⟨i, rfl, hi⟩ := rgD_mem hx
    refine ⟨_, rfl, rfl, ?_⟩
    have e2 := lc_filter (bind := bNm 4) (test := (eOr (eT (eOp oNe (eOp oIx (eOp oIx (eAtV 0 "first") (eV 3)) (eV 4)) (eAtV 1 "zero"))) (eT (eOp oNe (eOp oIx (eOp oIx (eAtV 0 "second") (eV 3)) (eV 4)) (eAtV 1 "zero"))))) (elt := (eTup (eCons (eCall 3 F_unit_row [] (eCons (eVm 1) (eCons (eAtV 0 "rows") (eCons (eVm 3) eNil)))) (eCons (eCall 3 F_unit_row [] (eCons (eVm 1) (eCons (eAtV 0 "columns") (eCons (eVm 4) eNil)))) (eCons (eOp oIx (eOp oIx (eAtV 0 "first") (eV 3)) (eV 4)) (eCons (eOp oIx (eOp oIx (eAtV 0 "second") (eV 3)) (eV 4)) eNil)))))) (δ := [some (pairI p r c A B), some (fig p), none, some (.int i), none]) (h := h) (nzD p A B i) (celD p r c A B i) (rgD 0 c) fun y hy => by
      obtain ⟨j, rfl, hj⟩ := rgD_mem hy
      obtain ⟨ra, a1, a2, na⟩ := get2_ok a hi hj D.tup
      obtain ⟨rb, b1, b2, nb⟩ := get2_ok b hi hj D.tup
      have za := eq_z na
      have zb := eq_z nb
      have u1 := E_unit_row p r i h hi (by omega)
      have u2 := E_unit_row p c j h hj (by omega)
      have nn : nzD p A B i (.int (j : Int)) = (!(isZ p (get2 A i j)) || !(isZ p (get2 B i j))) := rfl
      have cc : celD p r c A B i (.int (j : Int)) = .tup [.tup (unitL p r i), .tup (unitL p c j), get2 A i j, get2 B i j] := rfl
      refine ⟨_, rfl, ?_, fun _ => ?_⟩
      · rw [nn]
        cases qa : isZ p (get2 A i j) <;> cases qb : isZ p (get2 B i j) <;> rw [qa] at za <;> rw [qb] at zb <;> push_cast [pr_1, pr_2, fg_z, a1, a2, b1, b2, za, zb, Bool.or_true, Bool.or_false, Bool.true_or, Bool.false_or]
      · rw [cc]
        push_cast [pr_1, pr_2, pr_r, pr_c, vm_fig, List.append_nil, u1, u2, a1, a2, b1, b2, sz_n 4 (by omega)]
    have rj : rowJ p r c A B (.int (i : Int)) = ((rgD 0 c).filter (nzD p A B i)).map (celD p r c A B i) := rfl
    rw [rj]
    rw [eInn_a]
    show (if slF [some (pairI p r c A B), some (fig p), none, some (.int (i : Int)), none] then _ else _) = _
    rw [slF_p, if_pos rfl]
    push_cast [pr_c, rg1_n c (by omega), wipeD, rg_len, sz_n c (by omega), e2]
  rw [show ((rgD 0 r).map (rowJ p r c A B)).flatten = allC p r c A B from rfl] at el
  have al := all_len (p := p) (A := A) (B := B) r5 c5
  obtain ⟨s1, s2⟩ := tab_side a
  have ep := E_prog p r c (allC p r c A B) (.lst (allC p r c A B)) hp s1 s2 r5 c5 (.inl rfl) (by omega) (all_prd hp a b)
  have e2 := fun x => eLc2_b (vs := [3, 4]) (it := iRg rg1 (eCons (eAtV 0 "rows") eNil)) (δ := [some (pairI p r c A B), some (fig p), none, none, none]) (h := h) (ds := rgD 0 r) x el (by omega)
  have e3 := e2 (by push_cast [pr_r, rg1_n r (by omega)])
  unfold F_plain_program
  simp only [runF, sSeq_a, sSet_a, List.map, List.append, List.length_cons, List.length_nil, Nat.reduceAdd, Nat.reduceSub, List.replicate, List.cons_append, List.nil_append, eAtV_a, List.getElem?_cons_zero, pr_f, fl_okE, seq_nx, List.set_cons_succ, List.set_cons_zero, e3, sRet_a]
  rw [eMake_ok (n := 5) (ds := [fig p, .int r, .int c, .lst (allC p r c A B)]) (xs := [("figures", fig p), ("rows", .int r), ("columns", .int c), ("products", .tup (allC p r c A B))]) (h1 := h) ?_ ep rfl]
  · rfl
  · push_cast [vd_fig, pr_r, pr_c]
end N71
set_option exponentiation.threshold 20000
namespace N71
open PySem PySem.Spec L2 Fw
theorem E_zero {p : Int} {x h : D} (n : NuD p x) : F__law_zero [.int p, x] h = .ok (.bl (isZ p x)) h := by
  have e := eq_z n
  have m := E_num0' p h
  unfold F__law_zero
  push_cast [n.vd, n.vm, m, List.append_nil, e]
theorem unit_lc {p : Int} {n i : Nat} {elt : EF D} {δ : DE} {h : D} {v : Nat} (k1 : ∀ k : Nat, k < n → elt (δ.set v (some (.int (k : Int)))) h = .ok (if k = i then oneD p else zeroD p) h) (hi : i < n) : lcGo (bNm v) tYesD elt δ (rgD 0 n) h = .ok (unitL p n i) h := by
  have e := lc_map (bind := bNm v) (elt := elt) (δ := δ) (h := h) (fun x => match x with | .int k => if k.toNat = i then oneD p else zeroD p | _ => .non) (rgD 0 n) fun x hx => by
    obtain ⟨k, rfl, hk⟩ := rgD_mem hx
    exact ⟨_, rfl, k1 k hk⟩
  rw [e, unit_map hi]
  congr 1
  unfold rgD
  rw [List.map_map]
  refine List.map_congr_left fun k hk => ?_
  show (match D.int (0 + (k : Int)) with | .int k => if k.toNat = i then oneD p else zeroD p | _ => .non) = _
  rw [Int.zero_add]
  rfl
def tabD (A : List (List D)) : D := .lst (A.map D.lst)
theorem take_filter {f : D → Bool} {g : D → D} {ds : List D} {i : Nat} {x : D} (e : ds[i]? = some x) : ((ds.take (i + 1)).filter f).map g = ((ds.take i).filter f).map g ++ (if f x then [g x] else []) := by
  have hl := (List.getElem?_eq_some_iff.mp e).1
  have ex := (List.getElem?_eq_some_iff.mp e).2
  rw [List.take_succ_eq_append_getElem hl, ex, List.filter_append, List.map_append]
  cases hf : f x with
  | true => rw [List.filter_cons, hf]; rfl
  | false => rw [List.filter_cons, hf]; rfl
theorem take_flat {g : D → List D} {ds : List D} {i : Nat} {x : D} (e : ds[i]? = some x) : ((ds.take (i + 1)).map g).flatten = ((ds.take i).map g).flatten ++ g x := by
  have hl := (List.getElem?_eq_some_iff.mp e).1
  have ex := (List.getElem?_eq_some_iff.mp e).2
  rw [List.take_succ_eq_append_getElem hl, ex, List.map_append, List.flatten_append]
  simp
theorem rg_get {n i : Nat} {x : D} (e : (rgD 0 n)[i]? = some x) : i < n ∧ x = .int (i : Int) := by
  obtain ⟨h1, h2⟩ := rgD_at e
  exact ⟨h1, by rw [h2, Int.zero_add]⟩
theorem E_cells (p : Int) (r c : Nat) (A B : List (List D)) (h : D) (hp : Pr p) (a : Tab p r c A) (b : Tab p r c B) : F__law_cells [.int p, .lst [tabD A, tabD B]] h = .ok (.tup (allC p r c A B)) h := by
  have r1 := a.r1
  have r5 := a.r5
  have c5 := a.c5
  have key := for_all (bind := bNm 5) (body := (sFor (iRg rg1 (eCons (eV 3) eNil)) (bNm 6) (sIf (eOr (eNot (eTru (eCall 2 F__law_zero [] (eCons (eVm 0) (eCons (eOp oIx (eOp oIx (eOp oIx (eV 1) (eC (.int 0))) (eV 5)) (eV 6)) eNil))))) (eNot (eTru (eCall 2 F__law_zero [] (eCons (eVm 0) (eCons (eOp oIx (eOp oIx (eOp oIx (eV 1) (eC (.int 1))) (eV 5)) (eV 6)) eNil)))))) (sSeq (sSet 7 (eBi kTup (eCons (eFz (eLc [8] (iRg rg1 (eCons (eV 2) eNil)) (bNm 8) tYesD (eCall 2 F__law_num [] (eCons (eVm 0) (eCons (eBi kInt (eCons (eOp oEq (eV 8) (eV 5)) eNil)) eNil))))) eNil)))
    (sSeq (sSet 9 (eBi kTup (eCons (eFz (eLc [8] (iRg rg1 (eCons (eV 3) eNil)) (bNm 8) tYesD (eCall 2 F__law_num [] (eCons (eVm 0) (eCons (eBi kInt (eCons (eOp oEq (eV 8) (eV 6)) eNil)) eNil))))) eNil)))
    (sApp (pV 4) (eTup (eCons (eV 7) (eCons (eV 9) (eCons (eOp oIx (eOp oIx (eOp oIx (eV 1) (eC (.int 0))) (eV 5)) (eV 6)) (eCons (eOp oIx (eOp oIx (eOp oIx (eV 1) (eC (.int 1))) (eV 5)) (eV 6)) eNil)))))))) sNil))) (fun i δ h' => h' = h ∧ ∃ x5 x6 x7 x8 x9, δ = [some (.int p), some (.lst [tabD A, tabD B]), some (.int r), some (.int c), some (.hl (((rgD 0 r).take i).map (rowJ p r c A B)).flatten), x5, x6, x7, x8, x9]) (rgD 0 r) [some (.int p), some (.lst [tabD A, tabD B]), some (.int r), some (.int c), some (.hl []), none, none, none, none, none] h ⟨rfl, _, _, _, _, _, rfl⟩ fun i x δ hh hx ⟨e1, x5, x6, x7, x8, x9, e2⟩ => by
    subst e1 e2
    obtain ⟨hi, rfl⟩ := rg_get hx
    refine ⟨_, rfl, ?_⟩
    have inner := for_all (bind := bNm 6) (body := (sIf (eOr (eNot (eTru (eCall 2 F__law_zero [] (eCons (eVm 0) (eCons (eOp oIx (eOp oIx (eOp oIx (eV 1) (eC (.int 0))) (eV 5)) (eV 6)) eNil))))) (eNot (eTru (eCall 2 F__law_zero [] (eCons (eVm 0) (eCons (eOp oIx (eOp oIx (eOp oIx (eV 1) (eC (.int 1))) (eV 5)) (eV 6)) eNil)))))) (sSeq (sSet 7 (eBi kTup (eCons (eFz (eLc [8] (iRg rg1 (eCons (eV 2) eNil)) (bNm 8) tYesD (eCall 2 F__law_num [] (eCons (eVm 0) (eCons (eBi kInt (eCons (eOp oEq (eV 8) (eV 5)) eNil)) eNil))))) eNil)))
    (sSeq (sSet 9 (eBi kTup (eCons (eFz (eLc [8] (iRg rg1 (eCons (eV 3) eNil)) (bNm 8) tYesD (eCall 2 F__law_num [] (eCons (eVm 0) (eCons (eBi kInt (eCons (eOp oEq (eV 8) (eV 6)) eNil)) eNil))))) eNil)))
    (sApp (pV 4) (eTup (eCons (eV 7) (eCons (eV 9) (eCons (eOp oIx (eOp oIx (eOp oIx (eV 1) (eC (.int 0))) (eV 5)) (eV 6)) (eCons (eOp oIx (eOp oIx (eOp oIx (eV 1) (eC (.int 1))) (eV 5)) (eV 6)) eNil)))))))) sNil)) (fun j δ h' => h' = hh ∧ ∃ x6 x7 x8 x9, δ = [some (.int p), some (.lst [tabD A, tabD B]), some (.int r), some (.int c), some (.hl ((((rgD 0 r).take i).map (rowJ p r c A B)).flatten ++ (((rgD 0 c).take j).filter (nzD p A B i)).map (celD p r c A B i))), some (.int (i : Int)), x6, x7, x8, x9]) (rgD 0 c) [some (.int p), some (.lst [tabD A, tabD B]), some (.int r), some (.int c), some (.hl (((rgD 0 r).take i).map (rowJ p r c A B)).flatten), some (.int (i : Int)), x6, x7, x8, x9] hh ⟨rfl, x6, x7, x8, x9, by rw [List.take_zero]; simp⟩ fun j y δ hk hy ⟨f1, y6, y7, y8, y9, f2⟩ => by
      subst f1 f2
      obtain ⟨hj, rfl⟩ := rg_get hy
      refine ⟨_, rfl, ?_⟩
      obtain ⟨ra, a1, a2, na⟩ := get2_ok a hi hj D.lst
      obtain ⟨rb, b1, b2, nb⟩ := get2_ok b hi hj D.lst
      have za := E_zero (h := hk) na
      have zb := E_zero (h := hk) nb
      have bnd : ((((rgD 0 r).take i).map (rowJ p r c A B)).flatten ++ (((rgD 0 c).take j).filter (nzD p A B i)).map (celD p r c A B i)).length ≤ 1000 := by
        rw [List.length_append, List.length_map]
        have q1 := flat_len (row_len (p := p) (r := r) (c := c) (A := A) (B := B) c5) ((rgD 0 r).take i)
        have q2 := List.length_filter_le (nzD p A B i) ((rgD 0 c).take j)
        rw [List.length_take] at q1 q2
        omega
      have tk := take_filter (f := nzD p A B i) (g := celD p r c A B i) hy
      have nn : nzD p A B i (.int (j : Int)) = (!(isZ p (get2 A i j)) || !(isZ p (get2 B i j))) := rfl
      cases qn : nzD p A B i (.int (j : Int)) with
      | false =>
        rw [qn] at tk nn
        have qa : isZ p (get2 A i j) = true := by cases qa : isZ p (get2 A i j) <;> first | rfl | (rw [qa] at nn; cases nn)
        have qb : isZ p (get2 B i j) = true := by rw [qa] at nn; cases qb : isZ p (get2 B i j) <;> first | rfl | (rw [qb] at nn; cases nn)
        rw [qa] at za
        rw [qb] at zb
        refine ⟨_, hk, ?_, rfl, some (.int (j : Int)), y7, y8, y9, rfl⟩
        rw [tk]
        unfold tabD
        push_cast [at0, at1, a1, a2, b1, b2, List.append_nil, za, zb]
      | true =>
        rw [qn] at tk
        refine ⟨_, hk, ?_, rfl, some (.int (j : Int)), some (.tup (unitL p r i)), y8, some (.tup (unitL p c j)), rfl⟩
        rw [tk]
        have kI : ∀ b : Bool, kInt [.bl b] = some (.int (if b then 1 else 0)) := fun b => rfl
        have lu := unit_lc (p := p) (n := r) (i := i) (v := 8) (h := hk) (elt := (eCall 2 F__law_num [] (eCons (eVm 0) (eCons (eBi kInt (eCons (eOp oEq (eV 8) (eV 5)) eNil)) eNil)))) (δ := [some (.int p), some (.lst [tabD A, tabD B]), some (.int r), some (.int c), some (.hl ((((rgD 0 r).take i).map (rowJ p r c A B)).flatten ++ (((rgD 0 c).take j).filter (nzD p A B i)).map (celD p r c A B i))), some (.int (i : Int)), some (.int (j : Int)), y7, none, y9]) (fun k hk2 => by
          by_cases hki : k = i
          · subst hki
            have n1 := E_num1' p hk hp
            push_cast [kI, n1, List.append_nil]
          · have n0 := E_num0' p hk
            have ne : ¬ (k : Int) = (i : Int) := by omega
            push_cast [ne, kI, n0, List.append_nil, hki]) hi
        have lv := unit_lc (p := p) (n := c) (i := j) (v := 8) (h := hk) (elt := (eCall 2 F__law_num [] (eCons (eVm 0) (eCons (eBi kInt (eCons (eOp oEq (eV 8) (eV 6)) eNil)) eNil)))) (δ := [some (.int p), some (.lst [tabD A, tabD B]), some (.int r), some (.int c), some (.hl ((((rgD 0 r).take i).map (rowJ p r c A B)).flatten ++ (((rgD 0 c).take j).filter (nzD p A B i)).map (celD p r c A B i))), some (.int (i : Int)), some (.int (j : Int)), some (.tup (unitL p r i)), none, y9]) (fun k hk2 => by
          by_cases hki : k = j
          · subst hki
            have n1 := E_num1' p hk hp
            push_cast [kI, n1, List.append_nil]
          · have n0 := E_num0' p hk
            have ne : ¬ (k : Int) = (j : Int) := by omega
            push_cast [ne, kI, n0, List.append_nil, hki]) hj
        have tt : (!(isZ p (get2 A i j))) = true ∨ (isZ p (get2 A i j) = true ∧ (!(isZ p (get2 B i j))) = true) := by
          rw [qn] at nn
          cases qa : isZ p (get2 A i j) with
          | false => exact .inl rfl
          | true => rw [qa] at nn; exact .inr ⟨rfl, nn.symm⟩
        have cd : celD p r c A B i (.int (j : Int)) = .tup [.tup (unitL p r i), .tup (unitL p c j), get2 A i j, get2 B i j] := rfl
        have sb := sz_n _ bnd
        unfold tabD at lu lv ⊢
        rcases tt with q1 | ⟨q1, q2⟩
        · have q1' : isZ p (get2 A i j) = false := by simpa using q1
          rw [q1'] at za
          push_cast [at0, at1, a1, a2, b1, b2, List.append_nil, za, rg1_n r (by omega), rg1_n c (by omega), wipeD, rg_len, sz_n r (by omega), sz_n c (by omega), lu, lv, sfz, Fw.kTup, plD, getP, plS, setP, D.nm, sb, sz_n 4 (by omega), cd, List.append_assoc]
        · have q2' : isZ p (get2 B i j) = false := by simpa using q2
          rw [q1] at za
          rw [q2'] at zb
          push_cast [at0, at1, a1, a2, b1, b2, List.append_nil, za, zb, rg1_n r (by omega), rg1_n c (by omega), wipeD, rg_len, sz_n r (by omega), sz_n c (by omega), lu, lv, sfz, Fw.kTup, plD, getP, plS, setP, D.nm, sb, sz_n 4 (by omega), cd, List.append_assoc]
    obtain ⟨δ', h', e, rfl, z6, z7, z8, z9, rfl⟩ := inner
    rw [rg_len, show (rgD 0 c).take c = rgD 0 c from List.take_of_length_le (by rw [rg_len]; exact Nat.le_refl _)] at e
    refine ⟨_, h', ?_, rfl, some (.int (i : Int)), z6, z7, z8, z9, rfl⟩
    rw [take_flat hx]
    push_cast [rg1_n c (by omega)]
    exact e
  obtain ⟨δ', h', e, rfl, z5, z6, z7, z8, z9, rfl⟩ := key
  rw [rg_len, show (rgD 0 r).take r = rgD 0 r from List.take_of_length_le (by rw [rg_len]; exact Nat.le_refl _)] at e
  have al := all_len (p := p) (A := A) (B := B) r5 c5
  have fz : frzL (allC p r c A B) = allC p r c A B := frzL_id _ fun d hd => by
    obtain ⟨u, v, x, y, rfl, _⟩ := all_prd hp a b d hd
    rfl
  obtain ⟨x, hx, lx⟩ : ∃ x, atI (A.map D.lst) 0 = some (.lst x) ∧ x.length = c := by
    have hl : 0 < A.length := by have := a.l; omega
    exact ⟨A[0], atI_n (i := 0) (by rw [List.getElem?_map, List.getElem?_eq_getElem hl]; rfl), (a.row _ (List.getElem_mem hl)).1⟩
  unfold tabD at e ⊢
  unfold F__law_cells
  push_cast [at0, List.length_map, a.l, hx, lx, sz_n 0 (by omega), rg1_n r (by omega), e, frz, Fw.kTup]
  rw [show ((rgD 0 r).map (rowJ p r c A B)).flatten = allC p r c A B from rfl, fz]
end N71
set_option exponentiation.threshold 20000
namespace N71
open PySem PySem.Spec L2 Fw
def rowH (T : Nat → Nat → D) (c i : Nat) : D := .hl ((List.range c).map (T i))
def tabH (T : Nat → Nat → D) (r c : Nat) : D := .hl ((List.range r).map (rowH T c))
def updT (T : Nat → Nat → D) (i j : Nat) (x : D) : Nat → Nat → D := fun i' j' => if i' = i ∧ j' = j then x else T i' j'
theorem map_set' {α : Type} (f : Nat → α) (n i : Nat) (x : α) : ((List.range n).map f).set i x = (List.range n).map fun k => if k = i then x else f k := by
  refine List.ext_getElem? fun k => ?_
  by_cases hk : k < n
  · by_cases e : i = k
    · subst e
      rw [List.getElem?_set_self (by rw [List.length_map, List.length_range]; exact hk), List.getElem?_map, List.getElem?_range hk]
      simp
    · rw [List.getElem?_set_ne e, List.getElem?_map, List.getElem?_map, List.getElem?_range hk]
      have e2 : ¬ k = i := fun z => e z.symm
      simp [e2]
  · rw [List.getElem?_eq_none (by rw [List.length_set, List.length_map, List.length_range]; omega), List.getElem?_eq_none (by rw [List.length_map, List.length_range]; omega)]
theorem tab_upd (T : Nat → Nat → D) (r c i j : Nat) (x : D) (hi : i < r) : (D.hl (((List.range r).map (rowH T c)).set i (.hl (((List.range c).map (T i)).set j x)))) = tabH (updT T i j x) r c := by
  unfold tabH
  rw [map_set', map_set']
  congr 1
  refine List.map_congr_left fun k hk => ?_
  unfold rowH updT
  by_cases e : k = i
  · subst e
    rw [if_pos rfl]
    congr 1
    refine List.map_congr_left fun l hl => ?_
    by_cases e2 : l = j
    · rw [if_pos e2, if_pos ⟨rfl, e2⟩]
    · rw [if_neg e2, if_neg fun z => e2 z.2]
  · rw [if_neg e]
    congr 1
    refine List.map_congr_left fun l hl => ?_
    rw [if_neg fun z => e z.1]
theorem ixN_n {n i : Nat} (h : i < n) : ixN n (i : Int) = some i := by
  unfold ixN
  rw [if_pos (Int.natCast_nonneg i), if_pos (by omega), Int.toNat_natCast]
theorem row_at {T : Nat → Nat → D} {c j : Nat} (i : Nat) (hj : j < c) : ((List.range c).map (T i))[j]? = some (T i j) := by
  rw [List.getElem?_map, List.getElem?_range hj]; rfl
theorem tab_at {T : Nat → Nat → D} {r c i : Nat} (hi : i < r) : ((List.range r).map (rowH T c))[i]? = some (rowH T c i) := by
  rw [List.getElem?_map, List.getElem?_range hi]; rfl
/-- the place of row i in slot s -/
theorem pl_row {T : Nat → Nat → D} {r c i s : Nat} {δ : DE} {h : D} {f : EF D} (hs : δ[s]? = some (some (tabH T r c))) (hf : f δ h = .ok (.int (i : Int)) h) (hi : i < r) : pIx (pV s) f δ h = .ok (s, [i]) h := by
  unfold pIx pV
  rw [hs]
  show (Ex.ok (s, []) h).bind _ = _
  rw [bind_okE, hf, bind_okE]
  unfold plD
  rw [hs]
  show Ex.of ((ixN ((List.range r).map (rowH T c)).length (i : Int)).map fun j => (s, [] ++ [j])) h = _
  rw [List.length_map, List.length_range, ixN_n hi]
  rfl
theorem rd_cell {T : Nat → Nat → D} {r c i j s : Nat} {δ : DE} {h : D} {f g : EF D} (hs : δ[s]? = some (some (tabH T r c))) (hf : f δ h = .ok (.int (i : Int)) h) (hg : g δ h = .ok (.int (j : Int)) h) (hi : i < r) (hj : j < c) (hT : (T i j).fr = true) : ePl (pIx (pIx (pV s) f) g) δ h = .ok (T i j) h := by
  have e1 := pl_row hs hf hi
  have e2 : pIx (pIx (pV s) f) g δ h = .ok (s, [i, j]) h := by
    rw [pIx_a, e1, bind_okE, hg, bind_okE]
    unfold plD
    rw [hs]
    show Ex.of (match getP (tabH T r c) [i], D.int (j : Int) with | some (.hl ds), .int k => (ixN ds.length k).map fun l => (s, [i] ++ [l]) | _, _ => none) h = _
    unfold tabH getP
    rw [tab_at hi]
    show Ex.of ((ixN ((List.range c).map (T i)).length (j : Int)).map fun l => (s, [i] ++ [l])) h = _
    rw [List.length_map, List.length_range, ixN_n hj]
    rfl
  rw [ePl_a, e2, bind_okE]
  unfold plD
  rw [hs]
  show Ex.of (match getP (tabH T r c) [i, j] with | some d => if d.fr = true then some d else none | none => none) h = _
  unfold tabH getP
  rw [tab_at hi]
  show Ex.of (match getP (rowH T c i) [j] with | some d => if d.fr = true then some d else none | none => none) h = _
  unfold rowH getP
  rw [row_at i hj]
  show Ex.of (if (T i j).fr = true then some (T i j) else none) h = _
  rw [if_pos hT]
  rfl
theorem st_cell {T : Nat → Nat → D} {r c i j s : Nat} {δ : DE} {h x : D} {f g e : EF D} (hs : δ[s]? = some (some (tabH T r c))) (hf : f δ h = .ok (.int (i : Int)) h) (hg : g δ h = .ok (.int (j : Int)) h) (he : e δ h = .ok x h) (hi : i < r) (hj : j < c) : sSt (pIx (pV s) f) g e δ h = .nx (δ.set s (some (tabH (updT T i j x) r c))) h := by
  have e1 := pl_row hs hf hi
  rw [sSt_a, he, fl_okE, e1, fl_okE, hg, fl_okE]
  have p1 : plD δ (s, [i]) = some (rowH T c i) := by
    unfold plD
    rw [hs]
    show getP (tabH T r c) [i] = _
    unfold tabH getP
    rw [tab_at hi]
    rfl
  rw [p1]
  show (match ixN ((List.range c).map (T i)).length (j : Int) with | some k => Fl.nx (plS δ (s, [i]) (.hl (((List.range c).map (T i)).set k x))) h | none => .bad) = _
  rw [List.length_map, List.length_range, ixN_n hj]
  show Fl.nx (plS δ (s, [i]) (.hl (((List.range c).map (T i)).set j x))) h = _
  unfold plS
  rw [hs]
  show Fl.nx (δ.set s (some (setP (tabH T r c) [i] (.hl (((List.range c).map (T i)).set j x))))) h = _
  unfold tabH setP
  rw [tab_at hi]
  show Fl.nx (δ.set s (some (D.hl (((List.range r).map (rowH T c)).set i (setP (rowH T c i) [] (.hl (((List.range c).map (T i)).set j x))))))) h = _
  unfold setP
  rw [tab_upd T r c i j x hi]
  rfl
end N71
set_option exponentiation.threshold 20000
namespace N71
open PySem PySem.Spec L2 Fw
theorem tab_congr {T U : Nat → Nat → D} {r c : Nat} (e : ∀ i j, i < r → j < c → T i j = U i j) : tabH T r c = tabH U r c := by
  unfold tabH
  congr 1
  refine List.map_congr_left fun i hi => ?_
  unfold rowH
  congr 1
  exact List.map_congr_left fun j hj => e i j (List.mem_range.mp hi) (List.mem_range.mp hj)
/-- up to the place (i, j), U; from there T -/
def mixT (T U : Nat → Nat → D) (i j : Nat) : Nat → Nat → D := fun i' j' => if i' < i ∨ (i' = i ∧ j' < j) then U i' j' else T i' j'
theorem mix_upd (T U : Nat → Nat → D) (i j : Nat) : updT (mixT T U i j) i j (U i j) = mixT T U i (j + 1) := by
  funext i' j'
  unfold updT mixT
  by_cases e : i' = i ∧ j' = j
  · obtain ⟨rfl, rfl⟩ := e
    rw [if_pos ⟨rfl, rfl⟩, if_pos (.inr ⟨rfl, by omega⟩)]
  · rw [if_neg e]
    by_cases e2 : i' < i ∨ (i' = i ∧ j' < j)
    · rw [if_pos e2, if_pos (by omega)]
    · rw [if_neg e2, if_neg (by omega)]
theorem mix_next (T U : Nat → Nat → D) (i r c : Nat) : tabH (mixT T U i c) r c = tabH (mixT T U (i + 1) 0) r c := tab_congr fun i' j' hi hj => by
  unfold mixT
  by_cases e : i' < i ∨ (i' = i ∧ j' < c)
  · rw [if_pos e, if_pos (by omega)]
  · rw [if_neg e, if_neg (by omega)]
theorem mix_0 (T U : Nat → Nat → D) : mixT T U 0 0 = T := by
  funext i j
  unfold mixT
  rw [if_neg (by omega)]
theorem mix_all (T U : Nat → Nat → D) (r c : Nat) : tabH (mixT T U r 0) r c = tabH U r c := tab_congr fun i' j' hi hj => by
  unfold mixT
  rw [if_pos (.inl hi)]
theorem unit_atI {p : Int} {n i k : Nat} (h : i < n) (hk : k < n) : atI (unitL p n i) (k : Int) = some (if k = i then oneD p else zeroD p) := atI_n (unit_at h hk)
theorem NuD.fr' {p : Int} {x : D} (n : NuD p x) : x.fr = true := by rcases n with ⟨_, t, b, rfl, _⟩ | ⟨_, i, rfl, _⟩ <;> rfl
/-- one product added -/
theorem sum_step (p : Int) (r c a b : Nat) (T : Nat → Nat → D) (ps x y w : D) (at' : Int) (h : D) (x7 x8 x9 : Option D) (hp : Pr p) (hr : r ≤ 5) (hc : c ≤ 5) (ha : a < r) (hb : b < c) (hw : NuD p w) (hat : atI [.tup (unitL p r a), .tup (unitL p c b), x, y] at' = some w) (hT : ∀ i j, NuD p (T i j)) (h0 : T a b = zeroD p) :
    ∃ y7 y8 y9, forGo (bNm 7) (sSeq (sSet 8 (eCall 3 F__law_times [] (eCons (eVm 0) (eCons (eOp oIx (eV 6) (eV 4)) (eCons (eOp oIx (eOp oIx (eV 6) (eC (.int 0))) (eV 7)) eNil)))))
    (sFor (iRg rg1 (eCons (eV 2) eNil)) (bNm 9) (sSt (pIx (pV 5) (eV 7)) (eV 9) (eCall 3 F__law_plus [] (eCons (eVm 0) (eCons (ePl (pIx (pIx (pV 5) (eV 7)) (eV 9))) (eCons (eCall 3 F__law_times [] (eCons (eVm 0) (eCons (eVm 8) (eCons (eOp oIx (eOp oIx (eV 6) (eC (.int 1))) (eV 9)) eNil)))) eNil))))))) (rgD 0 r) [some (.int p), some (.int r), some (.int c), some ps, some (.int at'), some (tabH T r c), some (.tup [.tup (unitL p r a), .tup (unitL p c b), x, y]), x7, x8, x9] h = .nx [some (.int p), some (.int r), some (.int c), some ps, some (.int at'), some (tabH (updT T a b w) r c), some (.tup [.tup (unitL p r a), .tup (unitL p c b), x, y]), y7, y8, y9] h := by
  have key := for_all (bind := bNm 7) (body := (sSeq (sSet 8 (eCall 3 F__law_times [] (eCons (eVm 0) (eCons (eOp oIx (eV 6) (eV 4)) (eCons (eOp oIx (eOp oIx (eV 6) (eC (.int 0))) (eV 7)) eNil)))))
    (sFor (iRg rg1 (eCons (eV 2) eNil)) (bNm 9) (sSt (pIx (pV 5) (eV 7)) (eV 9) (eCall 3 F__law_plus [] (eCons (eVm 0) (eCons (ePl (pIx (pIx (pV 5) (eV 7)) (eV 9))) (eCons (eCall 3 F__law_times [] (eCons (eVm 0) (eCons (eVm 8) (eCons (eOp oIx (eOp oIx (eV 6) (eC (.int 1))) (eV 9)) eNil)))) eNil)))))))) (fun i δ h' => h' = h ∧ ∃ y7 y8 y9, δ = [some (.int p), some (.int r), some (.int c), some ps, some (.int at'), some (tabH (mixT T (updT T a b w) i 0) r c), some (.tup [.tup (unitL p r a), .tup (unitL p c b), x, y]), y7, y8, y9]) (rgD 0 r) [some (.int p), some (.int r), some (.int c), some ps, some (.int at'), some (tabH T r c), some (.tup [.tup (unitL p r a), .tup (unitL p c b), x, y]), x7, x8, x9] h ⟨rfl, x7, x8, x9, by rw [mix_0]⟩ fun i z δ hh hx ⟨e1, y7, y8, y9, e2⟩ => by
    subst e1 e2
    obtain ⟨hi, rfl⟩ := rg_get hx
    refine ⟨_, rfl, ?_⟩
    have ui := unit_atI (p := p) ha hi
    have share : ∃ s, F__law_times [.int p, w, if i = a then oneD p else zeroD p] hh = .ok s hh ∧ s = (if i = a then w else zeroD p) := by
      by_cases e : i = a
      · rw [if_pos e, if_pos e]; exact ⟨w, times_one hp hw, rfl⟩
      · rw [if_neg e, if_neg e]; exact ⟨zeroD p, times_zero hp hw, rfl⟩
    obtain ⟨s, es, hs⟩ := share
    have ns : NuD p s := by
      rw [hs]
      by_cases e : i = a
      · rw [if_pos e]; exact hw
      · rw [if_neg e]; exact nu_zero hp
    have nu : NuD p (if i = a then oneD p else zeroD p) := by
      by_cases e : i = a
      · rw [if_pos e]; exact nu_one hp
      · rw [if_neg e]; exact nu_zero hp
    have inner := for_all (bind := bNm 9) (body := (sSt (pIx (pV 5) (eV 7)) (eV 9) (eCall 3 F__law_plus [] (eCons (eVm 0) (eCons (ePl (pIx (pIx (pV 5) (eV 7)) (eV 9))) (eCons (eCall 3 F__law_times [] (eCons (eVm 0) (eCons (eVm 8) (eCons (eOp oIx (eOp oIx (eV 6) (eC (.int 1))) (eV 9)) eNil)))) eNil)))))) (fun j δ h' => h' = hh ∧ ∃ y9, δ = [some (.int p), some (.int r), some (.int c), some ps, some (.int at'), some (tabH (mixT T (updT T a b w) i j) r c), some (.tup [.tup (unitL p r a), .tup (unitL p c b), x, y]), some (.int (i : Int)), some s, y9]) (rgD 0 c) [some (.int p), some (.int r), some (.int c), some ps, some (.int at'), some (tabH (mixT T (updT T a b w) i 0) r c), some (.tup [.tup (unitL p r a), .tup (unitL p c b), x, y]), some (.int (i : Int)), some s, y9] hh ⟨rfl, y9, rfl⟩ fun j z δ hk hy ⟨f1, z9, f2⟩ => by
      subst f1 f2
      obtain ⟨hj, rfl⟩ := rg_get hy
      refine ⟨_, rfl, _, _, ?_, rfl, some (.int (j : Int)), rfl⟩
      have vj := unit_atI (p := p) hb hj
      have mT : mixT T (updT T a b w) i j i j = T i j := by unfold mixT; rw [if_neg (by omega)]
      have nT := hT i j
      have cell := rd_cell (T := mixT T (updT T a b w) i j) (r := r) (c := c) (i := i) (j := j) (s := 5) (δ := [some (.int p), some (.int r), some (.int c), some ps, some (.int at'), some (tabH (mixT T (updT T a b w) i j) r c), some (.tup [.tup (unitL p r a), .tup (unitL p c b), x, y]), some (.int (i : Int)), some s, some (.int (j : Int))]) (h := hk) (f := eV 7) (g := eV 9) rfl rfl rfl hi hj (by rw [mT]; exact nT.fr')
      rw [mT] at cell
      have tv : ∃ q, F__law_times [.int p, s, if j = b then oneD p else zeroD p] hk = .ok q hk ∧ q = (if j = b then s else zeroD p) ∧ NuD p q := by
        by_cases e : j = b
        · rw [if_pos e, if_pos e]; exact ⟨s, times_one hp ns, rfl, ns⟩
        · rw [if_neg e, if_neg e]; exact ⟨zeroD p, times_zero hp ns, rfl, nu_zero hp⟩
      obtain ⟨q, eq, hq, nq⟩ := tv
      have nv : NuD p (if j = b then oneD p else zeroD p) := by
        by_cases e : j = b
        · rw [if_pos e]; exact nu_one hp
        · rw [if_neg e]; exact nu_zero hp
      have pl : F__law_plus [.int p, T i j, q] hk = .ok (updT T a b w i j) hk := by
        unfold updT
        by_cases e : i = a ∧ j = b
        · obtain ⟨rfl, rfl⟩ := e
          rw [if_pos ⟨rfl, rfl⟩, h0, hq, if_pos rfl, hs, if_pos rfl]
          exact plus_l hp hw
        · have qz : q = zeroD p := by
            rw [hq]
            by_cases e2 : j = b
            · rw [if_pos e2, hs, if_neg fun z => e ⟨z, e2⟩]
            · rw [if_neg e2]
          rw [if_neg e, qz]
          exact plus_r hp nT
      rw [← mix_upd]
      refine st_cell (T := mixT T (updT T a b w) i j) (r := r) (c := c) (i := i) (j := j) (s := 5) rfl rfl rfl ?_ hi hj
      simp only [List.set_cons_succ, List.set_cons_zero]
      simp only [eCall_a, eCons_a, eVm_a, List.getElem?_cons_zero, vmD_int, bind_okE, cell]
      push_cast [ns.vm, at1, vj, eq, List.append_nil, pl]
    obtain ⟨δ', h', e, rfl, z9, rfl⟩ := inner
    rw [rg_len, mix_next] at e
    refine ⟨_, h', ?_, rfl, some (.int (i : Int)), some s, z9, rfl⟩
    push_cast [hat, at0, ui, es, List.append_nil, rg1_n c (by omega)]
    exact e
  obtain ⟨δ', h', e, rfl, z7, z8, z9, rfl⟩ := key
  rw [rg_len, mix_all] at e
  exact ⟨z7, z8, z9, e⟩
end N71
set_option exponentiation.threshold 20000
namespace N71
open PySem PySem.Spec L2 Fw
def pairsC (p : Int) (r c : Nat) (A B : List (List D)) : List (Nat × Nat) := ((List.range r).map fun i => ((List.range c).filter (nzB p A B i)).map fun j => (i, j)).flatten
theorem all_pairs (p : Int) (r c : Nat) (A B : List (List D)) : allC p r c A B = (pairsC p r c A B).map fun q => cellD p r c A B q.1 q.2 := by
  unfold allC pairsC
  rw [List.map_flatten, List.map_map]
  congr 1
  unfold rgD
  rw [List.map_map]
  refine List.map_congr_left fun i hi => ?_
  show rowJ p r c A B (.int (0 + (i : Int))) = (((List.range c).filter (nzB p A B i)).map fun j => (i, j)).map fun q => cellD p r c A B q.1 q.2
  rw [Int.zero_add, List.map_map]
  show ((rgD 0 c).filter (nzD p A B i)).map (celD p r c A B i) = _
  unfold rgD
  rw [List.filter_map, List.map_map]
  have e1 : (nzD p A B i ∘ fun (k : Nat) => D.int (0 + (k : Int))) = nzB p A B i := by
    funext k
    show nzD p A B i (.int (0 + (k : Int))) = _
    rw [Int.zero_add]
    rfl
  rw [e1]
  refine List.map_congr_left fun j hj => ?_
  show celD p r c A B i (.int (0 + (j : Int))) = _
  rw [Int.zero_add]
  rfl
theorem pairs_mem {p : Int} {r c : Nat} {A B : List (List D)} {q : Nat × Nat} : q ∈ pairsC p r c A B ↔ q.1 < r ∧ q.2 < c ∧ nzB p A B q.1 q.2 = true := by
  unfold pairsC
  rw [List.mem_flatten]
  constructor
  · rintro ⟨l, hl, hq⟩
    obtain ⟨i, hi, rfl⟩ := List.mem_map.mp hl
    obtain ⟨j, hj, rfl⟩ := List.mem_map.mp hq
    obtain ⟨h1, h2⟩ := List.mem_filter.mp hj
    exact ⟨List.mem_range.mp hi, List.mem_range.mp h1, h2⟩
  · rintro ⟨h1, h2, h3⟩
    exact ⟨_, List.mem_map.mpr ⟨q.1, List.mem_range.mpr h1, rfl⟩, List.mem_map.mpr ⟨q.2, List.mem_filter.mpr ⟨List.mem_range.mpr h2, h3⟩, rfl⟩⟩
theorem pairs_nodup (p : Int) (r c : Nat) (A B : List (List D)) : (pairsC p r c A B).Nodup := by
  unfold pairsC
  unfold List.Nodup
  rw [List.pairwise_flatten]
  refine ⟨fun l hl => ?_, ?_⟩
  · obtain ⟨i, hi, rfl⟩ := List.mem_map.mp hl
    rw [List.pairwise_map]
    refine List.Pairwise.imp ?_ ((List.nodup_range (n := c)).filter _)
    intro x y h e
    exact h (Prod.mk.inj e).2
  · rw [List.pairwise_map]
    refine List.Pairwise.imp ?_ (List.nodup_range (n := r))
    intro i k hik x hx y hy e
    obtain ⟨_, _, rfl⟩ := List.mem_map.mp hx
    obtain ⟨_, _, rfl⟩ := List.mem_map.mp hy
    exact hik (Prod.mk.inj e).1
open Classical in
noncomputable def wT (p : Int) (X : List (List D)) (l : List (Nat × Nat)) : Nat → Nat → D := fun i j => if (i, j) ∈ l then get2 X i j else zeroD p
theorem wT_upd (p : Int) (X : List (List D)) (l : List (Nat × Nat)) (a b : Nat) : updT (wT p X l) a b (get2 X a b) = wT p X (l ++ [(a, b)]) := by
  funext i j
  unfold updT wT
  by_cases e : i = a ∧ j = b
  · obtain ⟨rfl, rfl⟩ := e
    rw [if_pos ⟨rfl, rfl⟩, if_pos (by simp)]
  · rw [if_neg e]
    by_cases m : (i, j) ∈ l
    · rw [if_pos m, if_pos (List.mem_append_left _ m)]
    · rw [if_neg m, if_neg]
      intro z
      rcases List.mem_append.mp z with z | z
      · exact m z
      · have := List.mem_singleton.mp z
        exact e ⟨(Prod.mk.inj this).1, (Prod.mk.inj this).2⟩
theorem isZ_eq {p : Int} {x : D} (n : NuD p x) (h : isZ p x = true) : x = zeroD p := by
  have e := eq_z n
  rw [h] at e
  obtain ⟨u, v, e1, e2, _, _, e3⟩ := eqD_get e
  rcases n with ⟨rfl, t, b, rfl, l, _⟩ | ⟨h0, i, rfl, _⟩
  · have z0 : zeroD 0 = rat 0 1 := if_pos rfl
    rw [z0] at e ⊢
    have q : eqD (rat t b) (rat 0 1) = some (decide (t = 0) && (decide (b = 1) && true)) := rfl
    rw [q] at e
    have e4 := Option.some.inj e
    rw [Bool.and_eq_true, Bool.and_eq_true, decide_eq_true_eq, decide_eq_true_eq] at e4
    rw [e4.1, e4.2.1]
  · unfold zeroD at e ⊢
    rw [if_neg h0] at e ⊢
    rw [eq_int] at e
    rw [of_decide_eq_true (Option.some.inj e)]
theorem wT_nu {p : Int} {r c : Nat} {X : List (List D)} (hp : Pr p) (t : Tab p r c X) {l : List (Nat × Nat)} (hl : ∀ q ∈ l, q.1 < r ∧ q.2 < c) (i j : Nat) : NuD p (wT p X l i j) := by
  unfold wT
  by_cases m : (i, j) ∈ l
  · rw [if_pos m]
    obtain ⟨h1, h2⟩ := hl _ m
    obtain ⟨_, _, _, n⟩ := get2_ok t h1 h2 D.lst
    exact n
  · rw [if_neg m]
    exact nu_zero hp
theorem E_blank (p : Int) (r c : Nat) (h : D) (hr : r ≤ 5) (hc : c ≤ 5) : F__law_blank [.int p, .int r, .int c] h = .ok (tabH (fun _ _ => zeroD p) r c) h := by
  have z := E_num0' p
  have tl := times_l (zeroD p) c (by omega)
  have e := lc_map (bind := bNm 3) (elt := eOp oTimes (eFz (eLst (eCons (eCall 2 F__law_num [] (eCons (eVm 0) (eCons (eC (.int 0)) eNil))) eNil))) (eV 2)) (δ := [some (.int p), some (.int r), some (.int c), none]) (h := h) (fun _ => .hl (List.replicate c (zeroD p))) (rgD 0 r) fun x hx => ⟨_, rfl, by
    push_cast [z, List.append_nil, sz_n 1 (by omega), sfz, tl]⟩
  have er : (rgD 0 r).map (fun _ => D.hl (List.replicate c (zeroD p))) = (List.range r).map (rowH (fun _ _ => zeroD p) c) := by
    unfold rgD
    rw [List.map_map]
    refine List.map_congr_left fun i hi => ?_
    show D.hl (List.replicate c (zeroD p)) = D.hl ((List.range c).map fun _ => zeroD p)
    congr 1
    refine List.ext_getElem? fun k => ?_
    rw [List.getElem?_replicate, List.getElem?_map]
    by_cases hk : k < c
    · rw [if_pos hk, List.getElem?_range hk]; rfl
    · rw [if_neg hk, List.getElem?_eq_none (by rw [List.length_range]; omega)]; rfl
  rw [er] at e
  unfold F__law_blank tabH
  push_cast [rg1_n r (by omega), wipeD, rg_len, sz_n r (by omega), e]
end N71
set_option exponentiation.threshold 20000
namespace N71
open PySem PySem.Spec L2 Fw
/-- all cells' products, added: the table -/
theorem E_summed (p : Int) (r c : Nat) (A B X : List (List D)) (at' : Int) (h : D) (hp : Pr p) (a : Tab p r c A) (b : Tab p r c B) (x : Tab p r c X) (hX : (at' = 2 ∧ X = A) ∨ (at' = 3 ∧ X = B)) :
    F__law_summed [.int p, .int r, .int c, .tup (allC p r c A B), .int at'] h = .ok (tabH (wT p X (pairsC p r c A B)) r c) h := by
  have r5 := a.r5
  have c5 := a.c5
  have bl := E_blank p r c h r5 c5
  have key := for_all (bind := bNm 6) (body := (sFor (iRg rg1 (eCons (eV 1) eNil)) (bNm 7) (sSeq (sSet 8 (eCall 3 F__law_times [] (eCons (eVm 0) (eCons (eOp oIx (eV 6) (eV 4)) (eCons (eOp oIx (eOp oIx (eV 6) (eC (.int 0))) (eV 7)) eNil)))))
    (sFor (iRg rg1 (eCons (eV 2) eNil)) (bNm 9) (sSt (pIx (pV 5) (eV 7)) (eV 9) (eCall 3 F__law_plus [] (eCons (eVm 0) (eCons (ePl (pIx (pIx (pV 5) (eV 7)) (eV 9))) (eCons (eCall 3 F__law_times [] (eCons (eVm 0) (eCons (eVm 8) (eCons (eOp oIx (eOp oIx (eV 6) (eC (.int 1))) (eV 9)) eNil)))) eNil))))))))) (fun m δ h' => h' = h ∧ ∃ y6 y7 y8 y9, δ = [some (.int p), some (.int r), some (.int c), some (.tup (allC p r c A B)), some (.int at'), some (tabH (wT p X ((pairsC p r c A B).take m)) r c), y6, y7, y8, y9]) (allC p r c A B) [some (.int p), some (.int r), some (.int c), some (.tup (allC p r c A B)), some (.int at'), some (tabH (fun _ _ => zeroD p) r c), none, none, none, none] h ⟨rfl, none, none, none, none, by
      have : (wT p X ((pairsC p r c A B).take 0)) = fun _ _ => zeroD p := by
        funext i j
        unfold wT
        rw [List.take_zero, if_neg (by simp)]
      rw [this]⟩ fun m d δ hh hx ⟨e1, y6, y7, y8, y9, e2⟩ => by
    subst e1 e2
    rw [all_pairs, List.getElem?_map] at hx
    obtain ⟨q, hq, rfl⟩ : ∃ q, (pairsC p r c A B)[m]? = some q ∧ cellD p r c A B q.1 q.2 = d := by
      cases z : (pairsC p r c A B)[m]? with
      | none => rw [z] at hx; cases hx
      | some q => rw [z] at hx; exact ⟨q, rfl, Option.some.inj hx⟩
    obtain ⟨q1, q2, q3⟩ := pairs_mem.mp (List.mem_of_getElem? hq)
    have hm : m < (pairsC p r c A B).length := (List.getElem?_eq_some_iff.mp hq).1
    have em : (pairsC p r c A B)[m] = q := (List.getElem?_eq_some_iff.mp hq).2
    have tk : (pairsC p r c A B).take (m + 1) = (pairsC p r c A B).take m ++ [(q.1, q.2)] := by
      rw [List.take_succ_eq_append_getElem hm, em]
    have nin : (q.1, q.2) ∉ (pairsC p r c A B).take m := by
      intro z
      have nd := pairs_nodup p r c A B
      have ed := List.take_append_drop m (pairsC p r c A B)
      rw [← ed] at nd
      have := (List.nodup_append.mp nd).2.2 _ z q (by
        rw [List.drop_eq_getElem_cons hm, em]
        exact List.mem_cons_self)
      exact this rfl
    obtain ⟨_, _, _, nw⟩ := get2_ok x q1 q2 D.lst
    have hat : atI [D.tup (unitL p r q.1), .tup (unitL p c q.2), get2 A q.1 q.2, get2 B q.1 q.2] at' = some (get2 X q.1 q.2) := by
      rcases hX with ⟨rfl, rfl⟩ | ⟨rfl, rfl⟩
      · exact at2
      · exact at3
    obtain ⟨z7, z8, z9, e⟩ := sum_step p r c q.1 q.2 (wT p X ((pairsC p r c A B).take m)) (.tup (allC p r c A B)) (get2 A q.1 q.2) (get2 B q.1 q.2) (get2 X q.1 q.2) at' hh y7 y8 y9 hp r5 c5 q1 q2 nw hat (fun i j => wT_nu hp x (fun z hz => by
      obtain ⟨h1, h2, _⟩ := pairs_mem.mp (List.mem_of_mem_take hz)
      exact ⟨h1, h2⟩) i j) (by unfold wT; rw [if_neg nin])
    rw [wT_upd, ← tk] at e
    refine ⟨_, rfl, _, hh, ?_, rfl, some (cellD p r c A B q.1 q.2), z7, z8, z9, rfl⟩
    push_cast [rg1_n r (by omega)]
    exact e
  obtain ⟨δ', h', e, rfl, z6, z7, z8, z9, rfl⟩ := key
  have ln : (allC p r c A B).length = (pairsC p r c A B).length := by rw [all_pairs, List.length_map]
  rw [ln, List.take_length] at e
  unfold tabH at e bl ⊢
  unfold F__law_summed
  push_cast [bl, List.append_nil, e]
end N71
set_option exponentiation.threshold 20000
namespace N71
open PySem PySem.Spec L2 Fw
/-- plain to the depth -/
def Pln : Nat → D → Prop
  | 0, _ => False
  | n + 1, d => (∃ i, d = .int i) ∨ ∃ ds, (d = .tup ds ∨ d = .lst ds) ∧ ∀ x ∈ ds, Pln n x
theorem pln_all {n : Nat} (k : ∀ d, Pln n d → ∃ q, toPy d = some q ∧ q.canLay0 = true ∧ q.depth ≤ n ∧ PyData.eqv q q = true) : ∀ (ds : List D), (∀ x ∈ ds, Pln n x) → ∃ qs, toPyL ds = some qs ∧ PyData.canLayAll0 qs = true ∧ PyData.depthAll qs ≤ n ∧ PyData.eqvAll qs qs = true
  | [], _ => ⟨[], by unfold toPyL; rfl, by simp only [PyData.canLayAll0], by simp only [PyData.depthAll]; omega, by simp only [PyData.eqvAll]⟩
  | d :: ds, h => by
    obtain ⟨q, e1, e2, e3, e4⟩ := k d (h d List.mem_cons_self)
    obtain ⟨qs, f1, f2, f3, f4⟩ := pln_all k ds fun x hx => h x (List.mem_cons_of_mem _ hx)
    refine ⟨q :: qs, by unfold toPyL; rw [e1, f1], ?_, ?_, ?_⟩
    · simp only [PyData.canLayAll0, e2, f2, Bool.and_self]
    · simp only [PyData.depthAll]; omega
    · simp only [PyData.eqvAll, e4, f4, Bool.and_self]
theorem pln_py : ∀ (n : Nat) (d : D), Pln n d → ∃ q, toPy d = some q ∧ q.canLay0 = true ∧ q.depth ≤ n ∧ PyData.eqv q q = true
  | 0, d, h => h.elim
  | n + 1, d, h => by
    rcases h with ⟨i, rfl⟩ | ⟨ds, rfl | rfl, k⟩
    · exact ⟨.int i, by unfold toPy; rfl, by simp only [PyData.canLay0], by simp only [PyData.depth]; omega, by simp only [PyData.eqv, beq_self_eq_true]⟩
    · obtain ⟨qs, f1, f2, f3, f4⟩ := pln_all (pln_py n) ds k
      exact ⟨.tuple qs, by unfold toPy; rw [f1]; rfl, by simp only [PyData.canLay0, f2], by simp only [PyData.depth]; omega, by simp only [PyData.eqv, f4]⟩
    · obtain ⟨qs, f1, f2, f3, f4⟩ := pln_all (pln_py n) ds k
      exact ⟨.list qs, by unfold toPy; rw [f1]; rfl, by simp only [PyData.canLay0, f2], by simp only [PyData.depth]; omega, by simp only [PyData.eqv, f4]⟩
theorem eq_refl {n : Nat} {d : D} (h : Pln n d) (hn : n ≤ 64) : eqD d d = some true := by
  obtain ⟨q, e1, e2, e3, e4⟩ := pln_py n d h
  have sh : SeqAt.shaped q = true := by
    unfold SeqAt.shaped
    rw [e2, decide_eq_true (show q.depth ≤ 64 by omega)]
    rfl
  unfold eqD
  rw [e1]
  show (if (SeqAt.shaped q && SeqAt.shaped q) = true then some (PyData.eqv q q) else none) = _
  rw [sh, e4]
  rfl
theorem NuD.pl {p : Int} {x : D} (n : NuD p x) : Pln 2 x := by
  rcases n with ⟨_, t, b, rfl, _⟩ | ⟨_, i, rfl, _⟩
  · refine .inr ⟨_, .inl rfl, fun y hy => ?_⟩
    rcases List.mem_cons.mp hy with rfl | hy
    · exact .inl ⟨_, rfl⟩
    · rw [List.mem_singleton.mp hy]; exact .inl ⟨_, rfl⟩
  · exact .inl ⟨_, rfl⟩
theorem tab_pl {p : Int} {r c : Nat} {X : List (List D)} (t : Tab p r c X) : Pln 4 (tabD X) := .inr ⟨_, .inr rfl, fun y hy => by
  obtain ⟨row, hr, rfl⟩ := List.mem_map.mp hy
  exact .inr ⟨_, .inr rfl, fun z hz => ((t.row row hr).2 z hz).pl⟩⟩
theorem tab_lists {p : Int} {r c : Nat} {X : List (List D)} (t : Tab p r c X) : X = (List.range r).map fun i => (List.range c).map (get2 X i) := by
  refine List.ext_getElem? fun i => ?_
  by_cases hi : i < r
  · have hl : i < X.length := by rw [t.l]; exact hi
    rw [List.getElem?_eq_getElem hl, List.getElem?_map, List.getElem?_range hi]
    congr 1
    have rw1 := t.row _ (List.getElem_mem hl)
    refine List.ext_getElem? fun j => ?_
    by_cases hj : j < c
    · have hj2 : j < X[i].length := by rw [rw1.1]; exact hj
      rw [List.getElem?_eq_getElem hj2, List.getElem?_map, List.getElem?_range hj]
      show _ = some (get2 X i j)
      unfold get2
      rw [List.getElem?_eq_getElem hl, Option.getD_some, List.getElem?_eq_getElem hj2, Option.getD_some]
    · rw [List.getElem?_eq_none (by rw [rw1.1]; omega), List.getElem?_eq_none (by rw [List.length_map, List.length_range]; omega)]
  · rw [List.getElem?_eq_none (by rw [t.l]; omega), List.getElem?_eq_none (by rw [List.length_map, List.length_range]; omega)]
theorem frz_tabH {T : Nat → Nat → D} {r c : Nat} (k : ∀ i j, (T i j).fr = true) : frz (tabH T r c) = .lst ((List.range r).map fun i => .lst ((List.range c).map (T i))) := by
  have rows : ∀ (l : List Nat) (i : Nat), frzL (l.map (T i)) = l.map (T i) := fun l i => frzL_id _ fun d hd => by
    obtain ⟨j, _, rfl⟩ := List.mem_map.mp hd
    exact k i j
  have all : ∀ l : List Nat, frzL (l.map (rowH T c)) = l.map fun i => D.lst ((List.range c).map (T i)) := by
    intro l
    induction l with
    | nil => rfl
    | cons i l ih =>
      show frzL (rowH T c i :: l.map (rowH T c)) = _
      unfold frzL
      rw [ih]
      unfold rowH frz
      rw [rows]
      rfl
  unfold tabH frz
  rw [all]
theorem wT_all {p : Int} {r c : Nat} {A B X : List (List D)} (a : Tab p r c A) (b : Tab p r c B) (x : Tab p r c X) (hX : X = A ∨ X = B) (i j : Nat) (hi : i < r) (hj : j < c) : wT p X (pairsC p r c A B) i j = get2 X i j := by
  unfold wT
  by_cases m : (i, j) ∈ pairsC p r c A B
  · rw [if_pos m]
  · rw [if_neg m]
    have nz : nzB p A B i j = false := by
      cases z : nzB p A B i j with
      | false => rfl
      | true => exact absurd (pairs_mem.mpr ⟨hi, hj, z⟩) m
    unfold nzB at nz
    obtain ⟨_, _, _, na⟩ := get2_ok a hi hj D.lst
    obtain ⟨_, _, _, nb⟩ := get2_ok b hi hj D.lst
    have za : isZ p (get2 A i j) = true := by cases q : isZ p (get2 A i j) <;> first | rfl | (rw [q] at nz; cases nz)
    have zb : isZ p (get2 B i j) = true := by rw [za] at nz; cases q : isZ p (get2 B i j) <;> first | rfl | (rw [q] at nz; cases nz)
    rcases hX with rfl | rfl
    · exact (isZ_eq na za).symm
    · exact (isZ_eq nb zb).symm
theorem summed_frz {p : Int} {r c : Nat} {A B X : List (List D)} (hp : Pr p) (a : Tab p r c A) (b : Tab p r c B) (x : Tab p r c X) (hX : X = A ∨ X = B) : frz (tabH (wT p X (pairsC p r c A B)) r c) = tabD X := by
  rw [frz_tabH fun i j => (wT_nu hp x (fun q hq => by
    obtain ⟨h1, h2, _⟩ := pairs_mem.mp hq
    exact ⟨h1, h2⟩) i j).fr']
  unfold tabD
  congr 1
  have e := tab_lists x
  conv => rhs; rw [e]
  rw [List.map_map]
  refine List.map_congr_left fun i hi => ?_
  show D.lst _ = D.lst _
  congr 1
  exact List.map_congr_left fun j hj => wT_all a b x hX i j (List.mem_range.mp hi) (List.mem_range.mp hj)
theorem E_right (p : Int) (r c : Nat) (A B : List (List D)) (h : D) (hp : Pr p) (a : Tab p r c A) (b : Tab p r c B) : F__law_right [.int p, .tup (allC p r c A B), .lst [tabD A, tabD B]] h = .ok (.bl true) h := by
  have r1 := a.r1
  have r5 := a.r5
  have key := for_all (bind := bNm 5) (body := (sIf (eT (eOp oNe (eFw (eCall 5 F__law_summed [] (eCons (eVm 0) (eCons (eVm 3) (eCons (eVm 4) (eCons (eVm 1) (eCons (eOp oAdd (eC (.int 2)) (eV 5)) eNil))))))) (eFz (eLc [6] (iSeq (eOp oIx (eV 2) (eV 5))) (bNm 6) tYesD (eFz (eBi kList (eCons (eV 6) eNil))))))) (sRet (eC (.bl false))) sNil)) (fun m δ h' => h' = h ∧ ∃ y5 y6, δ = [some (.int p), some (.tup (allC p r c A B)), some (.lst [tabD A, tabD B]), some (.int r), some (.int c), y5, y6]) (rgD 0 2) [some (.int p), some (.tup (allC p r c A B)), some (.lst [tabD A, tabD B]), some (.int r), some (.int c), none, none] h ⟨rfl, none, none, rfl⟩ fun m d δ hh hx ⟨e1, y5, y6, e2⟩ => by
    subst e1 e2
    obtain ⟨hm, rfl⟩ := rg_get hx
    refine ⟨_, rfl, ?_⟩
    have one : ∀ X, Tab p r c X → ((2 : Int) + m = 2 ∧ X = A) ∨ ((2 : Int) + m = 3 ∧ X = B) → atI [tabD A, tabD B] (m : Int) = some (tabD X) → ∃ δ3 h3, (sIf (eT (eOp oNe (eFw (eCall 5 F__law_summed [] (eCons (eVm 0) (eCons (eVm 3) (eCons (eVm 4) (eCons (eVm 1) (eCons (eOp oAdd (eC (.int 2)) (eV 5)) eNil))))))) (eFz (eLc [6] (iSeq (eOp oIx (eV 2) (eV 5))) (bNm 6) tYesD (eFz (eBi kList (eCons (eV 6) eNil))))))) (sRet (eC (.bl false))) sNil) [some (.int p), some (.tup (allC p r c A B)), some (.lst [tabD A, tabD B]), some (.int r), some (.int c), some (.int (m : Int)), y6] hh = .nx δ3 h3 ∧ h3 = hh ∧ ∃ y5 y6, δ3 = [some (.int p), some (.tup (allC p r c A B)), some (.lst [tabD A, tabD B]), some (.int r), some (.int c), y5, y6] := fun X x hX hat => by
      have s := E_summed p r c A B X ((2 : Int) + m) hh hp a b x hX
      have f := summed_frz hp a b x (by rcases hX with ⟨_, e⟩ | ⟨_, e⟩; exact .inl e; exact .inr e)
      have lc := lc_map (bind := bNm 6) (elt := eFz (eBi Fw.kList (eCons (eV 6) eNil))) (δ := [some (.int p), some (.tup (allC p r c A B)), some (.lst [tabD A, tabD B]), some (.int r), some (.int c), some (.int (m : Int)), none]) (h := hh) (fun x => x) (X.map D.lst) fun z hz => ⟨_, rfl, by
        obtain ⟨row, _, rfl⟩ := List.mem_map.mp hz
        push_cast [Fw.kList, sfz]⟩
      rw [List.map_id'] at lc
      have lx : (X.map D.lst).length = r := by rw [List.length_map, x.l]
      have er := eq_refl (tab_pl x) (by omega)
      refine ⟨_, _, ?_, rfl, some (.int (m : Int)), y6, rfl⟩
      have it : itS (tabD X) = some (X.map D.lst) := rfl
      unfold tabD at er it lc f hat ⊢
      push_cast [s, f, List.append_nil, hat, wipeD, lx, sz_n r (by omega), lc, sfz, er]
    have : m = 0 ∨ m = 1 := by omega
    rcases this with rfl | rfl
    · exact one A a (.inl ⟨rfl, rfl⟩) at0
    · exact one B b (.inr ⟨rfl, rfl⟩) at1
  obtain ⟨δ', h', e, rfl, z5, z6, rfl⟩ := key
  obtain ⟨x, hx, lx⟩ : ∃ x, atI (A.map D.lst) 0 = some (.lst x) ∧ x.length = c := by
    have hl : 0 < A.length := by have := a.l; omega
    exact ⟨A[0], atI_n (i := 0) (by rw [List.getElem?_map, List.getElem?_eq_getElem hl]; rfl), (a.row _ (List.getElem_mem hl)).1⟩
  have rg : rg1 [.int 2] = some (rgD 0 2) := rg1_n 2 (by omega)
  unfold tabD at e ⊢
  unfold F__law_right
  push_cast [at0, hx, lx, List.length_map, a.l, rg, e]
end N71
set_option exponentiation.threshold 20000
namespace N71
open PySem PySem.Spec L2 Fw
theorem lc_draw2 {bind : D → DE → Option DE} {elt : EF D} {δ : DE} {R : D → D → Prop} : ∀ (ds : List D) (h : D), HandI h → (∀ x ∈ ds, ∀ h, HandI h → ∃ δ2, bind x δ = some δ2 ∧ Dr (elt δ2 h) (R x)) → ∃ ys h', lcGo bind tYesD elt δ ds h = .ok ys h' ∧ ys.length = ds.length ∧ (∀ (i : Nat) x, ds[i]? = some x → ∃ y, ys[i]? = some y ∧ R x y) ∧ HandI h'
  | [], h, i, _ => ⟨[], h, rfl, rfl, (fun i x e => by simp at e), i⟩
  | x :: xs, h, i, k => by
    obtain ⟨δ2, e1, y, h1, e2, r, i1⟩ := k x List.mem_cons_self h i
    obtain ⟨ys, h2, e3, l, rs, i2⟩ := lc_draw2 xs h1 i1 fun y hy => k y (List.mem_cons_of_mem _ hy)
    refine ⟨y :: ys, h2, ?_, by rw [List.length_cons, List.length_cons, l], fun j z hz => ?_, i2⟩
    · unfold lcGo
      simp only [e1, tYesD, nox_okE, bind_okE, if_true, e2, e3]
    · cases j with
      | zero =>
        have := Option.some.inj hz
        subst this
        exact ⟨y, rfl, r⟩
      | succ j => exact rs j z hz
theorem lists_draw (X : List (List D)) (δ : DE) (h : D) (hh : HandI h) (hl : X.length ≤ 5) (h0 : δ[0]? = some (some .me)) (h4 : 4 < δ.length) : ∃ ys h', lcGo (bNm 4) tYesD (eCall 2 F__law_list [] (eCons (eVm 0) (eCons (eVm 4) eNil))) δ (X.map D.lst) h = .ok ys h' ∧ SeqT X ys ∧ HandI h' := by
  obtain ⟨ys, h', e, l, k, i⟩ := lc_draw2 (bind := bNm 4) (elt := eCall 2 F__law_list [] (eCons (eVm 0) (eCons (eVm 4) eNil))) (δ := δ) (R := fun x y => ∃ row, x = .lst row ∧ SeqOf row y) (X.map D.lst) h hh fun x hx h1 i1 => by
    obtain ⟨row, _, rfl⟩ := List.mem_map.mp hx
    obtain ⟨d, h2, e2, s2, i2⟩ := E_list row h1 i1
    refine ⟨_, rfl, d, h2, ?_, ⟨row, rfl, s2⟩, i2⟩
    have g0 : (δ.set 4 (some (.lst row)))[0]? = some (some .me) := by rw [List.getElem?_set_ne (by decide)]; exact h0
    have g4 : (δ.set 4 (some (.lst row)))[4]? = some (some (.lst row)) := List.getElem?_set_self h4
    push_cast [g0, g4, List.append_nil, e2]
  refine ⟨ys, h', e, ⟨by rw [l, List.length_map], fun j row hj => ?_⟩, i⟩
  obtain ⟨y, hy, row', e', s⟩ := k j (.lst row) (by rw [List.getElem?_map, hj]; rfl)
  cases e'
  exact ⟨y, hy, s⟩
theorem E_passed (p : Int) (r c : Nat) (A B : List (List D)) (h : D) (hp : Pr p) (a : Tab p r c A) (b : Tab p r c B) (hh : HandI h) : Dr (F__law_passed_pair [.me, .int p, .lst [tabD A, tabD B]] h) fun d => d = pairI p r c A B := by
  have la : A.length ≤ 5 := by rw [a.l]; exact a.r5
  have lb : B.length ≤ 5 := by rw [b.l]; exact b.r5
  obtain ⟨ys, h1, e1, s1, i1⟩ := lists_draw A [some .me, some (.int p), some (.lst [tabD A, tabD B]), none, none] h hh la rfl (by simp)
  obtain ⟨d1, h2, e2, q1, i2⟩ := E_list ys h1 i1
  obtain ⟨zs, h3, e3, s2, i3⟩ := lists_draw B [some .me, some (.int p), some (.lst [tabD A, tabD B]), some d1, none] h2 i2 lb rfl (by simp)
  obtain ⟨d2, h4, e4, q2, i4⟩ := E_list zs h3 i3
  have f := E_fig p hp
  have pr := E_pair p r c A B ys zs d1 d2 hp a b q1 s1 q2 s2
  refine ⟨_, h4, ?_, rfl, i4⟩
  have mk1 : ∀ h, eMake "Figures" 2 F_Figures___init__ [] (eCons (eV 1) eNil) [some .me, some (.int p), some (.lst [tabD A, tabD B]), some d1, none] h = .ok (fig p) h := fun h => eMake_ok (ds := [.int p]) (xs := [("prime", .int p), ("zero", zeroD p), ("one", oneD p)]) (by push_cast []) f rfl
  have mk2 := eMake_ok (nm := "Pair") (n := 4) (F := F_Pair___init__) (dd := []) (fs := eCons (eMake "Figures" 2 F_Figures___init__ [] (eCons (eV 1) eNil)) (eCons (eV 3) (eCons (eCall 2 F__law_list [] (eCons (eVm 0) (eCons (eFz (eLc [4] (iSeq (eOp oIx (eV 2) (eC (.int 1)))) (bNm 4) tYesD (eCall 2 F__law_list [] (eCons (eVm 0) (eCons (eVm 4) eNil))))) eNil))) eNil))) (δ := [some .me, some (.int p), some (.lst [tabD A, tabD B]), some d1, none]) (h := h2) (h1 := h4) (ds := [fig p, d1, d2]) (xs := [("figures", fig p), ("first", .tup (A.map D.tup)), ("second", .tup (B.map D.tup)), ("rows", .int r), ("columns", .int c)]) (by
    rw [eCons_a, mk1, bind_okE]
    have it : itS (tabD B) = some (B.map D.lst) := rfl
    have lx : (B.map D.lst).length = r := by rw [List.length_map, b.l]
    push_cast [q1.vd, at1, it, wipeD, lx, sz_n r (by have := a.r5; omega), e3, sfz, List.append_nil, e4]) pr rfl
  have it : itS (tabD A) = some (A.map D.lst) := rfl
  have lx : (A.map D.lst).length = r := by rw [List.length_map, a.l]
  unfold F__law_passed_pair
  simp only [runF, sSeq_a, sSet_a, List.map, List.append, List.length_cons, List.length_nil, Nat.reduceAdd, Nat.reduceSub, List.replicate, List.cons_append, List.nil_append]
  have first : eCall 2 F__law_list [] (eCons (eVm 0) (eCons (eFz (eLc [4] (iSeq (eOp oIx (eV 2) (eC (.int 0)))) (bNm 4) tYesD (eCall 2 F__law_list [] (eCons (eVm 0) (eCons (eVm 4) eNil))))) eNil)) [some .me, some (.int p), some (.lst [tabD A, tabD B]), none, none] h = .ok d1 h2 := by
    push_cast [at0, it, wipeD, lx, sz_n r (by have := a.r5; omega), e1, sfz, List.append_nil, e2]
  rw [first, fl_okE, seq_nx, sRet_a]
  simp only [List.set_cons_succ, List.set_cons_zero]
  rw [mk2]
  rfl
end N71
set_option exponentiation.threshold 20000
namespace N71
open PySem PySem.Spec L2 Fw
theorem st_cell3 {T : Nat → Nat → D} {r c i j s t : Nat} {L : List D} {δ : DE} {h x : D} {e0 f g e : EF D} (hs : δ[s]? = some (some (.hl L))) (hL : L[t]? = some (tabH T r c)) (h0 : e0 δ h = .ok (.int (t : Int)) h) (hf : f δ h = .ok (.int (i : Int)) h) (hg : g δ h = .ok (.int (j : Int)) h) (he : e δ h = .ok x h) (hi : i < r) (hj : j < c) :
    sSt (pIx (pIx (pV s) e0) f) g e δ h = .nx (δ.set s (some (.hl (L.set t (tabH (updT T i j x) r c))))) h := by
  have ht : t < L.length := (List.getElem?_eq_some_iff.mp hL).1
  have e1 : pIx (pV s) e0 δ h = .ok (s, [t]) h := by
    unfold pIx pV
    rw [hs]
    show (Ex.ok (s, []) h).bind _ = _
    rw [bind_okE, h0, bind_okE]
    unfold plD
    rw [hs]
    show Ex.of ((ixN L.length (t : Int)).map fun j => (s, [] ++ [j])) h = _
    rw [ixN_n ht]
    rfl
  have q1 : plD δ (s, [t]) = some (tabH T r c) := by
    unfold plD
    rw [hs]
    show getP (.hl L) [t] = _
    unfold getP
    rw [hL]
    rfl
  have e2 : pIx (pIx (pV s) e0) f δ h = .ok (s, [t, i]) h := by
    rw [pIx_a, e1, bind_okE, hf, bind_okE, q1]
    show Ex.of ((ixN ((List.range r).map (rowH T c)).length (i : Int)).map fun k => (s, [t] ++ [k])) h = _
    rw [List.length_map, List.length_range, ixN_n hi]
    rfl
  have q2 : plD δ (s, [t, i]) = some (rowH T c i) := by
    unfold plD
    rw [hs]
    show getP (.hl L) [t, i] = _
    unfold getP
    rw [hL]
    show getP (tabH T r c) [i] = _
    unfold tabH getP
    rw [tab_at hi]
    rfl
  rw [sSt_a, he, fl_okE, e2, fl_okE, hg, fl_okE, q2]
  show (match ixN ((List.range c).map (T i)).length (j : Int) with | some k => Fl.nx (plS δ (s, [t, i]) (.hl (((List.range c).map (T i)).set k x))) h | none => .bad) = _
  rw [List.length_map, List.length_range, ixN_n hj]
  show Fl.nx (plS δ (s, [t, i]) (.hl (((List.range c).map (T i)).set j x))) h = _
  unfold plS
  rw [hs]
  show Fl.nx (δ.set s (some (setP (.hl L) [t, i] (.hl (((List.range c).map (T i)).set j x))))) h = _
  unfold setP
  rw [hL]
  show Fl.nx (δ.set s (some (.hl (L.set t (setP (tabH T r c) [i] (.hl (((List.range c).map (T i)).set j x))))))) h = _
  have q3 : setP (tabH T r c) [i] (.hl (((List.range c).map (T i)).set j x)) = tabH (updT T i j x) r c := by
    rw [← tab_upd T r c i j x hi]
    unfold tabH setP
    rw [tab_at hi]
    show D.hl (((List.range r).map (rowH T c)).set i (setP (rowH T c i) [] _)) = _
    unfold setP
    rfl
  rw [q3]
/-- numbers all over -/
def NuT (p : Int) (r c : Nat) (T : Nat → Nat → D) : Prop := ∀ i j, i < r → j < c → NuD p (T i j)
theorem nuT_upd {p : Int} {r c i j : Nat} {T : Nat → Nat → D} {x : D} (n : NuT p r c T) (hx : NuD p x) : NuT p r c (updT T i j x) := fun i' j' h1 h2 => by
  unfold updT
  by_cases e : i' = i ∧ j' = j
  · rw [if_pos e]; exact hx
  · rw [if_neg e]; exact n i' j' h1 h2
def toL (T : Nat → Nat → D) (r c : Nat) : List (List D) := (List.range r).map fun i => (List.range c).map (T i)
theorem toL_tab {p : Int} {r c : Nat} {T : Nat → Nat → D} (n : NuT p r c T) (r1 : 1 ≤ r) (r5 : r ≤ 5) (c1 : 1 ≤ c) (c5 : c ≤ 5) (rp : p ≠ 0 → (r : Int) ≤ p ∧ (c : Int) ≤ p) : Tab p r c (toL T r c) := by
  refine ⟨r1, r5, c1, c5, rp, by unfold toL; rw [List.length_map, List.length_range], fun row hrow => ?_⟩
  unfold toL at hrow
  obtain ⟨i, hi, rfl⟩ := List.mem_map.mp hrow
  refine ⟨by rw [List.length_map, List.length_range], fun x hx => ?_⟩
  obtain ⟨j, hj, rfl⟩ := List.mem_map.mp hx
  exact n i j (List.mem_range.mp hi) (List.mem_range.mp hj)
theorem frzL_in : ∀ (ds : List D), (∀ d ∈ ds, d.fr = true) → frzL ds = ds := frzL_id
theorem frz_tab' {p : Int} {T : Nat → Nat → D} {r c : Nat} (n : NuT p r c T) : frz (tabH T r c) = tabD (toL T r c) := by
  have all : ∀ l : List Nat, (∀ i ∈ l, i < r) → frzL (l.map (rowH T c)) = l.map fun i => D.lst ((List.range c).map (T i)) := by
    intro l
    induction l with
    | nil => intro _; rfl
    | cons i l ih =>
      intro k
      show frzL (rowH T c i :: l.map (rowH T c)) = _
      unfold frzL
      rw [ih fun z hz => k z (List.mem_cons_of_mem _ hz)]
      unfold rowH frz
      rw [frzL_id _ fun d hd => by
        obtain ⟨j, hj, rfl⟩ := List.mem_map.mp hd
        exact (n i j (k i List.mem_cons_self) (List.mem_range.mp hj)).fr']
      rfl
  unfold tabH frz tabD toL
  rw [all _ fun i hi => List.mem_range.mp hi, List.map_map]
  rfl
theorem free_tab {p : Int} {r c : Nat} {rows : List (List D)} (hl : rows.length = r) (hr : ∀ row ∈ rows, Row p c row) : D.hl (rows.map D.hl) = tabH (get2 rows) r c ∧ NuT p r c (get2 rows) := by
  constructor
  · unfold tabH
    congr 1
    refine List.ext_getElem? fun i => ?_
    by_cases hi : i < r
    · have h2 : i < rows.length := by rw [hl]; exact hi
      rw [List.getElem?_map, List.getElem?_eq_getElem h2, tab_at hi]
      show some (D.hl rows[i]) = some (D.hl ((List.range c).map (get2 rows i)))
      congr 2
      have rw1 := hr _ (List.getElem_mem h2)
      refine List.ext_getElem? fun j => ?_
      by_cases hj : j < c
      · have hj2 : j < rows[i].length := by rw [rw1.1]; exact hj
        rw [List.getElem?_eq_getElem hj2, row_at i hj]
        unfold get2
        rw [List.getElem?_eq_getElem h2, Option.getD_some, List.getElem?_eq_getElem hj2, Option.getD_some]
      · rw [List.getElem?_eq_none (by rw [rw1.1]; omega), List.getElem?_eq_none (by rw [List.length_map, List.length_range]; omega)]
    · rw [List.getElem?_eq_none (by rw [List.length_map, hl]; omega), List.getElem?_eq_none (by rw [List.length_map, List.length_range]; omega)]
  · intro i j hi hj
    have h2 : i < rows.length := by rw [hl]; exact hi
    have rw1 := hr _ (List.getElem_mem h2)
    have hj2 : j < rows[i].length := by rw [rw1.1]; exact hj
    unfold get2
    rw [List.getElem?_eq_getElem h2, Option.getD_some, List.getElem?_eq_getElem hj2, Option.getD_some]
    exact rw1.2 _ (List.getElem_mem hj2)
end N71
set_option exponentiation.threshold 20000
namespace N71
open PySem PySem.Spec L2 Fw
/-- perhaps one number is made zero -/
theorem plain_one (p : Int) (r c k t : Nat) (T U : Nat → Nat → D) (h : D) (x6 x7 : Option D) (hp : Pr p) (hk : k < r * c) (hc5 : c ≤ 5) (ht : t = 0 ∨ t = 1) (hT : NuT p r c T) (hU : NuT p r c U) (hh : HandI h) :
    ∃ T' U' h', sIf (eT (eOp oEq (eCall 2 F__law_take [] (eCons (eVm 0) (eCons (eC (.int 3)) eNil))) (eC (.int 0)))) (sSt (pIx (pIx (pV 4) (eC (.int (t : Int)))) (eOp oDiv (eV 5) (eV 3))) (eOp oMod (eBi kInt (eCons (eV 5) eNil)) (eV 3)) (eCall 2 F__law_num [] (eCons (eVm 1) (eCons (eC (.int 0)) eNil)))) sNil [some .me, some (.int p), some (.int r), some (.int c), some (.hl [tabH T r c, tabH U r c]), some (.int (k : Int)), x6, x7] h = .nx [some .me, some (.int p), some (.int r), some (.int c), some (.hl [tabH T' r c, tabH U' r c]), some (.int (k : Int)), x6, x7] h' ∧ NuT p r c T' ∧ NuT p r c U' ∧ HandI h' := by
  have c0 : 0 < c := Nat.pos_of_ne_zero fun z => by rw [z] at hk; simp at hk
  have hc0 : (c : Int) ≠ 0 := by omega
  obtain ⟨q, h1, e1, q0, q1, i1⟩ := E_take 3 h hh (by decide) (by decide)
  by_cases hq : q = 0
  · subst hq
    have n0 := E_num0' p h1
    have hi : k / c < r := Nat.div_lt_of_lt_mul (by rw [Nat.mul_comm]; exact hk)
    have hj : k % c < c := Nat.mod_lt _ c0
    have ed : (k : Int).fdiv (c : Int) = ((k / c : Nat) : Int) := by
      rw [Int.fdiv_eq_ediv_of_nonneg _ (by omega)]; rfl
    have em : (k : Int).fmod (c : Int) = ((k % c : Nat) : Int) := by
      rw [Int.fmod_eq_emod_of_nonneg _ (by omega)]; rfl


    have d1 := div_ok (i := (k : Int)) hc0 (by omega)
    have m1 := mod_ok (i := (k : Int)) hc0
    rcases ht with rfl | rfl
    · have st := st_cell3 (T := T) (r := r) (c := c) (i := k / c) (j := k % c) (s := 4) (t := 0) (L := [tabH T r c, tabH U r c]) (δ := [some .me, some (.int p), some (.int r), some (.int c), some (.hl [tabH T r c, tabH U r c]), some (.int (k : Int)), x6, x7]) (h := h1) (x := zeroD p) (e0 := eC (.int ((0 : Nat) : Int))) (f := eOp oDiv (eV 5) (eV 3)) (g := eOp oMod (eBi kInt (eCons (eV 5) eNil)) (eV 3)) (e := eCall 2 F__law_num [] (eCons (eVm 1) (eCons (eC (.int 0)) eNil))) rfl rfl rfl (by push_cast [d1, ed]) (by push_cast [kInt, m1, em]) (by push_cast [n0, List.append_nil]) hi hj
      refine ⟨updT T (k / c) (k % c) (zeroD p), U, h1, ?_, nuT_upd hT (nu_zero hp), hU, i1⟩
      rw [sIf_a]
      have tt : eT (eOp oEq (eCall 2 F__law_take [] (eCons (eVm 0) (eCons (eC (.int 3)) eNil))) (eC (.int 0))) [some .me, some (.int p), some (.int r), some (.int c), some (.hl [tabH T r c, tabH U r c]), some (.int (k : Int)), x6, x7] h = .ok true h1 := by push_cast [e1, List.append_nil]
      rw [tt, fl_okE, if_pos rfl, st]
      rfl
    · have st := st_cell3 (T := U) (r := r) (c := c) (i := k / c) (j := k % c) (s := 4) (t := 1) (L := [tabH T r c, tabH U r c]) (δ := [some .me, some (.int p), some (.int r), some (.int c), some (.hl [tabH T r c, tabH U r c]), some (.int (k : Int)), x6, x7]) (h := h1) (x := zeroD p) (e0 := eC (.int ((1 : Nat) : Int))) (f := eOp oDiv (eV 5) (eV 3)) (g := eOp oMod (eBi kInt (eCons (eV 5) eNil)) (eV 3)) (e := eCall 2 F__law_num [] (eCons (eVm 1) (eCons (eC (.int 0)) eNil))) rfl rfl rfl (by push_cast [d1, ed]) (by push_cast [kInt, m1, em]) (by push_cast [n0, List.append_nil]) hi hj
      refine ⟨T, updT U (k / c) (k % c) (zeroD p), h1, ?_, hT, nuT_upd hU (nu_zero hp), i1⟩
      rw [sIf_a]
      have tt : eT (eOp oEq (eCall 2 F__law_take [] (eCons (eVm 0) (eCons (eC (.int 3)) eNil))) (eC (.int 0))) [some .me, some (.int p), some (.int r), some (.int c), some (.hl [tabH T r c, tabH U r c]), some (.int (k : Int)), x6, x7] h = .ok true h1 := by push_cast [e1, List.append_nil]
      rw [tt, fl_okE, if_pos rfl, st]
      rfl
  · refine ⟨T, U, h1, ?_, hT, hU, i1⟩
    rw [sIf_a]
    have tt : eT (eOp oEq (eCall 2 F__law_take [] (eCons (eVm 0) (eCons (eC (.int 3)) eNil))) (eC (.int 0))) [some .me, some (.int p), some (.int r), some (.int c), some (.hl [tabH T r c, tabH U r c]), some (.int (k : Int)), x6, x7] h = .ok false h1 := by push_cast [e1, List.append_nil, hq]
    rw [tt, fl_okE, if_neg (by decide)]
    rfl
end N71
set_option exponentiation.threshold 20000
namespace N71
open PySem PySem.Spec L2 Fw
theorem E_law_plain (p : Int) (h : D) (hp : Pr p) (hh : HandI h) : Dr (F__law_plain [.me, .int p] h) fun d => d = .bl true := by
  obtain ⟨_, h1, e1, ⟨r, rfl, r1, r5, rp⟩, i1⟩ := E_size p h hp hh
  obtain ⟨_, h2, e2, ⟨c, rfl, c1, c5, cp⟩, i2⟩ := E_size p h1 hp i1
  obtain ⟨_, h3, e3, ⟨ra, rfl, la, ka⟩, i3⟩ := E_free p r c h2 hp r5 c5 i2
  obtain ⟨_, h4, e4, ⟨rb, rfl, lb, kb⟩, i4⟩ := E_free p r c h3 hp r5 c5 i3
  obtain ⟨ta, na⟩ := free_tab la ka
  obtain ⟨tb', nb⟩ := free_tab lb kb
  rw [ta] at e3
  rw [tb'] at e4
  obtain ⟨q, h5, e5, q0, q1, i5⟩ := E_take 3 h4 i4 (by decide) (by decide)
  have mid : ∃ T U x5 h6, (sIf (eT (eOp oGt (eCall 2 F__law_take [] (eCons (eVm 0) (eCons (eC (.int 3)) eNil))) (eC (.int 0)))) (sFor (iRg rg1 (eCons (eOp oMul (eV 2) (eV 3)) eNil)) (bNm 5) (sSeq (sIf (eT (eOp oEq (eCall 2 F__law_take [] (eCons (eVm 0) (eCons (eC (.int 3)) eNil))) (eC (.int 0)))) (sSt (pIx (pIx (pV 4) (eC (.int 0))) (eOp oDiv (eV 5) (eV 3))) (eOp oMod (eBi kInt (eCons (eV 5) eNil)) (eV 3)) (eCall 2 F__law_num [] (eCons (eVm 1) (eCons (eC (.int 0)) eNil)))) sNil)
    (sIf (eT (eOp oEq (eCall 2 F__law_take [] (eCons (eVm 0) (eCons (eC (.int 3)) eNil))) (eC (.int 0)))) (sSt (pIx (pIx (pV 4) (eC (.int 1))) (eOp oDiv (eV 5) (eV 3))) (eOp oMod (eBi kInt (eCons (eV 5) eNil)) (eV 3)) (eCall 2 F__law_num [] (eCons (eVm 1) (eCons (eC (.int 0)) eNil)))) sNil))) sNil) [some .me, some (.int p), some (.int r), some (.int c), some (.hl [tabH (get2 ra) r c, tabH (get2 rb) r c]), none, none, none] h4 = .nx [some .me, some (.int p), some (.int r), some (.int c), some (.hl [tabH T r c, tabH U r c]), x5, none, none] h6 ∧ NuT p r c T ∧ NuT p r c U ∧ HandI h6 := by
    by_cases hq : (0 : Int) < q
    · have bound : r * c ≤ 25 := Nat.le_trans (Nat.mul_le_mul r5 c5) (by decide)
      have key := for_all (bind := bNm 5) (body := (sSeq (sIf (eT (eOp oEq (eCall 2 F__law_take [] (eCons (eVm 0) (eCons (eC (.int 3)) eNil))) (eC (.int 0)))) (sSt (pIx (pIx (pV 4) (eC (.int 0))) (eOp oDiv (eV 5) (eV 3))) (eOp oMod (eBi kInt (eCons (eV 5) eNil)) (eV 3)) (eCall 2 F__law_num [] (eCons (eVm 1) (eCons (eC (.int 0)) eNil)))) sNil)
    (sIf (eT (eOp oEq (eCall 2 F__law_take [] (eCons (eVm 0) (eCons (eC (.int 3)) eNil))) (eC (.int 0)))) (sSt (pIx (pIx (pV 4) (eC (.int 1))) (eOp oDiv (eV 5) (eV 3))) (eOp oMod (eBi kInt (eCons (eV 5) eNil)) (eV 3)) (eCall 2 F__law_num [] (eCons (eVm 1) (eCons (eC (.int 0)) eNil)))) sNil))) (fun k δ h' => ∃ T U x5, δ = [some .me, some (.int p), some (.int r), some (.int c), some (.hl [tabH T r c, tabH U r c]), x5, none, none] ∧ NuT p r c T ∧ NuT p r c U ∧ HandI h') (rgD 0 (r * c)) [some .me, some (.int p), some (.int r), some (.int c), some (.hl [tabH (get2 ra) r c, tabH (get2 rb) r c]), none, none, none] h5 ⟨_, _, _, rfl, na, nb, i5⟩ fun k x δ hk hx ⟨T, U, x5, e, nT, nU, ik⟩ => by
        subst e
        obtain ⟨hk2, rfl⟩ := rg_get hx
        refine ⟨_, rfl, ?_⟩
        obtain ⟨T1, U1, g1, f1, nT1, nU1, j1⟩ := plain_one p r c k 0 T U hk none none hp hk2 c5 (.inl rfl) nT nU ik
        obtain ⟨T2, U2, g2, f2, nT2, nU2, j2⟩ := plain_one p r c k 1 T1 U1 g1 none none hp hk2 c5 (.inr rfl) nT1 nU1 j1
        refine ⟨_, g2, ?_, T2, U2, some (.int (k : Int)), rfl, nT2, nU2, j2⟩
        rw [sSeq_a]
        simp only [List.set_cons_succ, List.set_cons_zero]
        refine Eq.trans (congrArg (fun z => Fl.bind z _) f1) ?_
        exact f2
      obtain ⟨δ', h6, e, T, U, x5, rfl, nT, nU, i6⟩ := key
      refine ⟨T, U, x5, h6, ?_, nT, nU, i6⟩
      have m := mul_ok (i := (r : Int)) (j := (c : Int)) (by omega) (by omega)
      have rg : rg1 [.int ((r : Int) * (c : Int))] = some (rgD 0 (r * c)) := by
        have := rg1_n (r * c) (by omega)
        rw [Int.natCast_mul] at this
        exact this
      push_cast [e5, List.append_nil, hq, m, rg]
      exact e
    · refine ⟨_, _, none, h5, ?_, na, nb, i5⟩
      push_cast [e5, List.append_nil, hq]
  obtain ⟨T, U, x5, h6, em, nT, nU, i6⟩ := mid
  have a := toL_tab nT r1 r5 c1 c5 fun z => ⟨rp z, cp z⟩
  have b := toL_tab nU r1 r5 c1 c5 fun z => ⟨rp z, cp z⟩
  obtain ⟨_, h7, e7, rfl, i7⟩ := E_passed p r c (toL T r c) (toL U r c) h6 hp a b i6
  have e8 := E_plain p r c (toL T r c) (toL U r c) h7 hp a b
  have al := all_len (p := p) (A := toL T r c) (B := toL U r c) r5 c5
  have e9 := E_products p r c (allC p r c (toL T r c) (toL U r c)) h7 hp (by omega) (all_prd hp a b)
  have e10 := E_cells p r c (toL T r c) (toL U r c) h7 hp a b
  have e11 := exact_refl 5 (.tup (allC p r c (toL T r c) (toL U r c))) h7 (.inr ⟨_, rfl, by omega, fun x hx => (all_prd hp a b x hx).ex r5 c5⟩)
  have e12 := E_right p r c (toL T r c) (toL U r c) h7 hp a b
  refine ⟨.bl true, h7, ?_, rfl, i7⟩
  have fz : frzL [tabH T r c, tabH U r c] = [tabD (toL T r c), tabD (toL U r c)] := by
    unfold frzL frzL frzL
    rw [frz_tab' nT, frz_tab' nU]
  have fs : frzS 4 [some .me, some (.int p), some (.int r), some (.int c), some (.hl [tabH T r c, tabH U r c]), x5, none, none] = [some .me, some (.int p), some (.int r), some (.int c), some (.lst [tabD (toL T r c), tabD (toL U r c)]), x5, none, none] := by
    rw [← fz]
    rfl
  have v6 : ∀ h, vmD (some (some (pairI p r c (toL T r c) (toL U r c)))) h = .ok (pairI p r c (toL T r c) (toL U r c)) h := fun h => rfl
  unfold F__law_plain
  simp only [runF, sSeq_a, sSet_a, List.map, List.append, List.length_cons, List.length_nil, Nat.reduceAdd, Nat.reduceSub, List.replicate, List.cons_append, List.nil_append, eCall_a, eCons_a, eNil_a, eVm_a, eC_a, List.getElem?_cons_zero, List.getElem?_cons_succ, vmD_me, vmD_int, bind_okE, List.append_nil, if_true, e1, e2, fl_okE, seq_nx, List.set_cons_succ, List.set_cons_zero, eLst_a, e3, e4, sz_n 2 (by omega), of_someE]
  rw [em]
  simp only [seq_nx, sSeq_a, sFrz_a, fs]
  push_cast [e7, e8, e9, e10, e11, e12, v6, vm_prog, List.append_nil, Bool.and_true]
end N71
set_option exponentiation.threshold 20000
namespace N71
open PySem PySem.Spec L2 Fw
def placedL (p : Int) (u : List D) (a n : Nat) : List D := List.replicate a (zeroD p) ++ u ++ List.replicate (n - a - u.length) (zeroD p)
theorem E_placed_row (p : Int) (u : List D) (a n : Nat) (h : D) (hu : a + u.length ≤ n) (hn : n ≤ 300) : F_placed_row [fig p, .tup u, .int a, .int n] h = .ok (.tup (placedL p u a n)) h := by
  have z1 := E_zero_row p a h (by omega)
  have z2 := E_zero_row p (n - a - u.length) h (by omega)
  have es : (n : Int) - (a : Int) - (u.length : Int) = ((n - a - u.length : Nat) : Int) := by omega
  have p1 := plus_t (List.replicate a (zeroD p)) u (by rw [List.length_replicate]; omega)
  have p2 := plus_t (List.replicate a (zeroD p) ++ u) (List.replicate (n - a - u.length) (zeroD p)) (by rw [List.length_append, List.length_replicate, List.length_replicate]; omega)
  unfold F_placed_row placedL
  push_cast [vd_fig, vm_fig, z1, List.append_nil, p1, sfz, es, z2, p2]
theorem E_law_placed (p : Int) (u : List D) (a n : Nat) (h : D) (hu : a + u.length ≤ n) (hn : n ≤ 300) : F__law_placed [.int p, .tup u, .int a, .int n] h = .ok (.tup (placedL p u a n)) h := by
  have z := E_num0' p h
  have t1 := times_t (zeroD p) a (by omega)
  have t2 := times_t (zeroD p) (n - a - u.length) (by omega)
  have es : (n : Int) - (a : Int) - (u.length : Int) = ((n - a - u.length : Nat) : Int) := by omega
  have p1 := plus_t (List.replicate a (zeroD p)) u (by rw [List.length_replicate]; omega)
  have p2 := plus_t (List.replicate a (zeroD p) ++ u) (List.replicate (n - a - u.length) (zeroD p)) (by rw [List.length_append, List.length_replicate, List.length_replicate]; omega)
  unfold F__law_placed placedL
  push_cast [z, List.append_nil, sz_n 1 (by omega), t1, Fw.kTup, p1, sfz, es, t2, p2]
theorem num_row (p : Int) (n v : Nat) (δ : DE) (h : D) (hp : Pr p) (hh : HandI h) (h0 : ∀ x, (δ.set v x)[0]? = some (some .me)) (h1 : ∀ x, (δ.set v x)[1]? = some (some (.int p))) : ∃ ys h', lcGo (bNm v) tYesD (eCall 2 F__law_number [] (eCons (eVm 0) (eCons (eVm 1) eNil))) δ (rgD 0 n) h = .ok ys h' ∧ Row p n ys ∧ HandI h' := by
  obtain ⟨ys, h', e, l, k, i⟩ := lc_draw (bind := bNm v) (elt := eCall 2 F__law_number [] (eCons (eVm 0) (eCons (eVm 1) eNil))) (δ := δ) (I := HandI) (R := NuD p) (rgD 0 n) h hh fun x hx g gi => by
    obtain ⟨d, g1, e1, n1, i1⟩ := E_number p g hp gi
    refine ⟨_, rfl, d, g1, ?_, n1, i1⟩
    push_cast [h0, h1, e1, List.append_nil]
  exact ⟨ys, h', e, ⟨by rw [l, rg_len], k⟩, i⟩
/-- a drawn program: its sizes, its products -/
def partD (r c : Nat) (ps : List D) : D := .lst [.int r, .int c, .tup ps]
structure Part (p : Int) (r c : Nat) (ps : List D) : Prop where
  r1 : 1 ≤ r
  r2 : r ≤ 2
  c1 : 1 ≤ c
  c2 : c ≤ 2
  l : ps.length ≤ 4
  k : ∀ x ∈ ps, Prd p r c x
theorem E_free_program (p : Int) (h : D) (hp : Pr p) (hh : HandI h) : Dr (F__law_free_program [.me, .int p, .int 2] h) fun d => ∃ r c ps, d = partD r c ps ∧ Part p r c ps := by
  obtain ⟨q1, h1, e1, a0, a1, i1⟩ := E_take 2 h hh (by decide) (by decide)
  obtain ⟨q2, h2, e2, b0, b1, i2⟩ := E_take 2 h1 i1 (by decide) (by decide)
  obtain ⟨q3, h3, e3, c0, c1, i3⟩ := E_take 5 h2 i2 (by decide) (by decide)
  obtain ⟨r, hr⟩ : ∃ r : Nat, (1 : Int) + q1 = r := ⟨(1 + q1).toNat, by omega⟩
  obtain ⟨c, hc⟩ : ∃ c : Nat, (1 : Int) + q2 = c := ⟨(1 + q2).toNat, by omega⟩
  obtain ⟨n, hn⟩ : ∃ n : Nat, q3 = n := ⟨q3.toNat, by omega⟩
  subst hn
  have key := for_all (bind := bNm 6) (body := (sSeq (sSet 7 (eBi kTup (eCons (eFz (eLc [8] (iRg rg1 (eCons (eV 3) eNil)) (bNm 8) tYesD (eCall 2 F__law_number [] (eCons (eVm 0) (eCons (eVm 1) eNil))))) eNil)))
    (sSeq (sSet 9 (eBi kTup (eCons (eFz (eLc [10] (iRg rg1 (eCons (eV 4) eNil)) (bNm 10) tYesD (eCall 2 F__law_number [] (eCons (eVm 0) (eCons (eVm 1) eNil))))) eNil)))
    (sApp (pV 5) (eTup (eCons (eV 7) (eCons (eV 9) (eCons (eCall 2 F__law_number [] (eCons (eVm 0) (eCons (eVm 1) eNil))) (eCons (eCall 2 F__law_number [] (eCons (eVm 0) (eCons (eVm 1) eNil))) eNil))))))))) (fun k δ h' => ∃ ps x6 x7 x8 x9 x10, δ = [some .me, some (.int p), some (.int 2), some (.int r), some (.int c), some (.hl ps), x6, x7, x8, x9, x10] ∧ ps.length = k ∧ (∀ x ∈ ps, Prd p r c x) ∧ HandI h') (rgD 0 n) [some .me, some (.int p), some (.int 2), some (.int r), some (.int c), some (.hl []), none, none, none, none, none] h3 ⟨[], none, none, none, none, none, rfl, rfl, (fun x hx => nomatch hx), i3⟩ fun k x δ g hx ⟨ps, x6, x7, x8, x9, x10, e, l, kp, ik⟩ => by
    subst e
    obtain ⟨hk, rfl⟩ := rg_get hx
    refine ⟨_, rfl, ?_⟩
    obtain ⟨u, g1, f1, ru, j1⟩ := num_row p r 8 [some .me, some (.int p), some (.int 2), some (.int r), some (.int c), some (.hl ps), some (.int (k : Int)), x7, none, x9, x10] g hp ik (fun x => rfl) (fun x => rfl)
    obtain ⟨v, g2, f2, rv, j2⟩ := num_row p c 10 [some .me, some (.int p), some (.int 2), some (.int r), some (.int c), some (.hl ps), some (.int (k : Int)), some (.tup u), x8, x9, none] g1 hp j1 (fun x => rfl) (fun x => rfl)
    obtain ⟨y, g3, f3, ny, j3⟩ := E_number p g2 hp j2
    obtain ⟨z, g4, f4, nz, j4⟩ := E_number p g3 hp j3
    refine ⟨_, g4, ?_, ps ++ [.tup [.tup u, .tup v, y, z]], some (.int (k : Int)), some (.tup u), x8, some (.tup v), x10, rfl, by rw [List.length_append, l]; rfl, fun w hw => ?_, j4⟩
    · push_cast [rg1_n r (by omega), rg1_n c (by omega), wipeD, rg_len, sz_n r (by omega), sz_n c (by omega), f1, f2, sfz, Fw.kTup, plD, getP, plS, setP, D.nm, List.append_nil, f3, f4, sz_n 4 (by omega), sz_n ps.length (by omega)]
    · rcases List.mem_append.mp hw with hw | hw
      · exact kp w hw
      · rw [List.mem_singleton.mp hw]
        exact ⟨u, v, y, z, rfl, ru, rv, ny, nz⟩
  obtain ⟨δ', h4, e4, ps, x6, x7, x8, x9, x10, rfl, l, kp, i4⟩ := key
  rw [rg_len] at l
  refine ⟨_, h4, ?_, ⟨r, c, ps, rfl, ⟨by omega, by omega, by omega, by omega, by omega, kp⟩⟩, i4⟩
  have fz : frzL ps = ps := frzL_id _ fun d hd => by
    obtain ⟨u, v, x, y, rfl, _⟩ := kp d hd
    rfl
  unfold F__law_free_program partD
  push_cast [e1, e2, hr, hc, List.append_nil, sz_n 0 (by omega), e3, rg1_n n (by omega), e4, frz, fz, Fw.kTup, sfz, sz_n 3 (by omega)]
end N71
set_option exponentiation.threshold 20000
namespace N71
open PySem PySem.Spec L2 Fw
def placeP (p : Int) (a b R C : Nat) (d : D) : D := match d with
  | .tup [.tup u, .tup v, x, y] => .tup [.tup (placedL p u a R), .tup (placedL p v b C), x, y]
  | d => d
/-- one program's products, placed -/
theorem corner_in (p : Int) (r c a b R C : Nat) (ps : List D) (pr prog : D) (made : List D) (h : D) (x8 x9 x10 x11 : Option D) (hp : Pr p) (ha : a + r ≤ R) (hb : b + c ≤ C) (hR : R ≤ 300) (hC : C ≤ 300) (hm : made.length + ps.length ≤ 100) (k : ∀ x ∈ ps, Prd p r c x) :
    ∃ y8 y9 y10 y11, forGo (bTp [(bNm 8), (bNm 9), (bNm 10), (bNm 11)]) (sSeq (sSet 8 (eCall 4 F_placed_row [] (eCons (eVm 0) (eCons (eVm 8) (eCons (eVm 5) (eCons (eVm 1) eNil))))))
    (sApp (pV 4) (eTup (eCons (eV 8) (eCons (eCall 4 F_placed_row [] (eCons (eVm 0) (eCons (eVm 9) (eCons (eVm 6) (eCons (eVm 2) eNil))))) (eCons (eV 10) (eCons (eV 11) eNil))))))) ps [some (fig p), some (.int R), some (.int C), some pr, some (.hl made), some (.int a), some (.int b), some prog, x8, x9, x10, x11] h = .nx [some (fig p), some (.int R), some (.int C), some pr, some (.hl (made ++ ps.map (placeP p a b R C))), some (.int a), some (.int b), some prog, y8, y9, y10, y11] h := by
  have key := for_all (bind := bTp [(bNm 8), (bNm 9), (bNm 10), (bNm 11)]) (body := (sSeq (sSet 8 (eCall 4 F_placed_row [] (eCons (eVm 0) (eCons (eVm 8) (eCons (eVm 5) (eCons (eVm 1) eNil))))))
    (sApp (pV 4) (eTup (eCons (eV 8) (eCons (eCall 4 F_placed_row [] (eCons (eVm 0) (eCons (eVm 9) (eCons (eVm 6) (eCons (eVm 2) eNil))))) (eCons (eV 10) (eCons (eV 11) eNil)))))))) (fun m δ h' => h' = h ∧ ∃ y8 y9 y10 y11, δ = [some (fig p), some (.int R), some (.int C), some pr, some (.hl (made ++ (ps.take m).map (placeP p a b R C))), some (.int a), some (.int b), some prog, y8, y9, y10, y11]) ps [some (fig p), some (.int R), some (.int C), some pr, some (.hl made), some (.int a), some (.int b), some prog, x8, x9, x10, x11] h ⟨rfl, x8, x9, x10, x11, by rw [List.take_zero, List.map_nil, List.append_nil]⟩ fun m d δ g hx ⟨e1, y8, y9, y10, y11, e2⟩ => by
    subst e1 e2
    have hl := (List.getElem?_eq_some_iff.mp hx).1
    have ex := (List.getElem?_eq_some_iff.mp hx).2
    obtain ⟨u, v, x, y, rfl, hu, hv, nx, ny⟩ := k d (List.mem_of_getElem? hx)
    have f1 := E_placed_row p u a R g (by rw [hu.1]; exact ha) hR
    have f2 := E_placed_row p v b C g (by rw [hv.1]; exact hb) hC
    have tk : made ++ (ps.take (m + 1)).map (placeP p a b R C) = (made ++ (ps.take m).map (placeP p a b R C)) ++ [.tup [.tup (placedL p u a R), .tup (placedL p v b C), x, y]] := by
      rw [List.take_succ_eq_append_getElem hl, ex, List.map_append, List.append_assoc]
      rfl
    have sz : szOk (made ++ (ps.take m).map (placeP p a b R C)).length = true := sz_n _ (by rw [List.length_append, List.length_map, List.length_take]; omega)
    refine ⟨_, rfl, _, g, ?_, rfl, some (.tup (placedL p u a R)), some (.tup v), some x, some y, rfl⟩
    rw [tk]
    push_cast [vm_fig, f1, f2, List.append_nil, nx.vd, ny.vd, plD, getP, plS, setP, D.nm, sz, sz_n 4 (by omega)]
  obtain ⟨δ', h', e, rfl, y8, y9, y10, y11, rfl⟩ := key
  rw [List.take_length] at e
  exact ⟨y8, y9, y10, y11, e⟩
/-- a part: rows, columns, products -/
abbrev Pt := Nat × Nat × List D
def progT (p : Int) (t : Pt) : D := progI p t.1 t.2.1 t.2.2
def cornerL (p : Int) (R C : Nat) : Nat → Nat → List Pt → List D
  | _, _, [] => []
  | a, b, t :: ts => t.2.2.map (placeP p a b R C) ++ cornerL p R C (a + t.1) (b + t.2.1) ts
def sumR (ts : List Pt) : Nat := (ts.map fun t => t.1).sum
def sumC (ts : List Pt) : Nat := (ts.map fun t => t.2.1).sum
def sumL (ts : List Pt) : Nat := (ts.map fun t => t.2.2.length).sum
theorem placeP_fr {p : Int} {a b R C r c : Nat} {d : D} (h : Prd p r c d) : (placeP p a b R C d).fr = true := by
  obtain ⟨u, v, x, y, rfl, _⟩ := h
  rfl
theorem corner_out (p : Int) (R C : Nat) (pr : D) (h : D) (hp : Pr p) (hR : R ≤ 300) (hC : C ≤ 300) : ∀ (ts : List Pt) (a b : Nat) (made : List D) (x7 x8 x9 x10 x11 : Option D), a + sumR ts ≤ R → b + sumC ts ≤ C → made.length + sumL ts ≤ 100 → (∀ t ∈ ts, ∀ x ∈ t.2.2, Prd p t.1 t.2.1 x) →
    ∃ z5 z6 y7 y8 y9 y10 y11, forGo (bNm 7) (sSeq (sFor (iOwnI "Program" "products" (eV 7)) (bTp [(bNm 8), (bNm 9), (bNm 10), (bNm 11)]) (sSeq (sSet 8 (eCall 4 F_placed_row [] (eCons (eVm 0) (eCons (eVm 8) (eCons (eVm 5) (eCons (eVm 1) eNil))))))
    (sApp (pV 4) (eTup (eCons (eV 8) (eCons (eCall 4 F_placed_row [] (eCons (eVm 0) (eCons (eVm 9) (eCons (eVm 6) (eCons (eVm 2) eNil))))) (eCons (eV 10) (eCons (eV 11) eNil))))))))
    (sPar 5 6 (eCons (eOp oAdd (eV 5) (eAtV 7 "rows")) (eCons (eOp oAdd (eV 6) (eAtV 7 "columns")) eNil)))) (ts.map (progT p)) [some (fig p), some (.int R), some (.int C), some pr, some (.hl made), some (.int a), some (.int b), x7, x8, x9, x10, x11] h = .nx [some (fig p), some (.int R), some (.int C), some pr, some (.hl (made ++ cornerL p R C a b ts)), z5, z6, y7, y8, y9, y10, y11] h
  | [], a, b, made, x7, x8, x9, x10, x11, _, _, _, _ => by
    refine ⟨some (.int a), some (.int b), x7, x8, x9, x10, x11, ?_⟩
    show Fl.nx _ _ = _
    unfold cornerL
    rw [List.append_nil]
  | t :: ts, a, b, made, x7, x8, x9, x10, x11, h1, h2, h3, k => by
    have s1 : sumR (t :: ts) = t.1 + sumR ts := by unfold sumR; rw [List.map_cons, List.sum_cons]
    have s2 : sumC (t :: ts) = t.2.1 + sumC ts := by unfold sumC; rw [List.map_cons, List.sum_cons]
    have s3 : sumL (t :: ts) = t.2.2.length + sumL ts := by unfold sumL; rw [List.map_cons, List.sum_cons]
    obtain ⟨y8, y9, y10, y11, e⟩ := corner_in p t.1 t.2.1 a b R C t.2.2 pr (progT p t) made h x8 x9 x10 x11 hp (by omega) (by omega) hR hC (by omega) (k t List.mem_cons_self)
    obtain ⟨z5, z6, w7, w8, w9, w10, w11, e2⟩ := corner_out p R C pr h hp hR hC ts (a + t.1) (b + t.2.1) (made ++ t.2.2.map (placeP p a b R C)) (some (progT p t)) y8 y9 y10 y11 (by omega) (by omega) (by rw [List.length_append, List.length_map]; omega) fun s hs => k s (List.mem_cons_of_mem _ hs)
    refine ⟨z5, z6, w7, w8, w9, w10, w11, ?_⟩
    have ar : (a : Int) + (t.1 : Int) = ((a + t.1 : Nat) : Int) := by omega
    have br : (b : Int) + (t.2.1 : Int) = ((b + t.2.1 : Nat) : Int) := by omega
    have ir : ∀ g, atvD (some (some (progT p t))) "rows" g = .ok (.int t.1) g := fun g => rfl
    have ic : ∀ g, atvD (some (some (progT p t))) "columns" g = .ok (.int t.2.1) g := fun g => rfl
    have iw : ∀ g, iowD "Program" "products" (progT p t) g = .ok t.2.2 g := fun g => rfl
    have iv : ∀ g, vD (some (some (progT p t))) g = .ok (progT p t) g := fun g => rfl
    rw [List.map_cons]
    unfold cornerL forGo
    rw [← List.append_assoc, ← e2]
    simp only [bNm_a, List.set_cons_succ, List.set_cons_zero, sSeq_a, sFor_a, iOwnI_a, eV_a, List.getElem?_cons_succ, List.getElem?_cons_zero, iv, bind_okE, iw, fl_okE, e]
    push_cast [ir, ic, ar, br]
end N71
set_option exponentiation.threshold 20000
namespace N71
open PySem PySem.Spec L2 Fw
theorem corner_fr {p : Int} {R C : Nat} : ∀ (ts : List Pt) (a b : Nat), (∀ t ∈ ts, ∀ x ∈ t.2.2, Prd p t.1 t.2.1 x) → ∀ d ∈ cornerL p R C a b ts, d.fr = true
  | [], _, _, _, d, hd => nomatch hd
  | t :: ts, a, b, k, d, hd => by
    unfold cornerL at hd
    rcases List.mem_append.mp hd with hd | hd
    · obtain ⟨x, hx, rfl⟩ := List.mem_map.mp hd
      exact placeP_fr (k t List.mem_cons_self x hx)
    · exact corner_fr ts _ _ (fun s hs => k s (List.mem_cons_of_mem _ hs)) d hd
theorem E_corner_products (p : Int) (R C : Nat) (ts : List Pt) (d h : D) (hp : Pr p) (hd : SeqOf (ts.map (progT p)) d) (hR : R ≤ 300) (hC : C ≤ 300) (h1 : sumR ts ≤ R) (h2 : sumC ts ≤ C) (h3 : sumL ts ≤ 100) (k : ∀ t ∈ ts, ∀ x ∈ t.2.2, Prd p t.1 t.2.1 x) : F_corner_products [fig p, .int R, .int C, d] h = .ok (.lst (cornerL p R C 0 0 ts)) h := by
  obtain ⟨z5, z6, y7, y8, y9, y10, y11, e⟩ := corner_out p R C d h hp hR hC ts 0 0 [] none none none none none (by omega) (by omega) (by simpa using h3) k
  rw [List.nil_append] at e
  have fz := frzL_id _ (corner_fr (R := R) (C := C) ts 0 0 k)
  have n0 : ((0 : Nat) : Int) = 0 := rfl
  rw [n0] at e
  unfold F_corner_products
  push_cast [sz_n 0 (by omega), hd.vd, hd.itS, e, frz, fz]
def partT (t : Pt) : D := partD t.1 t.2.1 t.2.2
theorem due_in (p : Int) (r c a b R C : Nat) (ps : List D) (pr pt : D) (made : List D) (h : D) (x8 x9 x10 x11 : Option D) (ha : a + r ≤ R) (hb : b + c ≤ C) (hR : R ≤ 300) (hC : C ≤ 300) (hm : made.length + ps.length ≤ 100) (k : ∀ x ∈ ps, Prd p r c x) :
    ∃ y8 y9 y10 y11, forGo (bTp [(bNm 8), (bNm 9), (bNm 10), (bNm 11)]) (sApp (pV 5) (eTup (eCons (eCall 4 F__law_placed [] (eCons (eVm 0) (eCons (eVm 8) (eCons (eVm 6) (eCons (eVm 2) eNil))))) (eCons (eCall 4 F__law_placed [] (eCons (eVm 0) (eCons (eVm 9) (eCons (eVm 7) (eCons (eVm 4) eNil))))) (eCons (eV 10) (eCons (eV 11) eNil)))))) ps [some (.int p), some pr, some (.int R), some pt, some (.int C), some (.hl made), some (.int a), some (.int b), x8, x9, x10, x11] h = .nx [some (.int p), some pr, some (.int R), some pt, some (.int C), some (.hl (made ++ ps.map (placeP p a b R C))), some (.int a), some (.int b), y8, y9, y10, y11] h := by
  have key := for_all (bind := bTp [(bNm 8), (bNm 9), (bNm 10), (bNm 11)]) (body := (sApp (pV 5) (eTup (eCons (eCall 4 F__law_placed [] (eCons (eVm 0) (eCons (eVm 8) (eCons (eVm 6) (eCons (eVm 2) eNil))))) (eCons (eCall 4 F__law_placed [] (eCons (eVm 0) (eCons (eVm 9) (eCons (eVm 7) (eCons (eVm 4) eNil))))) (eCons (eV 10) (eCons (eV 11) eNil))))))) (fun m δ h' => h' = h ∧ ∃ y8 y9 y10 y11, δ = [some (.int p), some pr, some (.int R), some pt, some (.int C), some (.hl (made ++ (ps.take m).map (placeP p a b R C))), some (.int a), some (.int b), y8, y9, y10, y11]) ps [some (.int p), some pr, some (.int R), some pt, some (.int C), some (.hl made), some (.int a), some (.int b), x8, x9, x10, x11] h ⟨rfl, x8, x9, x10, x11, by rw [List.take_zero, List.map_nil, List.append_nil]⟩ fun m d δ g hx ⟨e1, y8, y9, y10, y11, e2⟩ => by
    subst e1 e2
    have hl := (List.getElem?_eq_some_iff.mp hx).1
    have ex := (List.getElem?_eq_some_iff.mp hx).2
    obtain ⟨u, v, x, y, rfl, hu, hv, nx, ny⟩ := k d (List.mem_of_getElem? hx)
    have f1 := E_law_placed p u a R g (by rw [hu.1]; exact ha) hR
    have f2 := E_law_placed p v b C g (by rw [hv.1]; exact hb) hC
    have tk : made ++ (ps.take (m + 1)).map (placeP p a b R C) = (made ++ (ps.take m).map (placeP p a b R C)) ++ [.tup [.tup (placedL p u a R), .tup (placedL p v b C), x, y]] := by
      rw [List.take_succ_eq_append_getElem hl, ex, List.map_append, List.append_assoc]
      rfl
    have sz : szOk (made ++ (ps.take m).map (placeP p a b R C)).length = true := sz_n _ (by rw [List.length_append, List.length_map, List.length_take]; omega)
    refine ⟨_, rfl, _, g, ?_, rfl, some (.tup u), some (.tup v), some x, some y, rfl⟩
    rw [tk]
    push_cast [f1, f2, List.append_nil, nx.vd, ny.vd, plD, getP, plS, setP, D.nm, sz, sz_n 4 (by omega)]
  obtain ⟨δ', h', e, rfl, y8, y9, y10, y11, rfl⟩ := key
  rw [List.take_length] at e
  exact ⟨y8, y9, y10, y11, e⟩
theorem due_out (p : Int) (R C : Nat) (pr : D) (h : D) (hR : R ≤ 300) (hC : C ≤ 300) : ∀ (ts : List Pt) (a b : Nat) (made : List D) (x3 x8 x9 x10 x11 : Option D), a + sumR ts ≤ R → b + sumC ts ≤ C → made.length + sumL ts ≤ 100 → (∀ t ∈ ts, ∀ x ∈ t.2.2, Prd p t.1 t.2.1 x) →
    ∃ z6 z7 y3 y8 y9 y10 y11, forGo (bNm 3) (sSeq (sFor (iSeq (eOp oIx (eV 3) (eC (.int 2)))) (bTp [(bNm 8), (bNm 9), (bNm 10), (bNm 11)]) (sApp (pV 5) (eTup (eCons (eCall 4 F__law_placed [] (eCons (eVm 0) (eCons (eVm 8) (eCons (eVm 6) (eCons (eVm 2) eNil))))) (eCons (eCall 4 F__law_placed [] (eCons (eVm 0) (eCons (eVm 9) (eCons (eVm 7) (eCons (eVm 4) eNil))))) (eCons (eV 10) (eCons (eV 11) eNil)))))))
    (sSeq (sSet 6 (eOp oAdd (eV 6) (eOp oIx (eV 3) (eC (.int 0)))))
    (sSet 7 (eOp oAdd (eV 7) (eOp oIx (eV 3) (eC (.int 1))))))) (ts.map partT) [some (.int p), some pr, some (.int R), x3, some (.int C), some (.hl made), some (.int a), some (.int b), x8, x9, x10, x11] h = .nx [some (.int p), some pr, some (.int R), y3, some (.int C), some (.hl (made ++ cornerL p R C a b ts)), z6, z7, y8, y9, y10, y11] h
  | [], a, b, made, x3, x8, x9, x10, x11, _, _, _, _ => by
    refine ⟨some (.int a), some (.int b), x3, x8, x9, x10, x11, ?_⟩
    show Fl.nx _ _ = _
    unfold cornerL
    rw [List.append_nil]
  | t :: ts, a, b, made, x3, x8, x9, x10, x11, h1, h2, h3, k => by
    have s1 : sumR (t :: ts) = t.1 + sumR ts := by unfold sumR; rw [List.map_cons, List.sum_cons]
    have s2 : sumC (t :: ts) = t.2.1 + sumC ts := by unfold sumC; rw [List.map_cons, List.sum_cons]
    have s3 : sumL (t :: ts) = t.2.2.length + sumL ts := by unfold sumL; rw [List.map_cons, List.sum_cons]
    obtain ⟨y8, y9, y10, y11, e⟩ := due_in p t.1 t.2.1 a b R C t.2.2 pr (partT t) made h x8 x9 x10 x11 (by omega) (by omega) hR hC (by omega) (k t List.mem_cons_self)
    obtain ⟨z6, z7, w3, w8, w9, w10, w11, e2⟩ := due_out p R C pr h hR hC ts (a + t.1) (b + t.2.1) (made ++ t.2.2.map (placeP p a b R C)) (some (partT t)) y8 y9 y10 y11 (by omega) (by omega) (by rw [List.length_append, List.length_map]; omega) fun s hs => k s (List.mem_cons_of_mem _ hs)
    refine ⟨z6, z7, w3, w8, w9, w10, w11, ?_⟩
    have ar : (a : Int) + (t.1 : Int) = ((a + t.1 : Nat) : Int) := by omega
    have br : (b : Int) + (t.2.1 : Int) = ((b + t.2.1 : Nat) : Int) := by omega
    rw [List.map_cons]
    unfold cornerL forGo
    rw [← List.append_assoc, ← e2]
    unfold partT partD at e ⊢
    push_cast [at0, at1, at2, e, ar, br]
end N71
set_option exponentiation.threshold 20000
namespace N71
open PySem PySem.Spec L2 Fw
theorem intL_map (f : Pt → Nat) : ∀ ts : List Pt, intL (ts.map fun t => D.int (f t : Int)) = some (ts.map fun t => (f t : Int))
  | [] => rfl
  | t :: ts => by
    show (intL (ts.map fun t => D.int (f t : Int))).map ((f t : Int) :: ·) = _
    rw [intL_map f ts]
    rfl
theorem sum_cast (f : Pt → Nat) : ∀ ts : List Pt, (ts.map fun t => (f t : Int)).sum = (((ts.map f).sum : Nat) : Int)
  | [] => rfl
  | t :: ts => by
    rw [List.map_cons, List.map_cons, List.sum_cons, List.sum_cons, sum_cast f ts]
    omega
theorem kSum_map (f : Pt → Nat) (ts : List Pt) : kSum [.lst (ts.map fun t => D.int (f t : Int))] = some (.int (((ts.map f).sum : Nat) : Int)) := by
  show (intL (ts.map fun t => D.int (f t : Int))).map (fun ns => D.int ns.sum) = _
  rw [intL_map, Option.map_some, sum_cast]
theorem lc_ts {v : Nat} {elt : EF D} {δ : DE} {h : D} (g : Pt → D) (f : Pt → Nat) (ts : List Pt) (k : ∀ t ∈ ts, elt (δ.set v (some (g t))) h = .ok (.int (f t : Int)) h) : lcGo (bNm v) tYesD elt δ (ts.map g) h = .ok (ts.map fun t => D.int (f t : Int)) h := by
  induction ts with
  | nil => rfl
  | cons t ts ih =>
    have ih2 := ih fun s hs => k s (List.mem_cons_of_mem _ hs)
    rw [List.map_cons]
    unfold lcGo
    simp only [bNm_a, tYesD, nox_okE, bind_okE, if_true, k t List.mem_cons_self, ih2, List.map_cons]
theorem E_corner_due (p : Int) (ts : List Pt) (h : D) (hl : ts.length ≤ 5) (h1 : sumR ts ≤ 300) (h2 : sumC ts ≤ 300) (h3 : sumL ts ≤ 100) (k : ∀ t ∈ ts, ∀ x ∈ t.2.2, Prd p t.1 t.2.1 x) : F__law_corner_due [.int p, .lst (ts.map partT)] h = .ok (.tup (cornerL p (sumR ts) (sumC ts) 0 0 ts)) h := by
  have l1 := lc_ts (v := 3) (elt := eOp oIx (eV 3) (eC (.int 0))) (δ := [some (.int p), some (.lst (ts.map partT)), none, none, none, none, none, none, none, none, none, none]) (h := h) partT (fun t => t.1) ts fun t ht => by
    unfold partT partD
    push_cast [at0]
  have l2 := lc_ts (v := 3) (elt := eOp oIx (eV 3) (eC (.int 1))) (δ := [some (.int p), some (.lst (ts.map partT)), some (.int (sumR ts)), none, none, none, none, none, none, none, none, none]) (h := h) partT (fun t => t.2.1) ts fun t ht => by
    unfold partT partD
    push_cast [at1]
  obtain ⟨z6, z7, y3, y8, y9, y10, y11, e⟩ := due_out p (sumR ts) (sumC ts) (.lst (ts.map partT)) h h1 h2 ts 0 0 [] none none none none none (by omega) (by omega) (by simpa using h3) k
  rw [List.nil_append] at e
  have fz := frzL_id _ (corner_fr (R := sumR ts) (C := sumC ts) ts 0 0 k)
  have n0 : ((0 : Nat) : Int) = 0 := rfl
  rw [n0] at e
  have lz : szOk (ts.map partT).length = true := sz_n _ (by rw [List.length_map]; omega)
  have k1 : kSum [.lst (ts.map fun t => D.int (t.1 : Int))] = some (.int (sumR ts : Int)) := kSum_map (fun t => t.1) ts
  have k2 : kSum [.lst (ts.map fun t => D.int (t.2.1 : Int))] = some (.int (sumC ts : Int)) := kSum_map (fun t => t.2.1) ts
  unfold F__law_corner_due
  push_cast [wipeD, List.length_map, sz_n ts.length (by omega), l1, l2, sfz, k1, k2, sz_n 0 (by omega), e, frz, fz, Fw.kTup]
end N71
set_option exponentiation.threshold 20000
namespace N71
open PySem PySem.Spec L2 Fw
theorem ms_fig : msOf [("Figures", true)] "Figures" = some true := (rfl)
theorem E_fig_eq (p q : Int) (h : D) : F_Figures___eq__ [fig p, fig q] h = .ok (.bl (decide (p = q))) h := by
  unfold F_Figures___eq__ fig
  push_cast [ms_fig, Bool.true_and]
theorem ne_fig {p q : Int} {fa fb : EF D} {δ : DE} {h : D} (e1 : fa δ h = .ok (fig p) h) (e2 : fb δ h = .ok (fig q) h) : eNeI "Figures" F_Figures___eq__ fa fb δ h = .ok (.bl (!decide (p = q))) h := by
  have f := E_fig_eq p q h
  rw [eNeI_a, e1, bind_okE, e2, bind_okE]
  unfold fig at f ⊢
  show (if ("Figures" : Str) = "Figures" ∧ ("Figures" : Str) = "Figures" then (F_Figures___eq__ _ h).nox.bind _ else Ex.bad) = _
  rw [if_pos ⟨rfl, rfl⟩, f]
  rfl
theorem prog_f {p : Int} {t : Pt} {h : D} : atvD (some (some (progT p t))) "figures" h = .ok (fig p) h := (rfl)
theorem prog_r {p : Int} {t : Pt} {h : D} : atvD (some (some (progT p t))) "rows" h = .ok (.int t.1) h := (rfl)
theorem prog_c {p : Int} {t : Pt} {h : D} : atvD (some (some (progT p t))) "columns" h = .ok (.int t.2.1) h := (rfl)
theorem prog_tf {p : Int} {t : Pt} {h : D} : attD (progT p t) "figures" h = .ok (fig p) h := (rfl)
theorem beside_ok (p : Int) (ts : List Pt) (d h : D) (hp : Pr p) (hd : SeqOf (ts.map (progT p)) d) (hl1 : 1 ≤ ts.length) (hl : ts.length ≤ 5) (h1 : sumR ts ≤ 300) (h2 : sumC ts ≤ 300) (h3 : sumL ts ≤ 100) (k : ∀ t ∈ ts, ∀ x ∈ t.2.2, Prd p t.1 t.2.1 x) (x : D)
    (hm : ∀ (δ : DE) (fs : EF (List D)), fs δ h = .ok [fig p, .int (sumR ts), .int (sumC ts), .lst (cornerL p (sumR ts) (sumC ts) 0 0 ts)] h → eMake "Program" 5 F_Program___init__ [] fs δ h = .ok x h) : F_programs_beside [d] h = .ok x h := by
  have at0' : ∃ t, atI (ts.map (progT p)) 0 = some (progT p t) := by
    have hl0 : 0 < ts.length := by omega
    exact ⟨ts[0], atI_n (i := 0) (by rw [List.getElem?_map, List.getElem?_eq_getElem hl0]; rfl)⟩
  obtain ⟨t0, et⟩ := at0'
  have ix0 : oIx d (.int 0) = some (progT p t0) := by rcases hd with rfl | rfl <;> exact et
  have loop := for_all (bind := bNm 2) (body := sIf (eT (eNeI "Figures" F_Figures___eq__ (eAtV 2 "figures") (eV 1))) (sRaise0 "Unlike") sNil) (fun m δ h' => h' = h ∧ ∃ x, δ = [some d, some (fig p), x, none, none]) (ts.map (progT p)) [some d, some (fig p), none, none, none] h ⟨rfl, none, rfl⟩ fun m x δ g hx ⟨e1, y, e2⟩ => by
    subst e1 e2
    rw [List.getElem?_map] at hx
    obtain ⟨t, ht, rfl⟩ : ∃ t, ts[m]? = some t ∧ progT p t = x := by
      cases z : ts[m]? with
      | none => rw [z] at hx; cases hx
      | some t => rw [z] at hx; exact ⟨t, rfl, Option.some.inj hx⟩
    refine ⟨_, rfl, [some d, some (fig p), some (progT p t), none, none], g, ?_, rfl, _, rfl⟩
    have ne := ne_fig (p := p) (q := p) (fa := eAtV 2 "figures") (fb := eV 1) (δ := [some d, some (fig p), some (progT p t), none, none]) (h := g) rfl rfl
    rw [decide_eq_true rfl] at ne
    simp only [List.set_cons_succ, List.set_cons_zero, sIf_a, eT_a, ne, bind_okE, bD, fl_okE, Bool.not_true, Bool.false_eq_true, if_false, sNil_a]
  obtain ⟨δ', h', e, rfl, x2, rfl⟩ := loop
  have l1 := fun x => lc_ts (v := 2) (elt := eAtV 2 "rows") (δ := [some d, some (fig p), x, none, none]) (h := h') (progT p) (fun t => t.1) ts fun t ht => rfl
  have l2 := fun x => lc_ts (v := 2) (elt := eAtV 2 "columns") (δ := [some d, some (fig p), x, some (.int (sumR ts)), none]) (h := h') (progT p) (fun t => t.2.1) ts fun t ht => rfl
  have k1 : kSum [.lst (ts.map fun t => D.int (t.1 : Int))] = some (.int (sumR ts : Int)) := kSum_map (fun t => t.1) ts
  have k2 : kSum [.lst (ts.map fun t => D.int (t.2.1 : Int))] = some (.int (sumC ts : Int)) := kSum_map (fun t => t.2.1) ts
  have cp := E_corner_products p (sumR ts) (sumC ts) ts d h' hp hd h1 h2 (Nat.le_refl _) (Nat.le_refl _) h3 k
  have m := hm [some d, some (fig p), x2, some (.int (sumR ts)), some (.int (sumC ts))] (eCons (eV 1) (eCons (eV 3) (eCons (eV 4) (eCons (eCall 4 F_corner_products [] (eCons (eVm 1) (eCons (eVm 3) (eCons (eVm 4) (eCons (eVm 0) eNil))))) eNil)))) (by push_cast [vd_fig, vm_fig, hd.vm', cp, List.append_nil])
  have lz : szOk (ts.map (progT p)).length = true := sz_n _ (by rw [List.length_map]; omega)
  have le1 : decide ((1 : Int) ≤ (ts.map (progT p)).length) = true := decide_eq_true (by rw [List.length_map]; omega)
  have le5 : decide (((ts.map (progT p)).length : Int) ≤ 5) = true := decide_eq_true (by rw [List.length_map]; omega)
  have ft : attD (progT p t0) "figures" h' = .ok (fig p) h' := rfl
  unfold F_programs_beside
  simp only [runF, sSeq_a, sIf_a, eOr_a, eNot_a, eTru_a, eCall_a, eCons_a, eNil_a, List.map, List.append, List.replicate, List.cons_append, List.nil_append, Nat.reduceSub, Nat.reduceAdd, List.length_cons, List.length_nil, eVm_a, eV_a, List.getElem?_cons_zero, List.getElem?_cons_succ, hd.vm', hd.vd, bind_okE, fl_okE, List.append_nil, E_seq hd, truD, of_someE, Bool.not_true, Bool.false_eq_true, if_false, if_true, eT_a, eCh_a, eC_a, eBi_a, hd.len, oLe_i, le1, le5, bD, sNil_a, seq_nx, sSet_a, eAt_a, eOp_a, ix0, ft, List.set_cons_succ, List.set_cons_zero, sFor_a, iSeq_a, hd.itS, e, eFz_a, eLc_a, eLcL_a, lz, wipeD, l1, l2, sfz, k1, k2, sRet_a, m, fl_excE]
theorem beside_exc (p : Int) (ts : List Pt) (d h : D) (hp : Pr p) (hd : SeqOf (ts.map (progT p)) d) (hl1 : 1 ≤ ts.length) (hl : ts.length ≤ 5) (h1 : sumR ts ≤ 300) (h2 : sumC ts ≤ 300) (h3 : sumL ts ≤ 100) (k : ∀ t ∈ ts, ∀ x ∈ t.2.2, Prd p t.1 t.2.1 x) (n : Str) (xs : List (Str × D))
    (hm : ∀ (δ : DE) (fs : EF (List D)), fs δ h = .ok [fig p, .int (sumR ts), .int (sumC ts), .lst (cornerL p (sumR ts) (sumC ts) 0 0 ts)] h → eMake "Program" 5 F_Program___init__ [] fs δ h = .exc n xs h) : F_programs_beside [d] h = .exc n xs h := by
  have at0' : ∃ t, atI (ts.map (progT p)) 0 = some (progT p t) := by
    have hl0 : 0 < ts.length := by omega
    exact ⟨ts[0], atI_n (i := 0) (by rw [List.getElem?_map, List.getElem?_eq_getElem hl0]; rfl)⟩
  obtain ⟨t0, et⟩ := at0'
  have ix0 : oIx d (.int 0) = some (progT p t0) := by rcases hd with rfl | rfl <;> exact et
  have loop := for_all (bind := bNm 2) (body := sIf (eT (eNeI "Figures" F_Figures___eq__ (eAtV 2 "figures") (eV 1))) (sRaise0 "Unlike") sNil) (fun m δ h' => h' = h ∧ ∃ x, δ = [some d, some (fig p), x, none, none]) (ts.map (progT p)) [some d, some (fig p), none, none, none] h ⟨rfl, none, rfl⟩ fun m x δ g hx ⟨e1, y, e2⟩ => by
    subst e1 e2
    rw [List.getElem?_map] at hx
    obtain ⟨t, ht, rfl⟩ : ∃ t, ts[m]? = some t ∧ progT p t = x := by
      cases z : ts[m]? with
      | none => rw [z] at hx; cases hx
      | some t => rw [z] at hx; exact ⟨t, rfl, Option.some.inj hx⟩
    refine ⟨_, rfl, [some d, some (fig p), some (progT p t), none, none], g, ?_, rfl, _, rfl⟩
    have ne := ne_fig (p := p) (q := p) (fa := eAtV 2 "figures") (fb := eV 1) (δ := [some d, some (fig p), some (progT p t), none, none]) (h := g) rfl rfl
    rw [decide_eq_true rfl] at ne
    simp only [List.set_cons_succ, List.set_cons_zero, sIf_a, eT_a, ne, bind_okE, bD, fl_okE, Bool.not_true, Bool.false_eq_true, if_false, sNil_a]
  obtain ⟨δ', h', e, rfl, x2, rfl⟩ := loop
  have l1 := fun x => lc_ts (v := 2) (elt := eAtV 2 "rows") (δ := [some d, some (fig p), x, none, none]) (h := h') (progT p) (fun t => t.1) ts fun t ht => rfl
  have l2 := fun x => lc_ts (v := 2) (elt := eAtV 2 "columns") (δ := [some d, some (fig p), x, some (.int (sumR ts)), none]) (h := h') (progT p) (fun t => t.2.1) ts fun t ht => rfl
  have k1 : kSum [.lst (ts.map fun t => D.int (t.1 : Int))] = some (.int (sumR ts : Int)) := kSum_map (fun t => t.1) ts
  have k2 : kSum [.lst (ts.map fun t => D.int (t.2.1 : Int))] = some (.int (sumC ts : Int)) := kSum_map (fun t => t.2.1) ts
  have cp := E_corner_products p (sumR ts) (sumC ts) ts d h' hp hd h1 h2 (Nat.le_refl _) (Nat.le_refl _) h3 k
  have m := hm [some d, some (fig p), x2, some (.int (sumR ts)), some (.int (sumC ts))] (eCons (eV 1) (eCons (eV 3) (eCons (eV 4) (eCons (eCall 4 F_corner_products [] (eCons (eVm 1) (eCons (eVm 3) (eCons (eVm 4) (eCons (eVm 0) eNil))))) eNil)))) (by push_cast [vd_fig, vm_fig, hd.vm', cp, List.append_nil])
  have lz : szOk (ts.map (progT p)).length = true := sz_n _ (by rw [List.length_map]; omega)
  have le1 : decide ((1 : Int) ≤ (ts.map (progT p)).length) = true := decide_eq_true (by rw [List.length_map]; omega)
  have le5 : decide (((ts.map (progT p)).length : Int) ≤ 5) = true := decide_eq_true (by rw [List.length_map]; omega)
  have ft : attD (progT p t0) "figures" h' = .ok (fig p) h' := rfl
  unfold F_programs_beside
  simp only [runF, sSeq_a, sIf_a, eOr_a, eNot_a, eTru_a, eCall_a, eCons_a, eNil_a, List.map, List.append, List.replicate, List.cons_append, List.nil_append, Nat.reduceSub, Nat.reduceAdd, List.length_cons, List.length_nil, eVm_a, eV_a, List.getElem?_cons_zero, List.getElem?_cons_succ, hd.vm', hd.vd, bind_okE, fl_okE, List.append_nil, E_seq hd, truD, of_someE, Bool.not_true, Bool.false_eq_true, if_false, if_true, eT_a, eCh_a, eC_a, eBi_a, hd.len, oLe_i, le1, le5, bD, sNil_a, seq_nx, sSet_a, eAt_a, eOp_a, ix0, ft, List.set_cons_succ, List.set_cons_zero, sFor_a, iSeq_a, hd.itS, e, eFz_a, eLc_a, eLcL_a, lz, wipeD, l1, l2, sfz, k1, k2, sRet_a, m, fl_excE]
end N71
set_option exponentiation.threshold 20000
namespace N71
open PySem PySem.Spec L2 Fw
theorem ask_ok {d x h : D} (hv : vmD (some (some d)) h = .ok d h) (e : F_programs_beside [d] h = .ok x h) : F__law_asked [d] h = .ok x h := by
  unfold F__law_asked
  simp only [runF, List.map, List.append, List.length_cons, List.length_nil, Nat.reduceAdd, Nat.reduceSub, List.replicate, List.cons_append, List.nil_append, sTry_a, sRet_a, eCall_a, eCons_a, eNil_a, eVm_a, List.getElem?_cons_zero, hv, bind_okE, List.append_nil, if_true, e, fl_okE]
theorem ask_exc {d h : D} {n : Str} {fs : List (Str × D)} (hv : vmD (some (some d)) h = .ok d h) (e : F_programs_beside [d] h = .exc n fs h) (cs : List Cz) (u : D) :
    (sTry (sRet (eCall 1 F_programs_beside [] (eCons (eVm 0) eNil))) cs) [some d, none] h = hdGo cs n fs [some d, none] h := by
  rw [sTry_a]
  simp only [sRet_a, eCall_a, eCons_a, eNil_a, eVm_a, List.getElem?_cons_zero, hv, bind_okE, List.append_nil, List.length_cons, List.length_nil, Nat.reduceAdd, if_true, e, fl_excE]
theorem ask_prog {d h : D} {w : Str} (hv : vmD (some (some d)) h = .ok d h) (e : F_programs_beside [d] h = .exc "BadProgram" (badP w) h) : F__law_asked [d] h = .ok (.lst [.str "program", .int 0, .str w]) h := by
  unfold F__law_asked
  simp only [runF, List.map, List.append, List.length_cons, List.length_nil, Nat.reduceAdd, Nat.reduceSub, List.replicate, List.cons_append, List.nil_append]
  rw [ask_exc hv e _ d]
  rfl
theorem ask_many {d h : D} (hv : vmD (some (some d)) h = .ok d h) (e : F_programs_beside [d] h = .exc "BadMany" [("most", .int 5)] h) : F__law_asked [d] h = .ok (.lst [.str "many", .int 5, .bl true]) h := by
  unfold F__law_asked
  simp only [runF, List.map, List.append, List.length_cons, List.length_nil, Nat.reduceAdd, Nat.reduceSub, List.replicate, List.cons_append, List.nil_append]
  rw [ask_exc hv e _ d]
  rfl
theorem ask_unlike {d h : D} (hv : vmD (some (some d)) h = .ok d h) (e : F_programs_beside [d] h = .exc "Unlike" [] h) : F__law_asked [d] h = .ok (.lst [.str "unlike", .bl true]) h := by
  unfold F__law_asked
  simp only [runF, List.map, List.append, List.length_cons, List.length_nil, Nat.reduceAdd, Nat.reduceSub, List.replicate, List.cons_append, List.nil_append]
  rw [ask_exc hv e _ d]
  rfl
end N71
set_option exponentiation.threshold 20000
namespace N71
open PySem PySem.Spec L2 Fw
theorem many_none (h : D) : F_programs_beside [.non] h = .exc "BadMany" [("most", .int 5)] h := (rfl)
theorem many_int (i : Int) (h : D) : F_programs_beside [.int i] h = .exc "BadMany" [("most", .int 5)] h := (rfl)
theorem many_seq (ds : List D) (d h : D) (hd : SeqOf ds d) (hl : ds.length = 0 ∨ 5 < ds.length) : F_programs_beside [d] h = .exc "BadMany" [("most", .int 5)] h := by
  rcases hl with h0 | h6
  · have n1 : decide ((1 : Int) ≤ (ds.length : Int)) = false := decide_eq_false (by omega)
    unfold F_programs_beside
    push_cast [hd.vd, hd.vm', E_seq hd, List.append_nil, hd.len, n1, flD1]
  · have n1 : decide ((1 : Int) ≤ (ds.length : Int)) = true := decide_eq_true (by omega)
    have n5 : decide ((ds.length : Int) ≤ 5) = false := decide_eq_false (by omega)
    unfold F_programs_beside
    push_cast [hd.vd, hd.vm', E_seq hd, List.append_nil, hd.len, n1, n5, flD1]
/-- a corner's product fits the whole -/
theorem placed_row {p : Int} {u : List D} {r a n : Nat} (hp : Pr p) (hu : Row p r u) (h : a + r ≤ n) : Row p n (placedL p u a n) := by
  refine ⟨?_, fun x hx => ?_⟩
  · unfold placedL
    rw [List.length_append, List.length_append, List.length_replicate, List.length_replicate, hu.1]
    omega
  · unfold placedL at hx
    rcases List.mem_append.mp hx with hx | hx
    · rcases List.mem_append.mp hx with hx | hx
      · rw [(List.mem_replicate.mp hx).2]; exact nu_zero hp
      · exact hu.2 x hx
    · rw [(List.mem_replicate.mp hx).2]; exact nu_zero hp
theorem corner_prd {p : Int} {R C : Nat} (hp : Pr p) : ∀ (ts : List Pt) (a b : Nat), a + sumR ts ≤ R → b + sumC ts ≤ C → (∀ t ∈ ts, ∀ x ∈ t.2.2, Prd p t.1 t.2.1 x) → ∀ d ∈ cornerL p R C a b ts, Prd p R C d
  | [], _, _, _, _, _, d, hd => nomatch hd
  | t :: ts, a, b, h1, h2, k, d, hd => by
    have s1 : sumR (t :: ts) = t.1 + sumR ts := by unfold sumR; rw [List.map_cons, List.sum_cons]
    have s2 : sumC (t :: ts) = t.2.1 + sumC ts := by unfold sumC; rw [List.map_cons, List.sum_cons]
    unfold cornerL at hd
    rcases List.mem_append.mp hd with hd | hd
    · obtain ⟨x, hx, rfl⟩ := List.mem_map.mp hd
      obtain ⟨u, v, y, z, rfl, hu, hv, ny, nz⟩ := k t List.mem_cons_self x hx
      exact ⟨_, _, _, _, rfl, placed_row hp hu (by omega), placed_row hp hv (by omega), ny, nz⟩
    · exact corner_prd hp ts _ _ (by omega) (by omega) (fun s hs => k s (List.mem_cons_of_mem _ hs)) d hd
theorem corner_len {p : Int} {R C : Nat} : ∀ (ts : List Pt) (a b : Nat), (cornerL p R C a b ts).length = sumL ts
  | [], _, _ => rfl
  | t :: ts, a, b => by
    have s3 : sumL (t :: ts) = t.2.2.length + sumL ts := by unfold sumL; rw [List.map_cons, List.sum_cons]
    unfold cornerL
    rw [List.length_append, List.length_map, corner_len ts, s3]
/-- programs side by side: made -/
theorem E_beside (p : Int) (ts : List Pt) (d h : D) (hp : Pr p) (hd : SeqOf (ts.map (progT p)) d) (hl1 : 1 ≤ ts.length) (hl : ts.length ≤ 5) (hr5 : sumR ts ≤ 5) (hc5 : sumC ts ≤ 5) (h3 : sumL ts ≤ 30) (k : ∀ t ∈ ts, ∀ x ∈ t.2.2, Prd p t.1 t.2.1 x) (hs : sideB p (sumR ts) = true) (hc : sideB p (sumC ts) = true) :
    F_programs_beside [d] h = .ok (progI p (sumR ts) (sumC ts) (cornerL p (sumR ts) (sumC ts) 0 0 ts)) h :=
  beside_ok p ts d h hp hd hl1 hl (by omega) (by omega) (by omega) k _ fun δ fs e => eMake_ok e (E_prog p (sumR ts) (sumC ts) _ _ hp hs hc hr5 hc5 (.inl rfl) (by rw [corner_len]; exact h3) (corner_prd hp ts 0 0 (by omega) (by omega) k)) rfl
theorem E_beside_r (p : Int) (ts : List Pt) (d h : D) (hp : Pr p) (hd : SeqOf (ts.map (progT p)) d) (hl1 : 1 ≤ ts.length) (hl : ts.length ≤ 5) (h1 : sumR ts ≤ 300) (h2 : sumC ts ≤ 300) (h3 : sumL ts ≤ 100) (k : ∀ t ∈ ts, ∀ x ∈ t.2.2, Prd p t.1 t.2.1 x) (hs : sideB p (sumR ts) = false) : F_programs_beside [d] h = .exc "BadProgram" (badP "rows") h :=
  beside_exc p ts d h hp hd hl1 hl h1 h2 h3 k _ _ fun δ fs e => eMake_exc e (E_prog_r p _ _ _ hs) rfl
theorem E_beside_c (p : Int) (ts : List Pt) (d h : D) (hp : Pr p) (hd : SeqOf (ts.map (progT p)) d) (hl1 : 1 ≤ ts.length) (hl : ts.length ≤ 5) (h1 : sumR ts ≤ 300) (h2 : sumC ts ≤ 300) (h3 : sumL ts ≤ 100) (k : ∀ t ∈ ts, ∀ x ∈ t.2.2, Prd p t.1 t.2.1 x) (hs : sideB p (sumR ts) = true) (hc : sideB p (sumC ts) = false) : F_programs_beside [d] h = .exc "BadProgram" (badP "columns") h :=
  beside_exc p ts d h hp hd hl1 hl h1 h2 h3 k _ _ fun δ fs e => eMake_exc e (E_prog_c p _ _ _ hs hc) rfl
theorem E_beside_m (p : Int) (ts : List Pt) (d h : D) (hp : Pr p) (hd : SeqOf (ts.map (progT p)) d) (hl1 : 1 ≤ ts.length) (hl : ts.length ≤ 5) (h1 : sumR ts ≤ 300) (h2 : sumC ts ≤ 300) (h3 : sumL ts ≤ 100) (h30 : 30 < sumL ts) (k : ∀ t ∈ ts, ∀ x ∈ t.2.2, Prd p t.1 t.2.1 x) (hs : sideB p (sumR ts) = true) (hc : sideB p (sumC ts) = true) : F_programs_beside [d] h = .exc "BadProgram" (badP "many") h :=
  beside_exc p ts d h hp hd hl1 hl h1 h2 h3 k _ _ fun δ fs e => eMake_exc e (E_prog_m p _ _ _ _ hs hc (.inl rfl) (by rw [corner_len]; exact h30)) rfl
end N71
set_option exponentiation.threshold 20000
namespace N71
open PySem PySem.Spec L2 Fw
theorem unl_loop (p q : Int) (hq : q ≠ p) (t2 : Pt) (d h : D) (rest : List D) : ∀ (ts : List Pt) (x : Option D), ∃ δ, forGo (bNm 2) (sIf (eT (eNeI "Figures" F_Figures___eq__ (eAtV 2 "figures") (eV 1))) (sRaise0 "Unlike") sNil) (ts.map (progT p) ++ progT q t2 :: rest) [some d, some (fig p), x, none, none] h = .exc "Unlike" [] δ h
  | [], x => by
    have ne := ne_fig (p := q) (q := p) (fa := eAtV 2 "figures") (fb := eV 1) (δ := [some d, some (fig p), some (progT q t2), none, none]) (h := h) rfl rfl
    rw [decide_eq_false hq] at ne
    refine ⟨[some d, some (fig p), some (progT q t2), none, none], ?_⟩
    show forGo _ _ (progT q t2 :: rest) _ h = _
    unfold forGo
    simp only [bNm_a, List.set_cons_succ, List.set_cons_zero, sIf_a, eT_a, ne, bind_okE, bD, fl_okE, Bool.not_false, if_true, sRaise0_a]
  | t :: ts, x => by
    have ne := ne_fig (p := p) (q := p) (fa := eAtV 2 "figures") (fb := eV 1) (δ := [some d, some (fig p), some (progT p t), none, none]) (h := h) rfl rfl
    rw [decide_eq_true rfl] at ne
    obtain ⟨δ, ih⟩ := unl_loop p q hq t2 d h rest ts (some (progT p t))
    refine ⟨δ, ?_⟩
    rw [List.map_cons, List.cons_append]
    unfold forGo
    simp only [bNm_a, List.set_cons_succ, List.set_cons_zero, sIf_a, eT_a, ne, bind_okE, bD, fl_okE, Bool.not_true, Bool.false_eq_true, if_false, sNil_a, ih]
theorem E_unlike (p q : Int) (hq : q ≠ p) (t0 t2 : Pt) (ts : List Pt) (rest : List D) (d h : D) (hd : SeqOf ((t0 :: ts).map (progT p) ++ progT q t2 :: rest) d) (hl : ((t0 :: ts).map (progT p) ++ progT q t2 :: rest).length ≤ 5) : F_programs_beside [d] h = .exc "Unlike" [] h := by
  obtain ⟨δ, e⟩ := unl_loop p q hq t2 d h rest (t0 :: ts) none
  have et : atI ((t0 :: ts).map (progT p) ++ progT q t2 :: rest) 0 = some (progT p t0) := at0
  have ix0 : oIx d (.int 0) = some (progT p t0) := by rcases hd with rfl | rfl <;> exact et
  have le1 : decide ((1 : Int) ≤ ((t0 :: ts).map (progT p) ++ progT q t2 :: rest).length) = true := decide_eq_true (by rw [List.length_append, List.length_map, List.length_cons]; omega)
  have le5 : decide ((((t0 :: ts).map (progT p) ++ progT q t2 :: rest).length : Int) ≤ 5) = true := decide_eq_true (by omega)
  have ft : attD (progT p t0) "figures" h = .ok (fig p) h := rfl
  generalize eL : (t0 :: ts).map (progT p) ++ progT q t2 :: rest = L at *
  unfold F_programs_beside
  simp only [runF, sSeq_a, sIf_a, eOr_a, eNot_a, eTru_a, eCall_a, eCons_a, eNil_a, List.map, List.append, List.replicate, List.cons_append, List.nil_append, Nat.reduceSub, Nat.reduceAdd, List.length_cons, List.length_nil, eVm_a, eV_a, List.getElem?_cons_zero, List.getElem?_cons_succ, hd.vm', hd.vd, bind_okE, fl_okE, List.append_nil, E_seq hd, truD, of_someE, Bool.not_true, Bool.false_eq_true, if_false, if_true, eT_a, eCh_a, eC_a, eBi_a, hd.len, oLe_i, le1, le5, bD, sNil_a, seq_nx, sSet_a, eAt_a, eOp_a, ix0, ft, List.set_cons_succ, List.set_cons_zero, sFor_a, iSeq_a, hd.itS, e, seq_exc]
end N71
set_option exponentiation.threshold 20000
namespace N71
open PySem PySem.Spec L2 Fw
theorem lc_gen {v : Nat} {elt : EF D} {δ : DE} {h : D} (g f : Pt → D) (ts : List Pt) (k : ∀ t ∈ ts, elt (δ.set v (some (g t))) h = .ok (f t) h) : lcGo (bNm v) tYesD elt δ (ts.map g) h = .ok (ts.map f) h := by
  induction ts with
  | nil => rfl
  | cons t ts ih =>
    have ih2 := ih fun s hs => k s (List.mem_cons_of_mem _ hs)
    rw [List.map_cons]
    unfold lcGo
    simp only [bNm_a, tYesD, nox_okE, bind_okE, if_true, k t List.mem_cons_self, ih2, List.map_cons]
theorem sum_le (f : Pt → Nat) (m : Nat) : ∀ ts : List Pt, (∀ t ∈ ts, f t ≤ m) → (ts.map f).sum ≤ m * ts.length
  | [], _ => by simp
  | t :: ts, k => by
    have := sum_le f m ts fun s hs => k s (List.mem_cons_of_mem _ hs)
    have := k t List.mem_cons_self
    rw [List.map_cons, List.sum_cons, List.length_cons, Nat.mul_succ]
    omega
theorem sum_ge (f : Pt → Nat) : ∀ ts : List Pt, 1 ≤ ts.length → (∀ t ∈ ts, 1 ≤ f t) → 1 ≤ (ts.map f).sum
  | [], h, _ => by simp at h
  | t :: ts, _, k => by
    have := k t List.mem_cons_self
    rw [List.map_cons, List.sum_cons]
    omega
def greatN (p : Int) : Nat := if p = 0 then 5 else if p < 5 then p.toNat else 5
theorem side_iff {p : Int} (hp : Pr p) {n : Nat} (h1 : 1 ≤ n) : sideB p n = decide (n ≤ greatN p) := by
  have := pr0 hp
  unfold sideB greatN
  have e1 : decide ((1 : Int) ≤ (n : Int)) = true := decide_eq_true (by omega)
  rw [e1, Bool.true_and]
  by_cases h0 : p = 0
  · subst h0
    rw [if_pos rfl, decide_eq_true rfl, Bool.true_or, Bool.and_true]
    exact decide_eq_decide.mpr (by omega)
  · rw [if_neg h0, decide_eq_false h0, Bool.false_or, ← Bool.decide_and]
    refine decide_eq_decide.mpr ?_
    split <;> omega
theorem E_progs (p : Int) (r c : Nat) (ps : List D) (pt : Part p r c ps) (hp : Pr p) : F_Program___init__ [.me, fig p, .int r, .int c, .tup ps] (.ins "Program" []) = .ok .non (progI p r c ps) := by
  have g2 : 2 ≤ greatN p := by
    have := pr0 hp
    unfold greatN
    split
    · omega
    · split <;> omega
  obtain ⟨r1, r2, c1, c2, l, k⟩ := pt
  exact E_prog p r c ps _ hp (by rw [side_iff hp r1]; exact decide_eq_true (by omega)) (by rw [side_iff hp c1]; exact decide_eq_true (by omega)) (by omega) (by omega) (.inr rfl) (by omega) k
theorem eq_r : eqD (.lst [.str "program", .int 0, .str "rows"]) (.lst [.str "program", .int 0, .str "rows"]) = some true := by decide +kernel
theorem eq_c : eqD (.lst [.str "program", .int 0, .str "columns"]) (.lst [.str "program", .int 0, .str "columns"]) = some true := by decide +kernel
theorem eq_m : eqD (.lst [.str "program", .int 0, .str "many"]) (.lst [.str "program", .int 0, .str "many"]) = some true := by decide +kernel
theorem eIsP {n : String} {i : Nat} {δ : DE} {h : D} (p : Int) (r c : Nat) (ps : List D) (e : δ[i]? = some (some (progI p r c ps))) : eIs n (eV i) δ h = .ok (.bl false) h := by
  rw [eIs_a, eV_a, e]
  rfl
end N71
set_option exponentiation.threshold 20000
namespace N71
open PySem PySem.Spec L2 Fw
theorem progT_pl {p : Int} {r c : Nat} {ps : List D} (k : ∀ x ∈ ps, Prd p r c x) : Pln 5 (.tup ps) := .inr ⟨_, .inl rfl, fun y hy => by
  obtain ⟨u, v, a, b, rfl, hu, hv, na, nb⟩ := k y hy
  refine .inr ⟨_, .inl rfl, fun z hz => ?_⟩
  have up : ∀ {d : D}, Pln 2 d → Pln 3 d := fun {d} hd => by
    rcases hd with ⟨i, rfl⟩ | ⟨ds, e, kk⟩
    · exact .inl ⟨i, rfl⟩
    · refine .inr ⟨ds, e, fun x hx => ?_⟩
      rcases kk x hx with ⟨i, rfl⟩ | ⟨_, _, ff⟩
      · exact .inl ⟨i, rfl⟩
      · rename_i es _
        cases es with
        | nil => exact .inr ⟨[], by assumption, fun x hx => nomatch hx⟩
        | cons e es => exact (ff e List.mem_cons_self).elim
  simp only [List.mem_cons, List.not_mem_nil, or_false] at hz
  rcases hz with rfl | rfl | rfl | rfl
  · exact .inr ⟨_, .inl rfl, fun w hw => (hu.2 w hw).pl⟩
  · exact .inr ⟨_, .inl rfl, fun w hw => (hv.2 w hw).pl⟩
  · exact up na.pl
  · exact up nb.pl⟩
theorem E_law_beside (p : Int) (h : D) (hp : Pr p) (hh : HandI h) : Dr (F__law_beside [.me, .int p, fig p] h) fun d => d = .bl true := by
  obtain ⟨q, h1, e1, q0, q1, i1⟩ := E_take 5 h hh (by decide) (by decide)
  obtain ⟨n, hn⟩ : ∃ n : Nat, (1 : Int) + q = n := ⟨(1 + q).toNat, by omega⟩
  obtain ⟨ys, h2, e2, l2, k2, i2⟩ := lc_draw (bind := bNm 4) (elt := eCall 3 F__law_free_program [] (eCons (eVm 0) (eCons (eVm 1) (eCons (eC (.int 2)) eNil)))) (δ := [some .me, some (.int p), some (fig p), none, none, none, none, none, none, none, none, none]) (I := HandI) (R := fun d => ∃ t : Pt, d = partT t ∧ Part p t.1 t.2.1 t.2.2) (rgD 0 n) h1 i1 fun x hx g gi => by
    obtain ⟨d, g1, f1, ⟨r, c, ps, rfl, pt⟩, j1⟩ := E_free_program p g hp gi
    refine ⟨_, rfl, _, g1, ?_, ⟨(r, c, ps), rfl, pt⟩, j1⟩
    push_cast [f1, List.append_nil]
    rfl
  obtain ⟨ts, rfl, kt⟩ := un_map ys k2
  rw [List.length_map, rg_len] at l2
  have n1 : 1 ≤ ts.length := by omega
  have n5 : ts.length ≤ 5 := by omega
  have kk : ∀ t ∈ ts, ∀ x ∈ t.2.2, Prd p t.1 t.2.1 x := fun t ht => (kt t ht).k
  have R10 : sumR ts ≤ 2 * ts.length := sum_le (fun t => t.1) 2 ts fun t ht => (kt t ht).r2
  have C10 : sumC ts ≤ 2 * ts.length := sum_le (fun t => t.2.1) 2 ts fun t ht => (kt t ht).c2
  have L20 : sumL ts ≤ 4 * ts.length := sum_le (fun t => t.2.2.length) 4 ts fun t ht => (kt t ht).l
  have R1 : 1 ≤ sumR ts := sum_ge (fun t => t.1) ts n1 fun t ht => (kt t ht).r1
  have C1 : 1 ≤ sumC ts := sum_ge (fun t => t.2.1) ts n1 fun t ht => (kt t ht).c1
  have lp := lc_gen (v := 6) (elt := eMake "Program" 5 F_Program___init__ [] (eCons (eV 2) (eCons (eOp oIx (eV 6) (eC (.int 0))) (eCons (eOp oIx (eV 6) (eC (.int 1))) (eCons (eOp oIx (eV 6) (eC (.int 2))) eNil))))) (δ := [some .me, some (.int p), some (fig p), some (.lst (ts.map partT)), none, none, none, none, none, none, none, none]) (h := h2) partT (progT p) ts fun t ht => by
    refine eMake_ok (ds := [fig p, .int t.1, .int t.2.1, .tup t.2.2]) ?_ (E_progs p t.1 t.2.1 t.2.2 (kt t ht) hp) rfl
    unfold partT partD
    push_cast [vd_fig, at0, at1, at2]
  have lr := lc_ts (v := 6) (elt := eOp oIx (eV 6) (eC (.int 0))) (δ := [some .me, some (.int p), some (fig p), some (.lst (ts.map partT)), none, some (.lst (ts.map (progT p))), none, none, none, none, none, none]) (h := h2) partT (fun t => t.1) ts fun t ht => by
    unfold partT partD
    push_cast [at0]
  have lc := lc_ts (v := 6) (elt := eOp oIx (eV 6) (eC (.int 1))) (δ := [some .me, some (.int p), some (fig p), some (.lst (ts.map partT)), none, some (.lst (ts.map (progT p))), none, some (.int (sumR ts)), none, none, none, none]) (h := h2) partT (fun t => t.2.1) ts fun t ht => by
    unfold partT partD
    push_cast [at1]
  have k1 : kSum [.lst (ts.map fun t => D.int (t.1 : Int))] = some (.int (sumR ts : Int)) := kSum_map (fun t => t.1) ts
  have k2 : kSum [.lst (ts.map fun t => D.int (t.2.1 : Int))] = some (.int (sumC ts : Int)) := kSum_map (fun t => t.2.1) ts
  have lz : szOk (ts.map partT).length = true := sz_n _ (by rw [List.length_map]; omega)
  have gr : ∀ h, (if decide ((0 : Int) < p) = true then Ex.of (kMin2 [.int 5, .int p]) h else Ex.ok (.int 5) h) = .ok (.int (greatN p : Nat)) h := fun h => by
    have := pr0 hp
    unfold greatN
    by_cases h0 : p = 0
    · subst h0
      rfl
    · rw [decide_eq_true (by omega : (0 : Int) < p), if_pos rfl, if_neg h0]
      by_cases h5 : p < 5
      · have mi : kMin2 [.int 5, .int p] = some (.int p) := by
          show some (D.int (if p < 5 then p else 5)) = _
          rw [if_pos h5]
        rw [mi, if_pos h5, show ((p.toNat : Nat) : Int) = p by omega]
        rfl
      · have mi : kMin2 [.int 5, .int p] = some (.int 5) := by
          show some (D.int (if p < 5 then p else 5)) = _
          rw [if_neg h5]
        rw [mi, if_neg h5]
        rfl
  obtain ⟨d, h3, e3, sq, i3⟩ := E_list (ts.map (progT p)) h2 i2
  have sR := side_iff hp R1
  have sC := side_iff hp C1
  have v10 : ∀ (w : Str) h, vD (some (some (.lst [.str "program", .int 0, .str w]))) h = .ok (.lst [.str "program", .int 0, .str w]) h := fun w h => rfl
  refine ⟨.bl true, h3, ?_, rfl, i3⟩
  unfold F__law_beside
  by_cases cR : sumR ts ≤ greatN p
  · have gR : decide ((greatN p : Int) < (sumR ts : Int)) = false := decide_eq_false (by omega)
    by_cases cC : sumC ts ≤ greatN p
    · have gC : decide ((greatN p : Int) < (sumC ts : Int)) = false := decide_eq_false (by omega)
      have g5 : greatN p ≤ 5 := by unfold greatN; split <;> (try split) <;> omega
      have ea := ask_ok (sq.vm' h3) (E_beside p ts d h3 hp sq n1 n5 (by omega) (by omega) (by omega) kk (by rw [sR]; exact decide_eq_true cR) (by rw [sC]; exact decide_eq_true cC))
      have cp := corner_prd (R := sumR ts) (C := sumC ts) hp ts 0 0 (by omega) (by omega) kk
      have cl := corner_len (p := p) (R := sumR ts) (C := sumC ts) ts 0 0
      have ep := E_products p (sumR ts) (sumC ts) _ h3 hp (by rw [cl]; omega) cp
      have ed := E_corner_due p ts h3 n5 (by omega) (by omega) (by omega) kk
      have ex := exact_refl 5 (.tup (cornerL p (sumR ts) (sumC ts) 0 0 ts)) h3 (.inr ⟨_, rfl, by rw [cl]; omega, fun x hx => (cp x hx).ex (by omega) (by omega)⟩)
      have lf := lc_filter (bind := bNm 4) (test := eT (eOp oNe (eAt (eOp oIx (eV 5) (eV 4)) "products") (eOp oIx (eOp oIx (eV 3) (eV 4)) (eC (.int 2))))) (elt := eV 4) (δ := [some .me, some (.int p), some (fig p), some (.lst (ts.map partT)), none, some (.lst (ts.map (progT p))), none, some (.int (sumR ts)), some (.int (sumC ts)), some (.int (greatN p)), some (progI p (sumR ts) (sumC ts) (cornerL p (sumR ts) (sumC ts) 0 0 ts)), some (.tup (cornerL p (sumR ts) (sumC ts) 0 0 ts))]) (h := h3) (fun _ => false) id (rgD 0 ts.length) fun x hx => by
        obtain ⟨i, rfl, hi⟩ := rgD_mem hx
        refine ⟨_, rfl, ?_, fun z => by cases z⟩
        have a1 : atI (ts.map (progT p)) (i : Int) = some (progT p ts[i]) := atI_n (by rw [List.getElem?_map, List.getElem?_eq_getElem hi]; rfl)
        have a2 : atI (ts.map partT) (i : Int) = some (partT ts[i]) := atI_n (by rw [List.getElem?_map, List.getElem?_eq_getElem hi]; rfl)
        have a3 : attD (progT p ts[i]) "products" h3 = .ok (.tup ts[i].2.2) h3 := rfl
        have a4 : oIx (partT ts[i]) (.int 2) = some (.tup ts[i].2.2) := at2
        have a5 := eq_refl (progT_pl (kk ts[i] (List.getElem_mem hi))) (by decide)
        push_cast [a1, a2, a3, a4, a5]
      rw [filter_no, List.map_nil] at lf
      push_cast [e1, hn, List.append_nil, rg1_n n (by omega), wipeD, rg_len, sz_n n (by omega), e2, sfz, lz, lp, lr, lc, k1, k2, gr, e3, ea, sq.vm', List.append_nil, gR, gC, vd_prog, vm_prog, ↓(fun n δ h => @eIsP n 10 δ h p (sumR ts) (sumC ts) (cornerL p (sumR ts) (sumC ts) 0 0 ts)), ep, ed, ex, List.length_map, rg1_n ts.length (by omega), wipeD, rg_len, sz_n ts.length (by omega), lf, sfz, sz_n 0 (by omega), eq_nil]
    · have gC : decide ((greatN p : Int) < (sumC ts : Int)) = true := decide_eq_true (by omega)
      have ea := ask_prog (sq.vm' h3) (E_beside_c p ts d h3 hp sq n1 n5 (by omega) (by omega) (by omega) kk (by rw [sR]; exact decide_eq_true cR) (by rw [sC]; exact decide_eq_false cC))
      push_cast [e1, hn, List.append_nil, rg1_n n (by omega), wipeD, rg_len, sz_n n (by omega), e2, sfz, lz, lp, lr, lc, k1, k2, gr, e3, ea, sq.vm', List.append_nil, gR, gC, v10, sz_n 3 (by omega), sfz, eq_r, eq_c]
  · have gR : decide ((greatN p : Int) < (sumR ts : Int)) = true := decide_eq_true (by omega)
    have ea := ask_prog (sq.vm' h3) (E_beside_r p ts d h3 hp sq n1 n5 (by omega) (by omega) (by omega) kk (by rw [sR]; exact decide_eq_false cR))
    push_cast [e1, hn, List.append_nil, rg1_n n (by omega), wipeD, rg_len, sz_n n (by omega), e2, sfz, lz, lp, lr, lc, k1, k2, gr, e3, ea, sq.vm', List.append_nil, gR, v10, sz_n 3 (by omega), sfz, eq_r, eq_c]
end N71
set_option exponentiation.threshold 20000
namespace N71
open PySem PySem.Spec L2 Fw
theorem plus_ls (ds es : List D) (h : ds.length + es.length ≤ 1000) : oPlus (.lst ds) (.lst es) = some (.hl (ds ++ es)) := by
  show (if szOk (ds.length + es.length) = true then some (D.hl (ds ++ es)) else none) = _
  rw [sz_n _ h]
  rfl
theorem side1 {p : Int} (hp : Pr p) : sideB p 1 = true ∧ sideB p 2 = true := by
  have g2 : 2 ≤ greatN p := by
    have := pr0 hp
    unfold greatN
    split
    · omega
    · split <;> omega
  exact ⟨by rw [show (1 : Int) = ((1 : Nat) : Int) from rfl, side_iff hp (by omega)]; exact decide_eq_true (by omega), by rw [show (2 : Int) = ((2 : Nat) : Int) from rfl, side_iff hp (by omega)]; exact decide_eq_true (by omega)⟩
theorem E_prog11 (p : Int) (ps : List D) (d : D) (hp : Pr p) (hd : SeqOf ps d) (hm : ps.length ≤ 30) (k : ∀ x ∈ ps, Prd p 1 1 x) : F_Program___init__ [.me, fig p, .int 1, .int 1, d] (.ins "Program" []) = .ok .non (progI p 1 1 ps) :=
  E_prog p 1 1 ps d hp (side1 hp).1 (side1 hp).1 (by omega) (by omega) hd hm k
theorem eq_many : eqD (.lst [.str "many", .int 5, .bl true]) (.lst [.str "many", .int 5, .bl true]) = some true := by decide +kernel
theorem eq_unl : eqD (.lst [.str "unlike", .bl true]) (.lst [.str "unlike", .bl true]) = some true := by decide +kernel
/-- five strange things -/
theorem strange (o : D) (q : Int) (h : D) (q0 : 0 ≤ q) (q5 : q < 5) : ∃ d, atI [.lst [], .tup [], .lst [o, o, o, o, o, o], .non, .int 3] q = some d ∧ vmD (some (some d)) h = .ok d h ∧ F__law_asked [d] h = .ok (.lst [.str "many", .int 5, .bl true]) h := by
  have : q = 0 ∨ q = 1 ∨ q = 2 ∨ q = 3 ∨ q = 4 := by omega
  rcases this with rfl | rfl | rfl | rfl | rfl
  · exact ⟨_, rfl, rfl, ask_many rfl (many_seq [] _ h (.inl rfl) (.inl rfl))⟩
  · exact ⟨_, rfl, rfl, ask_many rfl (many_seq [] _ h (.inr rfl) (.inl rfl))⟩
  · exact ⟨_, rfl, rfl, ask_many rfl (many_seq (List.replicate 6 o) _ h (.inl rfl) (.inr (by rw [List.length_replicate]; omega)))⟩
  · exact ⟨_, rfl, rfl, ask_many rfl (many_none h)⟩
  · exact ⟨_, rfl, rfl, ask_many rfl (many_int 3 h)⟩
def prodD (p : Int) : D := .tup [.tup [oneD p], .tup [oneD p], oneD p, zeroD p]
theorem prod_ok {p : Int} (hp : Pr p) : Prd p 1 1 (prodD p) :=
  ⟨[oneD p], [oneD p], oneD p, zeroD p, rfl, ⟨rfl, fun x hx => by rw [List.mem_singleton.mp hx]; exact nu_one hp⟩, ⟨rfl, fun x hx => by rw [List.mem_singleton.mp hx]; exact nu_one hp⟩, nu_one hp, nu_zero hp⟩
theorem reps_ok {p : Int} (hp : Pr p) (n : Nat) : ∀ x ∈ List.replicate n (prodD p), Prd p 1 1 x := fun x hx => by
  rw [(List.mem_replicate.mp hx).2]; exact prod_ok hp
def fullT (p : Int) (k : Nat) : Pt := (1, 1, List.replicate (15 + k) (prodD p))
theorem full_k {p : Int} (hp : Pr p) (a b : Nat) : ∀ t ∈ [fullT p a, fullT p b], ∀ x ∈ t.2.2, Prd p t.1 t.2.1 x := fun t ht => by
  simp only [List.mem_cons, List.not_mem_nil, or_false] at ht
  rcases ht with rfl | rfl <;> exact reps_ok hp _
theorem full_R (p : Int) (a b : Nat) : sumR [fullT p a, fullT p b] = 2 := rfl
theorem full_C (p : Int) (a b : Nat) : sumC [fullT p a, fullT p b] = 2 := rfl
theorem full_L (p : Int) (a b : Nat) : sumL [fullT p a, fullT p b] = 30 + a + b := by
  unfold sumL fullT
  simp only [List.map_cons, List.map_nil, List.sum_cons, List.sum_nil, List.length_replicate]
  omega
theorem E_full_m (p : Int) (h : D) (hp : Pr p) : F__law_asked [.lst [progT p (fullT p 0), progT p (fullT p 1)]] h = .ok (.lst [.str "program", .int 0, .str "many"]) h :=
  ask_prog rfl (E_beside_m p [fullT p 0, fullT p 1] _ h hp (.inl rfl) (by show 1 ≤ 2; omega) (by show 2 ≤ 5; omega) (by rw [full_R]; omega) (by rw [full_C]; omega) (by rw [full_L]; omega) (by rw [full_L]; omega) (full_k hp 0 1) (side1 hp).2 (side1 hp).2)
theorem E_full_ok (p : Int) (h : D) (hp : Pr p) : ∃ ps, ps.length = 30 ∧ F__law_asked [.lst [progT p (fullT p 0), progT p (fullT p 0)]] h = .ok (progI p 2 2 ps) h :=
  ⟨cornerL p 2 2 0 0 [fullT p 0, fullT p 0], by rw [corner_len, full_L], ask_ok rfl (E_beside p [fullT p 0, fullT p 0] _ h hp (.inl rfl) (by show 1 ≤ 2; omega) (by show 2 ≤ 5; omega) (by rw [full_R]; omega) (by rw [full_C]; omega) (by rw [full_L]; omega) (full_k hp 0 0) (side1 hp).2 (side1 hp).2)⟩
end N71
set_option exponentiation.threshold 20000
namespace N71
open PySem PySem.Spec L2 Fw
def oneT : Pt := (1, 1, [])
theorem rep_map (p : Int) (n : Nat) : List.replicate n (progT p oneT) = (List.replicate n oneT).map (progT p) := by rw [List.map_replicate]
theorem E_law_refused (p : Int) (h : D) (hp : Pr p) (hh : HandI h) : Dr (F__law_refused [.me, .int p, fig p] h) fun d => d = .bl true := by
  obtain ⟨q, h1, e1, q0, q1, i1⟩ := E_take 5 h hh (by decide) (by decide)
  obtain ⟨sd, ea, ev, es⟩ := strange (progT p oneT) q h1 q0 q1
  obtain ⟨a, h2, e2, a0, a1, i2⟩ := E_take 3 h1 i1 (by decide) (by decide)
  obtain ⟨b, h3, e3, b0, b1, i3⟩ := E_take 2 h2 i2 (by decide) (by decide)
  obtain ⟨m, hm⟩ : ∃ m : Nat, a = m := ⟨a.toNat, by omega⟩
  obtain ⟨k, hk⟩ : ∃ k : Nat, b = k := ⟨b.toNat, by omega⟩
  subst hm hk
  have mk1 : ∀ (fs : EF (List D)) (δ : DE) (g : D), fs δ g = .ok [fig p, .int 1, .int 1, .tup []] g → eMake "Program" 5 F_Program___init__ [] fs δ g = .ok (progT p oneT) g := fun fs δ g e => eMake_ok e (E_prog11 p [] _ hp (.inr rfl) (by decide) (fun x hx => nomatch hx)) rfl
  obtain ⟨p2, hp2, hq, eif⟩ : ∃ p2, Pr p2 ∧ p2 ≠ p ∧ ∀ δ h, δ[1]? = some (some (.int p)) → eIf (eT (eOp oEq (eV 1) (eC (.int 0)))) (eC (.int 7)) (eC (.int 0)) δ h = .ok (.int p2) h := by
    by_cases h0 : p = 0
    · subst h0
      exact ⟨7, by unfold Pr; omega, by decide, fun δ h hd => by push_cast [hd]⟩
    · exact ⟨0, by unfold Pr; omega, fun z => h0 z.symm, fun δ h hd => by push_cast [hd, h0]⟩
  have mk2 : ∀ (δ : DE) (g : D), δ[1]? = some (some (.int p)) → eMake "Program" 5 F_Program___init__ [] (eCons (eMake "Figures" 2 F_Figures___init__ [] (eCons (eIf (eT (eOp oEq (eV 1) (eC (.int 0)))) (eC (.int 7)) (eC (.int 0))) eNil)) (eCons (eC (.int 1)) (eCons (eC (.int 1)) (eCons (eTup eNil) eNil)))) δ g = .ok (progT p2 oneT) g := fun δ g hd => by
    have mf : eMake "Figures" 2 F_Figures___init__ [] (eCons (eIf (eT (eOp oEq (eV 1) (eC (.int 0)))) (eC (.int 7)) (eC (.int 0))) eNil) δ g = .ok (fig p2) g := eMake_ok (ds := [.int p2]) (by rw [eCons_a, eif δ g hd]; rfl) (E_fig p2 hp2) rfl
    refine eMake_ok (ds := [fig p2, .int 1, .int 1, .tup []]) ?_ (E_prog11 p2 [] _ hp2 (.inr rfl) (by decide) (fun x hx => nomatch hx)) rfl
    rw [eCons_a, mf]
    push_cast [sz_n 0 (by omega)]
  have t1 : oTimes (.lst [progT p oneT]) (.int 6) = some (.hl (List.replicate 6 (progT p oneT))) := times_l (progT p oneT) 6 (by omega)
  have t2 := times_l (progT p oneT) (1 + m) (by omega)
  have t3 := times_l (progT p oneT) k (by omega)
  have c2 : (1 : Int) + (m : Int) = ((1 + m : Nat) : Int) := by omega
  have p1 := plus_ls (List.replicate (1 + m) (progT p oneT)) [progT p2 oneT] (by rw [List.length_replicate, List.length_singleton]; omega)
  have pp2 := plus_ls (List.replicate (1 + m) (progT p oneT) ++ [progT p2 oneT]) (List.replicate k (progT p oneT)) (by rw [List.length_append, List.length_replicate, List.length_replicate, List.length_singleton]; omega)
  have eu : F__law_asked [.lst (List.replicate (1 + m) (progT p oneT) ++ [progT p2 oneT] ++ List.replicate k (progT p oneT))] h3 = .ok (.lst [.str "unlike", .bl true]) h3 := by
    have el : List.replicate (1 + m) (progT p oneT) ++ [progT p2 oneT] ++ List.replicate k (progT p oneT) = (oneT :: List.replicate m oneT).map (progT p) ++ progT p2 oneT :: List.replicate k (progT p oneT) := by
      rw [show 1 + m = m + 1 by omega, List.replicate_succ, List.map_cons, rep_map p m, List.append_assoc]
      rfl
    rw [el]
    exact ask_unlike rfl (E_unlike p p2 hq oneT oneT (List.replicate m oneT) (List.replicate k (progT p oneT)) _ h3 (.inl rfl) (by rw [← el, List.length_append, List.length_append, List.length_replicate, List.length_replicate, List.length_singleton]; omega))
  have vu : ∀ ds h, vmD (some (some (.lst ds))) h = .ok (.lst ds) h := fun ds h => rfl
  have vp : ∀ t h, vD (some (some (progT p t))) h = .ok (progT p t) h := fun t h => rfl
  have vp2 : ∀ t h, vD (some (some (progT p2 t))) h = .ok (progT p2 t) h := fun t h => rfl
  have vpr : ∀ h, vD (some (some (prodD p))) h = .ok (prodD p) h := fun h => rfl
  have pd : ∀ δ g, δ[2]? = some (some (fig p)) → eTup (eCons (eTup (eCons (eAtV 2 "one") eNil)) (eCons (eTup (eCons (eAtV 2 "one") eNil)) (eCons (eAtV 2 "one") (eCons (eAtV 2 "zero") eNil)))) δ g = .ok (prodD p) g := fun δ g hd => by
    unfold prodD
    push_cast [hd, fg_o, fg_z, sz_n 1 (by omega), sz_n 4 (by omega)]
  have fl : ∀ (o3 o4 o5 o6 : Option D), lcGo (bNm 9) tYesD (eMake "Program" 5 F_Program___init__ [] (eCons (eV 2) (eCons (eC (.int 1)) (eCons (eC (.int 1)) (eCons (eFz (eOp oTimes (eFz (eLst (eCons (eV 7) eNil))) (eOp oAdd (eC (.int 15)) (eV 9)))) eNil))))) [some .me, some (.int p), some (fig p), o3, o4, o5, o6, some (prodD p), none, none, none] (rgD 0 2) h3 = .ok [progT p (fullT p 0), progT p (fullT p 1)] h3 := fun o3 o4 o5 o6 => by
    have one : ∀ k : Nat, k ≤ 1 → eMake "Program" 5 F_Program___init__ [] (eCons (eV 2) (eCons (eC (.int 1)) (eCons (eC (.int 1)) (eCons (eFz (eOp oTimes (eFz (eLst (eCons (eV 7) eNil))) (eOp oAdd (eC (.int 15)) (eV 9)))) eNil)))) [some .me, some (.int p), some (fig p), o3, o4, o5, o6, some (prodD p), none, some (.int (k : Int)), none] h3 = .ok (progT p (fullT p k)) h3 := fun k hk => by
      refine eMake_ok (ds := [fig p, .int 1, .int 1, .lst (List.replicate (15 + k) (prodD p))]) ?_ (E_prog11 p (List.replicate (15 + k) (prodD p)) _ hp (.inl rfl) (by rw [List.length_replicate]; omega) (reps_ok hp _)) rfl
      have tt := times_l (prodD p) (15 + k) (by omega)
      have cc : (15 : Int) + (k : Int) = ((15 + k : Nat) : Int) := by omega
      push_cast [vd_fig, vpr, sz_n 1 (by omega), sfz, cc, tt]
    have r2 : rgD 0 2 = [.int ((0 : Nat) : Int), .int ((1 : Nat) : Int)] := rfl
    rw [r2]
    unfold lcGo lcGo lcGo
    simp only [bNm_a, List.set_cons_succ, List.set_cons_zero, tYesD, nox_okE, bind_okE, if_true, one 0 (by omega), one 1 (by omega)]
  have r2 : rg1 [.int 2] = some (rgD 0 2) := rg1_n 2 (by omega)
  have em := E_full_m p h3 hp
  obtain ⟨ps, pl, eo⟩ := E_full_ok p h3 hp
  have z1 := at0 (a := progT p (fullT p 0)) (l := [progT p (fullT p 1)])
  have z2 := at1 (a := progT p (fullT p 0)) (b := progT p (fullT p 1)) (l := [])
  have lp := len_prog (p := p) (r := 2) (c := 2) (ps := ps) (h := h3) (by omega)
  rw [pl] at lp
  have ex := E_exact_int 2 h3
  refine ⟨.bl true, h3, ?_, rfl, i3⟩
  unfold F__law_refused
  push_cast [vd_fig, sz_n 0 (by omega), ↓mk2, ↓mk1, sfz, vp, vp2, sz_n 1 (by omega), t1, sz_n 5 (by omega), e1, List.append_nil, ea, ev, es, sz_n 3 (by omega), eq_many, e2, c2, t2, p1, e3, t3, pp2, vu, eu, sz_n 2 (by omega), eq_unl, ↓pd, wipeD, r2, rg_len, fl, z1, z2, em, eq_m, eo, vd_prog, ↓(fun n δ h => @eIsP n 10 δ h p 2 2 ps), lp, pi_r, ex]
end N71
namespace X71
open PySem PySem.Spec PyProof.Rows L2 Fw Kf
def loose : List Str := (["_wall", "PairError", "BadFigures", "BadTable", "BadLetters", "BadPair", "Unlike", "BadProgram", "BadMany", "is_whole", "is_sequence", "is_ratio", "in_lowest_terms", "ratio_times", "over_one_bottom", "summed_wholes", "zero_row", "unit_row", "row_scaled", "summed_products", "whole_line", "summed_lines", "column_led", "table_times", "row_times", "flipped_table", "fits_count", "check_table", "all_are_numbers", "check_letters"] : List Str) ++ (["check_width", "Pair", "is_side", "is_number_row", "check_product", "Program", "answer_table", "plain_program", "placed_row", "corner_products", "programs_beside", "Figures", "_law_hand", "_law_mixed", "_law_take", "_law_gcd", "_law_ratio", "_law_num", "_law_plus", "_law_times", "_law_zero", "_law_blank", "_law_summed", "_law_figures", "_law_number", "_law_size", "_law_free", "_law_exact", "_law_list", "_law_products"] : List Str) ++ (["_law_numbers", "_law_right", "_law_passed_pair", "_law_placed", "_law_cells", "_law_plain", "_law_free_program", "_law_corner_due", "_law_asked", "_law_beside", "_law_refused", "OFFERED", "MOST_ROWS", "MOST_PRODUCTS", "gcd"] : List Str)
abbrev R : PySem.W.OpenRow := PySem.W.OpenLaw.row PySem.Challenge.rw_sparedproducts_k71_whole_plain_programs
def as : List Addr := ([3, 59, 79, 98, 117, 136, 148, 167, 186, 196, 203, 210, 217, 224, 229, 234, 241, 248, 253, 260, 267, 274, 279, 284, 289, 294, 301, 309, 314, 321, 328, 401, 412, 419, 426, 504, 513, 518, 525, 532, 537, 538, 632, 643, 650, 657, 664, 671, 678, 685, 692, 699, 704, 711, 718, 725, 732, 737, 742, 749, 756, 763, 768, 773, 780, 785, 792, 797, 802, 809, 814, 819, 826, 58, 78, 97, 116, 135, 147, 166, 185, 195, 189, 202, 209, 216, 223, 228, 233, 240, 247, 252, 259, 266, 273, 278, 283, 288, 293, 300, 308, 302, 313, 320, 327, 400, 411, 418, 425, 503, 512, 517, 524, 531, 536, 631, 642, 649, 656, 663, 670, 677, 684, 691, 698, 703, 710, 717, 724, 731, 736, 741, 748, 755, 762, 767, 772, 779, 784, 791, 796, 801, 808, 813, 818, 825, 76, 95, 114, 133, 164, 183, 342, 398, 438, 452, 459, 473, 552, 559, 580, 622, 75, 94, 113, 132, 163, 182, 341, 397, 437, 451, 458, 472, 551, 558, 579, 621] : List Nat)
abbrev hk : PySem.W.Hook := hookL as N71.tb.ck N71.fns
def ob (s : PySem.W.SharedT) : Bool × He.AlD := obL as N71.tb.ck N71.fns (HandSHeadRun.getT s)
theorem ob_eq (s : PySem.W.SharedT) : ob s = hk.obs s.abs := obL_eq (HandSHeadRun.getT_eq s)
noncomputable def whl (w : World) := HandSHeadRun.wholeF (fun p => HandSHeadRun.stepQ (HandSHeadRun.denQ HandSHeadRun.tabQ) p w) HandSHeadRun.fenceQ 20000 R.prog
open HandSHeadRun PySem.W PySem.Calls PyProof.Rows in
theorem run1 (w : World) : (whl w).map (fun x => (looksF R.prog x.1.heap x.2.abs, seenQ (PySem.W.view R.prog [85]) loose (importedModules R.prog.main.body) (fun s => PySem.W.xlAt (PySem.W.view R.prog [85]) [] s && PySem.W.recOk R.toRowW.records s) x.2.abs)) = some (true, PySem.W.openGood (PySem.W.view R.prog [85]) loose) := by
  kernel_rfl
theorem run2 (w : World) : (whl w).map (fun x => ob x.2) = some (hk.val w) := by
  kernel_rfl
theorem both3 {α β γ δ : Type} {o : Option α} {f : α → β} {g : α → γ} {k : α → δ} {a : β} {b : γ} {c : δ} (h1 : o.map (fun x => (f x, g x)) = some (a, b)) (h2 : o.map k = some c) : o.map (fun x => (f x, g x, k x)) = some (a, b, c) := by
  cases o with
  | none => cases h1
  | some x =>
    have e1 : (f x, g x) = (a, b) := Option.some.inj h1
    have e2 : k x = c := Option.some.inj h2
    show some (f x, g x, k x) = some (a, b, c)
    rw [(Prod.mk.inj e1).1, (Prod.mk.inj e1).2, e2]
theorem run (w : World) : HandSHeadRun.RunEqI R (PySem.W.view R.prog [85]) hk ob 20000 loose w := by
  unfold HandSHeadRun.RunEqI
  exact both3 (run1 w) (run2 w)
end X71
set_option exponentiation.threshold 20000
namespace N71
open PySem PySem.Spec L2 Fw
theorem law_turn (p0 : Option D) (x2 x3 x4 : Option D) (h : D) (hh : HandI h) : ∃ δ' h', (sSeq (sSet 3 (eCall 1 F__law_figures [] (eCons (eVm 1) eNil)))
    (sSeq (sSet 4 (eMake "Figures" 2 F_Figures___init__ [] (eCons (eV 3) eNil)))
    (sIf (eOr (eNot (eTru (eCall 2 F__law_plain [] (eCons (eVm 1) (eCons (eVm 3) eNil))))) (eOr (eNot (eTru (eCall 3 F__law_beside [] (eCons (eVm 1) (eCons (eVm 3) (eCons (eVm 4) eNil)))))) (eNot (eTru (eCall 3 F__law_refused [] (eCons (eVm 1) (eCons (eVm 3) (eCons (eVm 4) eNil)))))))) (sRet (eC (.bl false))) sNil))) [p0, some .me, x2, x3, x4] h = .nx δ' h' ∧ (∃ y3 y4, δ' = [p0, some .me, x2, y3, y4]) ∧ HandI h' := by
  obtain ⟨_, h1, e1, ⟨p, rfl, hp⟩, i1⟩ := E_figures h hh
  obtain ⟨_, h2, e2, rfl, i2⟩ := E_law_plain p h1 hp i1
  obtain ⟨_, h3, e3, rfl, i3⟩ := E_law_beside p h2 hp i2
  obtain ⟨_, h4, e4, rfl, i4⟩ := E_law_refused p h3 hp i3
  have mf : ∀ (δ : DE) (g : D), δ[3]? = some (some (.int p)) → eMake "Figures" 2 F_Figures___init__ [] (eCons (eV 3) eNil) δ g = .ok (fig p) g := fun δ g hd => eMake_ok (ds := [.int p]) (by push_cast [hd]) (E_fig p hp) rfl
  refine ⟨_, h4, ?_, ⟨some (.int p), some (fig p), rfl⟩, i4⟩
  push_cast [e1, List.append_nil, ↓mf, e2, vm_fig, e3, e4]
end N71
open N71 Fw in
theorem M71.law_true : Fw.LawB 3 N71.B_law := fun cs t h1 h2 h3 h4 => by
  have key := for_all (bind := bNm 2) (body := (sSeq (sSet 3 (eCall 1 F__law_figures [] (eCons (eVm 1) eNil)))
    (sSeq (sSet 4 (eMake "Figures" 2 F_Figures___init__ [] (eCons (eV 3) eNil)))
    (sIf (eOr (eNot (eTru (eCall 2 F__law_plain [] (eCons (eVm 1) (eCons (eVm 3) eNil))))) (eOr (eNot (eTru (eCall 3 F__law_beside [] (eCons (eVm 1) (eCons (eVm 3) (eCons (eVm 4) eNil)))))) (eNot (eTru (eCall 3 F__law_refused [] (eCons (eVm 1) (eCons (eVm 3) (eCons (eVm 4) eNil)))))))) (sRet (eC (.bl false))) sNil)))) (fun _ δ h => (∃ x2 x3 x4, δ = [none, some .me, x2, x3, x4]) ∧ HandI h) (rgD 0 2) [none, some .me, none, none, none] (hand0 cs t) ⟨⟨none, none, none, rfl⟩, hand_0 cs t h1 h2 h3 h4⟩ fun i x δ h hx ⟨⟨x2, x3, x4, e⟩, hi⟩ => by
      subst e
      obtain ⟨δ', h', e1, ⟨y3, y4, rfl⟩, i1⟩ := law_turn none (some x) x3 x4 h hi
      exact ⟨_, rfl, _, h', e1, ⟨_, _, _, rfl⟩, i1⟩
  obtain ⟨δ', h', e, ⟨x2, x3, x4, rfl⟩, i⟩ := key
  refine ⟨h', ?_⟩
  show N71.B_law [none, some .me, none, none, none] (Fw.hand0 cs t) = _
  have r2 : rg1 [.int 2] = some (rgD 0 2) := N71.rg1_n 2 (by omega)
  unfold N71.B_law
  push_cast [r2, e]
open PySem PySem.W PySem.Calls PyProof.Rows
set_option maxRecDepth 100000 in
set_option maxHeartbeats 0 in
theorem PySem.Challenge.cw_sparedproducts_k71_whole_plain_programs_holds : PySem.Challenge.rw_sparedproducts_k71_whole_plain_programs.Holds := by
  w_on; o_law
  refine HandSHeadRun.head_imp (r := OpenLaw.row PySem.Challenge.rw_sparedproducts_k71_whole_plain_programs) (q := view (OpenLaw.row PySem.Challenge.rw_sparedproducts_k71_whole_plain_programs).prog [85]) (H := X71.hk) (ob := X71.ob) (M := 20000) (loose := X71.loose) (d := HandSHeadRun.topDef (OpenLaw.row PySem.Challenge.rw_sparedproducts_k71_whole_plain_programs).prog 85) (kwd := []) X71.ob_eq
    X71.run (by kernel_rfl) (by kernel_rfl) (by kernel_rfl) (by rfl) (by first | assumption | decide +kernel) (by decide +kernel) ⟨rfl, rfl, rfl, rfl, rfl, by decide +kernel⟩ ?hw ?hc
  case hw => w_witness2
  case hc =>
    refine L2.walk_ofE (l := PySem.Challenge.rw_sparedproducts_k71_whole_plain_programs) (n := 63) (k := 12) (x := "_law_script") (CX := L2.CX0) rfl (by decide) (by kernel_rfl) ⟨rfl, by decide, by decide⟩ ?F (fun _ _ _ _ z => z)
    intro w mg fa h Y G hmg0
    obtain ⟨K, KX, k, c⟩ := Y
    have T : Fw.Fs N71.tb K mg := Fw.Fs.of KX G k c
    have hmg : mg ("law" : PySem.Str) = some (.ref fa) := by
      have e : (HandSHeadRun.topDef (OpenLaw.row PySem.Challenge.rw_sparedproducts_k71_whole_plain_programs).prog 85).name = ("law" : PySem.Str) := by kernel_rfl
      rw [← e]
      exact hmg0
    have e := hmg.symm.trans (T.gl 59 "law" rfl)
    cases e
    obtain ⟨fd, hb, hF⟩ := N71.law_ok (P := (PySem.Challenge.rw_sparedproducts_k71_whole_plain_programs).prog) (w := w) T M71.law_true
    exact ⟨K, fd, Fw.spLaw K, KX, hb, fun H a ns hl _ hS => ⟨a, ns, rfl, hS, hl, fun _ => rfl⟩, fun base _ _ => hF base⟩
