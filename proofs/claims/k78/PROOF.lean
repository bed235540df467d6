import PyProof.Rows.All
import Wide.All
import OpenK.AllK
import Wide.FinOn
import KE.GoesMore
import HandS.Base
import HandS.Call
import HandS.List
import HandS.Iter
import HandS.Comp
import HandS.TupMul
import HandS.Walk
import HandS.Zip
import KE.KStateDown
import HandS.ForExc
import HandS.IsInst
import HandS.Wide
import HandS.Evl
import HandS.TupAny
import HandS.Flow
import HandS.ExcInit
import HandS.Gcd
import HandS.Style
import HandS.Rev
import HandS.RevRange
import HandS.Conv
import HandS.ExcField
import HandS.ExcOwn
import HandS.Defaults
import HandS.Exc
import HandS.TryOnly
import KE.KExcIs
import HandS.ExcValue
import HandS.HeadHook2
import HandS.HeadEnd
import HandS.Head2
import HandS.IterVal
import HandS.OwnIter
import HandS.Words
import OpenK.KOps
import PyProof.WalksMore
import HandS.SlotsOwn
import HandS.OwnEq
import PyProof.InstNe
import HandS.Flt
import HandS.Deep
import PyProof.Rows.Range3
import HandS.Star
import HandS.MakeKwOnly
import HandS.SetFor
import KE.GoesRaise
import HandS.Head3
import PySem.Challenge.RW_sparedproducts_k78_whole_roots_by_powers
set_option Elab.async false
set_option linter.all false
set_option maxRecDepth 100000
set_option maxHeartbeats 0
namespace Gn
open PySem PySem.Spec PyProof.Rows L2
open Sem (wp)
open AutoSeq1 (wpAny_loadPart')
theorem new_enumT (l : Addr) (xs : Array Value) (n : Nat) (dct : Option Addr) (sl : Array (Option Value)) :
    Meets (Builtin.«enumerate.__new__» ⟨[.type "enumerate", .ref l], []⟩) fun _ R s =>
      (s.heap.get? l = some { cls := .type "tuple", dict := dct, data := .seq xs n, slots := sl }) ∧
      R (.ok (.ret (.ref (s.heap.objs.size + 1)))) { s with heap := Heap.push (s.heap.push { cls := .type "tuple_iterator", data := .fields #[.ref l, .int 0 0] }) { cls := .type "enumerate", data := .fields #[.none, .bool false, .ref s.heap.objs.size, rawInt 0, .none, .none] } } :=
  .of_wp fun prog w A R s h => by
    obtain ⟨hp, g, d, tk, os⟩ := s
    obtain ⟨hl, h⟩ := h
    have sub := sub_enumerate
    have hT : Heap.IsTuple (Shared.heap ⟨hp, g, d, tk, os⟩) l xs := ⟨_, hl, rfl, n, rfl⟩
    have hz : (hp.push { cls := .type "tuple_iterator", data := .fields #[.ref l, .int 0 0] }).objs.size = hp.objs.size + 1 := Heap.size_push ..
    wp_walk using wpAny_loadPart' hl
    refine wpAny_stack_any fun st => wpAny_pure ?_
    split
    · rename_i c _ _ _ _ _
      cases (c == Value.type "enumerate")
      all_goals
        wp_walk using wpAny_loadPart' hl, wpAny_pyIter_tuple hT
        exact ⟨_, rfl, by rw [hz]; exact h⟩
    · wp_walk using wpAny_loadPart' hl, wpAny_pyIter_tuple hT
      exact ⟨_, rfl, by rw [hz]; exact h⟩
theorem call_enumT {prog : Program} {w : World} {A : Around} {E : Value → Shared → Prop} {s : Shared} {l : Addr} {xs : Array Value} {Q : Value → Shared → Prop} (hT : s.heap.IsTuple l xs)
    (h : ∀ h', IsEnum h' (s.heap.objs.size + 1) s.heap.objs.size 0 .none → h'.IsTupleIter s.heap.objs.size l 0 →
      (∀ b o, s.heap.get? b = some o → h'.get? b = some o) → Q (.ref (s.heap.objs.size + 1)) { s with heap := h' }) :
    wpAny (model prog w) A (call (.type "enumerate") [.ref l]) Q E s := by
  obtain ⟨⟨c, dct, dt, sl⟩, hl, hc, n, hd⟩ := hT
  simp only at hc hd
  subst hc hd
  refine callType_new F.called_enumerate (by decide) (F.typeCall_enumerate_1 _) (F.newCall_enumerate_1 _) (fun obj => F.args_object_init_2 obj _) F.entry_enumerate_new (new_enumT l xs n dct sl) ⟨hl, ?_⟩
  have hz : (s.heap.push { cls := .type "tuple_iterator", data := .fields #[.ref l, .int 0 0] }).objs.size = s.heap.objs.size + 1 := Heap.size_push ..
  have he : IsEnum ((s.heap.push { cls := .type "tuple_iterator", data := .fields #[.ref l, .int 0 0] }).push { cls := .type "enumerate", data := .fields #[.none, .bool false, .ref s.heap.objs.size, rawInt 0, .none, .none] }) (s.heap.objs.size + 1) s.heap.objs.size 0 .none := by
    have q := Heap.get?_push_size (s.heap.push { cls := .type "tuple_iterator", data := .fields #[.ref l, .int 0 0] }) (o := { cls := .type "enumerate", data := .fields #[.none, .bool false, .ref s.heap.objs.size, rawInt 0, .none, .none] }) rfl
    rw [hz] at q
    exact q
  refine ⟨⟨_, he, rfl⟩, h _ he ?_ ?_⟩
  · exact ⟨_, Heap.get?_push_of_some _ (Heap.get?_push_size _ rfl), rfl, rfl⟩
  · exact fun b o x => Heap.get?_push_of_some _ (Heap.get?_push_of_some _ x)
/-- the tuple at a, each item in a new pair with its place -/
def IteT (K : PySem.W.Frag) (a : Addr) : It where
  go := fun i H => ∃ (xs : List V) (x : V), SqT K H a xs ∧ xs[i]? = some x
  yld := fun i H v H' => ∃ T x, v = .ref T ∧ H T = none ∧ H' = upd H T (.tup [.int (i : Nat), x]) ∧ ∀ xs, SqT K H a xs → xs[i]? = some x
  stop := fun i H => ∃ xs : List V, SqT K H a xs ∧ xs.length = i
theorem turn_enumT {P : Program} {w : World} {K : PySem.W.Frag} {elts : List Expr} {kk : Nat} {tpos : Pos} (a e it : Addr) :
    Turn P w K (.Tuple elts kk tpos) (IteT K a) [e, it] e (fun i h => (∃ old, IsEnum h e it ((i : Nat) : Int) old) ∧ h.IsTupleIter it a i ∧ (e ≠ it ∧ e ≠ a ∧ a ≠ it)) := by
  have two : ∀ b, b ∈ [e, it] → b = e ∨ b = it := fun b hb => by simpa using hb
  refine ⟨by simp, fun i h st b hb => ?_, fun i h h' st k => ?_, ?_, ?_, fun A i s Q E st h => ?_⟩
  · obtain ⟨⟨old, he⟩, ⟨o, ho, hc, hd⟩, _⟩ := st
    rcases two b hb with rfl | rfl
    · exact ⟨_, he, fun v q => nomatch q⟩
    · exact ⟨o, ho, fun v q => by rw [hd] at q; cases q⟩
  · obtain ⟨⟨old, he⟩, hi, n⟩ := st
    exact ⟨⟨old, k e (by simp) _ he⟩, hi.at (fun o q => k it (by simp) o q), n⟩
  · intro X hP hw hK hc i pins s σ H E I hf st hg
    subst hP hw hK
    obtain ⟨⟨old, he⟩, hit, n1, n2, n3⟩ := st
    obtain ⟨xs, x, hq, hx⟩ := hg
    obtain ⟨its, rv, p, hz⟩ := I.tuple hq
    obtain ⟨u, hu, ru⟩ := rv.get hx
    have el := Heap.lt_size he
    have il : it < s.heap.objs.size := by
      obtain ⟨_, q, _⟩ := hit
      exact Heap.lt_size q
    have lt : i < its.toArray.size := by
      obtain ⟨z, _⟩ := List.getElem?_eq_some_iff.mp hu
      rw [List.size_toArray]
      exact z
    refine wpAny_pyNext_enum_itemD (Draws.tuple (A := X.A.in1) (I.ok.hd hc) it a n3 its.toArray) he ⟨hit, p⟩ lt n1 (by simp [n1, n2]) fun x' h' tk hx' ho st' hT hsz hk => ?_
    have ex : x' = u := by
      have q : its.toArray[i]? = some u := by rw [List.getElem?_toArray]; exact hu
      rw [q] at hx'
      exact (Option.some.inj hx').symm
    subst ex
    refine ⟨_, rfl, wpAny_letOwnedTupleGo_enum (s := { s with heap := h', toks := tk + 1 }) ho fun h2 he2 sb => ?_⟩
    have hT2 := (sb.2 _ (Nat.ne_of_gt el)).trans hT
    have ok : ObjOk X.prog X.w (upd H s.heap.objs.size (.tup [.int (i : Nat), x])) h2 s.heap.objs.size (.tup [.int (i : Nat), x]) :=
      ⟨by show 2 ≤ sizeLine; decide, [.int i tk, x'], .cons ⟨_, rfl⟩ (.cons ru .nil), _, hT2, rfl, _, rfl⟩
    have I2 : Inv X pins σ (upd H s.heap.objs.size (.tup [.int (i : Nat), x])) { s with heap := h2, toks := tk + 1 } := by
      refine I.turnedNew (ch := [e, it]) (fun b ob hb q => ?_) hf (Nat.le_refl _) ok
      have b1 : b ≠ e := fun z => hb (by simp [z])
      have b2 : b ≠ it := fun z => hb (by simp [z])
      exact (sb.2 b b1).trans (hk b ob b1 b2 q)
    refine ⟨.ref s.heap.objs.size, _, I2, rfl, ⟨_, x, rfl, I.hok.fresh (Nat.le_refl _), rfl, fun ys hy => ?_⟩, ⟨⟨x', ?_⟩, st'.1.at fun o q => (sb.2 it (Ne.symm n1)).trans q, n1, n2, n3⟩, fun b hb => ?_⟩
    · rw [I.tuple_inj hy hq]
      exact hx
    · rw [show ((i + 1 : Nat) : Int) = (i : Int) + 1 by omega]
      exact he2
    · rw [upd_ne (Nat.ne_of_lt (by rcases two b hb with z | z <;> rw [z] <;> assumption))]
      exact (hf b hb).1
  · intro X hP hw hK hc i pins s σ H E I hf st hg
    subst hP hw hK
    obtain ⟨⟨old, he⟩, hit, n1, n2, n3⟩ := st
    obtain ⟨xs, hq, hx⟩ := hg
    obtain ⟨its, rv, p, hz⟩ := I.tuple hq
    obtain ⟨f0, f1, f2, f3, f4, f5⟩ := hf it (by simp)
    have ei : i = its.toArray.size := by
      rw [List.size_toArray, ← rv.length]
      exact hx.symm
    subst ei
    exact wpAny_pyNext_enum_endD (Draws.tuple (A := X.A.in1) (I.ok.hd hc) it a n3 its.toArray) he ⟨hit, p⟩ fun h' eb => ⟨rfl, I.turned (t' := s.toks) (fun b o hb q => eb b o hb q) f0 f1 f3 f4 f5⟩
  · obtain ⟨⟨_, he⟩, _⟩ := st
    exact wpAny_pyIter_enum he h
def iEnumT (K : PySem.W.Frag) (ta : TA) : TI := fun σ H R => ta σ H fun vs H1 => ∃ a xs, vs = [.ref a] ∧ ((SqL K H1 a xs ∧ R (Ite K a) H1) ∨ (SqT K H1 a xs ∧ R (IteT K a) H1))
/-- for (i, x) in enumerate(a list or a tuple) -/
theorem pi_enumA {X : Cx} {e : Expr} {ta : TA} {p pos tpos : Pos} {elts : List Expr} {kk : Nat} (hg : Gl X "enumerate") (hm : X.mg "enumerate" = none) (ha : PA X [e] ta) (hs : starEach [e] X.env = [(false, eval e X.env)] := by rfl) :
    PI X (.Tuple elts kk tpos) (.Call (.Name "enumerate" p) [e] [] pos) (iEnumT X.K ta) := by
  constructor
  intro pins s σ H R I h
  refine Call_ (ld_blt I hg hm boot_enumerate (PyProof.Rows.callWith_type1 (thn (ha.run pos pins s σ H _ I h) ?_) hs rfl))
  rintro us s1 ⟨vs, H1, I1, r1, a, xs, ex, q1⟩
  subst ex
  obtain ⟨u, rfl, ru⟩ : ∃ u, us = [u] ∧ RelV (.ref a) u := by
    cases r1 with
    | cons r rr =>
      cases rr
      exact ⟨_, rfl, r⟩
  cases (show u = Value.ref a from ru)
  have fresh : ∀ b, b ∈ [s1.heap.objs.size + 1, s1.heap.objs.size] → FpOk X pins H1 b := fun b hb => by
    have z : b = s1.heap.objs.size + 1 ∨ b = s1.heap.objs.size := by simpa using hb
    have le : s1.heap.objs.size ≤ b := by omega
    exact I1.fpOk le (I1.hok.fresh le)
  rcases q1 with ⟨hq, q⟩ | ⟨hq, q⟩
  · obtain ⟨its, rv, p', _⟩ := I1.list hq
    refine call_enumerate_list p'.isList fun h' he hit hsz hk => wpAny_pyIter_enum he ?_
    exact ⟨s1.heap.objs.size + 1, [s1.heap.objs.size + 1, s1.heap.objs.size], _, _, H1, rfl, I1.kept (t' := s1.toks) hk, turn_enum a (s1.heap.objs.size + 1) s1.heap.objs.size, ⟨⟨.none, he⟩, hit, Nat.succ_ne_self _⟩, fresh, q⟩
  · obtain ⟨its, rv, p', _⟩ := I1.tuple hq
    have al : a < s1.heap.objs.size := by
      obtain ⟨o, ho, _⟩ := id p'
      exact Heap.lt_size ho
    refine call_enumT p' fun h' he hit hk => wpAny_pyIter_enum he ?_
    exact ⟨s1.heap.objs.size + 1, [s1.heap.objs.size + 1, s1.heap.objs.size], _, _, H1, rfl, I1.kept (t' := s1.toks) hk, turn_enumT a (s1.heap.objs.size + 1) s1.heap.objs.size, ⟨⟨.none, he⟩, hit, Nat.succ_ne_self _, Nat.ne_of_gt (Nat.lt_succ_of_lt al), Nat.ne_of_lt al⟩, fresh, q⟩
theorem mul_same (l : Addr) (items : Array Value) (n : Nat) (sl : Array (Option Value)) (dd : Option Addr) (u : Tok) :
    Meets (Builtin.«tuple.__mul__» ⟨[.ref l, .int 1 u], []⟩) fun _ R s => (s.heap.get? l = some { cls := .type "tuple", dict := dd, data := .seq items n, slots := sl }) ∧ R (.ok (.ret (.ref l))) s :=
  .of_wp fun prog w A R s h => by
    obtain ⟨hp, g, d, tk, os⟩ := s
    obtain ⟨hl, h⟩ := h
    have f1 := AutoSeq1.idx_int
    have c0 : (decide ((1 : Int) < -(2 ^ 63)) || decide ((1 : Int) ≥ 2 ^ 63)) = false := by decide
    have c1 : (items.isEmpty || (1 : Int) == 1) = true := by simp
    wp_walk using wpAny_loadPart' hl
    repeat (first
      | (refine wpAny_ite_false (decide_eq_false (by rw [c0]; exact Bool.false_ne_true)) ?_; wp_walk using wpAny_loadPart' hl)
      | (refine wpAny_ite_true (decide_eq_true c1) ?_; wp_walk using wpAny_loadPart' hl))
    exact ⟨_, rfl, h⟩
/-- a tuple times 1: the tuple itself -/
def rRep1 (K : PySem.W.Frag) : R2 := fun x y H Q => ∃ l xs, x = .ref l ∧ y = .int 1 ∧ SqT K H l xs ∧ Q (.ref l) H
theorem op_rep1 {X : Cx} : OpR X (binaryOp .Mult) (rRep1 X.K) := by
  intro pins s σ H x y v u Q I rx ry h
  obtain ⟨l, xs, rfl, rfl, hT, q⟩ := h
  cases rx
  obtain ⟨t, rfl⟩ := ry
  obtain ⟨its, r, ⟨⟨cls, dd, data, sl⟩, ho, hc, n, hd⟩, hs⟩ := I.tuple hT
  simp only at hc hd
  subst hc hd
  refine wpAny_binaryOp_repeat_ref (T := "tuple") (U := "int") (by decide) ⟨_, ho, rfl⟩ (fun s' => typeIs_int s' 1 t) noFill_tuple_mul F.fills_int_mul F.slot_int_rmul repeat_tuple F.slot_int_index.lookup ?_
  refine call_meets F.slot_int_rmul (typeIs_int s 1 t) F.entry_int_rmul (F.args_int_rmul_2 _ _) (int_rmul_tuple 1 t l its.toArray n dd sl) ⟨ho, rfl, ⟨_, ho, rfl⟩, ?_⟩
  exact call_meets F.slot_tuple_mul ⟨_, ho, rfl⟩ F.entry_tuple_mul (F.args_tuple_mul_2 _ _) (mul_same l its.toArray n sl dd t) ⟨ho, .ref l, H, I, rfl, q⟩
end Gn
namespace Zx
open PySem PySem.Spec PyProof.Rows L2
theorem mvL {h h' : Heap} {l : Addr} {xs : Array Value} (e : h'.get? l = h.get? l) (k : h.IsList l xs) : h'.IsList l xs := by
  obtain ⟨o, q, r⟩ := k
  exact ⟨o, by rw [e]; exact q, r⟩
theorem mvT {h h' : Heap} {l : Addr} {xs : Array Value} (e : h'.get? l = h.get? l) (k : h.IsTuple l xs) : h'.IsTuple l xs := by
  obtain ⟨o, q, r⟩ := k
  exact ⟨o, by rw [e]; exact q, r⟩
theorem mvLI {h h' : Heap} {i l : Addr} {n : Nat} (e : h'.get? i = h.get? i) (k : h.IsListIter i l n) : h'.IsListIter i l n := by
  obtain ⟨o, q, r⟩ := k
  exact ⟨o, by rw [e]; exact q, r⟩
theorem mvTI {h h' : Heap} {i l : Addr} {n : Nat} (e : h'.get? i = h.get? i) (k : h.IsTupleIter i l n) : h'.IsTupleIter i l n := by
  obtain ⟨o, q, r⟩ := k
  exact ⟨o, by rw [e]; exact q, r⟩
theorem next_item {prog : Program} {w : World} {A : Around} {E : Value → Shared → Prop} {s : Shared} {z TI TO i1 i2 l1 l2 : Addr} {k1 k2 : Nat} {xs ys : Array Value} {x y a b : Value} {Q : Value → Shared → Prop}
    (D : ZipApart z TI TO i1 i2 l1 l2) (hz : IsZip s.heap z TI TO .none) (hTI : IsPair s.heap TI (.ref i1) (.ref i2)) (hTO : IsPair s.heap TO a b) (h1 : s.heap.IsListIter i1 l1 k1) (h2 : s.heap.IsTupleIter i2 l2 k2) (hl1 : s.heap.IsList l1 xs) (hl2 : s.heap.IsTuple l2 ys) (hx : xs[k1]? = some x) (hy : ys[k2]? = some y)
    (h : ∀ h' : Heap, IsZip h' z TI TO (rawInt s.heap.objs.size) → IsPair h' TO x y → h'.IsListIter i1 l1 (k1 + 1) → h'.IsTupleIter i2 l2 (k2 + 1) → IsPair h' s.heap.objs.size x y → h'.objs.size = s.heap.objs.size + 1 → (∀ (c : Addr) (o : Obj), c ≠ z → c ≠ TO → c ≠ i1 → c ≠ i2 → s.heap.get? c = some o → h'.get? c = some o) → Q (.ref s.heap.objs.size) { s with heap := h' }) :
    wpAny (model prog w) A (Builtin.«zip.__next__» ⟨[.ref z], []⟩) (fun fin s' => ∃ v, fin = .done (.ret v) ∧ Q v s') E s := by
  show wpAny (model prog w) A (field (.ref z) 2 >>= _) _ _ _
  refine wpAny_bind (wpAny_field hz rfl rfl ?_)
  show wpAny (model prog w) A (field (.ref z) 3 >>= _) _ _ _
  refine wpAny_bind (wpAny_field hz rfl rfl (wpAny_bind (wpAny_seqItems hTI rfl ?_)))
  show wpAny (model prog w) A (Builtin.SmallTypes.ownedTupleIsFree (.ref z) >>= _) _ _ _
  refine wpAny_bind ?_
  show wpAny (model prog w) A (field (.ref z) 0 >>= _) _ _ _
  refine wpAny_bind (wpAny_field hz rfl rfl (wpAny_pure ?_))
  simp only [beq_self_eq_true, if_true]
  refine wpAny_bind (wpAny_rule ?_)
  refine wpAny_bind (wpAny_field hz rfl rfl ?_)
  show wpAny (model prog w) A (setField (.ref z) 0 .ellipsis >>= _) _ _ _
  refine wpAny_bind (wpAny_setField_rec hz (by show 0 < 5; decide) fun h' hz' sb => ?_)
  simp only [List.zipIdx_cons, List.zipIdx_nil, List.forIn_cons, List.forIn_nil]
  refine wpAny_bind (wpAny_bind (wpAny_bind (wpAny_onRaise ?_)))
  show wpAny (model prog w) A (Builtin.SmallTypes.nextOf (.ref i1) >>= _) _ _ _
  refine wpAny_bind (wpAny_nextOf_list_item (mvLI (sb.2 _ D.i1z) h1) (mvL (sb.2 _ D.l1z) hl1) hx fun ha h1a sa => wpAny_pure ?_)
  have hTOa : ha.get? TO = some _ := ((sa.2 _ D.TOi1).trans (sb.2 _ D.TOz)).trans hTO
  refine wpAny_bind (wpAny_seqItems hTOa rfl ?_)
  refine wpAny_bind (wpAny_updateSeq_pair hTOa fun hb hTOb sc => ?_)
  refine wpAny_bind (wpAny_letGo (wpAny_pure ?_))
  refine wpAny_bind (wpAny_bind (wpAny_onRaise ?_))
  show wpAny (model prog w) A (Builtin.SmallTypes.nextOf (.ref i2) >>= _) _ _ _
  have a1 : ∀ c, c ≠ z → c ≠ i1 → c ≠ TO → hb.get? c = s.heap.get? c := fun c n1 n2 n3 => ((sc.2 c n3).trans (sa.2 c n2)).trans (sb.2 c n1)
  refine wpAny_bind (wpAny_nextOf_tuple_item (mvTI (a1 _ D.i2z D.i12.symm D.TOi2.symm) h2) (mvT (a1 _ D.l2z D.l2i1 D.l2TO) hl2) hy fun hc h2c sd => wpAny_pure ?_)
  have hTOc : hc.get? TO = some _ := (sd.2 _ D.TOi2).trans hTOb
  refine wpAny_bind (wpAny_seqItems hTOc rfl ?_)
  refine wpAny_bind (wpAny_updateSeq_pair hTOc fun he hTOe se => ?_)
  refine wpAny_bind (wpAny_letGo (wpAny_pure ?_))
  refine wpAny_pure ?_
  refine wpAny_bind (wpAny_seqItems hTOe rfl ?_)
  replace sa : Heap.SameBut i1 h' ha := sa
  replace sc : Heap.SameBut TO ha hb := sc
  replace sd : Heap.SameBut i2 hb hc := sd
  replace se : Heap.SameBut TO hc he := se
  have zs : he.objs.size = s.heap.objs.size := se.1.trans (sd.1.trans (sc.1.trans (sa.1.trans sb.1)))
  have a2 : ∀ c, c ≠ z → c ≠ i1 → c ≠ TO → c ≠ i2 → he.get? c = s.heap.get? c := fun c n1 n2 n3 n4 => ((se.2 c n3).trans (sd.2 c n4)).trans (a1 c n1 n2 n3)
  have hze := ((se.2 z D.TOz.symm).trans ((sd.2 z D.i2z.symm).trans ((sc.2 z D.TOz.symm).trans (sa.2 z D.i1z.symm)))).trans hz'
  have g1 := mvLI ((se.2 i1 D.TOi1.symm).trans ((sd.2 i1 D.i12).trans (sc.2 i1 D.TOi1.symm))) h1a
  have g2 := mvTI (se.2 i2 D.TOi2.symm) h2c
  refine wpAny_bind (wpAny_newTuple ?_ (by show 2 ≤ sizeLine; decide))
  show wpAny (model prog w) A ((setField (.ref z) 0 (rawInt (he.objs.size : Nat)) >>= fun _ => setField (.ref z) 1 (.bool false)) >>= _) _ _ _
  refine wpAny_bind (wpAny_bind (wpAny_setField_rec (Heap.get?_push_of_some _ hze) (by show 0 < 5; decide) fun h6 hz6 s6 => wpAny_setField_rec hz6 (by show 1 < 5; decide) fun h7 hz7 s7 => wpAny_pure ⟨_, rfl, ?_⟩))
  replace s7 : Heap.SameBut z h6 h7 := s7
  have s8 : h7.objs.size = (he.push { cls := .type "tuple", data := .seq #[x, y] }).objs.size := s7.1.trans s6.1
  have a8 : ∀ c, c ≠ z → h7.get? c = (he.push { cls := .type "tuple", data := .seq #[x, y] }).get? c := fun c n => (s7.2 c n).trans (s6.2 c n)
  have up : ∀ c o, c ≠ z → he.get? c = some o → h7.get? c = some o := fun c o n q => (a8 c n).trans (Heap.get?_push_of_some _ q)
  have nz : he.objs.size ≠ z := fun q => by
    have := Heap.lt_size hze
    exact absurd this (by rw [← q]; exact Nat.lt_irrefl _)
  show Q (.ref he.objs.size) { s with heap := h7 }
  rw [zs]
  refine h h7 ?_ (up _ _ D.TOz hTOe) (g1.at fun o q => up _ _ D.i1z q) (g2.at fun o q => up _ _ D.i2z q) ?_ ?_ fun c o n1 n2 n3 n4 q => up _ _ n1 ((a2 c n1 n3 n2 n4).trans q)
  · rw [← zs]
    exact hz7
  · rw [← zs]
    exact (a8 _ nz).trans (Heap.get?_push_size _ rfl)
  · rw [s8, Heap.size_push, zs]
theorem next_end {prog : Program} {w : World} {A : Around} {E : Value → Shared → Prop} {s : Shared} {z TI TO i1 i2 l1 l2 : Addr} {k1 k2 : Nat} {xs ys : Array Value} {a b : Value} {Q : PySem.Fin → Shared → Prop} (hh : A.handled = none)
    (D : ZipApart z TI TO i1 i2 l1 l2) (hz : IsZip s.heap z TI TO .none) (hTI : IsPair s.heap TI (.ref i1) (.ref i2)) (hTO : IsPair s.heap TO a b) (h1 : s.heap.IsListIter i1 l1 k1) (h2 : s.heap.IsTupleIter i2 l2 k2) (hl1 : s.heap.IsList l1 xs) (hl2 : s.heap.IsTuple l2 ys) (hend : xs[k1]? = none ∨ ys[k2]? = none)
    (hE : ∀ (h' : Heap) (e : Addr), (∀ (c : Addr) (o : Obj), c ≠ z → c ≠ TO → c ≠ i1 → c ≠ i2 → s.heap.get? c = some o → h'.get? c = some o) → (∃ o, h'.get? e = some o ∧ o.cls = .type "StopIteration") → E (.ref e) { s with heap := h' }) :
    wpAny (model prog w) A (Builtin.«zip.__next__» ⟨[.ref z], []⟩) Q E s := by
  show wpAny (model prog w) A (field (.ref z) 2 >>= _) _ _ _
  refine wpAny_bind (wpAny_field hz rfl rfl ?_)
  show wpAny (model prog w) A (field (.ref z) 3 >>= _) _ _ _
  refine wpAny_bind (wpAny_field hz rfl rfl (wpAny_bind (wpAny_seqItems hTI rfl ?_)))
  show wpAny (model prog w) A (Builtin.SmallTypes.ownedTupleIsFree (.ref z) >>= _) _ _ _
  refine wpAny_bind ?_
  show wpAny (model prog w) A (field (.ref z) 0 >>= _) _ _ _
  refine wpAny_bind (wpAny_field hz rfl rfl (wpAny_pure ?_))
  simp only [beq_self_eq_true, if_true]
  refine wpAny_bind (wpAny_rule ?_)
  refine wpAny_bind (wpAny_field hz rfl rfl ?_)
  show wpAny (model prog w) A (setField (.ref z) 0 .ellipsis >>= _) _ _ _
  refine wpAny_bind (wpAny_setField_rec hz (by show 0 < 5; decide) fun h' hz' sb => ?_)
  simp only [List.zipIdx_cons, List.zipIdx_nil, List.forIn_cons, List.forIn_nil]
  refine wpAny_bind (wpAny_bind (wpAny_bind (wpAny_onRaise ?_)))
  show wpAny (model prog w) A (Builtin.SmallTypes.nextOf (.ref i1) >>= _) _ _ _
  have fin : ∀ (hq : Heap) (e : Addr) (st : Shared), (∀ c o, c ≠ z → c ≠ TO → c ≠ i1 → c ≠ i2 → s.heap.get? c = some o → hq.get? c = some o) → hq.get? z = some { cls := .type "zip", data := .fields #[.ellipsis, .bool false, .bool false, .ref TI, .ref TO] } → (∃ o, hq.get? e = some o ∧ o.cls = .type "StopIteration") → st = { s with heap := hq } → wpAny (model prog w) A (setField (.ref z) 0 .none) (fun _ s2 => E (.ref e) s2) E st := by
    intro hq e st up gz ge est
    subst est
    refine wpAny_setField_rec gz (by show 0 < 5; decide) fun h7 hz7 s7 => ?_
    have s7 : Heap.SameBut z hq h7 := s7
    obtain ⟨o, go, co⟩ := ge
    refine hE h7 e (fun c o n1 n2 n3 n4 q => (s7.2 c n1).trans (up c o n1 n2 n3 n4 q)) ⟨o, (s7.2 e fun q => ?_).trans go, co⟩
    subst q
    rw [gz] at go
    cases go
    injection co with co
    exact absurd co (by decide)
  by_cases hx0 : xs[k1]? = none
  · refine wpAny_bind (wpAny_nextOf_list_end hh (mvLI (sb.2 _ D.i1z) h1) (mvL (sb.2 _ D.l1z) hl1) hx0 fun hq e xb ge => ?_)
    have xb : Heap.ExtBut i1 h' hq := xb
    exact fin hq e _ (fun c o n1 n2 n3 n4 q => xb c o n3 ((sb.2 c n1).trans q)) (xb z _ D.i1z.symm hz') ge rfl
  · obtain ⟨x, hx⟩ : ∃ x, xs[k1]? = some x := by
      cases q : xs[k1]? with
      | none => exact absurd q hx0
      | some x => exact ⟨x, rfl⟩
    have hy0 := hend.resolve_left hx0
    refine wpAny_bind (wpAny_nextOf_list_item (mvLI (sb.2 _ D.i1z) h1) (mvL (sb.2 _ D.l1z) hl1) hx fun ha h1a sa => wpAny_pure ?_)
    have hTOa : ha.get? TO = some _ := ((sa.2 _ D.TOi1).trans (sb.2 _ D.TOz)).trans hTO
    refine wpAny_bind (wpAny_seqItems hTOa rfl ?_)
    refine wpAny_bind (wpAny_updateSeq_pair hTOa fun hb hTOb sc => ?_)
    refine wpAny_bind (wpAny_letGo (wpAny_pure ?_))
    refine wpAny_bind (wpAny_bind (wpAny_onRaise ?_))
    show wpAny (model prog w) A (Builtin.SmallTypes.nextOf (.ref i2) >>= _) _ _ _
    replace sa : Heap.SameBut i1 h' ha := sa
    replace sc : Heap.SameBut TO ha hb := sc
    have a1 : ∀ c, c ≠ z → c ≠ i1 → c ≠ TO → hb.get? c = s.heap.get? c := fun c n1 n2 n3 => ((sc.2 c n3).trans (sa.2 c n2)).trans (sb.2 c n1)
    refine wpAny_bind (wpAny_nextOf_tuple_end hh (mvTI (a1 _ D.i2z D.i12.symm D.TOi2.symm) h2) (mvT (a1 _ D.l2z D.l2i1 D.l2TO) hl2) hy0 fun hq e xb ge => ?_)
    have xb : Heap.ExtBut i2 hb hq := xb
    exact fin hq e _ (fun c o n1 n2 n3 n4 q => xb c o n4 ((a1 c n1 n3 n2).trans q)) (xb z _ D.i2z.symm (((sc.2 z D.TOz.symm).trans (sa.2 z D.i1z.symm)).trans hz')) ge rfl
theorem pyNext_item {prog : Program} {w : World} {A : Around} {E : Value → Shared → Prop} {s : Shared} {z TI TO i1 i2 l1 l2 : Addr} {k1 k2 : Nat} {xs ys : Array Value} {x y a b : Value} {Q : Option Value → Shared → Prop}
    (D : ZipApart z TI TO i1 i2 l1 l2) (hz : IsZip s.heap z TI TO .none) (hTI : IsPair s.heap TI (.ref i1) (.ref i2)) (hTO : IsPair s.heap TO a b) (h1 : s.heap.IsListIter i1 l1 k1) (h2 : s.heap.IsTupleIter i2 l2 k2) (hl1 : s.heap.IsList l1 xs) (hl2 : s.heap.IsTuple l2 ys) (hx : xs[k1]? = some x) (hy : ys[k2]? = some y)
    (hQ : ∀ h' : Heap, IsZip h' z TI TO (rawInt s.heap.objs.size) → IsPair h' TO x y → h'.IsListIter i1 l1 (k1 + 1) → h'.IsTupleIter i2 l2 (k2 + 1) → IsPair h' s.heap.objs.size x y → h'.objs.size = s.heap.objs.size + 1 → (∀ (c : Addr) (o : Obj), c ≠ z → c ≠ TO → c ≠ i1 → c ≠ i2 → s.heap.get? c = some o → h'.get? c = some o) → Q (some (.ref s.heap.objs.size)) { s with heap := h' }) :
    wpAny (model prog w) A (pyNext (.ref z)) Q E s := by
  have hT : s.TypeIs (.ref z) "zip" := ⟨_, hz, rfl⟩
  exact wpAny_bind (wpAny_attempt (wpAny_callSpecial?_slot hT F.slot_zip_next (wpAny_call_entry F.slot_zip_next hT F.entry_zip_next (next_item D hz hTI hTO h1 h2 hl1 hl2 hx hy fun h' a1 a2 a3 a4 a5 a6 a7 => wpAny_pure (hQ h' a1 a2 a3 a4 a5 a6 a7)) (F.args_zip_next_1 (.ref z)))))
theorem pyNext_end {prog : Program} {w : World} {A : Around} {E : Value → Shared → Prop} {s : Shared} {z TI TO i1 i2 l1 l2 : Addr} {k1 k2 : Nat} {xs ys : Array Value} {a b : Value} {Q : Option Value → Shared → Prop} (hh : A.handled = none)
    (D : ZipApart z TI TO i1 i2 l1 l2) (hz : IsZip s.heap z TI TO .none) (hTI : IsPair s.heap TI (.ref i1) (.ref i2)) (hTO : IsPair s.heap TO a b) (h1 : s.heap.IsListIter i1 l1 k1) (h2 : s.heap.IsTupleIter i2 l2 k2) (hl1 : s.heap.IsList l1 xs) (hl2 : s.heap.IsTuple l2 ys) (hend : xs[k1]? = none ∨ ys[k2]? = none)
    (hQ : ∀ h' : Heap, (∀ (c : Addr) (o : Obj), c ≠ z → c ≠ TO → c ≠ i1 → c ≠ i2 → s.heap.get? c = some o → h'.get? c = some o) → Q none { s with heap := h' }) :
    wpAny (model prog w) A (pyNext (.ref z)) Q E s := by
  have hT : s.TypeIs (.ref z) "zip" := ⟨_, hz, rfl⟩
  exact wpAny_bind (wpAny_attempt (wpAny_callSpecial?_slot hT F.slot_zip_next (wpAny_call_entry F.slot_zip_next hT F.entry_zip_next (next_end hh D hz hTI hTO h1 h2 hl1 hl2 hend fun h' e hk ⟨o, ho, hc⟩ => wpAny_bind (wpAny_isInstance ⟨o, ho, hc⟩ isSubtype_stop (wpAny_pure (hQ h' hk)))) (F.args_zip_next_1 (.ref z)))))
def ItzX (K : W.Frag) (a b : Addr) : It := ⟨fun i H => ∃ xs ys x y, SqL K H a xs ∧ SqT K H b ys ∧ xs[i]? = some x ∧ ys[i]? = some y, fun i H v H' => ∃ T x y, v = .ref T ∧ H T = none ∧ H' = upd H T (.tup [x, y]) ∧ (∀ xs, SqL K H a xs → xs[i]? = some x) ∧ ∀ ys, SqT K H b ys → ys[i]? = some y, fun i H => ∃ xs ys, SqL K H a xs ∧ SqT K H b ys ∧ (xs.length ≤ i ∨ ys.length ≤ i)⟩
theorem turn_zipX {P : Program} {w : World} {K : W.Frag} {elts : List Expr} {kk : Nat} {tpos : Pos} {a b z TI TO i1 i2 : Addr} (D : ZipApart z TI TO i1 i2 a b) :
    Turn P w K (.Tuple elts kk tpos) (ItzX K a b) [z, TI, TO, i1, i2] z fun i h => IsZip h z TI TO .none ∧ IsPair h TI (.ref i1) (.ref i2) ∧ (∃ x y, IsPair h TO x y) ∧ h.IsListIter i1 a i ∧ h.IsTupleIter i2 b i where
  mem := by simp
  obj := by
    rintro i h ⟨hz, hTI, ⟨x, y, hTO⟩, ⟨o1, e1, _, d1⟩, ⟨o2, e2, _, d2⟩⟩ c hc
    rcases (show c = z ∨ c = TI ∨ c = TO ∨ c = i1 ∨ c = i2 by simpa using hc) with rfl | rfl | rfl | rfl | rfl
    · exact ⟨_, hz, fun v q => nomatch q⟩
    · exact ⟨_, hTI, fun v q => nomatch q⟩
    · exact ⟨_, hTO, fun v q => nomatch q⟩
    · exact ⟨_, e1, fun v q => by rw [d1] at q; cases q⟩
    · exact ⟨_, e2, fun v q => by rw [d2] at q; cases q⟩
  keep := by
    rintro i h h' ⟨hz, hTI, ⟨x, y, hTO⟩, h1, h2⟩ k
    exact ⟨k z (by simp) _ hz, k TI (by simp) _ hTI, ⟨x, y, k TO (by simp) _ hTO⟩, h1.at fun o q => k i1 (by simp) o q, h2.at fun o q => k i2 (by simp) o q⟩
  item := by
    rintro X rfl rfl rfl hc i pins s σ H E I hf ⟨hz, hTI, ⟨x0, y0, hTO⟩, h1, h2⟩ ⟨xs, ys, x, y, hqx, hqy, hx, hy⟩
    obtain ⟨its, rv, p, _⟩ := I.list hqx
    obtain ⟨its2, rv2, p2, _⟩ := I.tuple hqy
    obtain ⟨u, hu, ru⟩ := Vals.get rv hx
    obtain ⟨u2, hu2, ru2⟩ := Vals.get rv2 hy
    have hzl := Heap.lt_size hz
    refine pyNext_item D hz hTI hTO h1 h2 (PlainL.isList p) p2 (x := u) (y := u2) (by simpa using hu) (by simpa using hu2) fun h' z' TO' h1' h2' hT hsz hk => ?_
    refine ⟨_, rfl, wpAny_letOwnedTupleGo_zip z' fun h'' z'' sb => ?_⟩
    replace sb : Heap.SameBut z h' h'' := sb
    have hT2 := (sb.2 s.heap.objs.size (Nat.ne_of_gt hzl)).trans hT
    have I1 : Inv X pins σ (upd H s.heap.objs.size (.tup [x, y])) { s with heap := h'' } := Inv.turnedNew (ch := [z, TI, TO, i1, i2]) I (fun c o hb q => by
      have hb' : ¬ (c = z ∨ c = TI ∨ c = TO ∨ c = i1 ∨ c = i2) := fun e => hb (by simpa using e)
      exact (sb.2 c fun q' => hb' (.inl q')).trans (hk c o (fun q' => hb' (.inl q')) (fun q' => hb' (.inr (.inr (.inl q')))) (fun q' => hb' (.inr (.inr (.inr (.inl q'))))) (fun q' => hb' (.inr (.inr (.inr (.inr q'))))) q)) hf (Nat.le_refl _) ⟨by show 2 ≤ sizeLine; decide, [u, u2], .cons ru (.cons ru2 .nil), _, hT2, rfl, 0, rfl⟩
    refine ⟨.ref s.heap.objs.size, upd H s.heap.objs.size (.tup [x, y]), I1, rfl, ⟨_, x, y, rfl, HOk.fresh I.hok (Nat.le_refl _), rfl, fun l hl => by rw [Inv.list_inj I hl hqx]; exact hx, fun l hl => by rw [Inv.tuple_inj I hl hqy]; exact hy⟩, ⟨z'', (sb.2 TI D.TIz).trans (hk TI _ D.TIz D.TITO D.TIi1 D.TIi2 hTI), ⟨u, u2, (sb.2 TO D.TOz).trans TO'⟩, h1'.at fun o q => (sb.2 i1 D.i1z).trans q, h2'.at fun o q => (sb.2 i2 D.i2z).trans q⟩, fun c hcm => ?_⟩
    have hlt : c < s.heap.objs.size := by
      rcases (show c = z ∨ c = TI ∨ c = TO ∨ c = i1 ∨ c = i2 by simpa using hcm) with rfl | rfl | rfl | rfl | rfl
      · exact hzl
      · exact Heap.lt_size hTI
      · exact Heap.lt_size hTO
      · obtain ⟨o, e1, _⟩ := h1; exact Heap.lt_size e1
      · obtain ⟨o, e1, _⟩ := h2; exact Heap.lt_size e1
    rw [upd_ne (Nat.ne_of_lt hlt)]
    exact (hf c hcm).1
  done := by
    rintro X rfl rfl rfl hc i pins s σ H E I hf ⟨hz, hTI, ⟨x0, y0, hTO⟩, h1, h2⟩ ⟨xs, ys, hqx, hqy, hend⟩
    obtain ⟨its, rv, p, _⟩ := I.list hqx
    obtain ⟨its2, rv2, p2, _⟩ := I.tuple hqy
    have l1 := Vals.length rv
    have l2 := Vals.length rv2
    refine pyNext_end (I.ok.hd hc) D hz hTI hTO h1 h2 (PlainL.isList p) p2 ?_ fun h' hk => ⟨rfl, ?_⟩
    · rcases hend with q | q
      · left; simp only [List.getElem?_toArray]; rw [List.getElem?_eq_none_iff]; omega
      · right; simp only [List.getElem?_toArray]; rw [List.getElem?_eq_none_iff]; omega
    · exact Inv.turnedL (t' := s.toks) (ch := [z, TI, TO, i1, i2]) I (fun c o hb q => by
        have hb' : ¬ (c = z ∨ c = TI ∨ c = TO ∨ c = i1 ∨ c = i2) := fun e => hb (by simpa using e)
        exact hk c o (fun q' => hb' (.inl q')) (fun q' => hb' (.inr (.inr (.inl q')))) (fun q' => hb' (.inr (.inr (.inr (.inl q'))))) (fun q' => hb' (.inr (.inr (.inr (.inr q'))))) q) hf
  self := by
    rintro A i s Q E ⟨hz, _⟩ q
    exact wpAny_pyIter_zip hz q
end Zx
namespace Zx
open PySem PySem.Spec PyProof.Rows L2
open Sem (wp)
def zH1 (h : Heap) (l1 : Addr) : Heap := h.push { cls := .type "list_iterator", data := .fields #[.ref l1, .int 0 0] }
def zH2 (h : Heap) (l1 l2 : Addr) : Heap := (zH1 h l1).push { cls := .type "tuple_iterator", data := .fields #[.ref l2, .int 0 0] }
def zH3 (h : Heap) (l1 l2 : Addr) : Heap := (zH2 h l1 l2).push { cls := .type "tuple", data := .seq #[.ref h.objs.size, .ref (zH1 h l1).objs.size] }
def zH4 (h : Heap) (l1 l2 : Addr) : Heap := (zH3 h l1 l2).push { cls := .type "tuple", data := .seq #[.none, .none] }
def zH5 (h : Heap) (l1 l2 : Addr) : Heap := (zH4 h l1 l2).push { cls := .type "zip", data := .fields #[.none, .bool false, .bool false, .ref (zH2 h l1 l2).objs.size, .ref (zH3 h l1 l2).objs.size] }
theorem new_zipX (l1 l2 : Addr) (xs ys : Array Value) :
    Meets (Builtin.«zip.__new__» ⟨[.type "zip", .ref l1, .ref l2], []⟩) fun _ R s =>
      s.heap.IsList l1 xs ∧ s.heap.IsTuple l2 ys ∧ R (.ok (.ret (.ref (zH4 s.heap l1 l2).objs.size))) { s with heap := zH5 s.heap l1 l2 } :=
  .of_wp fun prog w A R s h => by
    obtain ⟨hp, g, d, tk, os⟩ := s
    obtain ⟨k1, k2, q⟩ := h
    have sub := sub_zip
    have key : ∀ {x : Addr} {hq : Heap} {Q : Value → Shared → Prop} {E : Value → Shared → Prop}, ((x = l1 ∧ hq = hp ∧ Q (.ref hp.objs.size) ⟨zH1 hp l1, g, d, tk, os⟩) ∨ (x = l2 ∧ hq = zH1 hp l1 ∧ Q (.ref (zH1 hp l1).objs.size) ⟨zH2 hp l1 l2, g, d, tk, os⟩)) → wpAny (model prog w) A.in1 (pyIter (.ref x)) Q E ⟨hq, g, d, tk, os⟩ := by
      rintro x hq Q E (⟨rfl, rfl, q⟩ | ⟨rfl, rfl, q⟩)
      · exact wpAny_pyIter_list k1 q
      · refine wpAny_pyIter_tuple (items := ys) ?_ q
        obtain ⟨o, e, r⟩ := k2
        exact ⟨o, Heap.get?_push_of_some _ e, r⟩
    wp_walk using key
    refine .inl ⟨rfl, rfl, ?_⟩
    wp_walk using key
    refine .inr ⟨rfl, rfl, ?_⟩
    wp_walk using key
    exact ⟨_, rfl, q⟩
theorem call_zipX {prog : Program} {w : World} {A : Around} {E : Value → Shared → Prop} {s : Shared} {l1 l2 : Addr} {xs ys : Array Value} {Q : Value → Shared → Prop} (hl1 : s.heap.IsList l1 xs) (hl2 : s.heap.IsTuple l2 ys)
    (h : ∀ h' : Heap, IsZip h' (s.heap.objs.size + 4) (s.heap.objs.size + 2) (s.heap.objs.size + 3) .none → IsPair h' (s.heap.objs.size + 2) (.ref s.heap.objs.size) (.ref (s.heap.objs.size + 1)) → IsPair h' (s.heap.objs.size + 3) .none .none → h'.IsListIter s.heap.objs.size l1 0 → h'.IsTupleIter (s.heap.objs.size + 1) l2 0 → h'.objs.size = s.heap.objs.size + 5 → (∀ (c : Addr) (o : Obj), s.heap.get? c = some o → h'.get? c = some o) → Q (.ref (s.heap.objs.size + 4)) { s with heap := h' }) :
    wpAny (model prog w) A (call (.type "zip") [.ref l1, .ref l2]) Q E s := by
  refine callType_new F.called_zip (by decide) (F.typeCall_zip_2 _ _) (F.newCall_zip_2 _ _) (fun obj => F.args_object_init_3 obj _ _) F.entry_zip_new (new_zipX l1 l2 xs ys) ⟨hl1, hl2, ?_⟩
  have z1 : (zH1 s.heap l1).objs.size = s.heap.objs.size + 1 := Heap.size_push _ _
  have z2 : (zH2 s.heap l1 l2).objs.size = s.heap.objs.size + 2 := by unfold zH2; rw [Heap.size_push, z1]
  have z3 : (zH3 s.heap l1 l2).objs.size = s.heap.objs.size + 3 := by unfold zH3; rw [Heap.size_push, z2]
  have z4 : (zH4 s.heap l1 l2).objs.size = s.heap.objs.size + 4 := by unfold zH4; rw [Heap.size_push, z3]
  have z5 : (zH5 s.heap l1 l2).objs.size = s.heap.objs.size + 5 := by unfold zH5; rw [Heap.size_push, z4]
  have g5 : (zH5 s.heap l1 l2).get? (zH4 s.heap l1 l2).objs.size = some _ := Heap.get?_push_size _ rfl
  have g4 : (zH5 s.heap l1 l2).get? (zH3 s.heap l1 l2).objs.size = some _ := Heap.get?_push_of_some _ (Heap.get?_push_size _ rfl)
  have g3 : (zH5 s.heap l1 l2).get? (zH2 s.heap l1 l2).objs.size = some _ := Heap.get?_push_of_some _ (Heap.get?_push_of_some _ (Heap.get?_push_size _ rfl))
  have g2 : (zH5 s.heap l1 l2).get? (zH1 s.heap l1).objs.size = some _ := Heap.get?_push_of_some _ (Heap.get?_push_of_some _ (Heap.get?_push_of_some _ (Heap.get?_push_size _ rfl)))
  have g1 : (zH5 s.heap l1 l2).get? s.heap.objs.size = some _ := Heap.get?_push_of_some _ (Heap.get?_push_of_some _ (Heap.get?_push_of_some _ (Heap.get?_push_of_some _ (Heap.get?_push_size _ rfl))))
  have up : ∀ c o, s.heap.get? c = some o → (zH5 s.heap l1 l2).get? c = some o := fun c o q => Heap.get?_push_of_some _ (Heap.get?_push_of_some _ (Heap.get?_push_of_some _ (Heap.get?_push_of_some _ (Heap.get?_push_of_some _ q))))
  show Shared.TypeIs _ (.ref (zH4 s.heap l1 l2).objs.size) "zip" ∧ Q (.ref (zH4 s.heap l1 l2).objs.size) _
  rw [z1] at g2 g3
  rw [z2] at g3 g5
  rw [z3] at g4 g5
  rw [z4] at g5 ⊢
  exact ⟨⟨_, g5, rfl⟩, h (zH5 s.heap l1 l2) g5 g3 g4 ⟨_, g1, rfl, rfl⟩ ⟨_, g2, rfl, rfl⟩ z5 up⟩
theorem apart {n a b : Nat} (la : a < n) (lb : b < n) : ZipApart (n + 4) (n + 2) (n + 3) n (n + 1) a b := by
  constructor <;> (intro e; have e : (_ : Nat) = _ := e; omega)
theorem five {n c : Nat} (h : c ∈ [n + 4, n + 2, n + 3, n, n + 1]) : n ≤ c := by
  rcases (show c = n + 4 ∨ c = n + 2 ∨ c = n + 3 ∨ c = n ∨ c = n + 1 by simpa using h) with h | h | h | h | h <;> omega
/-- for (x, y) in zip(a list, a tuple) -/
def iZipX (K : W.Frag) (ta : TA) : TI := fun σ H R => ta σ H fun vs H1 => ∃ a b xs ys, vs = [.ref a, .ref b] ∧ ((SqL K H1 a xs ∧ SqL K H1 b ys ∧ R (Itz K a b) H1) ∨ (SqT K H1 a xs ∧ SqT K H1 b ys ∧ R (RZ.ItzT K a b) H1) ∨ (SqL K H1 a xs ∧ SqT K H1 b ys ∧ R (ItzX K a b) H1))
theorem pi_zipX {X : Cx} {e e2 : Expr} {ta : TA} {p pos tpos : Pos} {elts : List Expr} {kk : Nat} (hg : Gl X "zip") (hm : X.mg "zip" = none) (ha : PA X [e, e2] ta) (hs : starEach [e, e2] X.env = (false, eval e X.env) :: starEach [e2] X.env := by rfl) (hpl : (backTo pos (starEach [e2] X.env)).any (·.1) = false := by rfl) :
    PI X (.Tuple elts kk tpos) (.Call (.Name "zip" p) [e, e2] [] pos) (iZipX X.K ta) := by
  constructor
  intro pins s σ H R I h
  refine Call_ (ld_blt I hg hm boot_zip (PyProof.Rows.callWith_type1 (thn (ha.run pos pins s σ H _ I h) ?_) hs hpl))
  rintro us s1 ⟨vs, H1, I1, r1, a, b, xs, ys, rfl, q⟩
  obtain ⟨u, u2, rfl, ru, ru2⟩ : ∃ u u2, us = [u, u2] ∧ RelV (.ref a) u ∧ RelV (.ref b) u2 := by
    cases r1 with
    | cons r rr =>
      cases rr with
      | cons r' rr' =>
        cases rr'
        exact ⟨_, _, rfl, r, r'⟩
  cases (show u = Value.ref a from ru)
  cases (show u2 = Value.ref b from ru2)
  rcases q with ⟨ha, hb, q⟩ | ⟨ha, hb, q⟩ | ⟨ha, hb, q⟩
  · obtain ⟨its, rv, p1, _⟩ := I1.list ha
    obtain ⟨its2, rv2, p2, _⟩ := I1.list hb
    obtain ⟨oa, ea, _⟩ := id (PlainL.isList p1)
    obtain ⟨ob, eb, _⟩ := id (PlainL.isList p2)
    have la : a < s1.heap.objs.size := Heap.lt_size ea
    have lb : b < s1.heap.objs.size := Heap.lt_size eb
    refine call_zip_2 (PlainL.isList p1) (PlainL.isList p2) fun h' hz hTI hTO h1 h2 hsz hk => ?_
    refine wpAny_pyIter_zip hz ?_
    refine ⟨_, _, _, _, H1, rfl, I1.kept (t' := s1.toks) hk, turn_zip (a := a) (b := b) (i1 := s1.heap.objs.size) (i2 := s1.heap.objs.size + 1) (TI := s1.heap.objs.size + 2) (TO := s1.heap.objs.size + 3) (z := s1.heap.objs.size + 4) (apart la lb), ⟨hz, hTI, ⟨_, _, hTO⟩, h1, h2⟩, fun c hc => ?_, q⟩
    have hge := five hc
    exact I1.fpOk hge (I1.hok.fresh hge)
  · obtain ⟨its, rv, p1, _⟩ := I1.tuple ha
    obtain ⟨its2, rv2, p2, _⟩ := I1.tuple hb
    obtain ⟨oa, ea, _⟩ := id (id p1)
    obtain ⟨ob, eb, _⟩ := id (id p2)
    have la : a < s1.heap.objs.size := Heap.lt_size ea
    have lb : b < s1.heap.objs.size := Heap.lt_size eb
    refine RZ.call_zipT (id p1) (id p2) fun h' hz hTI hTO h1 h2 hsz hk => ?_
    refine wpAny_pyIter_zip hz ?_
    refine ⟨_, _, _, _, H1, rfl, I1.kept (t' := s1.toks) hk, RZ.turn_zipT (a := a) (b := b) (i1 := s1.heap.objs.size) (i2 := s1.heap.objs.size + 1) (TI := s1.heap.objs.size + 2) (TO := s1.heap.objs.size + 3) (z := s1.heap.objs.size + 4) (apart la lb), ⟨hz, hTI, ⟨_, _, hTO⟩, h1, h2⟩, fun c hc => ?_, q⟩
    have hge := five hc
    exact I1.fpOk hge (I1.hok.fresh hge)
  · obtain ⟨its, rv, p1, _⟩ := I1.list ha
    obtain ⟨its2, rv2, p2, _⟩ := I1.tuple hb
    obtain ⟨oa, ea, _⟩ := id (PlainL.isList p1)
    obtain ⟨ob, eb, _⟩ := id (id p2)
    have la : a < s1.heap.objs.size := Heap.lt_size ea
    have lb : b < s1.heap.objs.size := Heap.lt_size eb
    refine call_zipX (PlainL.isList p1) (id p2) fun h' hz hTI hTO h1 h2 hsz hk => ?_
    refine wpAny_pyIter_zip hz ?_
    refine ⟨_, _, _, _, H1, rfl, I1.kept (t' := s1.toks) hk, turn_zipX (a := a) (b := b) (i1 := s1.heap.objs.size) (i2 := s1.heap.objs.size + 1) (TI := s1.heap.objs.size + 2) (TO := s1.heap.objs.size + 3) (z := s1.heap.objs.size + 4) (apart la lb), ⟨hz, hTI, ⟨_, _, hTO⟩, h1, h2⟩, fun c hc => ?_, q⟩
    have hge := five hc
    exact I1.fpOk hge (I1.hok.fresh hge)
end Zx
set_option exponentiation.threshold 20000
namespace Dz
open PySem PySem.Spec PyProof.Rows L2
def isaB (t c : String) : Bool := t == c || (t == "bool" && c == "int")
theorem same_new {H : Hp} {a : Addr} {o : HO} (h : H a = none) : Same H (upd H a o) := fun b u e => by
  rw [upd_ne (ne_of_none e h)]
  exact e
/-- small enough for every deed: below a thousand bits and some -/
def Sm (i : Int) : Prop := i.natAbs < 2 ^ 1000
end Dz
namespace Dz
open PySem PySem.Spec PyProof.Rows L2
end Dz
set_option exponentiation.threshold 20000
namespace Mt
open PySem PySem.Spec L2 Dz
/-- a couple in lowest terms is a ratio -/
def Low (t b : Int) : Prop := 1 ≤ b ∧ Nat.gcd t.natAbs b.natAbs = 1
/-- a drawn fraction -/
structure Frac (t b : Int) : Prop where
  low : Low t b
  t1 : t.natAbs ≤ 1000000000
  b1 : b ≤ 12
theorem Frac.ne {t b : Int} (h : Frac t b) : b ≠ 0 := by have := h.low.1; omega
end Mt
namespace Vz
open PySem PySem.Spec PyProof.Rows L2 Dz
structure Mv (G H G' H' : Hp) : Prop where
  gg : Same G G'
  gh : Same G' H'
  nw : ∀ a, H a ≠ none → G' a = G a
  dm : ∀ a, H a ≠ none → H' a ≠ none
theorem some_ne {α : Type} {x : Option α} {o : α} (h : x = some o) : x ≠ none := fun z => by rw [h] at z; cases z
theorem ne_some {α : Type} {x : Option α} (h : x ≠ none) : ∃ o, x = some o := by
  cases x with
  | none => exact absurd rfl h
  | some o => exact ⟨o, rfl⟩
theorem old_none {G H : Hp} {p : Addr} (s : Same G H) (hp : H p = none) : G p = none := by
  cases e : G p with
  | none => rfl
  | some o =>
    rw [s p o e] at hp
    cases hp
section
variable {G H G1 H1 G2 H2 G' H' : Hp}
theorem Mv.refl (s : Same G H) : Mv G H G H := ⟨Same.refl _, s, fun _ _ => rfl, fun _ h => h⟩
theorem Mv.trans (x : Mv G H G1 H1) (y : Mv G1 H1 G2 H2) : Mv G H G2 H2 :=
  ⟨x.gg.trans y.gg, y.gh, fun a h => (y.nw a (x.dm a h)).trans (x.nw a h), fun a h => y.dm a (x.dm a h)⟩
theorem Mv.of (s : Same G H) (t : Same H H') : Mv G H G H' :=
  ⟨Same.refl _, s.trans t, fun _ _ => rfl, fun a h => by
    obtain ⟨o, e⟩ := ne_some h
    exact some_ne (t a o e)⟩
theorem Mv.new {p : Addr} {o : HO} (s : Same G H) (hp : H p = none) : Mv G H (upd G p o) (upd H p o) := by
  have gp := old_none s hp
  refine ⟨same_new gp, fun b u e => ?_, fun a h => ?_, fun a h => ?_⟩
  · by_cases hb : b = p
    · subst hb
      rw [upd_same] at e ⊢
      exact e
    · rw [upd_ne hb] at e ⊢
      exact s b u e
  · rw [upd_ne fun z => h (by rw [z]; exact hp)]
  · rw [upd_ne fun z => h (by rw [z]; exact hp)]
    exact h
/-- a new object that stays out of the view -/
theorem Mv.hid {p : Addr} {o : HO} (s : Same G H) (hp : H p = none) : Mv G H G (upd H p o) := Mv.of s (same_new hp)
/-- an object out of the view changes -/
theorem Mv.put {p : Addr} {o : HO} (s : Same G H) (gp : G p = none) (hp : H p ≠ none) : Mv G H G (upd H p o) := by
  refine ⟨Same.refl _, fun b u e => ?_, fun _ _ => rfl, fun a h => ?_⟩
  · rw [upd_ne (ne_of_none e gp)]
    exact s b u e
  · by_cases ha : a = p
    · rw [ha, upd_same]
      exact fun z => nomatch z
    · rw [upd_ne ha]
      exact h
/-- an object out of the view comes in as it stands -/
theorem Mv.shut {p : Addr} {o : HO} (x : Mv G H G1 H1) (np : H p = none) (g1 : G1 p = none) (hp : H1 p = some o) : Mv G H (upd G1 p o) H1 := by
  refine ⟨x.gg.trans (same_new g1), fun b u e => ?_, fun a h => ?_, x.dm⟩
  · by_cases hb : b = p
    · subst hb
      rw [upd_same] at e
      rw [hp]
      exact e
    · rw [upd_ne hb] at e
      exact x.gh b u e
  · rw [upd_ne fun z => h (by rw [z]; exact np)]
    exact x.nw a h
/-- what a deed keeps that changes only what ex tells -/
def Kp (ex : Addr → Prop) (H H' : Hp) : Prop := ∀ b o, ¬ ex b → H b = some o → H' b = some o
theorem Kp.refl {ex : Addr → Prop} : Kp ex H H := fun _ _ _ h => h
theorem Kp.trans {ex : Addr → Prop} (x : Kp ex H H1) (y : Kp ex H1 H2) : Kp ex H H2 := fun b o hb e => y b o hb (x b o hb e)
theorem Kp.of {ex : Addr → Prop} (s : Same H H1) : Kp ex H H1 := fun b o _ e => s b o e
end
theorem pi_or {X : Cx} {tg it : Expr} {w1 w2 : TI} (h1 : PI X tg it w1) (h2 : PI X tg it w2) : PI X tg it (fun σ H R => w1 σ H R ∨ w2 σ H R) :=
  ⟨fun pins s σ H R I h => h.elim (h1.run pins s σ H R I) (h2.run pins s σ H R I)⟩
section
variable {K : PySem.W.Frag} {J : It} {n : Nat} {Gd : Hp → Prop} {Y : Nat → Hp → V → Hp → Prop} {g : TG} {tt : TT} {te : TE} {vs : List Nat} {σ : L2.St} {G1 H1 : Hp} {D : Addr} {Qd : Hp → Prop}
/-- what a comprehension's loop asks -/
abbrev LcW (J : It) (g : TG) (tt : TT) (te : TE) (vs : List Nat) (σ : L2.St) (H1 : Hp) (D : Addr) (Qd : Hp → Prop) : Prop :=
  ∃ W : Nat → Nat → Hp → Prop, (∃ m, W 0 m (upd H1 D (.lst []))) ∧ ∀ i m H, W i m H →
      (J.stop i H ∧ Qd H) ∨ (J.go i H ∧ ∃ Nx : Hp → Prop, (∀ H', Nx H' → ∃ m', m' < m ∧ W (i + 1) m' H') ∧ ∀ x H', J.yld i H x H' → g x (wipe σ vs) H' fun σ2 H2 => wipe σ2 vs = wipe σ vs ∧ tt σ2 H2 fun b H3 =>
        if b = true then te σ2 H3 fun y H4 => ∃ acc, H4 D = some (.lst acc) ∧ acc.length < sizeLine ∧ Nx (upd H4 D (.lst (acc ++ [y]))) else Nx H3)
end
end Vz
namespace Fw
open PySem PySem.Spec PyProof.Rows L2 Vz
/-- a value as data: hl a list that one place alone holds; me the one thing that is handed about and changes (a law's hand, a self under construction); ex an error that a suite holds -/
inductive D where
  | non | bl (b : Bool) | int (i : Int) | str (x : Str)
  | tup (ds : List D) | lst (ds : List D)
  | ins (n : Str) (fs : List (Str × D))
  | hl (ds : List D) | me
  | ex (n : Str) (fs : List (Str × D))
/-- a law's constants -/
structure Cn where
  K : PySem.W.Frag
  mg : Str → Option Value
  xa : Option (Addr × Value × Option Addr) := none
/-- what is asked of a class whose instances are handed about -/
structure COk (K : PySem.W.Frag) (C : Addr) : Prop where
  cl : Cls K C
  ca : PySem.W.findIn K (.ref C) "__class__" = some (some (.builtin "object.__class__"))
  mo : PySem.W.mroIn K C (.type "object") = some true
  nb : ∀ n ∈ (["int", "bool", "str", "list", "tuple", "dict"] : List String), PySem.W.kitOne K (.ref C) (.type n) = some false
mutual
inductive Dq (c : Cn) (ha : Option Addr) (G : Hp) : V → D → Prop
  | non : Dq c ha G .non .non
  | bl (b : Bool) : Dq c ha G (.bl b) (.bl b)
  | int (i : Int) : Dq c ha G (.int i) (.int i)
  | str (x : Str) : Dq c ha G (.str x) (.str x)
  | tup {a : Addr} {xs : List V} {ds : List D} : SqT c.K G a xs → DqAll c ha G xs ds → Dq c ha G (.ref a) (.tup ds)
  | lst {a : Addr} {xs : List V} {ds : List D} : G a = some (.lst xs) → DqAll c ha G xs ds → Dq c ha G (.ref a) (.lst ds)
  | ins {a C dx : Addr} {n : Str} {xs : List (Str × V)} {fs : List (Str × D)} : c.mg n = some (.ref C) → G a = some (.ins C dx xs) → COk c.K C → DqF c ha G C xs fs → Dq c ha G (.ref a) (.ins n fs)
inductive DqAll (c : Cn) (ha : Option Addr) (G : Hp) : List V → List D → Prop
  | nil : DqAll c ha G [] []
  | cons {v : V} {d : D} {xs : List V} {ds : List D} : Dq c ha G v d → DqAll c ha G xs ds → DqAll c ha G (v :: xs) (d :: ds)
inductive DqF (c : Cn) (ha : Option Addr) (G : Hp) : Addr → List (Str × V) → List (Str × D) → Prop
  | nil {C : Addr} : DqF c ha G C [] []
  | cons {C : Addr} {n : Str} {v : V} {d : D} {xs : List (Str × V)} {fs : List (Str × D)} : NoAttr c.K C n → Dq c ha G v d → DqF c ha G C xs fs → DqF c ha G C ((n, v) :: xs) ((n, d) :: fs)
end
section
variable {c : Cn} {ha : Option Addr} {G G' H H' G1 H1 : Hp}
theorem dq_mono (s : Same G G') {v : V} {d : D} (h : Dq c ha G v d) : Dq c ha G' v d := by
  refine Dq.rec (motive_1 := fun v d _ => Dq c ha G' v d) (motive_2 := fun xs ds _ => DqAll c ha G' xs ds) (motive_3 := fun C xs fs _ => DqF c ha G' C xs fs) ?_ ?_ ?_ ?_ ?_ ?_ ?_ ?_ ?_ ?_ ?_ h
  · exact .non
  · exact fun b => .bl b
  · exact fun i => .int i
  · exact fun x => .str x
  · exact fun h1 _ h2 => .tup (Evl.ex_t s h1) h2
  · exact fun h1 _ h2 => .lst (s _ _ h1) h2
  · exact fun h1 h2 h3 _ h4 => .ins h1 (s _ _ h2) h3 h4
  · exact .nil
  · exact fun _ _ h1 h2 => .cons h1 h2
  · exact .nil
  · exact fun h0 _ _ h1 h2 => .cons h0 h1 h2
theorem dq_ha {hb : Option Addr} {v : V} {d : D} (h : Dq c ha G v d) : Dq c hb G v d := by
  refine Dq.rec (motive_1 := fun v d _ => Dq c hb G v d) (motive_2 := fun xs ds _ => DqAll c hb G xs ds) (motive_3 := fun C xs fs _ => DqF c hb G C xs fs) ?_ ?_ ?_ ?_ ?_ ?_ ?_ ?_ ?_ ?_ ?_ h
  · exact .non
  · exact fun b => .bl b
  · exact fun i => .int i
  · exact fun x => .str x
  · exact fun h1 _ h2 => .tup h1 h2
  · exact fun h1 _ h2 => .lst h1 h2
  · exact fun h1 h2 h3 _ h4 => .ins h1 h2 h3 h4
  · exact .nil
  · exact fun _ _ h1 h2 => .cons h1 h2
  · exact .nil
  · exact fun h0 _ _ h1 h2 => .cons h0 h1 h2
theorem dqF_ha {hb : Option Addr} {C : Addr} : ∀ {xs : List (Str × V)} {fs : List (Str × D)}, DqF c ha G C xs fs → DqF c hb G C xs fs
  | _, _, .nil => .nil
  | _, _, .cons h0 h t => .cons h0 (dq_ha h) (dqF_ha t)
theorem dqAll_mono (s : Same G G') : ∀ {xs : List V} {ds : List D}, DqAll c ha G xs ds → DqAll c ha G' xs ds
  | _, _, .nil => .nil
  | _, _, .cons h t => .cons (dq_mono s h) (dqAll_mono s t)
theorem dqF_mono (s : Same G G') {C : Addr} : ∀ {xs : List (Str × V)} {fs : List (Str × D)}, DqF c ha G C xs fs → DqF c ha G' C xs fs
  | _, _, .nil => .nil
  | _, _, .cons h0 h t => .cons h0 (dq_mono s h) (dqF_mono s t)
theorem dqAll_len : ∀ {xs : List V} {ds : List D}, DqAll c ha G xs ds → xs.length = ds.length
  | _, _, .nil => rfl
  | _, _, .cons _ t => congrArg Nat.succ (dqAll_len t)
theorem dqAll_at : ∀ {xs : List V} {ds : List D} {i : Nat} {d : D}, DqAll c ha G xs ds → ds[i]? = some d → ∃ x, xs[i]? = some x ∧ Dq c ha G x d
  | _, _, i, _, .nil, e => by simp at e
  | _, _, 0, _, .cons h _, e => by
    have z := Option.some.inj e
    subst z
    exact ⟨_, rfl, h⟩
  | _, _, i + 1, _, .cons _ t, e => dqAll_at (i := i) t e
theorem dqAll_app : ∀ {xs ys : List V} {ds es : List D}, DqAll c ha G xs ds → DqAll c ha G ys es → DqAll c ha G (xs ++ ys) (ds ++ es)
  | _, _, _, _, .nil, k => k
  | _, _, _, _, .cons h t, k => .cons h (dqAll_app t k)
theorem dqAll_drop : ∀ (n : Nat) {xs : List V} {ds : List D}, DqAll c ha G xs ds → DqAll c ha G (xs.drop n) (ds.drop n)
  | 0, _, _, h => h
  | _ + 1, _, _, .nil => .nil
  | n + 1, _, _, .cons _ t => dqAll_drop n t
theorem dqAll_take : ∀ (n : Nat) {xs : List V} {ds : List D}, DqAll c ha G xs ds → DqAll c ha G (xs.take n) (ds.take n)
  | 0, _, _, _ => .nil
  | _ + 1, _, _, .nil => .nil
  | n + 1, _, _, .cons h t => .cons h (dqAll_take n t)
theorem dqAll_set {v : V} {d : D} (r : Dq c ha G v d) : ∀ (n : Nat) {xs : List V} {ds : List D}, DqAll c ha G xs ds → DqAll c ha G (xs.set n v) (ds.set n d)
  | _, _, _, .nil => .nil
  | 0, _, _, .cons _ t => .cons r t
  | n + 1, _, _, .cons h t => .cons h (dqAll_set r n t)
theorem dqAll_reps {xs : List V} {ds : List D} (r : DqAll c ha G xs ds) : ∀ n : Nat, DqAll c ha G (List.replicate n xs).flatten (List.replicate n ds).flatten
  | 0 => .nil
  | n + 1 => by
    rw [List.replicate_succ, List.replicate_succ, List.flatten_cons, List.flatten_cons]
    exact dqAll_app r (dqAll_reps r n)
theorem dqF_look {C : Addr} : ∀ {xs : List (Str × V)} {fs : List (Str × D)} {n : Str} {d : D}, DqF c ha G C xs fs → fs.lookup n = some d → NoAttr c.K C n ∧ ∃ v, xs.lookup n = some v ∧ Dq c ha G v d
  | _, _, n, d, .nil, e => nomatch e
  | _, _, n, d, .cons (n := m) h0 h t, e => by
    rw [List.lookup_cons] at e ⊢
    cases q : n == m with
    | true =>
      rw [q] at e
      have e1 : n = m := eq_of_beq q
      subst e1
      have e2 := Option.some.inj e
      subst e2
      exact ⟨h0, _, rfl, h⟩
    | false =>
      rw [q] at e
      exact dqF_look t e
theorem dqF_no {C : Addr} : ∀ {xs : List (Str × V)} {fs : List (Str × D)} {n : Str}, DqF c ha G C xs fs → fs.lookup n = none → xs.lookup n = none
  | _, _, n, .nil, _ => rfl
  | _, _, n, .cons (n := m) h0 h t, e => by
    rw [List.lookup_cons] at e ⊢
    cases q : n == m with
    | true => rw [q] at e; cases e
    | false =>
      rw [q] at e
      exact dqF_no t e
theorem dqF_len {C : Addr} : ∀ {xs : List (Str × V)} {fs : List (Str × D)}, DqF c ha G C xs fs → xs.length = fs.length
  | _, _, .nil => rfl
  | _, _, .cons _ _ t => congrArg Nat.succ (dqF_len t)
end
mutual
inductive Own (c : Cn) (ha : Option Addr) (G H : Hp) : V → D → List Addr → Prop
  | frz {v : V} {d : D} : Dq c ha G v d → Own c ha G H v d []
  | hl {a : Addr} {xs : List V} {ds : List D} {fp : List Addr} : H a = some (.lst xs) → G a = none → OwnAll c ha G H xs ds fp → Own c ha G H (.ref a) (.hl ds) (a :: fp)
inductive OwnAll (c : Cn) (ha : Option Addr) (G H : Hp) : List V → List D → List Addr → Prop
  | nil : OwnAll c ha G H [] [] []
  | cons {v : V} {d : D} {f : List Addr} {xs : List V} {ds : List D} {fp : List Addr} : Own c ha G H v d f → OwnAll c ha G H xs ds fp → OwnAll c ha G H (v :: xs) (d :: ds) (f ++ fp)
end
/-- the dict of an error that a suite holds -/
inductive ExH (c : Cn) (ha : Option Addr) (G H : Hp) : Option Addr → Addr → List (Str × D) → List Addr → Prop
  | none {C : Addr} : ExH c ha G H none C [] []
  | some {d C : Addr} {xs : List (Str × V)} {fs : List (Str × D)} : H d = some (.xd xs) → G d = none → DqF c ha G C xs fs → ExH c ha G H (some d) C fs [d]
inductive OwnS (c : Cn) (ha : Option Addr) (G H : Hp) : L2.St → List (Option D) → List Addr → Prop
  | nil : OwnS c ha G H [] [] []
  | non (o : Option V) {σ : L2.St} {δ : List (Option D)} {fp : List Addr} : OwnS c ha G H σ δ fp → OwnS c ha G H (o :: σ) (none :: δ) fp
  | me {a : Addr} {σ : L2.St} {δ : List (Option D)} {fp : List Addr} : ha = some a → OwnS c ha G H σ δ fp → OwnS c ha G H (some (.ref a) :: σ) (some .me :: δ) fp
  | ex {a C : Addr} {dd : Option Addr} {n : Str} {fs : List (Str × D)} {fx : List Addr} {σ : L2.St} {δ : List (Option D)} {fp : List Addr} : c.xa = some (a, .ref C, dd) → c.mg n = some (.ref C) → ExH c ha G H dd C fs fx → OwnS c ha G H σ δ fp → OwnS c ha G H (some (.ref a) :: σ) (some (.ex n fs) :: δ) (fx ++ fp)
  | some {v : V} {d : D} {f : List Addr} {σ : L2.St} {δ : List (Option D)} {fp : List Addr} : Own c ha G H v d f → OwnS c ha G H σ δ fp → OwnS c ha G H (some v :: σ) (some d :: δ) (f ++ fp)
section
variable {c : Cn} {ha : Option Addr} {G G' H H' G1 H1 : Hp}
theorem own_keep (s : Same G G') {v : V} {d : D} {fp : List Addr} (h : Own c ha G H v d fp) : (∀ b ∈ fp, H' b = H b ∧ G' b = none) → Own c ha G' H' v d fp := by
  refine Own.rec (motive_1 := fun v d fp _ => (∀ b ∈ fp, H' b = H b ∧ G' b = none) → Own c ha G' H' v d fp) (motive_2 := fun xs ds fp _ => (∀ b ∈ fp, H' b = H b ∧ G' b = none) → OwnAll c ha G' H' xs ds fp) ?_ ?_ ?_ ?_ h
  · exact fun h _ => .frz (dq_mono s h)
  · exact fun h1 h2 _ ih k => .hl ((k _ List.mem_cons_self).1.trans h1) (k _ List.mem_cons_self).2 (ih fun b hb => k b (List.mem_cons_of_mem _ hb))
  · exact fun _ => .nil
  · exact fun _ _ i1 i2 k => .cons (i1 fun b hb => k b (List.mem_append_left _ hb)) (i2 fun b hb => k b (List.mem_append_right _ hb))
theorem ownAll_keep (s : Same G G') : ∀ {xs : List V} {ds : List D} {fp : List Addr}, OwnAll c ha G H xs ds fp → (∀ b ∈ fp, H' b = H b ∧ G' b = none) → OwnAll c ha G' H' xs ds fp
  | _, _, _, .nil, _ => .nil
  | _, _, _, .cons h t, k => .cons (own_keep s h fun b hb => k b (List.mem_append_left _ hb)) (ownAll_keep s t fun b hb => k b (List.mem_append_right _ hb))
theorem exh_keep (s : Same G G') {dd : Option Addr} {C : Addr} {fs : List (Str × D)} {fx : List Addr} (x : ExH c ha G H dd C fs fx) (k : ∀ b ∈ fx, H' b = H b ∧ G' b = none) : ExH c ha G' H' dd C fs fx := by
  cases x with
  | none => exact .none
  | some h1 h2 h3 => exact .some ((k _ List.mem_cons_self).1.trans h1) (k _ List.mem_cons_self).2 (dqF_mono s h3)
theorem exh_at {dd : Option Addr} {C : Addr} {fs : List (Str × D)} {fx : List Addr} (x : ExH c ha G H dd C fs fx) : ∀ b ∈ fx, G b = none ∧ H b ≠ none := by
  cases x with
  | none => exact fun b hb => nomatch hb
  | some h1 h2 h3 => exact fun b hb => by rw [List.mem_singleton.mp hb]; exact ⟨h2, some_ne h1⟩
theorem ownS_keep (s : Same G G') : ∀ {σ : L2.St} {δ : List (Option D)} {fp : List Addr}, OwnS c ha G H σ δ fp → (∀ b ∈ fp, H' b = H b ∧ G' b = none) → OwnS c ha G' H' σ δ fp
  | _, _, _, .nil, _ => .nil
  | _, _, _, .non o t, k => .non o (ownS_keep s t k)
  | _, _, _, .me e t, k => .me e (ownS_keep s t k)
  | _, _, _, .ex e m x t, k => .ex e m (exh_keep s x fun b hb => k b (List.mem_append_left _ hb)) (ownS_keep s t fun b hb => k b (List.mem_append_right _ hb))
  | _, _, _, .some h t, k => .some (own_keep s h fun b hb => k b (List.mem_append_left _ hb)) (ownS_keep s t fun b hb => k b (List.mem_append_right _ hb))
theorem own_at {v : V} {d : D} {fp : List Addr} (h : Own c ha G H v d fp) : ∀ b ∈ fp, G b = none ∧ H b ≠ none := by
  refine Own.rec (motive_1 := fun v d fp _ => ∀ b ∈ fp, G b = none ∧ H b ≠ none) (motive_2 := fun xs ds fp _ => ∀ b ∈ fp, G b = none ∧ H b ≠ none) ?_ ?_ ?_ ?_ h
  · exact fun _ b hb => nomatch hb
  · intro a xs ds fp h1 h2 _ ih b hb
    rcases List.mem_cons.mp hb with e | hb
    · subst e
      exact ⟨h2, some_ne h1⟩
    · exact ih b hb
  · exact fun b hb => nomatch hb
  · exact fun _ _ i1 i2 b hb => (List.mem_append.mp hb).elim (i1 b) (i2 b)
theorem ownAll_at : ∀ {xs : List V} {ds : List D} {fp : List Addr}, OwnAll c ha G H xs ds fp → ∀ b ∈ fp, G b = none ∧ H b ≠ none
  | _, _, _, .nil, b, hb => nomatch hb
  | _, _, _, .cons h t, b, hb => (List.mem_append.mp hb).elim (own_at h b) (ownAll_at t b)
theorem ownS_at : ∀ {σ : L2.St} {δ : List (Option D)} {fp : List Addr}, OwnS c ha G H σ δ fp → ∀ b ∈ fp, G b = none ∧ H b ≠ none
  | _, _, _, .nil, b, hb => nomatch hb
  | _, _, _, .non o t, b, hb => ownS_at t b hb
  | _, _, _, .me e t, b, hb => ownS_at t b hb
  | _, _, _, .ex e m x t, b, hb => (List.mem_append.mp hb).elim (exh_at x b) (ownS_at t b)
  | _, _, _, .some h t, b, hb => (List.mem_append.mp hb).elim (own_at h b) (ownS_at t b)
theorem ownAll_of : ∀ {xs : List V} {ds : List D}, DqAll c ha G xs ds → OwnAll c ha G H xs ds []
  | _, _, .nil => .nil
  | _, _, .cons h t => .cons (f := []) (fp := []) (.frz h) (ownAll_of t)
theorem ownAll_len : ∀ {xs : List V} {ds : List D} {fp : List Addr}, OwnAll c ha G H xs ds fp → xs.length = ds.length
  | _, _, _, .nil => rfl
  | _, _, _, .cons _ t => congrArg Nat.succ (ownAll_len t)
/-- not a held list -/
def D.fr : D → Bool
  | .hl _ => false
  | .me => false
  | .ex _ _ => false
  | _ => true
/-- a thing that a slot may hold by itself -/
def D.nm : D → Bool
  | .me => false
  | .ex _ _ => false
  | _ => true
theorem fr_nm {d : D} (h : d.fr = true) : d.nm = true := by cases d <;> first | rfl | cases h
theorem own_fr {v : V} {d : D} {fp : List Addr} (h : Own c ha G H v d fp) (f : d.fr = true) : Dq c ha G v d ∧ fp = [] := by
  cases h with
  | frz h => exact ⟨h, rfl⟩
  | hl _ _ _ => cases f
theorem dq_fr {v : V} {d : D} (h : Dq c ha G v d) : d.fr = true := by cases h <;> rfl
/-- a slot, and the others -/
theorem ownS_slot : ∀ {i : Nat} {σ : L2.St} {δ : List (Option D)} {fp : List Addr} {d : D}, OwnS c ha G H σ δ fp → δ[i]? = some (some d) → d.nm = true →
    ∃ v f1 f f2, σ[i]? = some (some v) ∧ fp = f1 ++ (f ++ f2) ∧ Own c ha G H v d f ∧ ∀ {G' H' : Hp} {f' : List Addr} {v' : V} {d' : D}, Same G G' → (∀ b ∈ f1 ++ f2, H' b = H b ∧ G' b = none) → Own c ha G' H' v' d' f' → OwnS c ha G' H' (σ.set i (some v')) (δ.set i (some d')) (f1 ++ (f' ++ f2))
  | i, _, _, _, _, .nil, e, _ => by simp at e
  | 0, _, _, _, _, .non o t, e, _ => by simp at e
  | 0, _, _, _, _, .me _ t, e, n => by
    have z : _ = _ := Option.some.inj (Option.some.inj e)
    subst z
    cases n
  | 0, _, _, _, _, .ex _ _ _ t, e, n => by
    have z : _ = _ := Option.some.inj (Option.some.inj e)
    subst z
    cases n
  | 0, _, _, _, _, .some h t, e, _ => by
    have z : _ = _ := Option.some.inj (Option.some.inj e)
    subst z
    refine ⟨_, [], _, _, rfl, rfl, h, fun s k h' => ?_⟩
    rw [List.nil_append]
    exact OwnS.some h' (ownS_keep s t k)
  | i + 1, _, _, _, _, .non o t, e, n => by
    obtain ⟨v, f1, f, f2, h1, h2, h3, h4⟩ := ownS_slot (i := i) t e n
    exact ⟨v, f1, f, f2, h1, h2, h3, fun s k h' => .non o (h4 s k h')⟩
  | i + 1, _, _, _, _, .me o t, e, n => by
    obtain ⟨v, f1, f, f2, h1, h2, h3, h4⟩ := ownS_slot (i := i) t e n
    exact ⟨v, f1, f, f2, h1, h2, h3, fun s k h' => .me o (h4 s k h')⟩
  | i + 1, _, _, _, _, .ex (fx := g) o m x t, e, n => by
    obtain ⟨v, f1, f, f2, h1, rfl, h3, h4⟩ := ownS_slot (i := i) t e n
    refine ⟨v, g ++ f1, f, f2, h1, by rw [List.append_assoc], h3, fun s k h' => ?_⟩
    rw [List.append_assoc]
    exact .ex o m (exh_keep s x fun b hb => k b (List.mem_append_left _ (List.mem_append_left _ hb))) (h4 s (fun b hb => k b (by rw [List.append_assoc]; exact List.mem_append_right _ hb)) h')
  | i + 1, _, _, _, _, .some (f := g) h t, e, n => by
    obtain ⟨v, f1, f, f2, h1, rfl, h3, h4⟩ := ownS_slot (i := i) t e n
    refine ⟨v, g ++ f1, f, f2, h1, by rw [List.append_assoc], h3, fun s k h' => ?_⟩
    rw [List.append_assoc]
    exact .some (own_keep s h fun b hb => k b (List.mem_append_left _ (List.mem_append_left _ hb))) (h4 s (fun b hb => k b (by rw [List.append_assoc]; exact List.mem_append_right _ hb)) h')
theorem ownS_me : ∀ {i : Nat} {σ : L2.St} {δ : List (Option D)} {fp : List Addr}, OwnS c ha G H σ δ fp → δ[i]? = some (some .me) → ∃ a, σ[i]? = some (some (.ref a)) ∧ ha = some a
  | i, _, _, _, .nil, e => by simp at e
  | 0, _, _, _, .non o t, e => by simp at e
  | 0, _, _, _, .me (a := a) h t, e => ⟨a, rfl, h⟩
  | 0, _, _, _, .ex _ _ _ t, e => by
    have z : _ = _ := Option.some.inj (Option.some.inj e)
    cases z
  | 0, _, _, _, .some h t, e => by
    have z : _ = _ := Option.some.inj (Option.some.inj e)
    subst z
    cases h with
    | frz h => cases h
  | i + 1, _, _, _, .non o t, e => ownS_me (i := i) t e
  | i + 1, _, _, _, .me o t, e => ownS_me (i := i) t e
  | i + 1, _, _, _, .ex _ _ _ t, e => ownS_me (i := i) t e
  | i + 1, _, _, _, .some o t, e => ownS_me (i := i) t e
theorem ownS_ex : ∀ {i : Nat} {σ : L2.St} {δ : List (Option D)} {fp : List Addr} {n : Str} {fs : List (Str × D)}, OwnS c ha G H σ δ fp → δ[i]? = some (some (.ex n fs)) → ∃ a dd C fx, σ[i]? = some (some (.ref a)) ∧ c.xa = some (a, .ref C, dd) ∧ c.mg n = some (.ref C) ∧ ExH c ha G H dd C fs fx
  | i, _, _, _, _, _, .nil, e => by simp at e
  | 0, _, _, _, _, _, .non o t, e => by simp at e
  | 0, _, _, _, _, _, .me h t, e => by
    have z : _ = _ := Option.some.inj (Option.some.inj e)
    cases z
  | 0, _, _, _, _, _, .ex (a := a) h m x t, e => by
    have z : _ = _ := Option.some.inj (Option.some.inj e)
    cases z
    exact ⟨a, _, _, _, rfl, h, m, x⟩
  | 0, _, _, _, _, _, .some h t, e => by
    have z : _ = _ := Option.some.inj (Option.some.inj e)
    subst z
    cases h with
    | frz h => cases h
  | i + 1, _, _, _, _, _, .non o t, e => ownS_ex (i := i) t e
  | i + 1, _, _, _, _, _, .me o t, e => ownS_ex (i := i) t e
  | i + 1, _, _, _, _, _, .ex _ _ _ t, e => ownS_ex (i := i) t e
  | i + 1, _, _, _, _, _, .some o t, e => ownS_ex (i := i) t e
/-- a slot is stored -/
theorem ownS_set {v : V} {d : D} {f : List Addr} (r : Own c ha G H v d f) : ∀ {i : Nat} {σ : L2.St} {δ : List (Option D)} {fp : List Addr}, OwnS c ha G H σ δ fp → ∃ fp' : List Addr, OwnS c ha G H (σ.set i (some v)) (δ.set i (some d)) fp' ∧ ∀ (l : List Addr), (f ++ (l ++ fp)).Nodup → (l ++ fp').Nodup ∧ ∀ b ∈ fp', b ∈ f ∨ b ∈ fp
  | i, _, _, _, .nil => ⟨[], .nil, fun l n => ⟨(List.nodup_append.mp n).2.1, fun b hb => nomatch hb⟩⟩
  | 0, _, _, _, .non (fp := fp) o t => ⟨f ++ fp, .some r t, fun l n => by
    refine ⟨?_, fun b hb => List.mem_append.mp hb⟩
    have p : (f ++ (l ++ fp)).Perm (l ++ (f ++ fp)) := by
      rw [← List.append_assoc, ← List.append_assoc]
      exact (List.perm_append_comm).append_right _
    exact p.nodup_iff.mp n⟩
  | 0, _, _, _, .me (fp := fp) o t => ⟨f ++ fp, .some r t, fun l n => by
    refine ⟨?_, fun b hb => List.mem_append.mp hb⟩
    have p : (f ++ (l ++ fp)).Perm (l ++ (f ++ fp)) := by
      rw [← List.append_assoc, ← List.append_assoc]
      exact (List.perm_append_comm).append_right _
    exact p.nodup_iff.mp n⟩
  | 0, _, _, _, .ex (fx := g) (fp := fp) _ _ _ t => ⟨f ++ fp, .some r t, fun l n => by
    refine ⟨?_, fun b hb => (List.mem_append.mp hb).imp id fun z => List.mem_append_right _ z⟩
    have p : (f ++ (l ++ (g ++ fp))).Perm (g ++ (l ++ (f ++ fp))) := by
      refine (List.Perm.trans ?_ (List.perm_append_comm (l₁ := l ++ (f ++ fp)) (l₂ := g)))
      refine (List.perm_append_comm).trans ?_
      rw [List.append_assoc, List.append_assoc, List.append_assoc, List.append_assoc]
      refine List.Perm.append_left l ?_
      refine (List.perm_append_comm).trans ?_
      rw [List.append_assoc]
      rw [← List.append_assoc, ← List.append_assoc f]
      exact List.Perm.append_right _ List.perm_append_comm
    exact (List.nodup_append.mp (p.nodup_iff.mp n)).2.1⟩
  | 0, _, _, _, .some (f := g) (fp := fp) h t => ⟨f ++ fp, .some r t, fun l n => by
    refine ⟨?_, fun b hb => (List.mem_append.mp hb).imp id fun z => List.mem_append_right _ z⟩
    have p : (f ++ (l ++ (g ++ fp))).Perm (g ++ (l ++ (f ++ fp))) := by
      refine (List.Perm.trans ?_ (List.perm_append_comm (l₁ := l ++ (f ++ fp)) (l₂ := g)))
      refine (List.perm_append_comm).trans ?_
      rw [List.append_assoc, List.append_assoc, List.append_assoc, List.append_assoc]
      refine List.Perm.append_left l ?_
      refine (List.perm_append_comm).trans ?_
      rw [List.append_assoc]
      rw [← List.append_assoc, ← List.append_assoc f]
      exact List.Perm.append_right _ List.perm_append_comm
    exact (List.nodup_append.mp (p.nodup_iff.mp n)).2.1⟩
  | i + 1, _, _, _, .non o t => by
    obtain ⟨fp', h1, h2⟩ := ownS_set r (i := i) t
    exact ⟨fp', .non o h1, h2⟩
  | i + 1, _, _, _, .me o t => by
    obtain ⟨fp', h1, h2⟩ := ownS_set r (i := i) t
    exact ⟨fp', .me o h1, h2⟩
  | i + 1, _, _, _, .ex (fx := g) (fp := fp) o m x t => by
    obtain ⟨fp', h1, h2⟩ := ownS_set r (i := i) t
    refine ⟨g ++ fp', .ex o m x h1, fun l n => ?_⟩
    have n2 : (f ++ ((l ++ g) ++ fp)).Nodup := by rw [List.append_assoc l]; exact n
    obtain ⟨q1, q2⟩ := h2 (l ++ g) n2
    refine ⟨by rw [← List.append_assoc]; exact q1, fun b hb => ?_⟩
    rcases List.mem_append.mp hb with hb | hb
    · exact .inr (List.mem_append_left _ hb)
    · exact (q2 b hb).imp id fun z => List.mem_append_right _ z
  | i + 1, _, _, _, .some (f := g) (fp := fp) h t => by
    obtain ⟨fp', h1, h2⟩ := ownS_set r (i := i) t
    refine ⟨g ++ fp', .some h h1, fun l n => ?_⟩
    have n2 : (f ++ ((l ++ g) ++ fp)).Nodup := by rw [List.append_assoc l]; exact n
    obtain ⟨q1, q2⟩ := h2 (l ++ g) n2
    refine ⟨by rw [← List.append_assoc]; exact q1, fun b hb => ?_⟩
    rcases List.mem_append.mp hb with hb | hb
    · exact .inr (List.mem_append_left _ hb)
    · exact (q2 b hb).imp id fun z => List.mem_append_right _ z
/-- a slot is forgotten -/
theorem ownS_wipe : ∀ {i : Nat} {σ : L2.St} {δ : List (Option D)} {fp : List Addr} (o : Option V), OwnS c ha G H σ δ fp → ∃ fp', OwnS c ha G H (σ.set i o) (δ.set i none) fp' ∧ fp'.Sublist fp
  | i, _, _, _, o, .nil => ⟨[], .nil, List.Sublist.refl _⟩
  | 0, _, _, _, o, .non _ t => ⟨_, .non o t, List.Sublist.refl _⟩
  | 0, _, _, _, o, .me _ t => ⟨_, .non o t, List.Sublist.refl _⟩
  | 0, _, _, _, o, .ex _ _ _ t => ⟨_, .non o t, List.sublist_append_right ..⟩
  | 0, _, _, _, o, .some h t => ⟨_, .non o t, List.sublist_append_right ..⟩
  | i + 1, _, _, _, o, .non o' t => by
    obtain ⟨fp', h1, h2⟩ := ownS_wipe (i := i) o t
    exact ⟨fp', .non o' h1, h2⟩
  | i + 1, _, _, _, o, .me e t => by
    obtain ⟨fp', h1, h2⟩ := ownS_wipe (i := i) o t
    exact ⟨fp', .me e h1, h2⟩
  | i + 1, _, _, _, o, .ex e m x t => by
    obtain ⟨fp', h1, h2⟩ := ownS_wipe (i := i) o t
    exact ⟨_, .ex e m x h1, List.Sublist.append (List.Sublist.refl _) h2⟩
  | i + 1, _, _, _, o, .some h t => by
    obtain ⟨fp', h1, h2⟩ := ownS_wipe (i := i) o t
    exact ⟨_, .some h h1, List.Sublist.append (List.Sublist.refl _) h2⟩
/-- an item of a held list -/
theorem ownAll_item : ∀ {i : Nat} {xs : List V} {ds : List D} {fp : List Addr} {d : D}, OwnAll c ha G H xs ds fp → ds[i]? = some d →
    ∃ v f1 f f2, xs[i]? = some v ∧ fp = f1 ++ (f ++ f2) ∧ Own c ha G H v d f ∧ ∀ {G' H' : Hp} {f' : List Addr} {v' : V} {d' : D}, Same G G' → (∀ b ∈ f1 ++ f2, H' b = H b ∧ G' b = none) → Own c ha G' H' v' d' f' → OwnAll c ha G' H' (xs.set i v') (ds.set i d') (f1 ++ (f' ++ f2))
  | i, _, _, _, _, .nil, e => by simp at e
  | 0, _, _, _, _, .cons h t, e => by
    have z := Option.some.inj e
    subst z
    refine ⟨_, [], _, _, rfl, rfl, h, fun s k h' => ?_⟩
    rw [List.nil_append]
    exact OwnAll.cons h' (ownAll_keep s t k)
  | i + 1, _, _, _, _, .cons (f := g) h t, e => by
    obtain ⟨v, f1, f, f2, h1, rfl, h3, h4⟩ := ownAll_item (i := i) t e
    refine ⟨v, g ++ f1, f, f2, h1, by rw [List.append_assoc], h3, fun s k h' => ?_⟩
    rw [List.append_assoc]
    exact .cons (own_keep s h fun b hb => k b (List.mem_append_left _ (List.mem_append_left _ hb))) (h4 s (fun b hb => k b (by rw [List.append_assoc]; exact List.mem_append_right _ hb)) h')
theorem ownAll_app : ∀ {xs ys : List V} {ds es : List D} {f g : List Addr}, OwnAll c ha G H xs ds f → OwnAll c ha G H ys es g → OwnAll c ha G H (xs ++ ys) (ds ++ es) (f ++ g)
  | _, _, _, _, _, _, .nil, k => k
  | _, _, _, _, _, _, .cons (f := f) h t, k => by
    rw [List.append_assoc]
    exact .cons h (ownAll_app t k)
end
inductive Hok (c : Cn) (ha : Option Addr) (G H : Hp) : D → Prop
  | non : ha = none → Hok c ha G H .non
  | hand {a : Addr} {xs : List V} {ds : List D} : ha = some a → G a = none → H a = some (.lst xs) → DqAll c ha G xs ds → Hok c ha G H (.hl ds)
  | self {a C dx : Addr} {n : Str} {xs : List (Str × V)} {fs : List (Str × D)} : ha = some a → G a = none → c.mg n = some (.ref C) → COk c.K C → H a = some (.ins C dx xs) → DqF c ha G C xs fs → Hok c ha G H (.ins n fs)
theorem hok_at {c : Cn} {a : Addr} {G H : Hp} {h : D} (x : Hok c (some a) G H h) : G a = none ∧ H a ≠ none := by
  cases x with
  | non e => cases e
  | hand e g h _ => cases e; exact ⟨g, some_ne h⟩
  | self e g _ _ h _ => cases e; exact ⟨g, some_ne h⟩
theorem hok_keep {c : Cn} {ha : Option Addr} {G G' H H' : Hp} {h : D} (x : Hok c ha G H h) (s : Same G G') (k : ∀ a, ha = some a → G' a = none ∧ H' a = H a) : Hok c ha G' H' h := by
  cases x with
  | non e => exact .non e
  | hand e g h d => exact .hand e (k _ e).1 ((k _ e).2.trans h) (dqAll_mono s d)
  | self e g m cl h d => exact .self e (k _ e).1 m cl ((k _ e).2.trans h) (dqF_mono s d)
/-- the state of a body: G0, B the view and the heap at its entry -/
structure Sta (c : Cn) (ha : Option Addr) (G0 B G H : Hp) (σ : L2.St) (δ : List (Option D)) (h : D) : Prop where
  sl : ∃ fp, OwnS c ha G H σ δ fp ∧ fp.Nodup ∧ ∀ a ∈ fp, B a = none ∧ ha ≠ some a
  mv : Mv G0 B G H
  bt : ∀ b o, ha ≠ some b → B b = some o → H b = some o
  hd : Hok c ha G H h
  hb : ∀ a, ha = some a → B a ≠ none
/-- what an expression does to a heap -/
structure Af (c : Cn) (ha : Option Addr) (G H G' H' : Hp) (h' : D) : Prop where
  mv : Mv G H G' H'
  bt : ∀ b o, ha ≠ some b → H b = some o → H' b = some o
  hd : Hok c ha G' H' h'
section
variable {c : Cn} {ha : Option Addr} {G0 B G H G1 H1 G2 H2 G' H' : Hp} {σ : L2.St} {δ : List (Option D)} {h h1 h2 h' : D}
theorem Sta.gh (s : Sta c ha G0 B G H σ δ h) : Same G H := s.mv.gh
theorem Af.refl (s : Same G H) (k : Hok c ha G H h) : Af c ha G H G H h := ⟨Mv.refl s, fun _ _ _ e => e, k⟩
theorem Sta.here (s : Sta c ha G0 B G H σ δ h) : Af c ha G H G H h := .refl s.gh s.hd
theorem Af.trans (x : Af c ha G H G1 H1 h1) (y : Af c ha G1 H1 G2 H2 h2) : Af c ha G H G2 H2 h2 := ⟨x.mv.trans y.mv, fun b o n e => y.bt b o n (x.bt b o n e), y.hd⟩
theorem Af.gg (x : Af c ha G H G1 H1 h1) : Same G G1 := x.mv.gg
theorem Af.gh (x : Af c ha G H G1 H1 h1) : Same G1 H1 := x.mv.gh
theorem Sta.to (s : Sta c ha G0 B G H σ δ h) (x : Af c ha G H G' H' h') : Sta c ha G0 B G' H' σ δ h' := by
  obtain ⟨fp, o, n, k⟩ := s.sl
  refine ⟨⟨fp, ownS_keep x.gg o fun b hb => ?_, n, k⟩, s.mv.trans x.mv, fun b o n e => x.bt b o n (s.bt b o n e), x.hd, s.hb⟩
  obtain ⟨g, hne⟩ := ownS_at o b hb
  obtain ⟨u, e⟩ := ne_some hne
  exact ⟨by rw [e]; exact x.bt b u (k b hb).2 e, (x.mv.nw b hne).trans g⟩
/-- an expression that changes nothing of what stands -/
theorem Af.of (s : Same G H) (k : Hok c ha G H h) (m : Mv G H G' H') (t : Same H H') : Af c ha G H G' H' h := by
  refine ⟨m, fun b o _ e => t b o e, hok_keep k m.gg fun a e => ?_⟩
  subst e
  obtain ⟨g, hne⟩ := hok_at k
  obtain ⟨u, e⟩ := ne_some hne
  exact ⟨(m.nw a hne).trans g, by rw [e]; exact t a u e⟩
end
end Fw
namespace Fw
open PySem PySem.Spec PyProof.Rows L2 Vz
/-- what comes of an expression: a thing and the handed thing behind it; an exception; or nothing that is known -/
inductive Ex (α : Type) where
  | ok (a : α) (h : D)
  | exc (n : Str) (fs : List (Str × D)) (h : D)
  | bad
def Ex.bind {α β : Type} (r : Ex α) (k : α → D → Ex β) : Ex β := match r with
  | .ok a h => k a h
  | .exc n fs h => .exc n fs h
  | .bad => .bad
def Ex.of {α : Type} (o : Option α) (h : D) : Ex α := match o with
  | some a => .ok a h
  | none => .bad
abbrev DE := List (Option D)
abbrev EF (α : Type) := DE → D → Ex α
/-- an exception's fields -/
def XR (c : Cn) (ha : Option Addr) (G H0 H : Hp) (C : Addr) (dd : Option Addr) (fs : List (Str × D)) : Prop := (fs = [] ∧ dd = none) ∨ ∃ d xs, dd = some d ∧ H d = some (.xd xs) ∧ G d = none ∧ H0 d = none ∧ DqF c ha G C xs fs
def Post {α : Type} (c : Cn) (ha : Option Addr) (W : WX) (σ : L2.St) (G H : Hp) (r : Ex α) (k : α → D → Hp → Hp → Prop) : Prop := match r with
  | .ok a h' => ∀ G' H', Af c ha G H G' H' h' → k a h' G' H'
  | .exc n fs h' => ∀ C dd G' H', Af c ha G H G' H' h' → c.mg n = some (.ref C) → XR c ha G' H H' C dd fs → W (.ref C) dd σ H'
  | .bad => False
section
variable {α β : Type} {c : Cn} {ha : Option Addr} {W : WX} {σ : L2.St} {G H G1 H1 G' H' : Hp} {h h' h1 : D}
theorem post_imp {r : Ex α} {k k' : α → D → Hp → Hp → Prop} (p : Post c ha W σ G H r k) (i : ∀ a h' G' H', Af c ha G H G' H' h' → k a h' G' H' → k' a h' G' H') : Post c ha W σ G H r k' := by
  cases r with
  | ok a h' => exact fun G' H' af => i a h' G' H' af (p G' H' af)
  | exc n fs h' => exact p
  | bad => exact p
theorem XR.from {H0 H1 : Hp} {C : Addr} {dd : Option Addr} {fs : List (Str × D)} (k : ∀ d, H1 d = none → H0 d = none) (x : XR c ha G H1 H C dd fs) : XR c ha G H0 H C dd fs := by
  rcases x with x | ⟨d, xs, h1, h2, h3, h4, h5⟩
  · exact .inl x
  · exact .inr ⟨d, xs, h1, h2, h3, k d h4, h5⟩
theorem af_old {ha : Option Addr} {G H G1 H1 : Hp} {h1 : D} (af : Af c ha G H G1 H1 h1) {a : Addr} (e : H1 a = none) : H a = none := by
  cases z : H a with
  | none => rfl
  | some o => exact absurd e (af.mv.dm a (some_ne z))
theorem post_from {r : Ex α} {k : α → D → Hp → Hp → Prop} (af : Af c ha G H G1 H1 h1) (p : Post c ha W σ G H r k) : Post c ha W σ G1 H1 r k := by
  cases r with
  | ok a h' => exact fun G' H' af' => p G' H' (af.trans af')
  | exc n fs h' => exact fun C dd G' H' af' m x => p C dd G' H' (af.trans af') m (x.from fun _ e => af_old af e)
  | bad => exact p
theorem post_bind {r : Ex α} {f : α → D → Ex β} {k : β → D → Hp → Hp → Prop} (p : Post c ha W σ G H (r.bind f) k) : Post c ha W σ G H r fun a h1 G1 H1 => Post c ha W σ G1 H1 (f a h1) k := by
  cases r with
  | ok a h' => exact fun G1 H1 af => post_from af p
  | exc n fs h' => exact p
  | bad => exact p
theorem post_of {o : Option α} {k : α → D → Hp → Hp → Prop} (p : Post c ha W σ G H (Ex.of o h) k) : ∃ a, o = some a ∧ ∀ G' H', Af c ha G H G' H' h → k a h G' H' := by
  cases o with
  | some a => exact ⟨a, rfl, p⟩
  | none => exact p.elim
theorem post_ok {a : α} {k : α → D → Hp → Hp → Prop} (p : Post c ha W σ G H (.ok a h) k) (s : Same G H) (o : Hok c ha G H h) : k a h G H := p G H (.refl s o)
end
def rd (c : Cn) (W : WX) (f : EF D) : TE := fun σ H Q => ∃ ha G0 B G δ h, Sta c ha G0 B G H σ δ h ∧ Post c ha W σ G H (f δ h) fun d _ G' H' => ∀ v, Dq c ha G' v d → Q v H'
def rt (c : Cn) (W : WX) (f : EF Bool) : TT := fun σ H Q => ∃ ha G0 B G δ h, Sta c ha G0 B G H σ δ h ∧ Post c ha W σ G H (f δ h) fun b _ _ H' => Q b H'
def ra (c : Cn) (W : WX) (f : EF (List D)) : TA := fun σ H Q => ∃ ha G0 B G δ h, Sta c ha G0 B G H σ δ h ∧ Post c ha W σ G H (f δ h) fun ds _ G' H' => ∀ vs, DqAll c ha G' vs ds → Q vs H'
/-- a thing at rest, or a new list of things at rest -/
def Nw (c : Cn) (ha : Option Addr) (H G' H' : Hp) (v : V) (d : D) : Prop := Dq c ha G' v d ∨ ∃ a xs ds, v = .ref a ∧ d = .hl ds ∧ H' a = some (.lst xs) ∧ G' a = none ∧ H a = none ∧ DqAll c ha G' xs ds
def rn (c : Cn) (W : WX) (f : EF D) : TE := fun σ H Q => ∃ ha G0 B G δ h, Sta c ha G0 B G H σ δ h ∧ Post c ha W σ G H (f δ h) fun d _ G' H' => ∀ v, Nw c ha H G' H' v d → Q v H'
section
variable {X : Cx} {W : WX} {c : Cn} {e a b : Expr} {es : List Expr} {pos : Pos} {ta tb te : TE} {t : TT} {f fa fb : EF D} {g ga gb : EF Bool}
theorem pe_to (p : PE X e te) (i : ∀ σ H Q, rd c W f σ H Q → te σ H Q) : PE X e (rd c W f) := ⟨fun pins s σ H Q I h => p.run pins s σ H Q I (i σ H Q h)⟩
theorem pn_to (p : PE X e te) (i : ∀ σ H Q, rn c W f σ H Q → te σ H Q) : PE X e (rn c W f) := ⟨fun pins s σ H Q I h => p.run pins s σ H Q I (i σ H Q h)⟩
theorem pt_to (p : PT X e t) (i : ∀ σ H Q, rt c W g σ H Q → t σ H Q) : PT X e (rt c W g) := ⟨fun pins s σ H Q I h => p.run pins s σ H Q I (i σ H Q h)⟩
theorem pa_to {t : TA} {f : EF (List D)} (p : PA X es t) (i : ∀ σ H Q, ra c W f σ H Q → t σ H Q) : PA X es (ra c W f) := ⟨fun ps pins s σ H Q I h => p.run ps pins s σ H Q I (i σ H Q h)⟩
def eV (i : Nat) : EF D := fun δ h => match δ[i]? with
  | some (some d) => if d.fr then .ok d h else .bad
  | _ => .bad
theorem rd_var {i : Nat} (σ : L2.St) (H : Hp) (Q : VK) (x : rd c W (eV i) σ H Q) : tVar i σ H Q := by
  obtain ⟨ha, G0, B, G, δ, h, st, p⟩ := x
  unfold eV at p
  split at p
  · rename_i d e
    split at p
    · rename_i hf
      obtain ⟨fp, o, n, k⟩ := st.sl
      obtain ⟨v, f1, f, f2, h1, _, h3, _⟩ := ownS_slot o e (fr_nm hf)
      exact ⟨v, h1, post_ok p st.gh st.hd v (own_fr h3 hf).1⟩
    · exact p.elim
  · exact p.elim
theorem dx_v {i : Nat} {x : Str} (hN : X.N[i]? = some x) (hv : Vis X.env.scope x) (hd : (x == ("__debug__" : Str)) = false := by decide) (hcd : (x == ("__classdict__" : Str)) = false := by decide) : PE X (.Name x pos) (rd c W (eV i)) := pe_to (pe_var hN hv hd hcd) rd_var
def eC (d : D) : EF D := fun _ h => .ok d h
theorem dx_c {v : V} {d : D} (p : PE X e (tC v)) (k : ∀ ha G, Dq c ha G v d) : PE X e (rd c W (eC d)) := pe_to p fun σ H Q ⟨ha, G0, B, G, δ, h, st, q⟩ => post_ok q st.gh st.hd v (k ha G)
theorem dx_i {i j} : PE X (.Constant (.int i) j pos) (rd c W (eC (.int i))) := dx_c pe_int fun _ _ => .int i
theorem dx_b {b : Bool} {j} : PE X (.Constant (.bool b) j pos) (rd c W (eC (.bl b))) := dx_c pe_bl fun _ _ => .bl b
theorem dx_n {j} : PE X (.Constant .none j pos) (rd c W (eC .non)) := dx_c pe_non fun _ _ => .non
theorem dx_s {x : Str} {j} : PE X (.Constant (.str x) j pos) (rd c W (eC (.str x))) := dx_c pe_str fun _ _ => .str x
def eOp (f : D → D → Option D) (fa fb : EF D) : EF D := fun δ h => (fa δ h).bind fun x h1 => (fb δ h1).bind fun y h2 => Ex.of (f x y) h2
/-- what an operation's rule asks is there where it gives something -/
def OpD (c : Cn) (r : R2) (f : D → D → Option D) : Prop := ∀ {ha : Option Addr} {G H : Hp} {x y d : D} {v w : V} {Q : VK}, Same G H → Dq c ha G v x → Dq c ha G w y → f x y = some d → (∀ u G' H', Mv G H G' H' → Same H H' → Dq c ha G' u d → Q u H') → r v w H Q
theorem rd_op {r : R2} {f : D → D → Option D} (hr : OpD c r f) (σ : L2.St) (H : Hp) (Q : VK) (x : rd c W (eOp f fa fb) σ H Q) : tOp r (rd c W fa) (rd c W fb) σ H Q := by
  obtain ⟨ha, G0, B, G, δ, h, st, p⟩ := x
  refine ⟨ha, G0, B, G, δ, h, st, post_imp (post_bind p) fun x h1 G1 H1 af1 p1 v dv => ?_⟩
  refine ⟨ha, G0, B, G1, δ, h1, st.to af1, post_imp (post_bind p1) fun y h2 G2 H2 af2 p2 w dw => ?_⟩
  obtain ⟨d, e, q⟩ := post_of p2
  exact hr af2.gh (dq_mono af2.gg dv) dw e fun u G' H' m s du => q G' H' (.of af2.gh af2.hd m s) u du
theorem dx_op {op : Operator} {r : R2} {f : D → D → Option D} (ho : OpR X (binaryOp op) r) (hr : OpD c r f) (ha : PE X a (rd c W fa)) (hb : PE X b (rd c W fb)) : PE X (.BinOp a op b pos) (rd c W (eOp f fa fb)) := pe_to (pe_op ho ha hb) (rd_op hr)
theorem dx_cmp {op : CmpOp} {r : R2} {f : D → D → Option D} (ho : OpR X (compareOp op) r) (hr : OpD c r f) (ha : PE X a (rd c W fa)) (hb : PE X b (rd c W fb)) (hm : behindInMarks op b = false := by rfl) : PE X (.Compare a [op] [b] pos) (rd c W (eOp f fa fb)) := pe_to (pe_cmpR ho ha hb hm) (rd_op hr)
def eUn (f : D → Option D) (fa : EF D) : EF D := fun δ h => (fa δ h).bind fun x h1 => Ex.of (f x) h1
/-- ints -/
def oI (g : Int → Int → Option D) : D → D → Option D
  | .int i, .int j => g i j
  | _, _ => none
theorem opd_I0 {g : Int → Int → V} {k : Int → Int → D} (e : ∀ ha G i j, Dq c ha G (g i j) (k i j)) : OpD c (rI0 g) (oI fun i j => some (k i j)) := by
  intro ha G H x y d v w Q s dx dy q fin
  cases dx <;> cases dy <;> first | cases q
  exact ⟨_, _, rfl, rfl, fin _ G H (Mv.refl s) (Same.refl _) (e _ _ _ _)⟩
theorem opd_I {C : Int → Int → Prop} {P : Int → Int → Bool} {g : Int → Int → V} {k : Int → Int → D} (e : ∀ ha G i j, Dq c ha G (g i j) (k i j)) (hC : ∀ i j, P i j = true → C i j) : OpD c (rI C g) (oI fun i j => if P i j then some (k i j) else none) := by
  intro ha G H x y d v w Q s dx dy q fin
  cases dx <;> cases dy <;> first | (cases q; done) | skip
  rename_i i j
  have q2 : (if P i j = true then some (k i j) else none) = some d := q
  by_cases hp : P i j = true
  · rw [if_pos hp] at q2
    cases q2
    exact ⟨_, _, rfl, rfl, hC _ _ hp, fin _ G H (Mv.refl s) (Same.refl _) (e _ _ _ _)⟩
  · rw [if_neg hp] at q2
    cases q2
def cMul (i j : Int) : Bool := decide (i.natAbs.log2 + j.natAbs.log2 < 1000000)
def cDiv (_ j : Int) : Bool := decide (j ≠ 0) && decide (j.natAbs.log2 < 9000)
def cMod (_ j : Int) : Bool := decide (j ≠ 0)
def cPow (i j : Int) : Bool := decide (0 ≤ j) && (decide (j ≤ 1000000) && decide (i.natAbs < 2 ^ 64))
theorem op_fdivG : OpR X (binaryOp .FloorDiv) (rI (fun _ j => j ≠ 0 ∧ j.natAbs.log2 < 9000) fun i j => .int (i.fdiv j)) := opI fun _ _ _ _ _ _ _ hc q => floordiv_int hc.1 q (.inl (PyProof.noPylong_of_log2 hc.2))
def oAdd := oI fun i j => some (.int (i + j))
def oSub := oI fun i j => some (.int (i - j))
def oMul := oI fun i j => if cMul i j then some (.int (i * j)) else none
def oDiv := oI fun i j => if cDiv i j then some (.int (i.fdiv j)) else none
def oMod := oI fun i j => if cMod i j then some (.int (i.fmod j)) else none
def oPow := oI fun i j => if cPow i j then some (.int (i ^ j.toNat)) else none
theorem d_add : OpD c (rI0 fun i j => .int (i + j)) oAdd := opd_I0 fun _ _ _ _ => .int _
theorem d_sub : OpD c (rI0 fun i j => .int (i - j)) oSub := opd_I0 fun _ _ _ _ => .int _
theorem d_mul : OpD c (rI CMulW fun i j => .int (i * j)) oMul := opd_I (fun _ _ _ _ => .int _) fun _ _ h => of_decide_eq_true h
theorem d_div : OpD c (rI (fun _ j => j ≠ 0 ∧ j.natAbs.log2 < 9000) fun i j => .int (i.fdiv j)) oDiv := opd_I (fun _ _ _ _ => .int _) fun _ _ h => by
  unfold cDiv at h
  rw [Bool.and_eq_true, decide_eq_true_eq, decide_eq_true_eq] at h
  exact h
theorem d_mod : OpD c (rI (fun _ j => j ≠ 0) fun i j => .int (i.fmod j)) oMod := opd_I (fun _ _ _ _ => .int _) fun _ _ h => of_decide_eq_true h
theorem d_pow : OpD c (rI CPow fun i j => .int (i ^ j.toNat)) oPow := opd_I (fun _ _ _ _ => .int _) fun _ _ h => by
  unfold cPow at h
  rw [Bool.and_eq_true, Bool.and_eq_true, decide_eq_true_eq, decide_eq_true_eq, decide_eq_true_eq] at h
  exact h
def oLt := oI fun i j => some (.bl (decide (i < j)))
def oLe := oI fun i j => some (.bl (decide (i ≤ j)))
def oGt := oI fun i j => some (.bl (decide (j < i)))
def oGe := oI fun i j => some (.bl (decide (j ≤ i)))
theorem d_lt : OpD c (rI0 fun i j => .bl (decide (i < j))) oLt := opd_I0 fun _ _ _ _ => .bl _
theorem d_le : OpD c (rI0 fun i j => .bl (decide (i ≤ j))) oLe := opd_I0 fun _ _ _ _ => .bl _
theorem d_gt : OpD c (rI0 fun i j => .bl (decide (j < i))) oGt := opd_I0 fun _ _ _ _ => .bl _
theorem d_ge : OpD c (rI0 fun i j => .bl (decide (j ≤ i))) oGe := opd_I0 fun _ _ _ _ => .bl _
mutual
def toPy : D → Option PyData
  | .non => some .none
  | .bl b => some (.bool b)
  | .int i => some (.int i)
  | .str x => some (.str x)
  | .tup ds => (toPyL ds).map .tuple
  | .lst ds => (toPyL ds).map .list
  | _ => none
def toPyL : List D → Option (List PyData)
  | [] => some []
  | d :: ds => match toPy d, toPyL ds with
    | some p, some ps => some (p :: ps)
    | _, _ => none
end
theorem dp_of {ha : Option Addr} {G : Hp} {v : V} {d : D} (h : Dq c ha G v d) : ∀ p, toPy d = some p → Dp c.K G v p := by
  refine Dq.rec (motive_1 := fun v d _ => ∀ p, toPy d = some p → Dp c.K G v p) (motive_2 := fun xs ds _ => ∀ ps, toPyL ds = some ps → DpAll c.K G xs ps) (motive_3 := fun _ _ _ _ => True) ?_ ?_ ?_ ?_ ?_ ?_ ?_ ?_ ?_ ?_ ?_ h
  · intro p e; unfold toPy at e; cases e; exact .non
  · intro b p e; unfold toPy at e; cases e; exact .bl b
  · intro i p e; unfold toPy at e; cases e; exact .int i
  · intro x p e; unfold toPy at e; cases e; exact .str x
  · intro a xs ds hs _ ih p e
    unfold toPy at e
    cases q : toPyL ds with
    | none => rw [q] at e; cases e
    | some ps => rw [q] at e; cases e; exact .tup hs (ih ps q)
  · intro a xs ds hs _ ih p e
    unfold toPy at e
    cases q : toPyL ds with
    | none => rw [q] at e; cases e
    | some ps => rw [q] at e; cases e; exact .lst (SqL.of hs) (ih ps q)
  · intro a C dx n xs fs _ _ _ _ _ p e; unfold toPy at e; cases e
  · intro ps e; unfold toPyL at e; cases e; exact .nil
  · intro v d xs ds _ _ ih1 ih2 ps e
    unfold toPyL at e
    cases q : toPy d with
    | none => rw [q] at e; cases e
    | some p =>
      cases q2 : toPyL ds with
      | none => rw [q, q2] at e; cases e
      | some ps2 => rw [q, q2] at e; cases e; exact .cons (ih1 p q) (ih2 ps2 q2)
  · exact fun {_} => True.intro
  · intros; exact True.intro
/-- equality of data -/
def eqD (x y : D) : Option Bool := match toPy x, toPy y with
  | some p, some q => if SeqAt.shaped p && SeqAt.shaped q then some (PyData.eqv p q) else none
  | _, _ => none
def oEq (x y : D) : Option D := (eqD x y).map .bl
def oNe (x y : D) : Option D := (eqD x y).map fun b => .bl (!b)
theorem eqD_get {x y : D} {b : Bool} (h : eqD x y = some b) : ∃ p q, toPy x = some p ∧ toPy y = some q ∧ SeqAt.shaped p = true ∧ SeqAt.shaped q = true ∧ PyData.eqv p q = b := by
  unfold eqD at h
  split at h
  · rename_i p q e1 e2
    split at h
    · rename_i s
      rw [Bool.and_eq_true] at s
      cases h
      exact ⟨p, q, e1, e2, s.1, s.2, rfl⟩
    · cases h
  · cases h
theorem d_eq : OpD c (rEqD c.K) oEq := by
  intro ha G H x y d v w Q s dx dy q fin
  unfold oEq at q
  cases e : eqD x y with
  | none => rw [e] at q; cases q
  | some b =>
    rw [e] at q
    cases q
    obtain ⟨p1, p2, e1, e2, s1, s2, rfl⟩ := eqD_get e
    exact ⟨p1, p2, dp_of (dq_mono s dx) p1 e1, dp_of (dq_mono s dy) p2 e2, s1, s2, fin _ G H (Mv.refl s) (Same.refl _) (.bl _)⟩
theorem d_ne : OpD c (rNeD c.K) oNe := by
  intro ha G H x y d v w Q s dx dy q fin
  unfold oNe at q
  cases e : eqD x y with
  | none => rw [e] at q; cases q
  | some b =>
    rw [e] at q
    cases q
    obtain ⟨p1, p2, e1, e2, s1, s2, rfl⟩ := eqD_get e
    exact ⟨p1, p2, dp_of (dq_mono s dx) p1 e1, dp_of (dq_mono s dy) p2 e2, s1, s2, fin _ G H (Mv.refl s) (Same.refl _) (.bl _)⟩
end
end Fw
namespace Wr
open PySem PySem.Spec PyProof.Rows L2 Gn
theorem mul_none (l : Addr) (items : Array Value) (n : Nat) (sl : Array (Option Value)) (dd : Option Addr) (u : Tok) (hne : items.isEmpty = false) :
    Meets (Builtin.«tuple.__mul__» ⟨[.ref l, .int 0 u], []⟩) fun _ R s => (s.heap.get? l = some { cls := .type "tuple", dict := dd, data := .seq items n, slots := sl }) ∧
      R (.ok (.ret (Value.ref s.heap.objs.size))) { s with heap := s.heap.push { cls := Value.type "tuple", data := Data.seq #[] }, toks := s.toks } :=
  .of_wp fun prog w A R s h => by
    obtain ⟨hp, g, d, tk, os⟩ := s
    obtain ⟨hl, h⟩ := h
    have f1 := AutoSeq1.idx_int
    have c0 : (decide ((0 : Int) < -(2 ^ 63)) || decide ((0 : Int) ≥ 2 ^ 63)) = false := by decide
    have c1 : (items.isEmpty || (0 : Int) == 1) = false := by rw [hne]; rfl
    have c2 : (decide ((0 : Int) ≤ 0) || items.isEmpty) = true := by rw [hne]; rfl
    wp_walk using wpAny_loadPart' hl
    repeat (first
      | (refine wpAny_ite_false (decide_eq_false (by rw [c0]; exact Bool.false_ne_true)) ?_; wp_walk using wpAny_loadPart' hl)
      | (refine wpAny_ite_false (decide_eq_false (by rw [c1]; exact Bool.false_ne_true)) ?_; wp_walk using wpAny_loadPart' hl)
      | (refine wpAny_ite_true (decide_eq_true c2) ?_; wp_walk using wpAny_loadPart' hl))
    exact ⟨_, rfl, h⟩
/-- a tuple times 0: a new tuple of nothing -/
def rRep0 (K : PySem.W.Frag) : R2 := fun x y H Q => ∃ l xs, x = .ref l ∧ y = .int 0 ∧ SqT K H l xs ∧ xs ≠ [] ∧ ∀ p, H p = none → Q (.ref p) (upd H p (.tup []))
theorem op_rep0 {X : Cx} : OpR X (binaryOp .Mult) (rRep0 X.K) := by
  intro pins s σ H x y v u Q I rx ry h
  obtain ⟨l, xs, rfl, rfl, hT, hne, q⟩ := h
  cases rx
  obtain ⟨t, rfl⟩ := ry
  obtain ⟨its, r, ⟨⟨cls, dd, data, sl⟩, ho, hc, n, hd⟩, hs⟩ := I.tuple hT
  simp only at hc hd
  subst hc hd
  have hi : its.toArray.isEmpty = false := by
    cases its with
    | nil =>
      have e := r.length
      exact absurd (List.eq_nil_of_length_eq_zero e) hne
    | cons a b => rfl
  refine wpAny_binaryOp_repeat_ref (T := "tuple") (U := "int") (by decide) ⟨_, ho, rfl⟩ (fun s' => typeIs_int s' 0 t) noFill_tuple_mul F.fills_int_mul F.slot_int_rmul repeat_tuple F.slot_int_index.lookup ?_
  refine call_meets F.slot_int_rmul (typeIs_int s 0 t) F.entry_int_rmul (F.args_int_rmul_2 _ _) (int_rmul_tuple 0 t l its.toArray n dd sl) ⟨ho, rfl, ⟨_, ho, rfl⟩, ?_⟩
  refine call_meets F.slot_tuple_mul ⟨_, ho, rfl⟩ F.entry_tuple_mul (F.args_tuple_mul_2 _ _) (mul_none l its.toArray n sl dd t hi) ⟨ho, ?_⟩
  refine ⟨.ref s.heap.objs.size, _, I.laid (t' := s.toks) (o := .tup []) (fun b ob q => Heap.get?_push_of_some _ q) (Nat.le_refl _) ?_, rfl, q _ (I.hok.fresh (Nat.le_refl _))⟩
  exact ⟨Nat.zero_le _, [], .nil, IsTup.new _ _⟩
end Wr
namespace Fw
open PySem PySem.Spec PyProof.Rows L2 Dz Vz
section
variable {X : Cx} {W : WX} {c : Cn} {e a b e2 : Expr} {es : List Expr} {pos : Pos} {ta tb te : TE} {t : TT} {f fa fb fc : EF D} {g ga gb : EF Bool} {fs : EF (List D)}
def bD : D → D → Ex Bool
  | .bl b, h => .ok b h
  | _, _ => .bad
def eT (f : EF D) : EF Bool := fun δ h => (f δ h).bind bD
theorem rt_T (σ : L2.St) (H : Hp) (Q : Bool → Hp → Prop) (x : rt c W (eT f) σ H Q) : rd c W f σ H fun v H' => ∃ k, v = .bl k ∧ Q k H' := by
  obtain ⟨ha, G0, B, G, δ, h, st, p⟩ := x
  refine ⟨ha, G0, B, G, δ, h, st, post_imp (post_bind p) fun d h1 G1 H1 af p1 v dv => ?_⟩
  cases dv with
  | bl b => exact ⟨b, rfl, post_ok p1 af.gh af.hd⟩
  | _ => exact p1.elim
theorem dt_cmp {op : CmpOp} {r : R2} {k : D → D → Option D} (ho : OpR X (compareOp op) r) (hr : OpD c r k) (ha : PE X a (rd c W fa)) (hb : PE X b (rd c W fb)) (hm : behindInMarks op b = false := by rfl) : PT X (.Compare a [op] [b] pos) (rt c W (eT (eOp k fa fb))) :=
  pt_to (pt_cmpR ho ha hb hm) fun σ H Q x => rd_op hr σ H _ (rt_T σ H Q x)
/-- truth of a thing -/
def truD : D → Option Bool
  | .non => some false
  | .bl b => some b
  | .int i => some (i != 0)
  | .tup ds => some !ds.isEmpty
  | .lst ds => some !ds.isEmpty
  | _ => none
def eTru (f : EF D) : EF Bool := fun δ h => (f δ h).bind fun d h1 => Ex.of (truD d) h1
theorem isE {ha : Option Addr} {G : Hp} {xs : List V} {ds : List D} (d : DqAll c ha G xs ds) : (!xs.isEmpty) = !ds.isEmpty := by cases d <;> rfl
theorem tru_of {ha : Option Addr} {G H : Hp} {v : V} {d : D} {b : Bool} (s : Same G H) (dv : Dq c ha G v d) (e : truD d = some b) : TruV c.K v H b := by
  cases dv with
  | non => cases e; exact rfl
  | bl b => cases e; exact rfl
  | int i => cases e; exact rfl
  | str x => cases e
  | tup h d => cases e; exact .inr (.inl ⟨_, Evl.ex_t s h, (isE d).symm⟩)
  | lst h d => cases e; exact .inl ⟨_, SqL.of (s _ _ h), (isE d).symm⟩
  | ins _ _ _ _ => cases e
theorem dt_tru (hK : X.K = c.K) (p : PE X e (rd c W f)) (he : ∀ whole, isTrue e X.env whole = (do let v ← whole; standAt e.pos; holding [v] (truthy v)) := by intro _; rfl) : PT X e (rt c W (eTru f)) := pt_to (pt_truth p he) fun σ H Q x => by
  obtain ⟨ha, G0, B, G, δ, h, st, p⟩ := x
  refine ⟨ha, G0, B, G, δ, h, st, post_imp (post_bind p) fun d h1 G1 H1 af p1 v dv => ?_⟩
  obtain ⟨b, eb, q⟩ := post_of p1
  rw [hK]
  exact ⟨b, tru_of af.gh dv eb, q _ _ (.refl af.gh af.hd)⟩
def eAnd (g1 g2 : EF Bool) : EF Bool := fun δ h => (g1 δ h).bind fun b h1 => if b then g2 δ h1 else .ok false h1
def eOr (g1 g2 : EF Bool) : EF Bool := fun δ h => (g1 δ h).bind fun b h1 => if b then .ok true h1 else g2 δ h1
def eNot (g : EF Bool) : EF Bool := fun δ h => (g δ h).bind fun b h1 => .ok (!b) h1
theorem pw_to {t u : TT} (p : PW X e t) (i : ∀ σ H Q, u σ H Q → t σ H Q) : PW X e u := ⟨fun wh pins s σ H Q I h => p.run wh pins s σ H Q I (i σ H Q h)⟩
theorem dw_and1 (p : PT X a (rt c W g)) : PW X (.BoolOp .And [a] pos) (rt c W g) := pw_and1 p
theorem dw_or1 (p : PT X a (rt c W g)) : PW X (.BoolOp .Or [a] pos) (rt c W g) := pw_or1 p
theorem dw_and (ha : PT X a (rt c W ga)) (hb : PW X (.BoolOp .And (b :: es) pos) (rt c W gb)) : PW X (.BoolOp .And (a :: b :: es) pos) (rt c W (eAnd ga gb)) := pw_to (pw_and ha hb) fun σ H Q x => by
  obtain ⟨ha, G0, B, G, δ, h, st, p⟩ := x
  refine ⟨ha, G0, B, G, δ, h, st, post_imp (post_bind p) fun b h1 G1 H1 af p1 => ?_⟩
  cases b with
  | true => exact ⟨ha, G0, B, G1, δ, h1, st.to af, p1⟩
  | false => exact post_ok p1 af.gh af.hd
theorem dw_or (ha : PT X a (rt c W ga)) (hb : PW X (.BoolOp .Or (b :: es) pos) (rt c W gb)) : PW X (.BoolOp .Or (a :: b :: es) pos) (rt c W (eOr ga gb)) := pw_to (pw_or ha hb) fun σ H Q x => by
  obtain ⟨ha, G0, B, G, δ, h, st, p⟩ := x
  refine ⟨ha, G0, B, G, δ, h, st, post_imp (post_bind p) fun b h1 G1 H1 af p1 => ?_⟩
  cases b with
  | false => exact ⟨ha, G0, B, G1, δ, h1, st.to af, p1⟩
  | true => exact post_ok p1 af.gh af.hd
theorem dt_not (ha : PT X a (rt c W ga)) : PT X (.UnaryOp .Not a pos) (rt c W (eNot ga)) := pt_to (pt_not ha) fun σ H Q x => by
  obtain ⟨ha, G0, B, G, δ, h, st, p⟩ := x
  exact ⟨ha, G0, B, G, δ, h, st, post_imp (post_bind p) fun b h1 G1 H1 af p1 => post_ok p1 af.gh af.hd⟩
def eB (g : EF Bool) : EF D := fun δ h => (g δ h).bind fun b h1 => .ok (.bl b) h1
theorem rd_B1 (σ : L2.St) (H : Hp) (Q : VK) (x : rd c W (eB (eT f)) σ H Q) : rd c W f σ H Q := by
  obtain ⟨ha, G0, B, G, δ, h, st, p⟩ := x
  refine ⟨ha, G0, B, G, δ, h, st, post_imp (post_bind (post_bind p)) fun d h1 G1 H1 af p1 v dv => ?_⟩
  cases dv with
  | bl b => exact post_ok (post_ok p1 af.gh af.hd) af.gh af.hd _ (.bl b)
  | _ => exact p1.elim
theorem dx_one {op} (p : PE X a (rd c W f)) : PE X (.BoolOp op [a] pos) (rd c W (eB (eT f))) := pe_to (pe_one p) rd_B1
theorem dx_and (ha : PE X a (rd c W fa)) (hb : PE X (.BoolOp .And (b :: es) pos) (rd c W (eB gb))) : PE X (.BoolOp .And (a :: b :: es) pos) (rd c W (eB (eAnd (eT fa) gb))) := pe_to (pe_and ha hb) fun σ H Q x => by
  obtain ⟨ha, G0, B, G, δ, h, st, p⟩ := x
  refine ⟨ha, G0, B, G, δ, h, st, post_imp (post_bind (post_bind (post_bind p))) fun d h1 G1 H1 af p1 v dv => ?_⟩
  cases dv with
  | bl b =>
    have p2 := post_ok p1 af.gh af.hd
    cases b with
    | true => exact ⟨true, rfl, ha, G0, B, G1, δ, h1, st.to af, by
        show Post c ha W σ G1 H1 ((gb δ h1).bind _) _
        cases e : gb δ h1 with
        | ok b2 h2 =>
          rw [if_pos rfl, e] at p2
          exact fun G2 H2 af2 => p2 G2 H2 af2 G2 H2 (.refl af2.gh af2.hd)
        | exc n fs h2 =>
          rw [if_pos rfl, e] at p2
          exact p2
        | bad =>
          rw [if_pos rfl, e] at p2
          exact p2⟩
    | false => exact ⟨false, rfl, post_ok (post_ok p2 af.gh af.hd) af.gh af.hd _ (.bl false)⟩
  | _ => exact p1.elim
theorem dx_or (ha : PE X a (rd c W fa)) (hb : PE X (.BoolOp .Or (b :: es) pos) (rd c W (eB gb))) : PE X (.BoolOp .Or (a :: b :: es) pos) (rd c W (eB (eOr (eT fa) gb))) := pe_to (pe_or ha hb) fun σ H Q x => by
  obtain ⟨ha, G0, B, G, δ, h, st, p⟩ := x
  refine ⟨ha, G0, B, G, δ, h, st, post_imp (post_bind (post_bind (post_bind p))) fun d h1 G1 H1 af p1 v dv => ?_⟩
  cases dv with
  | bl b =>
    have p2 := post_ok p1 af.gh af.hd
    cases b with
    | false => exact ⟨false, rfl, ha, G0, B, G1, δ, h1, st.to af, by
        show Post c ha W σ G1 H1 ((gb δ h1).bind _) _
        cases e : gb δ h1 with
        | ok b2 h2 =>
          rw [if_neg Bool.false_ne_true, e] at p2
          exact fun G2 H2 af2 => p2 G2 H2 af2 G2 H2 (.refl af2.gh af2.hd)
        | exc n fs h2 =>
          rw [if_neg Bool.false_ne_true, e] at p2
          exact p2
        | bad =>
          rw [if_neg Bool.false_ne_true, e] at p2
          exact p2⟩
    | true => exact ⟨true, rfl, post_ok (post_ok p2 af.gh af.hd) af.gh af.hd _ (.bl true)⟩
  | _ => exact p1.elim
theorem dx_not (ha : PE X a (rd c W fa)) : PE X (.UnaryOp .Not a pos) (rd c W (eB (eNot (eT fa)))) := pe_to (pe_not ha) fun σ H Q x => by
  obtain ⟨ha, G0, B, G, δ, h, st, p⟩ := x
  refine ⟨ha, G0, B, G, δ, h, st, post_imp (post_bind (post_bind (post_bind p))) fun d h1 G1 H1 af p1 v dv => ?_⟩
  cases dv with
  | bl b => exact ⟨b, rfl, post_ok (post_ok (post_ok p1 af.gh af.hd) af.gh af.hd) af.gh af.hd _ (.bl _)⟩
  | _ => exact p1.elim
def eIf (g : EF Bool) (fa fb : EF D) : EF D := fun δ h => (g δ h).bind fun b h1 => if b then fa δ h1 else fb δ h1
theorem dx_if (hg : PT X e (rt c W g)) (ha : PE X a (rd c W fa)) (hb : PE X b (rd c W fb)) : PE X (.IfExp e a b pos) (rd c W (eIf g fa fb)) := pe_to (pe_ifExp hg ha hb) fun σ H Q x => by
  obtain ⟨ha, G0, B, G, δ, h, st, p⟩ := x
  refine ⟨ha, G0, B, G, δ, h, st, post_imp (post_bind p) fun b h1 G1 H1 af p1 => ?_⟩
  cases b with
  | true => exact ⟨ha, G0, B, G1, δ, h1, st.to af, p1⟩
  | false => exact ⟨ha, G0, B, G1, δ, h1, st.to af, p1⟩
/-- a op1 b op2 c -/
def eCh (k1 k2 : D → D → Option D) (fa fb fc : EF D) : EF D := fun δ h => (fa δ h).bind fun x h1 => (fb δ h1).bind fun y h2 => (Ex.of (k1 x y) h2).bind fun z h3 => (bD z h3).bind fun b h4 => if b then (fc δ h4).bind fun w h5 => Ex.of (k2 y w) h5 else .ok (.bl false) h4
theorem rd_ch {r1 r2 : R2} {k1 k2 : D → D → Option D} (d1 : OpD c r1 k1) (d2 : OpD c r2 k2) (σ : L2.St) (H : Hp) (Q : VK) (x : rd c W (eCh k1 k2 fa fb fc) σ H Q) : tChain r1 r2 (rd c W fa) (rd c W fb) (rd c W fc) σ H Q := by
  obtain ⟨ha, G0, B, G, δ, h, st, p⟩ := x
  refine ⟨ha, G0, B, G, δ, h, st, post_imp (post_bind p) fun x h1 G1 H1 af1 p1 v dv => ?_⟩
  refine ⟨ha, G0, B, G1, δ, h1, st.to af1, post_imp (post_bind p1) fun y h2 G2 H2 af2 p2 w dw => ?_⟩
  obtain ⟨z, ez, q⟩ := post_of (post_bind p2)
  refine d1 af2.gh (dq_mono af2.gg dv) dw ez fun u G3 H3 m s du => ?_
  have af3 : Af c ha G2 H2 G3 H3 h2 := .of af2.gh af2.hd m s
  have q3 := q G3 H3 af3
  cases du with
  | bl b =>
    have q4 := post_ok (post_bind q3) af3.gh af3.hd
    cases b with
    | false => exact ⟨false, rfl, post_ok q4 af3.gh af3.hd _ (.bl false)⟩
    | true =>
      refine ⟨true, rfl, ha, G0, B, G3, δ, h2, ((st.to af1).to af2).to af3, post_imp (post_bind q4) fun w2 h5 G5 H5 af5 p5 v5 dv5 => ?_⟩
      obtain ⟨d, e, q5⟩ := post_of p5
      exact d2 af5.gh (dq_mono (af3.gg.trans af5.gg) dw) dv5 e fun u G' H' m s du => q5 G' H' (.of af5.gh af5.hd m s) u du
  | _ => exact q3.elim
theorem dx_ch {op op' : CmpOp} {r1 r2 : R2} {k1 k2 : D → D → Option D} (o1 : OpR X (compareOp op) r1) (o2 : OpR X (compareOp op') r2) (d1 : OpD c r1 k1) (d2 : OpD c r2 k2) (ha : PE X a (rd c W fa)) (hb : PE X b (rd c W fb)) (hc : PE X e (rd c W fc))
    (hm : lastMarks [op, op'] [b, e] = false := by with_unfolding_all rfl) : PE X (.Compare a [op, op'] [b, e] pos) (rd c W (eCh k1 k2 fa fb fc)) := pe_to (pe_chain o1 o2 ha hb hc hm) (rd_ch d1 d2)
def oIsN (x y : D) : Option D := match y with
  | .non => some (.bl (match x with | .non => true | _ => false))
  | _ => none
def oNotN (x y : D) : Option D := match y with
  | .non => some (.bl (match x with | .non => false | _ => true))
  | _ => none
theorem d_isN : OpD c (fun x y H Q => y = .non ∧ Q (.bl (decide (x = .non))) H) oIsN := by
  intro ha G H x y d v w Q s dx dy q fin
  cases dy <;> first | (cases q; done) | skip
  refine ⟨rfl, fin _ G H (Mv.refl s) (Same.refl _) ?_⟩
  cases dx <;> (cases q; exact .bl _)
def oIsB (x y : D) : Option D := match x, y with
  | .bl a, .bl b => some (.bl (decide (a = b)))
  | _, _ => none
def eNil : EF (List D) := fun _ h => .ok [] h
def eCons (f : EF D) (g : EF (List D)) : EF (List D) := fun δ h => (f δ h).bind fun d h1 => (g δ h1).bind fun ds h2 => .ok (d :: ds) h2
theorem da_nil : PA X [] (ra c W eNil) := pa_to pa_nil fun σ H Q x => by
  obtain ⟨ha, G0, B, G, δ, h, st, p⟩ := x
  exact post_ok p st.gh st.hd [] .nil
theorem da_cons (he : PE X e (rd c W f)) (hs : PA X es (ra c W fs)) (hst : starEach (e :: es) X.env = (false, eval e X.env) :: starEach es X.env := by rfl) : PA X (e :: es) (ra c W (eCons f fs)) := pa_to (pa_cons he hs hst) fun σ H Q x => by
  obtain ⟨ha, G0, B, G, δ, h, st, p⟩ := x
  refine ⟨ha, G0, B, G, δ, h, st, post_imp (post_bind p) fun d h1 G1 H1 af1 p1 v dv => ?_⟩
  refine ⟨ha, G0, B, G1, δ, h1, st.to af1, post_imp (post_bind p1) fun ds h2 G2 H2 af2 p2 vs dvs => ?_⟩
  exact post_ok p2 af2.gh af2.hd _ (.cons (dq_mono af2.gg dv) dvs)
def szOk (n : Nat) : Bool := decide (n ≤ 1000000)
theorem szOk_le {n : Nat} (h : szOk n = true) : n ≤ sizeLine := by
  have := of_decide_eq_true h
  rw [sizeLine_eq]
  omega
def eTup (fs : EF (List D)) : EF D := fun δ h => (fs δ h).bind fun ds h1 => Ex.of (if szOk ds.length then some (.tup ds) else none) h1
theorem if_get {α : Type} {b : Bool} {x : α} {y : α} (h : (if b = true then some x else none) = some y) : b = true ∧ x = y := by
  by_cases hb : b = true
  · rw [if_pos hb] at h
    exact ⟨hb, Option.some.inj h⟩
  · rw [if_neg hb] at h
    cases h
theorem dx_tup {x1} (hs : PA X es (ra c W fs)) : PE X (.Tuple es x1 pos) (rd c W (eTup fs)) := pe_to (pe_tup hs) fun σ H Q x => by
  obtain ⟨ha, G0, B, G, δ, h, st, p⟩ := x
  refine ⟨ha, G0, B, G, δ, h, st, post_imp (post_bind p) fun ds h1 G1 H1 af1 p1 vs dvs => ?_⟩
  obtain ⟨d, e, q⟩ := post_of p1
  obtain ⟨z, rfl⟩ := if_get e
  refine ⟨by rw [dqAll_len dvs]; exact szOk_le z, fun t ht => ?_⟩
  have m := Mv.new (o := .tup vs) af1.gh ht
  exact q _ _ (.of af1.gh af1.hd m (same_new ht)) _ (.tup (SqT.of upd_same) (dqAll_mono m.gg dvs))
def eLst (fs : EF (List D)) : EF D := fun δ h => (fs δ h).bind fun ds h1 => Ex.of (if szOk ds.length then some (.hl ds) else none) h1
/-- a new list of things at rest -/
theorem nw_lst {ha : Option Addr} {G H : Hp} {l : Addr} {vs : List V} {ds : List D} (s : Same G H) (hl : H l = none) (d : DqAll c ha G vs ds) : Nw c ha H G (upd H l (.lst vs)) (.ref l) (.hl ds) :=
  .inr ⟨l, vs, ds, rfl, rfl, upd_same, old_none s hl, hl, d⟩
theorem nw_from {ha : Option Addr} {G H G1 H1 G2 H2 : Hp} {h1 : D} {v : V} {d : D} (af : Af c ha G H G1 H1 h1) (n : Nw c ha H1 G2 H2 v d) : Nw c ha H G2 H2 v d := by
  rcases n with n | ⟨a, xs, ds, h1, h2, h3, h4, h5, h6⟩
  · exact .inl n
  · exact .inr ⟨a, xs, ds, h1, h2, h3, h4, af_old af h5, h6⟩
theorem dn_lst (hs : PA X es (ra c W fs)) : PE X (.List es pos) (rn c W (eLst fs)) := pn_to (pe_lst hs) fun σ H Q x => by
  obtain ⟨ha, G0, B, G, δ, h, st, p⟩ := x
  refine ⟨ha, G0, B, G, δ, h, st, post_imp (post_bind p) fun ds h1 G1 H1 af1 p1 vs dvs => ?_⟩
  obtain ⟨d, e, q⟩ := post_of p1
  obtain ⟨z, rfl⟩ := if_get e
  refine ⟨by rw [dqAll_len dvs]; exact szOk_le z, fun t ht => ?_⟩
  exact q _ _ (.of af1.gh af1.hd (Mv.hid af1.gh ht) (same_new ht)) _ (nw_from af1 (nw_lst af1.gh ht dvs))
def sfz : D → D
  | .hl ds => .lst ds
  | d => d
theorem sfz_id {d : D} (h : d.fr = true) : sfz d = d := by
  cases d <;> first | rfl | cases h
def eFz (f : EF D) : EF D := fun δ h => (f δ h).bind fun d h1 => .ok (sfz d) h1
theorem Sta.hne {ha : Option Addr} {G0 B G H : Hp} {σ : L2.St} {δ : DE} {h : D} (st : Sta c ha G0 B G H σ δ h) : ∀ a, ha = some a → H a ≠ none := fun a e => by
  subst e
  exact (hok_at st.hd).2
theorem af_fz {ha : Option Addr} {G H G1 H1 : Hp} {h1 : D} {v : V} {d : D} (hk : ∀ a, ha = some a → H a ≠ none) (af : Af c ha G H G1 H1 h1) (n : Nw c ha H G1 H1 v d) : ∃ G2, Af c ha G H G2 H1 h1 ∧ Dq c ha G2 v (sfz d) := by
  rcases n with n | ⟨a, xs, ds, rfl, rfl, h3, h4, h5, h6⟩
  · rw [sfz_id (dq_fr n)]
    exact ⟨G1, af, n⟩
  · have s1 : Same G1 (upd G1 a (.lst xs)) := same_new h4
    refine ⟨upd G1 a (.lst xs), ⟨Mv.shut af.mv h5 h4 h3, af.bt, hok_keep af.hd s1 fun b e => ⟨?_, rfl⟩⟩, .lst upd_same (dqAll_mono s1 h6)⟩
    rw [upd_ne fun z => hk b e (by rw [z]; exact h5)]
    subst e
    exact (hok_at af.hd).1
theorem dx_fz (p : PE X e (rn c W f)) : PE X e (rd c W (eFz f)) := pe_to p fun σ H Q x => by
  obtain ⟨ha, G0, B, G, δ, h, st, p⟩ := x
  refine ⟨ha, G0, B, G, δ, h, st, ?_⟩
  unfold eFz at p
  cases e : f δ h with
  | ok d h1 =>
    rw [e] at p
    intro G1 H1 af1 v n
    obtain ⟨G2, af2, dv⟩ := af_fz st.hne af1 n
    exact p G2 H1 af2 v dv
  | exc n fs h1 => rw [e] at p; exact p
  | bad => rw [e] at p; exact p
theorem nw_dq {ha : Option Addr} {H G' H' : Hp} {v : V} {d : D} (h : Dq c ha G' v d) : Nw c ha H G' H' v d := .inl h
theorem dn_of (p : PE X e (rd c W f)) : PE X e (rn c W f) := pn_to p fun σ H Q x => by
  obtain ⟨ha, G0, B, G, δ, h, st, p⟩ := x
  exact ⟨ha, G0, B, G, δ, h, st, post_imp p fun d h1 G1 H1 af q v dv => q v (nw_dq dv)⟩
end
end Fw
namespace Fw
open PySem PySem.Spec PyProof.Rows L2 Dz Vz
section
variable {X : Cx} {W : WX} {c : Cn} {e a b e2 : Expr} {es : List Expr} {pos : Pos} {ta tb te : TE} {t : TT} {f fa fb fc : EF D} {g ga gb : EF Bool} {fs : EF (List D)}
def oIx (x y : D) : Option D := match x, y with
  | .tup ds, .int i => atI ds i
  | .lst ds, .int i => atI ds i
  | _, _ => none
theorem atI_dq {ha : Option Addr} {G : Hp} {xs : List V} {ds : List D} {i : Int} {d : D} (h : DqAll c ha G xs ds) (e : atI ds i = some d) : ∃ v, atI xs i = some v ∧ Dq c ha G v d := by
  unfold atI at e ⊢
  rw [dqAll_len h]
  cases q : ixN ds.length i with
  | none => rw [q] at e; cases e
  | some j =>
    rw [q] at e
    obtain ⟨x, h1, h2⟩ := dqAll_at h (show ds[j]? = some d from e)
    exact ⟨x, h1, h2⟩
theorem d_ix : OpD c (rIx c.K) oIx := by
  intro ha G H x y d v w Q s dx dy q fin
  cases dx with
  | tup h1 h2 =>
    cases dy with
    | int i =>
      obtain ⟨z, e1, e2⟩ := atI_dq h2 q
      exact .inr (.inl ⟨_, _, _, z, rfl, rfl, Evl.ex_t s h1, e1, fin _ G H (Mv.refl s) (Same.refl _) e2⟩)
    | _ => cases q
  | lst h1 h2 =>
    cases dy with
    | int i =>
      obtain ⟨z, e1, e2⟩ := atI_dq h2 q
      exact .inl ⟨_, _, _, z, rfl, rfl, SqL.of (s _ _ h1), e1, fin _ G H (Mv.refl s) (Same.refl _) e2⟩
    | _ => cases q
  | _ => cases q
theorem dx_ix (ha : PE X a (rd c W fa)) (hb : PE X b (rd c W fb)) (hs : PlainIx b := by exact fun _ _ => rfl) (hK : X.K = c.K := by rfl) : PE X (.Subscript a b pos) (rd c W (eOp oIx fa fb)) := pe_to (pe_ix ix_seq ha hb hs) (by rw [hK]; exact rd_op d_ix)
/-- the thing that is handed about, in slot i -/
def eM (i : Nat) : EF Unit := fun δ h => match δ[i]? with
  | some (some .me) => .ok () h
  | _ => .bad
def rm (c : Cn) (W : WX) (f : EF Unit) : TE := fun σ H Q => ∃ ha G0 B G δ h, Sta c ha G0 B G H σ δ h ∧ Post c ha W σ G H (f δ h) fun _ _ _ H' => ∀ a, ha = some a → Q (.ref a) H'
theorem dm_v {i : Nat} {x : Str} (hN : X.N[i]? = some x) (hv : Vis X.env.scope x) (hd : (x == ("__debug__" : Str)) = false := by decide) (hcd : (x == ("__classdict__" : Str)) = false := by decide) : PE X (.Name x pos) (rm c W (eM i)) := ⟨fun pins s σ H Q I z => (pe_var hN hv hd hcd).run pins s σ H Q I (by
  obtain ⟨ha, G0, B, G, δ, h, st, p⟩ := z
  unfold eM at p
  split at p
  · rename_i e
    obtain ⟨fp, o, n, k⟩ := st.sl
    obtain ⟨a, h1, h2⟩ := ownS_me o e
    exact ⟨_, h1, post_ok p st.gh st.hd a h2⟩
  · exact p.elim)⟩
/-- an item of it -/
def eIxM (i : Nat) (fb : EF D) : EF D := fun δ h => (eM i δ h).bind fun _ h1 => (fb δ h1).bind fun y h2 => Ex.of (match y, h2 with
  | .int i, .hl ds => atI ds i
  | _, _ => none) h2
theorem dx_ixM {i : Nat} (ha : PE X a (rm c W (eM i))) (hb : PE X b (rd c W fb)) (hs : PlainIx b := by exact fun _ _ => rfl) (hK : X.K = c.K := by rfl) : PE X (.Subscript a b pos) (rd c W (eIxM i fb)) := pe_to (pe_ix ix_list ha hb hs) fun σ H Q x => by
  obtain ⟨ha, G0, B, G, δ, h, st, p⟩ := x
  refine ⟨ha, G0, B, G, δ, h, st, post_imp (post_bind p) fun x h1 G1 H1 af1 p1 v e1 => ?_⟩
  refine ⟨ha, G0, B, G1, δ, h1, st.to af1, post_imp (post_bind p1) fun y h2 G2 H2 af2 p2 w dw => ?_⟩
  obtain ⟨d, e, q⟩ := post_of p2
  cases dw with
  | int i =>
    cases af2.hd with
    | hand e2 _ h4 h5 =>
      rw [e1] at e2
      cases e2
      obtain ⟨z, k1, k2⟩ := atI_dq h5 e
      exact ⟨_, _, _, z, rfl, rfl, SqL.of h4, k1, q _ _ (.refl af2.gh af2.hd) _ k2⟩
    | _ => cases e
  | _ => cases e
def eOn (f : D → D → Option D) (fa fb : EF D) : EF D := eOp f fa fb
def OpN (c : Cn) (r : R2) (f : D → D → Option D) : Prop := ∀ {ha : Option Addr} {G H : Hp} {x y d : D} {v w : V} {Q : VK}, Same G H → Dq c ha G v x → Dq c ha G w y → f x y = some d → (∀ u G' H', Mv G H G' H' → Same H H' → Nw c ha H G' H' u d → Q u H') → r v w H Q
theorem OpD.n {r : R2} {f : D → D → Option D} (h : OpD c r f) : OpN c r f := fun s dx dy e fin => h s dx dy e fun u G' H' m s du => fin u G' H' m s (nw_dq du)
theorem OpN.or {r1 r2 : R2} {f1 f2 : D → D → Option D} (h1 : OpN c r1 f1) (h2 : OpN c r2 f2) : OpN c (fun x y H Q => r1 x y H Q ∨ r2 x y H Q) (fun x y => match f1 x y with | some d => some d | none => f2 x y) := by
  intro ha G H x y d v w Q s dx dy e fin
  cases q : f1 x y with
  | some d2 =>
    simp only [q] at e
    cases e
    exact .inl (h1 s dx dy q fin)
  | none =>
    simp only [q] at e
    exact .inr (h2 s dx dy e fin)
theorem rn_op {r : R2} {f : D → D → Option D} (hr : OpN c r f) (σ : L2.St) (H : Hp) (Q : VK) (x : rn c W (eOn f fa fb) σ H Q) : tOp r (rd c W fa) (rd c W fb) σ H Q := by
  obtain ⟨ha, G0, B, G, δ, h, st, p⟩ := x
  refine ⟨ha, G0, B, G, δ, h, st, post_imp (post_bind p) fun x h1 G1 H1 af1 p1 v dv => ?_⟩
  refine ⟨ha, G0, B, G1, δ, h1, st.to af1, post_imp (post_bind p1) fun y h2 G2 H2 af2 p2 w dw => ?_⟩
  obtain ⟨d, e, q⟩ := post_of p2
  exact hr af2.gh (dq_mono af2.gg dv) dw e fun u G' H' m s n => q G' H' (.of af2.gh af2.hd m s) u (nw_from (af1.trans af2) n)
def oCatT (x y : D) : Option D := match x, y with
  | .tup ds, .tup es => if szOk (ds.length + es.length) then some (.tup (ds ++ es)) else none
  | _, _ => none
theorem nil_of {ha : Option Addr} {G : Hp} {xs : List V} {ds : List D} (h : DqAll c ha G xs ds) : xs = [] ↔ ds = [] := by cases h <;> simp
theorem d_catT : OpD c (rCatA c.K) oCatT := by
  intro ha G H x y d v w Q s dx dy q fin
  cases dx with
  | tup h1 h2 =>
    cases dy with
    | tup h3 h4 =>
      obtain ⟨z, rfl⟩ := if_get q
      rename_i a1 xs1 ds1 a2 xs2 ds2
      refine ⟨_, _, _, _, rfl, rfl, Evl.ex_t s h1, Evl.ex_t s h3, by rw [dqAll_len h2, dqAll_len h4]; exact szOk_le z, fun e => ?_, fun _ e => ?_, fun _ _ p hp => ?_⟩
      · rw [(nil_of h2).mp e, List.nil_append] at fin
        exact fin _ G H (Mv.refl s) (Same.refl _) (.tup h3 h4)
      · rw [(nil_of h4).mp e, List.append_nil] at fin
        exact fin _ G H (Mv.refl s) (Same.refl _) (.tup h1 h2)
      · have m := Mv.new (o := .tup (xs1 ++ xs2)) s hp
        exact fin _ _ _ m (same_new hp) (.tup (SqT.of upd_same) (dqAll_app (dqAll_mono m.gg h2) (dqAll_mono m.gg h4)))
    | _ => cases q
  | _ => cases q
def oCatL (x y : D) : Option D := match x, y with
  | .lst ds, .lst es => if szOk (ds.length + es.length) then some (.hl (ds ++ es)) else none
  | _, _ => none
theorem nw_new {ha : Option Addr} {G H : Hp} {l : Addr} {vs : List V} {ds : List D} {Q : VK} (s : Same G H) (hl : H l = none) (d : DqAll c ha G vs ds) (fin : ∀ u G' H', Mv G H G' H' → Same H H' → Nw c ha H G' H' u (.hl ds) → Q u H') : Q (.ref l) (upd H l (.lst vs)) :=
  fin _ _ _ (Mv.hid s hl) (same_new hl) (nw_lst s hl d)
theorem d_catL : OpN c rCat oCatL := by
  intro ha G H x y d v w Q s dx dy q fin
  cases dx with
  | lst h1 h2 =>
    cases dy with
    | lst h3 h4 =>
      obtain ⟨z, rfl⟩ := if_get q
      exact ⟨_, _, _, _, rfl, rfl, s _ _ h1, s _ _ h3, by rw [dqAll_len h2, dqAll_len h4]; exact szOk_le z, fun p hp => nw_new s hp (dqAll_app h2 h4) fin⟩
    | _ => cases q
  | _ => cases q
/-- a + b -/
def oPlus (x y : D) : Option D := match x, y with
  | .int i, .int j => some (.int (i + j))
  | .tup ds, .tup es => if szOk (ds.length + es.length) then some (.tup (ds ++ es)) else none
  | .lst ds, .lst es => if szOk (ds.length + es.length) then some (.hl (ds ++ es)) else none
  | _, _ => none
theorem d_plus : OpN c (fun x y H Q => rI0 (fun i j => .int (i + j)) x y H Q ∨ (rCatA c.K x y H Q ∨ rCat x y H Q)) oPlus := by
  intro ha G H x y d v w Q s dx dy q fin
  cases x <;> cases y <;> first | (cases q; done) | skip
  · exact .inl (d_add.n s dx dy q fin)
  · exact .inr (.inl (d_catT.n s dx dy q fin))
  · exact .inr (.inr (d_catL s dx dy q fin))
theorem op_plus : OpR X (binaryOp .Add) (fun x y H Q => rI0 (fun i j => .int (i + j)) x y H Q ∨ (rCatA X.K x y H Q ∨ rCat x y H Q)) := op_add.or (op_catA.or op_cat)
theorem dn_plus (ha : PE X a (rd c W fa)) (hb : PE X b (rd c W fb)) (hK : X.K = c.K := by rfl) : PE X (.BinOp a .Add b pos) (rn c W (eOn oPlus fa fb)) := pn_to (pe_op op_plus ha hb) (by rw [hK]; exact rn_op d_plus)
/-- a * b -/
def cRep (k : Int) (n : Nat) : Bool := decide (0 ≤ k) && (decide (k ≤ 1000) && decide (n ≤ 1000))
def cRepL (k : Int) (n : Nat) : Bool := decide (-1000 ≤ k) && (decide (k ≤ 1000) && decide (n ≤ 1000))
def oTimes (x y : D) : Option D := match x, y with
  | .int i, .int j => if cMul i j then some (.int (i * j)) else none
  | .tup ds, .int k => if cRep k ds.length && !ds.isEmpty then some (.tup (List.replicate k.toNat ds).flatten) else none
  | .lst ds, .int k => if cRepL k ds.length then some (.hl (List.replicate k.toNat ds).flatten) else none
  | _, _ => none
theorem cRepL_get {k : Int} {n : Nat} (h : cRepL k n = true) : -1000 ≤ k ∧ k ≤ 1000 ∧ n ≤ 1000 := by
  unfold cRepL at h
  rw [Bool.and_eq_true, Bool.and_eq_true, decide_eq_true_eq, decide_eq_true_eq, decide_eq_true_eq] at h
  exact h
theorem cRep_get {k : Int} {n : Nat} (h : cRep k n = true) : 0 ≤ k ∧ k ≤ 1000 ∧ n ≤ 1000 := by
  unfold cRep at h
  rw [Bool.and_eq_true, Bool.and_eq_true, decide_eq_true_eq, decide_eq_true_eq, decide_eq_true_eq] at h
  exact h
abbrev rTimes (K : PySem.W.Frag) : R2 := fun x y H Q => rI CMulW (fun i j => .int (i * j)) x y H Q ∨ (rRep x y H Q ∨ (rRepT K x y H Q ∨ (Gn.rRep1 K x y H Q ∨ Wr.rRep0 K x y H Q)))
theorem d_times : OpN c (rTimes c.K) oTimes := by
  intro ha G H x y d v w Q s dx dy q fin
  cases x <;> cases y <;> first | (cases q; done) | skip
  · exact .inl (d_mul.n s dx dy q fin)
  · rename_i ds k
    obtain ⟨z, rfl⟩ := if_get q
    rw [Bool.and_eq_true] at z
    obtain ⟨z1, z2⟩ := z
    obtain ⟨k0, k1, k2⟩ := cRep_get z1
    cases dy
    cases dx with
    | tup h1 h2 =>
      rename_i a xs
      have hne : xs ≠ [] := fun e => by rw [(nil_of h2).mp e] at z2; cases z2
      by_cases e0 : k = 0
      · subst e0
        refine .inr (.inr (.inr (.inr ⟨a, xs, rfl, rfl, Evl.ex_t s h1, hne, fun p hp => ?_⟩)))
        exact fin _ _ _ (Mv.new s hp) (same_new hp) (nw_dq (.tup (SqT.of upd_same) .nil))
      · by_cases e1 : k = 1
        · subst e1
          refine .inr (.inr (.inr (.inl ⟨a, xs, rfl, rfl, Evl.ex_t s h1, ?_⟩)))
          refine fin _ G H (Mv.refl s) (Same.refl _) (nw_dq (.tup h1 ?_))
          show DqAll c ha G xs ([ds].flatten)
          rw [List.flatten_cons, List.flatten_nil, List.append_nil]
          exact h2
        · refine .inr (.inr (.inl ⟨a, k, xs, rfl, rfl, Evl.ex_t s h1, hne, by omega, k1, by rw [dqAll_len h2]; exact k2, fun p hp => ?_⟩))
          have m := Mv.new (o := .tup (List.replicate k.toNat xs).flatten) s hp
          exact fin _ _ _ m (same_new hp) (nw_dq (.tup (SqT.of upd_same) (dqAll_reps (dqAll_mono m.gg h2) _)))
  · rename_i ds k
    obtain ⟨z, rfl⟩ := if_get q
    obtain ⟨k0, k1, k2⟩ := cRepL_get z
    cases dy
    cases dx with
    | lst h1 h2 =>
      refine .inr (.inl ⟨_, k, _, rfl, rfl, s _ _ h1, by omega, by omega, ?_, fun p hp => nw_new s hp (dqAll_reps h2 _) fin⟩)
      rw [dqAll_len h2, sizeLine_eq]
      have : ds.length * k.toNat ≤ 1000 * 1000 := Nat.mul_le_mul k2 (by omega)
      omega
theorem op_times : OpR X (binaryOp .Mult) (rTimes X.K) := op_mulW.or (op_rep.or (op_repT.or (Gn.op_rep1.or Wr.op_rep0)))
theorem dn_times (ha : PE X a (rd c W fa)) (hb : PE X b (rd c W fb)) (hK : X.K = c.K := by rfl) : PE X (.BinOp a .Mult b pos) (rn c W (eOn oTimes fa fb)) := pn_to (pe_op op_times ha hb) (by rw [hK]; exact rn_op d_times)
def oNeg : D → Option D
  | .int i => some (.int (-i))
  | _ => none
theorem dx_neg (ha : PE X a (rd c W fa)) : PE X (.UnaryOp .USub a pos) (rd c W (eUn oNeg fa)) := pe_to (pe_un un_neg ha) fun σ H Q x => by
  obtain ⟨ha, G0, B, G, δ, h, st, p⟩ := x
  refine ⟨ha, G0, B, G, δ, h, st, post_imp (post_bind p) fun x h1 G1 H1 af1 p1 v dv => ?_⟩
  obtain ⟨d, e, q⟩ := post_of p1
  cases dv with
  | int i => cases e; exact ⟨i, rfl, q _ _ (.refl af1.gh af1.hd) _ (.int _)⟩
  | _ => cases e
def eOpt (f : EF D) : EF (Option Int) := fun δ h => (f δ h).bind fun d h1 => match d with
  | .int i => .ok (some i) h1
  | _ => .bad
def eNo : EF (Option Int) := fun _ h => .ok none h
def ro (c : Cn) (W : WX) (f : EF (Option Int)) : TO := fun σ H Q => ∃ ha G0 B G δ h, Sta c ha G0 B G H σ δ h ∧ Post c ha W σ G H (f δ h) fun o _ _ H' => Q o H'
theorem po_to {o : Option Expr} {t : TO} {f : EF (Option Int)} (p : PO X o t) (i : ∀ σ H Q, ro c W f σ H Q → t σ H Q) : PO X o (ro c W f) := ⟨fun pins s σ H Q I h => p.run pins s σ H Q I (i σ H Q h)⟩
theorem do_no : PO X none (ro c W eNo) := po_to po_none fun σ H Q x => by
  obtain ⟨ha, G0, B, G, δ, h, st, p⟩ := x
  exact post_ok p st.gh st.hd
theorem do_e (p : PE X e (rd c W f)) : PO X (some e) (ro c W (eOpt f)) := po_to (po_some p) fun σ H Q x => by
  obtain ⟨ha, G0, B, G, δ, h, st, p⟩ := x
  refine ⟨ha, G0, B, G, δ, h, st, post_imp (post_bind p) fun d h1 G1 H1 af p1 v dv => ?_⟩
  cases dv with
  | int i => exact ⟨i, rfl, post_ok p1 af.gh af.hd⟩
  | _ => exact p1.elim
def cutD {α : Type} (xs : List α) (lo hi : Option Int) : List α := (xs.drop (HT.sIx xs.length 0 lo)).take (HT.sIx xs.length xs.length hi - HT.sIx xs.length 0 lo)
def slD (d : D) (lo hi : Option Int) : Option D := match d with
  | .tup ds => some (.tup (cutD ds lo hi))
  | .lst ds => some (.hl (cutD ds lo hi))
  | _ => none
def eSl (f : EF D) (lo hi : EF (Option Int)) : EF D := fun δ h => (f δ h).bind fun d h1 => (lo δ h1).bind fun l h2 => (hi δ h2).bind fun u h3 => Ex.of (slD d l u) h3
theorem dqAll_cut {ha : Option Addr} {G : Hp} {xs : List V} {ds : List D} {lo hi : Option Int} (h : DqAll c ha G xs ds) : DqAll c ha G (cutV xs lo hi) (cutD ds lo hi) := by
  unfold cutV cutD
  rw [dqAll_len h]
  exact dqAll_take _ (dqAll_drop _ h)
theorem dn_sl {lo hi : Option Expr} {gl gh : EF (Option Int)} {p2 : Pos} (he : PE X e (rd c W f)) (hl : PO X lo (ro c W gl)) (hh : PO X hi (ro c W gh)) (hK : X.K = c.K := by rfl) : PE X (.Subscript e (.Slice lo hi none p2) pos) (rn c W (eSl f gl gh)) := pn_to (pe_slice (sl_tupA.or sl_list) he hl hh) fun σ H Q x => by
  obtain ⟨ha, G0, B, G, δ, h, st, p⟩ := x
  refine ⟨ha, G0, B, G, δ, h, st, post_imp (post_bind p) fun x h1 G1 H1 af1 p1 v dv => ?_⟩
  refine ⟨ha, G0, B, G1, δ, h1, st.to af1, post_imp (post_bind p1) fun l h2 G2 H2 af2 p2 => ?_⟩
  refine ⟨ha, G0, B, G2, δ, h2, (st.to af1).to af2, post_imp (post_bind p2) fun u h3 G3 H3 af3 p3 => ?_⟩
  obtain ⟨d, e, q⟩ := post_of p3
  have dv3 := dq_mono (af2.gg.trans af3.gg) dv
  have a03 := (af1.trans af2).trans af3
  rw [hK]
  cases dv3 with
  | tup k1 k2 =>
    rename_i a xs ds
    cases e
    refine .inl ⟨a, xs, rfl, Evl.ex_t af3.gh k1, fun w => ?_, fun _ p hp => ?_⟩
    · refine q _ _ (.refl af3.gh af3.hd) _ (nw_dq (.tup k1 ?_))
      have z : cutD ds l u = ds := by
        unfold cutD
        rw [← dqAll_len k2, w.1, w.2, List.drop_zero, Nat.sub_zero, dqAll_len k2, List.take_length]
      rw [z]
      exact k2
    · have m := Mv.new (o := .tup (cutV xs l u)) af3.gh hp
      exact q _ _ (.of af3.gh af3.hd m (same_new hp)) _ (nw_dq (.tup (SqT.of upd_same) (dqAll_cut (dqAll_mono m.gg k2))))
  | lst k1 k2 =>
    rename_i a xs ds
    cases e
    refine .inr ⟨a, xs, rfl, SqL.of (af3.gh _ _ k1), fun p hp => ?_⟩
    exact q _ _ (.of af3.gh af3.hd (Mv.hid af3.gh hp) (same_new hp)) _ (nw_from a03 (nw_lst af3.gh hp (dqAll_cut k2)))
  | _ => cases e
def eAt (f : EF D) (n : Str) : EF D := fun δ h => (f δ h).bind fun d h1 => Ex.of (match d with
  | .ins _ fs => fs.lookup n
  | _ => none) h1
/-- an attribute of what slot i holds -/
def eAtV (i : Nat) (n : Str) : EF D := fun δ h => Ex.of (match δ[i]?, h with
  | some (some (.ins _ fs)), _ => fs.lookup n
  | some (some .me), .ins _ fs => fs.lookup n
  | _, _ => none) h
theorem dx_atV {i : Nat} {x n : Str} {p : Pos} (hN : X.N[i]? = some x) (hv : Vis X.env.scope x) (hd : (x == ("__debug__" : Str)) = false := by decide) (hcd : (x == ("__classdict__" : Str)) = false := by decide) (hb : attributeBase (.Name x p) n X.env (eval (.Name x p) X.env) = eval (.Name x p) X.env := by rfl) (hK : X.K = c.K := by rfl) : PE X (.Attribute (.Name x p) n pos) (rd c W (eAtV i n)) := pe_to (pe_fld (pe_var hN hv hd hcd) hb) fun σ H Q x => by
  obtain ⟨ha, G0, B, G, δ, h, st, p⟩ := x
  obtain ⟨d, e, q⟩ := post_of p
  rw [hK]
  obtain ⟨fp, o, n, k⟩ := st.sl
  split at e
  · rename_i e1
    obtain ⟨v, f1, f, f2, h1, _, h3, _⟩ := ownS_slot o e1 rfl
    refine ⟨v, h1, ?_⟩
    cases (own_fr h3 rfl).1 with
    | ins k1 k2 k3 k4 =>
      obtain ⟨na, w, k5, k6⟩ := dqF_look k4 e
      exact ⟨_, _, _, _, w, rfl, st.gh _ _ k2, k3.cl, na, k5, q _ _ st.here _ k6⟩
  · rename_i e1
    obtain ⟨a, h1, h2⟩ := ownS_me o e1
    refine ⟨_, h1, ?_⟩
    cases id st.hd with
    | self e2 _ k0 k3 k2 k4 =>
      rw [h2] at e2
      cases e2
      obtain ⟨na, w, k5, k6⟩ := dqF_look k4 e
      exact ⟨_, _, _, _, w, rfl, k2, k3.cl, na, k5, q _ _ st.here _ k6⟩
  · cases e
def CaD (c : Cn) (r : List V → Hp → VK → Prop) (f : List D → Option D) : Prop := ∀ {ha : Option Addr} {G H : Hp} {ds : List D} {d : D} {vs : List V} {Q : VK}, Same G H → DqAll c ha G vs ds → f ds = some d → (∀ u G' H', Mv G H G' H' → Same H H' → Dq c ha G' u d → Q u H') → r vs H Q
def CaN (c : Cn) (r : List V → Hp → VK → Prop) (f : List D → Option D) : Prop := ∀ {ha : Option Addr} {G H : Hp} {ds : List D} {d : D} {vs : List V} {Q : VK}, Same G H → DqAll c ha G vs ds → f ds = some d → (∀ u G' H', Mv G H G' H' → Same H H' → Nw c ha H G' H' u d → Q u H') → r vs H Q
def eBi (k : List D → Option D) (fs : EF (List D)) : EF D := fun δ h => (fs δ h).bind fun ds h1 => Ex.of (k ds) h1
theorem rd_bi {r : List V → Hp → VK → Prop} {k : List D → Option D} (hr : CaD c r k) (σ : L2.St) (H : Hp) (Q : VK) (x : rd c W (eBi k fs) σ H Q) : tCB r (ra c W fs) σ H Q := by
  obtain ⟨ha, G0, B, G, δ, h, st, p⟩ := x
  refine ⟨ha, G0, B, G, δ, h, st, post_imp (post_bind p) fun ds h1 G1 H1 af1 p1 vs dvs => ?_⟩
  obtain ⟨d, e, q⟩ := post_of p1
  exact hr af1.gh dvs e fun u G' H' m s du => q G' H' (.of af1.gh af1.hd m s) u du
theorem rn_bi {r : List V → Hp → VK → Prop} {k : List D → Option D} (hr : CaN c r k) (σ : L2.St) (H : Hp) (Q : VK) (x : rn c W (eBi k fs) σ H Q) : tCB r (ra c W fs) σ H Q := by
  obtain ⟨ha, G0, B, G, δ, h, st, p⟩ := x
  refine ⟨ha, G0, B, G, δ, h, st, post_imp (post_bind p) fun ds h1 G1 H1 af1 p1 vs dvs => ?_⟩
  obtain ⟨d, e, q⟩ := post_of p1
  exact hr af1.gh dvs e fun u G' H' m s du => q G' H' (.of af1.gh af1.hd m s) u (nw_from af1 du)
theorem dx_bi {x : Str} {id : String} {p : Pos} {r : List V → Hp → VK → Prop} {k : List D → Option D} (hc : CallR X (.builtin id) r) (hr : CaD c r k) (hg : Gl X x) (hm : X.mg x = none) (hv : bootBuiltins x = some (.builtin id)) (ha : PA X (e :: es) (ra c W fs)) (hn : x ≠ "__name__" := by decide) (hdb : (x == ("__debug__" : Str)) = false := by decide)
    (he : starEach (e :: es) X.env = (false, eval e X.env) :: starEach es X.env := by rfl) (hpl : (backTo pos (starEach es X.env)).any (·.1) = false := by rfl) : PE X (.Call (.Name x p) (e :: es) [] pos) (rd c W (eBi k fs)) := pe_to (pe_callB hc hg hm hv ha hn hdb he hpl) (rd_bi hr)
theorem dx_ty {x : Str} {T : String} {p : Pos} {r : List V → Hp → VK → Prop} {k : List D → Option D} (hc : CallR X (.type T) r) (hr : CaD c r k) (hg : Gl X x) (hm : X.mg x = none) (hv : bootBuiltins x = some (.type T)) (ha : PA X (e :: es) (ra c W fs)) (hn : x ≠ "__name__" := by decide) (hdb : (x == ("__debug__" : Str)) = false := by decide)
    (he : starEach (e :: es) X.env = (false, eval e X.env) :: starEach es X.env := by rfl) (hpl : (backTo pos (starEach es X.env)).any (·.1) = false := by rfl) : PE X (.Call (.Name x p) (e :: es) [] pos) (rd c W (eBi k fs)) := pe_to (pe_callTy hc hg hm hv ha hn hdb he hpl) (rd_bi hr)
theorem dn_ty {x : Str} {T : String} {p : Pos} {r : List V → Hp → VK → Prop} {k : List D → Option D} (hc : CallR X (.type T) r) (hr : CaN c r k) (hg : Gl X x) (hm : X.mg x = none) (hv : bootBuiltins x = some (.type T)) (ha : PA X (e :: es) (ra c W fs)) (hn : x ≠ "__name__" := by decide) (hdb : (x == ("__debug__" : Str)) = false := by decide)
    (he : starEach (e :: es) X.env = (false, eval e X.env) :: starEach es X.env := by rfl) (hpl : (backTo pos (starEach es X.env)).any (·.1) = false := by rfl) : PE X (.Call (.Name x p) (e :: es) [] pos) (rn c W (eBi k fs)) := pn_to (pe_callTy hc hg hm hv ha hn hdb he hpl) (rn_bi hr)
theorem dx_fun {x : Str} {id : String} {p : Pos} {r : List V → Hp → VK → Prop} {k : List D → Option D} (hc : CallR X (.builtin id) r) (hr : CaD c r k) (hg : Gl X x) (hm : X.mg x = some (.builtin id)) (ha : PA X (e :: es) (ra c W fs)) (hdb : (x == ("__debug__" : Str)) = false := by decide)
    (he : starEach (e :: es) X.env = (false, eval e X.env) :: starEach es X.env := by rfl) (hpl : (backTo pos (starEach es X.env)).any (·.1) = false := by rfl) : PE X (.Call (.Name x p) (e :: es) [] pos) (rd c W (eBi k fs)) := pe_to (pe_callBfun hc hg hm ha hdb he hpl) (rd_bi hr)
def kLen : List D → Option D
  | [.tup ds] => some (.int ds.length)
  | [.lst ds] => some (.int ds.length)
  | _ => none
theorem one_of {ha : Option Addr} {G : Hp} {vs : List V} {d : D} (h : DqAll c ha G vs [d]) : ∃ v, vs = [v] ∧ Dq c ha G v d := by
  cases h with
  | cons h t => cases t; exact ⟨_, rfl, h⟩
theorem two_of {ha : Option Addr} {G : Hp} {vs : List V} {d1 d2 : D} (h : DqAll c ha G vs [d1, d2]) : ∃ v w, vs = [v, w] ∧ Dq c ha G v d1 ∧ Dq c ha G w d2 := by
  cases h with
  | cons h t =>
    obtain ⟨w, rfl, hw⟩ := one_of t
    exact ⟨_, w, rfl, h, hw⟩
theorem k_len : CaD c (fun xs H Q => ∃ p ys, xs = [.ref p] ∧ (SqL c.K H p ys ∨ SqT c.K H p ys) ∧ Q (.int ys.length) H) kLen := by
  intro ha G H ds d vs Q s dv e fin
  unfold kLen at e
  split at e <;> cases e
  · obtain ⟨v, rfl, dv1⟩ := one_of dv
    cases dv1 with
    | tup h1 h2 => exact ⟨_, _, rfl, .inr (Evl.ex_t s h1), by rw [dqAll_len h2]; exact fin _ G H (Mv.refl s) (Same.refl _) (.int _)⟩
  · obtain ⟨v, rfl, dv1⟩ := one_of dv
    cases dv1 with
    | lst h1 h2 => exact ⟨_, _, rfl, .inl (SqL.of (s _ _ h1)), by rw [dqAll_len h2]; exact fin _ G H (Mv.refl s) (Same.refl _) (.int _)⟩
theorem c_len (hK : X.K = c.K) : CallR X (.builtin "len") (fun xs H Q => ∃ p ys, xs = [.ref p] ∧ (SqL c.K H p ys ∨ SqT c.K H p ys) ∧ Q (.int ys.length) H) := by rw [← hK]; exact call_len_seq
def kInt : List D → Option D
  | [.int i] => some (.int i)
  | [.bl b] => some (.int (if b then 1 else 0))
  | _ => none
theorem k_int : CaD c (fun xs H Q => (∃ i, xs = [.int i] ∧ Q (.int i) H) ∨ ∃ k, xs = [.bl k] ∧ Q (.int (if k then 1 else 0)) H) kInt := by
  intro ha G H ds d vs Q s dv e fin
  unfold kInt at e
  split at e <;> cases e
  · obtain ⟨v, rfl, dv1⟩ := one_of dv
    cases dv1
    exact .inl ⟨_, rfl, fin _ G H (Mv.refl s) (Same.refl _) (.int _)⟩
  · obtain ⟨v, rfl, dv1⟩ := one_of dv
    cases dv1
    exact .inr ⟨_, rfl, fin _ G H (Mv.refl s) (Same.refl _) (.int _)⟩
def kAbs : List D → Option D
  | [.int i] => some (.int (if i < 0 then -i else i))
  | _ => none
theorem k_abs : CaD c (fun xs H Q => ∃ i, xs = [.int i] ∧ Q (.int (if i < 0 then -i else i)) H) kAbs := by
  intro ha G H ds d vs Q s dv e fin
  unfold kAbs at e
  split at e <;> cases e
  obtain ⟨v, rfl, dv1⟩ := one_of dv
  cases dv1
  exact ⟨_, rfl, fin _ G H (Mv.refl s) (Same.refl _) (.int _)⟩
def kMin2 : List D → Option D
  | [.int i, .int j] => some (.int (if j < i then j else i))
  | _ => none
theorem k_min2 : CaD c (fun xs H Q => ∃ i j, xs = [.int i, .int j] ∧ Q (.int (if j < i then j else i)) H) kMin2 := by
  intro ha G H ds d vs Q s dv e fin
  unfold kMin2 at e
  split at e <;> cases e
  obtain ⟨v, w, rfl, dv1, dw⟩ := two_of dv
  cases dv1
  cases dw
  exact ⟨_, _, rfl, fin _ G H (Mv.refl s) (Same.refl _) (.int _)⟩
def kGcd : List D → Option D
  | [.int i, .int j] => some (.int ((Nat.gcd i.natAbs j.natAbs : Nat) : Int))
  | _ => none
theorem k_gcd : CaD c rGcd kGcd := by
  intro ha G H ds d vs Q s dv e fin
  unfold kGcd at e
  split at e <;> cases e
  obtain ⟨v, w, rfl, dv1, dw⟩ := two_of dv
  cases dv1
  cases dw
  exact ⟨_, _, rfl, fin _ G H (Mv.refl s) (Same.refl _) (.int _)⟩
def kTup : List D → Option D
  | [.tup ds] => some (.tup ds)
  | [.lst ds] => some (.tup ds)
  | _ => none
theorem k_tup : CaD c (fun xs H Q => ∃ p ys, xs = [.ref p] ∧ ((SqL c.K H p ys ∧ ∀ l, H l = none → Q (.ref l) (upd H l (.tup ys))) ∨ (SqT c.K H p ys ∧ Q (.ref p) H))) kTup := by
  intro ha G H ds d vs Q s dv e fin
  unfold kTup at e
  split at e <;> cases e
  · obtain ⟨v, rfl, dv1⟩ := one_of dv
    cases dv1 with
    | tup h1 h2 => exact ⟨_, _, rfl, .inr ⟨Evl.ex_t s h1, fin _ G H (Mv.refl s) (Same.refl _) (.tup h1 h2)⟩⟩
  · obtain ⟨v, rfl, dv1⟩ := one_of dv
    cases dv1 with
    | lst h1 h2 =>
      refine ⟨_, _, rfl, .inl ⟨SqL.of (s _ _ h1), fun l hl => ?_⟩⟩
      exact fin _ _ _ (Mv.new s hl) (same_new hl) (.tup (SqT.of upd_same) (dqAll_mono (Mv.new s hl).gg h2))
theorem c_tup (hK : X.K = c.K) : CallR X (.type "tuple") (fun xs H Q => ∃ p ys, xs = [.ref p] ∧ ((SqL c.K H p ys ∧ ∀ l, H l = none → Q (.ref l) (upd H l (.tup ys))) ∨ (SqT c.K H p ys ∧ Q (.ref p) H))) := by rw [← hK]; exact call_tuple_of
def kList : List D → Option D
  | [.tup ds] => some (.hl ds)
  | [.lst ds] => some (.hl ds)
  | _ => none
theorem k_list : CaN c (fun xs H Q => ∃ p ys, xs = [.ref p] ∧ (SqL c.K H p ys ∨ SqT c.K H p ys) ∧ ∀ l, H l = none → Q (.ref l) (upd H l (.lst ys))) kList := by
  intro ha G H ds d vs Q s dv e fin
  unfold kList at e
  split at e <;> cases e
  · obtain ⟨v, rfl, dv1⟩ := one_of dv
    cases dv1 with
    | tup h1 h2 => exact ⟨_, _, rfl, .inr (Evl.ex_t s h1), fun l hl => nw_new s hl h2 fin⟩
  · obtain ⟨v, rfl, dv1⟩ := one_of dv
    cases dv1 with
    | lst h1 h2 => exact ⟨_, _, rfl, .inl (SqL.of (s _ _ h1)), fun l hl => nw_new s hl h2 fin⟩
theorem c_list (hK : X.K = c.K) : CallR X (.type "list") (fun xs H Q => ∃ p ys, xs = [.ref p] ∧ (SqL c.K H p ys ∨ SqT c.K H p ys) ∧ ∀ l, H l = none → Q (.ref l) (upd H l (.lst ys))) := by rw [← hK]; exact call_list_of
/-- ints in a row -/
def intL : List D → Option (List Int)
  | [] => some []
  | .int i :: ds => (intL ds).map (i :: ·)
  | _ => none
theorem ints_get : ∀ {ds : List D} {ns : List Int} {ha : Option Addr} {G : Hp} {vs : List V}, intL ds = some ns → DqAll c ha G vs ds → vs = ns.map V.int
  | [], ns, _, _, _, e, h => by cases e; cases h; rfl
  | d :: ds, ns, _, _, _, e, h => by
    cases h with
    | cons h t =>
      cases h with
      | int i =>
        unfold intL at e
        cases q : intL ds with
        | none => rw [q] at e; cases e
        | some ms =>
          rw [q] at e
          cases e
          rw [ints_get q t]
          rfl
      | _ => cases e
def kSum : List D → Option D
  | [.lst ds] => (intL ds).map fun ns => .int ns.sum
  | _ => none
theorem k_sum : CaD c (rSum c.K) kSum := by
  intro ha G H ds d vs Q s dv e fin
  unfold kSum at e
  split at e
  · rename_i ds
    obtain ⟨v, rfl, dv1⟩ := one_of dv
    cases dv1 with
    | lst h1 h2 =>
      cases q : intL ds with
      | none => rw [q] at e; cases e
      | some ns =>
        rw [q] at e
        cases e
        have z := ints_get q h2
        subst z
        exact ⟨_, ns, rfl, SqL.of (s _ _ h1), fin _ G H (Mv.refl s) (Same.refl _) (.int _)⟩
  · cases e
def bls : List D → Option (List Bool)
  | [] => some []
  | .bl i :: ds => (bls ds).map (i :: ·)
  | _ => none
def kAll : List D → Option D
  | [.lst ds] => (bls ds).map fun ns => .bl (ns.all id)
  | _ => none
theorem c_sum (hc : X.calm = true) (hK : X.K = c.K) : CallR X (.builtin "sum") (rSum c.K) := by rw [← hK]; exact cr_sum hc
end
end Fw
namespace Fw
open PySem PySem.Spec PyProof.Rows L2 Dz Vz
section
variable {X : Cx} {W : WX} {c : Cn} {e a b e2 : Expr} {es : List Expr} {pos : Pos} {ta tb te : TE} {t : TT} {f fa fb fc : EF D} {g ga gb : EF Bool} {fs : EF (List D)}
theorem c_eqD (hu : X.A.units + 64 < cLine) (hK : X.K = c.K) : OpR X (compareOp .Eq) (rEqD c.K) := by rw [← hK]; exact op_eqD hu
theorem c_neD (hu : X.A.units + 64 < cLine) (hK : X.K = c.K) : OpR X (compareOp .NotEq) (rNeD c.K) := by rw [← hK]; exact op_neD hu
def tyS : D → Option String
  | .non => some "NoneType"
  | .bl _ => some "bool"
  | .int _ => some "int"
  | .str _ => some "str"
  | .lst _ => some "list"
  | .tup _ => some "tuple"
  | _ => none
def isS (n : String) (d : D) : Option Bool := match d with
  | .ins _ _ => some false
  | _ => (tyS d).map fun t => isaB t n
theorem kit_bS {K : PySem.W.Frag} {t n : String} (ht : t ∈ (["NoneType", "bool", "int", "str", "list", "tuple"] : List String)) (hn : n ∈ (["int", "bool", "str", "list", "tuple", "dict"] : List String)) : PySem.W.kitOne K (.type t) (.type n) = some (isaB t n) := by
  simp only [List.mem_cons, List.not_mem_nil, or_false] at ht hn
  rcases ht with rfl | rfl | rfl | rfl | rfl | rfl <;> rcases hn with rfl | rfl | rfl | rfl | rfl | rfl <;> kernel_rfl
theorem ty_dq {ha : Option Addr} {G H : Hp} {v : V} {d : D} {t : String} (s : Same G H) (h : Dq c ha G v d) (e : tyS d = some t) : TyX c.K H v (.type t) ∧ t ∈ (["NoneType", "bool", "int", "str", "list", "tuple"] : List String) := by
  cases h with
  | non => cases e; exact ⟨.base .non, by simp⟩
  | bl b => cases e; exact ⟨.base (.bl b), by simp⟩
  | int i => cases e; exact ⟨.base (.int i), by simp⟩
  | str x => cases e; exact ⟨.base (.str x), by simp⟩
  | lst h1 _ => cases e; exact ⟨.base (.lst (s _ _ h1)), by simp⟩
  | tup h1 _ =>
    cases e
    refine ⟨?_, by simp⟩
    rcases Evl.ex_t s h1 with (hs | ⟨o, hs⟩) | ⟨o, its, n, hk, hc, _⟩
    · exact .base (.tup hs)
    · exact .fTuple hs
    · exact .kTuple hk hc
  | ins _ _ _ _ => cases e
/-- what is asked of object.__class__ -/
structure GtK (K : PySem.W.Frag) : Prop where
  hn : PySem.W.specialIn K (.builtin "object.__class__") "__get__" = some (some (.builtin "getset_descriptor.__get__"))
  ht : PySem.W.takesIn K (.builtin "object.__class__") = some true
theorem is_ty {ha : Option Addr} {G H : Hp} {v : V} {d : D} {n0 : String} {k0 : Bool} (gt : GtK c.K) (s : Same G H) (h : Dq c ha G v d) (e0 : isS n0 d = some k0) : ∃ t, TyX c.K H v t ∧ ∀ n k, n ∈ (["int", "bool", "str", "list", "tuple", "dict"] : List String) → isS n d = some k → PySem.W.kitOne c.K t (.type n) = some k := by
  cases h with
  | ins k1 k2 k3 k4 => exact ⟨_, .base (.ins (s _ _ k2) k3.cl k3.ca gt.hn gt.ht k3.mo), fun n k hn e => by cases e; exact k3.nb n hn⟩
  | non => exact ⟨_, (ty_dq s (.non : Dq c ha G .non .non) rfl).1, fun n k hn e => by cases e; exact kit_bS (by simp) hn⟩
  | bl b => exact ⟨_, (ty_dq s (.bl b : Dq c ha G _ _) rfl).1, fun n k hn e => by cases e; exact kit_bS (by simp) hn⟩
  | int b => exact ⟨_, (ty_dq s (.int b : Dq c ha G _ _) rfl).1, fun n k hn e => by cases e; exact kit_bS (by simp) hn⟩
  | str b => exact ⟨_, (ty_dq s (.str b : Dq c ha G _ _) rfl).1, fun n k hn e => by cases e; exact kit_bS (by simp) hn⟩
  | lst h1 h2 => exact ⟨_, (ty_dq s (.lst h1 h2 : Dq c ha G _ _) rfl).1, fun n k hn e => by cases e; exact kit_bS (by simp) hn⟩
  | tup h1 h2 => exact ⟨_, (ty_dq s (.tup h1 h2 : Dq c ha G _ _) rfl).1, fun n k hn e => by cases e; exact kit_bS (by simp) hn⟩
def eIs (n : String) (f : EF D) : EF D := fun δ h => (f δ h).bind fun d h1 => Ex.of ((isS n d).map .bl) h1
theorem map_get {α β : Type} {o : Option α} {g : α → β} {y : β} (h : o.map g = some y) : ∃ x, o = some x ∧ g x = y := by
  cases o with
  | none => cases h
  | some x => exact ⟨x, rfl, Option.some.inj h⟩
theorem dx_is {n : String} {p : Pos} (gt : GtK c.K) (hn : n ∈ (["int", "bool", "str", "list", "tuple", "dict"] : List String)) (hg : Gl X "isinstance") (hm : X.mg "isinstance" = none) (ha : PE X a (rd c W f)) (hb : PE X b (tC (.ty n))) (hK : X.K = c.K := by rfl)
    (s1 : starEach (a :: [b]) X.env = (false, eval a X.env) :: starEach [b] X.env := by rfl) (s2 : starEach (b :: []) X.env = (false, eval b X.env) :: starEach [] X.env := by rfl) (hpl : (backTo pos (starEach [b] X.env)).any (·.1) = false := by rfl) : PE X (.Call (.Name "isinstance" p) [a, b] [] pos) (rd c W (eIs n f)) :=
  pe_to (pe_callB call_isi hg hm PyProof.Rows.boot_isinstance (pa_cons ha (pa_cons hb pa_nil s2) s1) (by decide) (by decide) s1 hpl) fun σ H Q x => by
    obtain ⟨ha, G0, B, G, δ, h, st, p⟩ := x
    refine ⟨ha, G0, B, G, δ, h, st, post_imp (post_bind p) fun d h1 G1 H1 af p1 v dv => ?_⟩
    obtain ⟨y, e, q⟩ := post_of p1
    obtain ⟨k, e1, rfl⟩ := map_get e
    obtain ⟨t, t1, t2⟩ := is_ty gt af.gh dv e1
    rw [hK]
    exact ⟨v, .ty n, t, .type n, k, rfl, .ty n, t1, t2 n k hn e1, q _ _ (.refl af.gh af.hd) _ (.bl k)⟩
def eIs2 (n m : String) (f : EF D) : EF D := fun δ h => (f δ h).bind fun d h1 => Ex.of (match isS n d, isS m d with
  | some k, some l => some (.bl (k || l))
  | _, _ => none) h1
theorem kit_any2 {K : PySem.W.Frag} {t : Value} {n m : String} {k l : Bool} (h1 : PySem.W.kitOne K t (.type n) = some k) (h2 : PySem.W.kitOne K t (.type m) = some l) : PySem.W.kitAny K t [.type n, .type m] = some (k || l) := by
  unfold PySem.W.kitAny
  rw [h1]
  unfold PySem.W.kitAny
  rw [h2]
  cases k <;> cases l <;> rfl
theorem dx_is2 {n m : String} {p p2 : Pos} {k2 : Nat} {b1 b2 : Expr} (gt : GtK c.K) (hn : n ∈ (["int", "bool", "str", "list", "tuple", "dict"] : List String)) (hm' : m ∈ (["int", "bool", "str", "list", "tuple", "dict"] : List String)) (hg : Gl X "isinstance") (hm : X.mg "isinstance" = none) (ha : PE X a (rd c W f)) (hb1 : PE X b1 (tC (.ty n))) (hb2 : PE X b2 (tC (.ty m))) (hK : X.K = c.K := by rfl)
    (s1 : starEach (a :: [.Tuple [b1, b2] k2 p2]) X.env = (false, eval a X.env) :: starEach [.Tuple [b1, b2] k2 p2] X.env := by rfl) (s2 : starEach (.Tuple [b1, b2] k2 p2 :: []) X.env = (false, eval (.Tuple [b1, b2] k2 p2) X.env) :: starEach [] X.env := by rfl) (hpl : (backTo pos (starEach [.Tuple [b1, b2] k2 p2] X.env)).any (·.1) = false := by rfl)
    (s3 : starEach [b1, b2] X.env = (false, eval b1 X.env) :: starEach [b2] X.env := by rfl) (s4 : starEach [b2] X.env = (false, eval b2 X.env) :: starEach [] X.env := by rfl) : PE X (.Call (.Name "isinstance" p) [a, .Tuple [b1, b2] k2 p2] [] pos) (rd c W (eIs2 n m f)) :=
  pe_to (pe_callB call_isiT hg hm PyProof.Rows.boot_isinstance (pa_cons ha (pa_cons (pe_tup (pa_cons hb1 (pa_cons hb2 pa_nil s4) s3)) pa_nil s2) s1) (by decide) (by decide) s1 hpl) fun σ H Q x => by
    obtain ⟨ha, G0, B, G, δ, h, st, p⟩ := x
    refine ⟨ha, G0, B, G, δ, h, st, post_imp (post_bind p) fun d h1 G1 H1 af p1 v dv => ⟨by show 2 ≤ sizeLine; decide, fun t ht => ?_⟩⟩
    obtain ⟨y, e, q⟩ := post_of p1
    cases e1 : isS n d with
    | none => simp only [e1] at e; cases e
    | some k =>
      cases e2 : isS m d with
      | none => simp only [e1, e2] at e; cases e
      | some l =>
        simp only [e1, e2] at e
        cases e
        have mv := Mv.hid (o := .tup [.ty n, .ty m]) af.gh ht
        have af2 : Af c ha G1 H1 G1 (upd H1 t (.tup [.ty n, .ty m])) h1 := .of af.gh af.hd mv (same_new ht)
        obtain ⟨u, t1, t2⟩ := is_ty gt af2.gh dv e1
        rw [hK]
        exact ⟨v, t, _, u, _, _, rfl, upd_same, .cons (.ty n) (.cons (.ty m) .nil), t1, kit_any2 (t2 n k hn e1) (t2 m l hm' e2), q _ _ af2 _ (.bl _)⟩
structure WalkD (c : Cn) (ha : Option Addr) (G0 : Hp) (J : It) (ds : List D) : Prop where
  go : ∀ i G H, Same G0 G → Same G H → i < ds.length → J.go i H
  yld : ∀ i G H x H' d, Same G0 G → Same G H → ds[i]? = some d → J.yld i H x H' → ∃ G', Mv G H G' H' ∧ Same H H' ∧ Dq c ha G' x d
  stop : ∀ G H, Same G0 G → Same G H → J.stop ds.length H
def ri (c : Cn) (W : WX) (f : EF (List D)) : TI := fun σ H R => ∃ ha G0 B G δ h, Sta c ha G0 B G H σ δ h ∧ Post c ha W σ G H (f δ h) fun ds _ G' H' => ∀ J, WalkD c ha G' J ds → R J H'
theorem pi_to {tg it : Expr} {t : TI} (p : PI X tg it t) (i : ∀ σ H R, ri c W fs σ H R → t σ H R) : PI X tg it (ri c W fs) := ⟨fun pins s σ H R I h => p.run pins s σ H R I (i σ H R h)⟩
theorem wd_list {ha : Option Addr} {G : Hp} {a : Addr} {xs : List V} {ds : List D} (h1 : G a = some (.lst xs)) (h2 : DqAll c ha G xs ds) : WalkD c ha G (Itl c.K a) ds where
  go := fun i G' H s t hi => walk_list.goes i H (by rw [dqAll_len h2]; exact hi) (SqL.of (t _ _ (s _ _ h1)))
  yld := fun i G' H x H' d s t e y => by
    obtain ⟨rfl, hx⟩ := walk_list.yields i H x H' (by rw [dqAll_len h2]; exact (List.getElem?_eq_some_iff.mp e).1) (SqL.of (t _ _ (s _ _ h1))) y
    obtain ⟨x', e1, e2⟩ := dqAll_at h2 e
    rw [hx] at e1
    cases e1
    exact ⟨G', Mv.refl t, Same.refl _, dq_mono s e2⟩
  stop := fun G' H s t => ⟨xs, SqL.of (t _ _ (s _ _ h1)), by rw [dqAll_len h2]; exact Nat.le_refl _⟩
theorem wd_tup {ha : Option Addr} {G : Hp} {a : Addr} {xs : List V} {ds : List D} (h1 : SqT c.K G a xs) (h2 : DqAll c ha G xs ds) : WalkD c ha G (Itt c.K a) ds where
  go := fun i G' H s t hi => walk_tup.goes i H (by rw [dqAll_len h2]; exact hi) (Evl.ex_t t (Evl.ex_t s h1))
  yld := fun i G' H x H' d s t e y => by
    obtain ⟨rfl, hx⟩ := walk_tup.yields i H x H' (by rw [dqAll_len h2]; exact (List.getElem?_eq_some_iff.mp e).1) (Evl.ex_t t (Evl.ex_t s h1)) y
    obtain ⟨x', e1, e2⟩ := dqAll_at h2 e
    rw [hx] at e1
    cases e1
    exact ⟨G', Mv.refl t, Same.refl _, dq_mono s e2⟩
  stop := fun G' H s t => ⟨xs, Evl.ex_t t (Evl.ex_t s h1), by rw [dqAll_len h2]; exact Nat.le_refl _⟩
def itS : D → Option (List D)
  | .tup ds => some ds
  | .lst ds => some ds
  | _ => none
def iSeq (f : EF D) : EF (List D) := fun δ h => (f δ h).bind fun d h1 => Ex.of (itS d) h1
theorem di_seq {tg : Expr} (p : PE X e (rd c W f)) (hK : X.K = c.K := by rfl) : PI X tg e (ri c W (iSeq f)) := pi_to (pi_or (pi_list p) (pi_tup p)) fun σ H R x => by
  rw [hK]
  obtain ⟨ha, G0, B, G, δ, h, st, p⟩ := x
  unfold iSeq at p
  cases q : f δ h with
  | bad => rw [q] at p; exact p.elim
  | exc n fs h1 => rw [q] at p; exact .inl ⟨ha, G0, B, G, δ, h, st, by rw [q]; exact p⟩
  | ok d h1 =>
    rw [q] at p
    obtain ⟨ds, e, k⟩ := post_of p
    cases d <;> first | (cases e; done) | skip
    · cases e
      refine .inr ⟨ha, G0, B, G, δ, h, st, ?_⟩
      rw [q]
      intro G1 H1 af v dv
      cases dv with
      | tup h1 h2 => exact ⟨_, rfl, ⟨_, Evl.ex_t af.gh h1⟩, k G1 H1 af _ (wd_tup h1 h2)⟩
    · cases e
      refine .inl ⟨ha, G0, B, G, δ, h, st, ?_⟩
      rw [q]
      intro G1 H1 af v dv
      cases dv with
      | lst h1 h2 => exact ⟨_, rfl, ⟨_, SqL.of (af.gh _ _ h1)⟩, k G1 H1 af _ (wd_list h1 h2)⟩
/-- lo, lo + 1, .. -/
def rgD (lo : Int) (n : Nat) : List D := (List.range n).map fun (i : Nat) => D.int (lo + (i : Int))
theorem rgD_len {lo : Int} {n : Nat} : (rgD lo n).length = n := by unfold rgD; rw [List.length_map, List.length_range]
theorem rgD_at {lo : Int} {n i : Nat} {d : D} (e : (rgD lo n)[i]? = some d) : i < n ∧ d = .int (lo + (i : Int)) := by
  unfold rgD at e
  rw [List.getElem?_map] at e
  by_cases hi : i < n
  · rw [List.getElem?_range hi] at e
    cases e
    exact ⟨hi, rfl⟩
  · rw [List.getElem?_eq_none (by simpa using hi)] at e
    cases e
theorem wd_range {ha : Option Addr} {G : Hp} {lo : Int} {n : Nat} : WalkD c ha G (Itr lo n) (rgD lo n) where
  go := fun i G' H s t hi => by rw [rgD_len] at hi; exact hi
  yld := fun i G' H x H' d s t e y => by
    obtain ⟨rfl, rfl⟩ := y
    obtain ⟨hi, rfl⟩ := rgD_at e
    exact ⟨G', Mv.refl t, Same.refl _, .int _⟩
  stop := fun G' H s t => by rw [rgD_len]; exact Nat.le_refl _
/-- small; no way that counts down from a great number, whatever i is -/
def rgOk : Int → Bool
  | .ofNat n => Nat.ble n 1000000
  | .negSucc n => Nat.ble n 999999
theorem rgOk_get {i : Int} (h : rgOk i = true) : -1000000 ≤ i ∧ i ≤ 1000000 := by
  cases i with
  | ofNat n =>
    have : n ≤ 1000000 := Nat.le_of_ble_eq_true h
    rw [Int.ofNat_eq_natCast]
    exact ⟨by omega, by omega⟩
  | negSucc n =>
    have : n ≤ 999999 := Nat.le_of_ble_eq_true h
    exact ⟨by omega, by omega⟩
theorem rgOk_of {i : Int} (h1 : -1000000 ≤ i) (h2 : i ≤ 1000000) : rgOk i = true := by
  cases i with
  | ofNat n =>
    rw [Int.ofNat_eq_natCast] at h2
    exact Nat.ble_eq_true_of_le (by omega)
  | negSucc n => exact Nat.ble_eq_true_of_le (by omega)
def rg1 : List D → Option (List D)
  | [.int j] => if rgOk j then some (rgD 0 j.toNat) else none
  | _ => none
def rg2 : List D → Option (List D)
  | [.int i, .int j] => if rgOk i && rgOk j then some (rgD i (j - i).toNat) else none
  | _ => none
def iRg (k : List D → Option (List D)) (fs : EF (List D)) : EF (List D) := fun δ h => (fs δ h).bind fun ds h1 => Ex.of (k ds) h1
theorem di_rg1 {tg : Expr} {p : Pos} (hg : Gl X "range") (hm : X.mg "range" = none) (ha : PA X [a] (ra c W fs)) (hs : starEach [a] X.env = [(false, eval a X.env)] := by rfl) : PI X tg (.Call (.Name "range" p) [a] [] pos) (ri c W (iRg rg1 fs)) := pi_to (pi_range1 hg hm ha hs) fun σ H R x => by
  obtain ⟨ha, G0, B, G, δ, h, st, p⟩ := x
  refine ⟨ha, G0, B, G, δ, h, st, post_imp (post_bind p) fun ds h1 G1 H1 af p1 vs dv => ?_⟩
  obtain ⟨is, e, k⟩ := post_of p1
  unfold rg1 at e
  split at e
  · obtain ⟨z, rfl⟩ := if_get e
    obtain ⟨v, rfl, dv1⟩ := one_of dv
    obtain ⟨z1, z2⟩ := rgOk_get z
    cases dv1
    exact ⟨_, rfl, by omega, by omega, k _ _ (.refl af.gh af.hd) _ wd_range⟩
  · cases e
theorem di_rg2 {tg : Expr} {p : Pos} (hg : Gl X "range") (hm : X.mg "range" = none) (ha : PA X [a, b] (ra c W fs)) (hs : starEach [a, b] X.env = [(false, eval a X.env), (false, eval b X.env)] := by rfl) (hs2 : starEach [b] X.env = [(false, eval b X.env)] := by rfl) : PI X tg (.Call (.Name "range" p) [a, b] [] pos) (ri c W (iRg rg2 fs)) := pi_to (pi_range2 hg hm ha hs hs2) fun σ H R x => by
  obtain ⟨ha, G0, B, G, δ, h, st, p⟩ := x
  refine ⟨ha, G0, B, G, δ, h, st, post_imp (post_bind p) fun ds h1 G1 H1 af p1 vs dv => ?_⟩
  obtain ⟨is, e, k⟩ := post_of p1
  unfold rg2 at e
  split at e
  · obtain ⟨z, rfl⟩ := if_get e
    rw [Bool.and_eq_true] at z
    obtain ⟨v, w, rfl, dv1, dw⟩ := two_of dv
    obtain ⟨z1, z2⟩ := rgOk_get z.1
    obtain ⟨z3, z4⟩ := rgOk_get z.2
    cases dv1
    cases dw
    exact ⟨_, _, rfl, ⟨by omega, by omega, by omega, by omega⟩, k _ _ (.refl af.gh af.hd) _ wd_range⟩
  · cases e
/-- pairs, each new -/
def zipD : List D → List D → List D
  | x :: xs, y :: ys => .tup [x, y] :: zipD xs ys
  | _, _ => []
theorem zipD_at : ∀ {xs ys : List D} {i : Nat} {d : D}, (zipD xs ys)[i]? = some d → ∃ x y, xs[i]? = some x ∧ ys[i]? = some y ∧ d = .tup [x, y]
  | [], _, i, d, e => by simp [zipD] at e
  | _ :: _, [], i, d, e => by simp [zipD] at e
  | x :: xs, y :: ys, 0, d, e => by
    unfold zipD at e
    exact ⟨x, y, rfl, rfl, (Option.some.inj e).symm⟩
  | x :: xs, y :: ys, i + 1, d, e => by
    unfold zipD at e
    exact zipD_at (i := i) (by simpa using e)
theorem zipD_len : ∀ {xs ys : List D}, (zipD xs ys).length = min xs.length ys.length
  | [], _ => by simp [zipD]
  | _ :: _, [] => by simp [zipD]
  | x :: xs, y :: ys => by
    unfold zipD
    rw [List.length_cons, List.length_cons, List.length_cons, zipD_len]
    omega
theorem zipD_get {xs ys : List D} {i : Nat} (hi : i < (zipD xs ys).length) : i < xs.length ∧ i < ys.length := by rw [zipD_len] at hi; omega
theorem pair_new {ha : Option Addr} {G H : Hp} {T : Addr} {x y : V} {d1 d2 : D} (t : Same G H) (hT : H T = none) (h1 : Dq c ha G x d1) (h2 : Dq c ha G y d2) : ∃ G', Mv G H G' (upd H T (.tup [x, y])) ∧ Same H (upd H T (.tup [x, y])) ∧ Dq c ha G' (.ref T) (.tup [d1, d2]) := by
  have m := Mv.new (o := .tup [x, y]) t hT
  exact ⟨_, m, same_new hT, .tup (SqT.of upd_same) (.cons (dq_mono m.gg h1) (.cons (dq_mono m.gg h2) .nil))⟩
theorem wd_zipL {ha : Option Addr} {G : Hp} {a b : Addr} {xs ys : List V} {ds es : List D} (h1 : G a = some (.lst xs)) (h2 : DqAll c ha G xs ds) (h3 : G b = some (.lst ys)) (h4 : DqAll c ha G ys es) : WalkD c ha G (Itz c.K a b) (zipD ds es) where
  go := fun i G' H s t hi => by
    obtain ⟨i1, i2⟩ := zipD_get hi
    rw [← dqAll_len h2] at i1
    rw [← dqAll_len h4] at i2
    exact ⟨xs, ys, xs[i], ys[i], SqL.of (t _ _ (s _ _ h1)), SqL.of (t _ _ (s _ _ h3)), List.getElem?_eq_getElem i1, List.getElem?_eq_getElem i2⟩
  yld := fun i G' H x H' d s t e y => by
    obtain ⟨T, u, v, rfl, hT, rfl, k1, k2⟩ := y
    obtain ⟨d1, d2, e1, e2, rfl⟩ := zipD_at e
    obtain ⟨u', e3, e4⟩ := dqAll_at h2 e1
    obtain ⟨v', e5, e6⟩ := dqAll_at h4 e2
    rw [k1 xs (SqL.of (t _ _ (s _ _ h1)))] at e3
    rw [k2 ys (SqL.of (t _ _ (s _ _ h3)))] at e5
    cases e3
    cases e5
    exact pair_new t hT (dq_mono s e4) (dq_mono s e6)
  stop := fun G' H s t => by
    refine ⟨xs, ys, SqL.of (t _ _ (s _ _ h1)), SqL.of (t _ _ (s _ _ h3)), ?_⟩
    rw [zipD_len, dqAll_len h2, dqAll_len h4]
    omega
theorem wd_zipT {ha : Option Addr} {G : Hp} {a b : Addr} {xs ys : List V} {ds es : List D} (h1 : SqT c.K G a xs) (h2 : DqAll c ha G xs ds) (h3 : SqT c.K G b ys) (h4 : DqAll c ha G ys es) : WalkD c ha G (RZ.ItzT c.K a b) (zipD ds es) where
  go := fun i G' H s t hi => by
    obtain ⟨i1, i2⟩ := zipD_get hi
    rw [← dqAll_len h2] at i1
    rw [← dqAll_len h4] at i2
    exact ⟨xs, ys, xs[i], ys[i], Evl.ex_t t (Evl.ex_t s h1), Evl.ex_t t (Evl.ex_t s h3), List.getElem?_eq_getElem i1, List.getElem?_eq_getElem i2⟩
  yld := fun i G' H x H' d s t e y => by
    obtain ⟨T, u, v, rfl, hT, rfl, k1, k2⟩ := y
    obtain ⟨d1, d2, e1, e2, rfl⟩ := zipD_at e
    obtain ⟨u', e3, e4⟩ := dqAll_at h2 e1
    obtain ⟨v', e5, e6⟩ := dqAll_at h4 e2
    rw [k1 xs (Evl.ex_t t (Evl.ex_t s h1))] at e3
    rw [k2 ys (Evl.ex_t t (Evl.ex_t s h3))] at e5
    cases e3
    cases e5
    exact pair_new t hT (dq_mono s e4) (dq_mono s e6)
  stop := fun G' H s t => by
    refine ⟨xs, ys, Evl.ex_t t (Evl.ex_t s h1), Evl.ex_t t (Evl.ex_t s h3), ?_⟩
    rw [zipD_len, dqAll_len h2, dqAll_len h4]
    omega
theorem wd_zipX {ha : Option Addr} {G : Hp} {a b : Addr} {xs ys : List V} {ds es : List D} (h1 : G a = some (.lst xs)) (h2 : DqAll c ha G xs ds) (h3 : SqT c.K G b ys) (h4 : DqAll c ha G ys es) : WalkD c ha G (Zx.ItzX c.K a b) (zipD ds es) where
  go := fun i G' H s t hi => by
    obtain ⟨i1, i2⟩ := zipD_get hi
    rw [← dqAll_len h2] at i1
    rw [← dqAll_len h4] at i2
    exact ⟨xs, ys, xs[i], ys[i], SqL.of (t _ _ (s _ _ h1)), Evl.ex_t t (Evl.ex_t s h3), List.getElem?_eq_getElem i1, List.getElem?_eq_getElem i2⟩
  yld := fun i G' H x H' d s t e y => by
    obtain ⟨T, u, v, rfl, hT, rfl, k1, k2⟩ := y
    obtain ⟨d1, d2, e1, e2, rfl⟩ := zipD_at e
    obtain ⟨u', e3, e4⟩ := dqAll_at h2 e1
    obtain ⟨v', e5, e6⟩ := dqAll_at h4 e2
    rw [k1 xs (SqL.of (t _ _ (s _ _ h1)))] at e3
    rw [k2 ys (Evl.ex_t t (Evl.ex_t s h3))] at e5
    cases e3
    cases e5
    exact pair_new t hT (dq_mono s e4) (dq_mono s e6)
  stop := fun G' H s t => by
    refine ⟨xs, ys, SqL.of (t _ _ (s _ _ h1)), Evl.ex_t t (Evl.ex_t s h3), ?_⟩
    rw [zipD_len, dqAll_len h2, dqAll_len h4]
    omega
def kZip : List D → Option (List D)
  | [.lst xs, .lst ys] => some (zipD xs ys)
  | [.tup xs, .tup ys] => some (zipD xs ys)
  | [.lst xs, .tup ys] => some (zipD xs ys)
  | _ => none
theorem di_zip {p tpos : Pos} {elts : List Expr} {kk : Nat} (hg : Gl X "zip") (hm : X.mg "zip" = none) (ha : PA X [a, b] (ra c W fs)) (hK : X.K = c.K := by rfl)
    (hs : starEach [a, b] X.env = (false, eval a X.env) :: starEach [b] X.env := by rfl) (hpl : (backTo pos (starEach [b] X.env)).any (·.1) = false := by rfl) : PI X (.Tuple elts kk tpos) (.Call (.Name "zip" p) [a, b] [] pos) (ri c W (iRg kZip fs)) := pi_to (Zx.pi_zipX hg hm ha hs hpl) fun σ H R x => by
  obtain ⟨ha, G0, B, G, δ, h, st, p⟩ := x
  refine ⟨ha, G0, B, G, δ, h, st, post_imp (post_bind p) fun ds h1 G1 H1 af p1 vs dv => ?_⟩
  obtain ⟨is, e, k⟩ := post_of p1
  rw [hK]
  unfold kZip at e
  split at e
  · cases e
    obtain ⟨v, w, rfl, dv1, dw⟩ := two_of dv
    cases dv1 with
    | lst k1 k2 =>
      cases dw with
      | lst k3 k4 => exact ⟨_, _, _, _, rfl, .inl ⟨SqL.of (af.gh _ _ k1), SqL.of (af.gh _ _ k3), k _ _ (.refl af.gh af.hd) _ (wd_zipL k1 k2 k3 k4)⟩⟩
  · cases e
    obtain ⟨v, w, rfl, dv1, dw⟩ := two_of dv
    cases dv1 with
    | tup k1 k2 =>
      cases dw with
      | tup k3 k4 => exact ⟨_, _, _, _, rfl, .inr (.inl ⟨Evl.ex_t af.gh k1, Evl.ex_t af.gh k3, k _ _ (.refl af.gh af.hd) _ (wd_zipT k1 k2 k3 k4)⟩)⟩
  · cases e
    obtain ⟨v, w, rfl, dv1, dw⟩ := two_of dv
    cases dv1 with
    | lst k1 k2 =>
      cases dw with
      | tup k3 k4 => exact ⟨_, _, _, _, rfl, .inr (.inr ⟨SqL.of (af.gh _ _ k1), Evl.ex_t af.gh k3, k _ _ (.refl af.gh af.hd) _ (wd_zipX k1 k2 k3 k4)⟩)⟩
  · cases e
def enD : Nat → List D → List D
  | _, [] => []
  | i, d :: ds => .tup [.int (i : Nat), d] :: enD (i + 1) ds
theorem enD_len : ∀ {ds : List D} {i : Nat}, (enD i ds).length = ds.length
  | [], _ => rfl
  | _ :: ds, i => congrArg Nat.succ enD_len
theorem enD_at : ∀ {ds : List D} {i j : Nat} {d : D}, (enD i ds)[j]? = some d → ∃ x, ds[j]? = some x ∧ d = .tup [.int ((i + j : Nat) : Int), x]
  | [], i, j, d, e => by simp [enD] at e
  | x :: ds, i, 0, d, e => by
    unfold enD at e
    exact ⟨x, rfl, (Option.some.inj e).symm⟩
  | x :: ds, i, j + 1, d, e => by
    unfold enD at e
    obtain ⟨y, h1, h2⟩ := enD_at (i := i + 1) (j := j) (by simpa using e)
    exact ⟨y, by simpa using h1, by rw [h2]; congr 4; omega⟩
theorem wd_enL {ha : Option Addr} {G : Hp} {a : Addr} {xs : List V} {ds : List D} (h1 : G a = some (.lst xs)) (h2 : DqAll c ha G xs ds) : WalkD c ha G (Ite c.K a) (enD 0 ds) where
  go := fun i G' H s t hi => by
    rw [enD_len, ← dqAll_len h2] at hi
    exact ⟨xs, xs[i], SqL.of (t _ _ (s _ _ h1)), List.getElem?_eq_getElem hi⟩
  yld := fun i G' H x H' d s t e y => by
    obtain ⟨T, u, rfl, hT, rfl, k1⟩ := y
    obtain ⟨d1, e1, rfl⟩ := enD_at e
    obtain ⟨u', e3, e4⟩ := dqAll_at h2 e1
    rw [k1 xs (SqL.of (t _ _ (s _ _ h1)))] at e3
    cases e3
    rw [Nat.zero_add]
    exact pair_new t hT (.int _) (dq_mono s e4)
  stop := fun G' H s t => ⟨xs, SqL.of (t _ _ (s _ _ h1)), by rw [enD_len, dqAll_len h2]; exact Nat.le_refl _⟩
theorem wd_enT {ha : Option Addr} {G : Hp} {a : Addr} {xs : List V} {ds : List D} (h1 : SqT c.K G a xs) (h2 : DqAll c ha G xs ds) : WalkD c ha G (Gn.IteT c.K a) (enD 0 ds) where
  go := fun i G' H s t hi => by
    rw [enD_len, ← dqAll_len h2] at hi
    exact ⟨xs, xs[i], Evl.ex_t t (Evl.ex_t s h1), List.getElem?_eq_getElem hi⟩
  yld := fun i G' H x H' d s t e y => by
    obtain ⟨T, u, rfl, hT, rfl, k1⟩ := y
    obtain ⟨d1, e1, rfl⟩ := enD_at e
    obtain ⟨u', e3, e4⟩ := dqAll_at h2 e1
    rw [k1 xs (Evl.ex_t t (Evl.ex_t s h1))] at e3
    cases e3
    rw [Nat.zero_add]
    exact pair_new t hT (.int _) (dq_mono s e4)
  stop := fun G' H s t => ⟨xs, Evl.ex_t t (Evl.ex_t s h1), by rw [enD_len, dqAll_len h2]⟩
def kEnum : List D → Option (List D)
  | [.lst xs] => some (enD 0 xs)
  | [.tup xs] => some (enD 0 xs)
  | _ => none
theorem di_enum {p tpos : Pos} {elts : List Expr} {kk : Nat} (hg : Gl X "enumerate") (hm : X.mg "enumerate" = none) (ha : PA X [a] (ra c W fs)) (hK : X.K = c.K := by rfl)
    (hs : starEach [a] X.env = [(false, eval a X.env)] := by rfl) : PI X (.Tuple elts kk tpos) (.Call (.Name "enumerate" p) [a] [] pos) (ri c W (iRg kEnum fs)) := pi_to (Gn.pi_enumA hg hm ha hs) fun σ H R x => by
  obtain ⟨ha, G0, B, G, δ, h, st, p⟩ := x
  refine ⟨ha, G0, B, G, δ, h, st, post_imp (post_bind p) fun ds h1 G1 H1 af p1 vs dv => ?_⟩
  obtain ⟨is, e, k⟩ := post_of p1
  rw [hK]
  unfold kEnum at e
  split at e
  · cases e
    obtain ⟨v, rfl, dv1⟩ := one_of dv
    cases dv1 with
    | lst k1 k2 => exact ⟨_, _, rfl, .inl ⟨SqL.of (af.gh _ _ k1), k _ _ (.refl af.gh af.hd) _ (wd_enL k1 k2)⟩⟩
  · cases e
    obtain ⟨v, rfl, dv1⟩ := one_of dv
    cases dv1 with
    | tup k1 k2 => exact ⟨_, _, rfl, .inr ⟨Evl.ex_t af.gh k1, k _ _ (.refl af.gh af.hd) _ (wd_enT k1 k2)⟩⟩
  · cases e
end
end Fw
namespace Fw
open PySem PySem.Spec PyProof.Rows L2 Dz Vz
/-- nothing gets out -/
def WF : WX := fun _ _ _ _ => False
def Ex.nox {α : Type} : Ex α → Ex α
  | .ok a h => .ok a h
  | _ => .bad
def wipeD (δ : DE) : List Nat → DE
  | [] => δ
  | v :: vs => (wipeD δ vs).set v none
def lcGo (bind : D → DE → Option DE) (test : EF Bool) (elt : EF D) (δ : DE) : List D → D → Ex (List D)
  | [], h => .ok [] h
  | x :: xs, h => match bind x δ with
    | none => .bad
    | some δ2 => (test δ2 h).nox.bind fun b h2 => if b then (elt δ2 h2).nox.bind fun y h3 => (lcGo bind test elt δ xs h3).bind fun ys h4 => .ok (y :: ys) h4 else lcGo bind test elt δ xs h2
def eLcL (vs : List Nat) (it : EF (List D)) (bind : D → DE → Option DE) (test : EF Bool) (elt : EF D) : EF (List D) := fun δ h => (it δ h).bind fun ds h1 => if szOk ds.length then lcGo bind test elt (wipeD δ vs) ds h1 else .bad
def eLc (vs : List Nat) (it : EF (List D)) (bind : D → DE → Option DE) (test : EF Bool) (elt : EF D) : EF D := fun δ h => (eLcL vs it bind test elt δ h).bind fun ys h2 => .ok (.hl ys) h2
def tYesD : EF Bool := fun _ h => .ok true h
section
variable {X : Cx} {W : WX} {c : Cn} {e a b e2 : Expr} {es : List Expr} {pos : Pos} {ta tb te : TE} {f fa fb fc : EF D} {ga gb : EF Bool} {fs : EF (List D)}
theorem wipe_set {i : Nat} {o : Option V} : ∀ {vs : List Nat} {σ : L2.St}, (i ∈ vs → wipe (σ.set i o) vs = wipe σ vs) ∧ (i ∉ vs → wipe (σ.set i o) vs = (wipe σ vs).set i o)
  | [], σ => ⟨fun h => (List.not_mem_nil h).elim, fun _ => rfl⟩
  | v :: vs, σ => by
    obtain ⟨h1, h2⟩ := wipe_set (i := i) (o := o) (vs := vs) (σ := σ)
    constructor
    · intro hm
      show (wipe (σ.set i o) vs).set v none = (wipe σ vs).set v none
      by_cases hi : i ∈ vs
      · rw [h1 hi]
      · rw [h2 hi]
        rcases List.mem_cons.mp hm with e | e
        · subst e
          rw [List.set_set]
        · exact absurd e hi
    · intro hm
      have hv : i ≠ v := fun z => hm (by rw [z]; exact List.mem_cons_self)
      have hi : i ∉ vs := fun z => hm (List.mem_cons_of_mem _ z)
      show (wipe (σ.set i o) vs).set v none = ((wipe σ vs).set v none).set i o
      rw [h2 hi, List.set_comm _ _ hv]
theorem wipe_sub {σ : L2.St} {vs : List Nat} : ∀ {us : List Nat}, (∀ u ∈ us, u ∈ vs) → wipe (wipe σ us) vs = wipe σ vs
  | [], _ => rfl
  | u :: us, h => by
    show wipe ((wipe σ us).set u none) vs = wipe σ vs
    rw [wipe_set.1 (h u List.mem_cons_self)]
    exact wipe_sub fun x hx => h x (List.mem_cons_of_mem _ hx)
theorem wipe_wipe {σ : L2.St} {vs : List Nat} : wipe (wipe σ vs) vs = wipe σ vs := wipe_sub fun _ h => h
theorem Sta.wipe1 {ha : Option Addr} {G0 B G H : Hp} {σ : L2.St} {δ : DE} {h : D} (st : Sta c ha G0 B G H σ δ h) (i : Nat) (o : Option V) : Sta c ha G0 B G H (σ.set i o) (δ.set i none) h := by
  obtain ⟨fp, os, n, k⟩ := st.sl
  obtain ⟨fp', o', sb⟩ := ownS_wipe (i := i) o os
  exact ⟨⟨fp', o', n.sublist sb, fun a ha => k a (sb.subset ha)⟩, st.mv, st.bt, st.hd, st.hb⟩
theorem Sta.wipe {ha : Option Addr} {G0 B G H : Hp} {σ : L2.St} {δ : DE} {h : D} (st : Sta c ha G0 B G H σ δ h) : ∀ vs : List Nat, Sta c ha G0 B G H (L2.wipe σ vs) (wipeD δ vs) h
  | [] => st
  | v :: vs => (st.wipe vs).wipe1 v none
/-- a slot is stored with a thing at rest -/
theorem Sta.setD {ha : Option Addr} {G0 B G H : Hp} {σ : L2.St} {δ : DE} {h : D} {v : V} {d : D} (st : Sta c ha G0 B G H σ δ h) (i : Nat) (dv : Dq c ha G v d) : Sta c ha G0 B G H (σ.set i (some v)) (δ.set i (some d)) h := by
  obtain ⟨fp, os, n, k⟩ := st.sl
  obtain ⟨fp', o', h2⟩ := ownS_set (i := i) (.frz dv) os
  obtain ⟨n2, k2⟩ := h2 [] n
  exact ⟨⟨fp', o', n2, fun a hx => by rcases k2 a hx with z | z; exact nomatch z; exact k a z⟩, st.mv, st.bt, st.hd, st.hb⟩
/-- a target's binding -/
def BindD (c : Cn) (vs : List Nat) (g : TG) (bind : D → DE → Option DE) : Prop := ∀ {ha : Option Addr} {G0 B G H : Hp} {σ : L2.St} {δ δ2 : DE} {h d : D} {v : V} {Q : L2.St → Hp → Prop}, Sta c ha G0 B G H σ δ h → Dq c ha G v d → bind d δ = some δ2 → (∀ σ2, Sta c ha G0 B G H σ2 δ2 h → wipe σ2 vs = wipe σ vs → Q σ2 H) → g v σ H Q
def bNm (i : Nat) : D → DE → Option DE := fun d δ => some (δ.set i (some d))
theorem bd_nm {i : Nat} {vs : List Nat} (hi : i ∈ vs) : BindD c vs (gName i) (bNm i) := by
  intro ha G0 B G H σ δ δ2 h d v Q st dv e fin
  cases e
  exact fin _ (st.setD i dv) (wipe_set.1 hi)
def bAll : List (D → DE → Option DE) → List D → DE → Option DE
  | [], [], δ => some δ
  | b :: bs, d :: ds, δ => match b d δ with
    | some δ2 => bAll bs ds δ2
    | none => none
  | _, _, _ => none
def bTp (bs : List (D → DE → Option DE)) : D → DE → Option DE := fun d δ => match d with
  | .tup ds => bAll bs ds δ
  | _ => none
def BindA (c : Cn) (vs : List Nat) (g : TGs) (bs : List (D → DE → Option DE)) : Prop := ∀ {ha : Option Addr} {G0 B G H : Hp} {σ : L2.St} {δ δ2 : DE} {h : D} {ds : List D} {xs : List V} {Q : L2.St → Hp → Prop}, Sta c ha G0 B G H σ δ h → DqAll c ha G xs ds → bAll bs ds δ = some δ2 → (∀ σ2, Sta c ha G0 B G H σ2 δ2 h → wipe σ2 vs = wipe σ vs → Q σ2 H) → g xs σ H Q
theorem ba_nil {vs : List Nat} : BindA c vs gNil [] := by
  intro ha G0 B G H σ δ δ2 h ds xs Q st dv e fin
  cases dv with
  | nil => cases e; exact ⟨rfl, fin _ st rfl⟩
  | cons _ _ => cases e
theorem ba_cons {vs : List Nat} {g : TG} {gs : TGs} {b : D → DE → Option DE} {bs : List (D → DE → Option DE)} (h1 : BindD c vs g b) (h2 : BindA c vs gs bs) : BindA c vs (gCons g gs) (b :: bs) := by
  intro ha G0 B G H σ δ δ2 h ds xs Q st dv e fin
  cases dv with
  | nil => cases e
  | cons d1 d2 =>
    rename_i v d xs ds
    unfold bAll at e
    cases q : b d δ with
    | none => rw [q] at e; cases e
    | some δ1 =>
      rw [q] at e
      exact ⟨_, _, rfl, h1 st d1 q fun σ1 s1 w1 => h2 s1 d2 e fun σ2 s2 w2 => fin σ2 s2 (w2.trans w1)⟩
theorem bAll_len : ∀ {bs : List (D → DE → Option DE)} {ds : List D} {δ δ2 : DE}, bAll bs ds δ = some δ2 → ds.length = bs.length
  | [], [], _, _, _ => rfl
  | b :: bs, d :: ds, δ, δ2, e => by
    unfold bAll at e
    cases q : b d δ with
    | none => rw [q] at e; cases e
    | some δ1 =>
      rw [q] at e
      rw [List.length_cons, List.length_cons, bAll_len e]
  | [], _ :: _, _, _, e => by cases e
  | _ :: _, [], _, _, e => by cases e
theorem bd_tp {vs : List Nat} {gs : TGs} {bs : List (D → DE → Option DE)} {n : Nat} (hn : bs.length = n) (h2 : BindA c vs gs bs) : BindD c vs (gTup c.K n gs) (bTp bs) := by
  intro ha G0 B G H σ δ δ2 h d v Q st dv e fin
  cases dv with
  | tup h3 h4 => exact ⟨_, _, rfl, Evl.ex_t st.gh h3, by rw [dqAll_len h4, bAll_len e, hn], h2 st h4 e fin⟩
  | _ => cases e
theorem nox_ok {α : Type} {r : Ex α} {a : α} {h : D} (e : r.nox = .ok a h) : r = .ok a h := by
  cases r <;> first | exact e | cases e
theorem bind_ok {α β : Type} {r : Ex α} {k : α → D → Ex β} {b : β} {h : D} (e : r.bind k = .ok b h) : ∃ a h1, r = .ok a h1 ∧ k a h1 = .ok b h := by
  cases r with
  | ok a h1 => exact ⟨a, h1, rfl, e⟩
  | exc _ _ _ => cases e
  | bad => cases e
theorem lcGo_ne {bind : D → DE → Option DE} {test : EF Bool} {elt : EF D} {δ : DE} : ∀ {ds : List D} {h : D} {n : Str} {fs : List (Str × D)} {h2 : D}, lcGo bind test elt δ ds h ≠ .exc n fs h2
  | [], h, n, fs, h2, e => by cases e
  | d :: ds, h, n, fs, h2, e => by
    unfold lcGo at e
    cases q : bind d δ with
    | none => rw [q] at e; cases e
    | some δ2 =>
      simp only [q] at e
      cases q2 : test δ2 h with
      | ok b h3 =>
        rw [q2] at e
        cases b with
        | true =>
          have e' : ((elt δ2 h3).nox.bind fun y h3 => (lcGo bind test elt δ ds h3).bind fun ys h4 => .ok (y :: ys) h4) = .exc n fs h2 := e
          cases q3 : elt δ2 h3 with
          | ok y h4 =>
            rw [q3] at e'
            have e2 : ((lcGo bind test elt δ ds h4).bind fun ys h4 => Ex.ok (y :: ys) h4) = .exc n fs h2 := e'
            cases q4 : lcGo bind test elt δ ds h4 with
            | ok ys h5 => rw [q4] at e2; cases e2
            | exc n2 f2 h5 => exact lcGo_ne q4
            | bad => rw [q4] at e2; cases e2
          | exc _ _ _ => rw [q3] at e'; cases e'
          | bad => rw [q3] at e'; cases e'
        | false =>
          have e' : lcGo bind test elt δ ds h3 = .exc n fs h2 := e
          exact lcGo_ne e'
      | exc _ _ _ => rw [q2] at e; cases e
      | bad => rw [q2] at e; cases e
/-- a step of the walk: what was taken, what is left -/
structure LcI (c : Cn) (ha : Option Addr) (bind : D → DE → Option DE) (test : EF Bool) (elt : EF D) (δw : DE) (items all : List D) (hE : D) (G1 H1 : Hp) (Da : Addr) (i : Nat) (H : Hp) : Prop where
  ex : ∃ G h acc ds ys, Af c ha G1 H1 G H h ∧ H Da = some (.lst acc) ∧ G Da = none ∧ DqAll c ha G acc ds ∧ ds.length ≤ i ∧ lcGo bind test elt δw (items.drop i) h = .ok ys hE ∧ ds ++ ys = all
theorem af_put {ha : Option Addr} {G1 H1 G H : Hp} {h : D} {p : Addr} {o : HO} (af : Af c ha G1 H1 G H h) (hp : H1 p = none) (gp : G p = none) (hk : ∀ a, ha = some a → H1 a ≠ none) (hn : H p ≠ none) : Af c ha G1 H1 G (upd H p o) h := by
  refine ⟨af.mv.trans (Mv.put af.gh gp hn), fun b u n e => ?_, hok_keep af.hd (Same.refl _) fun a e => ?_⟩
  · rw [upd_ne fun z => by rw [z, hp] at e; cases e]
    exact af.bt b u n e
  · have hne := hk a e
    refine ⟨?_, upd_ne fun z => hne (by rw [z]; exact hp)⟩
    subst e
    exact (hok_at af.hd).1
theorem lc_run {ha : Option Addr} {bind : D → DE → Option DE} {g : TG} {vs : List Nat} {J : It} {items all : List D} {hE h1 : D} {G0 B G1 H1 : Hp} {σ : L2.St} {δ : DE} {Da : Addr} {Qd : Hp → Prop} (st : Sta c ha G0 B G1 H1 σ δ h1) (w : WalkD c ha G1 J items) (bd : BindD c vs g bind) (sz : szOk items.length = true)
    (hD : H1 Da = none) (go : lcGo bind ga f (wipeD δ vs) items h1 = .ok all hE)
    (fin : ∀ G H acc, Af c ha G1 H1 G H hE → H Da = some (.lst acc) → G Da = none → DqAll c ha G acc all → Qd H) : LcW J g (rt c WF ga) (rd c WF f) vs σ H1 Da Qd := by
  have hk := st.hne
  refine ⟨fun i m H => m = items.length - i ∧ i ≤ items.length ∧ LcI c ha bind ga f (wipeD δ vs) items all hE G1 H1 Da i H, ⟨_, rfl, Nat.zero_le _, ⟨G1, h1, [], [], all, ?_⟩⟩, ?_⟩
  · have a0 : Af c ha G1 H1 G1 (upd H1 Da (.lst [])) h1 := .of st.gh st.hd (Mv.hid st.gh hD) (same_new hD)
    exact ⟨a0, upd_same, old_none st.gh hD, .nil, Nat.zero_le _, go, rfl⟩
  · rintro i m H ⟨rfl, hi, ⟨G, h, acc, ds, ys, af, hDa, gD, da, hl, go, ea⟩⟩
    by_cases hlt : i < items.length
    · refine .inr ⟨w.go i G H af.gg af.gh hlt, fun H' => i + 1 ≤ items.length ∧ LcI c ha bind ga f (wipeD δ vs) items all hE G1 H1 Da (i + 1) H', fun H' hn => ⟨_, by omega, rfl, hn⟩, fun x H' y => ?_⟩
      have ei : items[i]? = some items[i] := List.getElem?_eq_getElem hlt
      obtain ⟨G2, m2, s2, dx⟩ := w.yld i G H x H' _ af.gg af.gh ei y
      have af2 : Af c ha G H G2 H' h := .of af.gh af.hd m2 s2
      have st2 := ((st.wipe vs).to af).to af2
      have ed : items.drop i = items[i] :: items.drop (i + 1) := (List.drop_eq_getElem_cons hlt)
      rw [ed] at go
      unfold lcGo at go
      cases qb : bind items[i] (wipeD δ vs) with
      | none => rw [qb] at go; cases go
      | some δ2 =>
        simp only [qb] at go
        obtain ⟨b, h2, e1, go2⟩ := bind_ok go
        have e1' := nox_ok e1
        refine bd st2 dx qb fun σ2 st3 we => ⟨we.trans (by rw [wipe_wipe]), ha, G0, B, G2, δ2, h, st3, ?_⟩
        rw [e1']
        intro G3 H3 af3
        have d03 := (af.trans af2).trans af3
        have hD3 : H3 Da = some (.lst acc) := af3.bt _ _ (fun z => hk Da z hD) (s2 _ _ hDa)
        have gD3 : G3 Da = none := (af3.mv.nw Da (some_ne (s2 _ _ hDa))).trans ((m2.nw Da (some_ne hDa)).trans gD)
        cases b with
        | false =>
          have go3 : lcGo bind ga f (wipeD δ vs) (items.drop (i + 1)) h2 = .ok ys hE := go2
          exact ⟨hlt, ⟨G3, h2, acc, ds, ys, d03, hD3, gD3, dqAll_mono (af2.gg.trans af3.gg) da, by omega, go3, ea⟩⟩
        | true =>
          have go3 : ((f δ2 h2).nox.bind fun y h3 => (lcGo bind ga f (wipeD δ vs) (items.drop (i + 1)) h3).bind fun ys h4 => .ok (y :: ys) h4) = Ex.ok ys hE := go2
          obtain ⟨y1, h3, e3, go4⟩ := bind_ok go3
          obtain ⟨ys1, h4, e4, go5⟩ := bind_ok go4
          cases go5
          have e3' := nox_ok e3
          refine ⟨ha, G0, B, G3, δ2, h2, st3.to af3, ?_⟩
          rw [e3']
          intro G4 H4 af4 v dv
          have hD4 : H4 Da = some (.lst acc) := af4.bt _ _ (fun z => hk Da z hD) hD3
          have gD4 : G4 Da = none := (af4.mv.nw Da (some_ne hD3)).trans gD3
          have gg := (af2.gg.trans af3.gg).trans af4.gg
          refine ⟨acc, hD4, ?_, hlt, ⟨G4, h3, acc ++ [v], ds ++ [y1], ys1, af_put (d03.trans af4) hD gD4 hk (some_ne hD4), upd_same, gD4, dqAll_app (dqAll_mono gg da) (.cons dv .nil), ?_, e4, by rw [List.append_assoc]; exact ea⟩⟩
          · rw [dqAll_len da, sizeLine_eq]
            have := of_decide_eq_true sz
            omega
          · rw [List.length_append, List.length_singleton]
            omega
    · have hi2 : i = items.length := by omega
      subst hi2
      rw [List.drop_length] at go
      cases go
      rw [List.append_nil] at ea
      subst ea
      exact .inl ⟨w.stop G H af.gg af.gh, fin G H acc af hDa gD da⟩
theorem post_lcL {ha : Option Addr} {G1 H1 : Hp} {h1 : D} {σ : L2.St} {vs : List Nat} {bind : D → DE → Option DE} {δ : DE} {ds : List D} {β : Type} {k : List D → D → Ex β} {K : β → D → Hp → Hp → Prop} (p : Post c ha W σ G1 H1 ((if szOk ds.length then lcGo bind ga f (wipeD δ vs) ds h1 else .bad).bind k) K) :
    szOk ds.length = true ∧ ∃ ys h2, lcGo bind ga f (wipeD δ vs) ds h1 = .ok ys h2 ∧ Post c ha W σ G1 H1 (k ys h2) K := by
  by_cases hz : szOk ds.length = true
  · rw [if_pos hz] at p
    cases q : lcGo bind ga f (wipeD δ vs) ds h1 with
    | ok ys h2 => rw [q] at p; exact ⟨hz, ys, h2, rfl, p⟩
    | exc n fs h2 => exact absurd q lcGo_ne
    | bad => rw [q] at p; exact p.elim
  · rw [if_neg hz] at p
    exact p.elim
theorem bind_assoc {α β γ : Type} {r : Ex α} {k : α → D → Ex β} {l : β → D → Ex γ} : (r.bind k).bind l = r.bind fun a h => (k a h).bind l := by cases r <;> rfl
theorem rn_lc {vs : List Nat} {bind : D → DE → Option DE} {g : TG} (bd : BindD c vs g bind) (σ : L2.St) (H : Hp) (Q : VK) (x : rn c W (eLc vs fs bind ga f) σ H Q) : tLc (ri c W fs) g (rt c WF ga) (rd c WF f) vs σ H Q := by
  obtain ⟨ha, G0, B, G, δ, h, st, p⟩ := x
  unfold eLc eLcL at p
  rw [bind_assoc] at p
  refine ⟨ha, G0, B, G, δ, h, st, post_imp (post_bind p) fun ds h1 G1 H1 af p1 J w Da hD => ?_⟩
  obtain ⟨hz, ys, h2, go, p2⟩ := post_lcL p1
  refine lc_run (st.to af) w bd hz hD go fun G2 H2 acc af2 hDa gD da => ?_
  exact p2 G2 H2 af2 _ (.inr ⟨Da, acc, ys, rfl, rfl, hDa, gD, af_old af hD, da⟩)
theorem dn_lc {elt tg iter : Expr} {ifs : List Expr} {scope : Scope} {own : List (Str × Nat)} {bind : D → DE → Option DE} {g : TG} (hc : X.calm = true) (hN : X.N.Nodup) (hi : PI X tg iter (ri c W fs)) (ok : BlkOk X.N X.env.scope scope own) (bd : BindD c (own.map (·.2)) g bind)
    (hg : ∀ (s : Shared) (H : Hp) (C : Addr) (cl : List (Str × Addr)) (fp : List Addr), PG (X.blk s H scope (compEnvC scope cl C X.env) fp) tg g) (ht : ∀ (s : Shared) (H : Hp) (C : Addr) (cl : List (Str × Addr)) (fp : List Addr), PTs (X.blk s H scope (compEnvC scope cl C X.env) fp) ifs (rt c WF ga))
    (he : ∀ (s : Shared) (H : Hp) (C : Addr) (cl : List (Str × Addr)) (fp : List Addr), PE (X.blk s H scope (compEnvC scope cl C X.env) fp) elt (rd c WF f)) (hs : ∀ x, foldedSetIterable iter X.env x = pure x := by intro _; rfl) :
    PE X (.ListComp elt [⟨tg, iter, ifs, 0⟩] scope pos) (rn c W (eLc (own.map (·.2)) fs bind ga f)) := pn_to (pe_lc hc hN hi ok hg ht he hs) (rn_lc bd)
theorem pts_no {X : Cx} : PTs X [] (rt c WF tYesD) := ⟨fun pins s σ H Q I x => by
  obtain ⟨ha, G0, B, G, δ, h, st, p⟩ := x
  exact pts_nil.run pins s σ H Q I (post_ok p st.gh st.hd)⟩
theorem pts_if {X : Cx} {e : Expr} (p : PT X e (rt c WF ga)) : PTs X [e] (rt c WF ga) := pts_one p
end
end Fw
namespace Fw
open PySem PySem.Spec PyProof.Rows L2 Dz Vz
inductive Fl where
  | nx (δ : DE) (h : D)
  | ret (d : D) (h : D)
  | brk (δ : DE) (h : D)
  | ct (δ : DE) (h : D)
  | exc (n : Str) (fs : List (Str × D)) (δ : DE) (h : D)
  | bad
abbrev SF := DE → D → Fl
/-- what a def hands back: a thing at rest; or lists that nobody else holds -/
def Res (nw : Bool) (c : Cn) (ha : Option Addr) (B G' H' : Hp) (v : V) (d : D) : Prop := match nw with
  | false => Dq c ha G' v d
  | true => ∃ fp, Own c ha G' H' v d fp ∧ fp.Nodup ∧ ∀ a ∈ fp, B a = none ∧ ha ≠ some a
def PostS (c : Cn) (ha : Option Addr) (W : WX) (nw : Bool) (G0 B G : Hp) (r : Fl) (Dn : Ends) : Prop := match r with
  | .nx δ' h' => ∀ σ' G' H', Sta c ha G0 B G' H' σ' δ' h' → Same G G' → Dn.nx σ' H'
  | .brk δ' h' => ∀ σ' G' H', Sta c ha G0 B G' H' σ' δ' h' → Same G G' → Dn.bk σ' H'
  | .ct δ' h' => ∀ σ' G' H', Sta c ha G0 B G' H' σ' δ' h' → Same G G' → Dn.ct σ' H'
  | .ret d h' => ∀ v G' H', Af c ha G0 B G' H' h' → Res nw c ha B G' H' v d → Dn.rt v H'
  | .exc n fs δ' h' => ∀ σ' C dd G1 H1 h1 G' H', Sta c ha G0 B G1 H1 σ' δ' h1 → Same G G1 → Af c ha G1 H1 G' H' h' → c.mg n = some (.ref C) → XR c ha G' H1 H' C dd fs → W (.ref C) dd σ' H'
  | .bad => False
def rs (c : Cn) (W : WX) (nw : Bool) (f : SF) : TS := fun Dn σ H => ∃ ha G0 B G δ h, Sta c ha G0 B G H σ δ h ∧ PostS c ha W nw G0 B G (f δ h) Dn
/-- an expression's outcome within a statement -/
def Ex.fl {α : Type} (r : Ex α) (δ : DE) (k : α → D → Fl) : Fl := match r with
  | .ok a h => k a h
  | .exc n fs h => .exc n fs δ h
  | .bad => .bad
section
variable {X : Cx} {W : WX} {c : Cn} {nw : Bool} {e a b e2 : Expr} {es : List Expr} {pos : Pos} {ta tb te : TE} {f fa fb fc : EF D} {g ga gb : EF Bool} {fs : EF (List D)} {s : Stmt} {ss : List Stmt} {u v : SF}
section
variable {ha : Option Addr} {G0 B G H G1 H1 G' H' : Hp} {σ : L2.St} {δ : DE} {h h1 h' : D} {Dn : Ends}
theorem Sta.af (st : Sta c ha G0 B G H σ δ h) : Af c ha G0 B G H h := ⟨st.mv, st.bt, st.hd⟩
theorem posts_from {r : Fl} (s : Same G G1) (p : PostS c ha W nw G0 B G r Dn) : PostS c ha W nw G0 B G1 r Dn := by
  cases r with
  | nx δ' h' => exact fun σ' G' H' st t => p σ' G' H' st (s.trans t)
  | brk δ' h' => exact fun σ' G' H' st t => p σ' G' H' st (s.trans t)
  | ct δ' h' => exact fun σ' G' H' st t => p σ' G' H' st (s.trans t)
  | exc n fs δ' h' => exact fun σ' C dd G1 H1 h1 G' H' st t => p σ' C dd G1 H1 h1 G' H' st (s.trans t)
  | _ => exact p
/-- from an expression's outcome -/
theorem post_fl {α : Type} {r : Ex α} {k : α → D → Fl} (st : Sta c ha G0 B G H σ δ h) (p : PostS c ha W nw G0 B G (r.fl δ k) Dn) : Post c ha W σ G H r fun a h1 G1 H1 => PostS c ha W nw G0 B G1 (k a h1) Dn := by
  cases r with
  | ok a h1 => exact fun G1 H1 af => posts_from af.gg p
  | exc n fs h1 => exact fun C dd G1 H1 af m x => p σ C dd G H h G1 H1 st (Same.refl _) af m x
  | bad => exact p
end
theorem ps_to {t : TS} (p : PS X s t) (i : ∀ Dn σ H, rs c W nw u Dn σ H → t Dn σ H) : PS X s (rs c W nw u) := ⟨fun pins s σ H Dn I h => p.run pins s σ H Dn I (i Dn σ H h)⟩
theorem pss_to {t : TS} (p : PSs X ss t) (i : ∀ Dn σ H, rs c W nw u Dn σ H → t Dn σ H) : PSs X ss (rs c W nw u) := ⟨fun pins s σ H Dn I h => p.run pins s σ H Dn I (i Dn σ H h)⟩
def sNil : SF := fun δ h => .nx δ h
def Fl.bind (r : Fl) (k : SF) : Fl := match r with
  | .nx δ h => k δ h
  | r => r
def sSeq (u v : SF) : SF := fun δ h => (u δ h).bind v
theorem ds_nil : PSs X [] (rs c W nw sNil) := pss_to pss_nil fun Dn σ H ⟨ha, G0, B, G, δ, h, st, p⟩ => p σ G H st (Same.refl _)
theorem ds_cons (p : PS X s (rs c W nw u)) (q : PSs X ss (rs c W nw v)) : PSs X (s :: ss) (rs c W nw (sSeq u v)) := pss_to (pss_cons p q) fun Dn σ H x => by
  obtain ⟨ha, G0, B, G, δ, h, st, p⟩ := x
  refine ⟨ha, G0, B, G, δ, h, st, ?_⟩
  unfold sSeq at p
  cases r : u δ h with
  | nx δ' h' =>
    rw [r] at p
    exact fun σ' G' H' st' t => ⟨ha, G0, B, G', δ', h', st', posts_from t p⟩
  | ret d h' => rw [r] at p; exact p
  | brk δ' h' => rw [r] at p; exact p
  | ct δ' h' => rw [r] at p; exact p
  | exc n fs δ' h' => rw [r] at p; exact p
  | bad => rw [r] at p; exact p
theorem ds_one (p : PS X s (rs c W nw u)) : PSs X [s] (rs c W nw u) := pss_one p
def sSet (i : Nat) (f : EF D) : SF := fun δ h => (f δ h).fl δ fun d h1 => .nx (δ.set i (some d)) h1
theorem rs_set {i : Nat} (Dn : Ends) (σ : L2.St) (H : Hp) (x : rs c W nw (sSet i f) Dn σ H) : tAsg (rd c W f) (gName i) Dn σ H := by
  obtain ⟨ha, G0, B, G, δ, h, st, p⟩ := x
  exact ⟨ha, G0, B, G, δ, h, st, post_imp (post_fl st p) fun d h1 G1 H1 af q v dv => q _ G1 H1 ((st.to af).setD i dv) (Same.refl _)⟩
theorem ds_set {i : Nat} {x : Str} {pos' : Pos} (hN : X.N.Nodup) (hi : X.N[i]? = some x) (hx : Loc X.env.scope x) (he : PE X e (rd c W f)) (hs : swapsWith e (some (.Name x pos')) pos.line X.env = pure false := by rfl) (hf : X.fn x = true ∨ X.env.scope.names.lookup x = some .local := by first | exact .inl rfl | exact .inr rfl | assumption) :
    PS X (.Assign [.Name x pos'] e pos) (rs c W nw (sSet i f)) := ps_to (ps_set hN hi hx he hs hf) rs_set
theorem Sta.old {ha : Option Addr} {G0 B G H : Hp} {σ : L2.St} {δ : DE} {h : D} {a : Addr} (st : Sta c ha G0 B G H σ δ h) (e : H a = none) : B a = none := by
  cases z : B a with
  | none => rfl
  | some o => exact absurd e (st.mv.dm a (some_ne z))
theorem Sta.ne_ha {ha : Option Addr} {G0 B G H : Hp} {σ : L2.St} {δ : DE} {h : D} {a : Addr} (st : Sta c ha G0 B G H σ δ h) (e : H a = none) : ha ≠ some a := fun z => st.hne a z e
/-- the slots' lists behind an expression -/
theorem Sta.keep {ha : Option Addr} {B G H G1 H1 : Hp} {σ : L2.St} {δ : DE} {h1 : D} {fp : List Addr} (af : Af c ha G H G1 H1 h1) (o : OwnS c ha G H σ δ fp) (k : ∀ a ∈ fp, B a = none ∧ ha ≠ some a) : OwnS c ha G1 H1 σ δ fp := by
  refine ownS_keep af.gg o fun b hb => ?_
  obtain ⟨g, hne⟩ := ownS_at o b hb
  obtain ⟨u, e⟩ := ne_some hne
  exact ⟨by rw [e]; exact af.bt b u (k b hb).2 e, (af.mv.nw b hne).trans g⟩
/-- a slot takes what an expression made -/
theorem Sta.setO {ha : Option Addr} {G0 B G H G1 H1 : Hp} {σ : L2.St} {δ : DE} {h h1 : D} {v : V} {d : D} {f : List Addr} (st : Sta c ha G0 B G H σ δ h) (af : Af c ha G H G1 H1 h1) (i : Nat) (o : Own c ha G1 H1 v d f) (nf : f.Nodup) (kf : ∀ a ∈ f, H a = none) : Sta c ha G0 B G1 H1 (σ.set i (some v)) (δ.set i (some d)) h1 := by
  obtain ⟨fp, os, n, k⟩ := st.sl
  have os1 := Sta.keep (B := B) af os k
  obtain ⟨fp', o', h2'⟩ := ownS_set (i := i) o os1
  obtain ⟨n2, k2⟩ := h2' [] (by
    show (f ++ fp).Nodup
    refine List.nodup_append.mpr ⟨nf, n, fun a hx b hy => ?_⟩
    rintro rfl
    exact (ownS_at os a hy).2 (kf a hx))
  have st1 := st.to af
  refine ⟨⟨fp', o', n2, fun b hx => ?_⟩, st1.mv, st1.bt, st1.hd, st1.hb⟩
  rcases k2 b hx with z | z
  · exact ⟨st.old (kf b z), st.ne_ha (kf b z)⟩
  · exact k b z
theorem nw_own {ha : Option Addr} {H G1 H1 : Hp} {v : V} {d : D} (n : Nw c ha H G1 H1 v d) : ∃ f, Own c ha G1 H1 v d f ∧ f.Nodup ∧ ∀ a ∈ f, H a = none := by
  rcases n with n | ⟨a, xs, ds, rfl, rfl, k1, k2, k3, k4⟩
  · exact ⟨[], .frz n, by simp, fun a hx => nomatch hx⟩
  · exact ⟨[a], .hl k1 k2 (ownAll_of k4), by simp, fun b hx => by rw [List.mem_singleton.mp hx]; exact k3⟩
theorem Sta.setN {ha : Option Addr} {G0 B G H G1 H1 : Hp} {σ : L2.St} {δ : DE} {h h1 : D} {v : V} {d : D} (st : Sta c ha G0 B G H σ δ h) (af : Af c ha G H G1 H1 h1) (i : Nat) (n : Nw c ha H G1 H1 v d) : Sta c ha G0 B G1 H1 (σ.set i (some v)) (δ.set i (some d)) h1 := by
  obtain ⟨f, o, n1, n2⟩ := nw_own n
  exact st.setO af i o n1 n2
theorem rs_setN {i : Nat} (Dn : Ends) (σ : L2.St) (H : Hp) (x : rs c W nw (sSet i f) Dn σ H) : tAsg (rn c W f) (gName i) Dn σ H := by
  obtain ⟨ha, G0, B, G, δ, h, st, p⟩ := x
  exact ⟨ha, G0, B, G, δ, h, st, post_imp (post_fl st p) fun d h1 G1 H1 af q v n => q _ G1 H1 (st.setN af i n) (Same.refl _)⟩
theorem ds_setN {i : Nat} {x : Str} {pos' : Pos} (hN : X.N.Nodup) (hi : X.N[i]? = some x) (hx : Loc X.env.scope x) (he : PE X e (rn c W f)) (hs : swapsWith e (some (.Name x pos')) pos.line X.env = pure false := by rfl) (hf : X.fn x = true ∨ X.env.scope.names.lookup x = some .local := by first | exact .inl rfl | exact .inr rfl | assumption) :
    PS X (.Assign [.Name x pos'] e pos) (rs c W nw (sSet i f)) := ps_to (ps_set hN hi hx he hs hf) rs_setN
theorem rs_setLcF {i : Nat} {vs : List Nat} {bind : D → DE → Option DE} {g : TG} (bd : BindD c vs g bind) (Dn : Ends) (σ : L2.St) (H : Hp) (x : rs c W nw (sSet i (eFz (eLc vs fs bind ga f))) Dn σ H) : tAsg (tLc (ri c W fs) g (rt c WF ga) (rd c WF f) vs) (gName i) Dn σ H := by
  obtain ⟨ha, G0, B, G, δ, h, st, p⟩ := x
  refine rn_lc bd σ H _ ⟨ha, G0, B, G, δ, h, st, ?_⟩
  have p2 := post_fl st p
  unfold eFz at p2
  cases q : eLc vs fs bind ga f δ h with
  | ok d h1 =>
    rw [q] at p2
    intro G1 H1 af v n
    obtain ⟨G2, af2, dv⟩ := af_fz st.hne af n
    exact p2 G2 H1 af2 _ G2 H1 ((st.to af2).setD i dv) (Same.refl _)
  | exc n fs h1 => rw [q] at p2; exact p2
  | bad => rw [q] at p2; exact p2
section
variable {i : Nat} {y : Str} {py : Pos} {elt tg iter : Expr} {ifs : List Expr} {scope : Scope} {own : List (Str × Nat)} {spos : Pos} {bind : D → DE → Option DE} {g : TG}
theorem ds_setLcF (hc : X.calm = true) (hN : X.N.Nodup) (hy : X.N[i]? = some y) (hyl : X.env.scope.names.lookup y = some .local)
    (hsw : swapsWith (.ListComp elt [⟨tg, iter, ifs, 0⟩] scope pos) (some (.Name y py)) spos.line X.env = pure true) (hi : PI X tg iter (ri c W fs)) (ok : BlkOk X.N X.env.scope scope own) (bd : BindD c (own.map (·.2)) g bind)
    (hg : ∀ (s : Shared) (H : Hp) (C : Addr) (cl : List (Str × Addr)) (fp : List Addr), PG (X.blk s H scope (compEnvC scope cl C X.env) fp) tg g) (ht : ∀ (s : Shared) (H : Hp) (C : Addr) (cl : List (Str × Addr)) (fp : List Addr), PTs (X.blk s H scope (compEnvC scope cl C X.env) fp) ifs (rt c WF ga))
    (he : ∀ (s : Shared) (H : Hp) (C : Addr) (cl : List (Str × Addr)) (fp : List Addr), PE (X.blk s H scope (compEnvC scope cl C X.env) fp) elt (rd c WF f)) (hs : ∀ x, foldedSetIterable iter X.env x = pure x := by intro _; rfl) :
    PS X (.Assign [.Name y py] (.ListComp elt [⟨tg, iter, ifs, 0⟩] scope pos) spos) (rs c W nw (sSet i (eFz (eLc (own.map (·.2)) fs bind ga f)))) := ps_to (ps_setLc hc hN hy hyl hsw hi ok hg ht he hs) (rs_setLcF bd)
end
mutual
def frz : D → D
  | .hl ds => .lst (frzL ds)
  | d => d
def frzL : List D → List D
  | [] => []
  | d :: ds => frz d :: frzL ds
end
def addG (G H : Hp) (fp : List Addr) : Hp := fun b => if b ∈ fp then H b else G b
theorem addG_in {G H : Hp} {fp : List Addr} {b : Addr} (h : b ∈ fp) : addG G H fp b = H b := if_pos h
theorem addG_out {G H : Hp} {fp : List Addr} {b : Addr} (h : b ∉ fp) : addG G H fp b = G b := if_neg h
theorem addG_same {G H : Hp} {fp : List Addr} (s : Same G H) : Same G (addG G H fp) := fun b o e => by
  by_cases h : b ∈ fp
  · rw [addG_in h]; exact s b o e
  · rw [addG_out h]; exact e
theorem addG_gh {G H : Hp} {fp : List Addr} (s : Same G H) : Same (addG G H fp) H := fun b o e => by
  by_cases h : b ∈ fp
  · rw [addG_in h] at e; exact e
  · rw [addG_out h] at e; exact s b o e
theorem frz_id {d : D} (h : d.fr = true) : frz d = d := by
  cases d <;> first | rfl | (unfold frz; rfl) | cases h
theorem own_frz {ha : Option Addr} {G H : Hp} {v : V} {d : D} {fp : List Addr} {all : List Addr} (s : Same G H) (o : Own c ha G H v d fp) : (∀ b ∈ fp, b ∈ all) → Dq c ha (addG G H all) v (frz d) := by
  refine Own.rec (motive_1 := fun v d fp _ => (∀ b ∈ fp, b ∈ all) → Dq c ha (addG G H all) v (frz d)) (motive_2 := fun xs ds fp _ => (∀ b ∈ fp, b ∈ all) → DqAll c ha (addG G H all) xs (frzL ds)) ?_ ?_ ?_ ?_ o
  · intro v d h _
    rw [frz_id (dq_fr h)]
    exact dq_mono (addG_same s) h
  · intro a xs ds fp h1 h2 _ ih k
    unfold frz
    exact .lst ((addG_in (k a List.mem_cons_self)).trans h1) (ih fun b hb => k b (List.mem_cons_of_mem _ hb))
  · intro _
    unfold frzL
    exact .nil
  · intro v d f xs ds fp _ _ i1 i2 k
    unfold frzL
    exact .cons (i1 fun b hb => k b (List.mem_append_left _ hb)) (i2 fun b hb => k b (List.mem_append_right _ hb))
def frzS (i : Nat) (δ : DE) : DE := match δ[i]? with
  | some (some (.hl ds)) => δ.set i (some (.lst (frzL ds)))
  | _ => δ
theorem Sta.frz {ha : Option Addr} {G0 B G H : Hp} {σ : L2.St} {δ : DE} {h : D} (st : Sta c ha G0 B G H σ δ h) (i : Nat) : ∃ G', Sta c ha G0 B G' H σ (frzS i δ) h ∧ Same G G' := by
  unfold frzS
  split
  · rename_i ds e
    obtain ⟨fp, os, n, k⟩ := st.sl
    obtain ⟨v, f1, f, f2, e1, rfl, o, zoom⟩ := ownS_slot os e rfl
    have sG := addG_same (fp := f) st.gh
    have n2 := List.nodup_append.mp n
    have n3 := List.nodup_append.mp n2.2.1
    have hf : ∀ b ∈ f, b ∈ f1 ++ (f ++ f2) := fun b hb => List.mem_append_right _ (List.mem_append_left _ hb)
    refine ⟨addG G H f, ⟨⟨f1 ++ ([] ++ f2), ?_, ?_, fun a hx => k a ?_⟩, ⟨st.mv.gg.trans sG, addG_gh st.gh, fun a hn => ?_, st.mv.dm⟩, st.bt, hok_keep st.hd sG fun a e => ⟨?_, rfl⟩, st.hb⟩, sG⟩
    · have z := zoom (G' := addG G H f) (H' := H) sG (fun b hb => ⟨rfl, ?_⟩) (.frz (by have z := own_frz (all := f) st.gh o fun b hb => hb; unfold Fw.frz at z; exact z))
      · have e2 : σ.set i (some v) = σ := by
          refine List.ext_getElem? fun j => ?_
          by_cases hj : i = j
          · subst hj
            rw [e1, List.getElem?_set_self (List.getElem?_eq_some_iff.mp e1).1]
          · rw [List.getElem?_set_ne hj]
        rw [e2] at z
        exact z
      · have hb2 : b ∈ f1 ++ (f ++ f2) := (List.mem_append.mp hb).elim (List.mem_append_left _) fun z => List.mem_append_right _ (List.mem_append_right _ z)
        rw [addG_out fun z => (List.mem_append.mp hb).elim (fun q => n2.2.2 b q b (List.mem_append_left _ z) rfl) fun q => n3.2.2 b z b q rfl]
        exact (ownS_at os b hb2).1
    · rw [List.nil_append]
      exact List.nodup_append.mpr ⟨n2.1, n3.2.1, fun a h1 b h2 => n2.2.2 a h1 b (List.mem_append_right _ h2)⟩
    · rw [List.nil_append] at hx
      exact (List.mem_append.mp hx).elim (List.mem_append_left _) fun z => List.mem_append_right _ (List.mem_append_right _ z)
    · rw [addG_out fun z => hn (k a (hf a z)).1]
      exact st.mv.nw a hn
    · rw [addG_out fun z => (k a (hf a z)).2 e]
      subst e
      exact (hok_at st.hd).1
  · exact ⟨G, st, Same.refl _⟩
/-- ahead of a statement -/
def sFrz (i : Nat) (u : SF) : SF := fun δ h => u (frzS i δ) h
theorem ds_frz (i : Nat) (p : PS X s (rs c W nw u)) : PS X s (rs c W nw (sFrz i u)) := ps_to p fun Dn σ H x => by
  obtain ⟨ha, G0, B, G, δ, h, st, q⟩ := x
  obtain ⟨G', st', sG⟩ := st.frz i
  exact ⟨ha, G0, B, G', _, h, st', posts_from sG q⟩
def sRet (f : EF D) : SF := fun δ h => (f δ h).fl δ fun d h1 => .ret d h1
theorem ds_ret (he : PE X e (rd c W f)) : PS X (.Return (some e) pos) (rs c W false (sRet f)) := ps_to (ps_ret he) fun Dn σ H x => by
  obtain ⟨ha, G0, B, G, δ, h, st, p⟩ := x
  exact ⟨ha, G0, B, G, δ, h, st, post_imp (post_fl st p) fun d h1 G1 H1 af q v dv => q v G1 H1 (st.to af).af dv⟩
/-- return x, the lists in x with it -/
def sRetV (i : Nat) : SF := fun δ h => match δ[i]? with
  | some (some (.hl ds)) => .ret (.hl ds) h
  | _ => .bad
def sRetN : SF := fun _ h => .ret .non h
def sIf (g : EF Bool) (u v : SF) : SF := fun δ h => (g δ h).fl δ fun b h1 => if b then u δ h1 else v δ h1
theorem ds_if {ss2 : List Stmt} (hg : PT X e (rt c W g)) (p : PSs X ss (rs c W nw u)) (q : PSs X ss2 (rs c W nw v)) : PS X (.If e ss ss2 pos) (rs c W nw (sIf g u v)) := ps_to (ps_if hg p q) fun Dn σ H x => by
  obtain ⟨ha, G0, B, G, δ, h, st, p⟩ := x
  refine ⟨ha, G0, B, G, δ, h, st, post_imp (post_fl st p) fun b h1 G1 H1 af q => ?_⟩
  cases b with
  | true => exact ⟨ha, G0, B, G1, δ, h1, st.to af, q⟩
  | false => exact ⟨ha, G0, B, G1, δ, h1, st.to af, q⟩
def sBrk : SF := fun δ h => .brk δ h
def sCt : SF := fun δ h => .ct δ h
def sDrop (f : EF D) : SF := fun δ h => (f δ h).fl δ fun _ h1 => .nx δ h1
theorem ds_drop (he : PE X e (rd c W f)) (hs : swapsWith e none pos.line X.env = pure false := by rfl) : PS X (.Expr e pos) (rs c W nw (sDrop f)) := ps_to (ps_expr he hs) fun Dn σ H x => by
  obtain ⟨ha, G0, B, G, δ, h, st, p⟩ := x
  exact ⟨ha, G0, B, G, δ, h, st, post_imp (post_fl st p) fun d h1 G1 H1 af q v dv => q σ G1 H1 (st.to af) (Same.refl _)⟩
def sAug (i : Nat) (k : D → D → Option D) (f : EF D) : SF := fun δ h => match δ[i]? with
  | some (some x) => if x.fr then (f δ h).fl δ fun y h1 => match k x y with
    | some z => .nx (δ.set i (some z)) h1
    | none => .bad
    else .bad
  | _ => .bad
def sAsg (bind : D → DE → Option DE) (f : EF D) : SF := fun δ h => (f δ h).fl δ fun d h1 => match bind d δ with
  | some δ2 => .nx δ2 h1
  | none => .bad
theorem ds_asg {tg : Expr} {gg : TG} {vs : List Nat} {bind : D → DE → Option DE} (bd : BindD c vs gg bind) (he : PE X e (rd c W f)) (hg : PG X tg gg) (hs : swapsWithSole [tg] e pos.line X.env = pure false := by rfl) (hw : swappedStores [tg] e X.env = pure none := by rfl)
    (h1 : (assignEach [tg] X.env).map (·.2) = [assign tg X.env] := by rfl) : PS X (.Assign [tg] e pos) (rs c W nw (sAsg bind f)) := ps_to (ps_asg he hg hs hw h1) fun Dn σ H x => by
  obtain ⟨ha, G0, B, G, δ, h, st, p⟩ := x
  refine ⟨ha, G0, B, G, δ, h, st, post_imp (post_fl st p) fun d h1 G1 H1 af q v dv => ?_⟩
  cases z : bind d δ with
  | none => rw [z] at q; exact q.elim
  | some δ2 =>
    rw [z] at q
    exact bd (st.to af) dv z fun σ2 st2 _ => q σ2 G1 H1 st2 (Same.refl _)
def sPar (i j : Nat) (fs : EF (List D)) : SF := fun δ h => (fs δ h).fl δ fun ds h1 => match ds with
  | [x, y] => .nx ((δ.set i (some x)).set j (some y)) h1
  | _ => .bad
def sPar3 (i j l : Nat) (fs : EF (List D)) : SF := fun δ h => (fs δ h).fl δ fun ds h1 => match ds with
  | [x, y, z] => .nx (((δ.set i (some x)).set j (some y)).set l (some z)) h1
  | _ => .bad
def forGo (bind : D → DE → Option DE) (body : SF) : List D → SF
  | [], δ, h => .nx δ h
  | x :: xs, δ, h => match bind x δ with
    | none => .bad
    | some δ2 => match body δ2 h with
      | .nx δ3 h3 => forGo bind body xs δ3 h3
      | .ct δ3 h3 => forGo bind body xs δ3 h3
      | .brk δ3 h3 => .nx δ3 h3
      | r => r
def sFor (it : EF (List D)) (bind : D → DE → Option DE) (body : SF) : SF := fun δ h => (it δ h).fl δ fun ds h1 => forGo bind body ds δ h1
theorem rs_for {vs : List Nat} {bind : D → DE → Option DE} {gg : TG} (bd : BindD c vs gg bind) (Dn : Ends) (σ : L2.St) (H : Hp) (x : rs c W nw (sFor fs bind u) Dn σ H) : tFor (ri c W fs) gg (rs c W nw u) Dn σ H := by
  obtain ⟨ha, G0, B, G, δ, h, st, p⟩ := x
  refine ⟨ha, G0, B, G, δ, h, st, post_imp (post_fl st p) fun ds h1 G1 H1 af q J w => ?_⟩
  refine ⟨fun i m σ H => m = ds.length - i ∧ i ≤ ds.length ∧ ∃ G δ h, Sta c ha G0 B G H σ δ h ∧ Same G1 G ∧ PostS c ha W nw G0 B G (forGo bind u (ds.drop i) δ h) Dn, ⟨_, rfl, Nat.zero_le _, G1, δ, h1, st.to af, Same.refl _, q⟩, ?_⟩
  rintro i m σ H ⟨rfl, hi, G, δ, h, st, s1, q⟩
  by_cases hlt : i < ds.length
  · refine .inr ⟨w.go i G H s1 st.gh hlt, fun σ' H' => i + 1 ≤ ds.length ∧ ∃ G δ h, Sta c ha G0 B G H' σ' δ h ∧ Same G1 G ∧ PostS c ha W nw G0 B G (forGo bind u (ds.drop (i + 1)) δ h) Dn, fun σ' H' hn => ⟨_, by omega, rfl, hn⟩, fun x H' y => ?_⟩
    have ei : ds[i]? = some ds[i] := List.getElem?_eq_getElem hlt
    obtain ⟨G2, m2, s2, dx⟩ := w.yld i G H x H' _ s1 st.gh ei y
    have af2 : Af c ha G H G2 H' h := .of st.gh st.hd m2 s2
    have ed : ds.drop i = ds[i] :: ds.drop (i + 1) := (List.drop_eq_getElem_cons hlt)
    rw [ed] at q
    unfold forGo at q
    cases qb : bind ds[i] δ with
    | none => rw [qb] at q; exact q.elim
    | some δ2 =>
      simp only [qb] at q
      refine bd (st.to af2) dx qb fun σ2 st2 _ => ⟨ha, G0, B, G2, δ2, h, st2, ?_⟩
      cases e : u δ2 h with
      | nx δ3 h3 =>
        rw [e] at q
        exact fun σ3 G3 H3 st3 s3 => ⟨hlt, G3, δ3, h3, st3, (s1.trans m2.gg).trans s3, posts_from (m2.gg.trans s3) q⟩
      | ct δ3 h3 =>
        rw [e] at q
        exact fun σ3 G3 H3 st3 s3 => ⟨hlt, G3, δ3, h3, st3, (s1.trans m2.gg).trans s3, posts_from (m2.gg.trans s3) q⟩
      | brk δ3 h3 =>
        rw [e] at q
        exact fun σ3 G3 H3 st3 s3 => q σ3 G3 H3 st3 (m2.gg.trans s3)
      | ret d h3 => rw [e] at q; exact q
      | exc n f δ3 h3 => rw [e] at q; exact posts_from m2.gg q
      | bad => rw [e] at q; exact q.elim
  · have hi2 : i = ds.length := by omega
    subst hi2
    rw [List.drop_length] at q
    exact .inl ⟨w.stop G H s1 st.gh, q σ G H st (Same.refl _)⟩
theorem ds_for {tg iter : Expr} {vs : List Nat} {bind : D → DE → Option DE} {gg : TG} (hp : PassesOwn (model X.prog X.w) X.A X.env X.xe) (hc : X.calm = true) (bd : BindD c vs gg bind) (hi : PI X tg iter (ri c W fs)) (hg : PG X tg gg) (hb : PSs X ss (rs c W nw u))
    (hs : ∀ x, foldedSetIterable iter X.env x = pure x := by intro _; rfl) : PS X (.For tg iter ss [] pos) (rs c W nw (sFor fs bind u)) := ps_to (ps_for hp hc hi hg hb hs) (rs_for bd)
def whGo (g : EF Bool) (body : SF) : Nat → SF
  | 0, _, _ => .bad
  | n + 1, δ, h => (g δ h).fl δ fun b h1 => if b then match body δ h1 with
      | .nx δ3 h3 => whGo g body n δ3 h3
      | .ct δ3 h3 => whGo g body n δ3 h3
      | .brk δ3 h3 => .nx δ3 h3
      | r => r
    else .nx δ h1
def sWh (n : Nat) (g : EF Bool) (body : SF) : SF := whGo g body n
theorem rs_wh {n : Nat} (Dn : Ends) (σ : L2.St) (H : Hp) (x : rs c W nw (sWh n g u) Dn σ H) : tWhile (rt c W g) (rs c W nw u) Dn σ H := by
  obtain ⟨ha, G0, B, G, δ, h, st, p⟩ := x
  refine ⟨fun m σ H => ∃ G δ h, Sta c ha G0 B G H σ δ h ∧ PostS c ha W nw G0 B G (whGo g u m δ h) Dn, ⟨n, G, δ, h, st, p⟩, ?_⟩
  rintro m σ H ⟨G, δ, h, st, q⟩
  cases m with
  | zero => exact q.elim
  | succ m =>
    unfold whGo at q
    refine ⟨ha, G0, B, G, δ, h, st, post_imp (post_fl st q) fun b h1 G1 H1 af q1 => ?_⟩
    cases b with
    | false => exact q1 σ G1 H1 (st.to af) (Same.refl _)
    | true =>
      refine ⟨fun σ' H' => ∃ G δ h, Sta c ha G0 B G H' σ' δ h ∧ PostS c ha W nw G0 B G (whGo g u m δ h) Dn, fun σ' H' hn => ⟨m, Nat.lt_succ_self _, hn⟩, ha, G0, B, G1, δ, h1, st.to af, ?_⟩
      rw [if_pos rfl] at q1
      cases e : u δ h1 with
      | nx δ3 h3 =>
        rw [e] at q1
        exact fun σ3 G3 H3 st3 s3 => ⟨G3, δ3, h3, st3, posts_from s3 q1⟩
      | ct δ3 h3 =>
        rw [e] at q1
        exact fun σ3 G3 H3 st3 s3 => ⟨G3, δ3, h3, st3, posts_from s3 q1⟩
      | brk δ3 h3 =>
        rw [e] at q1
        exact fun σ3 G3 H3 st3 s3 => q1 σ3 G3 H3 st3 s3
      | ret d h3 => rw [e] at q1; exact q1
      | exc n f δ3 h3 => rw [e] at q1; exact q1
      | bad => rw [e] at q1; exact q1.elim
theorem ds_wh {n : Nat} (hp : PassesOwn (model X.prog X.w) X.A X.env X.xe) (hg : PT X e (rt c W g)) (hb : PSs X ss (rs c W nw u)) : PS X (.While e ss [] pos) (rs c W nw (sWh n g u)) := ps_to (ps_while hp hg hb) rs_wh
end
end Fw
namespace Fw
open PySem PySem.Spec PyProof.Rows L2 Dz Vz
def getP : D → List Nat → Option D
  | d, [] => some d
  | .hl ds, j :: js => match ds[j]? with
    | some d => getP d js
    | none => none
  | _, _ :: _ => none
def setP : D → List Nat → D → D
  | _, [], x => x
  | .hl ds, j :: js, x => match ds[j]? with
    | some d => .hl (ds.set j (setP d js x))
    | none => .hl ds
  | d, _ :: _, _ => d
/-- v stands at the place js below v0 -/
def VAt (ha : Option Addr) (H : Hp) : V → List Nat → V → Prop
  | v0, [], v => v = v0
  | v0, j :: js, v => ∃ a xs x, v0 = .ref a ∧ ha ≠ some a ∧ H a = some (.lst xs) ∧ xs[j]? = some x ∧ VAt ha H x js v
section
variable {c : Cn} {ha : Option Addr} {G H G' H' : Hp}
theorem vat_keep (k : ∀ a o, ha ≠ some a → H a = some o → H' a = some o) : ∀ {js : List Nat} {v0 v : V}, VAt ha H v0 js v → VAt ha H' v0 js v
  | [], _, _, h => h
  | _ :: _, _, _, ⟨a, xs, x, h1, h2, h3, h4, h5⟩ => ⟨a, xs, x, h1, h2, k a _ h2 h3, h4, vat_keep k h5⟩
theorem vat_inj : ∀ {js : List Nat} {v0 v w : V}, VAt ha H v0 js v → VAt ha H v0 js w → v = w
  | [], _, _, _, h, h' => h.trans h'.symm
  | _ :: _, _, _, _, ⟨a, xs, x, h1, h2, h3, h4, h5⟩, ⟨b, ys, y, k1, k2, k3, k4, k5⟩ => by
    subst h1
    cases k1
    rw [h3] at k3
    cases k3
    rw [h4] at k4
    cases k4
    exact vat_inj h5 k5
theorem vat_app : ∀ {js : List Nat} {v0 v : V} {j : Nat} {a : Addr} {xs : List V} {x : V}, VAt ha H v0 js v → v = .ref a → ha ≠ some a → H a = some (.lst xs) → xs[j]? = some x → VAt ha H v0 (js ++ [j]) x
  | [], _, _, j, a, xs, x, h, e, n, h1, h2 => ⟨a, xs, x, by rw [← e]; exact h.symm, n, h1, h2, rfl⟩
  | _ :: _, _, _, j, a, xs, x, ⟨b, ys, y, k1, k2, k3, k4, k5⟩, e, n, h1, h2 => ⟨b, ys, y, k1, k2, k3, k4, vat_app k5 e n h1 h2⟩
theorem own_zoom : ∀ {js : List Nat} {v0 : V} {d d' : D} {fp : List Addr}, Own c ha G H v0 d fp → (∀ b ∈ fp, ha ≠ some b) → getP d js = some d' →
    ∃ v f1 f f2, VAt ha H v0 js v ∧ fp = f1 ++ (f ++ f2) ∧ Own c ha G H v d' f ∧ ∀ {G' H' : Hp} {f' : List Addr} {d'' : D}, Same G G' → (∀ b ∈ f1 ++ f2, H' b = H b ∧ G' b = none) → Own c ha G' H' v d'' f' → Own c ha G' H' v0 (setP d js d'') (f1 ++ (f' ++ f2))
  | [], v0, d, d', fp, o, n, e => by
    unfold getP at e
    cases e
    refine ⟨v0, [], fp, [], rfl, by simp, o, fun {G' H' f' d''} s k o' => ?_⟩
    unfold setP
    rw [List.nil_append, List.append_nil]
    exact o'
  | j :: js, v0, d, d', fp, o, n, e => by
    cases o with
    | frz h => cases h <;> (unfold getP at e; cases e)
    | @hl a xs ds fpa h1 h2 h3 =>
      unfold getP at e
      cases q : ds[j]? with
      | none => rw [q] at e; cases e
      | some dj =>
        rw [q] at e
        obtain ⟨x, g1, g, g2, e1, e2, o2, zoom⟩ := ownAll_item h3 q
        subst e2
        obtain ⟨v, f1, f, f2, k1, k2, k3, zoom2⟩ := own_zoom (js := js) o2 (fun b hb => n b (List.mem_cons_of_mem _ (List.mem_append_right _ (List.mem_append_left _ hb)))) e
        subst k2
        refine ⟨v, a :: (g1 ++ f1), f, f2 ++ g2, ⟨a, xs, x, rfl, n a List.mem_cons_self, h1, e1, k1⟩, by simp [List.append_assoc], k3, fun {G' H' f' d''} s k o' => ?_⟩
        have o3 := zoom2 s (fun b hb => k b ?_) o'
        · have a3 := zoom s (fun b hb => k b ?_) o3
          · unfold setP
            rw [q]
            have ex : xs.set j x = xs := by
              refine List.ext_getElem? fun i => ?_
              by_cases hj : j = i
              · subst hj
                rw [e1, List.getElem?_set_self (List.getElem?_eq_some_iff.mp e1).1]
              · rw [List.getElem?_set_ne hj]
            rw [ex] at a3
            have ka := k a (List.mem_append_left _ List.mem_cons_self)
            have r := Own.hl (ka.1.trans h1) ka.2 a3
            have ef : a :: (g1 ++ ((f1 ++ (f' ++ f2)) ++ g2)) = (a :: (g1 ++ f1)) ++ (f' ++ (f2 ++ g2)) := by simp [List.append_assoc]
            rw [← ef]
            exact r
          · rcases List.mem_append.mp hb with z | z
            · exact List.mem_append_left _ (List.mem_cons_of_mem _ (List.mem_append_left _ z))
            · exact List.mem_append_right _ (List.mem_append_right _ z)
        · rcases List.mem_append.mp hb with z | z
          · exact List.mem_append_left _ (List.mem_cons_of_mem _ (List.mem_append_right _ z))
          · exact List.mem_append_right _ (List.mem_append_left _ z)
end
/-- a place: a slot, a way down -/
abbrev Pl := Nat × List Nat
def plD (δ : DE) (p : Pl) : Option D := match δ[p.1]? with
  | some (some d) => if d.nm then getP d p.2 else none
  | _ => none
def plS (δ : DE) (p : Pl) (x : D) : DE := match δ[p.1]? with
  | some (some d) => δ.set p.1 (some (setP d p.2 x))
  | _ => δ
def PlV (ha : Option Addr) (σ : L2.St) (H : Hp) (p : Pl) (v : V) : Prop := ∃ v0, σ[p.1]? = some (some v0) ∧ VAt ha H v0 p.2 v
section
variable {c : Cn} {ha : Option Addr} {G0 B G H G1 H1 : Hp} {σ : L2.St} {δ : DE} {h h1 : D}
/-- what stands at a place, and the place filled anew -/
theorem Sta.place {p : Pl} {d : D} (st : Sta c ha G0 B G H σ δ h) (e : plD δ p = some d) : ∃ v f1 f f2, PlV ha σ H p v ∧ Own c ha G H v d f ∧ (f1 ++ (f ++ f2)).Nodup ∧ (∀ a ∈ f1 ++ (f ++ f2), B a = none ∧ ha ≠ some a ∧ G a = none ∧ H a ≠ none) ∧
    ∀ {G' H' : Hp} {f' : List Addr} {d' : D}, Same G G' → (∀ b ∈ f1 ++ f2, H' b = H b ∧ G' b = none) → Own c ha G' H' v d' f' → OwnS c ha G' H' σ (plS δ p d') (f1 ++ (f' ++ f2)) := by
  obtain ⟨fp, os, n, k⟩ := st.sl
  unfold plD at e
  split at e
  · rename_i d0 e0
    by_cases nm : d0.nm = true
    case neg => rw [if_neg nm] at e; cases e
    rw [if_pos nm] at e
    obtain ⟨v0, a1, a, a2, e1, rfl, o, zoom⟩ := ownS_slot os e0 nm
    obtain ⟨v, f1, f, f2, k1, rfl, k3, zoom2⟩ := own_zoom o (fun b hb => (k b (List.mem_append_right _ (List.mem_append_left _ hb))).2) e
    have ef : a1 ++ ((f1 ++ (f ++ f2)) ++ a2) = (a1 ++ f1) ++ (f ++ (f2 ++ a2)) := by simp [List.append_assoc]
    refine ⟨v, a1 ++ f1, f, f2 ++ a2, ⟨v0, e1, k1⟩, k3, by rw [← ef]; exact n, fun b hb => ?_, fun {G' H' f' d'} s kk o' => ?_⟩
    · rw [← ef] at hb
      obtain ⟨z1, z2⟩ := k b hb
      obtain ⟨z3, z4⟩ := ownS_at os b hb
      exact ⟨z1, z2, z3, z4⟩
    · have o3 := zoom2 s (fun b hb => kk b ?_) o'
      · have os3 := zoom s (fun b hb => kk b ?_) o3
        · unfold plS
          rw [e0]
          have e2 : σ.set p.1 (some v0) = σ := by
            refine List.ext_getElem? fun j => ?_
            by_cases hj : p.1 = j
            · subst hj
              rw [e1, List.getElem?_set_self (List.getElem?_eq_some_iff.mp e1).1]
            · rw [List.getElem?_set_ne hj]
          rw [e2] at os3
          have eg : (a1 ++ f1) ++ (f' ++ (f2 ++ a2)) = a1 ++ ((f1 ++ (f' ++ f2)) ++ a2) := by simp [List.append_assoc]
          rw [eg]
          exact os3
        · rcases List.mem_append.mp hb with z | z
          · exact List.mem_append_left _ (List.mem_append_left _ z)
          · exact List.mem_append_right _ (List.mem_append_right _ z)
      · rcases List.mem_append.mp hb with z | z
        · exact List.mem_append_left _ (List.mem_append_right _ z)
        · exact List.mem_append_right _ (List.mem_append_left _ z)
  · cases e
theorem PlV.keep {p : Pl} {v : V} (x : PlV ha σ H p v) (af : Af c ha G H G1 H1 h1) : PlV ha σ H1 p v := by
  obtain ⟨v0, e, k⟩ := x
  exact ⟨v0, e, vat_keep (fun a o n e => af.bt a o n e) k⟩
theorem PlV.inj {p : Pl} {v w : V} (x : PlV ha σ H p v) (y : PlV ha σ H p w) : v = w := by
  obtain ⟨v0, e, k⟩ := x
  obtain ⟨w0, e', k'⟩ := y
  rw [e] at e'
  cases e'
  exact vat_inj k k'
/-- the list at a place is changed: new items es with their lists fe; the others stay -/
theorem Sta.change {p : Pl} {v : V} {ds : List D} (st : Sta c ha G0 B G H σ δ h) (e : plD δ p = some (.hl ds)) (pv : PlV ha σ H p v) :
    ∃ a xs f1 fd f2, v = .ref a ∧ H a = some (.lst xs) ∧ OwnAll c ha G H xs ds fd ∧ (f1 ++ ((a :: fd) ++ f2)).Nodup ∧ (∀ b ∈ f1 ++ ((a :: fd) ++ f2), B b = none ∧ ha ≠ some b ∧ G b = none ∧ H b ≠ none) ∧
      ∀ {G1 H1 : Hp} {h1 : D} {ys : List V} {es : List D} {fe : List Addr}, Af c ha G H G1 H1 h1 → OwnAll c ha G1 (upd H1 a (.lst ys)) ys es fe → (f1 ++ ((a :: fe) ++ f2)).Nodup → (∀ b ∈ fe, B b = none ∧ ha ≠ some b) → Sta c ha G0 B G1 (upd H1 a (.lst ys)) σ (plS δ p (.hl es)) h1 := by
  obtain ⟨w, f1, f, f2, k1, o, n, k, zoom⟩ := st.place e
  have ew := pv.inj k1
  subst ew
  cases o with
  | frz hq => cases hq
  | @hl a xs _ fd h1 h2 h3 =>
    refine ⟨a, xs, f1, fd, f2, rfl, h1, h3, n, k, fun {G1 H1 h1' ys es fe} af o2 n2 k2 => ?_⟩
    have ka := k a (List.mem_append_right _ (List.mem_append_left _ List.mem_cons_self))
    have na := List.nodup_append.mp n
    have nb := List.nodup_append.mp na.2.1
    have st1 := st.to af
    obtain ⟨ua, eua⟩ := ne_some ka.2.2.2
    have hna : H1 a ≠ none := some_ne (af.bt a _ ka.2.1 eua)
    have ga : G1 a = none := (af.mv.nw a ka.2.2.2).trans ka.2.2.1
    refine ⟨⟨f1 ++ ((a :: fe) ++ f2), zoom af.gg (fun b hb => ?_) (.hl upd_same ga o2), n2, fun b hb => ?_⟩, st1.mv.trans (Mv.put st1.gh ga hna), fun b o nb2 e2 => ?_, ?_, st1.hb⟩
    · have hb2 : b ∈ f1 ++ ((a :: fd) ++ f2) := (List.mem_append.mp hb).elim (List.mem_append_left _) fun z => List.mem_append_right _ (List.mem_append_right _ z)
      have kb := k b hb2
      have ne : b ≠ a := by
        rintro rfl
        rcases List.mem_append.mp hb with z | z
        · exact na.2.2 b z b (List.mem_append_left _ List.mem_cons_self) rfl
        · exact nb.2.2 b List.mem_cons_self b z rfl
      obtain ⟨u, eu⟩ := ne_some kb.2.2.2
      rw [upd_ne ne]
      exact ⟨by rw [eu]; exact af.bt b u kb.2.1 eu, (af.mv.nw b kb.2.2.2).trans kb.2.2.1⟩
    · rcases List.mem_append.mp hb with z | z
      · have := k b (List.mem_append_left _ z)
        exact ⟨this.1, this.2.1⟩
      · rcases List.mem_append.mp z with z | z
        · rcases List.mem_cons.mp z with z | z
          · rw [z]; exact ⟨ka.1, ka.2.1⟩
          · exact k2 b z
        · have := k b (List.mem_append_right _ (List.mem_append_right _ z))
          exact ⟨this.1, this.2.1⟩
    · rw [upd_ne fun z => by rw [z, ka.1] at e2; cases e2]
      exact st1.bt b o nb2 e2
    · refine hok_keep st1.hd (Same.refl _) fun b eb => ⟨?_, upd_ne fun z => ka.2.1 (by rw [← z]; exact eb)⟩
      subst eb
      exact (hok_at st1.hd).1
end
def rp (c : Cn) (W : WX) (f : EF Pl) : TE := fun σ H Q => ∃ ha G0 B G δ h, Sta c ha G0 B G H σ δ h ∧ Post c ha W σ G H (f δ h) fun p _ _ H' => ∀ v, PlV ha σ H' p v → Q v H'
section
variable {X : Cx} {W : WX} {c : Cn} {nw : Bool} {e a b e2 : Expr} {es : List Expr} {pos : Pos} {te : TE} {f fa fb fc : EF D} {k : EF Pl} {u : SF}
theorem pp_to (p : PE X e te) (i : ∀ σ H Q, rp c W k σ H Q → te σ H Q) : PE X e (rp c W k) := ⟨fun pins s σ H Q I h => p.run pins s σ H Q I (i σ H Q h)⟩
def pV (i : Nat) : EF Pl := fun δ h => match δ[i]? with
  | some (some d) => if d.nm then .ok (i, []) h else .bad
  | _ => .bad
theorem dp_v {i : Nat} {x : Str} (hN : X.N[i]? = some x) (hv : Vis X.env.scope x) (hd : (x == ("__debug__" : Str)) = false := by decide) (hcd : (x == ("__classdict__" : Str)) = false := by decide) : PE X (.Name x pos) (rp c W (pV i)) := pp_to (pe_var hN hv hd hcd) fun σ H Q x => by
  obtain ⟨ha, G0, B, G, δ, h, st, p⟩ := x
  unfold pV at p
  split at p
  · rename_i d e
    by_cases nm : d.nm = true
    case neg => rw [if_neg nm] at p; exact p.elim
    rw [if_pos nm] at p
    obtain ⟨fp, o, n, kk⟩ := st.sl
    obtain ⟨v, f1, f, f2, h1, _, h3, _⟩ := ownS_slot o e nm
    exact ⟨v, h1, post_ok p st.gh st.hd v ⟨v, h1, rfl⟩⟩
  · exact p.elim
/-- the place of an item -/
def pIx (k : EF Pl) (f : EF D) : EF Pl := fun δ h => (k δ h).bind fun p h1 => (f δ h1).bind fun y h2 => Ex.of (match plD δ p, y with
  | some (.hl ds), .int i => (ixN ds.length i).map fun j => (p.1, p.2 ++ [j])
  | _, _ => none) h2
theorem dp_ix (ha : PE X a (rp c W k)) (hb : PE X b (rd c W f)) (hs : PlainIx b := by exact fun _ _ => rfl) : PE X (.Subscript a b pos) (rp c W (pIx k f)) := pp_to (pe_ix ix_list ha hb hs) fun σ H Q x => by
  obtain ⟨ha, G0, B, G, δ, h, st, p⟩ := x
  refine ⟨ha, G0, B, G, δ, h, st, post_imp (post_bind p) fun pl h1 G1 H1 af1 p1 v pv => ?_⟩
  refine ⟨ha, G0, B, G1, δ, h1, st.to af1, post_imp (post_bind p1) fun y h2 G2 H2 af2 p2 w dw => ?_⟩
  obtain ⟨pl2, e, q⟩ := post_of p2
  split at e
  · rename_i ds i e1
    obtain ⟨j, e2, rfl⟩ := map_get e
    cases dw
    have st2 := (st.to af1).to af2
    obtain ⟨v', f1, fo, f2, k1, o, n, kk, _⟩ := st2.place e1
    have ev := (pv.keep af2).inj k1
    subst ev
    obtain ⟨v0, z1, z2⟩ := k1
    cases o with
    | frz hq => cases hq
    | @hl a xs _ fd g1 g2 g3 =>
      obtain ⟨_, hj, _, _⟩ := ixN_seq e2
      have hlen := ownAll_len g3
      obtain ⟨xj, ex⟩ : ∃ xj, xs[j]? = some xj := ⟨xs[j]'(by omega), List.getElem?_eq_getElem (by omega)⟩
      refine ⟨a, xs, i, xj, rfl, rfl, SqL.of g1, ?_, q _ _ (.refl af2.gh af2.hd) _ ⟨v0, z1, vat_app z2 rfl (kk a (List.mem_append_right _ (List.mem_append_left _ List.mem_cons_self))).2.1 g1 ex⟩⟩
      unfold atI
      rw [hlen, e2]
      exact ex
  · cases e
/-- a thing at rest at a place -/
def ePl (k : EF Pl) : EF D := fun δ h => (k δ h).bind fun p h1 => Ex.of (match plD δ p with
  | some d => if d.fr then some d else none
  | none => none) h1
theorem dx_pl (hk : PE X e (rp c W k)) : PE X e (rd c W (ePl k)) := pe_to hk fun σ H Q x => by
  obtain ⟨ha, G0, B, G, δ, h, st, p⟩ := x
  refine ⟨ha, G0, B, G, δ, h, st, post_imp (post_bind p) fun pl h1 G1 H1 af1 p1 v pv => ?_⟩
  obtain ⟨d, e, q⟩ := post_of p1
  split at e
  · rename_i d0 e0
    obtain ⟨hf, rfl⟩ := if_get e
    obtain ⟨v', f1, fo, f2, k1, o, n, kk, _⟩ := (st.to af1).place e0
    have ev := pv.inj k1
    subst ev
    exact q _ _ (.refl af1.gh af1.hd) _ (own_fr o hf).1
  · cases e
/-- len of a held list -/
def eLenP (k : EF Pl) : EF D := fun δ h => (k δ h).bind fun p h1 => Ex.of (match plD δ p with
  | some (.hl ds) => some (.int ds.length)
  | _ => none) h1
theorem dx_lenP {p : Pos} (hg : Gl X "len") (hm : X.mg "len" = none) (hk : PE X a (rp c W k)) (s1 : starEach (a :: []) X.env = (false, eval a X.env) :: starEach [] X.env := by rfl) (hpl : (backTo pos (starEach [] X.env)).any (·.1) = false := by rfl) : PE X (.Call (.Name "len" p) [a] [] pos) (rd c W (eLenP k)) := pe_to (pe_callB call_len_seq hg hm PySem.boot_len (pa_cons hk pa_nil s1) (by decide) (by decide) s1 hpl) fun σ H Q x => by
  obtain ⟨ha, G0, B, G, δ, h, st, p⟩ := x
  refine ⟨ha, G0, B, G, δ, h, st, post_imp (post_bind p) fun pl h1 G1 H1 af1 p1 v pv => ?_⟩
  obtain ⟨d, e, q⟩ := post_of p1
  split at e
  · rename_i ds e0
    cases e
    obtain ⟨v', f1, fo, f2, k1, o, n, kk, _⟩ := (st.to af1).place e0
    have ev := pv.inj k1
    subst ev
    cases o with
    | frz hq => cases hq
    | hl g1 g2 g3 => exact ⟨_, _, rfl, .inl (SqL.of g1), by rw [ownAll_len g3]; exact q _ _ (.refl af1.gh af1.hd) _ (.int _)⟩
  · cases e
def sApp (k : EF Pl) (f : EF D) : SF := fun δ h => (k δ h).fl δ fun p h1 => match plD δ p with
  | some (.hl ds) => (f δ h1).fl δ fun y h2 => if szOk ds.length then .nx (plS δ p (.hl (ds ++ [y]))) h2 else .bad
  | _ => .bad
theorem nodup_mid {α : Type} {f1 f2 g : List α} {a : α} {fd : List α} (n : (f1 ++ ((a :: fd) ++ f2)).Nodup) (ng : g.Nodup) (h : ∀ x ∈ g, x ∉ f1 ++ ((a :: fd) ++ f2)) : (f1 ++ ((a :: (fd ++ g)) ++ f2)).Nodup := by
  have e : (f1 ++ ((a :: (fd ++ g)) ++ f2)).Perm (g ++ (f1 ++ ((a :: fd) ++ f2))) := by
    have e1 : f1 ++ ((a :: (fd ++ g)) ++ f2) = (f1 ++ (a :: fd)) ++ (g ++ f2) := by simp [List.append_assoc]
    have e2 : f1 ++ ((a :: fd) ++ f2) = (f1 ++ (a :: fd)) ++ f2 := by simp [List.append_assoc]
    rw [e1, e2, ← List.append_assoc, ← List.append_assoc g]
    exact (List.perm_append_comm).append_right _
  refine e.nodup_iff.mpr (List.nodup_append.mpr ⟨ng, n, fun x hx y hy => ?_⟩)
  rintro rfl
  exact h x hx hy
/-- lists of items stay behind a deed that does not touch them -/
theorem ownAll_af {ha : Option Addr} {G H G1 H1 : Hp} {h1 : D} {xs : List V} {ds : List D} {fp : List Addr} {a : Addr} {o : HO} (af : Af c ha G H G1 H1 h1) (x : OwnAll c ha G H xs ds fp) (k : ∀ b ∈ fp, ha ≠ some b ∧ G b = none ∧ H b ≠ none ∧ b ≠ a) : OwnAll c ha G1 (upd H1 a o) xs ds fp := by
  refine ownAll_keep af.gg x fun b hb => ?_
  obtain ⟨k1, k2, k3, k4⟩ := k b hb
  obtain ⟨u, e⟩ := ne_some k3
  rw [upd_ne k4]
  exact ⟨by rw [e]; exact af.bt b u k1 e, (af.mv.nw b k3).trans k2⟩
theorem own_upd {ha : Option Addr} {G1 H1 : Hp} {v : V} {d : D} {fp : List Addr} {a : Addr} {o : HO} (x : Own c ha G1 H1 v d fp) (k : a ∉ fp) : Own c ha G1 (upd H1 a o) v d fp := by
  refine own_keep (Same.refl _) x fun b hb => ⟨upd_ne fun z => k (by rw [← z]; exact hb), (own_at x b hb).1⟩
theorem rs_app (Dn : Ends) (σ : L2.St) (H : Hp) (x : rs c W nw (sApp k f) Dn σ H) : tDrop (tBM c.K "list" rAppend (rp c W k) (tCons (rn c W f) tNil)) Dn σ H := by
  obtain ⟨ha, G0, B, G, δ, h, st, p⟩ := x
  refine ⟨ha, G0, B, G, δ, h, st, post_imp (post_fl st p) fun pl h1 G1 H1 af1 p1 v pv => ?_⟩
  have st1 := st.to af1
  split at p1
  · rename_i ds e0
    obtain ⟨a, xs, f1, fd, f2, rfl, hl, oa, n, kk, ch⟩ := st1.change e0 pv
    refine ⟨.inl ⟨rfl, xs, SqL.of hl⟩, ha, G0, B, G1, δ, h1, st1, post_imp (post_fl st1 p1) fun y h2 G2 H2 af2 q w nw => ?_⟩
    by_cases hz : szOk ds.length = true
    · rw [if_pos hz] at q
      obtain ⟨fe, oe, ne, ke⟩ := nw_own nw
      have ka := kk a (List.mem_append_right _ (List.mem_append_left _ List.mem_cons_self))
      have hl2 : H2 a = some (.lst xs) := af2.bt a _ ka.2.1 hl
      have nb := List.nodup_append.mp (List.nodup_append.mp n).2.1
      have na : a ∉ fe := fun z => by rw [ke a z] at hl; cases hl
      refine ⟨a, xs, w, rfl, rfl, hl2, ?_, q σ G2 _ (ch (es := ds ++ [y]) (fe := fd ++ (fe ++ [])) af2 (ownAll_app (ownAll_af af2 oa fun b hb => ?_) (.cons (own_upd oe na) .nil)) ?_ fun b hb => ?_) (Same.refl _)⟩
      · rw [ownAll_len oa, sizeLine_eq]
        have := of_decide_eq_true hz
        omega
      · have kb := kk b (List.mem_append_right _ (List.mem_append_left _ (List.mem_cons_of_mem _ hb)))
        refine ⟨kb.2.1, kb.2.2.1, kb.2.2.2, ?_⟩
        rintro rfl
        exact (List.nodup_cons.mp nb.1).1 hb
      · rw [List.append_nil]
        exact nodup_mid n ne fun x hx hy => (kk x hy).2.2.2 (ke x hx)
      · rw [List.append_nil] at hb
        rcases List.mem_append.mp hb with z | z
        · have := kk b (List.mem_append_right _ (List.mem_append_left _ (List.mem_cons_of_mem _ z)))
          exact ⟨this.1, this.2.1⟩
        · exact ⟨st1.old (ke b z), st1.ne_ha (ke b z)⟩
    · rw [if_neg hz] at q
      exact q.elim
  · exact p1.elim
theorem ds_app {apos pos2 : Pos} (hk : PE X a (rp c W k)) (he : PE X e (rn c W f)) (hK : X.K = c.K := by rfl) (hbase : attributeBase a "append" X.env (eval a X.env) = eval a X.env := by rfl)
    (hfew : ((backTo pos (starEach [e] X.env)).all (fun x => !x.1) && (backToKw pos (keywordEach [] X.env)).all (fun x => x.1.isSome)
      && decide ([e].length + ([] : List Keyword).length + (if ([] : List Keyword).isEmpty then 0 else 1) < 30)) = true := by rfl)
    (hline : (apos.endLine == pos.line) = true := by rfl) (s1 : starEach [e] X.env = (false, eval e X.env) :: starEach [] X.env := by rfl) (hplain : (backTo pos (starEach [] X.env)).any (·.1) = false := by rfl)
    (hs : swapsWith (.Call (.Attribute a "append" apos) [e] [] pos) none pos2.line X.env = pure false := by rfl) : PS X (.Expr (.Call (.Attribute a "append" apos) [e] [] pos) pos2) (rs c W nw (sApp k f)) :=
  ps_to (ps_expr (pe_bm PySem.F.plainAttrs_list PySem.F.slot_list_append PySem.F.type_list_append mt_append hk (pa_cons he pa_nil s1) hbase hfew hline s1 hplain) hs) (by rw [hK]; exact rs_app)
def sSt (k : EF Pl) (fi f : EF D) : SF := fun δ h => (f δ h).fl δ fun y h1 => (k δ h1).fl δ fun p h2 => (fi δ h2).fl δ fun z h3 => match plD δ p, z with
  | some (.hl ds), .int i => match ixN ds.length i with
    | some j => .nx (plS δ p (.hl (ds.set j y))) h3
    | none => .bad
  | _, _ => .bad
theorem nodup_ins {α : Type} {l1 l2 g : List α} (n : (l1 ++ l2).Nodup) (ng : g.Nodup) (h : ∀ x ∈ g, x ∉ l1 ++ l2) : (l1 ++ (g ++ l2)).Nodup := by
  have e : (l1 ++ (g ++ l2)).Perm (g ++ (l1 ++ l2)) := by
    rw [← List.append_assoc, ← List.append_assoc]
    exact (List.perm_append_comm).append_right _
  refine e.nodup_iff.mpr (List.nodup_append.mpr ⟨ng, n, fun x hx y hy => ?_⟩)
  rintro rfl
  exact h x hx hy
theorem rs_st (Dn : Ends) (σ : L2.St) (H : Hp) (x : rs c W nw (sSt k fb f) Dn σ H) : tAsg (rd c W f) (gSub (rp c W k) (rd c W fb) rSetL) Dn σ H := by
  obtain ⟨ha, G0, B, G, δ, h, st, p⟩ := x
  refine ⟨ha, G0, B, G, δ, h, st, post_imp (post_fl st p) fun y h1 G1 H1 af1 p1 w dw => ?_⟩
  have st1 := st.to af1
  refine ⟨ha, G0, B, G1, δ, h1, st1, post_imp (post_fl st1 p1) fun pl h2 G2 H2 af2 p2 v pv => ?_⟩
  have st2 := st1.to af2
  refine ⟨ha, G0, B, G2, δ, h2, st2, post_imp (post_fl st2 p2) fun z h3 G3 H3 af3 p3 iv di => ?_⟩
  have st3 := st2.to af3
  split at p3
  · rename_i ds i e0
    split at p3
    · rename_i j ej
      cases di
      obtain ⟨a, xs, f1, fd, f2, rfl, hl, oa, n, kk, ch⟩ := st3.change e0 (pv.keep af3)
      obtain ⟨_, hj, _, _⟩ := ixN_seq ej
      obtain ⟨dj, edj⟩ : ∃ dj, ds[j]? = some dj := ⟨ds[j], List.getElem?_eq_getElem hj⟩
      obtain ⟨vj, g1, g, g2, e1, rfl, oj, zoom⟩ := ownAll_item oa edj
      have nb := List.nodup_append.mp n
      have nc := List.nodup_append.mp nb.2.1
      have na := (List.nodup_cons.mp nc.1)
      have hm : ∀ b, b ∈ g1 ++ g2 → b ∈ g1 ++ (g ++ g2) := fun b hb => (List.mem_append.mp hb).elim (List.mem_append_left _) fun z => List.mem_append_right _ (List.mem_append_right _ z)
      refine ⟨a, xs, i, j, rfl, rfl, hl, by rw [ownAll_len oa]; exact ej, p3 σ G3 _ (ch (es := ds.set j y) (fe := g1 ++ ([] ++ g2)) (.refl st3.gh st3.hd) (zoom (Same.refl _) (fun b hb => ⟨upd_ne fun z => na.1 (by rw [← z]; exact hm b hb), ?_⟩) (.frz (dq_mono (af2.gg.trans af3.gg) dw))) ?_ fun b hb => ?_) (Same.refl _)⟩
      · exact (ownAll_at oa b (hm b hb)).1
      · have sb : (f1 ++ ((a :: (g1 ++ ([] ++ g2))) ++ f2)).Sublist (f1 ++ ((a :: (g1 ++ (g ++ g2))) ++ f2)) := by
          refine List.Sublist.append (List.Sublist.refl _) (List.Sublist.append ((List.Sublist.append (List.Sublist.refl _) (List.Sublist.append (List.nil_sublist _) (List.Sublist.refl _))).cons_cons a) (List.Sublist.refl _))
        exact n.sublist sb
      · have hb2 : b ∈ g1 ++ (g ++ g2) := hm b (by rw [List.nil_append] at hb; exact hb)
        have := kk b (List.mem_append_right _ (List.mem_append_left _ (List.mem_cons_of_mem _ hb2)))
        exact ⟨this.1, this.2.1⟩
    · exact p3.elim
  · exact p3.elim
theorem ds_st {tpos : Pos} (he : PE X e (rd c W f)) (hk : PE X a (rp c W k)) (hb : PE X b (rd c W fb))
    (hs : swapsWithSole [.Subscript a b tpos] e pos.line X.env = pure false := by rfl) (hw : swappedStores [.Subscript a b tpos] e X.env = pure none := by rfl)
    (h1 : (assignEach [.Subscript a b tpos] X.env).map (·.2) = [assign (.Subscript a b tpos) X.env] := by rfl)
    (ha : ∀ v, assign (.Subscript a b tpos) X.env v = (do
      let ov ← holding [v] (eval a X.env)
      let iv ← holding [v, ov] (eval b X.env)
      standAt tpos
      holding [v, ov, iv] (setItem ov iv v)
      release [v, ov, iv] []) := by intro _; rfl) : PS X (.Assign [.Subscript a b tpos] e pos) (rs c W nw (sSt k fb f)) := ps_to (ps_asg he (pg_sub hk hb set_list ha) hs hw h1) rs_st
def sStM (o : Nat) (fi f : EF D) : SF := fun δ h => (f δ h).fl δ fun y h1 => (eM o δ h1).fl δ fun _ h2 => (fi δ h2).fl δ fun z h3 => match z, h3 with
  | .int i, .hl ds => match ixN ds.length i with
    | some j => .nx δ (.hl (ds.set j y))
    | none => .bad
  | _, _ => .bad
theorem Sta.handed {ha : Option Addr} {G0 B G H : Hp} {σ : L2.St} {δ : DE} {h h' : D} {a : Addr} {o : HO} (st : Sta c ha G0 B G H σ δ h) (e : ha = some a) (k : Hok c ha G (upd H a o) h') : Sta c ha G0 B G (upd H a o) σ δ h' := by
  obtain ⟨fp, os, n, kk⟩ := st.sl
  subst e
  obtain ⟨g, hne⟩ := hok_at st.hd
  refine ⟨⟨fp, ownS_keep (Same.refl _) os fun b hb => ⟨upd_ne fun z => (kk b hb).2 (by rw [z]), (ownS_at os b hb).1⟩, n, kk⟩, st.mv.trans (Mv.put st.gh g hne), fun b u n e => ?_, k, st.hb⟩
  rw [upd_ne fun z => n (by rw [z])]
  exact st.bt b u n e
theorem rs_stM {o : Nat} (Dn : Ends) (σ : L2.St) (H : Hp) (x : rs c W nw (sStM o fb f) Dn σ H) : tAsg (rd c W f) (gSub (rm c W (eM o)) (rd c W fb) rSetL) Dn σ H := by
  obtain ⟨ha, G0, B, G, δ, h, st, p⟩ := x
  refine ⟨ha, G0, B, G, δ, h, st, post_imp (post_fl st p) fun y h1 G1 H1 af1 p1 w dw => ?_⟩
  have st1 := st.to af1
  refine ⟨ha, G0, B, G1, δ, h1, st1, post_imp (post_fl st1 p1) fun _ h2 G2 H2 af2 p2 v e1 => ?_⟩
  have st2 := st1.to af2
  refine ⟨ha, G0, B, G2, δ, h2, st2, post_imp (post_fl st2 p2) fun z h3 G3 H3 af3 p3 iv di => ?_⟩
  have st3 := st2.to af3
  split at p3
  · rename_i i ds
    split at p3
    · rename_i j ej
      cases di
      cases id st3.hd with
      | hand e2 g hl da =>
        rw [e1] at e2
        cases e2
        exact ⟨_, _, i, j, rfl, rfl, hl, by rw [dqAll_len da]; exact ej, p3 σ G3 _ (st3.handed e1 (.hand e1 g upd_same (dqAll_set (dq_mono (af2.gg.trans af3.gg) dw) j da))) (Same.refl _)⟩
    · exact p3.elim
  · exact p3.elim
theorem ds_stM {o : Nat} {tpos : Pos} (he : PE X e (rd c W f)) (hk : PE X a (rm c W (eM o))) (hb : PE X b (rd c W fb))
    (hs : swapsWithSole [.Subscript a b tpos] e pos.line X.env = pure false := by rfl) (hw : swappedStores [.Subscript a b tpos] e X.env = pure none := by rfl)
    (h1 : (assignEach [.Subscript a b tpos] X.env).map (·.2) = [assign (.Subscript a b tpos) X.env] := by rfl)
    (ha : ∀ v, assign (.Subscript a b tpos) X.env v = (do
      let ov ← holding [v] (eval a X.env)
      let iv ← holding [v, ov] (eval b X.env)
      standAt tpos
      holding [v, ov, iv] (setItem ov iv v)
      release [v, ov, iv] []) := by intro _; rfl) : PS X (.Assign [.Subscript a b tpos] e pos) (rs c W nw (sStM o fb f)) := ps_to (ps_asg he (pg_sub hk hb set_list ha) hs hw h1) rs_stM
def putD (f : Str) (v : D) : List (Str × D) → List (Str × D)
  | [] => [(f, v)]
  | (g, x) :: r => if g = f then (g, v) :: r else (g, x) :: putD f v r
theorem dqF_put {ha : Option Addr} {G : Hp} {C : Addr} {f : Str} {v : V} {d : D} (na : NoAttr c.K C f) (dv : Dq c ha G v d) : ∀ {xs : List (Str × V)} {fs : List (Str × D)}, DqF c ha G C xs fs → DqF c ha G C (putF f v xs) (putD f d fs)
  | _, _, .nil => .cons na dv .nil
  | _, _, .cons (n := m) h0 h t => by
    unfold putF putD
    by_cases e : m = f
    · rw [if_pos e, if_pos e]
      exact .cons h0 dv t
    · rw [if_neg e, if_neg e]
      exact .cons h0 h (dqF_put na dv t)
/-- self.f = e, self of the class n -/
def sAt (n : Str) (o : Nat) (m : Str) (f : EF D) : SF := fun δ h => (f δ h).fl δ fun y h1 => (eM o δ h1).fl δ fun _ h2 => match h2 with
  | .ins n' fs => if n' = n then (if szOk fs.length then (if fs.length < 900 then .nx δ (.ins n' (putD m y fs)) else .bad) else .bad) else .bad
  | _ => .bad
theorem ds_at {o : Nat} {n m : Str} {pos' : Pos} (na : ∀ C, c.mg n = some (.ref C) → NoAttr c.K C m) (ha : PE X a (rm c W (eM o))) (he : PE X e (rd c W f)) (hK : X.K = c.K := by rfl) (hs : swapsWith e (some (.Attribute a m pos')) pos.line X.env = pure false := by rfl) :
    PS X (.Assign [.Attribute a m pos'] e pos) (rs c W nw (sAt n o m f)) := ps_to (ps_fld ha he hs) fun Dn σ H x => by
  rw [hK]
  obtain ⟨ha, G0, B, G, δ, h, st, p⟩ := x
  refine ⟨ha, G0, B, G, δ, h, st, post_imp (post_fl st p) fun y h1 G1 H1 af1 p1 w dw => ?_⟩
  have st1 := st.to af1
  refine ⟨ha, G0, B, G1, δ, h1, st1, post_imp (post_fl st1 p1) fun _ h2 G2 H2 af2 p2 v e1 => ?_⟩
  have st2 := st1.to af2
  split at p2
  · rename_i n' fs
    by_cases hn : n' = n
    · rw [if_pos hn] at p2
      subst hn
      by_cases hz : szOk fs.length = true
      · rw [if_pos hz] at p2
        by_cases hl : fs.length < 900
        · rw [if_pos hl] at p2
          cases id st2.hd with
          | self e2 g k1 k2 k3 k4 =>
            rw [e1] at e2
            cases e2
            exact ⟨_, _, _, _, rfl, k3, k2.cl, na _ k1, by rw [dqF_len k4]; omega, p2 σ G2 _ (st2.handed e1 (.self e1 g k1 k2 upd_same (dqF_put (na _ k1) (dq_mono af2.gg dw) k4))) (Same.refl _)⟩
        · rw [if_neg hl] at p2
          exact p2.elim
      · rw [if_neg hz] at p2
        exact p2.elim
    · rw [if_neg hn] at p2
      exact p2.elim
  · exact p2.elim
end
end Fw
namespace Fw
open PySem PySem.Spec PyProof.Rows L2 Dz Vz
/-- what is handed to a def: things at rest, and the handed thing -/
inductive DmAll (c : Cn) (ha : Option Addr) (G : Hp) : List V → List D → Prop
  | nil : DmAll c ha G [] []
  | cons {v : V} {d : D} {xs : List V} {ds : List D} : Dq c ha G v d → DmAll c ha G xs ds → DmAll c ha G (v :: xs) (d :: ds)
  | me {a : Addr} {xs : List V} {ds : List D} : ha = some a → DmAll c ha G xs ds → DmAll c ha G (.ref a :: xs) (.me :: ds)
theorem dm_of {c : Cn} {ha : Option Addr} {G : Hp} : ∀ {xs : List V} {ds : List D}, DqAll c ha G xs ds → DmAll c ha G xs ds
  | _, _, .nil => .nil
  | _, _, .cons h t => .cons h (dm_of t)
theorem dm_len {c : Cn} {ha : Option Addr} {G : Hp} : ∀ {xs : List V} {ds : List D}, DmAll c ha G xs ds → xs.length = ds.length
  | _, _, .nil => rfl
  | _, _, .cons _ t => congrArg Nat.succ (dm_len t)
  | _, _, .me _ t => congrArg Nat.succ (dm_len t)
theorem dm_app {c : Cn} {ha : Option Addr} {G : Hp} {ys : List V} {es : List D} (k : DqAll c ha G ys es) : ∀ {xs : List V} {ds : List D}, DmAll c ha G xs ds → DmAll c ha G (xs ++ ys) (ds ++ es)
  | _, _, .nil => dm_of k
  | _, _, .cons h t => .cons h (dm_app k t)
  | _, _, .me h t => .me h (dm_app k t)
theorem dm_start {c : Cn} {ha : Option Addr} {G H : Hp} (m : Nat) : ∀ {xs : List V} {ds : List D}, DmAll c ha G xs ds → OwnS c ha G H (xs.map some ++ List.replicate m none) (ds.map some ++ List.replicate m none) []
  | _, _, .nil => by
    show OwnS c ha G H (List.replicate m none) (List.replicate m none) []
    induction m with
    | zero => exact .nil
    | succ m ih => exact .non none ih
  | _, _, .cons h t => OwnS.some (f := []) (fp := []) (.frz h) (dm_start m t)
  | _, _, .me h t => .me h (dm_start m t)
abbrev Fn := List D → D → Ex D
def EndF (nw : Bool) (c : Cn) (ha : Option Addr) (G H : Hp) (r : Ex D) (Q : VK) (E : XK) : Prop := match r with
  | .ok d h' => ∀ v G' H', Af c ha G H G' H' h' → Res nw c ha H G' H' v d → Q v H'
  | .exc n fs h' => ∀ C dd G' H', Af c ha G H G' H' h' → c.mg n = some (.ref C) → XR c ha G' H H' C dd fs → E (.ref C) dd H'
  | .bad => False
/-- a def's promise: on n things it does as F -/
def spD (c : Cn) (nw : Bool) (n : Nat) (F : Fn) : Sp := fun vs H Q E => ∃ ha G ds h, ds.length = n ∧ Same G H ∧ Hok c ha G H h ∧ DmAll c ha G vs ds ∧ EndF nw c ha G H (F ds h) Q E
/-- what a body makes of a def -/
def runF (N : Nat) (body : SF) : Fn := fun ds h => match body (ds.map some ++ List.replicate (N - ds.length) none) h with
  | .ret d h' => .ok d h'
  | .nx _ h' => .ok .non h'
  | .exc n fs _ h' => .exc n fs h'
  | _ => .bad
section
variable {P : Program} {w : World} {c : Cn} {base : Heap} {nw : Bool} {x qual : Str} {params : Arguments} {body : List Stmt} {scope : Scope} {dvs : List V} {kws : List (Str × V)} {f : Addr} {fd : FuncData} {N ps : List Str} {k : Nat} {u : SF}
theorem ok_def (F : FunD c.K x qual params body scope dvs kws f fd) (S : FnScope N ps scope)
    (hb : ∀ (cdv : Value) (A : Around) (outer : List Env) (s : Shared) (H : Hp) (E : XK), Room k (A.deeper (envOfC qual scope s.heap.objs.size f cdv)) → PSs (cxOf (L2.CX P w) P w c.K c.mg base N qual scope f cdv A outer s H E) body (rs c (fun cls dd _ H' => E cls dd H') nw u)) (hnw : nw = true → ∀ δ h δ' h', u δ h ≠ .nx δ' h' := by intro z; cases z) :
    FnOk P w c.K c.mg base (L2.CX P w) (k + 1) f fd ps (spD c nw ps.length (runF N.length u)) := by
  refine F.ok S (fun vs H Q E h => ?_) (fun cdv A outer s H vs Q E hr h => ?_)
  · obtain ⟨ha, G, ds, hh, hl, _, _, dv, _⟩ := h
    rw [dm_len dv, hl]
  · obtain ⟨ha, G, ds, hh, hl, s1, ok, dv, fin⟩ := h
    refine ⟨_, hb cdv A outer s H E hr, ha, G, H, G, _, hh, ⟨⟨[], by unfold L2.start; rw [dm_len dv]; exact dm_start (N.length - ds.length) dv, by simp, fun a z => nomatch z⟩, Mv.refl s1, fun _ _ _ e => e, ok, fun a e => ?_⟩, ?_⟩
    · subst e
      exact (hok_at ok).2
    · unfold runF at fin
      cases e : u (ds.map some ++ List.replicate (N.length - ds.length) none) hh with
      | ret d h' => rw [e] at fin; exact fin
      | nx δ' h' =>
        rw [e] at fin
        cases nw with
        | false => exact fun σ' G' H' st _ => fin .non G' H' st.af .non
        | true => exact absurd e (hnw rfl _ _ _ _)
      | exc n fs δ' h' => rw [e] at fin; exact fun σ' C dd G1 H1 h1 G' H' st _ af m xr => fin C dd G' H' (st.af.trans af) m (xr.from fun _ e => st.old e)
      | brk δ' h' => rw [e] at fin; exact fin.elim
      | ct δ' h' => rw [e] at fin; exact fin.elim
      | bad => rw [e] at fin; exact fin.elim
end
section
variable {X : Cx} {W : WX} {c : Cn} {nw : Bool} {e a b o : Expr} {es : List Expr} {pos : Pos} {te : TE} {f fa fb fo : EF D} {fs : EF (List D)}
def rg (c : Cn) (W : WX) (f : EF (List D)) : TA := fun σ H Q => ∃ ha G0 B G δ h, Sta c ha G0 B G H σ δ h ∧ Post c ha W σ G H (f δ h) fun ds _ G' H' => ∀ vs, DmAll c ha G' vs ds → Q vs H'
theorem pg_to {t : TA} (p : PA X es t) (i : ∀ σ H Q, rg c W fs σ H Q → t σ H Q) : PA X es (rg c W fs) := ⟨fun ps pins s σ H Q I h => p.run ps pins s σ H Q I (i σ H Q h)⟩
theorem dg_nil : PA X [] (rg c W eNil) := pg_to pa_nil fun σ H Q x => by
  obtain ⟨ha, G0, B, G, δ, h, st, p⟩ := x
  exact post_ok p st.gh st.hd [] .nil
theorem dg_cons (he : PE X e (rd c W f)) (hs : PA X es (rg c W fs)) (hst : starEach (e :: es) X.env = (false, eval e X.env) :: starEach es X.env := by rfl) : PA X (e :: es) (rg c W (eCons f fs)) := pg_to (pa_cons he hs hst) fun σ H Q x => by
  obtain ⟨ha, G0, B, G, δ, h, st, p⟩ := x
  refine ⟨ha, G0, B, G, δ, h, st, post_imp (post_bind p) fun d h1 G1 H1 af1 p1 v dv => ?_⟩
  refine ⟨ha, G0, B, G1, δ, h1, st.to af1, post_imp (post_bind p1) fun ds h2 G2 H2 af2 p2 vs dvs => ?_⟩
  exact post_ok p2 af2.gh af2.hd _ (.cons (dq_mono af2.gg dv) dvs)
/-- a name, which may hold the handed thing -/
def eVm (i : Nat) : EF D := fun δ h => match δ[i]? with
  | some (some .me) => .ok .me h
  | some (some d) => if d.fr then .ok d h else .bad
  | _ => .bad
theorem dg_v {i : Nat} {x : Str} {p : Pos} (hN : X.N[i]? = some x) (hv : Vis X.env.scope x) (hs : PA X es (rg c W fs)) (hd : (x == ("__debug__" : Str)) = false := by decide) (hcd : (x == ("__classdict__" : Str)) = false := by decide) (hst : starEach (.Name x p :: es) X.env = (false, eval (.Name x p) X.env) :: starEach es X.env := by rfl) : PA X (.Name x p :: es) (rg c W (eCons (eVm i) fs)) := pg_to (pa_cons (pe_var hN hv hd hcd) hs hst) fun σ H Q x => by
  obtain ⟨ha, G0, B, G, δ, h, st, p⟩ := x
  obtain ⟨fp, o, n, k⟩ := st.sl
  unfold eCons eVm at p
  split at p
  · rename_i e
    obtain ⟨a, h1, h2⟩ := ownS_me o e
    refine ⟨_, h1, ha, G0, B, G, δ, h, st, post_imp (post_bind p) fun ds h2' G2 H2 af2 p2 vs dvs => ?_⟩
    exact post_ok p2 af2.gh af2.hd _ (.me h2 dvs)
  · rename_i d nm e
    by_cases hf : d.fr = true
    · rw [if_pos hf] at p
      obtain ⟨v, f1, f, f2, h1, _, h3, _⟩ := ownS_slot o e (fr_nm hf)
      refine ⟨v, h1, ha, G0, B, G, δ, h, st, post_imp (post_bind p) fun ds h2 G2 H2 af2 p2 vs dvs => ?_⟩
      exact post_ok p2 af2.gh af2.hd _ (.cons (dq_mono af2.gg (own_fr h3 hf).1) dvs)
    · rw [if_neg hf] at p
      exact p.elim
  · exact p.elim
theorem run_fnD {CX : CXT} {k : Nat} {f : Addr} {fd : FuncData} {ps : List Str} {sp : Sp} {ds : List Value} {dvs : List V} {E : XK} {pins : List (Addr × Obj)} {σ : L2.St} {H : Hp} {s : Shared} {Q : VK} {us : List Value} {vs : List V} (F : FnOk X.prog X.w X.K X.mg X.base CX k f fd ps sp) (hr : Room k X.A) (hb : L2.Binds X.K fd ps ds) (hd : Vals dvs ds) (hx : PassesAt CX X σ E)
    (I : Inv X pins σ H s) (r : Vals vs us) (h : sp (vs ++ dvs) H Q E) : wpAny (model X.prog X.w) X.A (call (.ref f) us) (EP X pins σ Q) X.xe s := by
  have r2 : Vals (vs ++ dvs) (us ++ ds) := r.append hd
  have hl : (us ++ ds).length = ps.length := by rw [← r2.length]; exact F.len _ _ _ _ h
  refine wpAny_call (codeAny_mono (F.run X.A X.stack s H ⟨us, []⟩ (us ++ ds) (vs ++ dvs) Q E hr I.env0 (hb s us I.kIn hl) r2 h) fun r s' hq => ?_)
  cases r with
  | error e => exact hx pins H s e s' I hq
  | ok fl =>
    cases fl with
    | ret u => exact I.after hq
    | next => exact False.elim hq
    | brk => exact False.elim hq
    | cont => exact False.elim hq
def tCallD (sp : Sp) (dvs : List V) (E : L2.St → XK) (t : TA) : TE := fun σ H Q => t σ H fun vs H1 => sp (vs ++ dvs) H1 Q (E σ)
section
variable {CX : CXT} {k : Nat} {g C : Addr} {fd : FuncData} {ps : List Str} {sp : Sp} {ds : List Value} {dvs : List V} {E : L2.St → XK} {x m : Str} {p apos : Pos} {t : TA}
theorem pe_callD (F : FnOk X.prog X.w X.K X.mg X.base CX k g fd ps sp) (hr : Room k X.A) (hg : Gl X x) (hm : X.mg x = some (.ref g)) (hk : PySem.W.keepIn X.K (.ref g) = true) (hb : L2.Binds X.K fd ps ds) (hd : Vals dvs ds) (hx : ∀ σ, PassesAt CX X σ (E σ))
    (ha : PA X (e :: es) t) (hdb : (x == ("__debug__" : Str)) = false := by decide) (he : starEach (e :: es) X.env = (false, eval e X.env) :: starEach es X.env := by rfl) (hpl : (backTo pos (starEach es X.env)).any (·.1) = false := by rfl) :
    PE X (.Call (.Name x p) (e :: es) [] pos) (tCallD sp dvs E t) := by
  refine ⟨fun pins s σ H Q I h => ?_⟩
  refine wpAny_Call_Name_kw (ld_glob I hg hm ?_ hdb)
  refine PySem.W.callWith_K (h₀ := X.base) I.ok.mod.kin hk (thn (ha.run pos pins s σ H _ I h) fun us s1 ⟨vs, H1, I1, r, q⟩ => ⟨I1.kIn, ?_⟩) he hpl
  exact run_fnD F hr hb hd (hx σ) I1 r q
def tMethD (C : Addr) (m : Str) (sp : Sp) (dvs : List V) (E : L2.St → XK) (ta : TE) (t : TA) : TE := fun σ H Q => ta σ H fun x H1 => ∃ a dx fs, x = .ref a ∧ H1 a = some (.ins C dx fs) ∧ fs.lookup m = none ∧ t σ H1 fun vs H2 => sp (x :: (vs ++ dvs)) H2 Q (E σ)
theorem pe_methD {pl : Sem Bool} {to : TE} (he : PE X o to) (c : Cls X.K C) (hm : Meth X.K C m g) (F : FnOk X.prog X.w X.K X.mg X.base CX k g fd ps sp) (hr : Room k X.A) (hb : L2.Binds X.K fd ps ds) (hd : Vals dvs ds) (hx : ∀ σ, PassesAt CX X σ (E σ)) (ha : PA X (e :: es) t)
    (hst : starEach (e :: es) X.env = (false, eval e X.env) :: starEach es X.env := by rfl) (hpl : (backTo pos (starEach es X.env)).any (·.1) = false := by rfl)
    (ht : eval (.Call (.Attribute o m apos) (e :: es) [] pos) X.env = (do
      let ov ← eval o X.env
      standAt apos.atName
      let (f, first) ← holding [ov] (getMethod ov m pl)
      callWith pos f first (backTo pos (starEach (e :: es) X.env)) (backToKw pos (keywordEach [] X.env))) := by rfl) :
    PE X (.Call (.Attribute o m apos) (e :: es) [] pos) (tMethD C m sp dvs E to t) := by
  refine ⟨fun pins s σ H Q I h => ?_⟩
  refine PySem.W.methodCall_KW (pl := pl) (thn (he.run pins s σ H _ I h) fun u s1 ⟨x, H1, I1, rx, a, dx, fs, ex, ea, l, q⟩ => ?_) ht
  subst ex
  obtain rfl : u = Value.ref a := rx
  refine getmeth_ok I1 ea c hm l ?_
  refine PySem.W.callWith_K (first := [.ref a]) (h₀ := X.base) I.ok.mod.kin hm.kp (thn (ha.run pos pins s1 σ H1 _ I1 q) fun us s2 ⟨vs, H2, I2, r, q2⟩ => ⟨I2.kIn, ?_⟩) hst hpl
  exact run_fnD (us := .ref a :: us) (vs := .ref a :: vs) F hr hb hd (hx σ) I2 (.cons rfl r) q2
theorem pe_methD0 {pl : Sem Bool} {to : TE} (he : PE X o to) (c : Cls X.K C) (hm : Meth X.K C m g) (F : FnOk X.prog X.w X.K X.mg X.base CX k g fd ps sp) (hr : Room k X.A) (hb : L2.Binds X.K fd ps ds) (hd : Vals dvs ds) (hx : ∀ σ, PassesAt CX X σ (E σ))
    (ht : eval (.Call (.Attribute o m apos) [] [] pos) X.env = (do
      let ov ← eval o X.env
      standAt apos.atName
      let (f, first) ← holding [ov] (getMethod ov m pl)
      callWith pos f first (backTo pos (starEach [] X.env)) (backToKw pos (keywordEach [] X.env))) := by rfl) :
    PE X (.Call (.Attribute o m apos) [] [] pos) (tMethD C m sp dvs E to tNil) := by
  refine ⟨fun pins s σ H Q I h => ?_⟩
  refine PySem.W.methodCall_KW (pl := pl) (thn (he.run pins s σ H _ I h) fun u s1 ⟨x, H1, I1, rx, a, dx, fs, ex, ea, l, q⟩ => ?_) ht
  subst ex
  obtain rfl : u = Value.ref a := rx
  refine getmeth_ok I1 ea c hm l ?_
  exact PySem.W.callWith_K0 (first := [.ref a]) I1.kIn hm.kp (run_fnD (us := [.ref a]) (vs := [.ref a]) F hr hb hd (hx σ) I1 (.cons rfl .nil) q)
def tMakeD (C : Addr) (sp : Sp) (dvs : List V) (E : L2.St → XK) (t : TA) : TE := fun σ H Q => t σ H fun vs H1 => ∀ x dx, H1 x = none → H1 dx = none → dx ≠ x →
  sp (.ref x :: (vs ++ dvs)) (upd (upd H1 dx (.own x)) x (.ins C dx [])) (fun v H2 => v = .non ∧ Q (.ref x) H2) (E σ)
theorem run_makeD {pins : List (Addr × Obj)} {σ : L2.St} {H : Hp} {s : Shared} {Q : VK} {us : List Value} {vs : List V} {E : XK} (M : Mk X.K C g) (F : FnOk X.prog X.w X.K X.mg X.base CX k g fd ps sp) (hr : Room (k + 1) X.A) (hb : L2.Binds X.K fd ps ds) (hd : Vals dvs ds)
    (hx : PassesAt CX X σ E) (I : Inv X pins σ H s) (r : Vals vs us)
    (h : ∀ x dx, H x = none → H dx = none → dx ≠ x → sp (.ref x :: (vs ++ dvs)) (upd (upd H dx (.own x)) x (.ins C dx [])) (fun v H2 => v = .non ∧ Q (.ref x) H2) E) :
    wpAny (model X.prog X.w) X.A (call (.ref C) us) (EP X pins σ Q) X.xe s := by
  have hq := h (s.heap.objs.size + 1) s.heap.objs.size (I.hok.fresh (Nat.le_succ _)) (I.hok.fresh (Nat.le_refl _)) (Nat.ne_of_lt (Nat.lt_succ_self _))
  have I2 := Inv.made (C := C) I
  have r2 : Vals (V.ref (s.heap.objs.size + 1) :: (vs ++ dvs)) (Value.ref (s.heap.objs.size + 1) :: (us ++ ds)) := .cons rfl (r.append hd)
  have hl : (Value.ref (s.heap.objs.size + 1) :: us ++ ds).length = ps.length := by
    have e := r2.length
    rw [F.len _ _ _ _ hq] at e
    exact e.symm
  refine wpAny_call (make_map (f := g) I.kIn M.makes M.init (beq_iff_eq.mp M.fn) (codeAny_mono (F.run _ X.stack _ _ ⟨Value.ref (s.heap.objs.size + 1) :: us, []⟩ (Value.ref (s.heap.objs.size + 1) :: (us ++ ds)) _ _ E (hr.make C us [])
    (I2.env0.make C us []) (hb _ (Value.ref (s.heap.objs.size + 1) :: us) I2.kIn hl) r2 hq) fun r s' hq' => ?_))
  cases r with
  | error e => exact hx pins _ _ e s' I2 hq'
  | ok fl =>
    cases fl with
    | ret u =>
      obtain ⟨v, H', I3, rv, ev, q3⟩ := I2.after hq'
      subst ev
      exact ⟨rv, ⟨V.ref (s.heap.objs.size + 1), H', I3, rfl, q3⟩⟩
    | next => exact False.elim hq'
    | brk => exact False.elim hq'
    | cont => exact False.elim hq'
theorem pe_makeD (M : Mk X.K C g) (F : FnOk X.prog X.w X.K X.mg X.base CX k g fd ps sp) (hr : Room (k + 1) X.A) (hg : Gl X x) (hm : X.mg x = some (.ref C)) (hb : L2.Binds X.K fd ps ds) (hd : Vals dvs ds) (hx : ∀ σ, PassesAt CX X σ (E σ))
    (ha : PA X (e :: es) t) (hdb : (x == ("__debug__" : Str)) = false := by decide) (he : starEach (e :: es) X.env = (false, eval e X.env) :: starEach es X.env := by rfl) (hpl : (backTo pos (starEach es X.env)).any (·.1) = false := by rfl) :
    PE X (.Call (.Name x p) (e :: es) [] pos) (tMakeD C sp dvs E t) := by
  refine ⟨fun pins s σ H Q I h => ?_⟩
  refine wpAny_Call_Name_kw (ld_glob I hg hm ?_ hdb)
  refine PySem.W.callWith_K (h₀ := X.base) I.ok.mod.kin M.kp (thn (ha.run pos pins s σ H _ I h) fun us s1 ⟨vs, H1, I1, r, q⟩ => ⟨I1.kIn, ?_⟩) he hpl
  exact run_makeD M F hr hb hd (hx σ) I1 r q
end
/-- what a call's end gives -/
theorem endF_of {ha : Option Addr} {σ : L2.St} {G H : Hp} {r : Ex D} {Q : VK} (p : Post c ha W σ G H r fun d _ G' H' => ∀ v, Dq c ha G' v d → Q v H') : EndF false c ha G H r Q (WE W σ) := by
  cases r with
  | ok d h' => exact fun v G' H' af res => p G' H' af v res
  | exc n fs h' => exact fun C dd G' H' af m x => p C dd G' H' af m x
  | bad => exact p
/-- a call: n things in all -/
def eCall (n : Nat) (F : Fn) (dd : List D) (fs : EF (List D)) : EF D := fun δ h => (fs δ h).bind fun ds h1 => if (ds ++ dd).length = n then F (ds ++ dd) h1 else .bad
theorem Post.arg {α β : Type} {ha : Option Addr} {σ : L2.St} {G H : Hp} {r : Ex α} {g : α → D → Ex β} {k : β → D → Hp → Hp → Prop} (p : Post c ha W σ G H (r.bind g) k) : Post c ha W σ G H r fun a h1 G1 H1 => Same G1 H1 ∧ Hok c ha G1 H1 h1 ∧ Post c ha W σ G1 H1 (g a h1) k := post_imp (post_bind p) fun a h1 G1 H1 af q => ⟨af.gh, af.hd, q⟩
section
variable {k n : Nat} {g C : Addr} {fd : FuncData} {ps : List Str} {F : Fn} {ds : List Value} {dvs : List V} {dd : List D} {x m : Str} {p apos : Pos}
theorem if_post {α : Type} {ha : Option Addr} {σ : L2.St} {G H : Hp} {p : Prop} [Decidable p] {r : Ex α} {K : α → D → Hp → Hp → Prop} (q : Post c ha W σ G H (if p then r else .bad) K) : p ∧ Post c ha W σ G H r K := by
  by_cases hp : p
  · rw [if_pos hp] at q
    exact ⟨hp, q⟩
  · rw [if_neg hp] at q
    exact q.elim
theorem rd_call (hd : ∀ ha G, DqAll c ha G dvs dd) (σ : L2.St) (H : Hp) (Q : VK) (x : rd c W (eCall n F dd fs) σ H Q) : tCallD (spD c false n F) dvs (WE W) (rg c W fs) σ H Q := by
  obtain ⟨ha, G0, B, G, δ, h, st, p⟩ := x
  refine ⟨ha, G0, B, G, δ, h, st, post_imp (Post.arg p) fun ds h1 G1 H1 af ⟨s1, o1, p1⟩ vs dv => ?_⟩
  obtain ⟨hl, p2⟩ := if_post p1
  exact ⟨ha, G1, ds ++ dd, h1, hl, s1, o1, dm_app (hd ha G1) dv, endF_of p2⟩
theorem dx_call (G : FnOk X.prog X.w X.K X.mg X.base (L2.CX X.prog X.w) k g fd ps (spD c false n F)) (hr : Room k X.A) (hg : Gl X x) (hm : X.mg x = some (.ref g)) (hk : PySem.W.keepIn X.K (.ref g) = true) (hb : L2.Binds X.K fd ps ds) (hv : Vals dvs ds) (hd : ∀ ha G, DqAll c ha G dvs dd) (hx : ∀ σ, PassesAt (L2.CX X.prog X.w) X σ (WE W σ))
    (ha : PA X (e :: es) (rg c W fs)) (hdb : (x == ("__debug__" : Str)) = false := by decide) (he : starEach (e :: es) X.env = (false, eval e X.env) :: starEach es X.env := by rfl) (hpl : (backTo pos (starEach es X.env)).any (·.1) = false := by rfl) :
    PE X (.Call (.Name x p) (e :: es) [] pos) (rd c W (eCall n F dd fs)) := pe_to (pe_callD G hr hg hm hk hb hv hx ha hdb he hpl) (rd_call hd)
/-- o.m(..), o of the class nm -/
def eMeth (nm m : Str) (n : Nat) (F : Fn) (dd : List D) (fo : EF D) (fs : EF (List D)) : EF D := fun δ h => (fo δ h).bind fun d h1 => match d with
  | .ins n' xs => if n' = nm ∧ xs.lookup m = none then (fs δ h1).bind fun ds h2 => if (d :: (ds ++ dd)).length = n then F (d :: (ds ++ dd)) h2 else .bad else .bad
  | _ => .bad
theorem rd_meth {nm : Str} (mC : c.mg nm = some (.ref C)) (hd : ∀ ha G, DqAll c ha G dvs dd) (σ : L2.St) (H : Hp) (Q : VK) (x : rd c W (eMeth nm m n F dd fo fs) σ H Q) : tMethD C m (spD c false n F) dvs (WE W) (rd c W fo) (rg c W fs) σ H Q := by
  obtain ⟨ha, G0, B, G, δ, h, st, p⟩ := x
  refine ⟨ha, G0, B, G, δ, h, st, post_imp (post_bind p) fun d h1 G1 H1 af p1 v dv => ?_⟩
  cases dv with
  | ins k1 k2 k3 k4 =>
    obtain ⟨⟨rfl, hno⟩, p2⟩ := if_post p1
    rw [k1] at mC
    cases mC
    refine ⟨_, _, _, rfl, af.gh _ _ k2, dqF_no k4 hno, ha, G0, B, G1, δ, h1, st.to af, post_imp (Post.arg p2) fun ds h2 G2 H2 af2 ⟨s2, o2, p3⟩ vs dvs' => ?_⟩
    obtain ⟨hl, p4⟩ := if_post p3
    exact ⟨ha, G2, _, h2, hl, s2, o2, .cons (.ins k1 (af2.gg _ _ k2) k3 (dqF_mono af2.gg k4)) (dm_app (hd ha G2) dvs'), endF_of p4⟩
  | _ => exact p1.elim
theorem dx_meth {nm : Str} {pl : Sem Bool} (mC : c.mg nm = some (.ref C)) (he : PE X o (rd c W fo)) (cl : Cls X.K C) (hm : Meth X.K C m g) (G : FnOk X.prog X.w X.K X.mg X.base (L2.CX X.prog X.w) k g fd ps (spD c false n F)) (hr : Room k X.A) (hb : L2.Binds X.K fd ps ds) (hv : Vals dvs ds) (hd : ∀ ha G, DqAll c ha G dvs dd) (hx : ∀ σ, PassesAt (L2.CX X.prog X.w) X σ (WE W σ)) (ha : PA X (e :: es) (rg c W fs))
    (hst : starEach (e :: es) X.env = (false, eval e X.env) :: starEach es X.env := by rfl) (hpl : (backTo pos (starEach es X.env)).any (·.1) = false := by rfl)
    (ht : eval (.Call (.Attribute o m apos) (e :: es) [] pos) X.env = (do
      let ov ← eval o X.env
      standAt apos.atName
      let (f, first) ← holding [ov] (getMethod ov m pl)
      callWith pos f first (backTo pos (starEach (e :: es) X.env)) (backToKw pos (keywordEach [] X.env))) := by rfl) :
    PE X (.Call (.Attribute o m apos) (e :: es) [] pos) (rd c W (eMeth nm m n F dd fo fs)) := pe_to (pe_methD he cl hm G hr hb hv hx ha hst hpl ht) (rd_meth mC hd)
theorem dx_meth0 {nm : Str} {pl : Sem Bool} (mC : c.mg nm = some (.ref C)) (he : PE X o (rd c W fo)) (cl : Cls X.K C) (hm : Meth X.K C m g) (G : FnOk X.prog X.w X.K X.mg X.base (L2.CX X.prog X.w) k g fd ps (spD c false n F)) (hr : Room k X.A) (hb : L2.Binds X.K fd ps ds) (hv : Vals dvs ds) (hd : ∀ ha G, DqAll c ha G dvs dd) (hx : ∀ σ, PassesAt (L2.CX X.prog X.w) X σ (WE W σ))
    (ht : eval (.Call (.Attribute o m apos) [] [] pos) X.env = (do
      let ov ← eval o X.env
      standAt apos.atName
      let (f, first) ← holding [ov] (getMethod ov m pl)
      callWith pos f first (backTo pos (starEach [] X.env)) (backToKw pos (keywordEach [] X.env))) := by rfl) :
    PE X (.Call (.Attribute o m apos) [] [] pos) (rd c W (eMeth nm m n F dd fo eNil)) := pe_to (pe_methD0 he cl hm G hr hb hv hx ht) fun σ H Q x => by
  obtain ⟨ha, G0, B, G1, δ, h, st, p⟩ := rd_meth (dvs := dvs) mC hd σ H Q x
  refine ⟨ha, G0, B, G1, δ, h, st, post_imp p fun d h1 G2 H2 af q v dv => ?_⟩
  obtain ⟨a, dx, fs, e1, e2, e3, ha', G0', B', G', δ', h', st', p'⟩ := q v dv
  exact ⟨a, dx, fs, e1, e2, e3, post_ok p' st'.gh st'.hd [] .nil⟩
/-- C(..), C the class nm -/
def eMake (nm : Str) (n : Nat) (F : Fn) (dd : List D) (fs : EF (List D)) : EF D := fun δ h => (fs δ h).bind fun ds h1 => if (D.me :: (ds ++ dd)).length = n then
  match F (.me :: (ds ++ dd)) (.ins nm []) with
  | .ok .non (.ins n' xs) => if n' = nm then .ok (.ins n' xs) h1 else .bad
  | .exc n' xs _ => .exc n' xs h1
  | _ => .bad
  else .bad
theorem dqAll_ha {ha hb : Option Addr} {G : Hp} : ∀ {xs : List V} {ds : List D}, DqAll c ha G xs ds → DqAll c hb G xs ds
  | _, _, .nil => .nil
  | _, _, .cons h t => .cons (dq_ha h) (dqAll_ha t)
theorem XR.ha {ha hb : Option Addr} {G H0 H : Hp} {C : Addr} {dd : Option Addr} {fs : List (Str × D)} (x : XR c ha G H0 H C dd fs) : XR c hb G H0 H C dd fs := by
  rcases x with x | ⟨d, xs, h1, h2, h3, h4, h5⟩
  · exact .inl x
  · exact .inr ⟨d, xs, h1, h2, h3, h4, dqF_ha h5⟩
theorem rd_make {nm : Str} (mC : c.mg nm = some (.ref C)) (co : COk c.K C) (hd : ∀ ha G, DqAll c ha G dvs dd) (σ : L2.St) (H : Hp) (Q : VK) (x : rd c W (eMake nm n F dd fs) σ H Q) : tMakeD C (spD c false n F) dvs (WE W) (ra c W fs) σ H Q := by
  obtain ⟨ha, G0, B, G, δ, h, st, p⟩ := x
  refine ⟨ha, G0, B, G, δ, h, st, post_imp (post_bind p) fun ds h1 G1 H1 af p1 vs dv => fun x dx hx hdx hne => ?_⟩
  obtain ⟨hl, p2⟩ := if_post p1
  have gx : G1 x = none := old_none af.gh hx
  have gdx : G1 dx = none := old_none af.gh hdx
  have hk : ∀ a, ha = some a → H1 a ≠ none := fun a e => by
    subst e
    exact (hok_at af.hd).2
  -- the heap in which the new thing stands bare
  have hx2 : (upd H1 dx (.own x)) x = none := by rw [upd_ne hne.symm]; exact hx
  have m0 : Mv G1 H1 G1 (upd (upd H1 dx (.own x)) x (.ins C dx [])) := (Mv.hid af.gh hdx).trans (Mv.hid ((Mv.hid (o := .own x) af.gh hdx).gh) hx2)
  have s0 : Same H1 (upd (upd H1 dx (.own x)) x (.ins C dx [])) := (same_new hdx).trans (same_new hx2)
  refine ⟨some x, G1, .me :: (ds ++ dd), .ins nm [], hl, m0.gh, .self rfl gx mC co upd_same .nil, .me rfl (dm_of (dqAll_app (dqAll_ha dv) (hd _ G1))), ?_⟩
  have back : ∀ {G2 H2 : Hp} {h2 : D}, Af c (some x) G1 (upd (upd H1 dx (.own x)) x (.ins C dx [])) G2 H2 h2 → Same H1 H2 := fun {G2 H2 h2} a b o e => a.bt b o (fun z => by cases z; rw [hx] at e; cases e) (s0 b o e)
  have view : ∀ {G2 H2 : Hp} {h2 : D}, Af c (some x) G1 (upd (upd H1 dx (.own x)) x (.ins C dx [])) G2 H2 h2 → Af c ha G1 H1 G2 H2 h1 := fun {G2 H2 h2} a => .of af.gh af.hd (m0.trans a.mv) (back a)
  generalize eF : F (.me :: (ds ++ dd)) (.ins nm []) = r at p2
  cases r with
  | bad => exact p2.elim
  | exc n' xs h2 => exact fun C' dd' G2 H2 a m xr => p2 C' dd' G2 H2 (view a) m (xr.ha.from fun d e => by
    cases z : H1 d with
    | none => rfl
    | some o => rw [s0 d o z] at e; cases e)
  | ok d h2 =>
    cases d <;> first | (exact p2.elim) | skip
    cases h2 <;> first | (exact p2.elim) | skip
    rename_i n' xs
    obtain ⟨rfl, p3⟩ := if_post p2
    intro v G2 H2 a res
    cases (show Dq c (some x) G2 v .non from res)
    refine ⟨rfl, ?_⟩
    have af2 := view a
    cases a.hd with
    | @self a0 C0 dx0 n0 xs0 fs0 e1 g2 k1 k2 k3 k4 =>
      cases e1
      have sh : Same G2 (upd G2 x (.ins C0 dx0 xs0)) := same_new g2
      refine p3 (upd G2 x (.ins C0 dx0 xs0)) H2 ⟨Mv.shut af2.mv hx g2 k3, af2.bt, hok_keep af2.hd sh fun b eb => ⟨?_, rfl⟩⟩ _ (.ins k1 upd_same k2 (dqF_mono sh (dqF_ha k4)))
      rw [upd_ne fun z => hk b eb (by rw [z]; exact hx)]
      subst eb
      exact (hok_at af2.hd).1
theorem dx_make {nm : Str} (mC : c.mg nm = some (.ref C)) (co : COk c.K C) (M : Mk X.K C g) (G : FnOk X.prog X.w X.K X.mg X.base (L2.CX X.prog X.w) k g fd ps (spD c false n F)) (hr : Room (k + 1) X.A) (hg : Gl X nm) (hm : X.mg nm = some (.ref C)) (hb : L2.Binds X.K fd ps ds) (hv : Vals dvs ds) (hd : ∀ ha G, DqAll c ha G dvs dd) (hx : ∀ σ, PassesAt (L2.CX X.prog X.w) X σ (WE W σ))
    (ha : PA X (e :: es) (ra c W fs)) (hdb : (nm == ("__debug__" : Str)) = false := by decide) (he : starEach (e :: es) X.env = (false, eval e X.env) :: starEach es X.env := by rfl) (hpl : (backTo pos (starEach es X.env)).any (·.1) = false := by rfl) :
    PE X (.Call (.Name nm p) (e :: es) [] pos) (rd c W (eMake nm n F dd fs)) := pe_to (pe_makeD M G hr hg hm hb hv hx ha hdb he hpl) (rd_make mC co hd)
end
def No (c : Cn) (ha : Option Addr) (H G' H' : Hp) (v : V) (d : D) : Prop := ∃ fp, Own c ha G' H' v d fp ∧ fp.Nodup ∧ ∀ a ∈ fp, H a = none
def rw' (c : Cn) (W : WX) (f : EF D) : TE := fun σ H Q => ∃ ha G0 B G δ h, Sta c ha G0 B G H σ δ h ∧ Post c ha W σ G H (f δ h) fun d _ G' H' => ∀ v, No c ha H G' H' v d → Q v H'
theorem pw_to' (p : PE X e te) (i : ∀ σ H Q, rw' c W f σ H Q → te σ H Q) : PE X e (rw' c W f) := ⟨fun pins s σ H Q I h => p.run pins s σ H Q I (i σ H Q h)⟩
theorem no_from {ha : Option Addr} {G H G1 H1 G2 H2 : Hp} {h1 : D} {v : V} {d : D} (af : Af c ha G H G1 H1 h1) (n : No c ha H1 G2 H2 v d) : No c ha H G2 H2 v d := by
  obtain ⟨fp, o, n, k⟩ := n
  exact ⟨fp, o, n, fun a hx => af_old af (k a hx)⟩
theorem endW_of {ha : Option Addr} {σ : L2.St} {G H : Hp} {r : Ex D} {Q : VK} (p : Post c ha W σ G H r fun d _ G' H' => ∀ v, No c ha H G' H' v d → Q v H') : EndF true c ha G H r Q (WE W σ) := by
  cases r with
  | ok d h' => exact fun v G' H' af ⟨fp, o, n, k⟩ => p G' H' af v ⟨fp, o, n, fun a hx => (k a hx).1⟩
  | exc n fs h' => exact fun C dd G' H' af m x => p C dd G' H' af m x
  | bad => exact p
section
variable {k n : Nat} {g C : Addr} {fd : FuncData} {ps : List Str} {F : Fn} {ds : List Value} {dvs : List V} {dd : List D} {x m : Str} {p apos : Pos}
theorem rw_call (hd : ∀ ha G, DqAll c ha G dvs dd) (σ : L2.St) (H : Hp) (Q : VK) (x : rw' c W (eCall n F dd fs) σ H Q) : tCallD (spD c true n F) dvs (WE W) (rg c W fs) σ H Q := by
  obtain ⟨ha, G0, B, G, δ, h, st, p⟩ := x
  refine ⟨ha, G0, B, G, δ, h, st, post_imp (post_bind p) fun ds h1 G1 H1 af p1 vs dv => ?_⟩
  obtain ⟨hl, p2⟩ := if_post p1
  exact ⟨ha, G1, ds ++ dd, h1, hl, af.gh, af.hd, dm_app (hd ha G1) dv, endW_of (post_imp p2 fun d h2 G2 H2 af2 q v n => q v (no_from af n))⟩
theorem dw_call (G : FnOk X.prog X.w X.K X.mg X.base (L2.CX X.prog X.w) k g fd ps (spD c true n F)) (hr : Room k X.A) (hg : Gl X x) (hm : X.mg x = some (.ref g)) (hk : PySem.W.keepIn X.K (.ref g) = true) (hb : L2.Binds X.K fd ps ds) (hv : Vals dvs ds) (hd : ∀ ha G, DqAll c ha G dvs dd) (hx : ∀ σ, PassesAt (L2.CX X.prog X.w) X σ (WE W σ))
    (ha : PA X (e :: es) (rg c W fs)) (hdb : (x == ("__debug__" : Str)) = false := by decide) (he : starEach (e :: es) X.env = (false, eval e X.env) :: starEach es X.env := by rfl) (hpl : (backTo pos (starEach es X.env)).any (·.1) = false := by rfl) :
    PE X (.Call (.Name x p) (e :: es) [] pos) (rw' c W (eCall n F dd fs)) := pw_to' (pe_callD G hr hg hm hk hb hv hx ha hdb he hpl) (rw_call hd)
end
/-- all let rest -/
def eFw (f : EF D) : EF D := fun δ h => (f δ h).bind fun d h1 => .ok (frz d) h1
theorem dw_of (p : PE X e (rn c W f)) : PE X e (rw' c W f) := pw_to' p fun σ H Q x => by
  obtain ⟨ha, G0, B, G, δ, h, st, p⟩ := x
  exact ⟨ha, G0, B, G, δ, h, st, post_imp p fun d h1 G1 H1 af q v n => q v (nw_own n)⟩
theorem ds_setW {i : Nat} {x : Str} {pos' : Pos} (hN : X.N.Nodup) (hi : X.N[i]? = some x) (hx : Loc X.env.scope x) (he : PE X e (rw' c W f)) (hs : swapsWith e (some (.Name x pos')) pos.line X.env = pure false := by rfl) (hf : X.fn x = true ∨ X.env.scope.names.lookup x = some .local := by first | exact .inl rfl | exact .inr rfl | assumption) :
    PS X (.Assign [.Name x pos'] e pos) (rs c W nw (sSet i f)) := ps_to (ps_set hN hi hx he hs hf) fun Dn σ H x => by
  obtain ⟨ha, G0, B, G, δ, h, st, p⟩ := x
  exact ⟨ha, G0, B, G, δ, h, st, post_imp (post_fl st p) fun d h1 G1 H1 af q v ⟨f, o, n1, n2⟩ => q _ G1 H1 (st.setO af i o n1 n2) (Same.refl _)⟩
theorem ds_retWW (he : PE X e (rw' c W f)) : PS X (.Return (some e) pos) (rs c W true (sRet f)) := ps_to (ps_ret he) fun Dn σ H x => by
  obtain ⟨ha, G0, B, G, δ, h, st, p⟩ := x
  exact ⟨ha, G0, B, G, δ, h, st, post_imp (post_fl st p) fun d h1 G1 H1 af q v ⟨fp, o, n1, n2⟩ => q v G1 H1 (st.to af).af ⟨fp, o, n1, fun a hx => ⟨st.old (n2 a hx), st.ne_ha (n2 a hx)⟩⟩⟩
end
end Fw
namespace Wy
open PySem PySem.Spec PyProof.Rows L2
/-- a clause: its class, the slot of its name, what its suite does -/
structure Cl where
  c : Value
  i : Option Nat
  ts : Addr → Value → Option Addr → TS
/-- what the clauses ask, one behind the other -/
def wCl (K : PySem.W.Frag) (Wo : WX) (D : Ends) : List Cl → WX
  | [] => Wo
  | ⟨c, some i, ts⟩ :: r => wAs K c i ts (wCl K Wo D r) D
  | ⟨c, none, ts⟩ :: r => wOnly K c ts (wCl K Wo D r) D
inductive ClOk (X : Cx) : List ExceptHandler → List Cl → Prop
  | nil : ClOk X [] []
  | cons {x n : Str} {c : Value} {i : Nat} {ts : Addr → Value → Option Addr → TS} {b : Stmt} {bs : List Stmt} {p1 p2 : Pos} {hs : List ExceptHandler} {r : List Cl} (hn : X.N[i]? = some n) (hk : X.env.kindOf n = some .local) (nm : Names X x c)
      (su : ∀ (e : Addr) (ob : Obj) (k : Value) (dd : Option Addr) (ps : List (Addr × Obj)), Zc k dd ob → (∃ us, ob.data = .fields us) → PSs (X.suite e ((e, ob) :: ps)) (b :: bs) (ts e k dd)) (rest : ClOk X hs r) :
      ClOk X (.ExceptHandler (some (.Name x p1)) (some n) (b :: bs) p2 :: hs) (⟨c, some i, ts⟩ :: r)
  | bare {x : Str} {c : Value} {ts : Addr → Value → Option Addr → TS} {b : Stmt} {bs : List Stmt} {p1 p2 : Pos} {hs : List ExceptHandler} {r : List Cl} (nm : Names X x c)
      (su : ∀ (e : Addr) (ob : Obj) (k : Value) (dd : Option Addr) (ps : List (Addr × Obj)), Zc k dd ob → (∃ us, ob.data = .fields us) → PSs (X.suite e ((e, ob) :: ps)) (b :: bs) (ts e k dd)) (rest : ClOk X hs r) :
      ClOk X (.ExceptHandler (some (.Name x p1)) none (b :: bs) p2 :: hs) (⟨c, none, ts⟩ :: r)
section
variable {X : Cx} {body : List Stmt} {h0 : ExceptHandler} {hr : List ExceptHandler} {l : List Cl} {pos : Pos} {tb : WX → TS} {Wo : WX}
/-- the clauses, asked from left to right, of an exception that has landed -/
theorem asked {ps : List (Addr × Obj)} {B : Heap} {sI s0 s' : Shared} {σ σ0 : L2.St} {H H0 : Hp} {D : Ends} {e : Addr} {k : Value} {dd : Option Addr} {hp : Heap} (I0 : Inv X ps σ0 H0 s0)
    (st : X.stack = X.env :: X.outer) (fr : X.env.frame = some X.env.locals) (nd : X.N.Nodup) (tko : Takes X Wo)
    (J : Inv X ps σ H sI) (nb : ∀ c u, sI.heap.get? c = some u → c ∉ frs X.stack → B.get? c = some u) (up : sI.heap.UpToSlots hp) (fly : HandSPX.FlyingZ B (X.env :: X.outer) e (Zc k dd) hp) (na : H e = none) (os : s'.os = sI.os) (ag : AllBare s'.gens) :
    ∀ {hs : List ExceptHandler} {l : List Cl}, ClOk X hs l → wCl X.K Wo D l k dd σ H → wpAny (model X.prog X.w) X.A (handleBy (.ref e) X.env hs) (SP X ps D) X.xe { s' with heap := hp } := by
  have okI := I0.ok
  obtain ⟨ob, us, gob, zob, dob⟩ := fly.there
  have away : ∀ {h : Heap} {o : Obj} {ws : Array Value}, h.FunFrames B (X.env :: X.outer) → h.get? e = some o → o.data = .fields ws → e ∉ frs (X.env :: X.outer) := by
    intro h o ws ff eo ed hm
    obtain ⟨_, o2, eo2, hne⟩ := ff.mem hm
    rw [eo] at eo2
    cases eo2
    exact hne _ ed
  have out := away fly.2.2.1 gob dob
  have neL : e ≠ X.env.locals := fun z => out (List.mem_filterMap.mpr ⟨X.env, List.mem_cons_self, by rw [fr, z]⟩)
  have neF : e ∉ X.fs := by
    intro hm
    obtain ⟨v, hv, q⟩ := List.mem_filterMap.mp hm
    exact out (List.mem_filterMap.mpr ⟨v, List.mem_cons_of_mem _ hv, q⟩)
  have JL : Inv X ps σ H { s' with heap := hp } := J.landed nb fly.1 up os ag
  have JS := JL.suite gob dob na neL neF
  have Lk : PySem.W.Looks (model X.prog X.w) hp (typeOf (.ref e)) k := by
    intro A Q E s keeps q
    exact wpAny_typeOf_ref (keeps _ _ gob) (by rw [zob.1]; exact q)
  intro hs l hok
  induction hok with
  | nil =>
    intro wish
    refine wpAny_handleBy_nil ?_
    obtain ⟨_, _, _, ob1, us1, T, oT, ts1, g1, _, d1, a1, _⟩ := id fly
    unfold PySem.passOn
    refine wpAny_bind (wpAny_field g1 d1 a1 ?_)
    rw [if_neg (by simp : ¬ ((Value.ref T == Value.none) = true))]
    have leave : wpAny (model X.prog X.w) X.A (setFlight (.ref e) X.env.frame) (fun _ s4 => wpAny (model X.prog X.w) X.A (throw (.ref e) : Sem Flow) (SP X ps D) X.xe s4) X.xe { s' with heap := hp } := by
      rw [fr]
      refine HandSPX.setFlight_upZ fly fun hq held upq => wpAny_throw (tko _ _ ?_)
      exact ⟨e, B, sI, ps, σ, H, k, dd, rfl, J, nb, up.trans upq, .inr (.inr (by rw [st]; exact held)), na, os, ag, wish⟩
    first
      | exact wpAny_bind (wpAny_pure (wpAny_bind leave))
      | exact wpAny_bind leave
  | @cons x n qc qi qts b bs p1 p2 hs2 r hn hk nm su rest ih =>
    rintro ⟨t, et, yes, no⟩
    refine wpAny_handleBy_cons (codeAny_handlers_test ?_) (fun z => by cases z)
    have mt := PySem.W.exm_one (M := model X.prog X.w) JL.kIn Lk et
    have nameIs : ∀ {Q : Value → Shared → Prop} {E : Value → Shared → Prop}, Q qc { s' with heap := hp } → wpAny (model X.prog X.w) (X.A.mark (some (.ref e))) (eval (.Name x p1) X.env) Q E { s' with heap := hp } := by
      intro Q E ask
      obtain ⟨hg, hdb, hm | ⟨hm, hv, hnn⟩⟩ := nm
      · exact ld_glob (X := X.suite e ((e, ob) :: (X.pn ++ ps))) JS hg hm ask hdb
      · exact ld_blt (X := X.suite e ((e, ob) :: (X.pn ++ ps))) JS hg hm hv ask hnn hdb
    refine nameIs (mt.here ?_)
    cases t with
    | false => exact ih (no rfl)
    | true =>
      refine codeAny_handlers_suite_as (HandSPX.lands_againZ fly fun h4 fl4 up4 => ?_)
      have JN : Inv X ps σ H { s' with heap := h4 } := J.landed nb fl4.1 (up.trans up4) os ag
      obtain ⟨ob4, us4, gob4, zob4, dob4⟩ := fl4.there
      have SN := JN.suite gob4 dob4 na neL neF
      refine store_ok (X := X.suite e ((e, ob4) :: (X.pn ++ ps))) (v := .ref e) SN nd hn (Or.inl hk) rfl (fun s5 S5 => ?_) (.inr hk)
      refine wpAny_mono ((su e ob4 k dd (X.pn ++ ps) zob4 ⟨_, dob4⟩).run [] s5 _ H _ S5 (yes rfl e na)) (fun f s6 hf => ?_) (fun _ _ z => z.elim)
      have done : ∀ {σ6 : L2.St} {H6 : Hp} {Q : Shared → Prop}, Inv (X.suite e ((e, ob4) :: (X.pn ++ ps))) [] σ6 H6 s6 → (∀ s7, Inv X ps (σ6.set qi none) H6 s7 → Q s7) →
          wpAny (model X.prog X.w) X.A (do bindName X.env n .none; unbindBehindTheSuite X.env n p2) (fun _ s7 => Q s7) X.xe s6 := by
        intro σ6 H6 Q S6 ask
        exact gone_ok (S6.unsuite okI) nd hn hk ask
      cases f with
      | ret u =>
        obtain ⟨v, σ6, H6, S6, rv, fin⟩ := hf
        exact done S6 fun s7 J7 => ⟨v, _, _, J7, rv, fin⟩
      | next =>
        obtain ⟨σ6, H6, S6, fin⟩ := hf
        exact done S6 fun s7 J7 => ⟨_, _, J7, fin⟩
      | brk =>
        obtain ⟨σ6, H6, S6, fin⟩ := hf
        exact done S6 fun s7 J7 => ⟨_, _, J7, fin⟩
      | cont =>
        obtain ⟨σ6, H6, S6, fin⟩ := hf
        exact done S6 fun s7 J7 => ⟨_, _, J7, fin⟩
  | @bare x qc qts b bs p1 p2 hs2 r nm su rest ih =>
    rintro ⟨t, et, yes, no⟩
    refine wpAny_handleBy_cons (codeAny_handlers_test ?_) (fun z => by cases z)
    have mt := PySem.W.exm_one (M := model X.prog X.w) JL.kIn Lk et
    have nameIs : ∀ {Q : Value → Shared → Prop} {E : Value → Shared → Prop}, Q qc { s' with heap := hp } → wpAny (model X.prog X.w) (X.A.mark (some (.ref e))) (eval (.Name x p1) X.env) Q E { s' with heap := hp } := by
      intro Q E ask
      obtain ⟨hg, hdb, hm | ⟨hm, hv, hnn⟩⟩ := nm
      · exact ld_glob (X := X.suite e ((e, ob) :: (X.pn ++ ps))) JS hg hm ask hdb
      · exact ld_blt (X := X.suite e ((e, ob) :: (X.pn ++ ps))) JS hg hm hv ask hnn hdb
    refine nameIs (mt.here ?_)
    cases t with
    | false => exact ih (no rfl)
    | true =>
      refine codeAny_handlers_suite (HandSPX.lands_againZ fly fun h4 fl4 up4 => ?_)
      have JN : Inv X ps σ H { s' with heap := h4 } := J.landed nb fl4.1 (up.trans up4) os ag
      obtain ⟨ob4, us4, gob4, zob4, dob4⟩ := fl4.there
      have SN := JN.suite gob4 dob4 na neL neF
      refine wpAny_mono ((su e ob4 k dd (X.pn ++ ps) zob4 ⟨_, dob4⟩).run [] _ _ H _ SN (yes rfl e na)) (fun f s6 hf => ?_) (fun _ _ z => z.elim)
      cases f with
      | ret u =>
        obtain ⟨v, σ6, H6, S6, rv, fin⟩ := hf
        exact ⟨v, _, _, S6.unsuite okI, rv, fin⟩
      | next =>
        obtain ⟨σ6, H6, S6, fin⟩ := hf
        exact ⟨_, _, S6.unsuite okI, fin⟩
      | brk =>
        obtain ⟨σ6, H6, S6, fin⟩ := hf
        exact ⟨_, _, S6.unsuite okI, fin⟩
      | cont =>
        obtain ⟨σ6, H6, S6, fin⟩ := hf
        exact ⟨_, _, S6.unsuite okI, fin⟩
/-- try: body / except A as n: .. / except B as m: .. -/
theorem ps_try_named (st : X.stack = X.env :: X.outer) (fr : X.env.frame = some X.env.locals) (nd : X.N.Nodup) (tko : Takes X Wo)
    (bd : ∀ (W : WX) (ps : List (Addr × Obj)) (xs : Value → Shared → Prop), Takes (X.tr ps xs) W → PassesOwn (model X.prog X.w) X.A X.env xs → PSs (X.tr ps xs) body (tb W))
    (cl : ClOk X (h0 :: hr) l) : PS X (.Try body (h0 :: hr) [] [] pos) (fun D σ H => tb (wCl X.K Wo D l) D σ H) := by
  refine ⟨fun ps s σ H D I ask => ?_⟩
  have okI := I.ok
  have frames : X.A.frames = some (X.env :: X.outer) := by rw [okI.frames, st]
  refine wpAny_Try_except ?_
  have catch_ : ∀ u s', XE (X.tr (X.pn ++ ps) (fun z s₁ => wpAny (model X.prog X.w) X.A (noteFrame z X.env) (fun _ s₂ => wpAny (model X.prog X.w) X.A (setFlight z none) (fun _ s₃ => wpAny (model X.prog X.w) X.A (handleBy z X.env (h0 :: hr)) (SP X ps D) X.xe s₃) X.xe s₂) X.xe s₁)) (wCl X.K Wo D l) u s' →
      wpAny (model X.prog X.w) X.A (noteFrame u X.env) (fun _ s₂ => wpAny (model X.prog X.w) X.A (setFlight u none) (fun _ s₃ => wpAny (model X.prog X.w) X.A (handleBy u X.env (h0 :: hr)) (SP X ps D) X.xe s₃) X.xe s₂) X.xe s' := by
    rintro u s' ⟨e, B, sI, ps', σ', H', k, dd, rfl, J', nb, up, sky, na, os, ag, wish⟩
    have J : Inv X ps σ' H' sI := J'.ofTry okI
    have sky1 : Sky B (X.env :: X.outer) e (Zc k dd) X.env.locals s'.heap := by rw [← st]; exact sky
    refine Sky.land Zc.steady frames fr sky1 fun hp fly uq => ?_
    exact asked I st fr nd tko J nb (up.trans uq) fly na os ag cl wish
  refine wpAny_mono ((bd (wCl X.K Wo D l) (X.pn ++ ps) _ catch_ PassesOwn.looking).run [] s σ H D (I.toTry _) ask) (fun f s1 hf => ?_) (fun z s1 hz => hz)
  cases f with
  | ret u =>
    obtain ⟨v, σ', H', J', rv, fin⟩ := hf
    exact ⟨v, σ', H', J'.ofTry okI, rv, fin⟩
  | next =>
    obtain ⟨σ', H', J', fin⟩ := hf
    exact wpAny_execs_nil ⟨σ', H', J'.ofTry okI, fin⟩
  | brk =>
    obtain ⟨σ', H', J', fin⟩ := hf
    exact ⟨σ', H', J'.ofTry okI, fin⟩
  | cont =>
    obtain ⟨σ', H', J', fin⟩ := hf
    exact ⟨σ', H', J'.ofTry okI, fin⟩
end
end Wy
namespace Kx
open PySem PySem.Spec PyProof.Rows L2
/-- what is asked of an error class at C, a child of the class at P -/
structure Er (K : PySem.W.Frag) (P C : Addr) : Prop where
  ox : OexC K C
  mro : ∃ cd, PySem.W.clsIn K C = some cd ∧ cd.mro = .ref C :: .ref P :: PySem.HandSPX.veTail
  ga : PySem.W.findIn K (.ref C) "__getattribute__" = some (some (.builtin "BaseException.__getattribute__"))
  gg : PySem.W.findIn K (.ref C) "__getattr__" = some none
  hd : PySem.W.hasDictIn K C = true
  ca : PySem.W.findIn K (.ref C) "__class__" = some (some (.builtin "object.__class__"))
/-- what is asked of object.__class__ -/
structure Gt (K : PySem.W.Frag) : Prop where
  hn : PySem.W.specialIn K (.builtin "object.__class__") "__get__" = some (some (.builtin "getset_descriptor.__get__"))
  ht : PySem.W.takesIn K (.builtin "object.__class__") = some true
section
variable {K : PySem.W.Frag} {P C D : Addr}
theorem Er.xf (e : Er K P C) : XfC K C := ⟨e.ga, e.gg, e.ox.exC, e.hd⟩
theorem Er.mroIn (e : Er K P C) (b : Value) : PySem.W.mroIn K C b = some ((Value.ref C :: .ref P :: PySem.HandSPX.veTail).contains b) := by
  obtain ⟨cd, h1, h2⟩ := e.mro
  unfold PySem.W.mroIn
  rw [h1, Option.bind_some, h2]
  rfl
theorem Er.kit (e : Er K P C) (g : Gt K) {x : Addr} {ox : Obj} {od : Option Obj} : PySem.W.KitX K (.ref x) (.ref C) (fun h => PySem.W.InstAt h x ox C od) :=
  PySem.W.kitx_exc (by obtain ⟨cd, h1, _⟩ := e.mro; rw [h1]; rfl) e.ga e.gg e.ox.exC e.ca g.hn g.ht (by rw [e.mroIn]; rfl)
/-- isinstance of an instance of C against the class at D -/
theorem Er.one (e : Er K P C) (d : Er K P D) (hP : D ≠ P) : PySem.W.kitOne K (.ref C) (.ref D) = some (decide (C = D)) := by
  unfold PySem.W.kitOne
  by_cases h : C = D
  · subst h
    rw [if_pos (beq_self_eq_true _), decide_eq_true rfl]
  · have hb : (Value.ref C == Value.ref D) = false := beq_eq_false_iff_ne.mpr fun z => h (Value.ref.inj z)
    rw [if_neg (by rw [hb]; exact Bool.false_ne_true), decide_eq_false h]
    unfold PySem.W.kitCls
    obtain ⟨cd, h1, _⟩ := d.mro
    have z : ((PySem.W.clsIn K D).isSome && PySem.W.typeIn K (.ref D) == some (.type "type")) = true := by rw [h1, d.ox.tyC]; rfl
    show (if ((PySem.W.clsIn K D).isSome && PySem.W.typeIn K (.ref D) == some (.type "type")) = true then PySem.W.subIn K (.ref C) (.ref D) else none) = some false
    rw [if_pos z]
    show PySem.W.mroIn K C (.ref D) = some false
    rw [e.mroIn]
    have h2 : (Value.ref D == Value.ref C) = false := beq_eq_false_iff_ne.mpr fun z => h (Value.ref.inj z).symm
    have h3 : (Value.ref D == Value.ref P) = false := beq_eq_false_iff_ne.mpr fun z => hP (Value.ref.inj z)
    rw [List.contains_cons, List.contains_cons, h2, h3]
    rfl
/-- .. against their parent -/
theorem Er.up (e : Er K P C) (hP : (PySem.W.clsIn K P).isSome = true ∧ PySem.W.typeIn K (.ref P) = some (.type "type")) (h : C ≠ P) : PySem.W.kitOne K (.ref C) (.ref P) = some true := by
  unfold PySem.W.kitOne
  have hb : (Value.ref C == Value.ref P) = false := beq_eq_false_iff_ne.mpr fun z => h (Value.ref.inj z)
  rw [if_neg (by rw [hb]; exact Bool.false_ne_true)]
  have z : ((PySem.W.clsIn K P).isSome && PySem.W.typeIn K (.ref P) == some (.type "type")) = true := by rw [hP.1, hP.2]; rfl
  show (if ((PySem.W.clsIn K P).isSome && PySem.W.typeIn K (.ref P) == some (.type "type")) = true then PySem.W.subIn K (.ref C) (.ref P) else none) = some true
  rw [if_pos z]
  show PySem.W.mroIn K C (.ref P) = some true
  rw [e.mroIn, List.contains_cons, List.contains_cons, beq_self_eq_true, Bool.true_or, Bool.or_true]
end
end Kx
namespace Ky
open PySem PySem.Spec PyProof.Rows L2 Kx
/-- __init__ of the class at C keeps what it is handed, under names fl gives -/
def spIn (C : Addr) (n : Nat) (fl : List V → List (Str × V)) : Sp := fun vs H Q _ => ∃ (a : Addr) (xs : List V), vs = .ref a :: xs ∧ xs.length = n ∧ H a = some (exo a C none) ∧
  ∀ (d : Addr) (H' : Hp), H d = none → (∀ b o, b ≠ a → H b = some o → H' b = some o) → H' a = some (exo a C (some d)) → H' d = some (exd d (fl xs)) → Q .non H'
def fl1 (f : Str) : List V → List (Str × V)
  | [x] => [(f, x)]
  | _ => []
def fl2 (f g : Str) : List V → List (Str × V)
  | [x, y] => [(g, y), (f, x)]
  | _ => []
section
variable {X : Cx} {K : PySem.W.Frag} {P C : Addr}
/-- the reading of: self.f = (slot 1) -/
theorem rd1 {f : Str} {Q : VK} {E : XK} {vs : List V} {H : Hp} {N : List Str} (hN : N.length = 2) (er : Er K P C) (n1 : PySem.W.findIn K (.ref C) f = some none) (h : spIn C 1 (fl1 f) vs H Q E) :
    tOst K f (tVar 0) (tVar 1) { nx := fun _ H' => Q .non H', rt := Q } (start N vs) H := by
  obtain ⟨a, xs, rfl, hl, ha, k⟩ := h
  match xs, hl, k with
  | [x], _, k =>
    refine ⟨x, rfl, .ref a, rfl, a, C, rfl, er.ox, n1, .inl ⟨ha, fun d hd hne => ?_⟩⟩
    refine k d _ hd (fun b o hb e => ?_) upd_same ?_
    · rw [upd_ne hb, upd_ne (ne_of_none e hd)]
      exact e
    · rw [upd_ne hne, upd_same]
      rfl
/-- .. self.f = (slot 1); self.g = (slot 2) -/
theorem rd2 {f g : Str} {Q : VK} {E : XK} {vs : List V} {H : Hp} {N : List Str} (hN : N.length = 3) (er : Er K P C) (n1 : PySem.W.findIn K (.ref C) f = some none) (n2 : PySem.W.findIn K (.ref C) g = some none) (h : spIn C 2 (fl2 f g) vs H Q E) :
    tSeq (tOst K f (tVar 0) (tVar 1)) (tOst K g (tVar 0) (tVar 2)) { nx := fun _ H' => Q .non H', rt := Q } (start N vs) H := by
  obtain ⟨a, xs, rfl, hl, ha, k⟩ := h
  match xs, hl, k with
  | [x, y], _, k =>
    refine ⟨x, rfl, .ref a, rfl, a, C, rfl, er.ox, n1, .inl ⟨ha, fun d hd hne => ?_⟩⟩
    refine ⟨y, rfl, .ref a, rfl, a, C, rfl, er.ox, n2, .inr ⟨d, [(f, x)], upd_same, by rw [upd_ne hne, upd_same], by show 1 ≤ 900; decide, ?_⟩⟩
    refine k d _ hd (fun b o hb e => ?_) ?_ upd_same
    · rw [upd_ne (ne_of_none e hd), upd_ne hb, upd_ne (ne_of_none e hd)]
      exact e
    · rw [upd_ne hne.symm, upd_same]
end
end Ky
namespace Re
open PySem PySem.Spec PyProof.Rows L2 Kx Ky
section
variable {X : Cx} {C : Addr}
theorem pmk_bare {x : Str} {p pos : Pos} (q : PySem.W.excIn X.K C PySem.HandSPX.veTail "ValueError.__new__" = true) (gC : X.mg x = some (.ref C)) (kC : PySem.W.keepIn X.K (.ref C) = true) (r : Raises X (.ref C)) (hg : Gl X x) (hdb : (x == ("__debug__" : Str)) = false := by decide) :
    PMk X (.Call (.Name x p) [] [] pos) (fun _ H Q => Q (.ref C) none H) := by
  intro pins s σ H Q I h
  refine wpAny_Call_Name_kw (ld_glob I hg gC (PySem.W.callWith_K0 I.kIn kC ?_) hdb)
  show wpAny _ _ (call (.ref C) []) _ _ _
  obtain ⟨bm, N, nm, qn, bs, hdct, sn, sub, ab, col, dd, k0, k1, k2, k3, k5, mN, hC, hN, hni, T⟩ := exc_obj I.kIn q
  exact wpAny_call_exc_subT PySem.F.excBase_ValueError T hC hN hni (fun h' e hm => mk_of I hm r h (I.hok.gone hm.new)) (Nat.zero_le _)
end
end Re
namespace Re
open PySem PySem.Spec PyProof.Rows L2 Kx Ky
theorem same_in {H H' : Hp} {a : Addr} {o : HO} (h : H a = none) (k : ∀ b u, b ≠ a → (upd H a o) b = some u → H' b = some u) : Same H H' := fun b u e =>
  k b u (ne_of_none e h) (by rw [upd_ne (ne_of_none e h)]; exact e)
theorem same_gone {H H' : Hp} {a d : Addr} {o o2 : HO} (ha : H a = none) (hd : H d = none) (k : ∀ b u, b ≠ a → (upd H a o) b = some u → H' b = some u) : Same H (upd (del H' a) d o2) := fun b u e => by
  rw [upd_ne (ne_of_none e hd), del_ne (ne_of_none e ha)]
  exact same_in ha k b u e
end Re
namespace Fw
open PySem PySem.Spec PyProof.Rows L2 Dz Vz
abbrev Cn.at (c : Cn) (x : Option (Addr × Value × Option Addr)) : Cn := ⟨c.K, c.mg, x⟩
section
variable {c c' : Cn} {ha : Option Addr} {G G' H H' G0 B : Hp}
theorem dq_c (hK : c'.K = c.K) (hm : c'.mg = c.mg) {v : V} {d : D} (h : Dq c ha G v d) : Dq c' ha G v d := by
  refine Dq.rec (motive_1 := fun v d _ => Dq c' ha G v d) (motive_2 := fun xs ds _ => DqAll c' ha G xs ds) (motive_3 := fun C xs fs _ => DqF c' ha G C xs fs) ?_ ?_ ?_ ?_ ?_ ?_ ?_ ?_ ?_ ?_ ?_ h
  · exact .non
  · exact fun b => .bl b
  · exact fun i => .int i
  · exact fun x => .str x
  · exact fun h1 _ h2 => .tup (by rw [hK]; exact h1) h2
  · exact fun h1 _ h2 => .lst h1 h2
  · exact fun h1 h2 h3 _ h4 => .ins (by rw [hm]; exact h1) h2 (by rw [hK]; exact h3) h4
  · exact .nil
  · exact fun _ _ h1 h2 => .cons h1 h2
  · exact .nil
  · exact fun h0 _ _ h1 h2 => .cons (by rw [hK]; exact h0) h1 h2
theorem dqAll_c (hK : c'.K = c.K) (hm : c'.mg = c.mg) : ∀ {xs : List V} {ds : List D}, DqAll c ha G xs ds → DqAll c' ha G xs ds
  | _, _, .nil => .nil
  | _, _, .cons h t => .cons (dq_c hK hm h) (dqAll_c hK hm t)
theorem dqF_c (hK : c'.K = c.K) (hm : c'.mg = c.mg) {C : Addr} : ∀ {xs : List (Str × V)} {fs : List (Str × D)}, DqF c ha G C xs fs → DqF c' ha G C xs fs
  | _, _, .nil => .nil
  | _, _, .cons h0 h t => .cons (by rw [hK]; exact h0) (dq_c hK hm h) (dqF_c hK hm t)
theorem own_c (hK : c'.K = c.K) (hm : c'.mg = c.mg) {v : V} {d : D} {fp : List Addr} (h : Own c ha G H v d fp) : Own c' ha G H v d fp := by
  refine Own.rec (motive_1 := fun v d fp _ => Own c' ha G H v d fp) (motive_2 := fun xs ds fp _ => OwnAll c' ha G H xs ds fp) ?_ ?_ ?_ ?_ h
  · exact fun h => .frz (dq_c hK hm h)
  · exact fun h1 h2 _ ih => .hl h1 h2 ih
  · exact .nil
  · exact fun _ _ i1 i2 => .cons i1 i2
/-- into a suite: no slot holds an error yet -/
theorem ownS_in (hK : c'.K = c.K) (hm : c'.mg = c.mg) (hx : c.xa = none) : ∀ {σ : L2.St} {δ : DE} {fp : List Addr}, OwnS c ha G H σ δ fp → OwnS c' ha G H σ δ fp
  | _, _, _, .nil => .nil
  | _, _, _, .non o t => .non o (ownS_in hK hm hx t)
  | _, _, _, .me e t => .me e (ownS_in hK hm hx t)
  | _, _, _, .ex e _ _ _ => by rw [hx] at e; cases e
  | _, _, _, .some h t => .some (own_c hK hm h) (ownS_in hK hm hx t)
def dropX : Option D → Option D
  | some (.ex _ _) => none
  | o => o
theorem dropX_own {v : V} {d : D} {fp : List Addr} (h : Own c ha G H v d fp) : dropX (some d) = some d := by
  cases h with
  | frz h => cases h <;> rfl
  | hl _ _ _ => rfl
/-- out of a suite: the held error is forgotten -/
theorem ownS_out (hK : c'.K = c.K) (hm : c'.mg = c.mg) : ∀ {σ : L2.St} {δ : DE} {fp : List Addr}, OwnS c ha G H σ δ fp → ∃ fp', OwnS c' ha G H σ (δ.map dropX) fp' ∧ fp'.Sublist fp
  | _, _, _, .nil => ⟨[], .nil, List.Sublist.refl _⟩
  | _, _, _, .non o t => by
    obtain ⟨fp', h1, h2⟩ := ownS_out hK hm t
    exact ⟨fp', .non o h1, h2⟩
  | _, _, _, .me e t => by
    obtain ⟨fp', h1, h2⟩ := ownS_out hK hm t
    exact ⟨fp', .me e h1, h2⟩
  | _, _, _, .ex _ _ _ t => by
    obtain ⟨fp', h1, h2⟩ := ownS_out hK hm t
    exact ⟨fp', .non _ h1, h2.trans (List.sublist_append_right ..)⟩
  | _, _, _, .some h t => by
    obtain ⟨fp', h1, h2⟩ := ownS_out hK hm t
    refine ⟨_, ?_, List.Sublist.append (List.Sublist.refl _) h2⟩
    rw [List.map_cons, dropX_own h]
    exact .some (own_c hK hm h) h1
theorem hok_c (hK : c'.K = c.K) (hm : c'.mg = c.mg) {h : D} (x : Hok c ha G H h) : Hok c' ha G H h := by
  cases x with
  | non e => exact .non e
  | hand e g h d => exact .hand e g h (dqAll_c hK hm d)
  | self e g m cl h d => exact .self e g (by rw [hm]; exact m) (by rw [hK]; exact cl) h (dqF_c hK hm d)
/-- an empty slot takes the held error -/
theorem ownS_fill {a C : Addr} {dd : Option Addr} {n : Str} {fs : List (Str × D)} {fx : List Addr} (e1 : c.xa = some (a, .ref C, dd)) (e2 : c.mg n = some (.ref C)) (x : ExH c ha G H dd C fs fx) : ∀ {i : Nat} {σ : L2.St} {δ : DE} {fp : List Addr}, OwnS c ha G H σ δ fp → δ[i]? = some none →
    ∃ f1 f2, fp = f1 ++ f2 ∧ OwnS c ha G H (σ.set i (some (.ref a))) (δ.set i (some (.ex n fs))) (f1 ++ (fx ++ f2))
  | i, _, _, _, .nil, e => by simp at e
  | 0, _, _, _, .non o t, e => ⟨[], _, rfl, by rw [List.nil_append]; exact OwnS.ex e1 e2 x t⟩
  | 0, _, _, _, .me _ t, e => by simp at e
  | 0, _, _, _, .ex _ _ _ t, e => by simp at e
  | 0, _, _, _, .some _ t, e => by simp at e
  | i + 1, _, _, _, .non o t, e => by
    obtain ⟨f1, f2, h1, h2⟩ := ownS_fill e1 e2 x (i := i) t e
    exact ⟨f1, f2, h1, .non o h2⟩
  | i + 1, _, _, _, .me o t, e => by
    obtain ⟨f1, f2, h1, h2⟩ := ownS_fill e1 e2 x (i := i) t e
    exact ⟨f1, f2, h1, .me o h2⟩
  | i + 1, _, _, _, .ex (fx := g) o m y t, e => by
    obtain ⟨f1, f2, rfl, h2⟩ := ownS_fill e1 e2 x (i := i) t e
    refine ⟨g ++ f1, f2, by rw [List.append_assoc], ?_⟩
    rw [List.append_assoc]
    exact .ex o m y h2
  | i + 1, _, _, _, .some (f := g) h t, e => by
    obtain ⟨f1, f2, rfl, h2⟩ := ownS_fill e1 e2 x (i := i) t e
    refine ⟨g ++ f1, f2, by rw [List.append_assoc], ?_⟩
    rw [List.append_assoc]
    exact .some h h2
end
section
variable {X : Cx} {W : WX} {c : Cn} {nw : Bool} {e a b o : Expr} {es : List Expr} {pos : Pos} {te : TE} {f fa fb fo : EF D} {fs : EF (List D)} {u : SF} {ss : List Stmt}
/-- the fields as they lie behind an __init__ that keeps what it is handed -/
def flD1 (f : Str) : List D → Option (List (Str × D))
  | [x] => some [(f, x)]
  | _ => none
def flD2 (f g : Str) : List D → Option (List (Str × D))
  | [x, y] => some [(g, y), (f, x)]
  | _ => none
def sRaise (n : Str) (fl : List D → Option (List (Str × D))) (fs : EF (List D)) : SF := fun δ h => (fs δ h).fl δ fun ds h1 => match fl ds with
  | some fx => .exc n fx δ h1
  | none => .bad
def sRaise0 (n : Str) : SF := fun δ h => .exc n [] δ h
/-- what is asked of an error class that keeps its fields -/
structure Er1 (P : Program) (w : World) (c : Cn) (base : Heap) (gP : Addr) (x f : Str) (C fI : Addr) (fd : FuncData) : Prop where
  er : Kx.Er c.K gP C
  m : c.mg x = some (.ref C)
  na : NoAttr c.K C f
  iC : PySem.W.findIn c.K (.ref C) "__init__" = some (some (.ref fI))
  tI : PySem.W.typeIn c.K (.ref fI) = some (.type "function")
  G : FnOk P w c.K c.mg base CX0 1 fI fd ["self", f] (Ky.spIn C 1 (Ky.fl1 f))
  b : L2.Binds c.K fd ["self", f] []
structure Er2 (P : Program) (w : World) (c : Cn) (base : Heap) (gP : Addr) (x f g : Str) (C fI : Addr) (fd : FuncData) : Prop where
  er : Kx.Er c.K gP C
  m : c.mg x = some (.ref C)
  na : NoAttr c.K C f
  na2 : NoAttr c.K C g
  iC : PySem.W.findIn c.K (.ref C) "__init__" = some (some (.ref fI))
  tI : PySem.W.typeIn c.K (.ref fI) = some (.type "function")
  G : FnOk P w c.K c.mg base CX0 1 fI fd ["self", f, g] (Ky.spIn C 2 (Ky.fl2 f g))
  b : L2.Binds c.K fd ["self", f, g] []
theorem rd_mkN {C : Addr} {n : Nat} {fl : List V → List (Str × V)} {vs : List V} {H : Hp} {Q : XK} (hl : vs.length = n) (hn : n ≤ 1000) (k : ∀ d H', H d = none → Same H H' → H' d = some (.xd (fl vs)) → Q (.ref C) (some d) H') :
    vs.length ≤ 1000 ∧ ∀ a, H a = none → Ky.spIn C n fl (.ref a :: (vs ++ [])) (upd H a (exo a C none))
      (fun v' H2 => v' = .non ∧ ∃ (d : Addr) (fs : List (Str × V)), H2 a = some (exo a C (some d)) ∧ H2 d = some (exd d fs) ∧ H d = none ∧ Q (.ref C) (some d) (upd (del H2 a) d (.xd fs))) (fun _ _ _ => False) := by
  refine ⟨by omega, fun a ha => ⟨a, vs, by rw [List.append_nil], hl, upd_same, fun q H1 hq kq e1 e2 => ?_⟩⟩
  have hqa : q ≠ a := fun z => by
    rw [z, upd_same] at hq
    cases hq
  rw [upd_ne hqa] at hq
  exact ⟨rfl, q, _, e1, e2, hq, k q _ hq (Re.same_gone ha hq kq) upd_same⟩
theorem posts_exc {ha : Option Addr} {G0 B G1 H1 : Hp} {σ : L2.St} {δ : DE} {h1 : D} {n : Str} {fx : List (Str × D)} {Dn : Ends} {C : Addr} {xs : List (Str × V)} (st : Sta c ha G0 B G1 H1 σ δ h1) (m : c.mg n = some (.ref C)) (p : PostS c ha W nw G0 B G1 (.exc n fx δ h1) Dn) (df : DqF c ha G1 C xs fx) :
    ∀ d H', H1 d = none → Same H1 H' → H' d = some (.xd xs) → W (.ref C) (some d) σ H' := fun d H' hd s hx =>
  p σ C (some d) G1 H1 h1 G1 H' st (Same.refl _) (.of st.gh st.hd (Mv.of st.gh s) s) m (.inr ⟨d, xs, rfl, hx, old_none st.gh hd, hd, df⟩)
theorem rs_raise1 {x f : Str} {C : Addr} (m : c.mg x = some (.ref C)) (na : NoAttr c.K C f) (Dn : Ends) (σ : L2.St) (H : Hp) (z : rs c W nw (sRaise x (flD1 f) fs) Dn σ H) : tMkO C (Ky.spIn C 1 (Ky.fl1 f)) [] (ra c W fs) σ H fun cls d H' => W cls d σ H' := by
  obtain ⟨ha, G0, B, G, δ, h, st, p⟩ := z
  refine ⟨ha, G0, B, G, δ, h, st, post_imp (post_fl st p) fun ds h1 G1 H1 af q vs dv => ?_⟩
  split at q
  · rename_i fx e
    unfold flD1 at e
    split at e
    · cases e
      obtain ⟨v, rfl, dv1⟩ := one_of dv
      exact rd_mkN (n := 1) (C := C) (Q := fun cls d H' => W cls d σ H') (fl := Ky.fl1 f) (vs := [v]) rfl (by decide) (posts_exc (st.to af) m q (.cons na dv1 .nil))
    · cases e
  · exact q.elim
theorem rs_raise2 {x f g : Str} {C : Addr} (m : c.mg x = some (.ref C)) (na : NoAttr c.K C f) (na2 : NoAttr c.K C g) (Dn : Ends) (σ : L2.St) (H : Hp) (z : rs c W nw (sRaise x (flD2 f g) fs) Dn σ H) : tMkO C (Ky.spIn C 2 (Ky.fl2 f g)) [] (ra c W fs) σ H fun cls d H' => W cls d σ H' := by
  obtain ⟨ha, G0, B, G, δ, h, st, p⟩ := z
  refine ⟨ha, G0, B, G, δ, h, st, post_imp (post_fl st p) fun ds h1 G1 H1 af q vs dv => ?_⟩
  split at q
  · rename_i fx e
    unfold flD2 at e
    split at e
    · cases e
      obtain ⟨v, w, rfl, dv1, dw⟩ := two_of dv
      exact rd_mkN (n := 2) (C := C) (Q := fun cls d H' => W cls d σ H') (fl := Ky.fl2 f g) (vs := [v, w]) rfl (by decide) (posts_exc (st.to af) m q (.cons na2 dw (.cons na dv1 .nil)))
    · cases e
  · exact q.elim
section
variable {x n g : Str} {C fI gP : Addr} {fd : FuncData} {p : Pos}
theorem ds_raise1 (E : Er1 X.prog X.w c X.base gP x n C fI fd) (hc : X.calm = true) (tk : Takes X W) (hr : Room 2 X.A) (hg : Gl X x) (ha : PA X (e :: es) (ra c W fs)) (hK : X.K = c.K := by rfl) (hM : X.mg = c.mg := by rfl)
    (hdb : (x == ("__debug__" : Str)) = false := by decide) (he : starEach (e :: es) X.env = (false, eval e X.env) :: starEach es X.env := by rfl) {pos2 : Pos} (hpl : (backTo pos (starEach es X.env)).any (·.1) = false := by rfl) : PS X (.Raise (some (.Call (.Name x p) (e :: es) [] pos)) none pos2) (rs c W nw (sRaise x (flD1 n) fs)) := by
  obtain ⟨er, m, na, iC, tI, G, b⟩ := E
  rw [← hK] at er iC tI b
  have G' : FnOk X.prog X.w X.K X.mg X.base CX0 1 fI fd ["self", n] (Ky.spIn C 1 (Ky.fl1 n)) := by rw [hK, hM]; exact G
  exact ps_to (ps_raise hc tk (pmk_oex er.ox iC tI G' hr b .nil pass0 hg (by rw [hM]; exact m) ha hdb he hpl)) fun Dn σ H z => rs_raise1 m na Dn σ H z
theorem ds_raise2 (E : Er2 X.prog X.w c X.base gP x n g C fI fd) (hc : X.calm = true) (tk : Takes X W) (hr : Room 2 X.A) (hg : Gl X x) (ha : PA X (e :: es) (ra c W fs)) (hK : X.K = c.K := by rfl) (hM : X.mg = c.mg := by rfl)
    (hdb : (x == ("__debug__" : Str)) = false := by decide) (he : starEach (e :: es) X.env = (false, eval e X.env) :: starEach es X.env := by rfl) {pos2 : Pos} (hpl : (backTo pos (starEach es X.env)).any (·.1) = false := by rfl) : PS X (.Raise (some (.Call (.Name x p) (e :: es) [] pos)) none pos2) (rs c W nw (sRaise x (flD2 n g) fs)) := by
  obtain ⟨er, m, na, na2, iC, tI, G, b⟩ := E
  rw [← hK] at er iC tI b
  have G' : FnOk X.prog X.w X.K X.mg X.base CX0 1 fI fd ["self", n, g] (Ky.spIn C 2 (Ky.fl2 n g)) := by rw [hK, hM]; exact G
  exact ps_to (ps_raise hc tk (pmk_oex er.ox iC tI G' hr b .nil pass0 hg (by rw [hM]; exact m) ha hdb he hpl)) fun Dn σ H z => rs_raise2 m na na2 Dn σ H z
/-- an error class without fields -/
structure Er0 (c : Cn) (gP : Addr) (x : Str) (C : Addr) : Prop where
  er : Kx.Er c.K gP C
  m : c.mg x = some (.ref C)
  q : PySem.W.excIn c.K C PySem.HandSPX.veTail "ValueError.__new__" = true
  kC : PySem.W.keepIn c.K (.ref C) = true
theorem ds_raise0 (E : Er0 c gP x C) (hc : X.calm = true) (tk : Takes X W) (hg : Gl X x) (hK : X.K = c.K := by rfl) (hM : X.mg = c.mg := by rfl)
    (hdb : (x == ("__debug__" : Str)) = false := by decide) {pos2 : Pos} : PS X (.Raise (some (.Call (.Name x p) [] [] pos)) none pos2) (rs c W nw (sRaise0 x)) := by
  obtain ⟨er, m, q, kC⟩ := E
  rw [← hK] at er q kC
  refine ps_to (ps_raise hc tk (Re.pmk_bare q (by rw [hM]; exact m) kC (raises_own er.ox.exC er.ox.tyC) hg hdb)) fun Dn σ H z => ?_
  obtain ⟨ha, G0, B, G, δ, h, st, p⟩ := z
  exact p σ C none G H h G H st (Same.refl _) st.here m (.inl ⟨rfl, rfl⟩)
end
structure Cz where
  ms : Str → Option Bool
  i : Option Nat
  u : SF
def dropFl (i : Option Nat) (r : Fl) : Fl := match i, r with
  | some i, .nx δ h => .nx ((δ.map dropX).set i none) h
  | some i, .brk δ h => .brk ((δ.map dropX).set i none) h
  | some i, .ct δ h => .ct ((δ.map dropX).set i none) h
  | _, .exc _ _ _ _ => .bad
  | _, r => r
def exIn (i : Option Nat) (n : Str) (fs : List (Str × D)) (δ : DE) : DE := match i with
  | some i => δ.set i (some (.ex n fs))
  | none => δ
def Cz.here (z : Cz) (δ : DE) : Bool := match z.i with
  | some i => decide (i < δ.length)
  | none => true
def hdGo : List Cz → Str → List (Str × D) → SF
  | [], n, fs, δ, h => .exc n fs δ h
  | z :: r, n, fs, δ, h => match z.ms n with
    | some true => if z.here δ then dropFl z.i (z.u (exIn z.i n fs δ) h) else .bad
    | some false => hdGo r n fs δ h
    | none => .bad
def sTry (u : SF) (cs : List Cz) : SF := fun δ h => match u δ h with
  | .exc n fs δ' h' => hdGo cs n fs δ' h'
  | r => r
/-- the clauses, each with its suite's reading -/
inductive CzOk (X : Cx) (c : Cn) (nw : Bool) : List ExceptHandler → List Cz → List Wy.Cl → Prop
  | nil : CzOk X c nw [] [] []
  | cons {x n : Str} {Cc : Addr} {i : Nat} {ms : Str → Option Bool} {u : SF} {b : Stmt} {bs : List Stmt} {p1 p2 : Pos} {hs : List ExceptHandler} {r : List Cz} {l : List Wy.Cl} (hn : X.N[i]? = some n) (hk : X.env.kindOf n = some .local) (nm : Names X x (.ref Cc))
      (hm : ∀ n b C, ms n = some b → c.mg n = some (.ref C) → PySem.W.exmOne c.K (.ref C) (.ref Cc) = some b)
      (su : ∀ (e : Addr) (ob : Obj) (k : Value) (dd : Option Addr) (ps : List (Addr × Obj)), Zc k dd ob → (∃ us, ob.data = .fields us) → PSs (X.suite e ((e, ob) :: ps)) (b :: bs) (rs (c.at (some (e, k, dd))) WF nw u)) (rest : CzOk X c nw hs r l) :
      CzOk X c nw (.ExceptHandler (some (.Name x p1)) (some n) (b :: bs) p2 :: hs) (⟨ms, some i, u⟩ :: r) (⟨.ref Cc, some i, fun e k dd => rs (c.at (some (e, k, dd))) WF nw u⟩ :: l)
  | bare {x : Str} {Cc : Addr} {ms : Str → Option Bool} {u : SF} {b : Stmt} {bs : List Stmt} {p1 p2 : Pos} {hs : List ExceptHandler} {r : List Cz} {l : List Wy.Cl} (nm : Names X x (.ref Cc))
      (hm : ∀ n b C, ms n = some b → c.mg n = some (.ref C) → PySem.W.exmOne c.K (.ref C) (.ref Cc) = some b)
      (su : ∀ (e : Addr) (ob : Obj) (k : Value) (dd : Option Addr) (ps : List (Addr × Obj)), Zc k dd ob → (∃ us, ob.data = .fields us) → PSs (X.suite e ((e, ob) :: ps)) (b :: bs) (rs c WF nw u)) (rest : CzOk X c nw hs r l) :
      CzOk X c nw (.ExceptHandler (some (.Name x p1)) none (b :: bs) p2 :: hs) (⟨ms, none, u⟩ :: r) (⟨.ref Cc, none, fun e k dd => rs c WF nw u⟩ :: l)
theorem CzOk.cl {X : Cx} {c : Cn} {nw : Bool} {hs : List ExceptHandler} {cs : List Cz} {l : List Wy.Cl} (k : CzOk X c nw hs cs l) : Wy.ClOk X hs l := by
  induction k with
  | nil => exact .nil
  | cons hn hk nm hm su _ ih => exact .cons hn hk nm su ih
  | bare nm hm su _ ih => exact .bare nm su ih
theorem Sta.out {ha : Option Addr} {G0 B G H : Hp} {σ : L2.St} {δ : DE} {h : D} {x : Option (Addr × Value × Option Addr)} (st : Sta (c.at x) ha G0 B G H σ δ h) (i : Nat) : Sta c ha G0 B G H (σ.set i none) ((δ.map dropX).set i none) h := by
  obtain ⟨fp, os, n, k⟩ := st.sl
  obtain ⟨fp', o', sb⟩ := ownS_out (c := c.at x) (c' := c) rfl rfl os
  have st2 : Sta c ha G0 B G H σ (δ.map dropX) h := ⟨⟨fp', o', n.sublist sb, fun a hx => k a (sb.subset hx)⟩, st.mv, st.bt, hok_c (c := c.at x) (c' := c) rfl rfl st.hd, st.hb⟩
  exact st2.wipe1 i none
theorem res_c {ha : Option Addr} {B G' H' : Hp} {v : V} {d : D} {x : Option (Addr × Value × Option Addr)} (r : Res nw (c.at x) ha B G' H' v d) : Res nw c ha B G' H' v d := by
  cases nw with
  | false => exact dq_c (c := c.at x) (c' := c) rfl rfl (show Dq (c.at x) ha G' v d from r)
  | true =>
    obtain ⟨fp, o, n, k⟩ := r
    exact ⟨fp, own_c (c := c.at x) (c' := c) rfl rfl o, n, k⟩
theorem af_c {ha : Option Addr} {G H G' H' : Hp} {h' : D} {x : Option (Addr × Value × Option Addr)} (a : Af (c.at x) ha G H G' H' h') : Af c ha G H G' H' h' := ⟨a.mv, a.bt, hok_c (c := c.at x) (c' := c) rfl rfl a.hd⟩
/-- the held error comes into its slot -/
theorem Sta.exin {ha : Option Addr} {G0 B G1 H1 G' H' : Hp} {σ : L2.St} {δ : DE} {h1 h' : D} {C a : Addr} {dd : Option Addr} {n : Str} {fs : List (Str × D)} {i : Nat} (hx : c.xa = none) (st : Sta c ha G0 B G1 H1 σ δ h1) (af : Af c ha G1 H1 G' H' h') (m : c.mg n = some (.ref C)) (xr : XR c ha G' H1 H' C dd fs) (hi : i < δ.length) :
    Sta (c.at (some (a, .ref C, dd))) ha G0 B G' H' (σ.set i (some (.ref a))) (δ.set i (some (.ex n fs))) h' := by
  obtain ⟨fp, os, nn, k⟩ := st.sl
  have st2 := st.to af
  have os1 : OwnS c ha G' H' σ δ fp := Sta.keep (B := B) af os k
  obtain ⟨fp1, os2, sb⟩ := ownS_wipe (i := i) none os1
  have os3 := ownS_in (c := c) (c' := c.at (some (a, .ref C, dd))) rfl rfl hx os2
  have hs : (δ.set i none)[i]? = some none := by rw [List.getElem?_set_self hi]
  have key : ∀ fx, ExH (c.at (some (a, .ref C, dd))) ha G' H' dd C fs fx → (∀ d ∈ fx, H1 d = none) → fx.Nodup → Sta (c.at (some (a, .ref C, dd))) ha G0 B G' H' (σ.set i (some (.ref a))) (δ.set i (some (.ex n fs))) h' := by
    intro fx x kx nx
    obtain ⟨f1, f2, rfl, o4⟩ := ownS_fill (c := c.at (some (a, .ref C, dd))) (a := a) rfl m x os3 hs
    rw [List.set_set, List.set_set] at o4
    refine ⟨⟨_, o4, nodup_ins (nn.sublist sb) nx fun d hd hm => ?_, fun b hb => ?_⟩, st2.mv, st2.bt, hok_c (c := c) (c' := c.at (some (a, .ref C, dd))) rfl rfl st2.hd, st2.hb⟩
    · exact (ownS_at os d (sb.subset hm)).2 (kx d hd)
    · have hb2 : b ∈ fx ∨ b ∈ f1 ++ f2 := by
        rcases List.mem_append.mp hb with z | z
        · exact .inr (List.mem_append_left _ z)
        · exact (List.mem_append.mp z).imp id fun q => List.mem_append_right _ q
      rcases hb2 with z | z
      · exact ⟨st.old (kx b z), st.ne_ha (kx b z)⟩
      · exact k b (sb.subset z)
  rcases xr with ⟨rfl, rfl⟩ | ⟨d, xs, rfl, h2, h3, h4, h5⟩
  · exact key [] .none (fun d z => nomatch z) (by simp)
  · exact key [d] (.some h2 h3 (dqF_c (c := c) (c' := c.at (some (a, .ref C, some d))) rfl rfl h5)) (fun b z => by rw [List.mem_singleton.mp z]; exact h4) (by simp)
theorem try_ask {ha : Option Addr} {G0 B G : Hp} {Dn : Ends} {n : Str} {fs : List (Str × D)} {δ : DE} {h : D} (hx : c.xa = none) (hK : X.K = c.K) : ∀ {hs : List ExceptHandler} {cs : List Cz} {l : List Wy.Cl}, CzOk X c nw hs cs l → PostS c ha W nw G0 B G (hdGo cs n fs δ h) Dn →
    ∀ σ C dd G1 H1 h1 G' H', Sta c ha G0 B G1 H1 σ δ h1 → Same G G1 → Af c ha G1 H1 G' H' h → c.mg n = some (.ref C) → XR c ha G' H1 H' C dd fs → Wy.wCl X.K W Dn l (.ref C) dd σ H' := by
  intro hs cs l k
  induction k with
  | nil => exact fun p => p
  | @cons x nm0 Cc i ms u b bs p1 p2 hs r l hn hk nm hm su rest ih =>
    intro p σ C dd G1 H1 h1 G' H' st sg af m xr
    unfold hdGo at p
    cases e : ms n with
    | none => simp only [e] at p; exact p.elim
    | some t =>
      simp only [e] at p
      refine ⟨t, by rw [hK]; exact hm n t C e m, fun et a hna => ?_, fun et => ?_⟩
      · subst et
        have p0 : PostS c ha W nw G0 B G (if decide (i < δ.length) = true then dropFl (some i) (u (δ.set i (some (.ex n fs))) h) else .bad) Dn := p
        by_cases hi0 : decide (i < δ.length) = true
        case neg => rw [if_neg hi0] at p0; exact p0.elim
        rw [if_pos hi0] at p0
        have hi : i < δ.length := of_decide_eq_true hi0
        refine ⟨ha, G0, B, G', δ.set i (some (.ex n fs)), h, st.exin hx af m xr hi, ?_⟩
        have p2 := p0
        generalize u (δ.set i (some (.ex n fs))) h = r at p2
        have gg : Same G G' := sg.trans af.gg
        cases r with
        | nx δ' h' => exact fun σ' G2 H2 st2 s2 => p2 _ G2 H2 (st2.out i) (gg.trans s2)
        | brk δ' h' => exact fun σ' G2 H2 st2 s2 => p2 _ G2 H2 (st2.out i) (gg.trans s2)
        | ct δ' h' => exact fun σ' G2 H2 st2 s2 => p2 _ G2 H2 (st2.out i) (gg.trans s2)
        | ret d h' => exact fun v G2 H2 a2 r2 => p2 v G2 H2 (af_c a2) (res_c r2)
        | exc _ _ _ _ => exact p2.elim
        | bad => exact p2.elim
      · subst et
        exact ih p σ C dd G1 H1 h1 G' H' st sg af m xr
  | @bare x Cc ms u b bs p1 p2 hs r l nm hm su rest ih =>
    intro p σ C dd G1 H1 h1 G' H' st sg af m xr
    unfold hdGo at p
    cases e : ms n with
    | none => simp only [e] at p; exact p.elim
    | some t =>
      simp only [e] at p
      refine ⟨t, by rw [hK]; exact hm n t C e m, fun et a hna => ?_, fun et => ?_⟩
      · subst et
        refine ⟨ha, G0, B, G', δ, h, st.to af, ?_⟩
        have p2 : PostS c ha W nw G0 B G (dropFl none (u δ h)) Dn := p
        generalize u δ h = r at p2
        have gg : Same G G' := sg.trans af.gg
        cases r with
        | nx δ' h' => exact fun σ' G2 H2 st2 s2 => p2 _ G2 H2 st2 (gg.trans s2)
        | brk δ' h' => exact fun σ' G2 H2 st2 s2 => p2 _ G2 H2 st2 (gg.trans s2)
        | ct δ' h' => exact fun σ' G2 H2 st2 s2 => p2 _ G2 H2 st2 (gg.trans s2)
        | ret d h' => exact fun v G2 H2 a2 r2 => p2 v G2 H2 a2 r2
        | exc _ _ _ _ => exact p2.elim
        | bad => exact p2.elim
      · subst et
        exact ih p σ C dd G1 H1 h1 G' H' st sg af m xr
theorem ds_try {body : List Stmt} {h0 : ExceptHandler} {hr : List ExceptHandler} {cs : List Cz} {l : List Wy.Cl} (hx : c.xa = none) (st : X.stack = X.env :: X.outer) (fr : X.env.frame = some X.env.locals) (nd : X.N.Nodup) (tko : Takes X W)
    (bd : ∀ (W' : WX) (ps : List (Addr × Obj)) (xs : Value → Shared → Prop), Takes (X.tr ps xs) W' → PassesOwn (model X.prog X.w) X.A X.env xs → PSs (X.tr ps xs) body (rs c W' nw u))
    (cl : CzOk X c nw (h0 :: hr) cs l) (hK : X.K = c.K := by rfl) : PS X (.Try body (h0 :: hr) [] [] pos) (rs c W nw (sTry u cs)) := by
  refine ⟨fun pins s σ H Dn I z => (Wy.ps_try_named (tb := fun W' => rs c W' nw u) st fr nd tko bd cl.cl).run pins s σ H Dn I ?_⟩
  obtain ⟨ha, G0, B, G, δ, h, st', p⟩ := z
  refine ⟨ha, G0, B, G, δ, h, st', ?_⟩
  unfold sTry at p
  cases e : u δ h with
  | exc n fs δ' h' =>
    rw [e] at p
    intro σ' C dd G1 H1 h1 G' H' st1 sg af m xr
    exact try_ask hx hK cl p σ' C dd G1 H1 h1 G' H' st1 sg af m xr
  | nx δ' h' => rw [e] at p; exact p
  | brk δ' h' => rw [e] at p; exact p
  | ct δ' h' => rw [e] at p; exact p
  | ret d h' => rw [e] at p; exact p
  | bad => rw [e] at p; exact p
def eXf (ns : List Str) (i : Nat) (f : Str) : EF D := fun δ h => Ex.of (match δ[i]? with
  | some (some (.ex n fs)) => if ns.contains n then fs.lookup f else none
  | _ => none) h
theorem dx_xf {ns : List Str} {i : Nat} {x f : Str} {a : Addr} {oe : Obj} {k : Value} {dd : Option Addr} {pn : List (Addr × Obj)} {p : Pos} (hT : ∀ n C, ns.contains n = true → c.mg n = some (.ref C) → XfC X.K C) (hz : Zc k dd oe) (hf : ∃ vs, oe.data = .fields vs)
    (hN : X.N[i]? = some x) (hv : Vis X.env.scope x) (hK : X.K = c.K := by rfl) (hd : (x == ("__debug__" : Str)) = false := by decide) (hcd : (x == ("__classdict__" : Str)) = false := by decide) (hb : attributeBase (.Name x p) f (X.suite a ((a, oe) :: pn)).env (eval (.Name x p) (X.suite a ((a, oe) :: pn)).env) = eval (.Name x p) (X.suite a ((a, oe) :: pn)).env := by rfl) :
    PE (X.suite a ((a, oe) :: pn)) (.Attribute (.Name x p) f pos) (rd (c.at (some (a, k, dd))) W (eXf ns i f)) := by
  refine ⟨fun pins s σ H Q I z => ?_⟩
  obtain ⟨ha, G0, B, G, δ, h, st, q⟩ := z
  obtain ⟨d, e, q⟩ := post_of q
  split at e
  · rename_i n fs e1
    by_cases hns : ns.contains n = true
    case neg => rw [if_neg hns] at e; cases e
    rw [if_pos hns] at e
    obtain ⟨fp, os, nn, kk⟩ := st.sl
    obtain ⟨a', dd', C, fx, h1, h2, h3, h4⟩ := ownS_ex os e1
    cases h2
    cases h4 with
    | none => cases e
    | @some d0 _ xs _ g1 g2 g3 =>
      obtain ⟨na, w, g4, g5⟩ := dqF_look g3 e
      exact (pe_xf (hT n C hns h3) (by rw [hK]; exact na) hz hf (pe_var (X := X.suite a ((a, oe) :: pn)) hN hv hd hcd) hb).run pins s σ H Q I ⟨_, h1, rfl, rfl, d0, xs, w, rfl, g1, g4, q _ _ st.here _ g5⟩
  · cases e
/-- isinstance(e, C) -/
def eXi (ms : Str → Option Bool) (i : Nat) : EF D := fun δ h => Ex.of (match δ[i]? with
  | some (some (.ex n _)) => (ms n).map .bl
  | _ => none) h
end
end Fw
namespace Fw
open PySem PySem.Spec PyProof.Rows L2 Dz Vz
/-- a def that may be called; dd: what lacks -/
structure Cal (P : Program) (w : World) (c : Cn) (base : Heap) (nw : Bool) (k : Nat) (g : Addr) (n : Nat) (F : Fn) (dd : List D) : Prop where
  ex : ∃ (fd : FuncData) (ps : List Str) (ds : List Value) (dvs : List V), FnOk P w c.K c.mg base (L2.CX P w) k g fd ps (spD c nw n F) ∧ L2.Binds c.K fd ps ds ∧ Vals dvs ds ∧ ∀ ha G, DqAll c ha G dvs dd
  kp : PySem.W.keepIn c.K (.ref g) = true
theorem passF {X : Cx} : ∀ σ, PassesAt (L2.CX X.prog X.w) X σ (WE WF σ) := fun σ pins H s e s' I h => by
  obtain ⟨a, B, H', cls, d, _, _, _, _, _, _, _, q⟩ := h
  exact q.elim
section
variable {P : Program} {w : World} {c : Cn} {base : Heap} {nw : Bool} {k n : Nat} {g : Addr} {F : Fn} {fd : FuncData} {ps : List Str} {x qual : Str} {params : Arguments} {body : List Stmt} {scope : Scope} {dvs : List V} {kws : List (Str × V)}
theorem cal_of (D : FunD c.K x qual params body scope dvs kws g fd) (G : FnOk P w c.K c.mg base (L2.CX P w) k g fd ps (spD c nw n F)) (b : L2.Binds c.K fd ps []) : Cal P w c base nw k g n F [] :=
  ⟨⟨fd, ps, [], [], G, b, .nil, fun _ _ => .nil⟩, D.kp⟩
theorem cal_of1 {dv : List V} {dd : List D} (D : FunD c.K x qual params body scope dvs kws g fd) (G : FnOk P w c.K c.mg base (L2.CX P w) k g fd ps (spD c nw n F)) (b : ∃ ds, Vals dv ds ∧ L2.Binds c.K fd ps ds) (hd : ∀ ha G, DqAll c ha G dv dd) : Cal P w c base nw k g n F dd := by
  obtain ⟨ds, v, b⟩ := b
  exact ⟨⟨fd, ps, ds, dv, G, b, v, hd⟩, D.kp⟩
end
section
variable {X : Cx} {W : WX} {c : Cn} {nw : Bool} {e a b o : Expr} {es : List Expr} {pos : Pos} {te : TE} {f fa fb fo : EF D} {fs : EF (List D)} {k n : Nat} {g C : Addr} {F : Fn} {dd : List D} {x m : Str} {p apos : Pos}
theorem cc_call (G : Cal X.prog X.w c X.base false k g n F dd) (hr : Room k X.A) (hm : c.mg x = some (.ref g)) (hx : ∀ σ, PassesAt (L2.CX X.prog X.w) X σ (WE W σ)) (ha : PA X (e :: es) (rg c W fs)) (hg : Gl X x := by rfl) (hK : X.K = c.K := by rfl) (hM : X.mg = c.mg := by rfl)
    (hdb : (x == ("__debug__" : Str)) = false := by decide) (he : starEach (e :: es) X.env = (false, eval e X.env) :: starEach es X.env := by rfl) (hpl : (backTo pos (starEach es X.env)).any (·.1) = false := by rfl) :
    PE X (.Call (.Name x p) (e :: es) [] pos) (rd c W (eCall n F dd fs)) := by
  obtain ⟨K, mg, xa⟩ := c
  cases hK
  cases hM
  obtain ⟨fd, ps, ds, dvs, F1, b1, v1, d1⟩ := G.ex
  exact dx_call F1 hr hg hm G.kp b1 v1 d1 hx ha hdb he hpl
theorem cw_call (G : Cal X.prog X.w c X.base true k g n F dd) (hr : Room k X.A) (hm : c.mg x = some (.ref g)) (hx : ∀ σ, PassesAt (L2.CX X.prog X.w) X σ (WE W σ)) (ha : PA X (e :: es) (rg c W fs)) (hg : Gl X x := by rfl) (hK : X.K = c.K := by rfl) (hM : X.mg = c.mg := by rfl)
    (hdb : (x == ("__debug__" : Str)) = false := by decide) (he : starEach (e :: es) X.env = (false, eval e X.env) :: starEach es X.env := by rfl) (hpl : (backTo pos (starEach es X.env)).any (·.1) = false := by rfl) :
    PE X (.Call (.Name x p) (e :: es) [] pos) (rw' c W (eCall n F dd fs)) := by
  obtain ⟨K, mg, xa⟩ := c
  cases hK
  cases hM
  obtain ⟨fd, ps, ds, dvs, F1, b1, v1, d1⟩ := G.ex
  exact dw_call F1 hr hg hm G.kp b1 v1 d1 hx ha hdb he hpl
theorem cc_meth {nm : Str} {pl : Sem Bool} (mC : c.mg nm = some (.ref C)) (he : PE X o (rd c W fo)) (cl : Cls c.K C) (hm : Meth c.K C m g) (G : Cal X.prog X.w c X.base false k g n F dd) (hr : Room k X.A) (hx : ∀ σ, PassesAt (L2.CX X.prog X.w) X σ (WE W σ)) (ha : PA X (e :: es) (rg c W fs)) (hK : X.K = c.K := by rfl) (hM : X.mg = c.mg := by rfl)
    (hst : starEach (e :: es) X.env = (false, eval e X.env) :: starEach es X.env := by rfl) (hpl : (backTo pos (starEach es X.env)).any (·.1) = false := by rfl)
    (ht : eval (.Call (.Attribute o m apos) (e :: es) [] pos) X.env = (do
      let ov ← eval o X.env
      standAt apos.atName
      let (f, first) ← holding [ov] (getMethod ov m pl)
      callWith pos f first (backTo pos (starEach (e :: es) X.env)) (backToKw pos (keywordEach [] X.env))) := by rfl) :
    PE X (.Call (.Attribute o m apos) (e :: es) [] pos) (rd c W (eMeth nm m n F dd fo fs)) := by
  obtain ⟨K, mg, xa⟩ := c
  cases hK
  cases hM
  obtain ⟨fd, ps, ds, dvs, F1, b1, v1, d1⟩ := G.ex
  exact dx_meth mC he cl hm F1 hr b1 v1 d1 hx ha hst hpl ht
theorem cc_meth0 {nm : Str} {pl : Sem Bool} (mC : c.mg nm = some (.ref C)) (he : PE X o (rd c W fo)) (cl : Cls c.K C) (hm : Meth c.K C m g) (G : Cal X.prog X.w c X.base false k g n F dd) (hr : Room k X.A) (hx : ∀ σ, PassesAt (L2.CX X.prog X.w) X σ (WE W σ)) (hK : X.K = c.K := by rfl) (hM : X.mg = c.mg := by rfl)
    (ht : eval (.Call (.Attribute o m apos) [] [] pos) X.env = (do
      let ov ← eval o X.env
      standAt apos.atName
      let (f, first) ← holding [ov] (getMethod ov m pl)
      callWith pos f first (backTo pos (starEach [] X.env)) (backToKw pos (keywordEach [] X.env))) := by rfl) :
    PE X (.Call (.Attribute o m apos) [] [] pos) (rd c W (eMeth nm m n F dd fo eNil)) := by
  obtain ⟨K, mg, xa⟩ := c
  cases hK
  cases hM
  obtain ⟨fd, ps, ds, dvs, F1, b1, v1, d1⟩ := G.ex
  exact dx_meth0 mC he cl hm F1 hr b1 v1 d1 hx ht
theorem cc_make {nm : Str} (mC : c.mg nm = some (.ref C)) (co : COk c.K C) (M : Mk c.K C g) (G : Cal X.prog X.w c X.base false k g n F dd) (hr : Room (k + 1) X.A) (hx : ∀ σ, PassesAt (L2.CX X.prog X.w) X σ (WE W σ))
    (ha : PA X (e :: es) (ra c W fs)) (hg : Gl X nm := by rfl) (hK : X.K = c.K := by rfl) (hM : X.mg = c.mg := by rfl) (hdb : (nm == ("__debug__" : Str)) = false := by decide) (he : starEach (e :: es) X.env = (false, eval e X.env) :: starEach es X.env := by rfl) (hpl : (backTo pos (starEach es X.env)).any (·.1) = false := by rfl) :
    PE X (.Call (.Name nm p) (e :: es) [] pos) (rd c W (eMake nm n F dd fs)) := by
  obtain ⟨K, mg, xa⟩ := c
  cases hK
  cases hM
  obtain ⟨fd, ps, ds, dvs, F1, b1, v1, d1⟩ := G.ex
  exact dx_make mC co M F1 hr hg mC b1 v1 d1 hx ha hdb he hpl
end
theorem fn_calm {P : Program} {w : World} {K : PySem.W.Frag} {mg : Str → Option Value} {base : Heap} {k : Nat} {f : Addr} {fd : FuncData} {ps : List Str} {sp : Sp} (F : FnOk P w K mg base (L2.CX P w) k f fd ps sp) : FnOk P w K mg base CX0 k f fd ps (fun vs H Q _ => sp vs H Q fun _ _ _ => False) := by
  refine ⟨fun vs H Q E h => F.len vs H Q _ h, fun A outer s H args us vs Q E r e b v h => codeAny_mono (F.run A outer s H args us vs Q _ r e b v h) fun z s' q => ?_⟩
  cases z with
  | error u =>
    obtain ⟨a, B, H', cls, d, _, _, _, _, _, _, _, q⟩ := q
    exact q.elim
  | ok fl => cases fl <;> exact q
end Fw
namespace Fw
open PySem PySem.Spec PyProof.Rows L2 Dz Vz
section
variable {X : Cx} {W : WX} {c : Cn} {nw : Bool} {e a b o : Expr} {es : List Expr} {pos : Pos} {te : TE} {f fa fb fo : EF D} {fs : EF (List D)} {k n : Nat} {g C : Addr} {F : Fn} {dd : List D} {x m : Str} {p apos : Pos}
def eLenI (nm : Str) (F : Fn) (f : EF D) : EF D := fun δ h => (f δ h).bind fun d h1 => match d with
  | .ins n' fs => if n' = nm then (F [.ins n' fs] h1).nox.bind fun y h2 => match y with
    | .int i => if 0 ≤ i ∧ i < 1000000 then .ok (.int i) h2 else .bad
    | _ => .bad
    else .bad
  | _ => .bad
def iOwnI (nm fld : Str) (f : EF D) : EF (List D) := fun δ h => (f δ h).bind fun d h1 => Ex.of (match d with
  | .ins n' fs => if n' = nm then match fs.lookup fld with
    | some (.tup ds) => some ds
    | _ => none
    else none
  | _ => none) h1
def eNeI (nm : Str) (F : Fn) (fa fb : EF D) : EF D := fun δ h => (fa δ h).bind fun x h1 => (fb δ h1).bind fun y h2 => match x, y with
  | .ins n1 f1, .ins n2 f2 => if n1 = nm ∧ n2 = nm then (F [.ins n1 f1, .ins n2 f2] h2).nox.bind fun z h3 => match z with
    | .bl r => .ok (.bl (!r)) h3
    | _ => .bad
    else .bad
  | _, _ => .bad
end
end Fw
namespace Fw
open PySem PySem.Spec PyProof.Rows L2 Dz Vz
section
variable {X : Cx} {W : WX} {c : Cn} {nw : Bool} {e a b o : Expr} {es : List Expr} {pos : Pos} {te : TE} {f fa fb fo elt : EF D} {ga gb : EF Bool} {fs fs1 : EF (List D)}
structure LcJ (c : Cn) (ha : Option Addr) (bind : D → DE → Option DE) (test : EF Bool) (elt : EF D) (δw : DE) (items all : List D) (hE : D) (G1 H1 : Hp) (Da : Addr) (i : Nat) (H : Hp) : Prop where
  ex : ∃ G h acc ds ys fp, Af c ha G1 H1 G H h ∧ H Da = some (.lst acc) ∧ G Da = none ∧ OwnAll c ha G H acc ds fp ∧ fp.Nodup ∧ (∀ a ∈ fp, H1 a = none ∧ a ≠ Da) ∧ ds.length ≤ i ∧ lcGo bind test elt δw (items.drop i) h = .ok ys hE ∧ ds ++ ys = all
theorem lcw_run {ha : Option Addr} {bind : D → DE → Option DE} {g : TG} {vs : List Nat} {J : It} {items all : List D} {hE h1 : D} {G0 B G1 H1 : Hp} {σ : L2.St} {δ : DE} {Da : Addr} {Qd : Hp → Prop} (st : Sta c ha G0 B G1 H1 σ δ h1) (w : WalkD c ha G1 J items) (bd : BindD c vs g bind) (sz : szOk items.length = true)
    (hD : H1 Da = none) (go : lcGo bind ga f (wipeD δ vs) items h1 = .ok all hE)
    (fin : ∀ G H acc fp, Af c ha G1 H1 G H hE → H Da = some (.lst acc) → G Da = none → OwnAll c ha G H acc all fp → fp.Nodup → (∀ a ∈ fp, H1 a = none ∧ a ≠ Da) → Qd H) : LcW J g (rt c WF ga) (rw' c WF f) vs σ H1 Da Qd := by
  have hk := st.hne
  refine ⟨fun i m H => m = items.length - i ∧ i ≤ items.length ∧ LcJ c ha bind ga f (wipeD δ vs) items all hE G1 H1 Da i H, ⟨_, rfl, Nat.zero_le _, ⟨G1, h1, [], [], all, [], ?_⟩⟩, ?_⟩
  · have a0 : Af c ha G1 H1 G1 (upd H1 Da (.lst [])) h1 := .of st.gh st.hd (Mv.hid st.gh hD) (same_new hD)
    exact ⟨a0, upd_same, old_none st.gh hD, .nil, by simp, (fun a z => nomatch z), Nat.zero_le _, go, rfl⟩
  · rintro i m H ⟨rfl, hi, ⟨G, h, acc, ds, ys, fp, af, hDa, gD, da, nf, kf, hl, go, ea⟩⟩
    by_cases hlt : i < items.length
    · refine .inr ⟨w.go i G H af.gg af.gh hlt, fun H' => i + 1 ≤ items.length ∧ LcJ c ha bind ga f (wipeD δ vs) items all hE G1 H1 Da (i + 1) H', fun H' hn => ⟨_, by omega, rfl, hn⟩, fun x H' y => ?_⟩
      have ei : items[i]? = some items[i] := List.getElem?_eq_getElem hlt
      obtain ⟨G2, m2, s2, dx⟩ := w.yld i G H x H' _ af.gg af.gh ei y
      have af2 : Af c ha G H G2 H' h := .of af.gh af.hd m2 s2
      have st2 := ((st.wipe vs).to af).to af2
      have ed : items.drop i = items[i] :: items.drop (i + 1) := (List.drop_eq_getElem_cons hlt)
      rw [ed] at go
      unfold lcGo at go
      have keep : ∀ {G3 H3 : Hp} {h3 : D}, Af c ha G H G3 H3 h3 → OwnAll c ha G3 H3 acc ds fp := fun {G3 H3 h3} a3 => ownAll_keep a3.gg da fun b hb => by
        obtain ⟨g, hne⟩ := ownAll_at da b hb
        obtain ⟨u, e⟩ := ne_some hne
        exact ⟨by rw [e]; exact a3.bt b u (fun z => hk b z (kf b hb).1) e, (a3.mv.nw b hne).trans g⟩
      cases qb : bind items[i] (wipeD δ vs) with
      | none => rw [qb] at go; cases go
      | some δ2 =>
        simp only [qb] at go
        obtain ⟨b, h2, e1, go2⟩ := bind_ok go
        have e1' := nox_ok e1
        refine bd st2 dx qb fun σ2 st3 we => ⟨we.trans (by rw [wipe_wipe]), ha, G0, B, G2, δ2, h, st3, ?_⟩
        rw [e1']
        intro G3 H3 af3
        have d03 := (af.trans af2).trans af3
        have hD3 : H3 Da = some (.lst acc) := af3.bt _ _ (fun z => hk Da z hD) (s2 _ _ hDa)
        have gD3 : G3 Da = none := (af3.mv.nw Da (some_ne (s2 _ _ hDa))).trans ((m2.nw Da (some_ne hDa)).trans gD)
        cases b with
        | false =>
          have go3 : lcGo bind ga f (wipeD δ vs) (items.drop (i + 1)) h2 = .ok ys hE := go2
          exact ⟨hlt, ⟨G3, h2, acc, ds, ys, fp, d03, hD3, gD3, keep (af2.trans af3), nf, kf, by omega, go3, ea⟩⟩
        | true =>
          have go3 : ((f δ2 h2).nox.bind fun y h3 => (lcGo bind ga f (wipeD δ vs) (items.drop (i + 1)) h3).bind fun ys h4 => .ok (y :: ys) h4) = Ex.ok ys hE := go2
          obtain ⟨y1, h3, e3, go4⟩ := bind_ok go3
          obtain ⟨ys1, h4, e4, go5⟩ := bind_ok go4
          cases go5
          have e3' := nox_ok e3
          refine ⟨ha, G0, B, G3, δ2, h2, st3.to af3, ?_⟩
          rw [e3']
          intro G4 H4 af4 v ⟨fv, ov, nv, kv⟩
          have hD4 : H4 Da = some (.lst acc) := af4.bt _ _ (fun z => hk Da z hD) hD3
          have gD4 : G4 Da = none := (af4.mv.nw Da (some_ne hD3)).trans gD3
          have o3 := keep (af2.trans af3)
          have o4 := keep ((af2.trans af3).trans af4)
          have nDv : Da ∉ fv := fun z => by rw [kv Da z] at hD3; cases hD3
          refine ⟨acc, hD4, ?_, hlt, ⟨G4, h3, acc ++ [v], ds ++ [y1], ys1, fp ++ (fv ++ []), af_put (d03.trans af4) hD gD4 hk (some_ne hD4), upd_same, gD4, ownAll_app (ownAll_keep (Same.refl _) o4 fun b hb => ⟨upd_ne (kf b hb).2, (ownAll_at o4 b hb).1⟩) (.cons (own_upd ov nDv) .nil), ?_, fun b hb => ?_, ?_, e4, by rw [List.append_assoc]; exact ea⟩⟩
          · rw [ownAll_len da, sizeLine_eq]
            have := of_decide_eq_true sz
            omega
          · rw [List.append_nil]
            refine List.nodup_append.mpr ⟨nf, nv, fun x hx y hy => ?_⟩
            rintro rfl
            exact (ownAll_at o3 x hx).2 (kv x hy)
          · rw [List.append_nil] at hb
            rcases List.mem_append.mp hb with z | z
            · exact kf b z
            · exact ⟨af_old ((af.trans af2).trans af3) (kv b z), fun e => nDv (by rw [← e]; exact z)⟩
          · rw [List.length_append, List.length_singleton]
            omega
    · have hi2 : i = items.length := by omega
      subst hi2
      rw [List.drop_length] at go
      cases go
      rw [List.append_nil] at ea
      subst ea
      exact .inl ⟨w.stop G H af.gg af.gh, fin G H acc fp af hDa gD da nf kf⟩
theorem rw_lc {vs : List Nat} {bind : D → DE → Option DE} {g : TG} (bd : BindD c vs g bind) (σ : L2.St) (H : Hp) (Q : VK) (x : rw' c W (eLc vs fs bind ga f) σ H Q) : tLc (ri c W fs) g (rt c WF ga) (rw' c WF f) vs σ H Q := by
  obtain ⟨ha, G0, B, G, δ, h, st, p⟩ := x
  unfold eLc eLcL at p
  rw [bind_assoc] at p
  refine ⟨ha, G0, B, G, δ, h, st, post_imp (post_bind p) fun ds h1 G1 H1 af p1 J w Da hD => ?_⟩
  obtain ⟨hz, ys, h2, go, p2⟩ := post_lcL p1
  refine lcw_run (st.to af) w bd hz hD go fun G2 H2 acc fp af2 hDa gD da nf kf => ?_
  refine p2 G2 H2 af2 _ ⟨Da :: fp, .hl hDa gD da, List.nodup_cons.mpr ⟨fun z => (kf Da z).2 rfl, nf⟩, fun b hb => ?_⟩
  rcases List.mem_cons.mp hb with z | z
  · rw [z]; exact af_old af hD
  · exact af_old af (kf b z).1
theorem dw_lc {elt tg iter : Expr} {ifs : List Expr} {scope : Scope} {own : List (Str × Nat)} {bind : D → DE → Option DE} {g : TG} (hc : X.calm = true) (hN : X.N.Nodup) (hi : PI X tg iter (ri c W fs)) (ok : BlkOk X.N X.env.scope scope own) (bd : BindD c (own.map (·.2)) g bind)
    (hg : ∀ (s : Shared) (H : Hp) (C : Addr) (cl : List (Str × Addr)) (fp : List Addr), PG (X.blk s H scope (compEnvC scope cl C X.env) fp) tg g) (ht : ∀ (s : Shared) (H : Hp) (C : Addr) (cl : List (Str × Addr)) (fp : List Addr), PTs (X.blk s H scope (compEnvC scope cl C X.env) fp) ifs (rt c WF ga))
    (he : ∀ (s : Shared) (H : Hp) (C : Addr) (cl : List (Str × Addr)) (fp : List Addr), PE (X.blk s H scope (compEnvC scope cl C X.env) fp) elt (rw' c WF f)) (hs : ∀ x, foldedSetIterable iter X.env x = pure x := by intro _; rfl) :
    PE X (.ListComp elt [⟨tg, iter, ifs, 0⟩] scope pos) (rw' c W (eLc (own.map (·.2)) fs bind ga f)) := pw_to' (pe_lc hc hN hi ok hg ht he hs) (rw_lc bd)
end
end Fw
namespace Fw
open PySem PySem.Spec PyProof.Rows L2 Dz Vz
/-- no slot holds a list of its own -/
def slF (δ : DE) : Bool := δ.all fun o => match o with
  | some .me => true
  | some d => d.fr
  | none => true
def eInn (g : EF (List D)) : EF (List D) := fun δ h => if slF δ then g δ h else .bad
end Fw
namespace Kf
open PySem PySem.Spec PyProof.Rows L2 Kx
def erB (K : PySem.W.Frag) (P C : Addr) : Bool :=
  (match K.lookup C with
    | some ⟨.type t, _, .cls cd, sl⟩ => (match sl.toList with
      | [_, _, _, _, some (.builtin n), _] => t == "type" && (cd.mro == (Value.ref C :: .ref P :: PySem.HandSPX.veTail) && (n == "ValueError.__new__" && (!cd.hasDel && cd.hasDict)))
      | _ => false)
    | _ => false) &&
  (He.eqO (PySem.W.findIn K (.ref C) "__setattr__") (some (some (.builtin "object.__setattr__"))) &&
  (He.eqO (PySem.W.findIn K (.ref C) "__getattribute__") (some (some (.builtin "BaseException.__getattribute__"))) &&
  (He.eqO (PySem.W.findIn K (.ref C) "__getattr__") (some none) &&
  (He.eqO (PySem.W.findIn K (.ref C) "__class__") (some (some (.builtin "object.__class__"))) &&
  (decide (PySem.W.typeIn K (.ref C) = some (.type "type")) && PySem.W.keepIn K (.ref C))))))
theorem erB_ok {K : PySem.W.Frag} {P C : Addr} (h : erB K P C = true) : Er K P C := by
  obtain ⟨h1, h⟩ := He.ba h
  obtain ⟨h2, h⟩ := He.ba h
  obtain ⟨h3, h⟩ := He.ba h
  obtain ⟨h4, h⟩ := He.ba h
  obtain ⟨h5, h⟩ := He.ba h
  obtain ⟨h6, h7⟩ := He.ba h
  cases e : K.lookup C with
  | none =>
    rw [e] at h1
    cases h1
  | some o =>
    obtain ⟨oc, od, dt, sl⟩ := o
    rw [e] at h1
    cases oc with
    | type t =>
      cases dt with
      | cls cd =>
        obtain ⟨sl⟩ := sl
        match sl, h1, e with
        | [k0, k1, k2, k3, some (.builtin n), k5], h1, e =>
          obtain ⟨g1, g⟩ := He.ba (show (t == "type" && (cd.mro == (Value.ref C :: .ref P :: PySem.HandSPX.veTail) && (n == "ValueError.__new__" && (!cd.hasDel && cd.hasDict)))) = true from h1)
          obtain ⟨g2, g⟩ := He.ba g
          obtain ⟨g3, g⟩ := He.ba g
          obtain ⟨g4, g5⟩ := He.ba g
          obtain ⟨nm, bs, mro, ns, qn, hd, sn, sub, ab, col, del⟩ := cd
          have e1 : t = "type" := eq_of_beq g1
          have e2 : mro = Value.ref C :: .ref P :: PySem.HandSPX.veTail := beq_iff_eq.mp g2
          have e3 : n = "ValueError.__new__" := eq_of_beq g3
          have e4 : del = false := by
            cases del with
            | false => rfl
            | true => cases g4
          have e5 : hd = true := g5
          subst e1 e2 e3 e4 e5
          have hcl : PySem.W.clsIn K C = some { name := nm, bases := bs, mro := Value.ref C :: .ref P :: PySem.HandSPX.veTail, ns := ns, qualname := qn, hasDict := true, slotNames := sn, subclasses := sub, abstract := ab, collection := col, hasDel := false } := by
            unfold PySem.W.clsIn
            rw [e] <;> rfl
          have hsub : PySem.W.subIn K (.ref C) (.type "BaseException") = some true := by
            show PySem.W.mroIn K C (.type "BaseException") = some true
            unfold PySem.W.mroIn
            rw [hcl]
            rfl
          exact ⟨⟨⟨nm, qn, ns, bs, .ref P :: PySem.HandSPX.veTail, sn, sub, ab, col, od, k0, k1, k2, k3, k5, e, rfl⟩, He.eqO_ok h2, hsub, of_decide_eq_true h6, h7⟩, ⟨_, hcl, rfl⟩, He.eqO_ok h3, He.eqO_ok h4, by unfold PySem.W.hasDictIn; rw [hcl]; rfl, He.eqO_ok h5⟩
      | _ => cases h1
    | _ => cases dt <;> cases h1
end Kf
namespace Fw
open PySem PySem.Spec PyProof.Rows L2 Dz Vz
section
variable {X : Cx} {W : WX} {c : Cn} {nw : Bool} {e a b o : Expr} {es : List Expr} {pos : Pos} {f fa fb fo : EF D} {fs : EF (List D)}
theorem xv (i : Nat) {x : Str} (hN : X.N[i]? = some x := by rfl) (hv : Vis X.env.scope x := by first | exact Or.inl rfl | exact Or.inr (Or.inl rfl) | exact Or.inr (Or.inr rfl)) (hd : (x == ("__debug__" : Str)) = false := by decide) (hcd : (x == ("__classdict__" : Str)) = false := by decide) : PE X (.Name x pos) (rd c W (eV i)) := dx_v hN hv hd hcd
theorem xM (i : Nat) {x : Str} (hN : X.N[i]? = some x := by rfl) (hv : Vis X.env.scope x := by first | exact Or.inl rfl | exact Or.inr (Or.inl rfl) | exact Or.inr (Or.inr rfl)) (hd : (x == ("__debug__" : Str)) = false := by decide) (hcd : (x == ("__classdict__" : Str)) = false := by decide) : PE X (.Name x pos) (rm c W (eM i)) := dm_v hN hv hd hcd
theorem xP (i : Nat) {x : Str} (hN : X.N[i]? = some x := by rfl) (hv : Vis X.env.scope x := by first | exact Or.inl rfl | exact Or.inr (Or.inl rfl) | exact Or.inr (Or.inr rfl)) (hd : (x == ("__debug__" : Str)) = false := by decide) (hcd : (x == ("__classdict__" : Str)) = false := by decide) : PE X (.Name x pos) (rp c W (pV i)) := dp_v hN hv hd hcd
theorem xA (i : Nat) {x n : Str} {p : Pos} (hN : X.N[i]? = some x := by rfl) (hv : Vis X.env.scope x := by first | exact Or.inl rfl | exact Or.inr (Or.inl rfl) | exact Or.inr (Or.inr rfl)) (hd : (x == ("__debug__" : Str)) = false := by decide) (hcd : (x == ("__classdict__" : Str)) = false := by decide) (hb : attributeBase (.Name x p) n X.env (eval (.Name x p) X.env) = eval (.Name x p) X.env := by rfl) (hK : X.K = c.K := by rfl) : PE X (.Attribute (.Name x p) n pos) (rd c W (eAtV i n)) := dx_atV hN hv hd hcd hb hK
theorem xG (i : Nat) {x : Str} {p : Pos} (hs : PA X es (rg c W fs)) (hN : X.N[i]? = some x := by rfl) (hv : Vis X.env.scope x := by first | exact Or.inl rfl | exact Or.inr (Or.inl rfl) | exact Or.inr (Or.inr rfl)) (hd : (x == ("__debug__" : Str)) = false := by decide) (hcd : (x == ("__classdict__" : Str)) = false := by decide) (hst : starEach (.Name x p :: es) X.env = (false, eval (.Name x p) X.env) :: starEach es X.env := by rfl) : PA X (.Name x p :: es) (rg c W (eCons (eVm i) fs)) := dg_v hN hv hs hd hcd hst
/-- a module's int, string, tuple of flat things -/
theorem xgI {x : Str} {i : Int} (hm : ∃ t, c.mg x = some (.int i t)) (hg : Gl X x := by rfl) (hM : X.mg = c.mg := by rfl) (hdb : (x == ("__debug__" : Str)) = false := by decide) : PE X (.Name x pos) (rd c W (eC (.int i))) := by
  obtain ⟨t, e⟩ := hm
  exact dx_c (pe_glob (v := .int i) hg (by rw [hM]; exact e) ⟨_, rfl⟩ hdb) fun _ _ => .int i
theorem xgT {x : Str} {ds : List D} {g : Addr} (hm : c.mg x = some (.ref g) ∧ ∀ ha G, Dq c ha G (.ref g) (.tup ds)) (hg : Gl X x := by rfl) (hM : X.mg = c.mg := by rfl) (hdb : (x == ("__debug__" : Str)) = false := by decide) : PE X (.Name x pos) (rd c W (eC (.tup ds))) :=
  dx_c (pe_glob (v := .ref g) hg (by rw [hM]; exact hm.1) rfl hdb) hm.2
end
structure CT where
  x : Str
  as : List Str
  ms : List Str
structure Tb where
  fn : List He.DefD
  gl : List Str
  frs : List Str
  nI : List (Str × Int)
  nS : List (Str × Str)
  nT : List (Str × List He.Dv)
  cls : List CT
  bas : Str
  errs : List Str
  bare : List Str
  ini : List (Str × List Str)
  exm : List (Str × Str × Bool)
  kit : List (Str × Str × Bool)
  /-- class and special method -/
  spc : List (Str × Str)
  nes : List Str
  vcl : List Str
abbrev nb6 : List String := ["int", "bool", "str", "list", "tuple", "dict"]
abbrev six : List String := ["NoneType", "bool", "int", "str", "list", "tuple"]
def gtB (K : PySem.W.Frag) : Bool := He.eqO (PySem.W.specialIn K (.builtin "object.__class__") "__get__") (some (some (.builtin "getset_descriptor.__get__"))) && decide (PySem.W.takesIn K (.builtin "object.__class__") = some true)
def clsB (K : PySem.W.Frag) (t : CT) : Bool := (He.Fa.cls t.x).ok K && (t.as.all (fun f => (He.Fa.noat t.x f).ok K) && ((He.Fa.mkr t.x).ok K && (t.ms.all (fun m => (He.Fa.meth t.x m).ok K) && (He.eqO (PySem.W.findIn K (.ref (He.ga K t.x)) "__class__") (some (some (.builtin "object.__class__"))) && (decide (PySem.W.mroIn K (He.ga K t.x) (.type "object") = some true) && nb6.all (fun n => decide (PySem.W.kitOne K (.ref (He.ga K t.x)) (.type n) = some false)))))))
def iniB (K : PySem.W.Frag) (p : Str × List Str) : Bool := He.eqO (PySem.W.findIn K (.ref (He.ga K p.1)) "__init__") (some (some (.ref (He.ma K (He.ga K p.1) "__init__")))) && (decide (PySem.W.typeIn K (.ref (He.ma K (He.ga K p.1) "__init__")) = some (.type "function")) && p.2.all (fun f => He.eqO (PySem.W.findIn K (.ref (He.ga K p.1)) f) (some none)))
def spcB (K : PySem.W.Frag) (p : Str × Str) : Bool := He.eqO (PySem.W.findIn K (.ref (He.ga K p.1)) p.2) (some (some (.ref (He.ma K (He.ga K p.1) p.2)))) && PySem.W.isFn K (.ref (He.ma K (He.ga K p.1) p.2))
def gcdB (K : PySem.W.Frag) : Bool := He.eqO (PySem.W.nsIn K mainGlobals "gcd") (some (some (.builtin "math.gcd")))
def Tb.ck (t : Tb) (K : PySem.W.Frag) : Bool := t.gl.all (fun x => (He.Fa.glo x).ok K) && (t.frs.all (fun x => (He.Fa.free x).ok K) && (t.nI.all (fun p => (He.Fa.int p.1 p.2).ok K) && (t.nS.all (fun p => (He.Fa.str p.1 p.2).ok K) && (t.nT.all (fun p => He.tupB K p.1 p.2) && (t.cls.all (clsB K) && (t.errs.all (fun x => Kf.erB K (He.ga K t.bas) (He.ga K x)) && (t.bare.all (fun x => PySem.W.excIn K (He.ga K x) PySem.HandSPX.veTail "ValueError.__new__") && (t.ini.all (iniB K) &&
  (t.exm.all (fun p => decide (PySem.W.exmOne K (.ref (He.ga K p.1)) (.ref (He.ga K p.2.1)) = some p.2.2)) && (t.kit.all (fun p => decide (PySem.W.kitOne K (.ref (He.ga K p.1)) (.ref (He.ga K p.2.1)) = some p.2.2)) && (t.spc.all (spcB K) && (t.nes.all (fun x => He.eqO (PySem.W.findIn K (.ref (He.ga K x)) "__ne__") (some (some (.builtin "object.__ne__")))) && (t.vcl.all (fun x => six.all fun n => decide (PySem.W.kitOne K (.type n) (.ref (He.ga K x)) = some false)) && (gtB K && gcdB K))))))))))))))
structure Fs (t : Tb) (K : PySem.W.Frag) (mg : Str → Option Value) : Prop where
  says : He.SaysD [] t.fn K
  gl : ∀ (i : Nat) (x : Str), t.gl[i]? = some x → mg x = some (.ref (He.ga K x))
  fr : ∀ (i : Nat) (x : Str), t.frs[i]? = some x → mg x = none
  int : ∀ (i : Nat) (p : Str × Int), t.nI[i]? = some p → ∃ k, mg p.1 = some (.int p.2 k)
  str : ∀ (i : Nat) (p : Str × Str), t.nS[i]? = some p → ∃ k, mg p.1 = some (.str p.2 k)
  tup : ∀ (i : Nat) (p : Str × List He.Dv), t.nT[i]? = some p → ∀ H, SqT K H (He.ga K p.1) (p.2.map (He.Dv.v K))
  cls : ∀ (i : Nat) (p : CT), t.cls[i]? = some p → COk K (He.ga K p.x) ∧ Mk K (He.ga K p.x) (He.ma K (He.ga K p.x) "__init__")
  noat : ∀ (i : Nat) (p : CT), t.cls[i]? = some p → ∀ m ∈ p.as, NoAttr K (He.ga K p.x) m
  meth : ∀ (i : Nat) (p : CT), t.cls[i]? = some p → ∀ m ∈ p.ms, Meth K (He.ga K p.x) m (He.ma K (He.ga K p.x) m)
  er : ∀ (i : Nat) (x : Str), t.errs[i]? = some x → Kx.Er K (He.ga K t.bas) (He.ga K x)
  bare : ∀ (i : Nat) (x : Str), t.bare[i]? = some x → PySem.W.excIn K (He.ga K x) PySem.HandSPX.veTail "ValueError.__new__" = true
  ini : ∀ (i : Nat) (p : Str × List Str), t.ini[i]? = some p → iniB K p = true
  exm : ∀ p ∈ t.exm, PySem.W.exmOne K (.ref (He.ga K p.1)) (.ref (He.ga K p.2.1)) = some p.2.2
  kit : ∀ p ∈ t.kit, PySem.W.kitOne K (.ref (He.ga K p.1)) (.ref (He.ga K p.2.1)) = some p.2.2
  spc : ∀ (i : Nat) (p : Str × Str), t.spc[i]? = some p → PySem.W.findIn K (.ref (He.ga K p.1)) p.2 = some (some (.ref (He.ma K (He.ga K p.1) p.2))) ∧ PySem.W.isFn K (.ref (He.ma K (He.ga K p.1) p.2)) = true
  ne : ∀ (i : Nat) (x : Str), t.nes[i]? = some x → PySem.W.findIn K (.ref (He.ga K x)) "__ne__" = some (some (.builtin "object.__ne__"))
  vcl : ∀ x ∈ t.vcl, ∀ n ∈ six, PySem.W.kitOne K (.type n) (.ref (He.ga K x)) = some false
  gt : GtK K
  gcd : mg "gcd" = some (.builtin "math.gcd")
theorem Fs.of {t : Tb} {K : PySem.W.Frag} {h : Heap} {mg : Str → Option Value} (X : K.In h) (G : h.Ns mainGlobals mg) (k : t.ck K = true) (c : He.SaysD [] t.fn K) : Fs t K mg := by
  obtain ⟨k1, k⟩ := He.ba k
  obtain ⟨k2, k⟩ := He.ba k
  obtain ⟨k3, k⟩ := He.ba k
  obtain ⟨k4, k⟩ := He.ba k
  obtain ⟨k5, k⟩ := He.ba k
  obtain ⟨k6, k⟩ := He.ba k
  obtain ⟨k7, k⟩ := He.ba k
  obtain ⟨k8, k⟩ := He.ba k
  obtain ⟨k9, k⟩ := He.ba k
  obtain ⟨k10, k⟩ := He.ba k
  obtain ⟨k11, k⟩ := He.ba k
  obtain ⟨k12, k⟩ := He.ba k
  obtain ⟨k13, k⟩ := He.ba k
  obtain ⟨kv, k⟩ := He.ba k
  obtain ⟨k14, k15⟩ := He.ba k
  obtain ⟨g1, g2⟩ := He.ba k14
  have cc : ∀ (i : Nat) (p : CT), t.cls[i]? = some p → clsB K p = true := fun i p e => List.all_eq_true.mp k6 p (List.mem_of_getElem? e)
  refine ⟨c, fun i x e => He.glo_ok X G (List.all_eq_true.mp k1 x (List.mem_of_getElem? e)), fun i x e => He.free_ok X G (List.all_eq_true.mp k2 x (List.mem_of_getElem? e)), fun i p e => He.int_ok X G (List.all_eq_true.mp k3 p (List.mem_of_getElem? e)), fun i p e => He.str_ok X G (List.all_eq_true.mp k4 p (List.mem_of_getElem? e)),
    fun i p e H => He.tupB_ok (List.all_eq_true.mp k5 p (List.mem_of_getElem? e)) H, fun i p e => ?_, fun i p e m hm => ?_, fun i p e m hm => ?_, fun i x e => Kf.erB_ok (List.all_eq_true.mp k7 x (List.mem_of_getElem? e)), fun i x e => List.all_eq_true.mp k8 x (List.mem_of_getElem? e), fun i p e => List.all_eq_true.mp k9 p (List.mem_of_getElem? e),
    fun p hp => of_decide_eq_true (List.all_eq_true.mp k10 p hp), fun p hp => of_decide_eq_true (List.all_eq_true.mp k11 p hp), fun i p e => ?_, fun i x e => He.eqO_ok (List.all_eq_true.mp k13 x (List.mem_of_getElem? e)), fun x hx n hn => of_decide_eq_true (List.all_eq_true.mp (List.all_eq_true.mp kv x hx) n hn), ⟨He.eqO_ok g1, of_decide_eq_true g2⟩, PySem.W.mg_of X G (He.eqO_ok k15)⟩
  · obtain ⟨c1, z⟩ := He.ba (cc i p e)
    obtain ⟨c2, z⟩ := He.ba z
    obtain ⟨c3, z⟩ := He.ba z
    obtain ⟨c4, z⟩ := He.ba z
    obtain ⟨c5, z⟩ := He.ba z
    obtain ⟨c6, c7⟩ := He.ba z
    exact ⟨⟨He.cls_ok c1, He.eqO_ok c5, of_decide_eq_true c6, fun n hn => of_decide_eq_true (List.all_eq_true.mp c7 n hn)⟩, He.mkr_ok c3⟩
  · obtain ⟨c1, z⟩ := He.ba (cc i p e)
    obtain ⟨c2, z⟩ := He.ba z
    exact He.noat_ok (List.all_eq_true.mp c2 m hm)
  · obtain ⟨c1, z⟩ := He.ba (cc i p e)
    obtain ⟨c2, z⟩ := He.ba z
    obtain ⟨c3, z⟩ := He.ba z
    obtain ⟨c4, z⟩ := He.ba z
    exact He.meth_ok (List.all_eq_true.mp c4 m hm)
  · obtain ⟨c1, c2⟩ := He.ba (List.all_eq_true.mp k12 p (List.mem_of_getElem? e))
    exact ⟨He.eqO_ok c1, c2⟩
def msOf (l : List (Str × Bool)) : Str → Option Bool := fun n => l.lookup n
theorem lookup_mem {α : Type} : ∀ {l : List (Str × α)} {n : Str} {b : α}, l.lookup n = some b → (n, b) ∈ l
  | [], n, b, h => nomatch h
  | (m, x) :: l, n, b, h => by
    rw [List.lookup_cons] at h
    cases q : n == m with
    | true =>
      rw [q] at h
      cases h
      rw [eq_of_beq q]
      exact List.mem_cons_self
    | false =>
      rw [q] at h
      exact List.mem_cons_of_mem _ (lookup_mem h)
theorem ms_ok {t : Tb} {c : Cn} (T : Fs t c.K c.mg) {l : List (Str × Bool)} {y : Str} (h : l.all (fun p => t.gl.contains p.1 && t.exm.any (fun q => decide (q = (p.1, y, p.2)))) = true) (n : Str) (b : Bool) (C : Addr) (e : msOf l n = some b) (m : c.mg n = some (.ref C)) : PySem.W.exmOne c.K (.ref C) (.ref (He.ga c.K y)) = some b := by
  obtain ⟨h1, h2⟩ := He.ba (List.all_eq_true.mp h _ (lookup_mem e))
  obtain ⟨q, hq, eq⟩ := List.any_eq_true.mp h2
  have eq := of_decide_eq_true eq
  subst eq
  obtain ⟨i, hi⟩ := List.getElem?_of_mem (List.contains_iff_mem.mp h1)
  rw [T.gl i n hi] at m
  cases m
  exact T.exm _ hq
theorem xf_ok {t : Tb} {c : Cn} (T : Fs t c.K c.mg) {l : List Str} (h : l.all (fun p => t.gl.contains p && t.errs.contains p) = true) (n : Str) (C : Addr) (e : l.contains n = true) (m : c.mg n = some (.ref C)) : XfC c.K C := by
  obtain ⟨h1, h2⟩ := He.ba (List.all_eq_true.mp h _ (List.contains_iff_mem.mp e))
  obtain ⟨i, hi⟩ := List.getElem?_of_mem (List.contains_iff_mem.mp h1)
  obtain ⟨j, hj⟩ := List.getElem?_of_mem (List.contains_iff_mem.mp h2)
  rw [T.gl i n hi] at m
  cases m
  exact (T.er j n hj).xf
structure EA1 (P : Program) (w : World) (c : Cn) (base : Heap) (x f : Str) : Prop where
  ex : ∃ gP C fI fd, Er1 P w c base gP x f C fI fd
structure EA2 (P : Program) (w : World) (c : Cn) (base : Heap) (x f g : Str) : Prop where
  ex : ∃ gP C fI fd, Er2 P w c base gP x f g C fI fd
structure EA0 (c : Cn) (x : Str) : Prop where
  ex : ∃ gP C, Er0 c gP x C
section
variable {P : Program} {w : World} {K : PySem.W.Frag} {mg : Str → Option Value} {base : Heap} {t : Tb} {fd : FuncData} {x n n2 : Str} {params : Arguments} {body : List Stmt} {scope : Scope} {qual nm : Str} {kws : List (Str × V)}
theorem lenN {C : Addr} {n : Nat} {fl : List V → List (Str × V)} {vs : List V} {H : Hp} {Q : VK} {E : XK} (h : Ky.spIn C n fl vs H Q E) : vs.length = n + 1 := by
  obtain ⟨a, xs, rfl, hl, _⟩ := h
  rw [List.length_cons, hl]
theorem ea1 (T : Fs t K mg) (i j k : Nat) (h1 : t.errs[i]? = some x) (h2 : t.ini[j]? = some (x, [n])) (h3 : t.gl[k]? = some x) (G : FnOk P w K mg base CX0 1 (He.ma K (He.ga K x) "__init__") fd ["self", n] (Ky.spIn (He.ga K x) 1 (Ky.fl1 n))) (b : L2.Binds K fd ["self", n] []) : EA1 P w ⟨K, mg, none⟩ base x n := by
  obtain ⟨c1, c⟩ := He.ba (T.ini j _ h2)
  obtain ⟨c2, c3⟩ := He.ba c
  have c4 := He.eqO_ok (List.all_eq_true.mp c3 n List.mem_cons_self)
  exact ⟨_, _, _, fd, ⟨T.er i x h1, T.gl k x h3, c4, He.eqO_ok c1, of_decide_eq_true c2, G, b⟩⟩
theorem ea2 (T : Fs t K mg) (i j k : Nat) (h1 : t.errs[i]? = some x) (h2 : t.ini[j]? = some (x, [n, n2])) (h3 : t.gl[k]? = some x) (G : FnOk P w K mg base CX0 1 (He.ma K (He.ga K x) "__init__") fd ["self", n, n2] (Ky.spIn (He.ga K x) 2 (Ky.fl2 n n2))) (b : L2.Binds K fd ["self", n, n2] []) : EA2 P w ⟨K, mg, none⟩ base x n n2 := by
  obtain ⟨c1, c⟩ := He.ba (T.ini j _ h2)
  obtain ⟨c2, c3⟩ := He.ba c
  have c4 := He.eqO_ok (List.all_eq_true.mp c3 n List.mem_cons_self)
  have c5 := He.eqO_ok (List.all_eq_true.mp c3 n2 (List.mem_cons_of_mem _ List.mem_cons_self))
  exact ⟨_, _, _, fd, ⟨T.er i x h1, T.gl k x h3, c4, c5, He.eqO_ok c1, of_decide_eq_true c2, G, b⟩⟩
theorem ea0 (T : Fs t K mg) (i j k : Nat) (h1 : t.errs[i]? = some x) (h2 : t.bare[j]? = some x) (h3 : t.gl[k]? = some x) : EA0 ⟨K, mg, none⟩ x := ⟨_, _, ⟨T.er i x h1, T.gl k x h3, T.bare j x h2, (T.er i x h1).ox.kC⟩⟩
theorem noatI (T : Fs t K mg) (j : Nat) {l : List Str} (h2 : t.ini[j]? = some (x, l)) (hn : n ∈ l) : PySem.W.findIn K (.ref (He.ga K x)) n = some none := by
  obtain ⟨c1, c⟩ := He.ba (T.ini j _ h2)
  obtain ⟨c2, c3⟩ := He.ba c
  exact He.eqO_ok (List.all_eq_true.mp c3 n hn)
end
section
variable {X : Cx} {W : WX} {c : Cn} {nw : Bool} {e : Expr} {es : List Expr} {pos : Pos} {fs : EF (List D)} {x n g : Str} {p : Pos}
theorem xr1 (E : EA1 X.prog X.w c X.base x n) (tk : Takes X W) (hr : Room 2 X.A) (ha : PA X (e :: es) (ra c W fs)) (hc : X.calm = true := by rfl) (hg : Gl X x := by rfl) (hK : X.K = c.K := by rfl) (hM : X.mg = c.mg := by rfl)
    (hdb : (x == ("__debug__" : Str)) = false := by decide) (he : starEach (e :: es) X.env = (false, eval e X.env) :: starEach es X.env := by rfl) {pos2 : Pos} (hpl : (backTo pos (starEach es X.env)).any (·.1) = false := by rfl) : PS X (.Raise (some (.Call (.Name x p) (e :: es) [] pos)) none pos2) (rs c W nw (sRaise x (flD1 n) fs)) := by
  obtain ⟨gP, C, fI, fd, E⟩ := E.ex
  exact ds_raise1 E hc tk hr hg ha hK hM hdb he hpl
theorem xr2 (E : EA2 X.prog X.w c X.base x n g) (tk : Takes X W) (hr : Room 2 X.A) (ha : PA X (e :: es) (ra c W fs)) (hc : X.calm = true := by rfl) (hg : Gl X x := by rfl) (hK : X.K = c.K := by rfl) (hM : X.mg = c.mg := by rfl)
    (hdb : (x == ("__debug__" : Str)) = false := by decide) (he : starEach (e :: es) X.env = (false, eval e X.env) :: starEach es X.env := by rfl) {pos2 : Pos} (hpl : (backTo pos (starEach es X.env)).any (·.1) = false := by rfl) : PS X (.Raise (some (.Call (.Name x p) (e :: es) [] pos)) none pos2) (rs c W nw (sRaise x (flD2 n g) fs)) := by
  obtain ⟨gP, C, fI, fd, E⟩ := E.ex
  exact ds_raise2 E hc tk hr hg ha hK hM hdb he hpl
theorem xr0 (E : EA0 c x) (tk : Takes X W) (hc : X.calm = true := by rfl) (hg : Gl X x := by rfl) (hK : X.K = c.K := by rfl) (hM : X.mg = c.mg := by rfl)
    (hdb : (x == ("__debug__" : Str)) = false := by decide) {pos2 : Pos} : PS X (.Raise (some (.Call (.Name x p) [] [] pos)) none pos2) (rs c W nw (sRaise0 x)) := by
  obtain ⟨gP, C, E⟩ := E.ex
  exact ds_raise0 E hc tk hg hK hM hdb
end
end Fw
namespace Fw
open PySem PySem.Spec PyProof.Rows L2 Dz Vz
section
variable {X : Cx} {W : WX} {c : Cn} {nw : Bool} {e a b o iter elt tg : Expr} {es ifs : List Expr} {pos p : Pos} {f fa fb fo : EF D} {fs : EF (List D)} {ga : EF Bool} {s : Stmt} {u : SF} {ss : List Stmt}
/-- isinstance(e, C) for things at rest; ms: what is known of instances; bf: plain things are none -/
def eIsC (ms : Str → Option Bool) (bf : Bool) (f : EF D) : EF D := fun δ h => (f δ h).bind fun d h1 => Ex.of (match d with
  | .ins n _ => (ms n).map .bl
  | d => match tyS d with
    | some _ => if bf then some (.bl false) else none
    | none => none) h1
theorem dx_isC {t : Tb} {y : Str} {ms : List (Str × Bool)} {bf : Bool} {p1 : Pos} (T : Fs t c.K c.mg) (iy : Nat) (hy : t.gl[iy]? = some y) (hms : ms.all (fun p => t.gl.contains p.1 && t.kit.any (fun q => decide (q = (p.1, y, p.2)))) = true) (hbf : (!bf || t.vcl.contains y) = true) (hm : X.mg "isinstance" = none) (ha : PE X a (rd c W f)) (hg : Gl X "isinstance" := by rfl) (hgy : Gl X y := by rfl) (hK : X.K = c.K := by rfl) (hM : X.mg = c.mg := by rfl) (hdy : (y == ("__debug__" : Str)) = false := by decide)
    (s1 : starEach (a :: [.Name y p1]) X.env = (false, eval a X.env) :: starEach [.Name y p1] X.env := by rfl) (s2 : starEach (.Name y p1 :: []) X.env = (false, eval (.Name y p1) X.env) :: starEach [] X.env := by rfl) (hpl : (backTo pos (starEach [.Name y p1] X.env)).any (·.1) = false := by rfl) : PE X (.Call (.Name "isinstance" p) [a, .Name y p1] [] pos) (rd c W (eIsC (msOf ms) bf f)) :=
  pe_to (pe_callB call_isi hg hm PyProof.Rows.boot_isinstance (pa_cons ha (pa_cons (pe_glob (v := .ref (He.ga c.K y)) hgy (by rw [hM]; exact T.gl iy y hy) rfl hdy) pa_nil s2) s1) (by decide) (by decide) s1 hpl) fun σ H Q x => by
    obtain ⟨ha, G0, B, G, δ, h, st, p⟩ := x
    refine ⟨ha, G0, B, G, δ, h, st, post_imp (post_bind p) fun d h1 G1 H1 af p1 v dv => ?_⟩
    obtain ⟨z, e, q⟩ := post_of p1
    have key : ∀ b tt, z = .bl b → TyX c.K H1 v tt → PySem.W.kitOne c.K tt (.ref (He.ga c.K y)) = some b → rIsi X.K [v, .ref (He.ga c.K y)] H1 Q := fun b tt ez ty k => by
      subst ez
      rw [hK]
      exact ⟨v, _, tt, _, b, rfl, .own _, ty, k, q _ _ (.refl af.gh af.hd) _ (.bl b)⟩
    have plain : ∀ t0, tyS d = some t0 → (if bf then some (D.bl false) else none) = some z → rIsi X.K [v, .ref (He.ga c.K y)] H1 Q := fun t0 e0 e1 => by
      obtain ⟨hb, rfl⟩ := if_get e1
      obtain ⟨ty, hin⟩ := ty_dq (H := H1) af.gh dv e0
      rw [hb] at hbf
      exact key false _ rfl ty (T.vcl y (List.contains_iff_mem.mp (by simpa using hbf)) _ hin)
    cases dv with
    | ins k1 k2 k3 k4 =>
      obtain ⟨b, e1, rfl⟩ := map_get e
      obtain ⟨h1, h2⟩ := He.ba (List.all_eq_true.mp hms _ (lookup_mem e1))
      obtain ⟨r, hr, er⟩ := List.any_eq_true.mp h2
      have er := of_decide_eq_true er
      subst er
      obtain ⟨i, hi⟩ := List.getElem?_of_mem (List.contains_iff_mem.mp h1)
      have g := T.gl i _ hi
      rw [k1] at g
      cases g
      exact key b _ rfl (.base (.ins (af.gh _ _ k2) k3.cl k3.ca T.gt.hn T.gt.ht k3.mo)) (T.kit _ hr)
    | non => exact plain _ rfl e
    | bl b => exact plain _ rfl e
    | int i => exact plain _ rfl e
    | str x => exact plain _ rfl e
    | tup h1 h2 => exact plain _ rfl e
    | lst h1 h2 => exact plain _ rfl e
section
variable {x y : Str} {pos' py : Pos} {scope : Scope} {own : List (Str × Nat)} {bind : D → DE → Option DE} {g : TG}
theorem sS (i : Nat) (hN : X.N.Nodup) (he : PE X e (rd c W f)) (hi : X.N[i]? = some x := by rfl) (hx : Loc X.env.scope x := by first | exact Or.inl rfl | exact Or.inr rfl) (hs : swapsWith e (some (.Name x pos')) pos.line X.env = pure false := by rfl) (hf : X.fn x = true ∨ X.env.scope.names.lookup x = some .local := by first | exact .inr rfl | exact .inl rfl | assumption) : PS X (.Assign [.Name x pos'] e pos) (rs c W nw (sSet i f)) := ds_set hN hi hx he hs hf
theorem sSN (i : Nat) (hN : X.N.Nodup) (he : PE X e (rn c W f)) (hi : X.N[i]? = some x := by rfl) (hx : Loc X.env.scope x := by first | exact Or.inl rfl | exact Or.inr rfl) (hs : swapsWith e (some (.Name x pos')) pos.line X.env = pure false := by rfl) (hf : X.fn x = true ∨ X.env.scope.names.lookup x = some .local := by first | exact .inr rfl | exact .inl rfl | assumption) : PS X (.Assign [.Name x pos'] e pos) (rs c W nw (sSet i f)) := ds_setN hN hi hx he hs hf
theorem sSW (i : Nat) (hN : X.N.Nodup) (he : PE X e (rw' c W f)) (hi : X.N[i]? = some x := by rfl) (hx : Loc X.env.scope x := by first | exact Or.inl rfl | exact Or.inr rfl) (hs : swapsWith e (some (.Name x pos')) pos.line X.env = pure false := by rfl) (hf : X.fn x = true ∨ X.env.scope.names.lookup x = some .local := by first | exact .inr rfl | exact .inl rfl | assumption) : PS X (.Assign [.Name x pos'] e pos) (rs c W nw (sSet i f)) := ds_setW hN hi hx he hs hf
/-- a loop's or a clause's own name -/
theorem gN (i : Nat) (hN : X.N.Nodup) (hi : X.N[i]? = some x := by rfl) (hx : Loc X.env.scope x := by first | exact Or.inl rfl | exact Or.inr rfl) (hf : X.fn x = true ∨ X.env.scope.names.lookup x = some .local := by first | exact .inr rfl | exact .inl rfl | assumption) : PG X (.Name x pos) (gName i) := pg_name hN hi hx hf
end
end
end Fw
namespace Fw
open PySem PySem.Spec PyProof.Rows L2 Dz Vz
theorem noat_of {t : Tb} {K : PySem.W.Frag} {mg : Str → Option Value} (T : Fs t K mg) (i : Nat) {p : CT} (hp : t.cls[i]? = some p) (hg : mg p.x = some (.ref (He.ga K p.x))) {m : Str} (hm : m ∈ p.as) {C : Addr} (e : mg p.x = some (.ref C)) : NoAttr K C m := by
  rw [hg] at e
  cases e
  exact T.noat i p hp m hm
abbrev NoNx (u : SF) : Prop := ∀ δ h δ' h', u δ h ≠ .nx δ' h'
theorem nx_seq {u v : SF} (k : NoNx v) : NoNx (sSeq u v) := fun δ h δ' h' e => by
  unfold sSeq at e
  cases q : u δ h with
  | nx δ1 h1 => rw [q] at e; exact k _ _ _ _ e
  | _ => rw [q] at e; cases e
theorem nx_ret {f : EF D} : NoNx (sRet f) := fun δ h δ' h' e => by
  unfold sRet at e
  cases q : f δ h <;> (rw [q] at e; cases e)
theorem nx_retV {i : Nat} : NoNx (sRetV i) := fun δ h δ' h' e => by
  unfold sRetV at e
  split at e <;> cases e
theorem nx_frz {i : Nat} {u : SF} (k : NoNx u) : NoNx (sFrz i u) := fun δ h δ' h' e => k _ _ _ _ e
theorem nx_if {g : EF Bool} {u v : SF} (k1 : NoNx u) (k2 : NoNx v) : NoNx (sIf g u v) := fun δ h δ' h' e => by
  unfold sIf at e
  cases q : g δ h with
  | ok b h1 =>
    rw [q] at e
    cases b with
    | true => exact k1 _ _ _ _ e
    | false => exact k2 _ _ _ _ e
  | _ => rw [q] at e; cases e
section
variable {P : Program} {w : World} {c : Cn} {base : Heap} {nw : Bool} {x qual : Str} {params : Arguments} {body : List Stmt} {scope : Scope} {dvs : List V} {kws : List (Str × V)} {f : Addr} {fd : FuncData} {N ps : List Str} {k n : Nat}
/-- a def of which nothing is known -/
theorem bad_def (F : FunD c.K x qual params body scope dvs kws f fd) (S : FnScope N ps scope) (hn : ps.length = n := by rfl) : FnOk P w c.K c.mg base (L2.CX P w) k f fd ps (spD c nw n fun _ _ => .bad) := by
  refine ⟨fun vs H Q E h => ?_, fun A outer s H args us vs Q E r e b v h => ?_⟩
  · obtain ⟨ha, G, ds, hh, hl, _, _, dv, _⟩ := h
    rw [dm_len dv, hl, hn]
  · obtain ⟨ha, G, ds, hh, hl, _, _, dv, fin⟩ := h
    exact fin.elim
end
end Fw
namespace Fw
open PySem PySem.Spec PyProof.Rows L2 Dz Vz
end Fw
namespace Fw
open PySem PySem.Spec PyProof.Rows L2 Dz Vz
/-- a hand at a: its cells at c -/
structure HandAt (H : Hp) (a c : Addr) (cs : List Int) (p g t : Int) : Prop where
  l : H a = some (.lst [.ref c, .int p, .int g, .int t])
  c : H c = some (.lst (cs.map V.int))
  n : ∀ z ∈ cs, 0 ≤ z
  le : cs.length ≤ 63
  t0 : 0 ≤ t
  t1 : t < 2147483648
theorem HandAt.ne {H : Hp} {a c : Addr} {cs : List Int} {p g t : Int} (h : HandAt H a c cs p g t) : c ≠ a := fun z => by
  have e := h.l
  rw [← z, h.c] at e
  have e2 := HO.lst.inj (Option.some.inj e)
  cases cs with
  | nil => cases e2
  | cons y ys => cases e2
def spHand (K : PySem.W.Frag) : Sp := fun vs H Q _ => ∃ (s : Addr) (ns : List Int), vs = [.ref s] ∧ SqL K H s (ns.map V.int) ∧ ns.length ≤ 63 ∧
  ∀ (a c : Addr) (cs : List Int) (t : Int) (H' : Hp), Same H H' → HandAt H' a c cs 0 0 t → Q (.ref a) H'
structure HandOk (P : Program) (w : World) (K : PySem.W.Frag) (mg : Str → Option Value) (base : Heap) (g : Addr) : Prop where
  ex : ∃ fd, FnOk P w K mg base CX0 1 g fd ["_law_script"] (spHand K) ∧ Binds K fd ["_law_script"] []
  kp : PySem.W.keepIn K (.ref g) = true
/-- what a hand is at the start -/
def hand0 (cs : List Int) (t : Int) : D := .hl [.lst (cs.map D.int), .int 0, .int 0, .int t]
/-- the law's body, behind its hand, ends in True -/
def LawB (N : Nat) (u : SF) : Prop := ∀ (cs : List Int) (t : Int), (∀ z ∈ cs, 0 ≤ z) → cs.length ≤ 63 → 0 ≤ t → t < 2147483648 → ∃ h', u (none :: some .me :: List.replicate N none) (hand0 cs t) = .ret (.bl true) h'
def spLaw (K : PySem.W.Frag) : Sp := fun vs H Q _ => ∃ (s : Addr) (ns : List Int), vs = [.ref s] ∧ SqL K H s (ns.map V.int) ∧ ns.length ≤ 63 ∧ ∀ H', Q (.bl true) H'
theorem ownS_none {c : Cn} {ha : Option Addr} {G H : Hp} : ∀ (σ : L2.St), OwnS c ha G H σ (List.replicate σ.length none) []
  | [] => .nil
  | o :: σ => .non o (ownS_none σ)
theorem ints_dq {c : Cn} {ha : Option Addr} {G : Hp} : ∀ (cs : List Int), DqAll c ha G (cs.map V.int) (cs.map D.int)
  | [] => .nil
  | i :: cs => .cons (.int i) (ints_dq cs)
theorem law_read {c : Cn} {N : Nat} {u : SF} {W : WX} {E : XK} {vs : List V} {H : Hp} {Q : VK} {names : List Str} {CXE : XK} (hN : names.length = N + 2) (hu : LawB N u) (h : spLaw c.K vs H Q E) :
    tSeq (tAsg (tCall (spHand c.K) [] CXE (tCons (tVar 0) tNil)) (gName 1)) (rs c W false u) { nx := fun _ H' => Q .non H', rt := Q } (start names vs) H := by
  obtain ⟨s, ns, rfl, hS, hl, q⟩ := h
  refine ⟨.ref s, rfl, s, ns, rfl, hS, hl, fun a cc cs t H' sm hd => ?_⟩
  obtain ⟨h', e⟩ := hu cs t hd.n hd.le hd.t0 hd.t1
  have hG : Same (fun b => if b = a then none else H' b) H' := fun b o e => by
    replace e : (if b = a then none else H' b) = some o := e
    by_cases hb : b = a
    · rw [if_pos hb] at e; cases e
    · rw [if_neg hb] at e; exact e
  have hst : (start names [.ref s]).set 1 (some (.ref a)) = some (.ref s) :: some (.ref a) :: List.replicate N none := by
    unfold L2.start
    rw [hN]
    rfl
  show rs c W false u _ ((start names [.ref s]).set 1 (some (.ref a))) H'
  rw [hst]
  refine ⟨some a, fun b => if b = a then none else H' b, H', fun b => if b = a then none else H' b, none :: some .me :: List.replicate N none, hand0 cs t, ⟨⟨[], ?_, by simp, fun a z => nomatch z⟩, Mv.refl hG, fun _ _ _ e => e, .hand rfl (if_pos rfl) hd.l ?_, fun b e => by cases e; rw [hd.l]; exact fun z => nomatch z⟩, ?_⟩
  · refine .non _ (.me rfl ?_)
    have z := ownS_none (c := c) (ha := some a) (G := fun b => if b = a then none else H' b) (H := H') (List.replicate N none)
    rw [List.length_replicate] at z
    exact z
  · exact .cons (.lst (by show (if cc = a then none else H' cc) = _; rw [if_neg hd.ne]; exact hd.c) (ints_dq cs)) (.cons (.int _) (.cons (.int _) (.cons (.int _) .nil)))
  · rw [e]
    intro v G' H2 af res
    cases (show Dq c (some a) G' v (.bl true) from res)
    exact q H2
theorem len_law {K : PySem.W.Frag} {vs : List V} {H : Hp} {Q : VK} {E : XK} (h : spLaw K vs H Q E) : vs.length = 1 := by
  obtain ⟨s, ns, rfl, _⟩ := h
  rfl
end Fw
namespace Fw
open PySem PySem.Spec PyProof.Rows L2
theorem fn_calm0 {P : Program} {w : World} {K : PySem.W.Frag} {mg : Str → Option Value} {base : Heap} {k : Nat} {f : Addr} {fd : FuncData} {ps : List Str} (F : FnOk P w K mg base (L2.CX P w) k f fd ps (spLaw K)) : FnOk P w K mg base CX0 k f fd ps (spLaw K) := by
  have z := fn_calm F
  exact ⟨fun vs H Q E h => z.len vs H Q E h, fun A outer s H args us vs Q E r e b v h => z.run A outer s H args us vs Q E r e b v h⟩
end Fw
namespace Fw
open PySem PySem.Spec PyProof.Rows L2 Dz Vz
def seqP : PyData → Option (List PyData)
  | .list ds => some ds
  | .tuple ds => some ds
  | _ => none
def inP (x y : D) : Option Bool := match toPy x, toPy y with
  | some d, some p => match seqP p with
    | some ds => if SeqAt.shaped d && SeqAt.shaped p then some (ds.any fun z => PyData.eqv z d) else none
    | none => none
  | _, _ => none
def oInP (x y : D) : Option D := (inP x y).map .bl
def oNinP (x y : D) : Option D := (inP x y).map fun b => .bl (!b)
def rInP (K : PySem.W.Frag) (n : Bool) : R2 := fun x y H Q => ∃ d p ds, Dp K H x d ∧ Dp K H y p ∧ seqP p = some ds ∧ SeqAt.shaped d = true ∧ SeqAt.shaped p = true ∧ Q (.bl (n ^^ (ds.any fun z => PyData.eqv z d))) H
theorem room_in_shapedT {d : PyData} {ds : List PyData} {u : Nat} (sd : SeqAt.shaped d = true) (hu : u + 65 < cLine) : u + 1 + min (PyData.depthAll ds) d.depth < cLine := by
  unfold SeqAt.shaped at sd
  rw [Bool.and_eq_true, decide_eq_true_eq] at sd
  have := sd.2
  omega
section
variable {X : Cx}
theorem op_inP (hu : X.A.units + 65 < cLine) : OpR X (compareOp .In) (rInP X.K false) := by
  intro pins s σ H x y v u Q I rx ry h
  obtain ⟨d, p, ds, hd, he, es, sd, se, q⟩ := h
  rw [Bool.false_xor] at q
  obtain ⟨as, r1⟩ := Dp.reads I d x v hd rx
  obtain ⟨bs, r2⟩ := Dp.reads I p y u he ry
  cases p <;> cases es
  · exact SeqAt.in_list_reads r2 r1 (SeqAt.canLay_of_shaped se) (SeqAt.canLay_of_shaped sd) (room_in_shapedT sd hu) ⟨.bl _, H, I, rfl, q⟩
  · exact SeqAt.in_tuple_reads r2 r1 (SeqAt.canLay_of_shaped se) (SeqAt.canLay_of_shaped sd) (room_in_shapedT sd hu) ⟨.bl _, H, I, rfl, q⟩
theorem op_ninP (hu : X.A.units + 65 < cLine) : OpR X (compareOp .NotIn) (rInP X.K true) := by
  intro pins s σ H x y v u Q I rx ry h
  obtain ⟨d, p, ds, hd, he, es, sd, se, q⟩ := h
  rw [Bool.true_xor] at q
  obtain ⟨as, r1⟩ := Dp.reads I d x v hd rx
  obtain ⟨bs, r2⟩ := Dp.reads I p y u he ry
  cases p <;> cases es
  · exact SeqAt.notIn_list_reads r2 r1 (SeqAt.canLay_of_shaped se) (SeqAt.canLay_of_shaped sd) (room_in_shapedT sd hu) ⟨.bl _, H, I, rfl, q⟩
  · exact SeqAt.notIn_tuple_reads r2 r1 (SeqAt.canLay_of_shaped se) (SeqAt.canLay_of_shaped sd) (room_in_shapedT sd hu) ⟨.bl _, H, I, rfl, q⟩
end
theorem inP_get {x y : D} {b : Bool} (h : inP x y = some b) : ∃ d p ds, toPy x = some d ∧ toPy y = some p ∧ seqP p = some ds ∧ SeqAt.shaped d = true ∧ SeqAt.shaped p = true ∧ (ds.any fun z => PyData.eqv z d) = b := by
  unfold inP at h
  split at h
  · rename_i d p e1 e2
    split at h
    · rename_i ds e3
      split at h
      · rename_i s
        rw [Bool.and_eq_true] at s
        cases h
        exact ⟨d, p, ds, e1, e2, e3, s.1, s.2, rfl⟩
      · cases h
    · cases h
  · cases h
section
variable {X : Cx} {c : Cn}
theorem d_inP : OpD c (rInP c.K false) oInP := by
  intro ha G H x y d v w Q s dx dy q fin
  unfold oInP at q
  cases e : inP x y with
  | none => rw [e] at q; cases q
  | some b =>
    rw [e] at q
    cases q
    obtain ⟨p1, p2, ds, e1, e2, e3, s1, s2, rfl⟩ := inP_get e
    refine ⟨p1, p2, ds, dp_of (dq_mono s dx) p1 e1, dp_of (dq_mono s dy) p2 e2, e3, s1, s2, ?_⟩
    rw [Bool.false_xor]
    exact fin _ G H (Mv.refl s) (Same.refl _) (.bl _)
theorem d_ninP : OpD c (rInP c.K true) oNinP := by
  intro ha G H x y d v w Q s dx dy q fin
  unfold oNinP at q
  cases e : inP x y with
  | none => rw [e] at q; cases q
  | some b =>
    rw [e] at q
    cases q
    obtain ⟨p1, p2, ds, e1, e2, e3, s1, s2, rfl⟩ := inP_get e
    refine ⟨p1, p2, ds, dp_of (dq_mono s dx) p1 e1, dp_of (dq_mono s dy) p2 e2, e3, s1, s2, ?_⟩
    rw [Bool.true_xor]
    exact fin _ G H (Mv.refl s) (Same.refl _) (.bl _)
theorem c_inP (hu : X.A.units + 65 < cLine) (hK : X.K = c.K) : OpR X (compareOp .In) (rInP c.K false) := by rw [← hK]; exact op_inP hu
theorem c_ninP (hu : X.A.units + 65 < cLine) (hK : X.K = c.K) : OpR X (compareOp .NotIn) (rInP c.K true) := by rw [← hK]; exact op_ninP hu
end
def rgB (a b : Int) : Bool := rgOk a && rgOk b
def eRg1 (mk : List D → D) (f : EF D) : EF D := fun δ h => (f δ h).bind fun y h1 => Ex.of (match y with
  | .int j => if rgB 0 j then some (mk (rgD 0 j.toNat)) else none
  | _ => none) h1
theorem rg_dq {c : Cn} {ha : Option Addr} {G : Hp} (a b : Int) : DqAll c ha G (rgV a b) (rgD a (b - a).toNat) := by
  unfold rgV rgD
  generalize List.range (b - a).toNat = l
  induction l with
  | nil => exact .nil
  | cons i l ih => exact .cons (.int _) ih
theorem rgB_ok {a b : Int} (h : rgB a b = true) : RgOk a b := by
  unfold rgB at h
  rw [Bool.and_eq_true] at h
  obtain ⟨x1, x2⟩ := rgOk_get h.1
  obtain ⟨x3, x4⟩ := rgOk_get h.2
  exact ⟨by omega, by omega, by omega, by omega, by omega⟩
section
variable {X : Cx} {W : WX} {c : Cn} {a b : Expr} {p p2 pos pos2 : Pos} {f fa fb : EF D}
theorem dx_rgT1 (hc : X.calm = true) (hg : Gl X "tuple") (hm : X.mg "tuple" = none) (hg2 : Gl X "range") (hm2 : X.mg "range" = none) (ha : PE X a (rd c W f)) (na : starEach [a] X.env = (false, eval a X.env) :: starEach [] X.env := by rfl)
    (ne : starEach [.Call (.Name "range" p2) [a] [] pos2] X.env = (false, eval (.Call (.Name "range" p2) [a] [] pos2) X.env) :: starEach [] X.env := by rfl) : PE X (.Call (.Name "tuple" p) [.Call (.Name "range" p2) [a] [] pos2] [] pos) (rd c W (eRg1 .tup f)) := pe_to (pe_tupRg hc hg hm (prg_1 hg2 hm2 ha na) ne) fun σ H Q x => by
  obtain ⟨ha, G0, B, G, δ, h, st, p⟩ := x
  refine ⟨ha, G0, B, G, δ, h, st, post_imp (post_bind p) fun y h1 G1 H1 af p1 v dv => ?_⟩
  obtain ⟨d, e, q⟩ := post_of p1
  split at e
  · rename_i j
    obtain ⟨z, rfl⟩ := if_get e
    cases dv
    refine ⟨j, rfl, rgB_ok z, fun t ht => ?_⟩
    have m := Mv.new (o := .tup (rgV 0 j)) af.gh ht
    refine q _ _ (.of af.gh af.hd m (same_new ht)) _ (.tup (SqT.of upd_same) ?_)
    have := rg_dq (c := c) (ha := ha) (G := upd G1 t (.tup (rgV 0 j))) 0 j
    rw [Int.sub_zero] at this
    exact this
  · cases e
end
end Fw
namespace L2
open PySem PySem.Spec
theorem Room.units65 {k : Nat} {A : Around} (r : Room k A) : A.units + 65 < cLine := by have := r.un; omega
end L2
namespace Fw
open PySem PySem.Spec PyProof.Rows L2 Dz Vz
def stGo (k : EF Pl) (fi : EF D) (y : D) : SF := fun δ h => (k δ h).fl δ fun p h2 => (fi δ h2).fl δ fun z h3 => match plD δ p, z with
  | some (.hl ds), .int i => match ixN ds.length i with
    | some j => .nx (plS δ p (.hl (ds.set j y))) h3
    | none => .bad
  | _, _ => .bad
section
variable {X : Cx} {W : WX} {c : Cn} {nw : Bool} {e a b a1 b1 a2 b2 e1 e2 : Expr} {es : List Expr} {pos : Pos} {te : TE} {f fa fb fc f1 f2 : EF D} {k k1 k2 : EF Pl} {u : SF} {fs : EF (List D)}
def sSwap (k1 : EF Pl) (f1 : EF D) (k2 : EF Pl) (f2 : EF D) (fs : EF (List D)) : SF := fun δ h => (fs δ h).fl δ fun ds h1 => match ds with
  | [x, y] => (stGo k1 f1 x δ h1).bind (stGo k2 f2 y)
  | _ => .bad
end
end Fw
namespace Fw
open PySem PySem.Spec PyProof.Rows L2 Dz Vz
def flatD : D → Bool
  | .non => true
  | .bl _ => true
  | .int _ => true
  | .str _ => true
  | _ => false
def forgetO : Option D → Option D
  | some d => if d.fr then some d else none
  | none => none
def lendS (is : List Nat) (δ : DE) : DE := (is.foldr frzS δ).map forgetO
def eLend (is : List Nat) (f : EF D) : EF D := fun δ h => match f (lendS is δ) .non with
  | .ok d _ => if flatD d then .ok d h else .bad
  | _ => .bad
end Fw
namespace Pd
open PySem PySem.Spec Fw
def tup_OFFERED : List D := [.int 0, .int 2, .int 3, .int 5, .int 7, .int 11, .int 13]
def F_is_whole : Fn := runF 3 (sSeq (sIf (eOr (eNot (eTru (eIs "int" (eV 0)))) (eTru (eIs "bool" (eV 0)))) (sRet (eC (.bl false))) sNil)
    (sRet (eB (eAnd (eT (eB (eOr (eT (eOp oIsN (eV 1) (eC .non))) (eT (eOp oGe (eV 0) (eV 1)))))) (eT (eB (eOr (eT (eOp oIsN (eV 2) (eC .non))) (eT (eOp oLe (eV 0) (eV 2))))))))))
def F_is_sequence : Fn := runF 1 (sRet (eIs2 "list" "tuple" (eV 0)))
def F_is_ratio : Fn := runF 3 (sSeq (sIf (eOr (eNot (eTru (eIs "tuple" (eV 0)))) (eT (eOp oNe (eBi kLen (eCons (eV 0) eNil)) (eC (.int 2))))) (sRet (eC (.bl false))) sNil)
    (sSeq (sAsg (bTp [(bNm 1), (bNm 2)]) (eV 0))
    (sRet (eB (eAnd (eT (eCall 3 F_is_whole [.non, .non] (eCons (eVm 1) eNil))) (eAnd (eT (eCall 3 F_is_whole [.non] (eCons (eVm 2) (eCons (eC (.int 1)) eNil)))) (eT (eOp oEq (eBi kGcd (eCons (eV 1) (eCons (eV 2) eNil))) (eC (.int 1))))))))))
def F_in_lowest_terms : Fn := runF 3 (sSeq (sSet 2 (eBi kGcd (eCons (eV 0) (eCons (eV 1) eNil))))
    (sSeq (sIf (eT (eOp oLt (eV 1) (eC (.int 0)))) (sSet 2 (eUn oNeg (eV 2))) sNil)
    (sRet (eTup (eCons (eOp oDiv (eV 0) (eV 2)) (eCons (eOp oDiv (eV 1) (eV 2)) eNil))))))
def F_ratio_times : Fn := runF 2 (sRet (eCall 2 F_in_lowest_terms [] (eCons (eOp oMul (eOp oIx (eV 0) (eC (.int 0))) (eOp oIx (eV 1) (eC (.int 0)))) (eCons (eOp oMul (eOp oIx (eV 0) (eC (.int 1))) (eOp oIx (eV 1) (eC (.int 1)))) eNil))))
def F_ratio_over : Fn := runF 2 (sSeq (sIf (eT (eOp oEq (eOp oIx (eV 1) (eC (.int 0))) (eC (.int 0)))) (sRaise0 "DividedByNought") sNil)
    (sRet (eCall 2 F_in_lowest_terms [] (eCons (eOp oMul (eOp oIx (eV 0) (eC (.int 0))) (eOp oIx (eV 1) (eC (.int 1)))) (eCons (eOp oMul (eOp oIx (eV 0) (eC (.int 1))) (eOp oIx (eV 1) (eC (.int 0)))) eNil)))))
def F_over_one_bottom : Fn := runF 5 (sSeq (sSet 1 (eC (.int 1)))
    (sSeq (sFor (iSeq (eV 0)) (bTp [(bNm 2), (bNm 3)]) (sSet 1 (eOp oDiv (eOp oMul (eV 1) (eV 3)) (eBi kGcd (eCons (eV 1) (eCons (eV 3) eNil))))))
    (sRet (eTup (eCons (eFz (eLc [4, 3] (iSeq (eV 0)) (bTp [(bNm 4), (bNm 3)]) tYesD (eOp oMul (eV 4) (eOp oDiv (eV 1) (eV 3))))) (eCons (eV 1) eNil))))))
def F_undone_rest : Fn := runF 3 (sSeq (sFor (iRg rg2 (eCons (eC (.int 1)) (eCons (eV 1) eNil))) (bNm 2) (sIf (eT (eOp oEq (eOp oMod (eOp oMul (eV 0) (eV 2)) (eV 1)) (eC (.int 1)))) (sRet (eV 2)) sNil))
    (sRaise0 "DividedByNought"))
def F_Figures_over : Fn := runF 3 (sSeq (sIf (eT (eOp oEq (eAtV 0 "prime") (eC (.int 0)))) (sRet (eCall 2 F_ratio_over [] (eCons (eVm 1) (eCons (eVm 2) eNil)))) sNil)
    (sRet (eOp oMod (eOp oMul (eV 1) (eCall 2 F_undone_rest [] (eCons (eVm 2) (eCons (eAtV 0 "prime") eNil)))) (eAtV 0 "prime"))))
def F_Figures_times : Fn := runF 3 (sSeq (sIf (eT (eOp oEq (eAtV 0 "prime") (eC (.int 0)))) (sRet (eCall 2 F_ratio_times [] (eCons (eVm 1) (eCons (eVm 2) eNil)))) sNil)
    (sRet (eOp oMod (eOp oMul (eV 1) (eV 2)) (eAtV 0 "prime"))))
def F_Figures_is_number : Fn := runF 2 (sSeq (sIf (eT (eOp oEq (eAtV 0 "prime") (eC (.int 0)))) (sRet (eCall 1 F_is_ratio [] (eCons (eVm 1) eNil))) sNil)
    (sRet (eCall 3 F_is_whole [] (eCons (eVm 1) (eCons (eC (.int 0)) (eCons (eOp oSub (eAtV 0 "prime") (eC (.int 1))) eNil))))))
def F_is_point : Fn := runF 2 (sRet (eB (eOr (eT (eMeth "Figures" "is_number" 2 F_Figures_is_number [] (eV 0) (eCons (eVm 1) eNil))) (eT (eOp oEq (eV 1) (eC (.str "last")))))))
def F_Figures_all_numbers : Fn := runF 1 (sRet (eRg1 .tup (eAtV 0 "prime")))
def F_check_points : Fn := runF 6 (sSeq (sIf (eOr (eNot (eTru (eCall 1 F_is_sequence [] (eCons (eVm 1) eNil)))) (eT (eOp oNe (eBi kLen (eCons (eV 1) eNil)) (eV 2)))) (sRaise "BadPoints" (flD1 "index") (eCons (eC (.int 0)) eNil)) sNil)
    (sSeq (sFor (iRg kEnum (eCons (eV 1) eNil)) (bTp [(bNm 4), (bNm 5)]) (sSeq (sIf (eOr (eNot (eTru (eCall 2 F_is_point [] (eCons (eVm 0) (eCons (eVm 5) eNil))))) (eT (eOp oInP (eV 5) (eFz (eSl (eV 1) eNo (eOpt (eV 4))))))) (sRaise "BadPoints" (flD1 "index") (eCons (eV 4) eNil)) sNil)
    (sIf (eAnd (eT (eOp oEq (eV 5) (eC (.str "last")))) (eNot (eTru (eV 3)))) (sRaise "BadPoints" (flD1 "index") (eCons (eV 4) eNil)) sNil)))
    (sRet (eBi kTup (eCons (eV 1) eNil)))))
def F_Figures___init__ : Fn := runF 2 (sSeq (sIf (eOr (eNot (eTru (eCall 3 F_is_whole [.non, .non] (eCons (eVm 1) eNil)))) (eT (eOp oNinP (eV 1) (eC (.tup tup_OFFERED))))) (sRaise "BadFigures" (flD1 "prime") (eCons (eV 1) eNil)) sNil)
    (sSeq (sAt "Figures" 0 "prime" (eV 1))
    (sSeq (sAt "Figures" 0 "zero" (eIf (eT (eOp oEq (eV 1) (eC (.int 0)))) (eTup (eCons (eC (.int 0)) (eCons (eC (.int 1)) eNil))) (eC (.int 0))))
    (sAt "Figures" 0 "one" (eIf (eT (eOp oEq (eV 1) (eC (.int 0)))) (eTup (eCons (eC (.int 1)) (eCons (eC (.int 1)) eNil))) (eC (.int 1)))))))
def F__law_mixed : Fn := runF 4 (sSeq (sSet 2 (eOp oMod (eBi kInt (eCons (eOp oAdd (eOp oAdd (eOp oMul (eV 0) (eC (.int 39373))) (eOp oMul (eV 1) (eC (.int 6151)))) (eC (.int 50021))) eNil)) (eC (.int 2147483399))))
    (sSeq (sSet 3 (eOp oMod (eBi kInt (eCons (eOp oAdd (eOp oAdd (eOp oMul (eV 2) (eV 2)) (eOp oMul (eV 1) (eC (.int 81071)))) (eOp oDiv (eV 2) (eC (.int 137)))) eNil)) (eC (.int 2147483629))))
    (sRet (eOp oDiv (eBi kInt (eCons (eOp oMod (eBi kInt (eCons (eOp oAdd (eOp oMul (eV 3) (eC (.int 62089))) (eOp oDiv (eV 2) (eC (.int 11)))) eNil)) (eC (.int 2147483587))) eNil)) (eC (.int 64))))))
def F__law_take : Fn := runF 4 (sSeq (sIf (eAnd (eT (eOp oEq (eIxM 0 (eC (.int 2))) (eC (.int 0)))) (eT (eOp oLt (eIxM 0 (eC (.int 1))) (eBi kLen (eCons (eIxM 0 (eC (.int 0))) eNil))))) (sSeq (sSet 2 (eOp oIx (eIxM 0 (eC (.int 0))) (eIxM 0 (eC (.int 1)))))
    (sSeq (sStM 0 (eC (.int 1)) (eOp oAdd (eIxM 0 (eC (.int 1))) (eC (.int 1))))
    (sSeq (sIf (eT (eOp oLt (eV 2) (eOp oPow (eC (.int 10)) (eC (.int 18))))) (sRet (eOp oMod (eBi kInt (eCons (eCall 2 F__law_mixed [] (eCons (eOp oMod (eBi kInt (eCons (eV 2) eNil)) (eC (.int 2147483399))) (eCons (eIxM 0 (eC (.int 1))) eNil))) eNil)) (eV 1))) sNil)
    (sStM 0 (eC (.int 2)) (eV 2))))) sNil)
    (sSeq (sIf (eT (eOp oGt (eIxM 0 (eC (.int 2))) (eC (.int 0)))) (sSeq (sSet 3 (eIxM 0 (eC (.int 2))))
    (sSeq (sStM 0 (eC (.int 2)) (eOp oDiv (eBi kInt (eCons (eV 3) eNil)) (eV 1)))
    (sRet (eOp oMod (eBi kInt (eCons (eV 3) eNil)) (eV 1))))) sNil)
    (sSeq (sStM 0 (eC (.int 3)) (eOp oMod (eBi kInt (eCons (eOp oAdd (eIxM 0 (eC (.int 3))) (eC (.int 1))) eNil)) (eC (.int 2147483549))))
    (sRet (eOp oMod (eBi kInt (eCons (eCall 2 F__law_mixed [] (eCons (eIxM 0 (eC (.int 3))) (eCons (eIxM 0 (eC (.int 1))) eNil))) eNil)) (eV 1))))))
def F__law_gcd : Fn := runF 6 (sSeq (sSet 2 (eBi kAbs (eCons (eV 0) eNil)))
    (sSeq (sSet 3 (eBi kAbs (eCons (eV 1) eNil)))
    (sSeq (sFor (iRg rg1 (eCons (eC (.int 60000)) eNil)) (bNm 4) (sSeq (sIf (eT (eOp oEq (eV 3) (eC (.int 0)))) (sRet (eV 2)) sNil)
    (sSeq (sSet 5 (eOp oMod (eBi kInt (eCons (eV 2) eNil)) (eV 3)))
    (sSeq (sSet 2 (eV 3))
    (sSet 3 (eV 5))))))
    (sRet (eC (.int 1))))))
def F__law_ratio : Fn := runF 3 (sSeq (sSet 2 (eCall 2 F__law_gcd [] (eCons (eVm 0) (eCons (eVm 1) eNil))))
    (sSeq (sIf (eT (eOp oLt (eV 1) (eC (.int 0)))) (sSet 2 (eUn oNeg (eV 2))) sNil)
    (sRet (eTup (eCons (eOp oDiv (eV 0) (eV 2)) (eCons (eOp oDiv (eV 1) (eV 2)) eNil))))))
def F__law_num : Fn := runF 2 (sSeq (sIf (eT (eOp oEq (eV 0) (eC (.int 0)))) (sRet (eTup (eCons (eV 1) (eCons (eC (.int 1)) eNil)))) sNil)
    (sRet (eOp oMod (eBi kInt (eCons (eV 1) eNil)) (eV 0))))
def F__law_plus : Fn := runF 3 (sSeq (sIf (eT (eOp oEq (eV 0) (eC (.int 0)))) (sSeq (sIf (eAnd (eT (eOp oEq (eOp oIx (eV 1) (eC (.int 1))) (eC (.int 1)))) (eT (eOp oEq (eOp oIx (eV 2) (eC (.int 1))) (eC (.int 1))))) (sRet (eTup (eCons (eOp oAdd (eOp oIx (eV 1) (eC (.int 0))) (eOp oIx (eV 2) (eC (.int 0)))) (eCons (eC (.int 1)) eNil)))) sNil)
    (sRet (eCall 2 F__law_ratio [] (eCons (eOp oAdd (eOp oMul (eOp oIx (eV 1) (eC (.int 0))) (eOp oIx (eV 2) (eC (.int 1)))) (eOp oMul (eOp oIx (eV 2) (eC (.int 0))) (eOp oIx (eV 1) (eC (.int 1))))) (eCons (eOp oMul (eOp oIx (eV 1) (eC (.int 1))) (eOp oIx (eV 2) (eC (.int 1)))) eNil))))) sNil)
    (sRet (eOp oMod (eBi kInt (eCons (eOp oAdd (eV 1) (eV 2)) eNil)) (eV 0))))
def F__law_times : Fn := runF 3 (sSeq (sIf (eT (eOp oEq (eV 0) (eC (.int 0)))) (sSeq (sIf (eAnd (eT (eOp oEq (eOp oIx (eV 1) (eC (.int 1))) (eC (.int 1)))) (eT (eOp oEq (eOp oIx (eV 2) (eC (.int 1))) (eC (.int 1))))) (sRet (eTup (eCons (eOp oMul (eOp oIx (eV 1) (eC (.int 0))) (eOp oIx (eV 2) (eC (.int 0)))) (eCons (eC (.int 1)) eNil)))) sNil)
    (sRet (eCall 2 F__law_ratio [] (eCons (eOp oMul (eOp oIx (eV 1) (eC (.int 0))) (eOp oIx (eV 2) (eC (.int 0)))) (eCons (eOp oMul (eOp oIx (eV 1) (eC (.int 1))) (eOp oIx (eV 2) (eC (.int 1)))) eNil))))) sNil)
    (sRet (eOp oMod (eBi kInt (eCons (eOp oMul (eV 1) (eV 2)) eNil)) (eV 0))))
def F__law_less : Fn := runF 3 (sSeq (sIf (eT (eOp oEq (eV 0) (eC (.int 0)))) (sRet (eCall 3 F__law_plus [] (eCons (eVm 0) (eCons (eVm 1) (eCons (eTup (eCons (eUn oNeg (eOp oIx (eV 2) (eC (.int 0)))) (eCons (eOp oIx (eV 2) (eC (.int 1))) eNil))) eNil))))) sNil)
    (sRet (eOp oMod (eBi kInt (eCons (eOp oSub (eV 1) (eV 2)) eNil)) (eV 0))))
def F__law_over : Fn := runF 5 (sSeq (sIf (eT (eOp oEq (eV 0) (eC (.int 0)))) (sRet (eCall 2 F__law_ratio [] (eCons (eOp oMul (eOp oIx (eV 1) (eC (.int 0))) (eOp oIx (eV 2) (eC (.int 1)))) (eCons (eOp oMul (eOp oIx (eV 1) (eC (.int 1))) (eOp oIx (eV 2) (eC (.int 0)))) eNil)))) sNil)
    (sSeq (sSet 3 (eV 1))
    (sSeq (sFor (iRg rg1 (eCons (eOp oSub (eV 0) (eC (.int 2))) eNil)) (bNm 4) (sSet 3 (eOp oMod (eBi kInt (eCons (eOp oMul (eV 3) (eV 2)) eNil)) (eV 0))))
    (sRet (eV 3)))))
def F__law_numbers : Fn := runF 4 (sSeq (sIf (eOr (eNot (eTru (eIs "tuple" (eV 1)))) (eT (eOp oNe (eBi kLen (eCons (eV 1) eNil)) (eV 2)))) (sRet (eC (.bl false))) sNil)
    (sSeq (sFor (iSeq (eV 1)) (bNm 3) (sIf (eT (eOp oGt (eV 0) (eC (.int 0)))) (sIf (eOr (eNot (eTru (eIs "int" (eV 3)))) (eOr (eTru (eIs "bool" (eV 3))) (eNot (eT (eCh oLe oLt (eC (.int 0)) (eV 3) (eV 0)))))) (sRet (eC (.bl false))) sNil) (sIf (eOr (eNot (eTru (eIs "tuple" (eV 3)))) (eT (eOp oNe (eBi kLen (eCons (eV 3) eNil)) (eC (.int 2))))) (sRet (eC (.bl false))) (sIf (eOr (eNot (eTru (eIs "int" (eOp oIx (eV 3) (eC (.int 0)))))) (eOr (eNot (eTru (eIs "int" (eOp oIx (eV 3) (eC (.int 1)))))) (eT (eOp oLt (eOp oIx (eV 3) (eC (.int 1))) (eC (.int 1)))))) (sRet (eC (.bl false))) (sIf (eOr (eTru (eIs "bool" (eOp oIx (eV 3) (eC (.int 0))))) (eOr (eTru (eIs "bool" (eOp oIx (eV 3) (eC (.int 1))))) (eT (eOp oNe (eCall 2 F__law_gcd [] (eCons (eOp oIx (eV 3) (eC (.int 0))) (eCons (eOp oIx (eV 3) (eC (.int 1))) eNil))) (eC (.int 1)))))) (sRet (eC (.bl false))) sNil)))))
    (sRet (eC (.bl true)))))
end Pd
namespace Fw
open PySem PySem.Spec PyProof.Rows L2 Dz Vz
end Fw
namespace Pd
open PySem PySem.Spec Fw
def F_ratio_plus : Fn := runF 2 (sRet (eCall 2 F_in_lowest_terms [] (eCons (eOp oAdd (eOp oMul (eOp oIx (eV 0) (eC (.int 0))) (eOp oIx (eV 1) (eC (.int 1)))) (eOp oMul (eOp oIx (eV 1) (eC (.int 0))) (eOp oIx (eV 0) (eC (.int 1))))) (eCons (eOp oMul (eOp oIx (eV 0) (eC (.int 1))) (eOp oIx (eV 1) (eC (.int 1)))) eNil))))
def F_summed_wholes : Fn := runF 4 (sRet (eBi kSum (eCons (eFz (eLc [2, 3] (iRg kZip (eCons (eV 0) (eCons (eV 1) eNil))) (bTp [(bNm 2), (bNm 3)]) tYesD (eOp oMul (eV 2) (eV 3)))) eNil)))
def F_Figures_plus : Fn := runF 3 (sSeq (sIf (eT (eOp oEq (eAtV 0 "prime") (eC (.int 0)))) (sRet (eCall 2 F_ratio_plus [] (eCons (eVm 1) (eCons (eVm 2) eNil)))) sNil)
    (sRet (eOp oMod (eOp oAdd (eV 1) (eV 2)) (eAtV 0 "prime"))))
def F_row_sum : Fn := runF 5 (sRet (eBi kTup (eCons (eFz (eLc [3, 4] (iRg kZip (eCons (eV 1) (eCons (eV 2) eNil))) (bTp [(bNm 3), (bNm 4)]) tYesD (eMeth "Figures" "plus" 3 F_Figures_plus [] (eV 0) (eCons (eVm 3) (eCons (eVm 4) eNil))))) eNil)))
def F_row_scaled : Fn := runF 4 (sRet (eBi kTup (eCons (eFz (eLc [3] (iSeq (eV 2)) (bNm 3) tYesD (eMeth "Figures" "times" 3 F_Figures_times [] (eV 0) (eCons (eVm 1) (eCons (eVm 3) eNil))))) eNil)))
def F_summed_lines : Fn := runF 4 (sSeq (sSet 3 (eCall 2 F_summed_wholes [] (eCons (eOp oIx (eV 1) (eC (.int 0))) (eCons (eOp oIx (eV 2) (eC (.int 0))) eNil))))
    (sSeq (sIf (eT (eOp oNe (eAtV 0 "prime") (eC (.int 0)))) (sRet (eOp oMod (eV 3) (eAtV 0 "prime"))) sNil)
    (sRet (eCall 2 F_in_lowest_terms [] (eCons (eVm 3) (eCons (eOp oMul (eOp oIx (eV 1) (eC (.int 1))) (eOp oIx (eV 2) (eC (.int 1)))) eNil))))))
def F_whole_line : Fn := runF 2 (sRet (eIf (eT (eOp oNe (eAtV 0 "prime") (eC (.int 0)))) (eTup (eCons (eV 1) (eCons (eC (.int 1)) eNil))) (eCall 1 F_over_one_bottom [] (eCons (eVm 1) eNil))))
def F_column_led : Fn := runF 5 (sSeq (sSet 3 (eCall 2 F_whole_line [] (eCons (eVm 0) (eCons (eVm 2) eNil))))
    (sRet (eBi kTup (eCons (eFz (eLc [4] (iSeq (eV 1)) (bNm 4) tYesD (eCall 3 F_summed_lines [] (eCons (eVm 0) (eCons (eCall 2 F_whole_line [] (eCons (eVm 0) (eCons (eVm 4) eNil))) (eCons (eVm 3) eNil)))))) eNil))))
def F_flipped_table : Fn := runF 3 (sSeq (sIf (eT (eOp oEq (eBi kLen (eCons (eV 0) eNil)) (eC (.int 0)))) (sRet (eTup eNil)) sNil)
    (sRet (eBi kTup (eCons (eFz (eLc [2] (iRg rg1 (eCons (eBi kLen (eCons (eOp oIx (eV 0) (eC (.int 0))) eNil)) eNil)) (bNm 2) tYesD (eBi kTup (eCons (eFz (eLc [1] (iSeq (eV 0)) (bNm 1) tYesD (eOp oIx (eV 1) (eV 2)))) eNil)))) eNil))))
def F_check_letters : Fn := runF 6 (sSeq (sIf (eNot (eTru (eCall 1 F_is_sequence [] (eCons (eVm 1) eNil)))) (sRaise "BadLetters" (flD2 "what" "index") (eCons (eV 3) (eCons (eC (.int 0)) eNil))) sNil)
    (sSeq (sFor (iRg kEnum (eCons (eFz (eSl (eV 1) eNo (eOpt (eV 2)))) eNil)) (bTp [(bNm 4), (bNm 5)]) (sIf (eNot (eTru (eMeth "Figures" "is_number" 2 F_Figures_is_number [] (eV 0) (eCons (eVm 5) eNil)))) (sRaise "BadLetters" (flD2 "what" "index") (eCons (eV 3) (eCons (eV 4) eNil))) sNil))
    (sSeq (sIf (eT (eOp oNe (eBi kLen (eCons (eV 1) eNil)) (eV 2))) (sRaise "BadLetters" (flD2 "what" "index") (eCons (eV 3) (eCons (eBi kMin2 (eCons (eBi kLen (eCons (eV 1) eNil)) (eCons (eV 2) eNil))) eNil))) sNil)
    (sRet (eBi kTup (eCons (eV 1) eNil))))))
def F__law_blank : Fn := runF 4 (sRet (eLc [3] (iRg rg1 (eCons (eV 1) eNil)) (bNm 3) tYesD (eOn oTimes (eFz (eLst (eCons (eCall 2 F__law_num [] (eCons (eVm 0) (eCons (eC (.int 0)) eNil))) eNil))) (eV 2))))
def F__law_column : Fn := runF 5 (sSeq (sSet 2 (eOp oSub (eBi kLen (eCons (eV 1) eNil)) (eC (.int 1))))
    (sSeq (sSet 3 (eCall 3 F__law_blank [] (eCons (eVm 0) (eCons (eVm 2) (eCons (eVm 2) eNil)))))
    (sSeq (sFor (iRg rg1 (eCons (eOp oSub (eV 2) (eC (.int 1))) eNil)) (bNm 4) (sSt (pIx (pV 3) (eOp oAdd (eV 4) (eC (.int 1)))) (eV 4) (eCall 2 F__law_num [] (eCons (eVm 0) (eCons (eC (.int 1)) eNil)))))
    (sSeq (sFor (iRg rg1 (eCons (eV 2) eNil)) (bNm 4) (sSt (pIx (pV 3) (eV 4)) (eOp oSub (eV 2) (eC (.int 1))) (eCall 3 F__law_less [] (eCons (eVm 0) (eCons (eCall 2 F__law_num [] (eCons (eVm 0) (eCons (eC (.int 0)) eNil))) (eCons (eOp oIx (eV 1) (eV 4)) eNil))))))
    (sFrz 3 (sRet (eV 3)))))))
end Pd
namespace Pd
open PySem PySem.Spec Fw
def F_check_poly : Fn := runF 4 (sSeq (sIf (eOr (eNot (eTru (eCall 1 F_is_sequence [] (eCons (eVm 1) eNil)))) (eT (eOp oGt (eBi kLen (eCons (eV 1) eNil)) (eC (.int 12))))) (sRaise "BadPoly" (flD2 "index" "what") (eCons (eC (.int 0)) (eCons (eC (.str "many")) eNil))) sNil)
    (sSeq (sFor (iRg kEnum (eCons (eV 1) eNil)) (bTp [(bNm 2), (bNm 3)]) (sIf (eNot (eTru (eMeth "Figures" "is_number" 2 F_Figures_is_number [] (eV 0) (eCons (eVm 3) eNil)))) (sRaise "BadPoly" (flD2 "index" "what") (eCons (eV 2) (eCons (eC (.str "number")) eNil))) sNil))
    (sSeq (sIf (eAnd (eT (eOp oGt (eBi kLen (eCons (eV 1) eNil)) (eC (.int 0)))) (eT (eOp oEq (eOp oIx (eV 1) (eUn oNeg (eC (.int 1)))) (eAtV 0 "zero")))) (sRaise "BadPoly" (flD2 "index" "what") (eCons (eOp oSub (eBi kLen (eCons (eV 1) eNil)) (eC (.int 1))) (eCons (eC (.str "last")) eNil))) sNil)
    (sRet (eBi kTup (eCons (eV 1) eNil))))))
def F_check_led_poly : Fn := runF 6 (sSeq (sSet 4 (eCall 2 F_check_poly [] (eCons (eVm 0) (eCons (eVm 1) eNil))))
    (sSeq (sSet 5 (eOp oSub (eBi kLen (eCons (eV 4) eNil)) (eC (.int 1))))
    (sSeq (sIf (eOr (eT (eOp oLt (eV 5) (eV 2))) (eT (eOp oGt (eV 5) (eV 3)))) (sRaise "BadPoly" (flD2 "index" "what") (eCons (eC (.int 0)) (eCons (eC (.str "degree")) eNil))) sNil)
    (sSeq (sIf (eT (eOp oLt (eV 5) (eC (.int 0)))) (sRaise "BadPoly" (flD2 "index" "what") (eCons (eC (.int 0)) (eCons (eC (.str "led")) eNil))) sNil)
    (sSeq (sIf (eT (eOp oNe (eOp oIx (eV 4) (eUn oNeg (eC (.int 1)))) (eAtV 0 "one"))) (sRaise "BadPoly" (flD2 "index" "what") (eCons (eV 5) (eCons (eC (.str "led")) eNil))) sNil)
    (sRet (eV 4)))))))
end Pd
namespace Bk
open PySem PySem.Spec PyProof.Rows L2
theorem places_back (n : Nat) : Builtin.Slice.slicePlaces ((n : Int) - 1) (-1) (-1) = n := by
  unfold Builtin.Slice.slicePlaces
  rw [if_neg (by decide)]
  have e : -(-1 : Int) = 1 := rfl
  rw [e, Int.ediv_one]
  split <;> omega
theorem adjust_back (n : Nat) : Builtin.Slice.sliceAdjust none none (-1) n = ((n : Int) - 1, -1) := by
  unfold Builtin.Slice.sliceAdjust
  simp
theorem fm_congr {α β : Type} {f g : α → Option β} : ∀ {l : List α}, (∀ k ∈ l, f k = g k) → l.filterMap f = l.filterMap g
  | [], _ => rfl
  | k :: l, h => by
    rw [List.filterMap_cons, List.filterMap_cons, h k (.head _), fm_congr fun j hj => h j (.tail _ hj)]
theorem pick_back (xs : Array Value) : (List.filterMap (fun k : Nat => xs[(((xs.size : Int) - 1) + (k : Int) * (-1)).toNat]?) (List.range xs.size)).toArray = xs.toList.reverse.toArray := by
  have z := W.krv_pick xs
  rw [← z]
  unfold slicePick
  rw [W.krv_bounds]
  show _ = (List.filterMap (fun x => xs[x]?) (sliceRange ((xs.size : Int) - 1) (-1) (-1))).toArray
  rw [W.krv_sliceRange, List.filterMap_map]
  refine congrArg List.toArray (fm_congr fun k hk => ?_)
  have : ((xs.size : Int) - 1 + (k : Int) * (-1)).toNat = xs.size - 1 - k := by
    have := List.mem_range.mp hk
    omega
  show xs[((xs.size : Int) - 1 + (k : Int) * (-1)).toNat]? = xs[xs.size - 1 - k]?
  rw [this]
theorem sliceApplied_back {prog : Program} {w : World} {A : Around} {E : Value → Shared → Prop} {s : Shared} {sl : Addr} {vl vu vs : Value} {n : Nat} {Q : Int × Int × Nat → Shared → Prop} (hs : s.heap.IsSliceOf sl vl vu vs) (pl : IsPart vl none) (pu : IsPart vu none) (ps : IsPart vs (some (-1))) (h : Q ((n : Int) - 1, -1, n) s) : wpAny (model prog w) A (Builtin.Slice.sliceApplied (.ref sl) (pure (n : Int))) Q E s := by
  cases pl
  cases pu
  cases ps
  obtain ⟨os, hos, hcs, hds⟩ := id hs
  refine wpAny_bind (wpAny_bind (wpAny_field hos hds rfl (wpAny_bind (wpAny_field hos hds rfl (wpAny_bind (wpAny_field hos hds rfl (wpAny_pure (wpAny_bind (slicePart_int ?_)))))))))
  show wpAny _ _ (if ((-1 : Int) == 0) = true then _ else _) _ _ _
  rw [if_neg (by decide)]
  refine wpAny_bind (slicePart_none (wpAny_bind (slicePart_none (wpAny_bind (wpAny_pure ?_)))))
  show wpAny _ _ (match Builtin.Slice.sliceAdjust none none (-1) (n : Int) with | (lo, hi) => pure (lo, (-1 : Int), Builtin.Slice.slicePlaces lo hi (-1))) _ _ _
  rw [adjust_back]
  show wpAny _ _ (pure ((n : Int) - 1, (-1 : Int), Builtin.Slice.slicePlaces ((n : Int) - 1) (-1) (-1))) _ _ _
  rw [places_back]
  exact wpAny_pure h
theorem getItem_tuple_back {prog : Program} {w : World} {A : Around} {E : Value → Shared → Prop} {s : Shared} {t sl : Addr} {items : Array Value} {vl vu vs : Value} {Q : Value → Shared → Prop} (ht : IsTup s.heap t items) (hs : s.heap.IsSliceOf sl vl vu vs) (pl : IsPart vl none) (pu : IsPart vu none) (ps : IsPart vs (some (-1))) (h : Q (.ref s.heap.objs.size) { s with heap := s.heap.push { cls := .type "tuple", data := .seq items.toList.reverse.toArray } }) (hsz : items.size ≤ sizeLine) : wpAny (model prog w) A (getItem (.ref t) (.ref sl)) Q E s := by
  obtain ⟨os, hos, hcs, hds⟩ := id hs
  have hTs : s.TypeIs (.ref sl) "slice" := ⟨os, hos, hcs⟩
  refine wpAny_holding (wpAny_bind (wpAny_sequenceKey (IsTup.typeIs ht) (by decide) (wpAny_bind (wpAny_callSpecial?_slot (IsTup.typeIs ht) slot_tuple_getitem (wpAny_call_entry slot_tuple_getitem (IsTup.typeIs ht) entry_tuple_getitem ?_ (args_tuple_getitem (.ref t) (.ref sl)))))))
  show wpAny (model prog w) A.in1 (Builtin.Tuple.tupleItemsOf (.ref t) >>= _) _ _ _
  refine wpAny_bind (tupleItemsOf_ ht (wpAny_bind (wpAny_typeOf hTs ?_)))
  rw [if_pos (by decide)]
  refine wpAny_bind (sliceApplied_back hs pl pu ps ?_)
  show wpAny _ _ (if (((items.size : Int) - 1 == 0 && (-1 : Int) == 1 && items.size == items.size) = true) then _ else _) _ _ _
  rw [if_neg (by rw [Bool.and_eq_true, Bool.and_eq_true]; rintro ⟨⟨_, h⟩, _⟩; cases h)]
  rw [pick_back]
  refine wpAny_bind (wpAny_newObj_type (wpAny_pure ⟨_, rfl, wpAny_pure h⟩) ?_)
  show items.toList.reverse.toArray.size ≤ sizeLine
  rw [List.size_toArray, List.length_reverse, Array.length_toList]
  exact hsz
def tRevA (K : W.Frag) (te : TE) : TE := fun σ H Q => te σ H fun x H1 => ∃ a xs, x = .ref a ∧ ((SqT K H1 a xs ∧ ∀ p, H1 p = none → Q (.ref p) (upd H1 p (.tup xs.reverse))) ∨ (SqL K H1 a xs ∧ ∀ p, H1 p = none → Q (.ref p) (upd H1 p (.lst xs.reverse))))
variable {X : Cx} {e : Expr} {te : TE} {k : Nat} {p1 p2 p3 pos : Pos}
theorem pe_revA (he : PE X e te) : PE X (.Subscript e (.Slice none none (some (.UnaryOp .USub (.Constant (.int 1) k p1) p2)) p3) pos) (tRevA X.K te) := ⟨fun pins s σ H Q I h => by
  refine Subscript_ (thn (he.run pins s σ H _ I h) fun v s1 x => ?_)
  obtain ⟨x1, H1, I1, r1, a, xs, rfl, hq⟩ := x
  cases r1
  have hst : PO X (some (.UnaryOp .USub (.Constant (.int 1) k p1) p2)) _ := po_some (pe_un un_neg pe_int)
  refine wpAny_Slice (thn (po_none.run pins s1 σ H1 (fun o H2 => o = none ∧ H2 = H1) I1 ⟨rfl, rfl⟩) fun vl s2 x => ?_)
  obtain ⟨l, H2, I2, pl, el, e2⟩ := x
  subst el
  subst e2
  refine thn (po_none.run pins s2 σ H2 (fun o H3 => o = none ∧ H3 = H2) I2 ⟨rfl, rfl⟩) fun vu s3 x => ?_
  obtain ⟨u, H3, I3, pu, eu, e3⟩ := x
  subst eu
  subst e3
  refine thn (hst.run pins s3 σ H3 (fun o H4 => o = some (-1) ∧ H4 = H3) I3 ⟨1, rfl, -1, rfl, rfl, rfl⟩) fun vs s4 x => ?_
  obtain ⟨o, H4, I4, ps, eo, e4⟩ := x
  subst eo
  subst e4
  have I5 := Inv.kept (t' := s4.toks) I4 fun b ob q => Heap.get?_push_of_some { cls := .type "slice", data := .fields #[vl, vu, vs] } q
  rcases hq with ⟨hx, q⟩ | ⟨hx, q⟩
  · obtain ⟨its, r, ht, hz⟩ := Inv.tuple I5 hx
    have hlen := Vals.length r
    refine tail_any (IsTup.typeIs ht) slot_tuple_getitem.lookup (getItem_tuple_back ht (Heap.IsSliceOf.new s4.1 vl vu vs) pl pu ps ?_ ?_) rfl
    · refine ⟨.ref _, upd H4 _ (.tup xs.reverse), Inv.laid I5 (fun b ob q => Heap.get?_push_of_some { cls := .type "tuple", data := .seq its.toArray.toList.reverse.toArray } q) (Nat.le_refl _) ⟨by rw [List.length_reverse]; exact hz, its.reverse, Vals.reverse r, ?_⟩, rfl, q _ (HOk.fresh I5.hok (Nat.le_refl _))⟩
      exact IsTup.new _ _
    · rw [List.size_toArray, ← hlen]
      exact hz
  · obtain ⟨its, r, ht, hz⟩ := Inv.list I5 hx
    have hlen := Vals.length r
    refine tail_any (Heap.IsList.typeIs (PlainL.isList ht)) slot_list_getitem.lookup (wpAny_getItem_list_slice (PlainL.isList ht) (Heap.IsSliceOf.new s4.1 vl vu vs) pl pu ps (by decide) ?_ ?_) rfl
    · rw [W.krv_pick]
      exact ⟨.ref _, upd H4 _ (.lst xs.reverse), Inv.laid I5 (fun b ob q => Heap.get?_push_of_some { cls := .type "list", data := .seq its.toArray.toList.reverse.toArray } q) (Nat.le_refl _) ⟨by rw [List.length_reverse]; exact hz, its.reverse, 0, Vals.reverse r, Heap.get?_push_size _ rfl⟩, rfl, q _ (HOk.fresh I5.hok (Nat.le_refl _))⟩
    · rw [List.size_toArray, ← hlen]
      exact hz⟩
end Bk
namespace Fw
open PySem PySem.Spec PyProof.Rows L2 Dz Vz
variable {X : Cx} {c : Cn} {W : WX} {e : Expr} {f : EF D} {k : Nat} {p1 p2 p3 pos : Pos}
def rvD (d : D) : Option D := match d with
  | .tup ds => some (.tup ds.reverse)
  | .lst ds => some (.hl ds.reverse)
  | _ => none
def eRv (f : EF D) : EF D := fun δ h => (f δ h).bind fun d h1 => Ex.of (rvD d) h1
theorem dqAll_appR {ha : Option Addr} {G : Hp} {ys : List V} {es : List D} (k : DqAll c ha G ys es) : ∀ {xs : List V} {ds : List D}, DqAll c ha G xs ds → DqAll c ha G (xs ++ ys) (ds ++ es)
  | _, _, .nil => k
  | _, _, .cons h t => .cons h (dqAll_appR k t)
theorem dqAll_rev {ha : Option Addr} {G : Hp} : ∀ {xs : List V} {ds : List D}, DqAll c ha G xs ds → DqAll c ha G xs.reverse ds.reverse
  | _, _, .nil => .nil
  | x :: xs, d :: ds, .cons h t => by
    rw [List.reverse_cons, List.reverse_cons]
    exact dqAll_appR (.cons h .nil) (dqAll_rev t)
theorem dn_rv (he : PE X e (rd c W f)) (hK : X.K = c.K := by rfl) : PE X (.Subscript e (.Slice none none (some (.UnaryOp .USub (.Constant (.int 1) k p1) p2)) p3) pos) (rn c W (eRv f)) := pn_to (Bk.pe_revA he) fun σ H Q x => by
  obtain ⟨ha, G0, B, G, δ, h, st, p⟩ := x
  refine ⟨ha, G0, B, G, δ, h, st, post_imp (post_bind p) fun x h1 G1 H1 af1 p1 v dv => ?_⟩
  obtain ⟨d, e, q⟩ := post_of p1
  rw [hK]
  cases dv with
  | tup k1 k2 =>
    rename_i a xs ds
    cases e
    refine ⟨a, xs, rfl, .inl ⟨Evl.ex_t af1.gh k1, fun p hp => ?_⟩⟩
    have m := Mv.new (o := .tup xs.reverse) af1.gh hp
    exact q _ _ (.of af1.gh af1.hd m (same_new hp)) _ (nw_dq (.tup (SqT.of upd_same) (dqAll_rev (dqAll_mono m.gg k2))))
  | lst k1 k2 =>
    rename_i a xs ds
    cases e
    refine ⟨a, xs, rfl, .inr ⟨SqL.of (af1.gh _ _ k1), fun p hp => ?_⟩⟩
    exact q _ _ (.of af1.gh af1.hd (Mv.hid af1.gh hp) (same_new hp)) _ (nw_from af1 (nw_lst af1.gh hp (dqAll_rev k2)))
  | _ => cases e
end Fw
namespace Fw
open PySem PySem.Spec PyProof.Rows L2 Dz Vz
variable {c : Cn}
def bLs (bs : List (D → DE → Option DE)) : D → DE → Option DE := fun d δ => match d with
  | .lst ds => bAll bs ds δ
  | _ => none
theorem bd_ls {vs : List Nat} {gs : TGs} {bs : List (D → DE → Option DE)} {n : Nat} (hn : bs.length = n) (h2 : BindA c vs gs bs) : BindD c vs (gLst c.K n gs) (bLs bs) := by
  intro ha G0 B G H σ δ δ2 h d v Q st dv e fin
  cases dv with
  | lst h3 h4 => exact ⟨_, _, rfl, SqL.of (st.gh _ _ h3), by rw [dqAll_len h4, bAll_len e, hn], h2 st h4 e fin⟩
  | _ => cases e
theorem bLs_a (bs : List (D → DE → Option DE)) (ds : List D) (δ : DE) : bLs bs (.lst ds) δ = bAll bs ds δ := (rfl)
end Fw
namespace Pd
open PySem PySem.Spec Fw
end Pd
namespace Fw
open PySem PySem.Spec PyProof.Rows L2 Dz Vz
end Fw
namespace Fw
open PySem PySem.Spec PyProof.Rows L2 Dz Vz
end Fw
namespace Fw
open PySem PySem.Spec PyProof.Rows L2 Dz Vz
end Fw
namespace Pd
open PySem PySem.Spec Fw
def F_table_plus : Fn := runF 5 (sRet (eBi kTup (eCons (eFz (eLc [3, 4] (iRg kZip (eCons (eV 1) (eCons (eV 2) eNil))) (bTp [(bNm 3), (bNm 4)]) tYesD (eCall 3 F_row_sum [] (eCons (eVm 0) (eCons (eVm 3) (eCons (eVm 4) eNil)))))) eNil)))
def F_table_scaled : Fn := runF 4 (sRet (eBi kTup (eCons (eFz (eLc [3] (iSeq (eV 2)) (bNm 3) tYesD (eCall 3 F_row_scaled [] (eCons (eVm 0) (eCons (eVm 1) (eCons (eVm 3) eNil)))))) eNil)))
def F_check_by : Fn := runF 1 (sIf (eAnd (eT (eOp oNe (eV 0) (eC (.str "x")))) (eT (eOp oNe (eV 0) (eC (.str "y"))))) (sRaise0 "BadSide") sNil)
def F_about_plain : Fn := runF 7 (sSeq (sSet 4 (eAtV 0 "figures"))
    (sSeq (sDrop (eCall 1 F_check_by [] (eCons (eVm 1) eNil)))
    (sSeq (sSet 2 (eCall 4 F_check_letters [] (eCons (eVm 4) (eCons (eVm 2) (eCons (eC (.int 2)) (eCons (eC (.str "taps")) eNil))))))
    (sSeq (sSet 3 (eCall 4 F_check_letters [] (eCons (eVm 4) (eCons (eVm 3) (eCons (eIf (eT (eOp oEq (eV 1) (eC (.str "y")))) (eAtV 0 "rows") (eAtV 0 "columns")) (eCons (eC (.str "letters")) eNil))))))
    (sSeq (sSet 5 (eCall 3 F_table_scaled [] (eCons (eVm 4) (eCons (eOp oIx (eV 2) (eC (.int 0))) (eCons (eAtV 0 "first") eNil)))))
    (sSeq (sSet 6 (eCall 3 F_table_plus [] (eCons (eVm 4) (eCons (eVm 5) (eCons (eCall 3 F_table_scaled [] (eCons (eVm 4) (eCons (eOp oIx (eV 2) (eC (.int 1))) (eCons (eAtV 0 "second") eNil)))) eNil)))))
    (sRet (eCall 3 F_column_led [] (eCons (eVm 4) (eCons (eIf (eT (eOp oEq (eV 1) (eC (.str "y")))) (eCall 1 F_flipped_table [] (eCons (eVm 6) eNil)) (eV 6)) (eCons (eVm 3) eNil)))))))))))
end Pd
namespace Fw
open PySem PySem.Spec PyProof.Rows L2 Dz Vz
end Fw
namespace Pd
open PySem PySem.Spec Fw
def F_bare_value : Fn := runF 5 (sSeq (sSet 3 (eAtV 0 "zero"))
    (sSeq (sFor (iSeq (eFz (eRv (eV 1)))) (bNm 4) (sSet 3 (eMeth "Figures" "plus" 3 F_Figures_plus [] (eV 0) (eCons (eMeth "Figures" "times" 3 F_Figures_times [] (eV 0) (eCons (eVm 3) (eCons (eVm 2) eNil))) (eCons (eVm 4) eNil)))))
    (sRet (eV 3))))
end Pd
namespace Fw
open PySem PySem.Spec PyProof.Rows L2 Dz Vz
end Fw
namespace L2
open PySem PySem.Spec PyProof.Rows
end L2
namespace Fw
open PySem PySem.Spec PyProof.Rows L2 Dz Vz
end Fw
namespace Pd
open PySem PySem.Spec Fw
end Pd
namespace Fw
open PySem PySem.Spec PyProof.Rows L2 Dz Vz
section
variable {c : Cn} {ha : Option Addr} {G H : Hp}
theorem ownAll_cut : ∀ {xs : List V} {ds : List D} {fp : List Addr} (n : Nat), OwnAll c ha G H xs ds fp → ∃ f g, fp = f ++ g ∧ OwnAll c ha G H (xs.take n) (ds.take n) f ∧ OwnAll c ha G H (xs.drop n) (ds.drop n) g
  | _, _, _, 0, o => ⟨[], _, rfl, .nil, o⟩
  | _, _, _, _ + 1, .nil => ⟨[], [], rfl, .nil, .nil⟩
  | _, _, _, n + 1, .cons h t => by
    obtain ⟨f, g, e, a, b⟩ := ownAll_cut n t
    subst e
    exact ⟨_, g, (List.append_assoc ..).symm, .cons h a, b⟩
end
theorem ixN_b {n : Nat} {i : Int} {j : Nat} (e : ixN n i = some j) : -(n : Int) ≤ i ∧ i < n := by
  unfold ixN at e
  repeat' split at e
  all_goals first | omega | (cases e; done)
end Fw
namespace Pd
open PySem PySem.Spec Fw
end Pd
namespace Fw
open PySem PySem.Spec PyProof.Rows L2 Dz Vz
end Fw
namespace Fw
open PySem PySem.Spec PyProof.Rows L2 Dz Vz
section
variable {X : Cx} {W : WX} {c : Cn} {nw : Bool} {s : Stmt} {u : SF} {e a b : Expr} {f : EF D} {ha hb : Option Addr} {G G0 B H G' H' : Hp} {σ : L2.St} {δ : DE} {h : D} {pos : Pos}
def sRetM (i j : Nat) : SF := fun δ h => if i = j then .bad else match δ[i]?, δ[j]? with
  | some (some (.hl ds)), some (some (.hl es)) => .ret (.hl [.hl ds, .hl es]) h
  | _, _ => .bad
theorem nx_retM {i j : Nat} : NoNx (sRetM i j) := fun δ h δ' h' e => by
  unfold sRetM at e
  split at e
  · cases e
  · split at e <;> cases e
end
end Fw
namespace Fw
open PySem PySem.Spec PyProof.Rows L2 Dz Vz
end Fw
namespace Fw
open PySem PySem.Spec PyProof.Rows L2 Dz Vz
structure RoomH (k : Nat) (A : Around) : Prop where
  d : 3 * k + A.depth + 5 < recursionLimit
  u : 16 * k + A.units + 200 < cLine
theorem RoomH.mono {j k : Nat} {A : Around} (r : RoomH k A) (h : j ≤ k) : RoomH j A := ⟨by have := r.d; omega, by have := r.u; omega⟩
theorem RoomH.units {k : Nat} {A : Around} (r : RoomH k A) : A.units + 64 < cLine := by have := r.u; omega
theorem RoomH.deeper {k : Nat} {A : Around} (r : RoomH (k + 1) A) (env : Env) : RoomH k (A.deeper env) := ⟨by have := r.d; show 3 * k + (A.depth + 1) + 5 < _; omega, by have := r.u; show 16 * k + (A.units + 3) + 200 < _; omega⟩
theorem RoomH.of {j k : Nat} {A : Around} {x : Option Value} (r : Room k A) (h : j ≤ k) : RoomH j (A.mark x) := ⟨by have := r.dp; show 3 * j + A.depth + 5 < _; omega, by have := r.un; show 16 * j + A.units + 200 < _; omega⟩
end Fw
namespace Pd
open PySem PySem.Spec Fw
end Pd
namespace Fw
open PySem PySem.Spec PyProof.Rows L2 Dz Vz
section
variable {X : Cx} {W : WX} {c : Cn} {nw : Bool} {e a b : Expr} {k : EF Pl} {fi : EF D} {ha hb : Option Addr} {G G0 B H G' H' : Hp} {σ : L2.St} {δ : DE} {h : D} {pos : Pos} {i0 : Nat}
theorem plD_ne {p : Pl} {x d : D} (hn : p.1 ≠ i0) (e : plD δ (i0, []) = some d) : plD (plS δ p x) (i0, []) = some d := by
  unfold plS
  split
  · unfold plD at e ⊢
    rw [List.getElem?_set_ne hn]
    exact e
  · exact e
def sAppPop (i0 : Nat) (k : EF Pl) (fi : EF D) : SF := fun δ h => match δ[i0]? with
  | some (some (.hl es)) => if szOk es.length = true then (k δ h).fl δ fun p h1 => match plD δ p with
    | some (.hl ds) => (fi δ h1).fl δ fun z h2 => match z with
      | .int i => match ixN ds.length i with
        | some j => match ds[j]? with
          | some y => if (szOk ds.length && y.fr) = true then (if p.1 ≠ i0 then .nx (plS (plS δ p (.hl (ds.eraseIdx j))) (i0, []) (.hl (es ++ [y]))) h2 else .bad) else .bad
          | none => .bad
        | none => .bad
      | _ => .bad
    | _ => .bad
    else .bad
  | _ => .bad
theorem rs_appPop (Dn : Ends) (σ : L2.St) (H : Hp) (x : rs c W nw (sAppPop i0 k fi) Dn σ H) : tDrop (tBM c.K "list" rAppend (rp c W (pV i0)) (tCons (tBM c.K "list" rPopAt (rp c W k) (tCons (rd c W fi) tNil)) tNil)) Dn σ H := by
  obtain ⟨ha, G0, B, G, δ, h, st, p⟩ := x
  unfold sAppPop at p
  split at p
  case h_2 => exact p.elim
  rename_i es e6
  by_cases hz0 : szOk es.length = true
  case neg => rw [if_neg hz0] at p; exact p.elim
  rw [if_pos hz0] at p
  have e7 : plD δ (i0, []) = some (.hl es) := by unfold plD; rw [e6]; rfl
  have ev0 : pV i0 δ h = .ok (i0, []) h := by unfold pV; rw [e6]; rfl
  refine ⟨ha, G0, B, G, δ, h, st, ?_⟩
  rw [ev0]
  intro G9 H9 af9 v0 pv0
  have st := st.to af9
  obtain ⟨a0, xs0, _, _, _, ea0, hl0, _, _, kk0, _⟩ := st.change e7 pv0
  subst ea0
  have ka0 := kk0 a0 (List.mem_append_right _ (List.mem_append_left _ List.mem_cons_self))
  have p := posts_from af9.gg p
  refine ⟨.inl ⟨rfl, xs0, SqL.of hl0⟩, ?_⟩
  refine ⟨ha, G0, B, G9, δ, h, st, post_imp (post_fl st p) fun pl h1 G1 H1 af1 p1 v pv => ?_⟩
  have st1 := st.to af1
  have pv7 := pv0.keep af1
  split at p1
  · rename_i ds e0
    obtain ⟨a, xs, f1, fd, f2, rfl, hl, oa, n, kk, ch⟩ := st1.change e0 pv
    refine ⟨.inl ⟨rfl, xs, SqL.of hl⟩, ha, G0, B, G1, δ, h1, st1, post_imp (post_fl st1 p1) fun z h2 G2 H2 af q iv di => ?_⟩
    have st2 := st1.to af
    split at q
    · rename_i i
      cases di
      split at q
      · rename_i j ej
        split at q
        · rename_i y ey
          by_cases hz : (szOk ds.length && y.fr) = true
          · rw [if_pos hz] at q
            rw [Bool.and_eq_true] at hz
            have z1 := of_decide_eq_true hz.1
            by_cases hb : pl.1 ≠ i0
            case neg => rw [if_neg hb] at q; exact q.elim
            rw [if_pos hb] at q
            have _u : True := trivial
            · have _v := trivial
              have ka := kk a (List.mem_append_right _ (List.mem_append_left _ List.mem_cons_self))
              have hl2 : H2 a = some (.lst xs) := af.bt a _ ka.2.1 hl
              have nb := List.nodup_append.mp (List.nodup_append.mp n).2.1
              have ll := ownAll_len oa
              obtain ⟨sq, hj, _, _⟩ := ixN_seq ej
              have o3 : OwnAll c ha G2 (upd H2 a (.lst (xs.eraseIdx j))) xs ds fd := ownAll_af af oa fun b hb => by
                have kb := kk b (List.mem_append_right _ (List.mem_append_left _ (List.mem_cons_of_mem _ hb)))
                refine ⟨kb.2.1, kb.2.2.1, kb.2.2.2, ?_⟩
                rintro rfl
                exact (List.nodup_cons.mp nb.1).1 hb
              obtain ⟨ff, g, ef, o4, o5⟩ := ownAll_cut j o3
              have ed : ds.drop j = y :: ds.drop (j + 1) := by
                rw [List.drop_eq_getElem_cons hj]
                rw [List.getElem?_eq_getElem hj] at ey
                rw [Option.some.inj ey]
              rw [ed] at o5
              cases ex : xs.drop j with
              | nil => rw [ex] at o5; cases o5
              | cons w ws =>
                rw [ex] at o5
                have ews : xs.drop (j + 1) = ws := by
                  have : xs.drop (j + 1) = (xs.drop j).drop 1 := by rw [List.drop_drop]
                  rw [this, ex]
                  rfl
                cases o5 with
                | @cons _ _ fy _ _ ft oy ot =>
                  obtain ⟨dq, efy⟩ := own_fr oy hz.2
                  subst efy
                  have ey2 : xs[j]? = some w := by
                    have := List.getElem?_drop (xs := xs) (i := j) (j := 0)
                    rw [ex, Nat.add_zero] at this
                    exact this.symm
                  refine ⟨a, xs, i, j, w, rfl, rfl, hl2, ?_, ?_, by rw [ll]; exact sq, ey2, ?_⟩
                  · have := ixN_b ej
                    omega
                  · have := ixN_b ej
                    omega
                  · have st3 := ch (es := ds.eraseIdx j) (ys := xs.eraseIdx j) (fe := fd) af (by
                      rw [List.eraseIdx_eq_take_drop_succ, List.eraseIdx_eq_take_drop_succ, ews, ef, List.nil_append]
                      rw [List.eraseIdx_eq_take_drop_succ, ews] at o4 ot
                      exact ownAll_app o4 ot) n fun b hb => by
                      have kb := kk b (List.mem_append_right _ (List.mem_append_left _ (List.mem_cons_of_mem _ hb)))
                      exact ⟨kb.1, kb.2.1⟩
                    have e9 : plD (plS δ pl (.hl (ds.eraseIdx j))) (i0, []) = some (.hl es) := plD_ne hb e7
                    have pv9 : PlV ha σ (upd H2 a (.lst (xs.eraseIdx j))) (i0, []) (.ref a0) := by
                      obtain ⟨v0, e8, vt⟩ := pv7
                      exact ⟨v0, e8, vt⟩
                    obtain ⟨a', xs', f1', fd', f2', ea, hl', oa', n', kk', ch'⟩ := st3.change e9 pv9
                    cases ea
                    have nb' := List.nodup_append.mp (List.nodup_append.mp n').2.1
                    have hes : es.length ≤ 1000000 := of_decide_eq_true hz0
                    have st5 := ch' (es := es ++ [y]) (ys := xs' ++ [w]) (fe := fd' ++ []) (.refl st3.gh st3.hd) (ownAll_app (ownAll_af (.refl st3.gh st3.hd) oa' fun b hb => by
                        have kb := kk' b (List.mem_append_right _ (List.mem_append_left _ (List.mem_cons_of_mem _ hb)))
                        refine ⟨kb.2.1, kb.2.2.1, kb.2.2.2, ?_⟩
                        rintro rfl
                        exact (List.nodup_cons.mp nb'.1).1 hb) (.cons (f := []) (fp := []) (.frz dq) .nil)) (by rw [List.append_nil]; exact n') fun b hb => by
                        rw [List.append_nil] at hb
                        have kb := kk' b (List.mem_append_right _ (List.mem_append_left _ (List.mem_cons_of_mem _ hb)))
                        exact ⟨kb.1, kb.2.1⟩
                    refine ⟨a0, xs', w, rfl, rfl, hl', by rw [ownAll_len oa', sizeLine_eq]; omega, ?_⟩
                    exact q σ G2 _ st5 (Same.refl _)
          · rw [if_neg hz] at q
            exact q.elim
        · exact q.elim
      · exact q.elim
    · exact q.elim
  · exact p1.elim
theorem ds_appPop {x : Str} {p1 apos apos2 pos2 pos3 : Pos} (hN : X.N[i0]? = some x) (hv : Vis X.env.scope x) (hk : PE X a (rp c W k)) (hi : PE X b (rd c W fi)) (hd : (x == ("__debug__" : Str)) = false := by decide) (hcd : (x == ("__classdict__" : Str)) = false := by decide) (hK : X.K = c.K := by rfl)
    (hb1 : attributeBase a "pop" X.env (eval a X.env) = eval a X.env := by rfl)
    (hf1 : ((backTo pos (starEach [b] X.env)).all (fun x => !x.1) && (backToKw pos (keywordEach [] X.env)).all (fun x => x.1.isSome)
      && decide ([b].length + ([] : List Keyword).length + (if ([] : List Keyword).isEmpty then 0 else 1) < 30)) = true := by rfl)
    (hl1 : (apos.endLine == pos.line) = true := by rfl) (s1 : starEach [b] X.env = (false, eval b X.env) :: starEach [] X.env := by rfl) (hp1 : (backTo pos (starEach [] X.env)).any (·.1) = false := by rfl)
    (hb2 : attributeBase (.Name x p1) "append" X.env (eval (.Name x p1) X.env) = eval (.Name x p1) X.env := by rfl)
    (hf2 : ((backTo pos2 (starEach [.Call (.Attribute a "pop" apos) [b] [] pos] X.env)).all (fun x => !x.1) && (backToKw pos2 (keywordEach [] X.env)).all (fun x => x.1.isSome)
      && decide ([Expr.Call (.Attribute a "pop" apos) [b] [] pos].length + ([] : List Keyword).length + (if ([] : List Keyword).isEmpty then 0 else 1) < 30)) = true := by rfl)
    (hl2 : (apos2.endLine == pos2.line) = true := by rfl) (s2 : starEach [.Call (.Attribute a "pop" apos) [b] [] pos] X.env = (false, eval (.Call (.Attribute a "pop" apos) [b] [] pos) X.env) :: starEach [] X.env := by rfl) (hp2 : (backTo pos2 (starEach [] X.env)).any (·.1) = false := by rfl)
    (hs : swapsWith (.Call (.Attribute (.Name x p1) "append" apos2) [.Call (.Attribute a "pop" apos) [b] [] pos] [] pos2) none pos3.line X.env = pure false := by rfl) : PS X (.Expr (.Call (.Attribute (.Name x p1) "append" apos2) [.Call (.Attribute a "pop" apos) [b] [] pos] [] pos2) pos3) (rs c W nw (sAppPop i0 k fi)) :=
  ps_to (ps_expr (pe_bm PySem.F.plainAttrs_list PySem.F.slot_list_append PySem.F.type_list_append mt_append (dp_v (c := c) (W := W) hN hv hd hcd) (pa_cons (pe_bm PySem.F.plainAttrs_list PySem.F.slot_list_pop PySem.F.type_list_pop mt_popAt hk (pa_cons hi pa_nil s1) hb1 hf1 hl1 s1 hp1) pa_nil s2) hb2 hf2 hl2 s2 hp2) hs) (by rw [hK]; exact rs_appPop)
end
end Fw
namespace Fw
open PySem PySem.Spec PyProof.Rows L2 Dz Vz
/-- with another wish about exceptions, the same states -/
theorem inv_xe {X : Cx} {xe : Value → Shared → Prop} {pins : List (Addr × Obj)} {σ : L2.St} {H : Hp} {s : Shared} (I : Inv { X with xe := xe } pins σ H s) : Inv X pins σ H s :=
  ⟨⟨I.ok.mod, I.ok.kind, I.ok.glob, I.ok.blt, I.ok.above, I.ok.inj, I.ok.has, I.ok.cab, I.ok.hd, I.ok.frames, I.ok.stk, I.ok.exf, I.ok.bs, I.ok.bsz, I.ok.noex, I.ok.exfs, I.ok.funs, I.ok.frf⟩, I.os, I.bare, I.base, I.loc, I.cell, I.free, I.freeC, I.pin, I.hok, I.len⟩
theorem inv_ex {X : Cx} {xe : Value → Shared → Prop} {pins : List (Addr × Obj)} {σ : L2.St} {H : Hp} {s : Shared} (I : Inv X pins σ H s) : Inv { X with xe := xe } pins σ H s :=
  ⟨⟨I.ok.mod, I.ok.kind, I.ok.glob, I.ok.blt, I.ok.above, I.ok.inj, I.ok.has, I.ok.cab, I.ok.hd, I.ok.frames, I.ok.stk, I.ok.exf, I.ok.bs, I.ok.bsz, I.ok.noex, I.ok.exfs, I.ok.funs, I.ok.frf⟩, I.os, I.bare, I.base, I.loc, I.cell, I.free, I.freeC, I.pin, I.hok, I.len⟩
/-- less ground -/
theorem ff_less {B B2 : Heap} (k : ∀ b, B.get? b = none → B2.get? b = none) : ∀ {l : List Env} {h : Heap}, h.FunFrames B l → h.FunFrames B2 l
  | [], _, _ => trivial
  | _ :: _, _, ⟨a, ⟨L, o, e, n, g, d⟩, r⟩ => ⟨a, ⟨L, o, e, k L n, g, d⟩, ff_less k r⟩
theorem tz_less {B B2 h : Heap} {a : Addr} {Z : Obj → Prop} {fl : Value} (k : ∀ b, B.get? b = none → B2.get? b = none) (x : HandSPX.TracedZ h B a Z fl) : HandSPX.TracedZ h B2 a Z fl := by
  obtain ⟨oe, vs, T, oT, ts, h1, h2, h3, h4, h5, r⟩ := x
  exact ⟨oe, vs, T, oT, ts, h1, h2, h3, h4, k T h5, r⟩
theorem sky_less {B B2 h : Heap} {l : List Env} {a L : Addr} {Z : Obj → Prop} (s : B2.StaysIn B) (x : Sky B l a Z L h) : Sky B2 l a Z L h := by
  have k : ∀ b, B.get? b = none → B2.get? b = none := fun b e => by
    cases q : B2.get? b with
    | none => rfl
    | some o => rw [s b o q] at e; cases e
  rcases x with ⟨x1, x2, x3, x4⟩ | ⟨x1, x2, x3, x4⟩ | ⟨x1, x2, x3, x4⟩
  · exact .inl ⟨fun b o e => x1 b o (s b o e), k _ x2, ff_less k x3, x4⟩
  · exact .inr (.inl ⟨fun b o e => x1 b o (s b o e), k _ x2, ff_less k x3, tz_less k x4⟩)
  · exact .inr (.inr ⟨fun b o e => x1 b o (s b o e), k _ x2, ff_less k x3, tz_less k x4⟩)
/-- the frame's note, whichever way it hangs in the air -/
theorem sky_note {M : Model} {A : Around} {E₁ : Value → Shared → Prop} {s : Shared} {B : Heap} {env : Env} {outer : List Env} {L a : Addr} {Z : Obj → Prop} {Q : Unit → Shared → Prop} (hZ : HandSPX.Steady Z) (hfr : A.frames = some (env :: outer)) (hf : env.frame = some L)
    (x : Sky B (env :: outer) a Z L s.heap) (hQ : ∀ h', HandSPX.HeldZ B (env :: outer) a Z L h' → s.heap.UpToSlots h' → Q () { s with heap := h' }) : wpAny M A (noteFrame (.ref a) env) Q E₁ s := by
  rcases x with ⟨hB, hn, hl, oe, vs, he, hz, hd, h1⟩ | fl | hh
  · exact HandSPX.look_newZ hZ hfr hl hf he hB hn hd h1 hz hQ
  · exact HandSPX.looks_onZ hZ hfr hf fl hQ
  · exact HandSPX.againZ hf hh.2.2.2 (hQ s.heap hh (Heap.UpToSlots.refl _))
/-- what flew into the block from a call goes on in the def's own frame -/
theorem blk_out {X : Cx} {W : WX} {pins : List (Addr × Obj)} {σ σB : L2.St} {H0 : Hp} {s0 s' : Shared} {C : Addr} {ce : Env} {u : Value} {m : Str → Option Value} (hs : X.stack = X.env :: X.outer) (hf : X.env.frame = some X.env.locals) (tk : Takes X W)
    (hW : ∀ cls d σ σ' H, W cls d σ H → W cls d σ' H) (I : Inv X pins σ H0 s0) (hC : FpOk X [] H0 C) (hn : s0.heap.Ns C m) (cl : ce.locals = C) (cf : ce.frame = X.env.frame) (cx : CX X.prog X.w X.stack H0 s0 (WE W σB) u s') :
    notedBy (model X.prog X.w) X.A ce (CompFails (model X.prog X.w) X.A X.xe ce) u s' := by
  obtain ⟨a, B, H', cls, d, rfl, fl, hok, ub, na, os, ag, hE⟩ := cx
  obtain ⟨oC, es, ep, hoC, hdC, rC⟩ := hn
  have nC' : H' C = none := ub.free C oC hoC hC.1
  have hnf : C ∉ frs X.stack := by
    rw [hs]
    intro z
    have z2 : C ∈ X.env.locals :: frs X.outer := by
      unfold frs at z ⊢
      rw [List.filterMap_cons, hf] at z
      exact z
    rcases List.mem_cons.mp z2 with q | q
    · exact hC.2.1 q
    · exact hC.2.2.1 q
  have eC' : s'.heap.get? C = some oC := fl.1 C oC (ub.keep C oC hoC hC.1 hnf)
  have xe : XE X (fun cls d _ H => W cls d σ H ∧ H C = none) (.ref a) s' := XE.of_call (E := fun cls d H => W cls d σ H ∧ H C = none) I (fun _ _ _ h => h) ⟨a, B, H', cls, d, rfl, fl, hok, ub, na, os, ag, hW _ _ _ _ _ hE, nC'⟩
  obtain ⟨a', B1, sI, pins1, σ1, H1, cls1, d1, e, J, nb, up, sky, na1, os1, ag1, w1, hC1⟩ := xe
  cases e
  have J0 : Inv X [] σ1 H1 sI := J.unpinned (pins := [])
  have hm : ∀ b, b ≠ C → b ∉ [C] := fun b hb z => hb (by simpa using z)
  have J2 : Inv X [] σ1 H1 { sI with heap := PySem.W.hideAll sI.heap [C] } := J0.turned (it := C) (t' := sI.toks) (fun b o hb e => PySem.W.hideAll_get _ e (hm b hb)) hC1 hC.2.1 hC.2.2.2.1 hC.2.2.2.2.1 hC.2.2.2.2.2
  have sky2 : Sky (PySem.W.hideAll B1 [C]) (X.env :: X.outer) a (Zc cls1 d1) X.env.locals s'.heap := by
    rw [← hs]
    exact sky_less (fun b o e => PySem.W.of_hideAll _ e) sky
  have hfr : X.A.frames = some (X.env :: X.outer) := by rw [I.ok.frames, hs]
  show wpAny _ _ (noteFrame (.ref a) ce) _ _ s'
  rw [noteFrame_env _ cf]
  refine sky_note Zc.steady hfr hf sky2 fun h1 hh1 up1 => ?_
  obtain ⟨g1, g2, g3, oe, vs, T, oT, ts, he, hz, hd, h1', hnT, hTe, hT, hdT, h3⟩ := hh1
  obtain ⟨slC, eC1⟩ := up1 C oC eC' fun vs q => by rw [hdC] at q; cases q
  have aC : a ≠ C := fun z => by
    rw [z, eC1] at he
    cases he
    rw [show ({ oC with slots := slC } : Obj).data = oC.data from rfl, hdC] at hd
    cases hd
  have tC : T ≠ C := fun z => by
    rw [z, eC1] at hT
    cases hT
    rw [show ({ oC with slots := slC } : Obj).data = oC.data from rfl, hdC] at hdT
    cases hdT
  have ns1 : h1.Ns ce.locals m := by rw [cl]; exact ⟨_, es, ep, eC1, hdC, rC⟩
  refine ⟨m, ns1, fun h2 m2 hn2 hs2 => ?_⟩
  rw [cl] at hn2 hs2
  have he2 : h2.get? a = some oe := (hs2.2 a aC).trans he
  have hh2 : HandSPX.HeldZ (PySem.W.hideAll B1 [C]) (X.env :: X.outer) a (Zc cls1 d1) X.env.locals h2 := by
    refine ⟨fun b o e => ?_, g2, Heap.FunFrames.sameBut hs2 hn2 g3, oe, vs, T, oT, ts, he2, hz, hd, h1', hnT, hTe, (hs2.2 T tC).trans hT, hdT, h3⟩
    have bC : b ≠ C := fun z => by
      rw [z, PySem.W.hideAll_none [C] (List.mem_singleton.mpr rfl)] at e
      cases e
    exact (hs2.2 b bC).trans (g1 b o e)
  unfold PySem.passOn
  refine wpAny_bind (wpAny_field he2 hd h1' ?_)
  rw [if_neg (show ¬ ((Value.ref T == Value.none) = true) from by simp), cf, hf]
  refine wpAny_bind (HandSPX.setFlight_onZ hh2 fun h3 hh3 up3 => ?_)
  refine wpAny_throw (tk _ _ ⟨a, PySem.W.hideAll B1 [C], _, [], σ1, H1, cls1, d1, rfl, J2, fun b o e hb => ?_, fun b o e hnf => ?_, ?_, na1, os1, ag1, hW _ _ _ _ _ w1⟩)
  · have bC : b ≠ C := fun z => by
      have e : (PySem.W.hideAll sI.heap [C]).get? b = some o := e
      rw [z, PySem.W.hideAll_none [C] (List.mem_singleton.mpr rfl)] at e
      cases e
    exact PySem.W.hideAll_get _ (nb b o (PySem.W.of_hideAll _ e) hb) (hm b bC)
  · have bC : b ≠ C := fun z => by
      have e : (PySem.W.hideAll sI.heap [C]).get? b = some o := e
      rw [z, PySem.W.hideAll_none [C] (List.mem_singleton.mpr rfl)] at e
      cases e
    obtain ⟨s1, q1⟩ := up b o (PySem.W.of_hideAll _ e) hnf
    obtain ⟨s2, q2⟩ := up1 b _ q1 hnf
    have q3 : h2.get? b = _ := (hs2.2 b bC).trans q2
    obtain ⟨s4, q4⟩ := up3 b _ q3 hnf
    exact ⟨s4, q4⟩
  · rw [hs]
    exact .inr (.inr hh3)
/-- a block whose calls may let exceptions out -/
abbrev blkX (X : Cx) (W : WX) (s : Shared) (H : Hp) (scope : Scope) (cenv : Env) (fp : List Addr) : Cx :=
  { X.blk s H scope cenv fp with xe := fun e s' => ∃ pins σ H0 s0, Inv (X.blk s H scope cenv fp) pins σ H0 s0 ∧ CX X.prog X.w X.stack H0 s0 (WE W σ) e s' }
theorem blk_pass {X : Cx} {W : WX} {s : Shared} {H : Hp} {scope : Scope} {cenv : Env} {fp : List Addr} : ∀ σ, PassesAt (L2.CX X.prog X.w) (blkX X W s H scope cenv fp) σ (WE W σ) :=
  fun σ pins H0 s0 _ _ I x => ⟨pins, σ, H0, s0, inv_xe (X := X.blk s H scope cenv fp) I, x⟩
theorem pe_lcX {X : Cx} {W : WX} {elt tg iter : Expr} {ifs : List Expr} {scope : Scope} {own : List (Str × Nat)} {pos : Pos} {wi : TI} {g : TG} {tt : TT} {te : TE} (hk : X.stack = X.env :: X.outer) (hf : X.env.frame = some X.env.locals) (tk : Takes X W)
    (hW : ∀ cls d σ σ' H, W cls d σ H → W cls d σ' H) (hc : X.calm = true) (hN : X.N.Nodup) (hi : PI X tg iter wi) (ok : BlkOk X.N X.env.scope scope own)
    (hg : ∀ (s : Shared) (H : Hp) (C : Addr) (cl : List (Str × Addr)) (fp : List Addr), PG (X.blk s H scope (compEnvC scope cl C X.env) fp) tg g) (ht : ∀ (s : Shared) (H : Hp) (C : Addr) (cl : List (Str × Addr)) (fp : List Addr), PTs (X.blk s H scope (compEnvC scope cl C X.env) fp) ifs tt)
    (he : ∀ (s : Shared) (H : Hp) (C : Addr) (cl : List (Str × Addr)) (fp : List Addr), PE (blkX X W s H scope (compEnvC scope cl C X.env) fp) elt te) (hs : ∀ x, foldedSetIterable iter X.env x = pure x := by intro _; rfl) :
    PE X (.ListComp elt [⟨tg, iter, ifs, 0⟩] scope pos) (tLc wi g tt te (own.map (·.2))) := by
  refine ⟨fun pins s σ H Q I h => ?_⟩
  rw [eval_ListComp]
  have caught : ∀ y ∈ scope.names, y.2 = .free → ∃ c, X.env.cells.lookup y.1 = some c := fun y hy e => (ok.free y hy e).elim (fun k => I.ok.has _ (.inl k)) fun k => I.ok.has _ (.inr k)
  refine comprehension_at (use := none) rfl hs (closure_ok caught) ok.kind (fun y hy e => by rw [ok.uniq y hy, e]) (thn (hi.run pins s σ H _ I h) fun _ _ hx => thn hx fun _ s2 walk => ?_)
  obtain ⟨it, fp, tn, J, H2, rfl, I2, T, st2, f2, q⟩ := walk
  refine wpAny_newObj_type (newEnv_comp ?_) (by show 0 ≤ sizeLine; decide)
  -- D: the list, C: the block's names
  obtain ⟨D, hD⟩ : ∃ D, D = s2.heap.objs.size := ⟨_, rfl⟩
  rw [← hD]
  obtain ⟨LW, ⟨n0, l0⟩, turn⟩ := q D (I2.hok.fresh (Nat.le_of_eq hD.symm))
  obtain ⟨s3, h3⟩ : ∃ s3 : Shared, s3 = { s2 with heap := s2.heap.push { cls := .type "list", data := .seq ([] : List Value).toArray } } := ⟨_, rfl⟩
  have kp3 : ∀ b o, s2.heap.get? b = some o → s3.heap.get? b = some o := fun b o e => by rw [h3]; exact Heap.get?_push_of_some _ e
  have I3 : Inv X pins σ (upd H2 D (.lst [])) s3 := by
    rw [h3]
    refine I2.laid (t' := s2.toks) (fun b o e => Heap.get?_push_of_some _ e) (Nat.le_of_eq hD.symm) ⟨Nat.zero_le _, [], 0, .nil, ?_⟩
    rw [hD]
    exact Heap.get?_push_size _ rfl
  obtain ⟨H3, hH3⟩ : ∃ H3, H3 = upd H2 D (.lst []) := ⟨_, rfl⟩
  rw [← hH3] at I3 l0
  have lt2 : ∀ b ∈ fp, b < s2.heap.objs.size := fun b hb => (T.obj _ _ st2 b hb).elim fun _ e => Heap.lt_size e.1
  have lt3 : s2.heap.objs.size ≤ s3.heap.objs.size := by rw [h3, Heap.size_push]; exact Nat.le_succ _
  have f3 : ∀ b ∈ fp, FpOk X pins H3 b ∧ b < s3.heap.objs.size := fun b hb => by
    refine ⟨⟨?_, (f2 b hb).2⟩, Nat.lt_of_lt_of_le (lt2 b hb) lt3⟩
    rw [hH3, upd_ne (by rw [hD]; exact Nat.ne_of_lt (lt2 b hb))]
    exact (f2 b hb).1
  have I4 := block_start I3 ok hN f3
  show codeAny _ _ (.compStart (.ListComp elt [⟨tg, iter, ifs, 0⟩] scope pos) 0 (.ref it) (.ref D) _) _ _
  rw [← h3]
  obtain ⟨cl4, hcl⟩ : ∃ cl4, cl4 = cellsFrom (s3.heap.objs.size + 1) scope.names (cloFrom X.env.cells scope.names []) := ⟨_, rfl⟩
  obtain ⟨C, hC⟩ : ∃ C, C = s3.heap.objs.size := ⟨_, rfl⟩
  have hceq : compEnvC scope (cellsFrom (s3.heap.objs.size + 1) scope.names (cloFrom X.env.cells scope.names [])) s3.heap.objs.size X.env = compEnvC scope cl4 C X.env := by rw [hcl, hC]
  rw [hceq] at I4
  obtain ⟨s4, h4⟩ : ∃ s4 : Shared, s4 = { s3 with heap := pushCells (s3.heap.push { cls := .type "dict", data := .dict #[] }) scope.names } := ⟨_, rfl⟩
  rw [← h4] at I4
  show codeAny _ _ (.compStart (.ListComp elt [⟨tg, iter, ifs, 0⟩] scope pos) 0 (.ref it) (.ref D) (compEnvC scope (cellsFrom (s3.heap.objs.size + 1) scope.names (cloFrom X.env.cells scope.names [])) s3.heap.objs.size X.env)) (compEnds (model X.prog X.w) X.A X.xe none _ (.ref D) (compEnvC scope (cellsFrom (s3.heap.objs.size + 1) scope.names (cloFrom X.env.cells scope.names [])) s3.heap.objs.size X.env)) { s3 with heap := pushCells (s3.heap.push { cls := .type "dict", data := .dict #[] }) scope.names }
  rw [hceq, ← h4]
  have pg := hg s3 H3 C cl4 fp
  have pt := ht s3 H3 C cl4 fp
  have pe := he s3 H3 C cl4 fp
  have eL : (compEnvC scope cl4 C X.env).locals = C := rfl
  have eF : (compEnvC scope cl4 C X.env).frame = X.env.frame := rfl
  generalize compEnvC scope cl4 C X.env = ce at I4 pg pt pe eL eF ⊢
  have st4 : tn 0 s4.heap := T.keep _ _ _ st2 fun b _ o e => by rw [h4]; exact pushCells_keeps _ _ _ _ (Heap.get?_push_of_some _ (kp3 b o e))
  have stat : ∀ {σ' : L2.St} {H' : Hp} {s' : Shared}, Inv (X.blk s3 H3 scope ce fp) [] σ' H' s' → (∀ b ∈ fp, H' b = none) → ∀ b ∈ fp, FpOk (X.blk s3 H3 scope ce fp) [] H' b := fun J' hn b hb =>
    ⟨hn b hb, (J'.ok.exf b hb).1, J'.ok.exfs b hb, .inl hb, fun x c e => (J'.ok.exf b hb).2 x c e, fun p hp => nomatch hp⟩
  -- the block's states, seen from the def
  have back : ∀ {pn : List (Addr × Obj)} {σ' : L2.St} {H' : Hp} {s' : Shared}, Inv (X.blk s3 H3 scope ce fp) pn σ' H' s' → Inv X pins σ H' s' ∧ FpOk X pins H' C ∧ ∃ m, s'.heap.Ns C m := fun {pn σ' H' s'} J' => by
    refine ⟨I3.call' (ch := fp) J'.os J'.base J'.hok J'.bare fun b hb => ⟨(f3 b hb).1.2.2.2.1, (f3 b hb).1.2.1, (f3 b hb).1.2.2.2.2.1, (f3 b hb).1.2.2.2.2.2⟩, ?_, ?_⟩
    · refine I3.fpOk (by rw [hC]; exact Nat.le_refl _) ?_
      have z : H' ce.locals = none := J'.free
      rw [eL] at z
      exact z
    · obtain ⟨m, hm, _⟩ := J'.loc
      have hm : s'.heap.Ns ce.locals m := hm
      rw [eL] at hm
      exact ⟨m, hm⟩
  have raise : ∀ v s', (blkX X W s3 H3 scope ce fp).xe v s' → notedBy (model X.prog X.w) X.A ce (CompFails (model X.prog X.w) X.A X.xe ce) v s' := fun v s' ⟨pn, σ', H0, s0, J', x⟩ => by
    obtain ⟨b1, b2, m, b3⟩ := back J'
    exact blk_out hk hf tk hW b1 ⟨b2.1, b2.2.1, b2.2.2.1, b2.2.2.2.1, b2.2.2.2.2.1, fun p hp => b2.2.2.2.2.2 p (List.mem_append_left _ (by simpa using hp))⟩ b3 eL eF x
  have loop : ∀ R : Result → Shared → Prop, R = compEnds (model X.prog X.w) X.A X.xe none (fun v s' => ∃ x H', Inv X pins σ H' s' ∧ RelV x v ∧ Q x H') (.ref D) ce → codeAny (model X.prog X.w) X.A (.compLoop (.ListComp elt [⟨tg, iter, ifs, 0⟩] scope pos) 0 (.ref it) (.ref D) ce) R s4 := fun R hR => by
    have bad : ∀ v s', (blkX X W s3 H3 scope ce fp).xe v s' → notedBy (model X.prog X.w) X.A ce (fun e s' => R (.error e) s') v s' := by
      rw [hR]
      exact raise
    have good : ∀ s', (∃ m, s'.heap.Ns ce.locals m ∧ ∀ h', Heap.SameBut ce.locals s'.heap h' → ∃ x H', Inv X pins σ H' { s' with heap := h' } ∧ RelV x (.ref D) ∧ Q x H') → R (.ok .next) s' := by
      rw [hR]
      exact fun _ z => z
    refine compLoop_any (fun n s' => ∃ i H', Inv (X.blk s3 H3 scope ce fp) [] (wipe σ (own.map (·.2))) H' s' ∧ tn i s'.heap ∧ (∀ b ∈ fp, H' b = none) ∧ LW i n H') ?_ n0 ⟨0, H3, I4, st4, fun b hb => (f3 b hb).1.1, l0⟩
    rintro n s5 ⟨i, H5, I5, st5, n5, w5⟩
    rcases turn i n H5 w5 with ⟨stop, qq⟩ | ⟨go, Nx, hNx, step⟩
    · refine thnF (T.done (X.blk s3 H3 scope ce fp) rfl rfl rfl hc i [] s5 _ H5 (fun _ _ => False) I5 (stat I5 n5) st5 stop) fun r s6 ⟨hr, I6⟩ => ?_
      subst hr
      obtain ⟨b1, b2, m, b3⟩ := back I6
      refine good s6 ⟨m, by rw [eL]; exact b3, fun h' sb => ?_⟩
      rw [eL] at sb
      obtain ⟨f0, f1, _, f4, f5, f6⟩ := b2
      exact ⟨.ref D, H5, b1.turned (t' := s6.toks) (fun b o hb e => (sb.2 b hb).trans e) f0 f1 f4 f5 f6, rfl, qq⟩
    · refine thnF (T.item (X.blk s3 H3 scope ce fp) rfl rfl rfl hc i [] s5 _ H5 (fun _ _ => False) I5 (stat I5 n5) st5 go) fun r s6 ⟨u, hr, h6⟩ => ?_
      subst hr
      refine thnF h6 fun _ s7 ⟨x, H7, I7, r7, y7, st7, n7⟩ => ?_
      have P7 := I7.pinned (stat I7 n7) (T.obj _ _ st7)
      refine thnF (pg.run _ s7 _ H7 x u _ P7 r7 (step x H7 y7)) fun _ s8 ⟨σ8, H8, I8, hw8, q8⟩ => ?_
      refine thnF (pt.run _ s8 σ8 H8 _ I8 q8) fun b s9 ⟨H9, I9, q9⟩ => ?_
      have next : ∀ {s' : Shared} {H' : Hp}, Inv (X.blk s3 H3 scope ce fp) ([] ++ pinsAt fp s7.heap) σ8 H' s' → Nx H' → ∃ m, m < n ∧ ∃ i H', Inv (X.blk s3 H3 scope ce fp) [] (wipe σ (own.map (·.2))) H' s' ∧ tn i s'.heap ∧ (∀ b ∈ fp, H' b = none) ∧ LW i m H' := fun {s' H'} J' nx => by
        obtain ⟨m', hm, w'⟩ := hNx H' nx
        have pinned : ∀ b ∈ fp, ∀ o, s7.heap.get? b = some o → s'.heap.get? b = some o ∧ H' b = none := fun b hb o e =>
          let z := J'.pin (b, o) (List.mem_append_right _ (List.mem_append_right _ (mem_pinsAt hb e)))
          ⟨z.1, z.2.1⟩
        refine ⟨m', hm, i + 1, H', (J'.unpinned (pins := [])).weak (by rw [← hw8, wipe_length]) (fun j v e => ?_), T.keep _ _ _ st7 fun b hb o e => (pinned b hb o e).1, fun b hb => (T.obj _ _ st7 b hb).elim fun o e => (pinned b hb o e.1).2, w'⟩
        rw [← hw8] at e
        exact (wipe_some e).1
      cases b with
      | false =>
        simp only [Bool.false_eq_true, if_false] at q9 ⊢
        exact next I9 q9
      | true =>
        simp only [if_true] at q9 ⊢
        refine wpAny_mono (pe.run _ s9 σ8 H9 _ (inv_ex (X := X.blk s3 H3 scope ce fp) I9) q9) (fun z s10 ⟨yv, H10, I10, r10, acc, hD10, hz10, nx⟩ => ?_) bad
        exact app_ok (X := X.blk s3 H3 scope ce fp) (inv_xe (X := X.blk s3 H3 scope ce fp) I10) hD10 hz10 r10 fun s11 I11 => next I11 nx
  exact codeAny_compStart_list (loop _ rfl) (T.self X.A 0 _ _ _ st4 (loop _ rfl))
end Fw
namespace Fw
open PySem PySem.Spec PyProof.Rows L2 Dz Vz
def lcGoX (bind : D → DE → Option DE) (test : EF Bool) (elt : EF D) (δ : DE) : List D → D → Ex (List D)
  | [], h => .ok [] h
  | x :: xs, h => match bind x δ with
    | none => .bad
    | some δ2 => (test δ2 h).nox.bind fun b h2 => if b then (elt δ2 h2).bind fun y h3 => (lcGoX bind test elt δ xs h3).bind fun ys h4 => .ok (y :: ys) h4 else lcGoX bind test elt δ xs h2
def eLcX (vs : List Nat) (it : EF (List D)) (bind : D → DE → Option DE) (test : EF Bool) (elt : EF D) : EF D := fun δ h => (it δ h).bind fun ds h1 => if szOk ds.length then (lcGoX bind test elt (wipeD δ vs) ds h1).bind fun ys h2 => .ok (.hl ys) h2 else .bad
section
variable {X : Cx} {W : WX} {c : Cn} {e : Expr} {ga : EF Bool} {f : EF D} {fs : EF (List D)}
structure LcX (c : Cn) (ha : Option Addr) (W : WX) (σ : L2.St) (K : D → D → Hp → Hp → Prop) (bind : D → DE → Option DE) (test : EF Bool) (elt : EF D) (δw : DE) (items : List D) (G1 H1 : Hp) (Da : Addr) (i : Nat) (H : Hp) : Prop where
  ex : ∃ G h acc ds, Af c ha G1 H1 G H h ∧ H Da = some (.lst acc) ∧ G Da = none ∧ DqAll c ha G acc ds ∧ ds.length ≤ i ∧ Post c ha W σ G1 H1 ((lcGoX bind test elt δw (items.drop i) h).bind fun ys h2 => .ok (.hl (ds ++ ys)) h2) K
theorem lc_runX {ha : Option Addr} {bind : D → DE → Option DE} {g : TG} {vs : List Nat} {J : It} {items : List D} {h1 : D} {G0 B G1 H1 : Hp} {σ : L2.St} {δ : DE} {Da : Addr} {Qd : Hp → Prop} {K : D → D → Hp → Hp → Prop} (hW : ∀ cls d σ σ' H, W cls d σ H → W cls d σ' H) (st : Sta c ha G0 B G1 H1 σ δ h1) (w : WalkD c ha G1 J items) (bd : BindD c vs g bind) (sz : szOk items.length = true)
    (hD : H1 Da = none) (go : Post c ha W σ G1 H1 ((lcGoX bind ga f (wipeD δ vs) items h1).bind fun ys h2 => .ok (.hl ys) h2) K)
    (fin : ∀ G H hE acc all, Af c ha G1 H1 G H hE → H Da = some (.lst acc) → G Da = none → DqAll c ha G acc all → K (.hl all) hE G H → Qd H) : LcW J g (rt c WF ga) (rd c W f) vs σ H1 Da Qd := by
  have hk := st.hne
  refine ⟨fun i m H => m = items.length - i ∧ i ≤ items.length ∧ LcX c ha W σ K bind ga f (wipeD δ vs) items G1 H1 Da i H, ⟨_, rfl, Nat.zero_le _, ⟨G1, h1, [], [], ?_⟩⟩, ?_⟩
  · have a0 : Af c ha G1 H1 G1 (upd H1 Da (.lst [])) h1 := .of st.gh st.hd (Mv.hid st.gh hD) (same_new hD)
    exact ⟨a0, upd_same, old_none st.gh hD, .nil, Nat.zero_le _, go⟩
  · rintro i m H ⟨rfl, hi, ⟨G, h, acc, ds, af, hDa, gD, da, hl, go⟩⟩
    by_cases hlt : i < items.length
    · refine .inr ⟨w.go i G H af.gg af.gh hlt, fun H' => i + 1 ≤ items.length ∧ LcX c ha W σ K bind ga f (wipeD δ vs) items G1 H1 Da (i + 1) H', fun H' hn => ⟨_, by omega, rfl, hn⟩, fun x H' y => ?_⟩
      have ei : items[i]? = some items[i] := List.getElem?_eq_getElem hlt
      obtain ⟨G2, m2, s2, dx⟩ := w.yld i G H x H' _ af.gg af.gh ei y
      have af2 : Af c ha G H G2 H' h := .of af.gh af.hd m2 s2
      have st2 := ((st.wipe vs).to af).to af2
      rw [List.drop_eq_getElem_cons hlt] at go
      unfold lcGoX at go
      cases qb : bind items[i] (wipeD δ vs) with
      | none => rw [qb] at go; exact go.elim
      | some δ2 =>
        simp only [qb] at go
        refine bd st2 dx qb fun σ2 st3 we => ⟨we.trans (by rw [wipe_wipe]), ha, G0, B, G2, δ2, h, st3, ?_⟩
        cases qt : ga δ2 h with
        | exc _ _ _ => rw [qt] at go; exact go.elim
        | bad => rw [qt] at go; exact go.elim
        | ok b h2 =>
          rw [qt] at go
          intro G3 H3 af3
          have d03 := (af.trans af2).trans af3
          have hD3 : H3 Da = some (.lst acc) := af3.bt _ _ (fun z => hk Da z hD) (s2 _ _ hDa)
          have gD3 : G3 Da = none := (af3.mv.nw Da (some_ne (s2 _ _ hDa))).trans ((m2.nw Da (some_ne hDa)).trans gD)
          cases b with
          | false => exact ⟨hlt, ⟨G3, h2, acc, ds, d03, hD3, gD3, dqAll_mono (af2.gg.trans af3.gg) da, by omega, go⟩⟩
          | true =>
            have go : Post c ha W σ G1 H1 (((f δ2 h2).bind fun y h3 => (lcGoX bind ga f (wipeD δ vs) (items.drop (i + 1)) h3).bind fun ys h4 => .ok (y :: ys) h4).bind fun ys h2 => .ok (.hl (ds ++ ys)) h2) K := go
            refine ⟨ha, G0, B, G3, δ2, h2, st3.to af3, ?_⟩
            cases qf : f δ2 h2 with
            | bad => rw [qf] at go; exact go.elim
            | exc n fs h' =>
              rw [qf] at go
              exact fun C dd G4 H4 af4 mg x => hW _ _ σ σ2 _ (go C dd G4 H4 (d03.trans af4) mg (x.from fun _ e => af_old d03 e))
            | ok y1 h3 =>
              rw [qf] at go
              intro G4 H4 af4 v dv
              have hD4 : H4 Da = some (.lst acc) := af4.bt _ _ (fun z => hk Da z hD) hD3
              have gD4 : G4 Da = none := (af4.mv.nw Da (some_ne hD3)).trans gD3
              have gg := (af2.gg.trans af3.gg).trans af4.gg
              have go : Post c ha W σ G1 H1 (((lcGoX bind ga f (wipeD δ vs) (items.drop (i + 1)) h3).bind fun ys h4 => .ok (y1 :: ys) h4).bind fun ys h2 => .ok (.hl (ds ++ ys)) h2) K := go
              rw [bind_assoc] at go
              refine ⟨acc, hD4, ?_, hlt, ⟨G4, h3, acc ++ [v], ds ++ [y1], af_put (d03.trans af4) hD gD4 hk (some_ne hD4), upd_same, gD4, dqAll_app (dqAll_mono gg da) (.cons dv .nil), ?_, ?_⟩⟩
              · rw [dqAll_len da, sizeLine_eq]
                have := of_decide_eq_true sz
                omega
              · rw [List.length_append, List.length_singleton]
                omega
              · have ea : (fun (ys : List D) (h4 : D) => (Ex.ok (y1 :: ys) h4).bind fun ys h2 => Ex.ok (D.hl (ds ++ ys)) h2) = fun ys h2 => .ok (D.hl ((ds ++ [y1]) ++ ys)) h2 := by
                  funext ys h4
                  show Ex.ok (D.hl (ds ++ y1 :: ys)) h4 = _
                  rw [List.append_assoc]
                  rfl
                rw [ea] at go
                exact go
    · have hi2 : i = items.length := by omega
      subst hi2
      rw [List.drop_length] at go
      have go : Post c ha W σ G1 H1 (.ok (.hl (ds ++ [])) h) K := go
      rw [List.append_nil] at go
      exact .inl ⟨w.stop G H af.gg af.gh, fin G H h acc ds af hDa gD da (go G H af)⟩
theorem rn_lcX {vs : List Nat} {bind : D → DE → Option DE} {g : TG} (hW : ∀ cls d σ σ' H, W cls d σ H → W cls d σ' H) (bd : BindD c vs g bind) (σ : L2.St) (H : Hp) (Q : VK) (x : rn c W (eLcX vs fs bind ga f) σ H Q) : tLc (ri c W fs) g (rt c WF ga) (rd c W f) vs σ H Q := by
  obtain ⟨ha, G0, B, G, δ, h, st, p⟩ := x
  unfold eLcX at p
  refine ⟨ha, G0, B, G, δ, h, st, post_imp (post_bind p) fun ds h1 G1 H1 af p1 J w Da hD => ?_⟩
  by_cases hz : szOk ds.length = true
  · rw [if_pos hz] at p1
    exact lc_runX hW (st.to af) w bd hz hD p1 fun G2 H2 hE acc all af2 hDa gD da k => k _ (.inr ⟨Da, acc, all, rfl, rfl, hDa, gD, af_old af hD, da⟩)
  · rw [if_neg hz] at p1
    exact p1.elim
theorem dn_lcX {elt tg iter : Expr} {ifs : List Expr} {pos : Pos} {scope : Scope} {own : List (Str × Nat)} {bind : D → DE → Option DE} {g : TG} (hk : X.stack = X.env :: X.outer) (hf : X.env.frame = some X.env.locals) (tk : Takes X W) (hW : ∀ cls d σ σ' H, W cls d σ H → W cls d σ' H)
    (hc : X.calm = true) (hN : X.N.Nodup) (hi : PI X tg iter (ri c W fs)) (ok : BlkOk X.N X.env.scope scope own) (bd : BindD c (own.map (·.2)) g bind)
    (hg : ∀ (s : Shared) (H : Hp) (C : Addr) (cl : List (Str × Addr)) (fp : List Addr), PG (X.blk s H scope (compEnvC scope cl C X.env) fp) tg g) (ht : ∀ (s : Shared) (H : Hp) (C : Addr) (cl : List (Str × Addr)) (fp : List Addr), PTs (X.blk s H scope (compEnvC scope cl C X.env) fp) ifs (rt c WF ga))
    (he : ∀ (s : Shared) (H : Hp) (C : Addr) (cl : List (Str × Addr)) (fp : List Addr), PE (blkX X W s H scope (compEnvC scope cl C X.env) fp) elt (rd c W f)) (hs : ∀ x, foldedSetIterable iter X.env x = pure x := by intro _; rfl) :
    PE X (.ListComp elt [⟨tg, iter, ifs, 0⟩] scope pos) (rn c W (eLcX (own.map (·.2)) fs bind ga f)) := pn_to (pe_lcX hk hf tk hW hc hN hi ok hg ht he hs) (rn_lcX hW bd)
theorem lcX_ok {bind : D → DE → Option DE} {test : EF Bool} {elt : EF D} {δ : DE} {h2 : D} : ∀ {ds ys : List D} {h : D}, lcGo bind test elt δ ds h = .ok ys h2 → lcGoX bind test elt δ ds h = .ok ys h2
  | [], _, _, e => e
  | x :: xs, ys, h, e => by
    unfold lcGo at e
    unfold lcGoX
    cases qb : bind x δ with
    | none => rw [qb] at e; cases e
    | some δ2 =>
      simp only [qb] at e ⊢
      cases qt : test δ2 h with
      | exc _ _ _ => rw [qt] at e; cases e
      | bad => rw [qt] at e; cases e
      | ok b h1 =>
        rw [qt] at e
        cases b with
        | false => exact lcX_ok (ds := xs) (h := h1) e
        | true =>
          have e : ((elt δ2 h1).nox.bind fun y h3 => (lcGo bind test elt δ xs h3).bind fun ys h4 => .ok (y :: ys) h4) = .ok ys h2 := e
          show ((elt δ2 h1).bind fun y h3 => (lcGoX bind test elt δ xs h3).bind fun ys h4 => .ok (y :: ys) h4) = .ok ys h2
          cases qf : elt δ2 h1 with
          | exc _ _ _ => rw [qf] at e; cases e
          | bad => rw [qf] at e; cases e
          | ok y h3 =>
            rw [qf] at e
            have e : ((lcGo bind test elt δ xs h3).bind fun ys h4 => Ex.ok (y :: ys) h4) = .ok ys h2 := e
            show ((lcGoX bind test elt δ xs h3).bind fun ys h4 => Ex.ok (y :: ys) h4) = .ok ys h2
            cases q4 : lcGo bind test elt δ xs h3 with
            | exc _ _ _ => rw [q4] at e; cases e
            | bad => rw [q4] at e; cases e
            | ok zs h4 =>
              rw [q4] at e
              cases e
              rw [lcX_ok (ds := xs) (h := h3) q4]
              rfl
theorem eLcX_a (vs : List Nat) (it : EF (List D)) (bind : D → DE → Option DE) (test : EF Bool) (elt : EF D) (δ : DE) (h : D) : eLcX vs it bind test elt δ h = ((it δ h).bind fun ds h1 => if szOk ds.length then (lcGoX bind test elt (wipeD δ vs) ds h1).bind fun ys h2 => .ok (.hl ys) h2 else .bad) := (rfl)
end
end Fw
namespace Pd
open PySem PySem.Spec Fw
def tup_PRIMES : List D := [.int 2, .int 3, .int 5, .int 7, .int 11, .int 13]
def F__law_pick : Fn := runF 2 (sRet (eOp oIx (eV 1) (eCall 2 F__law_take [] (eCons (eVm 0) (eCons (eBi kLen (eCons (eV 1) eNil)) eNil)))))
def F_check_fraction_poly : Fn := runF 1 (sRet (eCall 4 F_check_led_poly [] (eCons (eMake "Figures" 2 F_Figures___init__ [] (eCons (eC (.int 0)) eNil)) (eCons (eVm 0) (eCons (eC (.int 1)) (eCons (eC (.int 5)) eNil))))))
def F_is_offered_prime : Fn := runF 1 (sRet (eB (eAnd (eT (eCall 3 F_is_whole [.non, .non] (eCons (eVm 0) eNil))) (eT (eOp oInP (eV 0) (eC (.tup tup_PRIMES)))))))
def F_check_prime : Fn := runF 1 (sIf (eNot (eTru (eCall 1 F_is_offered_prime [] (eCons (eVm 0) eNil)))) (sRaise "BadPrime" (flD1 "index") (eCons (eC (.int 0)) eNil)) sNil)
def F_check_not_zero : Fn := runF 2 (sSeq (sSet 1 (eCall 2 F_check_poly [] (eCons (eVm 0) (eCons (eVm 1) eNil))))
    (sSeq (sIf (eT (eOp oEq (eBi kLen (eCons (eV 1) eNil)) (eC (.int 0)))) (sRaise "BadPoly" (flD2 "index" "what") (eCons (eC (.int 0)) (eCons (eC (.str "zero")) eNil))) sNil)
    (sRet (eV 1))))
def F_fraction_roots_bad : Fn := fun _ _ => .bad
def F_bare_roots : Fn := runF 3 (sSeq (sIf (eT (eOp oEq (eAtV 0 "prime") (eC (.int 0)))) (sRet (eCall 2 F_fraction_roots_bad [] (eCons (eVm 0) (eCons (eVm 1) eNil)))) sNil)
    (sRet (eBi kTup (eCons (eFz (eLc [2] (iSeq (eMeth "Figures" "all_numbers" 1 F_Figures_all_numbers [] (eV 0) eNil)) (bNm 2) (eT (eOp oEq (eCall 3 F_bare_value [] (eCons (eVm 0) (eCons (eVm 1) (eCons (eVm 2) eNil)))) (eAtV 0 "zero"))) (eV 2))) eNil))))
def F_comes_apart : Fn := runF 3 (sSeq (sSet 1 (eCall 2 F_check_not_zero [] (eCons (eVm 0) (eCons (eVm 1) eNil))))
    (sSeq (sSet 2 (eCall 2 F_bare_roots [] (eCons (eVm 0) (eCons (eVm 1) eNil))))
    (sRet (eIf (eT (eOp oEq (eBi kLen (eCons (eV 2) eNil)) (eOp oSub (eBi kLen (eCons (eV 1) eNil)) (eC (.int 1))))) (eV 2) (eC .non)))))
def F_Figures_number_of : Fn := runF 4 (sSeq (sIf (eT (eOp oEq (eAtV 0 "prime") (eC (.int 0)))) (sRet (eV 1)) sNil)
    (sSeq (sAsg (bTp [(bNm 2), (bNm 3)]) (eV 1))
    (sSeq (sIf (eT (eOp oEq (eOp oMod (eV 3) (eAtV 0 "prime")) (eC (.int 0)))) (sRaise0 "BadNumber") sNil)
    (sRet (eMeth "Figures" "over" 3 F_Figures_over [] (eV 0) (eCons (eOp oMod (eV 2) (eAtV 0 "prime")) (eCons (eOp oMod (eV 3) (eAtV 0 "prime")) eNil)))))))
def F_numbers_by : Fn := runF 3 (sRet (eBi kTup (eCons (eFz (eLcX [2] (iSeq (eV 1)) (bNm 2) tYesD (eMeth "Figures" "number_of" 2 F_Figures_number_of [] (eV 0) (eCons (eVm 2) eNil)))) eNil)))
def F_check_raised : Fn := runF 5 (sSeq (sSet 0 (eCall 1 F_check_fraction_poly [] (eCons (eVm 0) eNil)))
    (sSeq (sDrop (eCall 1 F_check_prime [] (eCons (eVm 1) eNil)))
    (sSeq (sIf (eNot (eTru (eCall 3 F_is_whole [] (eCons (eVm 2) (eCons (eC (.int 1)) (eCons (eC (.int 30)) eNil)))))) (sRaise0 "BadTimes") sNil)
    (sSeq (sSet 3 (eMake "Figures" 2 F_Figures___init__ [] (eCons (eV 1) eNil)))
    (sSeq (sSet 4 (eCall 2 F_comes_apart [] (eCons (eVm 3) (eCons (eCall 2 F_numbers_by [] (eCons (eVm 3) (eCons (eVm 0) eNil))) eNil))))
    (sSeq (sIf (eT (eOp oIsN (eV 4) (eC .non))) (sRaise0 "NotApart") sNil)
    (sRet (eTup (eCons (eV 0) (eCons (eV 4) eNil))))))))))
def F_undone_whole : Fn := runF 4 (sSeq (sSet 3 (eCall 2 F_undone_rest [] (eCons (eOp oMod (eV 0) (eV 1)) (eCons (eVm 1) eNil))))
    (sSeq (sWh 100 (eT (eOp oNe (eOp oMod (eOp oMul (eV 0) (eV 3)) (eV 2)) (eC (.int 1)))) (sSet 3 (eOp oMod (eOp oMul (eV 3) (eOp oSub (eC (.int 2)) (eOp oMul (eV 0) (eV 3)))) (eV 2))))
    (sRet (eV 3))))
def F_wholes_by : Fn := runF 5 (sRet (eFz (eLc [3, 4] (iSeq (eV 0)) (bTp [(bNm 3), (bNm 4)]) tYesD (eOp oMod (eOp oMul (eV 3) (eCall 3 F_undone_whole [] (eCons (eVm 4) (eCons (eVm 1) (eCons (eVm 2) eNil))))) (eV 2)))))
def F_whole_slope : Fn := runF 3 (sRet (eFz (eSl (eFz (eLc [1, 2] (iRg kEnum (eCons (eV 0) eNil)) (bTp [(bNm 1), (bNm 2)]) tYesD (eOp oMul (eV 1) (eV 2)))) (eOpt (eC (.int 1))) eNo)))
def F_rest_at : Fn := runF 5 (sSeq (sSet 3 (eC (.int 0)))
    (sSeq (sFor (iSeq (eFz (eRv (eV 0)))) (bNm 4) (sSet 3 (eOp oMod (eOp oAdd (eOp oMul (eV 3) (eV 1)) (eV 4)) (eV 2))))
    (sRet (eV 3))))
def F_raised_root : Fn := runF 6 (sSeq (sSet 4 (eCall 1 F_whole_slope [] (eCons (eVm 0) eNil)))
    (sSeq (sSet 5 (eCall 3 F_rest_at [] (eCons (eVm 0) (eCons (eVm 1) (eCons (eVm 3) eNil)))))
    (sSeq (sWh 100 (eT (eOp oNe (eV 5) (eC (.int 0)))) (sSeq (sSet 1 (eOp oMod (eOp oSub (eV 1) (eOp oMul (eV 5) (eCall 3 F_undone_whole [] (eCons (eCall 3 F_rest_at [] (eCons (eVm 4) (eCons (eVm 1) (eCons (eVm 3) eNil)))) (eCons (eVm 2) (eCons (eVm 3) eNil)))))) (eV 3)))
    (sSet 5 (eCall 3 F_rest_at [] (eCons (eVm 0) (eCons (eVm 1) (eCons (eVm 3) eNil)))))))
    (sRet (eV 1)))))
def F_roots_by_power : Fn := runF 6 (sSeq (sSet 4 (eCall 3 F_wholes_by [] (eCons (eVm 0) (eCons (eVm 2) (eCons (eVm 3) eNil)))))
    (sRet (eBi kTup (eCons (eFz (eLc [5] (iSeq (eV 1)) (bNm 5) tYesD (eCall 4 F_raised_root [] (eCons (eVm 4) (eCons (eVm 5) (eCons (eVm 2) (eCons (eVm 3) eNil))))))) eNil))))
def F_power_of : Fn := runF 4 (sSeq (sSet 2 (eC (.int 1)))
    (sSeq (sFor (iRg rg1 (eCons (eV 1) eNil)) (bNm 3) (sSet 2 (eOp oMul (eV 2) (eV 0))))
    (sRet (eV 2))))
def F_raised_roots : Fn := runF 4 (sSeq (sAsg (bTp [(bNm 0), (bNm 3)]) (eCall 3 F_check_raised [] (eCons (eVm 0) (eCons (eVm 1) (eCons (eVm 2) eNil)))))
    (sRet (eCall 4 F_roots_by_power [] (eCons (eVm 0) (eCons (eVm 3) (eCons (eVm 1) (eCons (eCall 2 F_power_of [] (eCons (eVm 1) (eCons (eVm 2) eNil))) eNil)))))))
def F__law_roots_told : Fn := runF 5 (sSeq (sTry (sSet 3 (eCall 3 F_raised_roots [] (eCons (eVm 0) (eCons (eVm 1) (eCons (eVm 2) eNil))))) [⟨(msOf [("DividedByNought", false), ("BadFigures", false), ("BadNumber", false), ("BadPoly", true), ("NotApart", false), ("BadPrime", false), ("BadTimes", false)]), some 4, (sRet (eFz (eLst (eCons (eC (.str "poly")) (eCons (eXf ["BadPoly", "BadPrime"] 4 "index") (eCons (eXf ["BadPoly"] 4 "what") eNil))))))⟩, ⟨(msOf [("DividedByNought", false), ("BadFigures", false), ("BadNumber", false), ("BadPoly", false), ("NotApart", false), ("BadPrime", true), ("BadTimes", false)]), some 4, (sRet (eFz (eLst (eCons (eC (.str "prime")) (eCons (eXf ["BadPoly", "BadPrime"] 4 "index") eNil)))))⟩, ⟨(msOf [("DividedByNought", false), ("BadFigures", false), ("BadNumber", false), ("BadPoly", false), ("NotApart", false), ("BadPrime", false), ("BadTimes", true)]), none, (sRet (eFz (eLst (eCons (eC (.str "times")) eNil))))⟩, ⟨(msOf [("DividedByNought", false), ("BadFigures", false), ("BadNumber", true), ("BadPoly", false), ("NotApart", false), ("BadPrime", false), ("BadTimes", false)]), none, (sRet (eFz (eLst (eCons (eC (.str "number")) eNil))))⟩, ⟨(msOf [("DividedByNought", false), ("BadFigures", false), ("BadNumber", false), ("BadPoly", false), ("NotApart", true), ("BadPrime", false), ("BadTimes", false)]), none, (sRet (eFz (eLst (eCons (eC (.str "apart")) eNil))))⟩])
    (sRet (eFz (eLst (eCons (eC (.str "roots")) (eCons (eV 3) eNil))))))
def F_Raised___init__ : Fn := runF 3 (sSeq (sAt "Raised" 0 "modulus" (eV 1))
    (sAt "Raised" 0 "products" (eV 2)))
def F_times_straight : Fn := runF 5 (sRet (eFz (eLc [3, 4] (iRg kZip (eCons (eFz (eOn oPlus (eFz (eLst (eCons (eC (.int 0)) eNil))) (eV 0))) (eCons (eFz (eOn oPlus (eV 0) (eFz (eLst (eCons (eC (.int 0)) eNil))))) eNil))) (bTp [(bNm 3), (bNm 4)]) tYesD (eOp oMod (eOp oSub (eV 3) (eOp oMul (eV 1) (eV 4))) (eV 2)))))
def F_poly_at_one_root : Fn := runF 8 (sSeq (sSet 4 (eFz (eLst (eCons (eC (.int 1)) eNil))))
    (sSeq (sFor (iSeq (eV 0)) (bNm 5) (sIf (eT (eOp oNe (eV 5) (eV 1))) (sSet 4 (eCall 3 F_times_straight [] (eCons (eVm 4) (eCons (eVm 5) (eCons (eVm 3) eNil))))) sNil))
    (sSeq (sSet 6 (eCall 3 F_undone_whole [] (eCons (eCall 3 F_rest_at [] (eCons (eVm 4) (eCons (eVm 1) (eCons (eVm 3) eNil)))) (eCons (eVm 2) (eCons (eVm 3) eNil)))))
    (sRet (eBi kTup (eCons (eFz (eLc [7] (iSeq (eV 4)) (bNm 7) tYesD (eOp oMod (eOp oMul (eV 7) (eV 6)) (eV 3)))) eNil))))))
def F_power_row_by : Fn := runF 4 (sSeq (sSet 3 (eLst (eCons (eC (.int 1)) eNil)))
    (sSeq (sWh 100 (eT (eOp oLt (eLenP (pV 3)) (eV 1))) (sApp (pV 3) (eOp oMod (eOp oMul (ePl (pIx (pV 3) (eUn oNeg (eC (.int 1))))) (eV 0)) (eV 2))))
    (sFrz 3 (sRet (eBi kTup (eCons (eV 3) eNil))))))
def F_raised_products : Fn := runF 7 (sSeq (sAsg (bTp [(bNm 0), (bNm 3)]) (eCall 3 F_check_raised [] (eCons (eVm 0) (eCons (eVm 1) (eCons (eVm 2) eNil)))))
    (sSeq (sSet 4 (eCall 2 F_power_of [] (eCons (eVm 1) (eCons (eVm 2) eNil))))
    (sSeq (sSet 3 (eCall 4 F_roots_by_power [] (eCons (eVm 0) (eCons (eVm 3) (eCons (eVm 1) (eCons (eVm 4) eNil))))))
    (sSeq (sSet 5 (eFz (eLc [6] (iSeq (eV 3)) (bNm 6) tYesD (eTup (eCons (eCall 4 F_poly_at_one_root [] (eCons (eVm 3) (eCons (eVm 6) (eCons (eVm 1) (eCons (eVm 4) eNil))))) (eCons (eCall 3 F_power_row_by [] (eCons (eVm 6) (eCons (eBi kLen (eCons (eV 3) eNil)) (eCons (eVm 4) eNil)))) (eCons (eC (.int 1)) (eCons (eV 6) eNil))))))))
    (sRet (eMake "Raised" 3 F_Raised___init__ [] (eCons (eV 4) (eCons (eBi kTup (eCons (eV 5) eNil)) eNil))))))))
def F__law_products_told : Fn := runF 5 (sSeq (sTry (sSet 3 (eCall 3 F_raised_products [] (eCons (eVm 0) (eCons (eVm 1) (eCons (eVm 2) eNil))))) [⟨(msOf [("DividedByNought", false), ("BadFigures", false), ("BadNumber", false), ("BadPoly", true), ("NotApart", false), ("BadPrime", false), ("BadTimes", false)]), some 4, (sRet (eFz (eLst (eCons (eC (.str "poly")) (eCons (eXf ["BadPoly", "BadPrime"] 4 "index") (eCons (eXf ["BadPoly"] 4 "what") eNil))))))⟩, ⟨(msOf [("DividedByNought", false), ("BadFigures", false), ("BadNumber", false), ("BadPoly", false), ("NotApart", false), ("BadPrime", true), ("BadTimes", false)]), some 4, (sRet (eFz (eLst (eCons (eC (.str "prime")) (eCons (eXf ["BadPoly", "BadPrime"] 4 "index") eNil)))))⟩, ⟨(msOf [("DividedByNought", false), ("BadFigures", false), ("BadNumber", false), ("BadPoly", false), ("NotApart", false), ("BadPrime", false), ("BadTimes", true)]), none, (sRet (eFz (eLst (eCons (eC (.str "times")) eNil))))⟩, ⟨(msOf [("DividedByNought", false), ("BadFigures", false), ("BadNumber", true), ("BadPoly", false), ("NotApart", false), ("BadPrime", false), ("BadTimes", false)]), none, (sRet (eFz (eLst (eCons (eC (.str "number")) eNil))))⟩, ⟨(msOf [("DividedByNought", false), ("BadFigures", false), ("BadNumber", false), ("BadPoly", false), ("NotApart", true), ("BadPrime", false), ("BadTimes", false)]), none, (sRet (eFz (eLst (eCons (eC (.str "apart")) eNil))))⟩])
    (sRet (eFz (eLst (eCons (eC (.str "products")) (eCons (eV 3) eNil))))))
def F__law_odd_prime : Fn := runF 1 (sRet (eCall 2 F__law_pick [] (eCons (eVm 0) (eCons (eFz (eLst (eCons (eC (.int 0)) (eCons (eC (.int 1)) (eCons (eC (.int 4)) (eCons (eC (.int 9)) (eCons (eC (.int 17)) (eCons (eUn oNeg (eC (.int 5))) (eCons (eC (.bl true)) (eCons (eC .non) (eCons (eC (.str "5")) (eCons (eTup (eCons (eC (.int 5)) eNil)) (eCons (eOp oPow (eC (.int 10)) (eC (.int 30))) (eCons (eC (.int 26)) (eCons (eC (.bl false)) (eCons (eC (.int 15)) eNil)))))))))))))))) eNil))))
def F__law_scaled_78 : Fn := runF 7 (sSeq (sSet 2 (eOp oSub (eBi kLen (eCons (eV 0) eNil)) (eC (.int 1))))
    (sSeq (sSet 3 (eLst eNil))
    (sSeq (sFor (iRg rg1 (eCons (eOp oAdd (eV 2) (eC (.int 1))) eNil)) (bNm 4) (sSeq (sSet 5 (eC (.int 1)))
    (sSeq (sFor (iRg rg1 (eCons (eOp oSub (eV 2) (eV 4)) eNil)) (bNm 6) (sSet 5 (eOp oMul (eV 5) (eV 1))))
    (sApp (pV 3) (eCall 2 F__law_ratio [] (eCons (eOp oIx (eV 0) (eV 4)) (eCons (eVm 5) eNil)))))))
    (sFrz 3 (sRet (eV 3))))))
def F__law_refused_78 : Fn := runF 11 (sSeq (sSet 4 (eOp oSub (eBi kLen (eCons (eV 2) eNil)) (eC (.int 1))))
    (sSeq (sSet 5 (eFz (eLst (eCons (eFz (eLst (eCons (eFz (eLst eNil)) (eCons (eFz (eLst (eCons (eC (.int 0)) (eCons (eC (.str "degree")) eNil)))) eNil)))) (eCons (eFz (eLst (eCons (eFz (eOn oPlus (eFz (eSl (eV 2) eNo (eOpt (eV 4)))) (eFz (eLst (eCons (eTup (eCons (eC (.int 2)) (eCons (eC (.int 1)) eNil))) eNil))))) (eCons (eFz (eLst (eCons (eV 4) (eCons (eC (.str "led")) eNil)))) eNil)))) (eCons (eFz (eLst (eCons (eFz (eOn oPlus (eFz (eSl (eV 2) eNo (eOpt (eV 4)))) (eFz (eLst (eCons (eC (.int 1)) eNil))))) (eCons (eFz (eLst (eCons (eV 4) (eCons (eC (.str "number")) eNil)))) eNil)))) eNil))))))
    (sSeq (sAsg (bLs [(bNm 6), (bNm 7)]) (eCall 2 F__law_pick [] (eCons (eVm 0) (eCons (eFz (eOn oPlus (eV 5) (eFz (eLst (eCons (eFz (eLst (eCons (eC .non) (eCons (eFz (eLst (eCons (eC (.int 0)) (eCons (eC (.str "many")) eNil)))) eNil)))) eNil))))) eNil))))
    (sSeq (sSet 8 (eCall 1 F__law_odd_prime [] (eCons (eVm 0) eNil)))
    (sSeq (sSet 9 (eCall 2 F__law_pick [] (eCons (eVm 0) (eCons (eFz (eLst (eCons (eC (.int 0)) (eCons (eUn oNeg (eC (.int 1))) (eCons (eC (.int 31)) (eCons (eC (.bl true)) (eCons (eC .non) (eCons (eC (.str "2")) (eCons (eTup (eCons (eC (.int 1)) eNil)) (eCons (eOp oPow (eC (.int 10)) (eC (.int 30))) eNil)))))))))) eNil))))
    (sSeq (sIf (eOr (eT (eOp oNe (eCall 3 F__law_roots_told [] (eCons (eVm 6) (eCons (eVm 8) (eCons (eVm 9) eNil)))) (eFz (eOn oPlus (eFz (eLst (eCons (eC (.str "poly")) eNil))) (eV 7))))) (eT (eOp oNe (eCall 3 F__law_products_told [] (eCons (eVm 6) (eCons (eVm 1) (eCons (eVm 3) eNil)))) (eFz (eOn oPlus (eFz (eLst (eCons (eC (.str "poly")) eNil))) (eV 7)))))) (sRet (eC (.bl false))) sNil)
    (sSeq (sIf (eOr (eT (eOp oNe (eCall 3 F__law_roots_told [] (eCons (eVm 2) (eCons (eVm 8) (eCons (eVm 9) eNil)))) (eFz (eLst (eCons (eC (.str "prime")) (eCons (eC (.int 0)) eNil)))))) (eT (eOp oNe (eCall 3 F__law_products_told [] (eCons (eVm 2) (eCons (eVm 8) (eCons (eVm 3) eNil)))) (eFz (eLst (eCons (eC (.str "prime")) (eCons (eC (.int 0)) eNil))))))) (sRet (eC (.bl false))) sNil)
    (sSeq (sSet 10 (eIf (eT (eOp oEq (eCall 2 F__law_take [] (eCons (eVm 0) (eCons (eC (.int 2)) eNil))) (eC (.int 0)))) (eCall 2 F__law_scaled_78 [] (eCons (eFz (eLst (eCons (eC (.int 1)) (eCons (eC (.int 1)) eNil)))) (eCons (eVm 1) eNil))) (eV 2)))
    (sRet (eB (eAnd (eT (eOp oEq (eCall 3 F__law_roots_told [] (eCons (eVm 10) (eCons (eVm 1) (eCons (eVm 9) eNil)))) (eFz (eLst (eCons (eC (.str "times")) eNil))))) (eT (eOp oEq (eCall 3 F__law_products_told [] (eCons (eVm 10) (eCons (eVm 1) (eCons (eVm 9) eNil)))) (eFz (eLst (eCons (eC (.str "times")) eNil))))))))))))))))
def F__law_can : Fn := runF 3 (sRet (eOp oEq (eFz (eLc [2] (iSeq (eV 1)) (bNm 2) (eT (eOp oEq (eOp oMod (eBi kInt (eCons (eOp oIx (eV 2) (eC (.int 1))) eNil)) (eV 0)) (eC (.int 0)))) (eV 2))) (eFz (eLst eNil))))
def F__law_parts_poly : Fn := runF 5 (sSeq (sSet 1 (eFz (eBi kList (eCons (eOp oIx (eV 0) (eC (.int 1))) eNil))))
    (sSeq (sFor (iSeq (eOp oIx (eV 0) (eC (.int 0)))) (bNm 2) (sSeq (sSet 3 (eFz (eOn oPlus (eFz (eLst (eCons (eC (.int 0)) eNil))) (eV 1))))
    (sSet 1 (eFz (eLc [4] (iRg rg1 (eCons (eBi kLen (eCons (eV 3) eNil)) eNil)) (bNm 4) tYesD (eOp oSub (eOp oIx (eV 3) (eV 4)) (eOp oMul (eV 2) (eOp oIx (eFz (eOn oPlus (eV 1) (eFz (eLst (eCons (eC (.int 0)) eNil))))) (eV 4)))))))))
    (sRet (eV 1))))
def F__law_shuffled : Fn := runF 5 (sSeq (sSet 2 (eBi kList (eCons (eV 1) eNil)))
    (sSeq (sSet 3 (eLst eNil))
    (sSeq (sFor (iRg rg1 (eCons (eBi kLen (eCons (eV 1) eNil)) eNil)) (bNm 4) (sAppPop 3 (pV 2) (eCall 2 F__law_take [] (eCons (eVm 0) (eCons (eLenP (pV 2)) eNil)))))
    (sFrz 3 (sRet (eV 3))))))
def F__law_apart_poly : Fn := runF 10 (sSeq (sSet 3 (eFz (eSl (eCall 2 F__law_shuffled [] (eCons (eVm 0) (eCons (eFz (eLc [4] (iRg rg1 (eCons (eV 1) eNil)) (bNm 4) tYesD (eV 4))) eNil))) eNo (eOpt (eV 2)))))
    (sSeq (sSet 5 (eFz (eLst (eCons (eC (.int 1)) eNil))))
    (sSeq (sFor (iSeq (eV 3)) (bNm 6) (sSeq (sSet 6 (eOp oAdd (eV 6) (eOp oMul (eV 1) (eOp oSub (eCall 2 F__law_take [] (eCons (eVm 0) (eCons (eC (.int 9)) eNil))) (eC (.int 4))))))
    (sSeq (sSet 7 (eFz (eOn oPlus (eFz (eLst (eCons (eC (.int 0)) eNil))) (eV 5))))
    (sSet 5 (eFz (eLc [8] (iRg rg1 (eCons (eBi kLen (eCons (eV 7) eNil)) eNil)) (bNm 8) tYesD (eOp oSub (eOp oIx (eV 7) (eV 8)) (eOp oMul (eV 6) (eOp oIx (eFz (eOn oPlus (eV 5) (eFz (eLst (eCons (eC (.int 0)) eNil))))) (eV 8))))))))))
    (sSeq (sIf (eT (eOp oEq (eCall 2 F__law_take [] (eCons (eVm 0) (eCons (eC (.int 4)) eNil))) (eC (.int 0)))) (sRet (eV 5)) sNil)
    (sSeq (sSet 9 (eCall 2 F__law_pick [] (eCons (eVm 0) (eCons (eFz (eLst (eCons (eC (.int 1)) (eCons (eC (.int 1)) (eCons (eC (.int 1)) (eCons (eOp oPow (eC (.int 10)) (eC (.int 4))) eNil)))))) eNil))))
    (sRet (eFz (eOn oPlus (eFz (eLc [8] (iRg rg1 (eCons (eOp oSub (eBi kLen (eCons (eV 5) eNil)) (eC (.int 1))) eNil)) (bNm 8) tYesD (eOp oAdd (eOp oIx (eV 5) (eV 8)) (eOp oMul (eOp oMul (eV 1) (eV 9)) (eOp oSub (eCall 2 F__law_take [] (eCons (eVm 0) (eCons (eC (.int 19)) eNil))) (eC (.int 9))))))) (eFz (eLst (eCons (eC (.int 1)) eNil)))))))))))
def F__law_value : Fn := runF 5 (sSeq (sSet 3 (eCall 2 F__law_num [] (eCons (eVm 0) (eCons (eC (.int 0)) eNil))))
    (sSeq (sFor (iRg rg1 (eCons (eBi kLen (eCons (eV 1) eNil)) eNil)) (bNm 4) (sSet 3 (eCall 3 F__law_plus [] (eCons (eVm 0) (eCons (eCall 3 F__law_times [] (eCons (eVm 0) (eCons (eVm 3) (eCons (eVm 2) eNil)))) (eCons (eOp oIx (eV 1) (eOp oSub (eOp oSub (eBi kLen (eCons (eV 1) eNil)) (eC (.int 1))) (eV 4))) eNil))))))
    (sRet (eV 3))))
def F__law_roots : Fn := runF 3 (sRet (eFz (eLc [2] (iRg rg1 (eCons (eV 0) eNil)) (bNm 2) (eT (eOp oEq (eCall 3 F__law_value [] (eCons (eVm 0) (eCons (eVm 1) (eCons (eVm 2) eNil)))) (eC (.int 0)))) (eV 2))))
def F__law_extra : Fn := runF 2 (sRet (eBi kInt (eCons (eOp oLt (eBi kLen (eCons (eCall 2 F__law_roots [] (eCons (eVm 0) (eCons (eVm 1) eNil))) eNil)) (eOp oSub (eBi kLen (eCons (eV 1) eNil)) (eC (.int 1)))) eNil)))
def F__law_parts : Fn := runF 6 (sSeq (sSet 2 (eIf (eT (eOp oGt (eCall 2 F__law_take [] (eCons (eVm 0) (eCons (eC (.int 3)) eNil))) (eC (.int 0)))) (eCall 2 F__law_take [] (eCons (eVm 0) (eCons (eOp oAdd (eBi kMin2 (eCons (eV 1) (eCons (eC (.int 3)) eNil))) (eC (.int 1))) eNil))) (eC (.int 0))))
    (sSeq (sSet 3 (eIf (eT (eOp oLt (eV 1) (eC (.int 4)))) (eCall 2 F__law_pick [] (eCons (eVm 0) (eCons (eFz (eLst (eCons (eC (.int 0)) (eCons (eC (.int 0)) (eCons (eC (.int 0)) (eCons (eC (.int 0)) (eCons (eC (.int 0)) (eCons (eC (.int 385)) (eCons (eC (.int 5005)) (eCons (eC (.int 30030)) (eCons (eC (.int 30030)) eNil))))))))))) eNil))) (eC (.int 0))))
    (sSeq (sSet 4 (eLst eNil))
    (sSeq (sFor (iRg rg1 (eCons (eOp oSub (eV 1) (eV 2)) eNil)) (bNm 5) (sApp (pV 4) (eOp oAdd (eOp oSub (eCall 2 F__law_take [] (eCons (eVm 0) (eCons (eC (.int 13)) eNil))) (eC (.int 6))) (eOp oMul (eV 3) (eOp oSub (eCall 2 F__law_take [] (eCons (eVm 0) (eCons (eC (.int 3)) eNil))) (eC (.int 1)))))))
    (sFrz 4 (sRet (eFz (eLst (eCons (eV 4) (eCons (eFz (eOn oPlus (eFz (eLc [5] (iRg rg1 (eCons (eV 2) eNil)) (bNm 5) tYesD (eOp oSub (eCall 2 F__law_take [] (eCons (eVm 0) (eCons (eC (.int 19)) eNil))) (eC (.int 9))))) (eFz (eLst (eCons (eC (.int 1)) eNil))))) (eCons (eV 3) eNil)))))))))))
def F__law_read : Fn := runF 2 (sRet (eCall 3 F__law_over [] (eCons (eVm 0) (eCons (eOp oMod (eBi kInt (eCons (eOp oIx (eV 1) (eC (.int 0))) eNil)) (eV 0)) (eCons (eOp oMod (eBi kInt (eCons (eOp oIx (eV 1) (eC (.int 1))) eNil)) (eV 0)) eNil)))))
def F__law_common_bottom : Fn := runF 3 (sSeq (sSet 1 (eC (.int 1)))
    (sSeq (sFor (iSeq (eV 0)) (bNm 2) (sSet 1 (eOp oMul (eOp oDiv (eV 1) (eCall 2 F__law_gcd [] (eCons (eVm 1) (eCons (eOp oIx (eV 2) (eC (.int 1))) eNil)))) (eOp oIx (eV 2) (eC (.int 1))))))
    (sRet (eV 1))))
def F__law_plain_78 : Fn := runF 2 (sRet (eB (eAnd (eT (eIs "int" (eV 0))) (eAnd (eT (eB (eNot (eT (eIs "bool" (eV 0)))))) (eT (eCh oLe oLt (eC (.int 0)) (eV 0) (eV 1)))))))
def F__law_whole_value : Fn := runF 4 (sSeq (sSet 2 (eC (.int 0)))
    (sSeq (sFor (iRg rg1 (eCons (eBi kLen (eCons (eV 0) eNil)) eNil)) (bNm 3) (sSet 2 (eOp oAdd (eOp oMul (eV 2) (eV 1)) (eOp oIx (eV 0) (eOp oSub (eOp oSub (eBi kLen (eCons (eV 0) eNil)) (eC (.int 1))) (eV 3))))))
    (sRet (eV 2))))
def F__law_roots_right : Fn := runF 10 (sSeq (sSet 4 (eCall 2 F__law_roots [] (eCons (eVm 0) (eCons (eFz (eLc [5] (iSeq (eV 1)) (bNm 5) tYesD (eCall 2 F__law_read [] (eCons (eVm 0) (eCons (eVm 5) eNil))))) eNil))))
    (sSeq (sIf (eOr (eNot (eTru (eIs "tuple" (eV 3)))) (eOr (eT (eOp oNe (eBi kLen (eCons (eV 3) eNil)) (eBi kLen (eCons (eV 4) eNil)))) (eT (eOp oNe (eBi kLen (eCons (eV 4) eNil)) (eOp oSub (eBi kLen (eCons (eV 1) eNil)) (eC (.int 1))))))) (sRet (eC (.bl false))) sNil)
    (sSeq (sSet 6 (eCall 1 F__law_common_bottom [] (eCons (eVm 1) eNil)))
    (sSeq (sSet 7 (eFz (eLc [5] (iSeq (eV 1)) (bNm 5) tYesD (eOp oMul (eOp oIx (eV 5) (eC (.int 0))) (eOp oDiv (eV 6) (eOp oIx (eV 5) (eC (.int 1))))))))
    (sSeq (sFor (iRg kZip (eCons (eV 4) (eCons (eV 3) eNil))) (bTp [(bNm 8), (bNm 9)]) (sSeq (sIf (eOr (eNot (eTru (eCall 2 F__law_plain_78 [] (eCons (eVm 9) (eCons (eVm 2) eNil))))) (eT (eOp oNe (eOp oMod (eBi kInt (eCons (eOp oSub (eV 9) (eV 8)) eNil)) (eV 0)) (eC (.int 0))))) (sRet (eC (.bl false))) sNil)
    (sIf (eT (eOp oNe (eOp oMod (eBi kInt (eCons (eCall 2 F__law_whole_value [] (eCons (eVm 7) (eCons (eVm 9) eNil))) eNil)) (eV 2)) (eC (.int 0)))) (sRet (eC (.bl false))) sNil)))
    (sRet (eC (.bl true))))))))
def F__law_row_plain : Fn := runF 4 (sRet (eB (eAnd (eT (eIs "tuple" (eV 0))) (eAnd (eT (eOp oEq (eBi kLen (eCons (eV 0) eNil)) (eV 1))) (eT (eOp oEq (eFz (eLc [3] (iSeq (eV 0)) (bNm 3) (eNot (eTru (eCall 2 F__law_plain_78 [] (eCons (eVm 3) (eCons (eVm 2) eNil))))) (eV 3))) (eFz (eLst eNil))))))))
def F__law_products_right : Fn := runF 16 (sSeq (sSet 3 (eOp oSub (eBi kLen (eCons (eV 0) eNil)) (eC (.int 1))))
    (sSeq (sIf (eOr (eNot (eTru (eIsC (msOf [("Figures", false), ("Raised", true)]) true (eV 2)))) (eT (eOp oNe (eAtV 2 "modulus") (eV 1)))) (sRet (eC (.bl false))) sNil)
    (sSeq (sSet 4 (eAtV 2 "products"))
    (sSeq (sIf (eOr (eNot (eTru (eIs "tuple" (eV 4)))) (eT (eOp oNe (eBi kLen (eCons (eV 4) eNil)) (eV 3)))) (sRet (eC (.bl false))) sNil)
    (sSeq (sFor (iSeq (eV 4)) (bNm 5) (sSeq (sIf (eOr (eNot (eTru (eIs "tuple" (eV 5)))) (eT (eOp oNe (eBi kLen (eCons (eV 5) eNil)) (eC (.int 4))))) (sRet (eC (.bl false))) sNil)
    (sSeq (sIf (eOr (eNot (eTru (eCall 3 F__law_row_plain [] (eCons (eOp oIx (eV 5) (eC (.int 0))) (eCons (eVm 3) (eCons (eVm 1) eNil)))))) (eNot (eTru (eCall 3 F__law_row_plain [] (eCons (eOp oIx (eV 5) (eC (.int 1))) (eCons (eVm 3) (eCons (eVm 1) eNil))))))) (sRet (eC (.bl false))) sNil)
    (sIf (eNot (eTru (eCall 3 F__law_row_plain [] (eCons (eBi kTup (eCons (eFz (eSl (eV 5) (eOpt (eC (.int 2))) eNo)) eNil)) (eCons (eC (.int 2)) (eCons (eVm 1) eNil)))))) (sRet (eC (.bl false))) sNil))))
    (sSeq (sSet 6 (eCall 1 F__law_common_bottom [] (eCons (eVm 0) eNil)))
    (sSeq (sSet 7 (eCall 2 F__law_column [] (eCons (eC (.int 0)) (eCons (eVm 0) eNil))))
    (sSeq (sFor (iRg rg1 (eCons (eV 3) eNil)) (bNm 8) (sFor (iRg rg1 (eCons (eV 3) eNil)) (bNm 9) (sSeq (sSet 10 (eBi kSum (eCons (eFz (eLc [11, 12, 13, 14] (iSeq (eV 4)) (bTp [(bNm 11), (bNm 12), (bNm 13), (bNm 14)]) tYesD (eOp oMul (eOp oMul (eV 13) (eOp oIx (eV 11) (eV 8))) (eOp oIx (eV 12) (eV 9))))) eNil)))
    (sSeq (sSet 15 (eBi kSum (eCons (eFz (eLc [11, 12, 13, 14] (iSeq (eV 4)) (bTp [(bNm 11), (bNm 12), (bNm 13), (bNm 14)]) tYesD (eOp oMul (eOp oMul (eV 14) (eOp oIx (eV 11) (eV 8))) (eOp oIx (eV 12) (eV 9))))) eNil)))
    (sSeq (sIf (eT (eOp oNe (eOp oMod (eBi kInt (eCons (eOp oSub (eV 10) (eBi kInt (eCons (eOp oEq (eV 8) (eV 9)) eNil))) eNil)) (eV 1)) (eC (.int 0)))) (sRet (eC (.bl false))) sNil)
    (sIf (eT (eOp oNe (eOp oMod (eBi kInt (eCons (eOp oSub (eOp oMul (eV 15) (eV 6)) (eOp oMul (eOp oIx (eOp oIx (eOp oIx (eV 7) (eV 8)) (eV 9)) (eC (.int 0))) (eOp oDiv (eV 6) (eOp oIx (eOp oIx (eOp oIx (eV 7) (eV 8)) (eV 9)) (eC (.int 1)))))) eNil)) (eV 1)) (eC (.int 0)))) (sRet (eC (.bl false))) sNil))))))
    (sRet (eC (.bl true)))))))))))
end Pd
namespace N78
open PySem PySem.Spec Fw Pd
def B_law : SF := (sSeq (sSet 2 (eCall 2 F__law_pick [] (eCons (eVm 1) (eCons (eFz (eLst (eCons (eC (.int 5)) (eCons (eC (.int 7)) (eCons (eC (.int 3)) (eCons (eC (.int 5)) (eCons (eC (.int 13)) (eCons (eC (.int 11)) (eCons (eC (.int 2)) (eCons (eC (.int 7)) eNil)))))))))) eNil))))
    (sSeq (sSet 3 (eOp oAdd (eC (.int 1)) (eCall 2 F__law_take [] (eCons (eVm 1) (eCons (eBi kMin2 (eCons (eV 2) (eCons (eC (.int 5)) eNil))) eNil)))))
    (sSeq (sIf (eT (eOp oEq (eCall 2 F__law_take [] (eCons (eVm 1) (eCons (eC (.int 4)) eNil))) (eC (.int 0)))) (sSet 4 (eCall 2 F__law_scaled_78 [] (eCons (eCall 1 F__law_parts_poly [] (eCons (eCall 2 F__law_parts [] (eCons (eVm 1) (eCons (eOp oAdd (eC (.int 1)) (eCall 2 F__law_take [] (eCons (eVm 1) (eCons (eC (.int 5)) eNil)))) eNil))) eNil)) (eCons (eCall 2 F__law_pick [] (eCons (eVm 1) (eCons (eFz (eLst (eCons (eC (.int 1)) (eCons (eC (.int 1)) (eCons (eC (.int 2)) (eCons (eC (.int 3)) (eCons (eC (.int 5)) (eCons (eC (.int 7)) eNil)))))))) eNil))) eNil)))) (sSeq (sSet 5 (eCall 2 F__law_pick [] (eCons (eVm 1) (eCons (eFz (eLst (eCons (eC (.int 1)) (eCons (eC (.int 1)) (eCons (eC (.int 1)) (eCons (eC (.int 2)) (eCons (eC (.int 3)) (eCons (eC (.int 4)) (eCons (eC (.int 17)) eNil))))))))) eNil))))
    (sSet 4 (eCall 2 F__law_scaled_78 [] (eCons (eCall 3 F__law_apart_poly [] (eCons (eVm 1) (eCons (eVm 2) (eCons (eVm 3) eNil)))) (eCons (eIf (eT (eOp oEq (eOp oMod (eBi kInt (eCons (eV 5) eNil)) (eV 2)) (eC (.int 0)))) (eC (.int 1)) (eV 5)) eNil))))))
    (sSeq (sSet 6 (eCall 2 F__law_pick [] (eCons (eVm 1) (eCons (eFz (eLst (eCons (eC (.int 1)) (eCons (eC (.int 2)) (eCons (eC (.int 3)) (eCons (eC (.int 4)) (eCons (eC (.int 5)) (eCons (eC (.int 8)) (eCons (eC (.int 13)) (eCons (eC (.int 30)) eNil)))))))))) eNil))))
    (sSeq (sSet 7 (eC (.int 1)))
    (sSeq (sFor (iRg rg1 (eCons (eV 6) eNil)) (bNm 8) (sSet 7 (eOp oMul (eV 7) (eV 2))))
    (sSeq (sSet 9 (eFz (eBi kList (eCons (eV 4) eNil))))
    (sSeq (sSet 10 (eIf (eT (eOp oEq (eCall 2 F__law_take [] (eCons (eVm 1) (eCons (eC (.int 2)) eNil))) (eC (.int 0)))) (eBi kTup (eCons (eV 4) eNil)) (eV 4)))
    (sSeq (sSet 11 (eCall 3 F__law_roots_told [] (eCons (eVm 10) (eCons (eVm 2) (eCons (eVm 6) eNil)))))
    (sSeq (sSet 12 (eCall 3 F__law_products_told [] (eCons (eVm 10) (eCons (eVm 2) (eCons (eVm 6) eNil)))))
    (sSeq (sIf (eNot (eTru (eCall 2 F__law_can [] (eCons (eVm 2) (eCons (eVm 4) eNil))))) (sIf (eOr (eT (eOp oNe (eV 11) (eFz (eLst (eCons (eC (.str "number")) eNil))))) (eT (eOp oNe (eV 12) (eFz (eLst (eCons (eC (.str "number")) eNil)))))) (sRet (eC (.bl false))) sNil) (sIf (eT (eOp oEq (eCall 2 F__law_extra [] (eCons (eVm 2) (eCons (eFz (eLc [13] (iSeq (eV 4)) (bNm 13) tYesD (eCall 2 F__law_read [] (eCons (eVm 2) (eCons (eVm 13) eNil))))) eNil))) (eC (.int 1)))) (sIf (eOr (eT (eOp oNe (eV 11) (eFz (eLst (eCons (eC (.str "apart")) eNil))))) (eT (eOp oNe (eV 12) (eFz (eLst (eCons (eC (.str "apart")) eNil)))))) (sRet (eC (.bl false))) sNil) (sSeq (sIf (eOr (eT (eOp oNe (eOp oIx (eV 11) (eC (.int 0))) (eC (.str "roots")))) (eOr (eT (eOp oNe (eOp oIx (eV 12) (eC (.int 0))) (eC (.str "products")))) (eT (eOp oNe (eV 4) (eV 9))))) (sRet (eC (.bl false))) sNil)
    (sIf (eOr (eNot (eTru (eCall 4 F__law_roots_right [] (eCons (eVm 2) (eCons (eVm 4) (eCons (eVm 7) (eCons (eOp oIx (eV 11) (eC (.int 1))) eNil))))))) (eNot (eTru (eCall 3 F__law_products_right [] (eCons (eVm 4) (eCons (eVm 7) (eCons (eOp oIx (eV 12) (eC (.int 1))) eNil))))))) (sRet (eC (.bl false))) sNil))))
    (sRet (eCall 4 F__law_refused_78 [] (eCons (eVm 1) (eCons (eVm 2) (eCons (eVm 9) (eCons (eVm 6) eNil)))))))))))))))))
end N78
namespace N78
open PySem PySem.Spec PyProof.Rows L2 Fw Pd
def top (i : Nat) : Stmt := PySem.Challenge.pw_sparedproducts_k78_whole_roots_by_powers.main.body.getD i (.Pass ⟨0, 0, 0, 0⟩)
def fn0 : List He.DefD := [⟨("_law_hand", none), "_law_hand", "_law_hand", defArgs (top 101), defBody (top 101), defScope (top 101), [], []⟩,
  ⟨("_law_mixed", none), "_law_mixed", "_law_mixed", defArgs (top 102), defBody (top 102), defScope (top 102), [], []⟩,
  ⟨("_law_take", none), "_law_take", "_law_take", defArgs (top 103), defBody (top 103), defScope (top 103), [], []⟩,
  ⟨("_law_pick", none), "_law_pick", "_law_pick", defArgs (top 89), defBody (top 89), defScope (top 89), [], []⟩,
  ⟨("is_sequence", none), "is_sequence", "is_sequence", defArgs (top 13), defBody (top 13), defScope (top 13), [], []⟩,
  ⟨("is_whole", none), "is_whole", "is_whole", defArgs (top 12), defBody (top 12), defScope (top 12), [.non, .non], []⟩,
  ⟨("is_ratio", none), "is_ratio", "is_ratio", defArgs (top 14), defBody (top 14), defScope (top 14), [], []⟩,
  ⟨("Figures", some "is_number"), "is_number", "Figures.is_number", defArgs (inClass (top 67) 10), defBody (inClass (top 67) 10), defScope (inClass (top 67) 10), [], []⟩,
  ⟨("check_poly", none), "check_poly", "check_poly", defArgs (top 46), defBody (top 46), defScope (top 46), [], []⟩,
  ⟨("check_led_poly", none), "check_led_poly", "check_led_poly", defArgs (top 47), defBody (top 47), defScope (top 47), [], []⟩,
  ⟨("Figures", some "__init__"), "__init__", "Figures.__init__", defArgs (inClass (top 67) 0), defBody (inClass (top 67) 0), defScope (inClass (top 67) 0), [], []⟩,
  ⟨("check_fraction_poly", none), "check_fraction_poly", "check_fraction_poly", defArgs (top 73), defBody (top 73), defScope (top 73), [], []⟩,
  ⟨("is_offered_prime", none), "is_offered_prime", "is_offered_prime", defArgs (top 70), defBody (top 70), defScope (top 70), [], []⟩,
  ⟨("check_prime", none), "check_prime", "check_prime", defArgs (top 71), defBody (top 71), defScope (top 71), [], []⟩,
  ⟨("check_not_zero", none), "check_not_zero", "check_not_zero", defArgs (top 61), defBody (top 61), defScope (top 61), [], []⟩]
def fn1 : List He.DefD := [⟨("fraction_roots", none), "fraction_roots", "fraction_roots", defArgs (top 59), defBody (top 59), defScope (top 59), [], []⟩,
  ⟨("Figures", some "all_numbers"), "all_numbers", "Figures.all_numbers", defArgs (inClass (top 67) 11), defBody (inClass (top 67) 11), defScope (inClass (top 67) 11), [], []⟩,
  ⟨("in_lowest_terms", none), "in_lowest_terms", "in_lowest_terms", defArgs (top 15), defBody (top 15), defScope (top 15), [], []⟩,
  ⟨("ratio_plus", none), "ratio_plus", "ratio_plus", defArgs (top 16), defBody (top 16), defScope (top 16), [], []⟩,
  ⟨("Figures", some "plus"), "plus", "Figures.plus", defArgs (inClass (top 67) 2), defBody (inClass (top 67) 2), defScope (inClass (top 67) 2), [], []⟩,
  ⟨("ratio_times", none), "ratio_times", "ratio_times", defArgs (top 18), defBody (top 18), defScope (top 18), [], []⟩,
  ⟨("Figures", some "times"), "times", "Figures.times", defArgs (inClass (top 67) 4), defBody (inClass (top 67) 4), defScope (inClass (top 67) 4), [], []⟩,
  ⟨("bare_value", none), "bare_value", "bare_value", defArgs (top 41), defBody (top 41), defScope (top 41), [], []⟩,
  ⟨("bare_roots", none), "bare_roots", "bare_roots", defArgs (top 62), defBody (top 62), defScope (top 62), [], []⟩,
  ⟨("comes_apart", none), "comes_apart", "comes_apart", defArgs (top 63), defBody (top 63), defScope (top 63), [], []⟩,
  ⟨("ratio_over", none), "ratio_over", "ratio_over", defArgs (top 19), defBody (top 19), defScope (top 19), [], []⟩,
  ⟨("undone_rest", none), "undone_rest", "undone_rest", defArgs (top 66), defBody (top 66), defScope (top 66), [], []⟩,
  ⟨("Figures", some "over"), "over", "Figures.over", defArgs (inClass (top 67) 5), defBody (inClass (top 67) 5), defScope (inClass (top 67) 5), [], []⟩,
  ⟨("Figures", some "number_of"), "number_of", "Figures.number_of", defArgs (inClass (top 67) 9), defBody (inClass (top 67) 9), defScope (inClass (top 67) 9), [], []⟩,
  ⟨("numbers_by", none), "numbers_by", "numbers_by", defArgs (top 72), defBody (top 72), defScope (top 72), [], []⟩]
def fn2 : List He.DefD := [⟨("check_raised", none), "check_raised", "check_raised", defArgs (top 77), defBody (top 77), defScope (top 77), [], []⟩,
  ⟨("undone_whole", none), "undone_whole", "undone_whole", defArgs (top 79), defBody (top 79), defScope (top 79), [], []⟩,
  ⟨("wholes_by", none), "wholes_by", "wholes_by", defArgs (top 80), defBody (top 80), defScope (top 80), [], []⟩,
  ⟨("whole_slope", none), "whole_slope", "whole_slope", defArgs (top 49), defBody (top 49), defScope (top 49), [], []⟩,
  ⟨("rest_at", none), "rest_at", "rest_at", defArgs (top 50), defBody (top 50), defScope (top 50), [], []⟩,
  ⟨("raised_root", none), "raised_root", "raised_root", defArgs (top 81), defBody (top 81), defScope (top 81), [], []⟩,
  ⟨("roots_by_power", none), "roots_by_power", "roots_by_power", defArgs (top 82), defBody (top 82), defScope (top 82), [], []⟩,
  ⟨("power_of", none), "power_of", "power_of", defArgs (top 78), defBody (top 78), defScope (top 78), [], []⟩,
  ⟨("raised_roots", none), "raised_roots", "raised_roots", defArgs (top 83), defBody (top 83), defScope (top 83), [], []⟩,
  ⟨("_law_roots_told", none), "_law_roots_told", "_law_roots_told", defArgs (top 114), defBody (top 114), defScope (top 114), [], []⟩,
  ⟨("Raised", some "__init__"), "__init__", "Raised.__init__", defArgs (inClass (top 76) 0), defBody (inClass (top 76) 0), defScope (inClass (top 76) 0), [], []⟩,
  ⟨("times_straight", none), "times_straight", "times_straight", defArgs (top 84), defBody (top 84), defScope (top 84), [], []⟩,
  ⟨("poly_at_one_root", none), "poly_at_one_root", "poly_at_one_root", defArgs (top 85), defBody (top 85), defScope (top 85), [], []⟩,
  ⟨("power_row_by", none), "power_row_by", "power_row_by", defArgs (top 86), defBody (top 86), defScope (top 86), [], []⟩,
  ⟨("raised_products", none), "raised_products", "raised_products", defArgs (top 87), defBody (top 87), defScope (top 87), [], []⟩]
def fn3 : List He.DefD := [⟨("_law_products_told", none), "_law_products_told", "_law_products_told", defArgs (top 115), defBody (top 115), defScope (top 115), [], []⟩,
  ⟨("_law_odd_prime", none), "_law_odd_prime", "_law_odd_prime", defArgs (top 100), defBody (top 100), defScope (top 100), [], []⟩,
  ⟨("_law_gcd", none), "_law_gcd", "_law_gcd", defArgs (top 104), defBody (top 104), defScope (top 104), [], []⟩,
  ⟨("_law_ratio", none), "_law_ratio", "_law_ratio", defArgs (top 105), defBody (top 105), defScope (top 105), [], []⟩,
  ⟨("_law_scaled", none), "_law_scaled", "_law_scaled", defArgs (top 99), defBody (top 99), defScope (top 99), [], []⟩,
  ⟨("_law_refused", none), "_law_refused", "_law_refused", defArgs (top 121), defBody (top 121), defScope (top 121), [], []⟩,
  ⟨("_law_can", none), "_law_can", "_law_can", defArgs (top 92), defBody (top 92), defScope (top 92), [], []⟩,
  ⟨("_law_parts_poly", none), "_law_parts_poly", "_law_parts_poly", defArgs (top 97), defBody (top 97), defScope (top 97), [], []⟩,
  ⟨("_law_shuffled", none), "_law_shuffled", "_law_shuffled", defArgs (top 90), defBody (top 90), defScope (top 90), [], []⟩,
  ⟨("_law_apart_poly", none), "_law_apart_poly", "_law_apart_poly", defArgs (top 113), defBody (top 113), defScope (top 113), [], []⟩,
  ⟨("_law_num", none), "_law_num", "_law_num", defArgs (top 106), defBody (top 106), defScope (top 106), [], []⟩,
  ⟨("_law_plus", none), "_law_plus", "_law_plus", defArgs (top 107), defBody (top 107), defScope (top 107), [], []⟩,
  ⟨("_law_times", none), "_law_times", "_law_times", defArgs (top 108), defBody (top 108), defScope (top 108), [], []⟩,
  ⟨("_law_value", none), "_law_value", "_law_value", defArgs (top 93), defBody (top 93), defScope (top 93), [], []⟩,
  ⟨("_law_roots", none), "_law_roots", "_law_roots", defArgs (top 94), defBody (top 94), defScope (top 94), [], []⟩]
def fn4 : List He.DefD := [⟨("_law_extra", none), "_law_extra", "_law_extra", defArgs (top 95), defBody (top 95), defScope (top 95), [], []⟩,
  ⟨("_law_parts", none), "_law_parts", "_law_parts", defArgs (top 96), defBody (top 96), defScope (top 96), [], []⟩,
  ⟨("_law_over", none), "_law_over", "_law_over", defArgs (top 110), defBody (top 110), defScope (top 110), [], []⟩,
  ⟨("_law_read", none), "_law_read", "_law_read", defArgs (top 91), defBody (top 91), defScope (top 91), [], []⟩,
  ⟨("_law_common_bottom", none), "_law_common_bottom", "_law_common_bottom", defArgs (top 117), defBody (top 117), defScope (top 117), [], []⟩,
  ⟨("_law_plain", none), "_law_plain", "_law_plain", defArgs (top 116), defBody (top 116), defScope (top 116), [], []⟩,
  ⟨("_law_whole_value", none), "_law_whole_value", "_law_whole_value", defArgs (top 98), defBody (top 98), defScope (top 98), [], []⟩,
  ⟨("_law_roots_right", none), "_law_roots_right", "_law_roots_right", defArgs (top 118), defBody (top 118), defScope (top 118), [], []⟩,
  ⟨("_law_blank", none), "_law_blank", "_law_blank", defArgs (top 111), defBody (top 111), defScope (top 111), [], []⟩,
  ⟨("_law_less", none), "_law_less", "_law_less", defArgs (top 109), defBody (top 109), defScope (top 109), [], []⟩,
  ⟨("_law_column", none), "_law_column", "_law_column", defArgs (top 112), defBody (top 112), defScope (top 112), [], []⟩,
  ⟨("_law_row_plain", none), "_law_row_plain", "_law_row_plain", defArgs (top 119), defBody (top 119), defScope (top 119), [], []⟩,
  ⟨("_law_products_right", none), "_law_products_right", "_law_products_right", defArgs (top 120), defBody (top 120), defScope (top 120), [], []⟩,
  ⟨("law", none), "law", "law", defArgs (top 122), defBody (top 122), defScope (top 122), [], []⟩,
  ⟨("BadFigures", some "__init__"), "__init__", "BadFigures.__init__", defArgs (inClass (top 5) 0), defBody (inClass (top 5) 0), defScope (inClass (top 5) 0), [], []⟩]
def fn5 : List He.DefD := [⟨("BadPoly", some "__init__"), "__init__", "BadPoly.__init__", defArgs (inClass (top 7) 0), defBody (inClass (top 7) 0), defScope (inClass (top 7) 0), [], []⟩,
  ⟨("BadPrime", some "__init__"), "__init__", "BadPrime.__init__", defArgs (inClass (top 9) 0), defBody (inClass (top 9) 0), defScope (inClass (top 9) 0), [], []⟩]
def fns : List He.DefD := fn0 ++ fn1 ++ fn2 ++ fn3 ++ fn4 ++ fn5
def gls : List Str := (["is_whole", "is_sequence", "is_ratio", "in_lowest_terms", "ratio_plus", "ratio_minus", "ratio_times", "ratio_over", "over_one_bottom", "content_of", "in_low_terms", "in_proportion", "row_scaled", "whole_poly", "trimmed_wholes", "wholes_less", "rest_line", "common_line", "fraction_common", "trimmed", "bare_led", "less_row", "bare_over", "bare_quotient", "bare_common"] : List Str) ++ (["bare_value", "bare_slope", "check_poly", "check_led_poly", "whole_slope", "rest_at", "is_zero_at", "is_prime", "fitting_prime", "is_fitting", "undone_by", "long_root", "roots_of_wholes", "unlike_part", "fraction_roots", "check_not_zero", "bare_roots", "comes_apart", "undone_rest", "is_offered_prime", "check_prime", "numbers_by", "check_fraction_poly", "check_raised", "power_of"] : List Str) ++ (["undone_whole", "wholes_by", "raised_root", "roots_by_power", "raised_roots", "times_straight", "poly_at_one_root", "power_row_by", "raised_products", "_law_pick", "_law_shuffled", "_law_read", "_law_can", "_law_value", "_law_roots", "_law_extra", "_law_parts", "_law_parts_poly", "_law_whole_value", "_law_scaled", "_law_odd_prime", "_law_hand", "_law_mixed", "_law_take", "_law_gcd"] : List Str) ++ (["_law_ratio", "_law_num", "_law_plus", "_law_times", "_law_less", "_law_over", "_law_blank", "_law_column", "_law_apart_poly", "_law_roots_told", "_law_products_told", "_law_plain", "_law_common_bottom", "_law_roots_right", "_law_row_plain", "_law_products_right", "_law_refused", "law", "OFFERED", "PRIMES", "PairError", "DividedByNought", "BadFigures", "BadNumber", "BadPoly"] : List Str) ++ (["NotApart", "BadPrime", "BadTimes", "Figures", "Raised"] : List Str)
def tb : Tb where
  fn := fns
  gl := gls
  frs := (["abs", "all", "bool", "enumerate", "int", "isinstance", "len", "list", "min", "range", "sorted", "sum", "tuple", "zip"] : List Str)
  nI := [("MOST_NUMBERS", 12), ("MOST_DEGREE", 5), ("MOST_POWER", 30)]
  nS := []
  nT := [("OFFERED", [.int 0, .int 2, .int 3, .int 5, .int 7, .int 11, .int 13]), ("PRIMES", [.int 2, .int 3, .int 5, .int 7, .int 11, .int 13])]
  cls := [⟨"Figures", ["prime", "zero", "one"], ["plus", "minus", "times", "over", "whole_number", "number_of", "is_number", "all_numbers"]⟩, ⟨"Raised", ["modulus", "products"], []⟩]
  bas := "PairError"
  errs := ["DividedByNought", "BadFigures", "BadNumber", "BadPoly", "NotApart", "BadPrime", "BadTimes"]
  bare := ["DividedByNought", "BadNumber", "NotApart", "BadTimes"]
  ini := [("BadFigures", ["prime"]), ("BadPoly", ["index", "what"]), ("BadPrime", ["index"])]
  exm := ([("DividedByNought", "NotApart", false), ("BadFigures", "NotApart", false), ("BadNumber", "NotApart", false), ("BadPoly", "NotApart", false), ("NotApart", "NotApart", true), ("BadPrime", "NotApart", false), ("BadTimes", "NotApart", false), ("DividedByNought", "BadNumber", false), ("BadFigures", "BadNumber", false), ("BadNumber", "BadNumber", true), ("BadPoly", "BadNumber", false), ("NotApart", "BadNumber", false), ("BadPrime", "BadNumber", false), ("BadTimes", "BadNumber", false), ("DividedByNought", "BadTimes", false), ("BadFigures", "BadTimes", false), ("BadNumber", "BadTimes", false), ("BadPoly", "BadTimes", false), ("NotApart", "BadTimes", false), ("BadPrime", "BadTimes", false)] : List (Str × Str × Bool)) ++ ([("BadTimes", "BadTimes", true), ("DividedByNought", "BadPrime", false), ("BadFigures", "BadPrime", false), ("BadNumber", "BadPrime", false), ("BadPoly", "BadPrime", false), ("NotApart", "BadPrime", false), ("BadPrime", "BadPrime", true), ("BadTimes", "BadPrime", false), ("DividedByNought", "BadPoly", false), ("BadFigures", "BadPoly", false), ("BadNumber", "BadPoly", false), ("BadPoly", "BadPoly", true), ("NotApart", "BadPoly", false), ("BadPrime", "BadPoly", false), ("BadTimes", "BadPoly", false)] : List (Str × Str × Bool))
  kit := ([("Figures", "Raised", false), ("Raised", "Raised", true)] : List (Str × Str × Bool))
  spc := []
  nes := []
  vcl := ["Raised"]
section
variable {P : Program} {w : World} {K : PySem.W.Frag} {mg : Str → Option Value} {base : Heap}
theorem tupOk_OFFERED (T : Fs tb K mg) : mg "OFFERED" = some (.ref (He.ga K "OFFERED")) ∧ ∀ ha G, Dq ⟨K, mg, none⟩ ha G (.ref (He.ga K "OFFERED")) (.tup tup_OFFERED) := ⟨T.gl 93 "OFFERED" rfl, fun ha G => .tup (T.tup 0 _ rfl G) (.cons (.int _) (.cons (.int _) (.cons (.int _) (.cons (.int _) (.cons (.int _) (.cons (.int _) (.cons (.int _) .nil)))))))⟩
theorem tupOk_PRIMES (T : Fs tb K mg) : mg "PRIMES" = some (.ref (He.ga K "PRIMES")) ∧ ∀ ha G, Dq ⟨K, mg, none⟩ ha G (.ref (He.ga K "PRIMES")) (.tup tup_PRIMES) := ⟨T.gl 94 "PRIMES" rfl, fun ha G => .tup (T.tup 1 _ rfl G) (.cons (.int _) (.cons (.int _) (.cons (.int _) (.cons (.int _) (.cons (.int _) (.cons (.int _) .nil))))))⟩
theorem er_DividedByNought (T : Fs tb K mg) : EA0 ⟨K, mg, none⟩ "DividedByNought" := ea0 T 0 0 96 rfl rfl rfl
theorem er_BadFigures (T : Fs tb K mg) : EA1 P w ⟨K, mg, none⟩ base "BadFigures" "prime" := by
  obtain ⟨fd, D⟩ : ∃ fd, FunD K "__init__" "BadFigures.__init__" (defArgs (inClass (top 5) 0)) (defBody (inClass (top 5) 0)) (defScope (inClass (top 5) 0)) [] [] (He.ma K (He.ga K "BadFigures") "__init__") fd := T.says.def_ 74 rfl
  exact ea1 T 1 0 97 rfl rfl rfl (FunD.ok D (N := ["self", "prime"]) ⟨rfl, rfl, rfl, by decide +kernel, rfl, by decide +kernel, by decide +kernel⟩ (fun vs H Q E h => lenN h) (fun cdv A outer s H vs Q E hr h => ⟨_, PSs.nox (pss_one (ps_ost (pv 0) (pv 1))), Ky.rd1 rfl (T.er 1 _ rfl) (noatI T 0 rfl (by decide)) h⟩)) (FunD.bindsN D (fun _ _ _ _ _ _ us hl => match us, hl with | [_, _], _ => rfl))
theorem er_BadNumber (T : Fs tb K mg) : EA0 ⟨K, mg, none⟩ "BadNumber" := ea0 T 2 1 98 rfl rfl rfl
theorem er_BadPoly (T : Fs tb K mg) : EA2 P w ⟨K, mg, none⟩ base "BadPoly" "index" "what" := by
  obtain ⟨fd, D⟩ : ∃ fd, FunD K "__init__" "BadPoly.__init__" (defArgs (inClass (top 7) 0)) (defBody (inClass (top 7) 0)) (defScope (inClass (top 7) 0)) [] [] (He.ma K (He.ga K "BadPoly") "__init__") fd := T.says.def_ 75 rfl
  exact ea2 T 3 1 99 rfl rfl rfl (FunD.ok D (N := ["self", "index", "what"]) ⟨rfl, rfl, rfl, by decide +kernel, rfl, by decide +kernel, by decide +kernel⟩ (fun vs H Q E h => lenN h) (fun cdv A outer s H vs Q E hr h => ⟨_, PSs.nox (pss_cons (ps_ost (pv 0) (pv 1)) (pss_one (ps_ost (pv 0) (pv 2)))), Ky.rd2 rfl (T.er 3 _ rfl) (noatI T 1 rfl (by decide)) (noatI T 1 rfl (by decide)) h⟩)) (FunD.bindsN D (fun _ _ _ _ _ _ us hl => match us, hl with | [_, _, _], _ => rfl))
theorem er_NotApart (T : Fs tb K mg) : EA0 ⟨K, mg, none⟩ "NotApart" := ea0 T 4 2 100 rfl rfl rfl
theorem er_BadPrime (T : Fs tb K mg) : EA1 P w ⟨K, mg, none⟩ base "BadPrime" "index" := by
  obtain ⟨fd, D⟩ : ∃ fd, FunD K "__init__" "BadPrime.__init__" (defArgs (inClass (top 9) 0)) (defBody (inClass (top 9) 0)) (defScope (inClass (top 9) 0)) [] [] (He.ma K (He.ga K "BadPrime") "__init__") fd := T.says.def_ 76 rfl
  exact ea1 T 5 2 101 rfl rfl rfl (FunD.ok D (N := ["self", "index"]) ⟨rfl, rfl, rfl, by decide +kernel, rfl, by decide +kernel, by decide +kernel⟩ (fun vs H Q E h => lenN h) (fun cdv A outer s H vs Q E hr h => ⟨_, PSs.nox (pss_one (ps_ost (pv 0) (pv 1))), Ky.rd1 rfl (T.er 5 _ rfl) (noatI T 2 rfl (by decide)) h⟩)) (FunD.bindsN D (fun _ _ _ _ _ _ us hl => match us, hl with | [_, _], _ => rfl))
theorem er_BadTimes (T : Fs tb K mg) : EA0 ⟨K, mg, none⟩ "BadTimes" := ea0 T 6 3 102 rfl rfl rfl
theorem scH : FnScope ["_law_script", "_law_total", "_law_cells", "_law_cell"] ["_law_script"] (defScope (top 101)) := ⟨rfl, rfl, rfl, by decide +kernel, rfl, by decide +kernel, by decide +kernel⟩
theorem ok_hand {fd : FuncData} {f : Addr} (T : Fs tb K mg) (F : FunD K "_law_hand" "_law_hand" (defArgs (top 101)) (defBody (top 101)) (defScope (top 101)) [] [] f fd) : FnOk P w K mg base CX0 1 f fd ["_law_script"] (spHand K) := by
  refine F.ok scH (fun vs H Q E h => ?_) (fun cdv A outer s H vs Q E hr h => ?_)
  · obtain ⟨a, ns, rfl, _⟩ := h
    rfl
  · obtain ⟨a, ns, rfl, hS, hlen, k⟩ := h
    refine ⟨_, PSs.nox (pss_cons (ps_set (i := 1) scH.nd rfl (Or.inl rfl) (pe_op op_add (pe_callB call_len (by rfl) (T.fr 6 "len" rfl) PySem.boot_len (pa_cons (pv 0) pa_nil)) pe_int))
      (pss_cons (ps_set (i := 2) scH.nd rfl (Or.inl rfl) (pe_lst pa_nil))
      (pss_cons (ps_for PassesOwn.never rfl (pi_list (pv 0)) (pg_name (i := 3) scH.nd rfl (Or.inl rfl))
        (pss_cons (ps_set (i := 1) scH.nd rfl (Or.inl rfl) (pe_op op_mod (pe_callTy call_int1 (by rfl) (T.fr 4 "int" rfl) PyProof.Rows.boot_int (pa_cons (pe_op op_add (pe_op op_mul (pv 1) pe_int) (pe_callTy call_int1 (by rfl) (T.fr 4 "int" rfl) PyProof.Rows.boot_int (pa_cons (pv 3) pa_nil))) pa_nil)) pe_int))
        (pss_one (ps_expr (pe_bm PySem.F.plainAttrs_list PySem.F.slot_list_append PySem.F.type_list_append mt_append (pv 2) (pa_cons (pe_callB call_abs (by rfl) (T.fr 0 "abs" rfl) (by decide +kernel) (pa_cons (pe_callTy call_int1 (by rfl) (T.fr 4 "int" rfl) PyProof.Rows.boot_int (pa_cons (pv 3) pa_nil)) pa_nil)) pa_nil))))))
      (pss_one (ps_ret (pe_lst (pa_cons (pv 2) (pa_cons pe_int (pa_cons pe_int (pa_cons (pv 1) pa_nil)))))))))), ?_⟩
    have hn2 : (ns.map V.int).length ≤ 63 := by rw [List.length_map]; exact hlen
    refine ⟨_, rfl, _, _, rfl, Or.inl ⟨_, hS, rfl⟩, _, _, rfl, rfl, Nat.zero_le _, fun c hc => ?_⟩
    have s0 : Same H (upd H c (.lst [])) := fun b o e => by
      rw [upd_ne (ne_of_none e hc)]
      exact e
    refine ⟨_, rfl, a, rfl, ⟨_, s0.seq hS⟩, for_list (K := K) (a := a) (xs := ns.map V.int) (fun i σ H2 => ∃ (cs : List Int) (t : Int) (v : Option V), σ = [some (.ref a), some (.int t), some (.ref c), v] ∧ Same H H2 ∧ H2 c = some (.lst (cs.map V.int)) ∧ (∀ z ∈ cs, 0 ≤ z) ∧ cs.length = i ∧ 0 ≤ t ∧ t < 2147483648)
      ⟨[], _, none, rfl, s0, upd_same, (fun z hz => nomatch hz), rfl, by omega, by omega⟩ (fun i σ H2 _ ⟨_, _, _, _, s2, _⟩ => s2.seq hS) ?_ ?_⟩
    · rintro i y σ H2 hi ⟨cs, t, v, rfl, s2, h2, hz, hk, t0, t1⟩
      obtain ⟨z, rfl⟩ : ∃ z, y = V.int z := by
        rw [List.getElem?_map] at hi
        cases e : ns[i]? with
        | none =>
          rw [e] at hi
          cases hi
        | some z =>
          rw [e] at hi
          exact ⟨z, (Option.some.inj hi).symm⟩
      have hil : i < (ns.map V.int).length := (List.getElem?_eq_some_iff.mp hi).1
      refine ⟨_, rfl, _, _, rfl, rfl, .inr ⟨by decide, by decide⟩, _, rfl, .inl ⟨_, rfl, _, _, rfl, rfl, .inl ⟨_, rfl, _, _, rfl, rfl, (by show (0 : Int) < 2147483563; decide), ?_⟩⟩⟩
      refine ⟨_, rfl, .inl ⟨rfl, _, SqL.of h2⟩, _, rfl, .inl ⟨_, rfl, _, rfl, c, _, _, rfl, rfl, h2, ?_, ?_⟩⟩
      · rw [List.length_map]
        exact small1000 (by omega)
      · refine ⟨cs ++ [if z < 0 then -z else z], _, _, rfl, ?_, ?_, ?_, ?_, ?_, ?_⟩
        · intro b o e
          by_cases hb : b = c
          · rw [hb, hc] at e
            cases e
          · rw [upd_ne hb]
            exact s2 b o e
        · rw [upd_same, List.map_append]
          rfl
        · intro x hx
          rcases List.mem_append.mp hx with hx | hx
          · exact hz x hx
          · rw [List.mem_singleton.mp hx]
            split <;> omega
        · rw [List.length_append, hk]
          rfl
        · exact Int.emod_nonneg _ (by decide)
        · exact Int.lt_trans (Int.emod_lt_of_pos _ (by decide)) (by decide)
    · rintro σ H2 ⟨cs, t, v, rfl, s2, h2, hz, hk, t0, t1⟩
      refine ⟨_, rfl, _, rfl, (by show 4 ≤ sizeLine; decide), fun p hp => ?_⟩
      have hcp : c ≠ p := ne_of_none h2 hp
      refine k p c cs t _ (fun b o e => ?_) ⟨upd_same, by rw [upd_ne hcp]; exact h2, hz, by omega, t0, t1⟩
      rw [upd_ne (ne_of_none (s2 b o e) hp)]
      exact s2 b o e
theorem hand_ok (T : Fs tb K mg) : HandOk P w K mg base (He.ga K "_law_hand") := by
  obtain ⟨fd, D⟩ : ∃ fd, FunD K "_law_hand" "_law_hand" (defArgs (top 101)) (defBody (top 101)) (defScope (top 101)) [] [] (He.ga K "_law_hand") fd := T.says.def_ 0 rfl
  exact ⟨⟨fd, ok_hand T D, FunD.bindsN D (fun _ _ _ _ _ _ us hl => match us, hl with | [_], _ => rfl)⟩, D.kp⟩
end
end N78
namespace Kf
open PySem PySem.Spec PyProof.Rows L2 Kx
def hookL (as : List Addr) (ck : PySem.W.Frag → Bool) (fn : List He.DefD) : PySem.W.Hook where
  α := Bool × He.AlD
  obs := fun s => (ck (He.frG s.heap.get? as), He.obsD [] fn (He.frG s.heap.get? as))
  val := fun _ => (true, He.valD fn)
  says := fun _ h => ∃ K : PySem.W.Frag, K.In h ∧ ck K = true ∧ He.SaysD [] fn K
  of := fun _ _ e => ⟨_, He.frG_in, (Prod.mk.inj e).1, (Prod.mk.inj e).2⟩
  keeps := fun _ _ _ ⟨K, hK, c⟩ k => ⟨K, PySem.W.Frag.In.keeps hK k, c⟩
def obL (as : List Addr) (ck : PySem.W.Frag → Bool) (fn : List He.DefD) (g : Addr → Option Obj) : Bool × He.AlD := (ck (He.frG g as), He.obsD [] fn (He.frG g as))
theorem obL_eq {as : List Addr} {ck : PySem.W.Frag → Bool} {fn : List He.DefD} {g : Addr → Option Obj} {s : Shared} (h : ∀ a, g a = s.heap.get? a) : obL as ck fn g = (hookL as ck fn).obs s := by
  have e : g = s.heap.get? := funext h
  rw [e] <;> rfl
end Kf
namespace X78
open PySem PySem.Spec PyProof.Rows L2 Fw Kf
def loose : List Str := (["_wall", "PairError", "DividedByNought", "BadFigures", "BadNumber", "BadPoly", "NotApart", "BadPrime", "BadTimes", "is_whole", "is_sequence", "is_ratio", "in_lowest_terms", "ratio_plus", "ratio_minus", "ratio_times", "ratio_over", "over_one_bottom", "content_of", "in_low_terms", "in_proportion", "row_scaled", "whole_poly", "trimmed_wholes", "wholes_less", "rest_line", "common_line", "fraction_common", "trimmed", "bare_led"] : List Str) ++ (["less_row", "bare_over", "bare_quotient", "bare_common", "bare_value", "bare_slope", "check_poly", "check_led_poly", "whole_slope", "rest_at", "is_zero_at", "is_prime", "fitting_prime", "is_fitting", "undone_by", "long_root", "roots_of_wholes", "unlike_part", "fraction_roots", "check_not_zero", "bare_roots", "comes_apart", "undone_rest", "Figures", "is_offered_prime", "check_prime", "numbers_by", "check_fraction_poly", "Raised", "check_raised"] : List Str) ++ (["power_of", "undone_whole", "wholes_by", "raised_root", "roots_by_power", "raised_roots", "times_straight", "poly_at_one_root", "power_row_by", "raised_products", "_law_pick", "_law_shuffled", "_law_read", "_law_can", "_law_value", "_law_roots", "_law_extra", "_law_parts", "_law_parts_poly", "_law_whole_value", "_law_scaled", "_law_odd_prime", "_law_hand", "_law_mixed", "_law_take", "_law_gcd", "_law_ratio", "_law_num", "_law_plus", "_law_times"] : List Str) ++ (["_law_less", "_law_over", "_law_blank", "_law_column", "_law_apart_poly", "_law_roots_told", "_law_products_told", "_law_plain", "_law_common_bottom", "_law_roots_right", "_law_row_plain", "_law_products_right", "_law_refused", "OFFERED", "PRIMES", "MOST_NUMBERS", "MOST_DEGREE", "MOST_POWER", "gcd"] : List Str)
abbrev R : PySem.W.OpenRow := PySem.W.OpenLaw.row PySem.Challenge.rw_sparedproducts_k78_whole_roots_by_powers
def as : List Addr := ([3,  59,  72,  91,  103,  122,  134,  153,  165,  175,  182,  189,  196,  203,  217,  224,  334,  346,  353,  358,  365,  420,  427,  432,  439,  440,  447,  541,  546,  553,  560,  565,  572,  589,  600,  607,  614,  619,  626,  631,  638,  643,  648,  655,  660,  667,  674,  681,  686,  693,  698,  705,  710,  715,  722,  729,  736,  743,  750,  757,  764,  771,  778,  785,  792,  799,  806,  811,  818,  823,  830,  837,  844,  851,  856,  861,  866,  873,  878,  58,  71,  90,  102,  121,  133,  152,  164,  174,  168,  181,  188,  195,  202,  216,  223,  333,  345,  352,  357,  364,  419,  426,  431,  438,  446,  540,  552,  559,  564,  571,  588,  599,  606,  613,  618,  625,  630,  637,  642,  647,  654,  659,  666,  673,  680,  685,  692,  697,  704,  709,  714,  721,  728,  735,  742,  749,  756,  763,  770,  777,  784,  791,  798,  805,  810,  817,  822,  829,  836,  843,  850,  855,  860,  865,  872,  877,  88,  119,  150,  461,  475,  482,  489,  496,  517,  524,  531,  538,  586,  87,  118,  149,  460,  474,  488,  495,  523,  530,  537,  585] : List Nat)
abbrev hk : PySem.W.Hook := hookL as N78.tb.ck N78.fns
def ob (s : PySem.W.SharedT) : Bool × He.AlD := obL as N78.tb.ck N78.fns (HandSHeadRun.getT s)
theorem ob_eq (s : PySem.W.SharedT) : ob s = hk.obs s.abs := obL_eq (HandSHeadRun.getT_eq s)
noncomputable def whl (w : World) := HandSHeadRun.wholeF (fun p => HandSHeadRun.stepQ (HandSHeadRun.denQ HandSHeadRun.tabQ) p w) HandSHeadRun.fenceQ 20000 R.prog
theorem map2 {α β γ : Type} {o : Option α} {f : α → β} {g : α → γ} {a : β} {b : γ} (h1 : o.map f = some a) (h2 : o.map g = some b) : o.map (fun x => (f x, g x)) = some (a, b) := by
  cases o with
  | none => cases h1
  | some x =>
    have e1 : f x = a := Option.some.inj h1
    have e2 : g x = b := Option.some.inj h2
    show some (f x, g x) = some (a, b)
    rw [e1, e2]
open HandSHeadRun PySem.W PySem.Calls PyProof.Rows in
theorem run1a (w : World) : (whl w).map (fun x => looksF R.prog x.1.heap x.2.abs) = some true := by
  kernel_rfl
open HandSHeadRun PySem.W PySem.Calls PyProof.Rows in
theorem run1b (w : World) : (whl w).map (fun x => seenQ (PySem.W.view R.prog [122]) loose (importedModules R.prog.main.body) (fun s => PySem.W.xlAt (PySem.W.view R.prog [122]) [] s && PySem.W.recOk R.toRowW.records s) x.2.abs) = some (PySem.W.openGood (PySem.W.view R.prog [122]) loose) := by
  kernel_rfl
open HandSHeadRun PySem.W PySem.Calls PyProof.Rows in
theorem run1 (w : World) : (whl w).map (fun x => (looksF R.prog x.1.heap x.2.abs, seenQ (PySem.W.view R.prog [122]) loose (importedModules R.prog.main.body) (fun s => PySem.W.xlAt (PySem.W.view R.prog [122]) [] s && PySem.W.recOk R.toRowW.records s) x.2.abs)) = some (true, PySem.W.openGood (PySem.W.view R.prog [122]) loose) := map2 (run1a w) (run1b w)
theorem run2 (w : World) : (whl w).map (fun x => N78.tb.ck (He.frG (HandSHeadRun.getT x.2) as)) = some true := by
  kernel_rfl
theorem run3a (w : World) : (whl w).map (fun x => (N78.fns.take 54).all fun d => He.DefD.ok (He.frG (HandSHeadRun.getT x.2) as) d) = some true := by
  kernel_rfl
theorem run3b (w : World) : (whl w).map (fun x => (N78.fns.drop 54).all fun d => He.DefD.ok (He.frG (HandSHeadRun.getT x.2) as) d) = some true := by
  kernel_rfl
theorem all_halves {β : Type} (l : List β) (n : Nat) (p : β → Bool) (h1 : (l.take n).all p = true) (h2 : (l.drop n).all p = true) : l.all p = true := by
  rw [← List.take_append_drop n l, List.all_append, h1, h2]
  rfl
theorem run3 (w : World) : (whl w).map (fun x => N78.fns.all fun d => He.DefD.ok (He.frG (HandSHeadRun.getT x.2) as) d) = some true := by
  have h1 := run3a w
  have h2 := run3b w
  generalize whl w = o at h1 h2 ⊢
  cases o with
  | none => cases h1
  | some x => exact congrArg some (all_halves N78.fns 54 _ (Option.some.inj h1) (Option.some.inj h2))
theorem run4 (w : World) : (whl w).map (fun x => List.map (fun d => He.fnW (He.frG (HandSHeadRun.getT x.2) as) (He.DefD.at_ d)) N78.fns) = some (List.map He.DefD.val N78.fns) := by
  kernel_rfl
theorem obsD_eq {fn : List He.DefD} {K : PySem.W.Frag} {b : Bool} {c : List He.FnW} (h1 : (fn.all fun d => He.DefD.ok K d) = b) (h2 : List.map (fun d => He.fnW K (He.DefD.at_ d)) fn = c) : He.obsD [] fn K = (b, c) := by
  subst h1 h2
  rfl
theorem map34 {α : Type} {o : Option α} {fn : List He.DefD} {F : α → PySem.W.Frag} {b : Bool} {c : List He.FnW} (h1 : o.map (fun x => fn.all fun d => He.DefD.ok (F x) d) = some b) (h2 : o.map (fun x => List.map (fun d => He.fnW (F x) (He.DefD.at_ d)) fn) = some c) : o.map (fun x => He.obsD [] fn (F x)) = some (b, c) := by
  cases o with
  | none => cases h1
  | some x => exact congrArg some (obsD_eq (Option.some.inj h1) (Option.some.inj h2))
theorem run5 (w : World) : (whl w).map (fun x => ob x.2) = some (hk.val w) := map2 (run2 w) (map34 (run3 w) (run4 w))
theorem both3 {α β γ δ : Type} {o : Option α} {f : α → β} {g : α → γ} {k : α → δ} {a : β} {b : γ} {c : δ} (h1 : o.map (fun x => (f x, g x)) = some (a, b)) (h2 : o.map k = some c) : o.map (fun x => (f x, g x, k x)) = some (a, b, c) := by
  cases o with
  | none => cases h1
  | some x =>
    have e1 : (f x, g x) = (a, b) := Option.some.inj h1
    have e2 : k x = c := Option.some.inj h2
    show some (f x, g x, k x) = some (a, b, c)
    rw [(Prod.mk.inj e1).1, (Prod.mk.inj e1).2, e2]
theorem run (w : World) : HandSHeadRun.RunEqI R (PySem.W.view R.prog [122]) hk ob 20000 loose w := by
  unfold HandSHeadRun.RunEqI
  exact both3 (run1 w) (run5 w)
end X78
namespace N78
open PySem PySem.Spec PyProof.Rows L2 Fw Pd
section
variable {P : Program} {w : World} {K : PySem.W.Frag} {mg : Str → Option Value} {base : Heap}
theorem sc__law_mixed : FnScope ["_law_number", "_law_turn", "_law_once", "_law_twice"] ["_law_number", "_law_turn"] (defScope (top 102)) := ⟨rfl, rfl, rfl, by decide +kernel, rfl, by decide +kernel, by decide +kernel⟩
theorem cal__law_mixed (T : Fs tb K mg) : Cal P w ⟨K, mg, none⟩ base false 1 (He.ga K "_law_mixed") 2 F__law_mixed [] := by
  obtain ⟨fd, D⟩ : ∃ fd, FunD K "_law_mixed" "_law_mixed" (defArgs (top 102)) (defBody (top 102)) (defScope (top 102)) [] [] (He.ga K "_law_mixed") fd := T.says.def_ 1 rfl
  exact cal_of D (ok_def (N := ["_law_number", "_law_turn", "_law_once", "_law_twice"]) (ps := ["_law_number", "_law_turn"]) (k := 0) (c := ⟨K, mg, none⟩) D sc__law_mixed (fun cdv A outer s H E hr => (ds_cons (sS 2 sc__law_mixed.nd (dx_op op_modN d_mod (dx_ty call_int1 k_int (by rfl) (T.fr 4 "int" rfl) PyProof.Rows.boot_int (da_cons (dx_op op_add d_add (dx_op op_add d_add (dx_op op_mulW d_mul (xv 0) dx_i) (dx_op op_mulW d_mul (xv 1) dx_i)) dx_i) da_nil)) dx_i))
      (ds_cons (sS 3 sc__law_mixed.nd (dx_op op_modN d_mod (dx_ty call_int1 k_int (by rfl) (T.fr 4 "int" rfl) PyProof.Rows.boot_int (da_cons (dx_op op_add d_add (dx_op op_add d_add (dx_op op_mulW d_mul (xv 2) (xv 2)) (dx_op op_mulW d_mul (xv 1) dx_i)) (dx_op op_fdivG d_div (xv 2) dx_i)) da_nil)) dx_i))
      (ds_one (ds_ret (dx_op op_fdivG d_div (dx_ty call_int1 k_int (by rfl) (T.fr 4 "int" rfl) PyProof.Rows.boot_int (da_cons (dx_op op_modN d_mod (dx_ty call_int1 k_int (by rfl) (T.fr 4 "int" rfl) PyProof.Rows.boot_int (da_cons (dx_op op_add d_add (dx_op op_mulW d_mul (xv 3) dx_i) (dx_op op_fdivG d_div (xv 2) dx_i)) da_nil)) dx_i) da_nil)) dx_i))))))) (FunD.bindsN D (fun _ _ _ _ _ _ us hl => match us, hl with | [_, _], _ => rfl))
theorem sc__law_take : FnScope ["_law_hand_here", "_law_many", "_law_cell", "_law_rest"] ["_law_hand_here", "_law_many"] (defScope (top 103)) := ⟨rfl, rfl, rfl, by decide +kernel, rfl, by decide +kernel, by decide +kernel⟩
theorem cal__law_take (T : Fs tb K mg) : Cal P w ⟨K, mg, none⟩ base false 2 (He.ga K "_law_take") 2 F__law_take [] := by
  obtain ⟨fd, D⟩ : ∃ fd, FunD K "_law_take" "_law_take" (defArgs (top 103)) (defBody (top 103)) (defScope (top 103)) [] [] (He.ga K "_law_take") fd := T.says.def_ 2 rfl
  exact cal_of D (ok_def (N := ["_law_hand_here", "_law_many", "_law_cell", "_law_rest"]) (ps := ["_law_hand_here", "_law_many"]) (k := 1) (c := ⟨K, mg, none⟩) D sc__law_take (fun cdv A outer s H E hr => (ds_cons (ds_if (PW.pt (dw_and (dt_cmp (c_eqD hr.units rfl) d_eq (dx_ixM (xM 0) dx_i) dx_i) (dw_and1 (dt_cmp op_lt d_lt (dx_ixM (xM 0) dx_i) (dx_bi (c_len rfl) k_len (by rfl) (T.fr 6 "len" rfl) PySem.boot_len (da_cons (dx_ixM (xM 0) dx_i) da_nil)))))) (ds_cons (sS 2 sc__law_take.nd (dx_ix (dx_ixM (xM 0) dx_i) (dx_ixM (xM 0) dx_i)))
      (ds_cons (ds_stM (dx_op op_add d_add (dx_ixM (xM 0) dx_i) dx_i) (xM 0) dx_i)
      (ds_cons (ds_if (dt_cmp op_lt d_lt (xv 2) (dx_op op_pow d_pow dx_i dx_i)) (ds_one (ds_ret (dx_op op_modN d_mod (dx_ty call_int1 k_int (by rfl) (T.fr 4 "int" rfl) PyProof.Rows.boot_int (da_cons (cc_call (cal__law_mixed T) (hr.mono (by decide)) (T.gl 72 "_law_mixed" rfl) (fun σ => passAt (takes_of rfl rfl rfl rfl) σ) (dg_cons (dx_op op_modN d_mod (dx_ty call_int1 k_int (by rfl) (T.fr 4 "int" rfl) PyProof.Rows.boot_int (da_cons (xv 2) da_nil)) dx_i) (dg_cons (dx_ixM (xM 0) dx_i) dg_nil))) da_nil)) (xv 1)))) ds_nil)
      (ds_one (ds_stM (xv 2) (xM 0) dx_i))))) ds_nil)
      (ds_cons (ds_if (dt_cmp op_gt d_gt (dx_ixM (xM 0) dx_i) dx_i) (ds_cons (sS 3 sc__law_take.nd (dx_ixM (xM 0) dx_i))
      (ds_cons (ds_stM (dx_op op_fdivG d_div (dx_ty call_int1 k_int (by rfl) (T.fr 4 "int" rfl) PyProof.Rows.boot_int (da_cons (xv 3) da_nil)) (xv 1)) (xM 0) dx_i)
      (ds_one (ds_ret (dx_op op_modN d_mod (dx_ty call_int1 k_int (by rfl) (T.fr 4 "int" rfl) PyProof.Rows.boot_int (da_cons (xv 3) da_nil)) (xv 1)))))) ds_nil)
      (ds_cons (ds_stM (dx_op op_modN d_mod (dx_ty call_int1 k_int (by rfl) (T.fr 4 "int" rfl) PyProof.Rows.boot_int (da_cons (dx_op op_add d_add (dx_ixM (xM 0) dx_i) dx_i) da_nil)) dx_i) (xM 0) dx_i)
      (ds_one (ds_ret (dx_op op_modN d_mod (dx_ty call_int1 k_int (by rfl) (T.fr 4 "int" rfl) PyProof.Rows.boot_int (da_cons (cc_call (cal__law_mixed T) (hr.mono (by decide)) (T.gl 72 "_law_mixed" rfl) (fun σ => passAt (takes_of rfl rfl rfl rfl) σ) (dg_cons (dx_ixM (xM 0) dx_i) (dg_cons (dx_ixM (xM 0) dx_i) dg_nil))) da_nil)) (xv 1))))))))) (FunD.bindsN D (fun _ _ _ _ _ _ us hl => match us, hl with | [_, _], _ => rfl))
theorem sc__law_pick : FnScope ["_law_hand_here", "_law_things"] ["_law_hand_here", "_law_things"] (defScope (top 89)) := ⟨rfl, rfl, rfl, by decide +kernel, rfl, by decide +kernel, by decide +kernel⟩
theorem cal__law_pick (T : Fs tb K mg) : Cal P w ⟨K, mg, none⟩ base false 3 (He.ga K "_law_pick") 2 F__law_pick [] := by
  obtain ⟨fd, D⟩ : ∃ fd, FunD K "_law_pick" "_law_pick" (defArgs (top 89)) (defBody (top 89)) (defScope (top 89)) [] [] (He.ga K "_law_pick") fd := T.says.def_ 3 rfl
  exact cal_of D (ok_def (N := ["_law_hand_here", "_law_things"]) (ps := ["_law_hand_here", "_law_things"]) (k := 2) (c := ⟨K, mg, none⟩) D sc__law_pick (fun cdv A outer s H E hr => (ds_one (ds_ret (dx_ix (xv 1) (cc_call (cal__law_take T) (hr.mono (by decide)) (T.gl 73 "_law_take" rfl) (fun σ => passAt (takes_of rfl rfl rfl rfl) σ) (xG 0 (dg_cons (dx_bi (c_len rfl) k_len (by rfl) (T.fr 6 "len" rfl) PySem.boot_len (da_cons (xv 1) da_nil)) dg_nil)))))))) (FunD.bindsN D (fun _ _ _ _ _ _ us hl => match us, hl with | [_, _], _ => rfl))
theorem sc_is_sequence : FnScope ["thing"] ["thing"] (defScope (top 13)) := ⟨rfl, rfl, rfl, by decide +kernel, rfl, by decide +kernel, by decide +kernel⟩
theorem cal_is_sequence (T : Fs tb K mg) : Cal P w ⟨K, mg, none⟩ base false 1 (He.ga K "is_sequence") 1 F_is_sequence [] := by
  obtain ⟨fd, D⟩ : ∃ fd, FunD K "is_sequence" "is_sequence" (defArgs (top 13)) (defBody (top 13)) (defScope (top 13)) [] [] (He.ga K "is_sequence") fd := T.says.def_ 4 rfl
  exact cal_of D (ok_def (N := ["thing"]) (ps := ["thing"]) (k := 0) (c := ⟨K, mg, none⟩) D sc_is_sequence (fun cdv A outer s H E hr => (ds_one (ds_ret (dx_is2 T.gt (by decide) (by decide) (by rfl) (T.fr 5 "isinstance" rfl) (xv 0) (pe_bltn (v := .ty "list") (by rfl) (T.fr 7 "list" rfl) (by decide +kernel) rfl) (pe_bltn (v := .ty "tuple") (by rfl) (T.fr 12 "tuple" rfl) (by decide +kernel) rfl)))))) (FunD.bindsN D (fun _ _ _ _ _ _ us hl => match us, hl with | [_], _ => rfl))
theorem sc_is_whole : FnScope ["thing", "low", "high"] ["thing", "low", "high"] (defScope (top 12)) := ⟨rfl, rfl, rfl, by decide +kernel, rfl, by decide +kernel, by decide +kernel⟩
theorem fok_is_whole {fd : FuncData} (T : Fs tb K mg) (D : FunD K "is_whole" "is_whole" (defArgs (top 12)) (defBody (top 12)) (defScope (top 12)) [.non, .non] [] (He.ga K "is_whole") fd) : FnOk P w K mg base (L2.CX P w) 1 (He.ga K "is_whole") fd ["thing", "low", "high"] (spD ⟨K, mg, none⟩ false 3 F_is_whole) :=
  (ok_def (N := ["thing", "low", "high"]) (ps := ["thing", "low", "high"]) (k := 0) (c := ⟨K, mg, none⟩) D sc_is_whole (fun cdv A outer s H E hr => (ds_cons (ds_if (PW.pt (dw_or (dt_not (dt_tru rfl (dx_is T.gt (by decide) (by rfl) (T.fr 5 "isinstance" rfl) (xv 0) (pe_bltn (v := .ty "int") (by rfl) (T.fr 4 "int" rfl) (by decide +kernel) rfl)))) (dw_or1 (dt_tru rfl (dx_is T.gt (by decide) (by rfl) (T.fr 5 "isinstance" rfl) (xv 0) (pe_bltn (v := .ty "bool") (by rfl) (T.fr 2 "bool" rfl) (by decide +kernel) rfl)))))) (ds_one (ds_ret dx_b)) ds_nil)
      (ds_one (ds_ret (dx_and (dx_or (dx_cmp op_isN d_isN (xv 1) dx_n) (dx_one (dx_cmp op_ge d_ge (xv 0) (xv 1)))) (dx_one (dx_or (dx_cmp op_isN d_isN (xv 2) dx_n) (dx_one (dx_cmp op_le d_le (xv 0) (xv 2)))))))))))
theorem cal_is_whole_0 (T : Fs tb K mg) : Cal P w ⟨K, mg, none⟩ base false 1 (He.ga K "is_whole") 3 F_is_whole [] := by
  obtain ⟨fd, D⟩ : ∃ fd, FunD K "is_whole" "is_whole" (defArgs (top 12)) (defBody (top 12)) (defScope (top 12)) [.non, .non] [] (He.ga K "is_whole") fd := T.says.def_ 5 rfl
  exact cal_of1 D (fok_is_whole T D) (FunD.binds1 D 3 2 (by simp) rfl fun T kV doc pm an cdv ct us its h1 h2 => by
    match us, its, h1, h2 with
    | [_, _, _], [_, _], _, _ => exact ⟨_, rfl, by first | rfl | kernel_rfl⟩) fun _ _ => .nil
theorem cal_is_whole_1 (T : Fs tb K mg) : Cal P w ⟨K, mg, none⟩ base false 1 (He.ga K "is_whole") 3 F_is_whole [.non] := by
  obtain ⟨fd, D⟩ : ∃ fd, FunD K "is_whole" "is_whole" (defArgs (top 12)) (defBody (top 12)) (defScope (top 12)) [.non, .non] [] (He.ga K "is_whole") fd := T.says.def_ 5 rfl
  exact cal_of1 D (fok_is_whole T D) (FunD.binds1 D 2 1 (by simp) rfl fun T kV doc pm an cdv ct us its h1 h2 => by
    match us, its, h1, h2 with
    | [_, _], [_, _], _, _ => exact ⟨_, rfl, by first | rfl | kernel_rfl⟩) fun _ _ => (.cons .non .nil)
theorem cal_is_whole_2 (T : Fs tb K mg) : Cal P w ⟨K, mg, none⟩ base false 1 (He.ga K "is_whole") 3 F_is_whole [.non, .non] := by
  obtain ⟨fd, D⟩ : ∃ fd, FunD K "is_whole" "is_whole" (defArgs (top 12)) (defBody (top 12)) (defScope (top 12)) [.non, .non] [] (He.ga K "is_whole") fd := T.says.def_ 5 rfl
  exact cal_of1 D (fok_is_whole T D) (FunD.binds1 D 1 0 (by simp) rfl fun T kV doc pm an cdv ct us its h1 h2 => by
    match us, its, h1, h2 with
    | [_], [_, _], _, _ => exact ⟨_, rfl, by first | rfl | kernel_rfl⟩) fun _ _ => (.cons .non (.cons .non .nil))
theorem sc_is_ratio : FnScope ["thing", "top", "bottom"] ["thing"] (defScope (top 14)) := ⟨rfl, rfl, rfl, by decide +kernel, rfl, by decide +kernel, by decide +kernel⟩
theorem cal_is_ratio (T : Fs tb K mg) : Cal P w ⟨K, mg, none⟩ base false 2 (He.ga K "is_ratio") 1 F_is_ratio [] := by
  obtain ⟨fd, D⟩ : ∃ fd, FunD K "is_ratio" "is_ratio" (defArgs (top 14)) (defBody (top 14)) (defScope (top 14)) [] [] (He.ga K "is_ratio") fd := T.says.def_ 6 rfl
  exact cal_of D (ok_def (N := ["thing", "top", "bottom"]) (ps := ["thing"]) (k := 1) (c := ⟨K, mg, none⟩) D sc_is_ratio (fun cdv A outer s H E hr => (ds_cons (ds_if (PW.pt (dw_or (dt_not (dt_tru rfl (dx_is T.gt (by decide) (by rfl) (T.fr 5 "isinstance" rfl) (xv 0) (pe_bltn (v := .ty "tuple") (by rfl) (T.fr 12 "tuple" rfl) (by decide +kernel) rfl)))) (dw_or1 (dt_cmp (c_neD hr.units rfl) d_ne (dx_bi (c_len rfl) k_len (by rfl) (T.fr 6 "len" rfl) PySem.boot_len (da_cons (xv 0) da_nil)) dx_i)))) (ds_one (ds_ret dx_b)) ds_nil)
      (ds_cons (ds_asg (vs := [1, 2]) (gg := (gTup K 2 (gCons (gName 1) (gCons (gName 2) gNil)))) (bind := (bTp [(bNm 1), (bNm 2)])) (bd_tp rfl (ba_cons (bd_nm (by decide)) (ba_cons (bd_nm (by decide)) ba_nil))) (xv 0) (pg_tup rfl (pgs_cons (gN 1 sc_is_ratio.nd) (pgs_cons (gN 2 sc_is_ratio.nd) pgs_nil))))
      (ds_one (ds_ret (dx_and (cc_call (cal_is_whole_2 T) (hr.mono (by decide)) (T.gl 0 "is_whole" rfl) (fun σ => passAt (takes_of rfl rfl rfl rfl) σ) (xG 1 dg_nil)) (dx_and (cc_call (cal_is_whole_1 T) (hr.mono (by decide)) (T.gl 0 "is_whole" rfl) (fun σ => passAt (takes_of rfl rfl rfl rfl) σ) (xG 2 (dg_cons dx_i dg_nil))) (dx_one (dx_cmp (c_eqD hr.units rfl) d_eq (dx_fun cr_gcd k_gcd (by rfl) T.gcd (da_cons (xv 1) (da_cons (xv 2) da_nil))) dx_i)))))))))) (FunD.bindsN D (fun _ _ _ _ _ _ us hl => match us, hl with | [_], _ => rfl))
theorem sc_Figures_is_number : FnScope ["self", "thing"] ["self", "thing"] (defScope (inClass (top 67) 10)) := ⟨rfl, rfl, rfl, by decide +kernel, rfl, by decide +kernel, by decide +kernel⟩
theorem cal_Figures_is_number (T : Fs tb K mg) : Cal P w ⟨K, mg, none⟩ base false 3 (He.ma K (He.ga K "Figures") "is_number") 2 F_Figures_is_number [] := by
  obtain ⟨fd, D⟩ : ∃ fd, FunD K "is_number" "Figures.is_number" (defArgs (inClass (top 67) 10)) (defBody (inClass (top 67) 10)) (defScope (inClass (top 67) 10)) [] [] (He.ma K (He.ga K "Figures") "is_number") fd := T.says.def_ 7 rfl
  exact cal_of D (ok_def (N := ["self", "thing"]) (ps := ["self", "thing"]) (k := 2) (c := ⟨K, mg, none⟩) D sc_Figures_is_number (fun cdv A outer s H E hr => (ds_cons (ds_if (dt_cmp (c_eqD hr.units rfl) d_eq (xA 0) dx_i) (ds_one (ds_ret (cc_call (cal_is_ratio T) (hr.mono (by decide)) (T.gl 2 "is_ratio" rfl) (fun σ => passAt (takes_of rfl rfl rfl rfl) σ) (xG 1 dg_nil)))) ds_nil)
      (ds_one (ds_ret (cc_call (cal_is_whole_0 T) (hr.mono (by decide)) (T.gl 0 "is_whole" rfl) (fun σ => passAt (takes_of rfl rfl rfl rfl) σ) (xG 1 (dg_cons dx_i (dg_cons (dx_op op_sub d_sub (xA 0) dx_i) dg_nil))))))))) (FunD.bindsN D (fun _ _ _ _ _ _ us hl => match us, hl with | [_, _], _ => rfl))
theorem sc_check_poly : FnScope ["figures", "poly", "index", "number"] ["figures", "poly"] (defScope (top 46)) := ⟨rfl, rfl, rfl, by decide +kernel, rfl, by decide +kernel, by decide +kernel⟩
theorem cal_check_poly (T : Fs tb K mg) : Cal P w ⟨K, mg, none⟩ base false 4 (He.ga K "check_poly") 2 F_check_poly [] := by
  obtain ⟨fd, D⟩ : ∃ fd, FunD K "check_poly" "check_poly" (defArgs (top 46)) (defBody (top 46)) (defScope (top 46)) [] [] (He.ga K "check_poly") fd := T.says.def_ 8 rfl
  exact cal_of D (ok_def (N := ["figures", "poly", "index", "number"]) (ps := ["figures", "poly"]) (k := 3) (c := ⟨K, mg, none⟩) D sc_check_poly (fun cdv A outer s H E hr => (ds_cons (ds_if (PW.pt (dw_or (dt_not (dt_tru rfl (cc_call (cal_is_sequence T) (hr.mono (by decide)) (T.gl 1 "is_sequence" rfl) (fun σ => passAt (takes_of rfl rfl rfl rfl) σ) (xG 1 dg_nil)))) (dw_or1 (dt_cmp op_gt d_gt (dx_bi (c_len rfl) k_len (by rfl) (T.fr 6 "len" rfl) PySem.boot_len (da_cons (xv 1) da_nil)) (xgI (T.int 0 _ rfl)))))) (ds_one (xr2 (er_BadPoly T) (takes_of rfl rfl rfl rfl) (hr.mono (by decide)) (da_cons dx_i (da_cons dx_s da_nil)))) ds_nil)
      (ds_cons (ds_for (vs := [2, 3]) (gg := (gTup K 2 (gCons (gName 2) (gCons (gName 3) gNil)))) (bind := (bTp [(bNm 2), (bNm 3)])) (passes_of rfl) rfl (bd_tp rfl (ba_cons (bd_nm (by decide)) (ba_cons (bd_nm (by decide)) ba_nil))) (di_enum (by rfl) (T.fr 3 "enumerate" rfl) (da_cons (xv 1) da_nil)) (pg_tup rfl (pgs_cons (gN 2 sc_check_poly.nd) (pgs_cons (gN 3 sc_check_poly.nd) pgs_nil))) (ds_one (ds_if (dt_not (dt_tru rfl (cc_meth (T.gl 103 "Figures" rfl) (xv 0) (T.cls 0 _ rfl).1.cl (T.meth 0 _ rfl "is_number" (by decide)) (cal_Figures_is_number T) (hr.mono (by decide)) (fun σ => passAt (takes_of rfl rfl rfl rfl) σ) (xG 3 dg_nil)))) (ds_one (xr2 (er_BadPoly T) (takes_of rfl rfl rfl rfl) (hr.mono (by decide)) (da_cons (xv 2) (da_cons dx_s da_nil)))) ds_nil)))
      (ds_cons (ds_if (PW.pt (dw_and (dt_cmp op_gt d_gt (dx_bi (c_len rfl) k_len (by rfl) (T.fr 6 "len" rfl) PySem.boot_len (da_cons (xv 1) da_nil)) dx_i) (dw_and1 (dt_cmp (c_eqD hr.units rfl) d_eq (dx_ix (xv 1) (dx_neg dx_i)) (xA 0))))) (ds_one (xr2 (er_BadPoly T) (takes_of rfl rfl rfl rfl) (hr.mono (by decide)) (da_cons (dx_op op_sub d_sub (dx_bi (c_len rfl) k_len (by rfl) (T.fr 6 "len" rfl) PySem.boot_len (da_cons (xv 1) da_nil)) dx_i) (da_cons dx_s da_nil)))) ds_nil)
      (ds_one (ds_ret (dx_ty (c_tup rfl) k_tup (by rfl) (T.fr 12 "tuple" rfl) PyProof.Rows.boot_tuple (da_cons (xv 1) da_nil))))))))) (FunD.bindsN D (fun _ _ _ _ _ _ us hl => match us, hl with | [_, _], _ => rfl))
theorem sc_check_led_poly : FnScope ["figures", "poly", "low", "high", "checked", "degree"] ["figures", "poly", "low", "high"] (defScope (top 47)) := ⟨rfl, rfl, rfl, by decide +kernel, rfl, by decide +kernel, by decide +kernel⟩
theorem cal_check_led_poly (T : Fs tb K mg) : Cal P w ⟨K, mg, none⟩ base false 5 (He.ga K "check_led_poly") 4 F_check_led_poly [] := by
  obtain ⟨fd, D⟩ : ∃ fd, FunD K "check_led_poly" "check_led_poly" (defArgs (top 47)) (defBody (top 47)) (defScope (top 47)) [] [] (He.ga K "check_led_poly") fd := T.says.def_ 9 rfl
  exact cal_of D (ok_def (N := ["figures", "poly", "low", "high", "checked", "degree"]) (ps := ["figures", "poly", "low", "high"]) (k := 4) (c := ⟨K, mg, none⟩) D sc_check_led_poly (fun cdv A outer s H E hr => (ds_cons (sS 4 sc_check_led_poly.nd (cc_call (cal_check_poly T) (hr.mono (by decide)) (T.gl 27 "check_poly" rfl) (fun σ => passAt (takes_of rfl rfl rfl rfl) σ) (xG 0 (xG 1 dg_nil))))
      (ds_cons (sS 5 sc_check_led_poly.nd (dx_op op_sub d_sub (dx_bi (c_len rfl) k_len (by rfl) (T.fr 6 "len" rfl) PySem.boot_len (da_cons (xv 4) da_nil)) dx_i))
      (ds_cons (ds_if (PW.pt (dw_or (dt_cmp op_lt d_lt (xv 5) (xv 2)) (dw_or1 (dt_cmp op_gt d_gt (xv 5) (xv 3))))) (ds_one (xr2 (er_BadPoly T) (takes_of rfl rfl rfl rfl) (hr.mono (by decide)) (da_cons dx_i (da_cons dx_s da_nil)))) ds_nil)
      (ds_cons (ds_if (dt_cmp op_lt d_lt (xv 5) dx_i) (ds_one (xr2 (er_BadPoly T) (takes_of rfl rfl rfl rfl) (hr.mono (by decide)) (da_cons dx_i (da_cons dx_s da_nil)))) ds_nil)
      (ds_cons (ds_if (dt_cmp (c_neD hr.units rfl) d_ne (dx_ix (xv 4) (dx_neg dx_i)) (xA 0)) (ds_one (xr2 (er_BadPoly T) (takes_of rfl rfl rfl rfl) (hr.mono (by decide)) (da_cons (xv 5) (da_cons dx_s da_nil)))) ds_nil)
      (ds_one (ds_ret (xv 4)))))))))) (FunD.bindsN D (fun _ _ _ _ _ _ us hl => match us, hl with | [_, _, _, _], _ => rfl))
theorem sc_Figures___init__ : FnScope ["self", "prime"] ["self", "prime"] (defScope (inClass (top 67) 0)) := ⟨rfl, rfl, rfl, by decide +kernel, rfl, by decide +kernel, by decide +kernel⟩
theorem cal_Figures___init__ (T : Fs tb K mg) : Cal P w ⟨K, mg, none⟩ base false 3 (He.ma K (He.ga K "Figures") "__init__") 2 F_Figures___init__ [] := by
  obtain ⟨fd, D⟩ : ∃ fd, FunD K "__init__" "Figures.__init__" (defArgs (inClass (top 67) 0)) (defBody (inClass (top 67) 0)) (defScope (inClass (top 67) 0)) [] [] (He.ma K (He.ga K "Figures") "__init__") fd := T.says.def_ 10 rfl
  exact cal_of D (ok_def (N := ["self", "prime"]) (ps := ["self", "prime"]) (k := 2) (c := ⟨K, mg, none⟩) D sc_Figures___init__ (fun cdv A outer s H E hr => (ds_cons (ds_if (PW.pt (dw_or (dt_not (dt_tru rfl (cc_call (cal_is_whole_2 T) (hr.mono (by decide)) (T.gl 0 "is_whole" rfl) (fun σ => passAt (takes_of rfl rfl rfl rfl) σ) (xG 1 dg_nil)))) (dw_or1 (dt_cmp (c_ninP hr.units65 rfl) d_ninP (xv 1) (xgT (tupOk_OFFERED T)))))) (ds_one (xr1 (er_BadFigures T) (takes_of rfl rfl rfl rfl) (hr.mono (by decide)) (da_cons (xv 1) da_nil))) ds_nil)
      (ds_cons (ds_at (fun C e => noat_of T 0 rfl (T.gl 103 "Figures" rfl) (by decide) e) (xM 0) (xv 1))
      (ds_cons (ds_at (fun C e => noat_of T 0 rfl (T.gl 103 "Figures" rfl) (by decide) e) (xM 0) (dx_if (dt_cmp (c_eqD hr.units rfl) d_eq (xv 1) dx_i) (dx_tup (da_cons dx_i (da_cons dx_i da_nil))) dx_i))
      (ds_one (ds_at (fun C e => noat_of T 0 rfl (T.gl 103 "Figures" rfl) (by decide) e) (xM 0) (dx_if (dt_cmp (c_eqD hr.units rfl) d_eq (xv 1) dx_i) (dx_tup (da_cons dx_i (da_cons dx_i da_nil))) dx_i)))))))) (FunD.bindsN D (fun _ _ _ _ _ _ us hl => match us, hl with | [_, _], _ => rfl))
theorem sc_check_fraction_poly : FnScope ["poly"] ["poly"] (defScope (top 73)) := ⟨rfl, rfl, rfl, by decide +kernel, rfl, by decide +kernel, by decide +kernel⟩
theorem cal_check_fraction_poly (T : Fs tb K mg) : Cal P w ⟨K, mg, none⟩ base false 6 (He.ga K "check_fraction_poly") 1 F_check_fraction_poly [] := by
  obtain ⟨fd, D⟩ : ∃ fd, FunD K "check_fraction_poly" "check_fraction_poly" (defArgs (top 73)) (defBody (top 73)) (defScope (top 73)) [] [] (He.ga K "check_fraction_poly") fd := T.says.def_ 11 rfl
  exact cal_of D (ok_def (N := ["poly"]) (ps := ["poly"]) (k := 5) (c := ⟨K, mg, none⟩) D sc_check_fraction_poly (fun cdv A outer s H E hr => (ds_one (ds_ret (cc_call (cal_check_led_poly T) (hr.mono (by decide)) (T.gl 28 "check_led_poly" rfl) (fun σ => passAt (takes_of rfl rfl rfl rfl) σ) (dg_cons (cc_make (T.gl 103 "Figures" rfl) (T.cls 0 _ rfl).1 (T.cls 0 _ rfl).2 (cal_Figures___init__ T) (hr.mono (by decide)) (fun σ => passAt (takes_of rfl rfl rfl rfl) σ) (da_cons dx_i da_nil)) (xG 0 (dg_cons dx_i (dg_cons (xgI (T.int 1 _ rfl)) dg_nil))))))))) (FunD.bindsN D (fun _ _ _ _ _ _ us hl => match us, hl with | [_], _ => rfl))
theorem sc_is_offered_prime : FnScope ["thing"] ["thing"] (defScope (top 70)) := ⟨rfl, rfl, rfl, by decide +kernel, rfl, by decide +kernel, by decide +kernel⟩
theorem cal_is_offered_prime (T : Fs tb K mg) : Cal P w ⟨K, mg, none⟩ base false 2 (He.ga K "is_offered_prime") 1 F_is_offered_prime [] := by
  obtain ⟨fd, D⟩ : ∃ fd, FunD K "is_offered_prime" "is_offered_prime" (defArgs (top 70)) (defBody (top 70)) (defScope (top 70)) [] [] (He.ga K "is_offered_prime") fd := T.says.def_ 12 rfl
  exact cal_of D (ok_def (N := ["thing"]) (ps := ["thing"]) (k := 1) (c := ⟨K, mg, none⟩) D sc_is_offered_prime (fun cdv A outer s H E hr => (ds_one (ds_ret (dx_and (cc_call (cal_is_whole_2 T) (hr.mono (by decide)) (T.gl 0 "is_whole" rfl) (fun σ => passAt (takes_of rfl rfl rfl rfl) σ) (xG 0 dg_nil)) (dx_one (dx_cmp (c_inP hr.units65 rfl) d_inP (xv 0) (xgT (tupOk_PRIMES T))))))))) (FunD.bindsN D (fun _ _ _ _ _ _ us hl => match us, hl with | [_], _ => rfl))
theorem sc_check_prime : FnScope ["prime"] ["prime"] (defScope (top 71)) := ⟨rfl, rfl, rfl, by decide +kernel, rfl, by decide +kernel, by decide +kernel⟩
theorem cal_check_prime (T : Fs tb K mg) : Cal P w ⟨K, mg, none⟩ base false 3 (He.ga K "check_prime") 1 F_check_prime [] := by
  obtain ⟨fd, D⟩ : ∃ fd, FunD K "check_prime" "check_prime" (defArgs (top 71)) (defBody (top 71)) (defScope (top 71)) [] [] (He.ga K "check_prime") fd := T.says.def_ 13 rfl
  exact cal_of D (ok_def (N := ["prime"]) (ps := ["prime"]) (k := 2) (c := ⟨K, mg, none⟩) D sc_check_prime (fun cdv A outer s H E hr => (ds_one (ds_if (dt_not (dt_tru rfl (cc_call (cal_is_offered_prime T) (hr.mono (by decide)) (T.gl 44 "is_offered_prime" rfl) (fun σ => passAt (takes_of rfl rfl rfl rfl) σ) (xG 0 dg_nil)))) (ds_one (xr1 (er_BadPrime T) (takes_of rfl rfl rfl rfl) (hr.mono (by decide)) (da_cons dx_i da_nil))) ds_nil)))) (FunD.bindsN D (fun _ _ _ _ _ _ us hl => match us, hl with | [_], _ => rfl))
theorem sc_check_not_zero : FnScope ["figures", "poly"] ["figures", "poly"] (defScope (top 61)) := ⟨rfl, rfl, rfl, by decide +kernel, rfl, by decide +kernel, by decide +kernel⟩
theorem cal_check_not_zero (T : Fs tb K mg) : Cal P w ⟨K, mg, none⟩ base false 5 (He.ga K "check_not_zero") 2 F_check_not_zero [] := by
  obtain ⟨fd, D⟩ : ∃ fd, FunD K "check_not_zero" "check_not_zero" (defArgs (top 61)) (defBody (top 61)) (defScope (top 61)) [] [] (He.ga K "check_not_zero") fd := T.says.def_ 14 rfl
  exact cal_of D (ok_def (N := ["figures", "poly"]) (ps := ["figures", "poly"]) (k := 4) (c := ⟨K, mg, none⟩) D sc_check_not_zero (fun cdv A outer s H E hr => (ds_cons (sS 1 sc_check_not_zero.nd (cc_call (cal_check_poly T) (hr.mono (by decide)) (T.gl 27 "check_poly" rfl) (fun σ => passAt (takes_of rfl rfl rfl rfl) σ) (xG 0 (xG 1 dg_nil))))
      (ds_cons (ds_if (dt_cmp (c_eqD hr.units rfl) d_eq (dx_bi (c_len rfl) k_len (by rfl) (T.fr 6 "len" rfl) PySem.boot_len (da_cons (xv 1) da_nil)) dx_i) (ds_one (xr2 (er_BadPoly T) (takes_of rfl rfl rfl rfl) (hr.mono (by decide)) (da_cons dx_i (da_cons dx_s da_nil)))) ds_nil)
      (ds_one (ds_ret (xv 1))))))) (FunD.bindsN D (fun _ _ _ _ _ _ us hl => match us, hl with | [_, _], _ => rfl))
theorem sc_fraction_roots : FnScope ["figures", "poly", "unlike", "wholes", "found", "ahead", "root"] ["figures", "poly"] (defScope (top 59)) := ⟨rfl, rfl, rfl, by decide +kernel, rfl, by decide +kernel, by decide +kernel⟩
theorem cal_fraction_roots (T : Fs tb K mg) : Cal P w ⟨K, mg, none⟩ base false 1 (He.ga K "fraction_roots") 2 F_fraction_roots_bad [] := by
  obtain ⟨fd, D⟩ : ∃ fd, FunD K "fraction_roots" "fraction_roots" (defArgs (top 59)) (defBody (top 59)) (defScope (top 59)) [] [] (He.ga K "fraction_roots") fd := T.says.def_ 15 rfl
  exact cal_of D (bad_def (c := ⟨K, mg, none⟩) D sc_fraction_roots) (FunD.bindsN D (fun _ _ _ _ _ _ us hl => match us, hl with | [_, _], _ => rfl))
theorem sc_Figures_all_numbers : FnScope ["self"] ["self"] (defScope (inClass (top 67) 11)) := ⟨rfl, rfl, rfl, by decide +kernel, rfl, by decide +kernel, by decide +kernel⟩
theorem cal_Figures_all_numbers (T : Fs tb K mg) : Cal P w ⟨K, mg, none⟩ base false 1 (He.ma K (He.ga K "Figures") "all_numbers") 1 F_Figures_all_numbers [] := by
  obtain ⟨fd, D⟩ : ∃ fd, FunD K "all_numbers" "Figures.all_numbers" (defArgs (inClass (top 67) 11)) (defBody (inClass (top 67) 11)) (defScope (inClass (top 67) 11)) [] [] (He.ma K (He.ga K "Figures") "all_numbers") fd := T.says.def_ 16 rfl
  exact cal_of D (ok_def (N := ["self"]) (ps := ["self"]) (k := 0) (c := ⟨K, mg, none⟩) D sc_Figures_all_numbers (fun cdv A outer s H E hr => (ds_one (ds_ret (dx_rgT1 rfl (by rfl) (T.fr 12 "tuple" rfl) (by rfl) (T.fr 9 "range" rfl) (xA 0)))))) (FunD.bindsN D (fun _ _ _ _ _ _ us hl => match us, hl with | [_], _ => rfl))
theorem sc_in_lowest_terms : FnScope ["top", "bottom", "divisor"] ["top", "bottom"] (defScope (top 15)) := ⟨rfl, rfl, rfl, by decide +kernel, rfl, by decide +kernel, by decide +kernel⟩
theorem cal_in_lowest_terms (T : Fs tb K mg) : Cal P w ⟨K, mg, none⟩ base false 1 (He.ga K "in_lowest_terms") 2 F_in_lowest_terms [] := by
  obtain ⟨fd, D⟩ : ∃ fd, FunD K "in_lowest_terms" "in_lowest_terms" (defArgs (top 15)) (defBody (top 15)) (defScope (top 15)) [] [] (He.ga K "in_lowest_terms") fd := T.says.def_ 17 rfl
  exact cal_of D (ok_def (N := ["top", "bottom", "divisor"]) (ps := ["top", "bottom"]) (k := 0) (c := ⟨K, mg, none⟩) D sc_in_lowest_terms (fun cdv A outer s H E hr => (ds_cons (sS 2 sc_in_lowest_terms.nd (dx_fun cr_gcd k_gcd (by rfl) T.gcd (da_cons (xv 0) (da_cons (xv 1) da_nil))))
      (ds_cons (ds_if (dt_cmp op_lt d_lt (xv 1) dx_i) (ds_one (sS 2 sc_in_lowest_terms.nd (dx_neg (xv 2)))) ds_nil)
      (ds_one (ds_ret (dx_tup (da_cons (dx_op op_fdivG d_div (xv 0) (xv 2)) (da_cons (dx_op op_fdivG d_div (xv 1) (xv 2)) da_nil))))))))) (FunD.bindsN D (fun _ _ _ _ _ _ us hl => match us, hl with | [_, _], _ => rfl))
theorem sc_ratio_plus : FnScope ["one", "other"] ["one", "other"] (defScope (top 16)) := ⟨rfl, rfl, rfl, by decide +kernel, rfl, by decide +kernel, by decide +kernel⟩
theorem cal_ratio_plus (T : Fs tb K mg) : Cal P w ⟨K, mg, none⟩ base false 2 (He.ga K "ratio_plus") 2 F_ratio_plus [] := by
  obtain ⟨fd, D⟩ : ∃ fd, FunD K "ratio_plus" "ratio_plus" (defArgs (top 16)) (defBody (top 16)) (defScope (top 16)) [] [] (He.ga K "ratio_plus") fd := T.says.def_ 18 rfl
  exact cal_of D (ok_def (N := ["one", "other"]) (ps := ["one", "other"]) (k := 1) (c := ⟨K, mg, none⟩) D sc_ratio_plus (fun cdv A outer s H E hr => (ds_one (ds_ret (cc_call (cal_in_lowest_terms T) (hr.mono (by decide)) (T.gl 3 "in_lowest_terms" rfl) (fun σ => passAt (takes_of rfl rfl rfl rfl) σ) (dg_cons (dx_op op_add d_add (dx_op op_mulW d_mul (dx_ix (xv 0) dx_i) (dx_ix (xv 1) dx_i)) (dx_op op_mulW d_mul (dx_ix (xv 1) dx_i) (dx_ix (xv 0) dx_i))) (dg_cons (dx_op op_mulW d_mul (dx_ix (xv 0) dx_i) (dx_ix (xv 1) dx_i)) dg_nil))))))) (FunD.bindsN D (fun _ _ _ _ _ _ us hl => match us, hl with | [_, _], _ => rfl))
theorem sc_Figures_plus : FnScope ["self", "one", "other"] ["self", "one", "other"] (defScope (inClass (top 67) 2)) := ⟨rfl, rfl, rfl, by decide +kernel, rfl, by decide +kernel, by decide +kernel⟩
theorem cal_Figures_plus (T : Fs tb K mg) : Cal P w ⟨K, mg, none⟩ base false 3 (He.ma K (He.ga K "Figures") "plus") 3 F_Figures_plus [] := by
  obtain ⟨fd, D⟩ : ∃ fd, FunD K "plus" "Figures.plus" (defArgs (inClass (top 67) 2)) (defBody (inClass (top 67) 2)) (defScope (inClass (top 67) 2)) [] [] (He.ma K (He.ga K "Figures") "plus") fd := T.says.def_ 19 rfl
  exact cal_of D (ok_def (N := ["self", "one", "other"]) (ps := ["self", "one", "other"]) (k := 2) (c := ⟨K, mg, none⟩) D sc_Figures_plus (fun cdv A outer s H E hr => (ds_cons (ds_if (dt_cmp (c_eqD hr.units rfl) d_eq (xA 0) dx_i) (ds_one (ds_ret (cc_call (cal_ratio_plus T) (hr.mono (by decide)) (T.gl 4 "ratio_plus" rfl) (fun σ => passAt (takes_of rfl rfl rfl rfl) σ) (xG 1 (xG 2 dg_nil))))) ds_nil)
      (ds_one (ds_ret (dx_op op_modN d_mod (dx_op op_add d_add (xv 1) (xv 2)) (xA 0))))))) (FunD.bindsN D (fun _ _ _ _ _ _ us hl => match us, hl with | [_, _, _], _ => rfl))
theorem sc_ratio_times : FnScope ["one", "other"] ["one", "other"] (defScope (top 18)) := ⟨rfl, rfl, rfl, by decide +kernel, rfl, by decide +kernel, by decide +kernel⟩
theorem cal_ratio_times (T : Fs tb K mg) : Cal P w ⟨K, mg, none⟩ base false 2 (He.ga K "ratio_times") 2 F_ratio_times [] := by
  obtain ⟨fd, D⟩ : ∃ fd, FunD K "ratio_times" "ratio_times" (defArgs (top 18)) (defBody (top 18)) (defScope (top 18)) [] [] (He.ga K "ratio_times") fd := T.says.def_ 20 rfl
  exact cal_of D (ok_def (N := ["one", "other"]) (ps := ["one", "other"]) (k := 1) (c := ⟨K, mg, none⟩) D sc_ratio_times (fun cdv A outer s H E hr => (ds_one (ds_ret (cc_call (cal_in_lowest_terms T) (hr.mono (by decide)) (T.gl 3 "in_lowest_terms" rfl) (fun σ => passAt (takes_of rfl rfl rfl rfl) σ) (dg_cons (dx_op op_mulW d_mul (dx_ix (xv 0) dx_i) (dx_ix (xv 1) dx_i)) (dg_cons (dx_op op_mulW d_mul (dx_ix (xv 0) dx_i) (dx_ix (xv 1) dx_i)) dg_nil))))))) (FunD.bindsN D (fun _ _ _ _ _ _ us hl => match us, hl with | [_, _], _ => rfl))
end
end N78
namespace N78
open PySem PySem.Spec PyProof.Rows L2 Fw Pd
section
variable {P : Program} {w : World} {K : PySem.W.Frag} {mg : Str → Option Value} {base : Heap}
theorem sc_Figures_times : FnScope ["self", "one", "other"] ["self", "one", "other"] (defScope (inClass (top 67) 4)) := ⟨rfl, rfl, rfl, by decide +kernel, rfl, by decide +kernel, by decide +kernel⟩
theorem cal_Figures_times (T : Fs tb K mg) : Cal P w ⟨K, mg, none⟩ base false 3 (He.ma K (He.ga K "Figures") "times") 3 F_Figures_times [] := by
  obtain ⟨fd, D⟩ : ∃ fd, FunD K "times" "Figures.times" (defArgs (inClass (top 67) 4)) (defBody (inClass (top 67) 4)) (defScope (inClass (top 67) 4)) [] [] (He.ma K (He.ga K "Figures") "times") fd := T.says.def_ 21 rfl
  exact cal_of D (ok_def (N := ["self", "one", "other"]) (ps := ["self", "one", "other"]) (k := 2) (c := ⟨K, mg, none⟩) D sc_Figures_times (fun cdv A outer s H E hr => (ds_cons (ds_if (dt_cmp (c_eqD hr.units rfl) d_eq (xA 0) dx_i) (ds_one (ds_ret (cc_call (cal_ratio_times T) (hr.mono (by decide)) (T.gl 6 "ratio_times" rfl) (fun σ => passAt (takes_of rfl rfl rfl rfl) σ) (xG 1 (xG 2 dg_nil))))) ds_nil)
      (ds_one (ds_ret (dx_op op_modN d_mod (dx_op op_mulW d_mul (xv 1) (xv 2)) (xA 0))))))) (FunD.bindsN D (fun _ _ _ _ _ _ us hl => match us, hl with | [_, _, _], _ => rfl))
theorem sc_bare_value : FnScope ["figures", "poly", "number", "value", "entry"] ["figures", "poly", "number"] (defScope (top 41)) := ⟨rfl, rfl, rfl, by decide +kernel, rfl, by decide +kernel, by decide +kernel⟩
theorem cal_bare_value (T : Fs tb K mg) : Cal P w ⟨K, mg, none⟩ base false 4 (He.ga K "bare_value") 3 F_bare_value [] := by
  obtain ⟨fd, D⟩ : ∃ fd, FunD K "bare_value" "bare_value" (defArgs (top 41)) (defBody (top 41)) (defScope (top 41)) [] [] (He.ga K "bare_value") fd := T.says.def_ 22 rfl
  exact cal_of D (ok_def (N := ["figures", "poly", "number", "value", "entry"]) (ps := ["figures", "poly", "number"]) (k := 3) (c := ⟨K, mg, none⟩) D sc_bare_value (fun cdv A outer s H E hr => (ds_cons (sS 3 sc_bare_value.nd (xA 0))
      (ds_cons (ds_for (vs := [4]) (gg := (gName 4)) (bind := (bNm 4)) (passes_of rfl) rfl (bd_nm (by decide)) (di_seq (dx_fz (dn_rv (xv 1)))) (gN 4 sc_bare_value.nd) (ds_one (sS 3 sc_bare_value.nd (cc_meth (T.gl 103 "Figures" rfl) (xv 0) (T.cls 0 _ rfl).1.cl (T.meth 0 _ rfl "plus" (by decide)) (cal_Figures_plus T) (hr.mono (by decide)) (fun σ => passAt (takes_of rfl rfl rfl rfl) σ) (dg_cons (cc_meth (T.gl 103 "Figures" rfl) (xv 0) (T.cls 0 _ rfl).1.cl (T.meth 0 _ rfl "times" (by decide)) (cal_Figures_times T) (hr.mono (by decide)) (fun σ => passAt (takes_of rfl rfl rfl rfl) σ) (xG 3 (xG 2 dg_nil))) (xG 4 dg_nil))))))
      (ds_one (ds_ret (xv 3))))))) (FunD.bindsN D (fun _ _ _ _ _ _ us hl => match us, hl with | [_, _, _], _ => rfl))
theorem sc_bare_roots : FnScope ["figures", "poly", "number"] ["figures", "poly"] (defScope (top 62)) := ⟨rfl, rfl, rfl, by decide +kernel, rfl, by decide +kernel, by decide +kernel⟩
theorem cal_bare_roots (T : Fs tb K mg) : Cal P w ⟨K, mg, none⟩ base false 5 (He.ga K "bare_roots") 2 F_bare_roots [] := by
  obtain ⟨fd, D⟩ : ∃ fd, FunD K "bare_roots" "bare_roots" (defArgs (top 62)) (defBody (top 62)) (defScope (top 62)) [] [] (He.ga K "bare_roots") fd := T.says.def_ 23 rfl
  exact cal_of D (ok_def (N := ["figures", "poly", "number"]) (ps := ["figures", "poly"]) (k := 4) (c := ⟨K, mg, none⟩) D sc_bare_roots (fun cdv A outer s H E hr => (ds_cons (ds_if (dt_cmp (c_eqD hr.units rfl) d_eq (xA 0) dx_i) (ds_one (ds_ret (cc_call (cal_fraction_roots T) (hr.mono (by decide)) (T.gl 39 "fraction_roots" rfl) (fun σ => passAt (takes_of rfl rfl rfl rfl) σ) (xG 0 (xG 1 dg_nil))))) ds_nil)
      (ds_one (ds_ret (dx_ty (c_tup rfl) k_tup (by rfl) (T.fr 12 "tuple" rfl) PyProof.Rows.boot_tuple (da_cons (dx_fz (dn_lc (own := [("number", 2)]) (g := (gName 2)) (bind := (bNm 2)) rfl sc_bare_roots.nd (di_seq (cc_meth0 (T.gl 103 "Figures" rfl) (xv 0) (T.cls 0 _ rfl).1.cl (T.meth 0 _ rfl "all_numbers" (by decide)) (cal_Figures_all_numbers T) (hr.mono (by decide)) (fun σ => passAt (takes_of rfl rfl rfl rfl) σ))) (blkOk_by (own := [("number", 2)]) (N := ["figures", "poly", "number"]) (sc := defScope (top 62)) (by decide +kernel)) (bd_nm (by decide)) (fun _ _ _ _ _ => (gN 2 sc_bare_roots.nd)) (fun _ _ _ _ _ => (pts_if (dt_cmp (c_eqD hr.units rfl) d_eq (cc_call (cal_bare_value T) (hr.mono (by decide)) (T.gl 25 "bare_value" rfl) passF (xG 0 (xG 1 (xG 2 dg_nil)))) (xA 0)))) (fun _ _ _ _ _ => (xv 2)))) da_nil))))))) (FunD.bindsN D (fun _ _ _ _ _ _ us hl => match us, hl with | [_, _], _ => rfl))
theorem sc_comes_apart : FnScope ["figures", "poly", "roots"] ["figures", "poly"] (defScope (top 63)) := ⟨rfl, rfl, rfl, by decide +kernel, rfl, by decide +kernel, by decide +kernel⟩
theorem cal_comes_apart (T : Fs tb K mg) : Cal P w ⟨K, mg, none⟩ base false 6 (He.ga K "comes_apart") 2 F_comes_apart [] := by
  obtain ⟨fd, D⟩ : ∃ fd, FunD K "comes_apart" "comes_apart" (defArgs (top 63)) (defBody (top 63)) (defScope (top 63)) [] [] (He.ga K "comes_apart") fd := T.says.def_ 24 rfl
  exact cal_of D (ok_def (N := ["figures", "poly", "roots"]) (ps := ["figures", "poly"]) (k := 5) (c := ⟨K, mg, none⟩) D sc_comes_apart (fun cdv A outer s H E hr => (ds_cons (sS 1 sc_comes_apart.nd (cc_call (cal_check_not_zero T) (hr.mono (by decide)) (T.gl 40 "check_not_zero" rfl) (fun σ => passAt (takes_of rfl rfl rfl rfl) σ) (xG 0 (xG 1 dg_nil))))
      (ds_cons (sS 2 sc_comes_apart.nd (cc_call (cal_bare_roots T) (hr.mono (by decide)) (T.gl 41 "bare_roots" rfl) (fun σ => passAt (takes_of rfl rfl rfl rfl) σ) (xG 0 (xG 1 dg_nil))))
      (ds_one (ds_ret (dx_if (dt_cmp (c_eqD hr.units rfl) d_eq (dx_bi (c_len rfl) k_len (by rfl) (T.fr 6 "len" rfl) PySem.boot_len (da_cons (xv 2) da_nil)) (dx_op op_sub d_sub (dx_bi (c_len rfl) k_len (by rfl) (T.fr 6 "len" rfl) PySem.boot_len (da_cons (xv 1) da_nil)) dx_i)) (xv 2) dx_n))))))) (FunD.bindsN D (fun _ _ _ _ _ _ us hl => match us, hl with | [_, _], _ => rfl))
theorem sc_ratio_over : FnScope ["one", "other"] ["one", "other"] (defScope (top 19)) := ⟨rfl, rfl, rfl, by decide +kernel, rfl, by decide +kernel, by decide +kernel⟩
theorem cal_ratio_over (T : Fs tb K mg) : Cal P w ⟨K, mg, none⟩ base false 3 (He.ga K "ratio_over") 2 F_ratio_over [] := by
  obtain ⟨fd, D⟩ : ∃ fd, FunD K "ratio_over" "ratio_over" (defArgs (top 19)) (defBody (top 19)) (defScope (top 19)) [] [] (He.ga K "ratio_over") fd := T.says.def_ 25 rfl
  exact cal_of D (ok_def (N := ["one", "other"]) (ps := ["one", "other"]) (k := 2) (c := ⟨K, mg, none⟩) D sc_ratio_over (fun cdv A outer s H E hr => (ds_cons (ds_if (dt_cmp (c_eqD hr.units rfl) d_eq (dx_ix (xv 1) dx_i) dx_i) (ds_one (xr0 (er_DividedByNought T) (takes_of rfl rfl rfl rfl))) ds_nil)
      (ds_one (ds_ret (cc_call (cal_in_lowest_terms T) (hr.mono (by decide)) (T.gl 3 "in_lowest_terms" rfl) (fun σ => passAt (takes_of rfl rfl rfl rfl) σ) (dg_cons (dx_op op_mulW d_mul (dx_ix (xv 0) dx_i) (dx_ix (xv 1) dx_i)) (dg_cons (dx_op op_mulW d_mul (dx_ix (xv 0) dx_i) (dx_ix (xv 1) dx_i)) dg_nil)))))))) (FunD.bindsN D (fun _ _ _ _ _ _ us hl => match us, hl with | [_, _], _ => rfl))
theorem sc_undone_rest : FnScope ["number", "prime", "rest"] ["number", "prime"] (defScope (top 66)) := ⟨rfl, rfl, rfl, by decide +kernel, rfl, by decide +kernel, by decide +kernel⟩
theorem cal_undone_rest (T : Fs tb K mg) : Cal P w ⟨K, mg, none⟩ base false 3 (He.ga K "undone_rest") 2 F_undone_rest [] := by
  obtain ⟨fd, D⟩ : ∃ fd, FunD K "undone_rest" "undone_rest" (defArgs (top 66)) (defBody (top 66)) (defScope (top 66)) [] [] (He.ga K "undone_rest") fd := T.says.def_ 26 rfl
  exact cal_of D (ok_def (N := ["number", "prime", "rest"]) (ps := ["number", "prime"]) (k := 2) (c := ⟨K, mg, none⟩) D sc_undone_rest (fun cdv A outer s H E hr => (ds_cons (ds_for (vs := [2]) (gg := (gName 2)) (bind := (bNm 2)) (passes_of rfl) rfl (bd_nm (by decide)) (di_rg2 (by rfl) (T.fr 9 "range" rfl) (da_cons dx_i (da_cons (xv 1) da_nil))) (gN 2 sc_undone_rest.nd) (ds_one (ds_if (dt_cmp (c_eqD hr.units rfl) d_eq (dx_op op_modN d_mod (dx_op op_mulW d_mul (xv 0) (xv 2)) (xv 1)) dx_i) (ds_one (ds_ret (xv 2))) ds_nil)))
      (ds_one (xr0 (er_DividedByNought T) (takes_of rfl rfl rfl rfl)))))) (FunD.bindsN D (fun _ _ _ _ _ _ us hl => match us, hl with | [_, _], _ => rfl))
theorem sc_Figures_over : FnScope ["self", "one", "other"] ["self", "one", "other"] (defScope (inClass (top 67) 5)) := ⟨rfl, rfl, rfl, by decide +kernel, rfl, by decide +kernel, by decide +kernel⟩
theorem cal_Figures_over (T : Fs tb K mg) : Cal P w ⟨K, mg, none⟩ base false 4 (He.ma K (He.ga K "Figures") "over") 3 F_Figures_over [] := by
  obtain ⟨fd, D⟩ : ∃ fd, FunD K "over" "Figures.over" (defArgs (inClass (top 67) 5)) (defBody (inClass (top 67) 5)) (defScope (inClass (top 67) 5)) [] [] (He.ma K (He.ga K "Figures") "over") fd := T.says.def_ 27 rfl
  exact cal_of D (ok_def (N := ["self", "one", "other"]) (ps := ["self", "one", "other"]) (k := 3) (c := ⟨K, mg, none⟩) D sc_Figures_over (fun cdv A outer s H E hr => (ds_cons (ds_if (dt_cmp (c_eqD hr.units rfl) d_eq (xA 0) dx_i) (ds_one (ds_ret (cc_call (cal_ratio_over T) (hr.mono (by decide)) (T.gl 7 "ratio_over" rfl) (fun σ => passAt (takes_of rfl rfl rfl rfl) σ) (xG 1 (xG 2 dg_nil))))) ds_nil)
      (ds_one (ds_ret (dx_op op_modN d_mod (dx_op op_mulW d_mul (xv 1) (cc_call (cal_undone_rest T) (hr.mono (by decide)) (T.gl 43 "undone_rest" rfl) (fun σ => passAt (takes_of rfl rfl rfl rfl) σ) (xG 2 (dg_cons (xA 0) dg_nil)))) (xA 0))))))) (FunD.bindsN D (fun _ _ _ _ _ _ us hl => match us, hl with | [_, _, _], _ => rfl))
theorem sc_Figures_number_of : FnScope ["self", "ratio", "top", "bottom"] ["self", "ratio"] (defScope (inClass (top 67) 9)) := ⟨rfl, rfl, rfl, by decide +kernel, rfl, by decide +kernel, by decide +kernel⟩
theorem cal_Figures_number_of (T : Fs tb K mg) : Cal P w ⟨K, mg, none⟩ base false 5 (He.ma K (He.ga K "Figures") "number_of") 2 F_Figures_number_of [] := by
  obtain ⟨fd, D⟩ : ∃ fd, FunD K "number_of" "Figures.number_of" (defArgs (inClass (top 67) 9)) (defBody (inClass (top 67) 9)) (defScope (inClass (top 67) 9)) [] [] (He.ma K (He.ga K "Figures") "number_of") fd := T.says.def_ 28 rfl
  exact cal_of D (ok_def (N := ["self", "ratio", "top", "bottom"]) (ps := ["self", "ratio"]) (k := 4) (c := ⟨K, mg, none⟩) D sc_Figures_number_of (fun cdv A outer s H E hr => (ds_cons (ds_if (dt_cmp (c_eqD hr.units rfl) d_eq (xA 0) dx_i) (ds_one (ds_ret (xv 1))) ds_nil)
      (ds_cons (ds_asg (vs := [2, 3]) (gg := (gTup K 2 (gCons (gName 2) (gCons (gName 3) gNil)))) (bind := (bTp [(bNm 2), (bNm 3)])) (bd_tp rfl (ba_cons (bd_nm (by decide)) (ba_cons (bd_nm (by decide)) ba_nil))) (xv 1) (pg_tup rfl (pgs_cons (gN 2 sc_Figures_number_of.nd) (pgs_cons (gN 3 sc_Figures_number_of.nd) pgs_nil))))
      (ds_cons (ds_if (dt_cmp (c_eqD hr.units rfl) d_eq (dx_op op_modN d_mod (xv 3) (xA 0)) dx_i) (ds_one (xr0 (er_BadNumber T) (takes_of rfl rfl rfl rfl))) ds_nil)
      (ds_one (ds_ret (cc_meth (T.gl 103 "Figures" rfl) (xv 0) (T.cls 0 _ rfl).1.cl (T.meth 0 _ rfl "over" (by decide)) (cal_Figures_over T) (hr.mono (by decide)) (fun σ => passAt (takes_of rfl rfl rfl rfl) σ) (dg_cons (dx_op op_modN d_mod (xv 2) (xA 0)) (dg_cons (dx_op op_modN d_mod (xv 3) (xA 0)) dg_nil)))))))))) (FunD.bindsN D (fun _ _ _ _ _ _ us hl => match us, hl with | [_, _], _ => rfl))
theorem sc_numbers_by : FnScope ["figures", "numbers", "number"] ["figures", "numbers"] (defScope (top 72)) := ⟨rfl, rfl, rfl, by decide +kernel, rfl, by decide +kernel, by decide +kernel⟩
theorem cal_numbers_by (T : Fs tb K mg) : Cal P w ⟨K, mg, none⟩ base false 6 (He.ga K "numbers_by") 2 F_numbers_by [] := by
  obtain ⟨fd, D⟩ : ∃ fd, FunD K "numbers_by" "numbers_by" (defArgs (top 72)) (defBody (top 72)) (defScope (top 72)) [] [] (He.ga K "numbers_by") fd := T.says.def_ 29 rfl
  exact cal_of D (ok_def (N := ["figures", "numbers", "number"]) (ps := ["figures", "numbers"]) (k := 5) (c := ⟨K, mg, none⟩) D sc_numbers_by (fun cdv A outer s H E hr => (ds_one (ds_ret (dx_ty (c_tup rfl) k_tup (by rfl) (T.fr 12 "tuple" rfl) PyProof.Rows.boot_tuple (da_cons (dx_fz (dn_lcX (own := [("number", 2)]) (g := (gName 2)) (bind := (bNm 2)) rfl rfl (takes_of rfl rfl rfl rfl) (fun _ _ _ _ _ x => x) rfl sc_numbers_by.nd (di_seq (xv 1)) (blkOk_by (own := [("number", 2)]) (N := ["figures", "numbers", "number"]) (sc := defScope (top 72)) (by decide +kernel)) (bd_nm (by decide)) (fun _ _ _ _ _ => (gN 2 sc_numbers_by.nd)) (fun _ _ _ _ _ => pts_no) (fun _ _ _ _ _ => (cc_meth (T.gl 103 "Figures" rfl) (xv 0) (T.cls 0 _ rfl).1.cl (T.meth 0 _ rfl "number_of" (by decide)) (cal_Figures_number_of T) (hr.mono (by decide)) blk_pass (xG 2 dg_nil))))) da_nil)))))) (FunD.bindsN D (fun _ _ _ _ _ _ us hl => match us, hl with | [_, _], _ => rfl))
theorem sc_check_raised : FnScope ["poly", "prime", "times", "figures", "roots"] ["poly", "prime", "times"] (defScope (top 77)) := ⟨rfl, rfl, rfl, by decide +kernel, rfl, by decide +kernel, by decide +kernel⟩
theorem cal_check_raised (T : Fs tb K mg) : Cal P w ⟨K, mg, none⟩ base false 7 (He.ga K "check_raised") 3 F_check_raised [] := by
  obtain ⟨fd, D⟩ : ∃ fd, FunD K "check_raised" "check_raised" (defArgs (top 77)) (defBody (top 77)) (defScope (top 77)) [] [] (He.ga K "check_raised") fd := T.says.def_ 30 rfl
  exact cal_of D (ok_def (N := ["poly", "prime", "times", "figures", "roots"]) (ps := ["poly", "prime", "times"]) (k := 6) (c := ⟨K, mg, none⟩) D sc_check_raised (fun cdv A outer s H E hr => (ds_cons (sS 0 sc_check_raised.nd (cc_call (cal_check_fraction_poly T) (hr.mono (by decide)) (T.gl 47 "check_fraction_poly" rfl) (fun σ => passAt (takes_of rfl rfl rfl rfl) σ) (xG 0 dg_nil)))
      (ds_cons (ds_drop (cc_call (cal_check_prime T) (hr.mono (by decide)) (T.gl 45 "check_prime" rfl) (fun σ => passAt (takes_of rfl rfl rfl rfl) σ) (xG 1 dg_nil)))
      (ds_cons (ds_if (dt_not (dt_tru rfl (cc_call (cal_is_whole_0 T) (hr.mono (by decide)) (T.gl 0 "is_whole" rfl) (fun σ => passAt (takes_of rfl rfl rfl rfl) σ) (xG 2 (dg_cons dx_i (dg_cons (xgI (T.int 2 _ rfl)) dg_nil)))))) (ds_one (xr0 (er_BadTimes T) (takes_of rfl rfl rfl rfl))) ds_nil)
      (ds_cons (sS 3 sc_check_raised.nd (cc_make (T.gl 103 "Figures" rfl) (T.cls 0 _ rfl).1 (T.cls 0 _ rfl).2 (cal_Figures___init__ T) (hr.mono (by decide)) (fun σ => passAt (takes_of rfl rfl rfl rfl) σ) (da_cons (xv 1) da_nil)))
      (ds_cons (sS 4 sc_check_raised.nd (cc_call (cal_comes_apart T) (hr.mono (by decide)) (T.gl 42 "comes_apart" rfl) (fun σ => passAt (takes_of rfl rfl rfl rfl) σ) (xG 3 (dg_cons (cc_call (cal_numbers_by T) (hr.mono (by decide)) (T.gl 46 "numbers_by" rfl) (fun σ => passAt (takes_of rfl rfl rfl rfl) σ) (xG 3 (xG 0 dg_nil))) dg_nil))))
      (ds_cons (ds_if (dt_cmp op_isN d_isN (xv 4) dx_n) (ds_one (xr0 (er_NotApart T) (takes_of rfl rfl rfl rfl))) ds_nil)
      (ds_one (ds_ret (dx_tup (da_cons (xv 0) (da_cons (xv 4) da_nil))))))))))))) (FunD.bindsN D (fun _ _ _ _ _ _ us hl => match us, hl with | [_, _, _], _ => rfl))
theorem sc_undone_whole : FnScope ["number", "prime", "modulus", "rest"] ["number", "prime", "modulus"] (defScope (top 79)) := ⟨rfl, rfl, rfl, by decide +kernel, rfl, by decide +kernel, by decide +kernel⟩
theorem cal_undone_whole (T : Fs tb K mg) : Cal P w ⟨K, mg, none⟩ base false 4 (He.ga K "undone_whole") 3 F_undone_whole [] := by
  obtain ⟨fd, D⟩ : ∃ fd, FunD K "undone_whole" "undone_whole" (defArgs (top 79)) (defBody (top 79)) (defScope (top 79)) [] [] (He.ga K "undone_whole") fd := T.says.def_ 31 rfl
  exact cal_of D (ok_def (N := ["number", "prime", "modulus", "rest"]) (ps := ["number", "prime", "modulus"]) (k := 3) (c := ⟨K, mg, none⟩) D sc_undone_whole (fun cdv A outer s H E hr => (ds_cons (sS 3 sc_undone_whole.nd (cc_call (cal_undone_rest T) (hr.mono (by decide)) (T.gl 43 "undone_rest" rfl) (fun σ => passAt (takes_of rfl rfl rfl rfl) σ) (dg_cons (dx_op op_modN d_mod (xv 0) (xv 1)) (xG 1 dg_nil))))
      (ds_cons (ds_wh (n := 100) (passes_of rfl) (dt_cmp (c_neD hr.units rfl) d_ne (dx_op op_modN d_mod (dx_op op_mulW d_mul (xv 0) (xv 3)) (xv 2)) dx_i) (ds_one (sS 3 sc_undone_whole.nd (dx_op op_modN d_mod (dx_op op_mulW d_mul (xv 3) (dx_op op_sub d_sub dx_i (dx_op op_mulW d_mul (xv 0) (xv 3)))) (xv 2)))))
      (ds_one (ds_ret (xv 3))))))) (FunD.bindsN D (fun _ _ _ _ _ _ us hl => match us, hl with | [_, _, _], _ => rfl))
theorem sc_wholes_by : FnScope ["poly", "prime", "modulus", "top", "bottom"] ["poly", "prime", "modulus"] (defScope (top 80)) := ⟨rfl, rfl, rfl, by decide +kernel, rfl, by decide +kernel, by decide +kernel⟩
theorem cal_wholes_by (T : Fs tb K mg) : Cal P w ⟨K, mg, none⟩ base false 5 (He.ga K "wholes_by") 3 F_wholes_by [] := by
  obtain ⟨fd, D⟩ : ∃ fd, FunD K "wholes_by" "wholes_by" (defArgs (top 80)) (defBody (top 80)) (defScope (top 80)) [] [] (He.ga K "wholes_by") fd := T.says.def_ 32 rfl
  exact cal_of D (ok_def (N := ["poly", "prime", "modulus", "top", "bottom"]) (ps := ["poly", "prime", "modulus"]) (k := 4) (c := ⟨K, mg, none⟩) D sc_wholes_by (fun cdv A outer s H E hr => (ds_one (ds_ret (dx_fz (dn_lc (own := [("top", 3), ("bottom", 4)]) (g := (gTup K 2 (gCons (gName 3) (gCons (gName 4) gNil)))) (bind := (bTp [(bNm 3), (bNm 4)])) rfl sc_wholes_by.nd (di_seq (xv 0)) (blkOk_by (own := [("top", 3), ("bottom", 4)]) (N := ["poly", "prime", "modulus", "top", "bottom"]) (sc := defScope (top 80)) (by decide +kernel)) (bd_tp rfl (ba_cons (bd_nm (by decide)) (ba_cons (bd_nm (by decide)) ba_nil))) (fun _ _ _ _ _ => (pg_tup rfl (pgs_cons (gN 3 sc_wholes_by.nd) (pgs_cons (gN 4 sc_wholes_by.nd) pgs_nil)))) (fun _ _ _ _ _ => pts_no) (fun _ _ _ _ _ => (dx_op op_modN d_mod (dx_op op_mulW d_mul (xv 3) (cc_call (cal_undone_whole T) (hr.mono (by decide)) (T.gl 50 "undone_whole" rfl) passF (xG 4 (xG 1 (xG 2 dg_nil))))) (xv 2))))))))) (FunD.bindsN D (fun _ _ _ _ _ _ us hl => match us, hl with | [_, _, _], _ => rfl))
theorem sc_whole_slope : FnScope ["wholes", "place", "whole"] ["wholes"] (defScope (top 49)) := ⟨rfl, rfl, rfl, by decide +kernel, rfl, by decide +kernel, by decide +kernel⟩
theorem cal_whole_slope (T : Fs tb K mg) : Cal P w ⟨K, mg, none⟩ base false 1 (He.ga K "whole_slope") 1 F_whole_slope [] := by
  obtain ⟨fd, D⟩ : ∃ fd, FunD K "whole_slope" "whole_slope" (defArgs (top 49)) (defBody (top 49)) (defScope (top 49)) [] [] (He.ga K "whole_slope") fd := T.says.def_ 33 rfl
  exact cal_of D (ok_def (N := ["wholes", "place", "whole"]) (ps := ["wholes"]) (k := 0) (c := ⟨K, mg, none⟩) D sc_whole_slope (fun cdv A outer s H E hr => (ds_one (ds_ret (dx_fz (dn_sl (dx_fz (dn_lc (own := [("place", 1), ("whole", 2)]) (g := (gTup K 2 (gCons (gName 1) (gCons (gName 2) gNil)))) (bind := (bTp [(bNm 1), (bNm 2)])) rfl sc_whole_slope.nd (di_enum (by rfl) (T.fr 3 "enumerate" rfl) (da_cons (xv 0) da_nil)) (blkOk_by (own := [("place", 1), ("whole", 2)]) (N := ["wholes", "place", "whole"]) (sc := defScope (top 49)) (by decide +kernel)) (bd_tp rfl (ba_cons (bd_nm (by decide)) (ba_cons (bd_nm (by decide)) ba_nil))) (fun _ _ _ _ _ => (pg_tup rfl (pgs_cons (gN 1 sc_whole_slope.nd) (pgs_cons (gN 2 sc_whole_slope.nd) pgs_nil)))) (fun _ _ _ _ _ => pts_no) (fun _ _ _ _ _ => (dx_op op_mulW d_mul (xv 1) (xv 2))))) (do_e dx_i) do_no)))))) (FunD.bindsN D (fun _ _ _ _ _ _ us hl => match us, hl with | [_], _ => rfl))
theorem sc_rest_at : FnScope ["wholes", "place", "modulus", "value", "whole"] ["wholes", "place", "modulus"] (defScope (top 50)) := ⟨rfl, rfl, rfl, by decide +kernel, rfl, by decide +kernel, by decide +kernel⟩
theorem cal_rest_at (T : Fs tb K mg) : Cal P w ⟨K, mg, none⟩ base false 1 (He.ga K "rest_at") 3 F_rest_at [] := by
  obtain ⟨fd, D⟩ : ∃ fd, FunD K "rest_at" "rest_at" (defArgs (top 50)) (defBody (top 50)) (defScope (top 50)) [] [] (He.ga K "rest_at") fd := T.says.def_ 34 rfl
  exact cal_of D (ok_def (N := ["wholes", "place", "modulus", "value", "whole"]) (ps := ["wholes", "place", "modulus"]) (k := 0) (c := ⟨K, mg, none⟩) D sc_rest_at (fun cdv A outer s H E hr => (ds_cons (sS 3 sc_rest_at.nd dx_i)
      (ds_cons (ds_for (vs := [4]) (gg := (gName 4)) (bind := (bNm 4)) (passes_of rfl) rfl (bd_nm (by decide)) (di_seq (dx_fz (dn_rv (xv 0)))) (gN 4 sc_rest_at.nd) (ds_one (sS 3 sc_rest_at.nd (dx_op op_modN d_mod (dx_op op_add d_add (dx_op op_mulW d_mul (xv 3) (xv 1)) (xv 4)) (xv 2)))))
      (ds_one (ds_ret (xv 3))))))) (FunD.bindsN D (fun _ _ _ _ _ _ us hl => match us, hl with | [_, _, _], _ => rfl))
theorem sc_raised_root : FnScope ["wholes", "root", "prime", "modulus", "slope", "value"] ["wholes", "root", "prime", "modulus"] (defScope (top 81)) := ⟨rfl, rfl, rfl, by decide +kernel, rfl, by decide +kernel, by decide +kernel⟩
theorem cal_raised_root (T : Fs tb K mg) : Cal P w ⟨K, mg, none⟩ base false 5 (He.ga K "raised_root") 4 F_raised_root [] := by
  obtain ⟨fd, D⟩ : ∃ fd, FunD K "raised_root" "raised_root" (defArgs (top 81)) (defBody (top 81)) (defScope (top 81)) [] [] (He.ga K "raised_root") fd := T.says.def_ 35 rfl
  exact cal_of D (ok_def (N := ["wholes", "root", "prime", "modulus", "slope", "value"]) (ps := ["wholes", "root", "prime", "modulus"]) (k := 4) (c := ⟨K, mg, none⟩) D sc_raised_root (fun cdv A outer s H E hr => (ds_cons (sS 4 sc_raised_root.nd (cc_call (cal_whole_slope T) (hr.mono (by decide)) (T.gl 29 "whole_slope" rfl) (fun σ => passAt (takes_of rfl rfl rfl rfl) σ) (xG 0 dg_nil)))
      (ds_cons (sS 5 sc_raised_root.nd (cc_call (cal_rest_at T) (hr.mono (by decide)) (T.gl 30 "rest_at" rfl) (fun σ => passAt (takes_of rfl rfl rfl rfl) σ) (xG 0 (xG 1 (xG 3 dg_nil)))))
      (ds_cons (ds_wh (n := 100) (passes_of rfl) (dt_cmp (c_neD hr.units rfl) d_ne (xv 5) dx_i) (ds_cons (sS 1 sc_raised_root.nd (dx_op op_modN d_mod (dx_op op_sub d_sub (xv 1) (dx_op op_mulW d_mul (xv 5) (cc_call (cal_undone_whole T) (hr.mono (by decide)) (T.gl 50 "undone_whole" rfl) (fun σ => passAt (takes_of rfl rfl rfl rfl) σ) (dg_cons (cc_call (cal_rest_at T) (hr.mono (by decide)) (T.gl 30 "rest_at" rfl) (fun σ => passAt (takes_of rfl rfl rfl rfl) σ) (xG 4 (xG 1 (xG 3 dg_nil)))) (xG 2 (xG 3 dg_nil)))))) (xv 3)))
      (ds_one (sS 5 sc_raised_root.nd (cc_call (cal_rest_at T) (hr.mono (by decide)) (T.gl 30 "rest_at" rfl) (fun σ => passAt (takes_of rfl rfl rfl rfl) σ) (xG 0 (xG 1 (xG 3 dg_nil))))))))
      (ds_one (ds_ret (xv 1)))))))) (FunD.bindsN D (fun _ _ _ _ _ _ us hl => match us, hl with | [_, _, _, _], _ => rfl))
theorem sc_roots_by_power : FnScope ["poly", "roots", "prime", "modulus", "wholes", "root"] ["poly", "roots", "prime", "modulus"] (defScope (top 82)) := ⟨rfl, rfl, rfl, by decide +kernel, rfl, by decide +kernel, by decide +kernel⟩
theorem cal_roots_by_power (T : Fs tb K mg) : Cal P w ⟨K, mg, none⟩ base false 6 (He.ga K "roots_by_power") 4 F_roots_by_power [] := by
  obtain ⟨fd, D⟩ : ∃ fd, FunD K "roots_by_power" "roots_by_power" (defArgs (top 82)) (defBody (top 82)) (defScope (top 82)) [] [] (He.ga K "roots_by_power") fd := T.says.def_ 36 rfl
  exact cal_of D (ok_def (N := ["poly", "roots", "prime", "modulus", "wholes", "root"]) (ps := ["poly", "roots", "prime", "modulus"]) (k := 5) (c := ⟨K, mg, none⟩) D sc_roots_by_power (fun cdv A outer s H E hr => (ds_cons (sS 4 sc_roots_by_power.nd (cc_call (cal_wholes_by T) (hr.mono (by decide)) (T.gl 51 "wholes_by" rfl) (fun σ => passAt (takes_of rfl rfl rfl rfl) σ) (xG 0 (xG 2 (xG 3 dg_nil)))))
      (ds_one (ds_ret (dx_ty (c_tup rfl) k_tup (by rfl) (T.fr 12 "tuple" rfl) PyProof.Rows.boot_tuple (da_cons (dx_fz (dn_lc (own := [("root", 5)]) (g := (gName 5)) (bind := (bNm 5)) rfl sc_roots_by_power.nd (di_seq (xv 1)) (blkOk_by (own := [("root", 5)]) (N := ["poly", "roots", "prime", "modulus", "wholes", "root"]) (sc := defScope (top 82)) (by decide +kernel)) (bd_nm (by decide)) (fun _ _ _ _ _ => (gN 5 sc_roots_by_power.nd)) (fun _ _ _ _ _ => pts_no) (fun _ _ _ _ _ => (cc_call (cal_raised_root T) (hr.mono (by decide)) (T.gl 52 "raised_root" rfl) passF (xG 4 (xG 5 (xG 2 (xG 3 dg_nil)))))))) da_nil))))))) (FunD.bindsN D (fun _ _ _ _ _ _ us hl => match us, hl with | [_, _, _, _], _ => rfl))
theorem sc_power_of : FnScope ["prime", "times", "modulus", "_"] ["prime", "times"] (defScope (top 78)) := ⟨rfl, rfl, rfl, by decide +kernel, rfl, by decide +kernel, by decide +kernel⟩
theorem cal_power_of (T : Fs tb K mg) : Cal P w ⟨K, mg, none⟩ base false 1 (He.ga K "power_of") 2 F_power_of [] := by
  obtain ⟨fd, D⟩ : ∃ fd, FunD K "power_of" "power_of" (defArgs (top 78)) (defBody (top 78)) (defScope (top 78)) [] [] (He.ga K "power_of") fd := T.says.def_ 37 rfl
  exact cal_of D (ok_def (N := ["prime", "times", "modulus", "_"]) (ps := ["prime", "times"]) (k := 0) (c := ⟨K, mg, none⟩) D sc_power_of (fun cdv A outer s H E hr => (ds_cons (sS 2 sc_power_of.nd dx_i)
      (ds_cons (ds_for (vs := [3]) (gg := (gName 3)) (bind := (bNm 3)) (passes_of rfl) rfl (bd_nm (by decide)) (di_rg1 (by rfl) (T.fr 9 "range" rfl) (da_cons (xv 1) da_nil)) (gN 3 sc_power_of.nd) (ds_one (sS 2 sc_power_of.nd (dx_op op_mulW d_mul (xv 2) (xv 0)))))
      (ds_one (ds_ret (xv 2))))))) (FunD.bindsN D (fun _ _ _ _ _ _ us hl => match us, hl with | [_, _], _ => rfl))
theorem sc_raised_roots : FnScope ["poly", "prime", "times", "roots"] ["poly", "prime", "times"] (defScope (top 83)) := ⟨rfl, rfl, rfl, by decide +kernel, rfl, by decide +kernel, by decide +kernel⟩
theorem cal_raised_roots (T : Fs tb K mg) : Cal P w ⟨K, mg, none⟩ base false 8 (He.ga K "raised_roots") 3 F_raised_roots [] := by
  obtain ⟨fd, D⟩ : ∃ fd, FunD K "raised_roots" "raised_roots" (defArgs (top 83)) (defBody (top 83)) (defScope (top 83)) [] [] (He.ga K "raised_roots") fd := T.says.def_ 38 rfl
  exact cal_of D (ok_def (N := ["poly", "prime", "times", "roots"]) (ps := ["poly", "prime", "times"]) (k := 7) (c := ⟨K, mg, none⟩) D sc_raised_roots (fun cdv A outer s H E hr => (ds_cons (ds_asg (vs := [0, 3]) (gg := (gTup K 2 (gCons (gName 0) (gCons (gName 3) gNil)))) (bind := (bTp [(bNm 0), (bNm 3)])) (bd_tp rfl (ba_cons (bd_nm (by decide)) (ba_cons (bd_nm (by decide)) ba_nil))) (cc_call (cal_check_raised T) (hr.mono (by decide)) (T.gl 48 "check_raised" rfl) (fun σ => passAt (takes_of rfl rfl rfl rfl) σ) (xG 0 (xG 1 (xG 2 dg_nil)))) (pg_tup rfl (pgs_cons (gN 0 sc_raised_roots.nd) (pgs_cons (gN 3 sc_raised_roots.nd) pgs_nil))))
      (ds_one (ds_ret (cc_call (cal_roots_by_power T) (hr.mono (by decide)) (T.gl 53 "roots_by_power" rfl) (fun σ => passAt (takes_of rfl rfl rfl rfl) σ) (xG 0 (xG 3 (xG 1 (dg_cons (cc_call (cal_power_of T) (hr.mono (by decide)) (T.gl 49 "power_of" rfl) (fun σ => passAt (takes_of rfl rfl rfl rfl) σ) (xG 1 (xG 2 dg_nil))) dg_nil)))))))))) (FunD.bindsN D (fun _ _ _ _ _ _ us hl => match us, hl with | [_, _, _], _ => rfl))
theorem sc__law_roots_told : FnScope ["_law_poly", "_law_prime", "_law_times_here", "_law_told", "raised"] ["_law_poly", "_law_prime", "_law_times_here"] (defScope (top 114)) := ⟨rfl, rfl, rfl, by decide +kernel, rfl, by decide +kernel, by decide +kernel⟩
theorem cal__law_roots_told (T : Fs tb K mg) : Cal P w ⟨K, mg, none⟩ base false 9 (He.ga K "_law_roots_told") 3 F__law_roots_told [] := by
  obtain ⟨fd, D⟩ : ∃ fd, FunD K "_law_roots_told" "_law_roots_told" (defArgs (top 114)) (defBody (top 114)) (defScope (top 114)) [] [] (He.ga K "_law_roots_told") fd := T.says.def_ 39 rfl
  exact cal_of D (ok_def (N := ["_law_poly", "_law_prime", "_law_times_here", "_law_told", "raised"]) (ps := ["_law_poly", "_law_prime", "_law_times_here"]) (k := 8) (c := ⟨K, mg, none⟩) D sc__law_roots_told (fun cdv A outer s H E hr => (ds_cons (ds_try rfl rfl rfl sc__law_roots_told.nd (takes_of rfl rfl rfl rfl) (fun W pn xe tk po => (ds_one (sS 3 sc__law_roots_told.nd (cc_call (cal_raised_roots T) (hr.mono (by decide)) (T.gl 54 "raised_roots" rfl) (fun σ => passAt tk σ) (xG 0 (xG 1 (xG 2 dg_nil))))))) (.cons (i := 4) (ms := (msOf [("DividedByNought", false), ("BadFigures", false), ("BadNumber", false), ("BadPoly", true), ("NotApart", false), ("BadPrime", false), ("BadTimes", false)])) (u := (sRet (eFz (eLst (eCons (eC (.str "poly")) (eCons (eXf ["BadPoly", "BadPrime"] 4 "index") (eCons (eXf ["BadPoly"] 4 "what") eNil))))))) rfl rfl ⟨by rfl, by decide, Or.inl (T.gl 99 "BadPoly" rfl)⟩ (ms_ok (y := "BadPoly") T (by decide +kernel)) (fun a oe k dd pn hz hf => (ds_one (ds_ret (dx_fz (dn_lst (da_cons dx_s (da_cons (dx_xf (xf_ok T (by decide +kernel)) hz hf rfl (by first | exact Or.inl rfl | exact Or.inr (Or.inl rfl))) (da_cons (dx_xf (xf_ok T (by decide +kernel)) hz hf rfl (by first | exact Or.inl rfl | exact Or.inr (Or.inl rfl))) da_nil)))))))) (.cons (i := 4) (ms := (msOf [("DividedByNought", false), ("BadFigures", false), ("BadNumber", false), ("BadPoly", false), ("NotApart", false), ("BadPrime", true), ("BadTimes", false)])) (u := (sRet (eFz (eLst (eCons (eC (.str "prime")) (eCons (eXf ["BadPoly", "BadPrime"] 4 "index") eNil)))))) rfl rfl ⟨by rfl, by decide, Or.inl (T.gl 101 "BadPrime" rfl)⟩ (ms_ok (y := "BadPrime") T (by decide +kernel)) (fun a oe k dd pn hz hf => (ds_one (ds_ret (dx_fz (dn_lst (da_cons dx_s (da_cons (dx_xf (xf_ok T (by decide +kernel)) hz hf rfl (by first | exact Or.inl rfl | exact Or.inr (Or.inl rfl))) da_nil))))))) (.bare (ms := (msOf [("DividedByNought", false), ("BadFigures", false), ("BadNumber", false), ("BadPoly", false), ("NotApart", false), ("BadPrime", false), ("BadTimes", true)])) (u := (sRet (eFz (eLst (eCons (eC (.str "times")) eNil))))) ⟨by rfl, by decide, Or.inl (T.gl 102 "BadTimes" rfl)⟩ (ms_ok (y := "BadTimes") T (by decide +kernel)) (fun a oe k dd pn hz hf => (ds_one (ds_ret (dx_fz (dn_lst (da_cons dx_s da_nil)))))) (.bare (ms := (msOf [("DividedByNought", false), ("BadFigures", false), ("BadNumber", true), ("BadPoly", false), ("NotApart", false), ("BadPrime", false), ("BadTimes", false)])) (u := (sRet (eFz (eLst (eCons (eC (.str "number")) eNil))))) ⟨by rfl, by decide, Or.inl (T.gl 98 "BadNumber" rfl)⟩ (ms_ok (y := "BadNumber") T (by decide +kernel)) (fun a oe k dd pn hz hf => (ds_one (ds_ret (dx_fz (dn_lst (da_cons dx_s da_nil)))))) (.bare (ms := (msOf [("DividedByNought", false), ("BadFigures", false), ("BadNumber", false), ("BadPoly", false), ("NotApart", true), ("BadPrime", false), ("BadTimes", false)])) (u := (sRet (eFz (eLst (eCons (eC (.str "apart")) eNil))))) ⟨by rfl, by decide, Or.inl (T.gl 100 "NotApart" rfl)⟩ (ms_ok (y := "NotApart") T (by decide +kernel)) (fun a oe k dd pn hz hf => (ds_one (ds_ret (dx_fz (dn_lst (da_cons dx_s da_nil)))))) .nil))))))
      (ds_one (ds_ret (dx_fz (dn_lst (da_cons dx_s (da_cons (xv 3) da_nil))))))))) (FunD.bindsN D (fun _ _ _ _ _ _ us hl => match us, hl with | [_, _, _], _ => rfl))
theorem sc_Raised___init__ : FnScope ["self", "modulus", "products"] ["self", "modulus", "products"] (defScope (inClass (top 76) 0)) := ⟨rfl, rfl, rfl, by decide +kernel, rfl, by decide +kernel, by decide +kernel⟩
theorem cal_Raised___init__ (T : Fs tb K mg) : Cal P w ⟨K, mg, none⟩ base false 1 (He.ma K (He.ga K "Raised") "__init__") 3 F_Raised___init__ [] := by
  obtain ⟨fd, D⟩ : ∃ fd, FunD K "__init__" "Raised.__init__" (defArgs (inClass (top 76) 0)) (defBody (inClass (top 76) 0)) (defScope (inClass (top 76) 0)) [] [] (He.ma K (He.ga K "Raised") "__init__") fd := T.says.def_ 40 rfl
  exact cal_of D (ok_def (N := ["self", "modulus", "products"]) (ps := ["self", "modulus", "products"]) (k := 0) (c := ⟨K, mg, none⟩) D sc_Raised___init__ (fun cdv A outer s H E hr => (ds_cons (ds_at (fun C e => noat_of T 1 rfl (T.gl 104 "Raised" rfl) (by decide) e) (xM 0) (xv 1))
      (ds_one (ds_at (fun C e => noat_of T 1 rfl (T.gl 104 "Raised" rfl) (by decide) e) (xM 0) (xv 2)))))) (FunD.bindsN D (fun _ _ _ _ _ _ us hl => match us, hl with | [_, _, _], _ => rfl))
end
end N78
namespace N78
open PySem PySem.Spec PyProof.Rows L2 Fw Pd
section
variable {P : Program} {w : World} {K : PySem.W.Frag} {mg : Str → Option Value} {base : Heap}
theorem sc_times_straight : FnScope ["wholes", "root", "modulus", "one", "other"] ["wholes", "root", "modulus"] (defScope (top 84)) := ⟨rfl, rfl, rfl, by decide +kernel, rfl, by decide +kernel, by decide +kernel⟩
theorem cal_times_straight (T : Fs tb K mg) : Cal P w ⟨K, mg, none⟩ base false 1 (He.ga K "times_straight") 3 F_times_straight [] := by
  obtain ⟨fd, D⟩ : ∃ fd, FunD K "times_straight" "times_straight" (defArgs (top 84)) (defBody (top 84)) (defScope (top 84)) [] [] (He.ga K "times_straight") fd := T.says.def_ 41 rfl
  exact cal_of D (ok_def (N := ["wholes", "root", "modulus", "one", "other"]) (ps := ["wholes", "root", "modulus"]) (k := 0) (c := ⟨K, mg, none⟩) D sc_times_straight (fun cdv A outer s H E hr => (ds_one (ds_ret (dx_fz (dn_lc (own := [("one", 3), ("other", 4)]) (g := (gTup K 2 (gCons (gName 3) (gCons (gName 4) gNil)))) (bind := (bTp [(bNm 3), (bNm 4)])) rfl sc_times_straight.nd (di_zip (by rfl) (T.fr 13 "zip" rfl) (da_cons (dx_fz (dn_plus (dx_fz (dn_lst (da_cons dx_i da_nil))) (xv 0))) (da_cons (dx_fz (dn_plus (xv 0) (dx_fz (dn_lst (da_cons dx_i da_nil))))) da_nil))) (blkOk_by (own := [("one", 3), ("other", 4)]) (N := ["wholes", "root", "modulus", "one", "other"]) (sc := defScope (top 84)) (by decide +kernel)) (bd_tp rfl (ba_cons (bd_nm (by decide)) (ba_cons (bd_nm (by decide)) ba_nil))) (fun _ _ _ _ _ => (pg_tup rfl (pgs_cons (gN 3 sc_times_straight.nd) (pgs_cons (gN 4 sc_times_straight.nd) pgs_nil)))) (fun _ _ _ _ _ => pts_no) (fun _ _ _ _ _ => (dx_op op_modN d_mod (dx_op op_sub d_sub (xv 3) (dx_op op_mulW d_mul (xv 1) (xv 4))) (xv 2))))))))) (FunD.bindsN D (fun _ _ _ _ _ _ us hl => match us, hl with | [_, _, _], _ => rfl))
theorem sc_poly_at_one_root : FnScope ["roots", "root", "prime", "modulus", "made", "other", "undone", "whole"] ["roots", "root", "prime", "modulus"] (defScope (top 85)) := ⟨rfl, rfl, rfl, by decide +kernel, rfl, by decide +kernel, by decide +kernel⟩
theorem cal_poly_at_one_root (T : Fs tb K mg) : Cal P w ⟨K, mg, none⟩ base false 5 (He.ga K "poly_at_one_root") 4 F_poly_at_one_root [] := by
  obtain ⟨fd, D⟩ : ∃ fd, FunD K "poly_at_one_root" "poly_at_one_root" (defArgs (top 85)) (defBody (top 85)) (defScope (top 85)) [] [] (He.ga K "poly_at_one_root") fd := T.says.def_ 42 rfl
  exact cal_of D (ok_def (N := ["roots", "root", "prime", "modulus", "made", "other", "undone", "whole"]) (ps := ["roots", "root", "prime", "modulus"]) (k := 4) (c := ⟨K, mg, none⟩) D sc_poly_at_one_root (fun cdv A outer s H E hr => (ds_cons (sS 4 sc_poly_at_one_root.nd (dx_fz (dn_lst (da_cons dx_i da_nil))))
      (ds_cons (ds_for (vs := [5]) (gg := (gName 5)) (bind := (bNm 5)) (passes_of rfl) rfl (bd_nm (by decide)) (di_seq (xv 0)) (gN 5 sc_poly_at_one_root.nd) (ds_one (ds_if (dt_cmp (c_neD hr.units rfl) d_ne (xv 5) (xv 1)) (ds_one (sS 4 sc_poly_at_one_root.nd (cc_call (cal_times_straight T) (hr.mono (by decide)) (T.gl 55 "times_straight" rfl) (fun σ => passAt (takes_of rfl rfl rfl rfl) σ) (xG 4 (xG 5 (xG 3 dg_nil)))))) ds_nil)))
      (ds_cons (sS 6 sc_poly_at_one_root.nd (cc_call (cal_undone_whole T) (hr.mono (by decide)) (T.gl 50 "undone_whole" rfl) (fun σ => passAt (takes_of rfl rfl rfl rfl) σ) (dg_cons (cc_call (cal_rest_at T) (hr.mono (by decide)) (T.gl 30 "rest_at" rfl) (fun σ => passAt (takes_of rfl rfl rfl rfl) σ) (xG 4 (xG 1 (xG 3 dg_nil)))) (xG 2 (xG 3 dg_nil)))))
      (ds_one (ds_ret (dx_ty (c_tup rfl) k_tup (by rfl) (T.fr 12 "tuple" rfl) PyProof.Rows.boot_tuple (da_cons (dx_fz (dn_lc (own := [("whole", 7)]) (g := (gName 7)) (bind := (bNm 7)) rfl sc_poly_at_one_root.nd (di_seq (xv 4)) (blkOk_by (own := [("whole", 7)]) (N := ["roots", "root", "prime", "modulus", "made", "other", "undone", "whole"]) (sc := defScope (top 85)) (by decide +kernel)) (bd_nm (by decide)) (fun _ _ _ _ _ => (gN 7 sc_poly_at_one_root.nd)) (fun _ _ _ _ _ => pts_no) (fun _ _ _ _ _ => (dx_op op_modN d_mod (dx_op op_mulW d_mul (xv 7) (xv 6)) (xv 3))))) da_nil))))))))) (FunD.bindsN D (fun _ _ _ _ _ _ us hl => match us, hl with | [_, _, _, _], _ => rfl))
theorem sc_power_row_by : FnScope ["root", "many", "modulus", "row"] ["root", "many", "modulus"] (defScope (top 86)) := ⟨rfl, rfl, rfl, by decide +kernel, rfl, by decide +kernel, by decide +kernel⟩
theorem cal_power_row_by (T : Fs tb K mg) : Cal P w ⟨K, mg, none⟩ base false 1 (He.ga K "power_row_by") 3 F_power_row_by [] := by
  obtain ⟨fd, D⟩ : ∃ fd, FunD K "power_row_by" "power_row_by" (defArgs (top 86)) (defBody (top 86)) (defScope (top 86)) [] [] (He.ga K "power_row_by") fd := T.says.def_ 43 rfl
  exact cal_of D (ok_def (N := ["root", "many", "modulus", "row"]) (ps := ["root", "many", "modulus"]) (k := 0) (c := ⟨K, mg, none⟩) D sc_power_row_by (fun cdv A outer s H E hr => (ds_cons (sSN 3 sc_power_row_by.nd (dn_lst (da_cons dx_i da_nil)))
      (ds_cons (ds_wh (n := 100) (passes_of rfl) (dt_cmp op_lt d_lt (dx_lenP (by rfl) (T.fr 6 "len" rfl) (xP 3)) (xv 1)) (ds_one (ds_app (xP 3) (dn_of (dx_op op_modN d_mod (dx_op op_mulW d_mul (dx_pl (dp_ix (xP 3) (dx_neg dx_i))) (xv 0)) (xv 2))))))
      (ds_one (ds_frz 3 (ds_ret (dx_ty (c_tup rfl) k_tup (by rfl) (T.fr 12 "tuple" rfl) PyProof.Rows.boot_tuple (da_cons (xv 3) da_nil))))))))) (FunD.bindsN D (fun _ _ _ _ _ _ us hl => match us, hl with | [_, _, _], _ => rfl))
theorem sc_raised_products : FnScope ["poly", "prime", "times", "roots", "modulus", "products", "root"] ["poly", "prime", "times"] (defScope (top 87)) := ⟨rfl, rfl, rfl, by decide +kernel, rfl, by decide +kernel, by decide +kernel⟩
theorem cal_raised_products (T : Fs tb K mg) : Cal P w ⟨K, mg, none⟩ base false 8 (He.ga K "raised_products") 3 F_raised_products [] := by
  obtain ⟨fd, D⟩ : ∃ fd, FunD K "raised_products" "raised_products" (defArgs (top 87)) (defBody (top 87)) (defScope (top 87)) [] [] (He.ga K "raised_products") fd := T.says.def_ 44 rfl
  exact cal_of D (ok_def (N := ["poly", "prime", "times", "roots", "modulus", "products", "root"]) (ps := ["poly", "prime", "times"]) (k := 7) (c := ⟨K, mg, none⟩) D sc_raised_products (fun cdv A outer s H E hr => (ds_cons (ds_asg (vs := [0, 3]) (gg := (gTup K 2 (gCons (gName 0) (gCons (gName 3) gNil)))) (bind := (bTp [(bNm 0), (bNm 3)])) (bd_tp rfl (ba_cons (bd_nm (by decide)) (ba_cons (bd_nm (by decide)) ba_nil))) (cc_call (cal_check_raised T) (hr.mono (by decide)) (T.gl 48 "check_raised" rfl) (fun σ => passAt (takes_of rfl rfl rfl rfl) σ) (xG 0 (xG 1 (xG 2 dg_nil)))) (pg_tup rfl (pgs_cons (gN 0 sc_raised_products.nd) (pgs_cons (gN 3 sc_raised_products.nd) pgs_nil))))
      (ds_cons (sS 4 sc_raised_products.nd (cc_call (cal_power_of T) (hr.mono (by decide)) (T.gl 49 "power_of" rfl) (fun σ => passAt (takes_of rfl rfl rfl rfl) σ) (xG 1 (xG 2 dg_nil))))
      (ds_cons (sS 3 sc_raised_products.nd (cc_call (cal_roots_by_power T) (hr.mono (by decide)) (T.gl 53 "roots_by_power" rfl) (fun σ => passAt (takes_of rfl rfl rfl rfl) σ) (xG 0 (xG 3 (xG 1 (xG 4 dg_nil))))))
      (ds_cons (ds_setLcF (i := 5) (own := [("root", 6)]) (g := (gName 6)) (bind := (bNm 6)) rfl sc_raised_products.nd rfl rfl (sw_true rfl rfl rfl (by decide +kernel)) (di_seq (xv 3)) (blkOk_by (own := [("root", 6)]) (N := ["poly", "prime", "times", "roots", "modulus", "products", "root"]) (sc := defScope (top 87)) (by decide +kernel)) (bd_nm (by decide)) (fun _ _ _ _ _ => (gN 6 sc_raised_products.nd)) (fun _ _ _ _ _ => pts_no) (fun _ _ _ _ _ => (dx_tup (da_cons (cc_call (cal_poly_at_one_root T) (hr.mono (by decide)) (T.gl 56 "poly_at_one_root" rfl) passF (xG 3 (xG 6 (xG 1 (xG 4 dg_nil))))) (da_cons (cc_call (cal_power_row_by T) (hr.mono (by decide)) (T.gl 57 "power_row_by" rfl) passF (xG 6 (dg_cons (dx_bi (c_len rfl) k_len (by rfl) (T.fr 6 "len" rfl) PySem.boot_len (da_cons (xv 3) da_nil)) (xG 4 dg_nil)))) (da_cons dx_i (da_cons (xv 6) da_nil)))))))
      (ds_one (ds_ret (cc_make (T.gl 104 "Raised" rfl) (T.cls 1 _ rfl).1 (T.cls 1 _ rfl).2 (cal_Raised___init__ T) (hr.mono (by decide)) (fun σ => passAt (takes_of rfl rfl rfl rfl) σ) (da_cons (xv 4) (da_cons (dx_ty (c_tup rfl) k_tup (by rfl) (T.fr 12 "tuple" rfl) PyProof.Rows.boot_tuple (da_cons (xv 5) da_nil)) da_nil))))))))))) (FunD.bindsN D (fun _ _ _ _ _ _ us hl => match us, hl with | [_, _, _], _ => rfl))
theorem sc__law_products_told : FnScope ["_law_poly", "_law_prime", "_law_times_here", "_law_told", "raised"] ["_law_poly", "_law_prime", "_law_times_here"] (defScope (top 115)) := ⟨rfl, rfl, rfl, by decide +kernel, rfl, by decide +kernel, by decide +kernel⟩
theorem cal__law_products_told (T : Fs tb K mg) : Cal P w ⟨K, mg, none⟩ base false 9 (He.ga K "_law_products_told") 3 F__law_products_told [] := by
  obtain ⟨fd, D⟩ : ∃ fd, FunD K "_law_products_told" "_law_products_told" (defArgs (top 115)) (defBody (top 115)) (defScope (top 115)) [] [] (He.ga K "_law_products_told") fd := T.says.def_ 45 rfl
  exact cal_of D (ok_def (N := ["_law_poly", "_law_prime", "_law_times_here", "_law_told", "raised"]) (ps := ["_law_poly", "_law_prime", "_law_times_here"]) (k := 8) (c := ⟨K, mg, none⟩) D sc__law_products_told (fun cdv A outer s H E hr => (ds_cons (ds_try rfl rfl rfl sc__law_products_told.nd (takes_of rfl rfl rfl rfl) (fun W pn xe tk po => (ds_one (sS 3 sc__law_products_told.nd (cc_call (cal_raised_products T) (hr.mono (by decide)) (T.gl 58 "raised_products" rfl) (fun σ => passAt tk σ) (xG 0 (xG 1 (xG 2 dg_nil))))))) (.cons (i := 4) (ms := (msOf [("DividedByNought", false), ("BadFigures", false), ("BadNumber", false), ("BadPoly", true), ("NotApart", false), ("BadPrime", false), ("BadTimes", false)])) (u := (sRet (eFz (eLst (eCons (eC (.str "poly")) (eCons (eXf ["BadPoly", "BadPrime"] 4 "index") (eCons (eXf ["BadPoly"] 4 "what") eNil))))))) rfl rfl ⟨by rfl, by decide, Or.inl (T.gl 99 "BadPoly" rfl)⟩ (ms_ok (y := "BadPoly") T (by decide +kernel)) (fun a oe k dd pn hz hf => (ds_one (ds_ret (dx_fz (dn_lst (da_cons dx_s (da_cons (dx_xf (xf_ok T (by decide +kernel)) hz hf rfl (by first | exact Or.inl rfl | exact Or.inr (Or.inl rfl))) (da_cons (dx_xf (xf_ok T (by decide +kernel)) hz hf rfl (by first | exact Or.inl rfl | exact Or.inr (Or.inl rfl))) da_nil)))))))) (.cons (i := 4) (ms := (msOf [("DividedByNought", false), ("BadFigures", false), ("BadNumber", false), ("BadPoly", false), ("NotApart", false), ("BadPrime", true), ("BadTimes", false)])) (u := (sRet (eFz (eLst (eCons (eC (.str "prime")) (eCons (eXf ["BadPoly", "BadPrime"] 4 "index") eNil)))))) rfl rfl ⟨by rfl, by decide, Or.inl (T.gl 101 "BadPrime" rfl)⟩ (ms_ok (y := "BadPrime") T (by decide +kernel)) (fun a oe k dd pn hz hf => (ds_one (ds_ret (dx_fz (dn_lst (da_cons dx_s (da_cons (dx_xf (xf_ok T (by decide +kernel)) hz hf rfl (by first | exact Or.inl rfl | exact Or.inr (Or.inl rfl))) da_nil))))))) (.bare (ms := (msOf [("DividedByNought", false), ("BadFigures", false), ("BadNumber", false), ("BadPoly", false), ("NotApart", false), ("BadPrime", false), ("BadTimes", true)])) (u := (sRet (eFz (eLst (eCons (eC (.str "times")) eNil))))) ⟨by rfl, by decide, Or.inl (T.gl 102 "BadTimes" rfl)⟩ (ms_ok (y := "BadTimes") T (by decide +kernel)) (fun a oe k dd pn hz hf => (ds_one (ds_ret (dx_fz (dn_lst (da_cons dx_s da_nil)))))) (.bare (ms := (msOf [("DividedByNought", false), ("BadFigures", false), ("BadNumber", true), ("BadPoly", false), ("NotApart", false), ("BadPrime", false), ("BadTimes", false)])) (u := (sRet (eFz (eLst (eCons (eC (.str "number")) eNil))))) ⟨by rfl, by decide, Or.inl (T.gl 98 "BadNumber" rfl)⟩ (ms_ok (y := "BadNumber") T (by decide +kernel)) (fun a oe k dd pn hz hf => (ds_one (ds_ret (dx_fz (dn_lst (da_cons dx_s da_nil)))))) (.bare (ms := (msOf [("DividedByNought", false), ("BadFigures", false), ("BadNumber", false), ("BadPoly", false), ("NotApart", true), ("BadPrime", false), ("BadTimes", false)])) (u := (sRet (eFz (eLst (eCons (eC (.str "apart")) eNil))))) ⟨by rfl, by decide, Or.inl (T.gl 100 "NotApart" rfl)⟩ (ms_ok (y := "NotApart") T (by decide +kernel)) (fun a oe k dd pn hz hf => (ds_one (ds_ret (dx_fz (dn_lst (da_cons dx_s da_nil)))))) .nil))))))
      (ds_one (ds_ret (dx_fz (dn_lst (da_cons dx_s (da_cons (xv 3) da_nil))))))))) (FunD.bindsN D (fun _ _ _ _ _ _ us hl => match us, hl with | [_, _, _], _ => rfl))
theorem sc__law_odd_prime : FnScope ["_law_hand_here"] ["_law_hand_here"] (defScope (top 100)) := ⟨rfl, rfl, rfl, by decide +kernel, rfl, by decide +kernel, by decide +kernel⟩
theorem cal__law_odd_prime (T : Fs tb K mg) : Cal P w ⟨K, mg, none⟩ base false 4 (He.ga K "_law_odd_prime") 1 F__law_odd_prime [] := by
  obtain ⟨fd, D⟩ : ∃ fd, FunD K "_law_odd_prime" "_law_odd_prime" (defArgs (top 100)) (defBody (top 100)) (defScope (top 100)) [] [] (He.ga K "_law_odd_prime") fd := T.says.def_ 46 rfl
  exact cal_of D (ok_def (N := ["_law_hand_here"]) (ps := ["_law_hand_here"]) (k := 3) (c := ⟨K, mg, none⟩) D sc__law_odd_prime (fun cdv A outer s H E hr => (ds_one (ds_ret (cc_call (cal__law_pick T) (hr.mono (by decide)) (T.gl 59 "_law_pick" rfl) (fun σ => passAt (takes_of rfl rfl rfl rfl) σ) (xG 0 (dg_cons (dx_fz (dn_lst (da_cons dx_i (da_cons dx_i (da_cons dx_i (da_cons dx_i (da_cons dx_i (da_cons (dx_neg dx_i) (da_cons dx_b (da_cons dx_n (da_cons dx_s (da_cons (dx_tup (da_cons dx_i da_nil)) (da_cons (dx_op op_pow d_pow dx_i dx_i) (da_cons dx_i (da_cons dx_b (da_cons dx_i da_nil)))))))))))))))) dg_nil))))))) (FunD.bindsN D (fun _ _ _ _ _ _ us hl => match us, hl with | [_], _ => rfl))
theorem sc__law_gcd : FnScope ["_law_one", "_law_other", "_law_a", "_law_b", "_law_k", "_law_rest"] ["_law_one", "_law_other"] (defScope (top 104)) := ⟨rfl, rfl, rfl, by decide +kernel, rfl, by decide +kernel, by decide +kernel⟩
theorem cal__law_gcd (T : Fs tb K mg) : Cal P w ⟨K, mg, none⟩ base false 1 (He.ga K "_law_gcd") 2 F__law_gcd [] := by
  obtain ⟨fd, D⟩ : ∃ fd, FunD K "_law_gcd" "_law_gcd" (defArgs (top 104)) (defBody (top 104)) (defScope (top 104)) [] [] (He.ga K "_law_gcd") fd := T.says.def_ 47 rfl
  exact cal_of D (ok_def (N := ["_law_one", "_law_other", "_law_a", "_law_b", "_law_k", "_law_rest"]) (ps := ["_law_one", "_law_other"]) (k := 0) (c := ⟨K, mg, none⟩) D sc__law_gcd (fun cdv A outer s H E hr => (ds_cons (sS 2 sc__law_gcd.nd (dx_bi call_abs k_abs (by rfl) (T.fr 0 "abs" rfl) (by decide +kernel) (da_cons (xv 0) da_nil)))
      (ds_cons (sS 3 sc__law_gcd.nd (dx_bi call_abs k_abs (by rfl) (T.fr 0 "abs" rfl) (by decide +kernel) (da_cons (xv 1) da_nil)))
      (ds_cons (ds_for (vs := [4]) (gg := (gName 4)) (bind := (bNm 4)) (passes_of rfl) rfl (bd_nm (by decide)) (di_rg1 (by rfl) (T.fr 9 "range" rfl) (da_cons dx_i da_nil)) (gN 4 sc__law_gcd.nd) (ds_cons (ds_if (dt_cmp (c_eqD hr.units rfl) d_eq (xv 3) dx_i) (ds_one (ds_ret (xv 2))) ds_nil)
      (ds_cons (sS 5 sc__law_gcd.nd (dx_op op_modN d_mod (dx_ty call_int1 k_int (by rfl) (T.fr 4 "int" rfl) PyProof.Rows.boot_int (da_cons (xv 2) da_nil)) (xv 3)))
      (ds_cons (sS 2 sc__law_gcd.nd (xv 3))
      (ds_one (sS 3 sc__law_gcd.nd (xv 5)))))))
      (ds_one (ds_ret dx_i))))))) (FunD.bindsN D (fun _ _ _ _ _ _ us hl => match us, hl with | [_, _], _ => rfl))
theorem sc__law_ratio : FnScope ["_law_top", "_law_bottom", "_law_common"] ["_law_top", "_law_bottom"] (defScope (top 105)) := ⟨rfl, rfl, rfl, by decide +kernel, rfl, by decide +kernel, by decide +kernel⟩
theorem cal__law_ratio (T : Fs tb K mg) : Cal P w ⟨K, mg, none⟩ base false 2 (He.ga K "_law_ratio") 2 F__law_ratio [] := by
  obtain ⟨fd, D⟩ : ∃ fd, FunD K "_law_ratio" "_law_ratio" (defArgs (top 105)) (defBody (top 105)) (defScope (top 105)) [] [] (He.ga K "_law_ratio") fd := T.says.def_ 48 rfl
  exact cal_of D (ok_def (N := ["_law_top", "_law_bottom", "_law_common"]) (ps := ["_law_top", "_law_bottom"]) (k := 1) (c := ⟨K, mg, none⟩) D sc__law_ratio (fun cdv A outer s H E hr => (ds_cons (sS 2 sc__law_ratio.nd (cc_call (cal__law_gcd T) (hr.mono (by decide)) (T.gl 74 "_law_gcd" rfl) (fun σ => passAt (takes_of rfl rfl rfl rfl) σ) (xG 0 (xG 1 dg_nil))))
      (ds_cons (ds_if (dt_cmp op_lt d_lt (xv 1) dx_i) (ds_one (sS 2 sc__law_ratio.nd (dx_neg (xv 2)))) ds_nil)
      (ds_one (ds_ret (dx_tup (da_cons (dx_op op_fdivG d_div (xv 0) (xv 2)) (da_cons (dx_op op_fdivG d_div (xv 1) (xv 2)) da_nil))))))))) (FunD.bindsN D (fun _ _ _ _ _ _ us hl => match us, hl with | [_, _], _ => rfl))
theorem sc__law_scaled : FnScope ["_law_poly", "_law_scale", "_law_degree", "_law_told", "_law_k", "_law_bottom", "_law_turn"] ["_law_poly", "_law_scale"] (defScope (top 99)) := ⟨rfl, rfl, rfl, by decide +kernel, rfl, by decide +kernel, by decide +kernel⟩
theorem cal__law_scaled (T : Fs tb K mg) : Cal P w ⟨K, mg, none⟩ base false 3 (He.ga K "_law_scaled") 2 F__law_scaled_78 [] := by
  obtain ⟨fd, D⟩ : ∃ fd, FunD K "_law_scaled" "_law_scaled" (defArgs (top 99)) (defBody (top 99)) (defScope (top 99)) [] [] (He.ga K "_law_scaled") fd := T.says.def_ 49 rfl
  exact cal_of D (ok_def (N := ["_law_poly", "_law_scale", "_law_degree", "_law_told", "_law_k", "_law_bottom", "_law_turn"]) (ps := ["_law_poly", "_law_scale"]) (k := 2) (c := ⟨K, mg, none⟩) D sc__law_scaled (fun cdv A outer s H E hr => (ds_cons (sS 2 sc__law_scaled.nd (dx_op op_sub d_sub (dx_bi (c_len rfl) k_len (by rfl) (T.fr 6 "len" rfl) PySem.boot_len (da_cons (xv 0) da_nil)) dx_i))
      (ds_cons (sSN 3 sc__law_scaled.nd (dn_lst da_nil))
      (ds_cons (ds_for (vs := [4]) (gg := (gName 4)) (bind := (bNm 4)) (passes_of rfl) rfl (bd_nm (by decide)) (di_rg1 (by rfl) (T.fr 9 "range" rfl) (da_cons (dx_op op_add d_add (xv 2) dx_i) da_nil)) (gN 4 sc__law_scaled.nd) (ds_cons (sS 5 sc__law_scaled.nd dx_i)
      (ds_cons (ds_for (vs := [6]) (gg := (gName 6)) (bind := (bNm 6)) (passes_of rfl) rfl (bd_nm (by decide)) (di_rg1 (by rfl) (T.fr 9 "range" rfl) (da_cons (dx_op op_sub d_sub (xv 2) (xv 4)) da_nil)) (gN 6 sc__law_scaled.nd) (ds_one (sS 5 sc__law_scaled.nd (dx_op op_mulW d_mul (xv 5) (xv 1)))))
      (ds_one (ds_app (xP 3) (dn_of (cc_call (cal__law_ratio T) (hr.mono (by decide)) (T.gl 75 "_law_ratio" rfl) (fun σ => passAt (takes_of rfl rfl rfl rfl) σ) (dg_cons (dx_ix (xv 0) (xv 4)) (xG 5 dg_nil)))))))))
      (ds_one (ds_frz 3 (ds_ret (xv 3))))))))) (FunD.bindsN D (fun _ _ _ _ _ _ us hl => match us, hl with | [_, _], _ => rfl))
theorem sc__law_refused : FnScope ["_law_hand_here", "_law_p", "_law_poly", "_law_times_here", "_law_last", "_law_odds", "_law_bad", "_law_due", "_law_odd", "_law_late", "_law_more"] ["_law_hand_here", "_law_p", "_law_poly", "_law_times_here"] (defScope (top 121)) := ⟨rfl, rfl, rfl, by decide +kernel, rfl, by decide +kernel, by decide +kernel⟩
theorem cal__law_refused (T : Fs tb K mg) : Cal P w ⟨K, mg, none⟩ base false 10 (He.ga K "_law_refused") 4 F__law_refused_78 [] := by
  obtain ⟨fd, D⟩ : ∃ fd, FunD K "_law_refused" "_law_refused" (defArgs (top 121)) (defBody (top 121)) (defScope (top 121)) [] [] (He.ga K "_law_refused") fd := T.says.def_ 50 rfl
  exact cal_of D (ok_def (N := ["_law_hand_here", "_law_p", "_law_poly", "_law_times_here", "_law_last", "_law_odds", "_law_bad", "_law_due", "_law_odd", "_law_late", "_law_more"]) (ps := ["_law_hand_here", "_law_p", "_law_poly", "_law_times_here"]) (k := 9) (c := ⟨K, mg, none⟩) D sc__law_refused (fun cdv A outer s H E hr => (ds_cons (sS 4 sc__law_refused.nd (dx_op op_sub d_sub (dx_bi (c_len rfl) k_len (by rfl) (T.fr 6 "len" rfl) PySem.boot_len (da_cons (xv 2) da_nil)) dx_i))
      (ds_cons (sS 5 sc__law_refused.nd (dx_fz (dn_lst (da_cons (dx_fz (dn_lst (da_cons (dx_fz (dn_lst da_nil)) (da_cons (dx_fz (dn_lst (da_cons dx_i (da_cons dx_s da_nil)))) da_nil)))) (da_cons (dx_fz (dn_lst (da_cons (dx_fz (dn_plus (dx_fz (dn_sl (xv 2) do_no (do_e (xv 4)))) (dx_fz (dn_lst (da_cons (dx_tup (da_cons dx_i (da_cons dx_i da_nil))) da_nil))))) (da_cons (dx_fz (dn_lst (da_cons (xv 4) (da_cons dx_s da_nil)))) da_nil)))) (da_cons (dx_fz (dn_lst (da_cons (dx_fz (dn_plus (dx_fz (dn_sl (xv 2) do_no (do_e (xv 4)))) (dx_fz (dn_lst (da_cons dx_i da_nil))))) (da_cons (dx_fz (dn_lst (da_cons (xv 4) (da_cons dx_s da_nil)))) da_nil)))) da_nil))))))
      (ds_cons (ds_asg (vs := [6, 7]) (gg := (gLst K 2 (gCons (gName 6) (gCons (gName 7) gNil)))) (bind := (bLs [(bNm 6), (bNm 7)])) (bd_ls rfl (ba_cons (bd_nm (by decide)) (ba_cons (bd_nm (by decide)) ba_nil))) (cc_call (cal__law_pick T) (hr.mono (by decide)) (T.gl 59 "_law_pick" rfl) (fun σ => passAt (takes_of rfl rfl rfl rfl) σ) (xG 0 (dg_cons (dx_fz (dn_plus (xv 5) (dx_fz (dn_lst (da_cons (dx_fz (dn_lst (da_cons dx_n (da_cons (dx_fz (dn_lst (da_cons dx_i (da_cons dx_s da_nil)))) da_nil)))) da_nil))))) dg_nil))) (pg_lst rfl (pgs_cons (gN 6 sc__law_refused.nd) (pgs_cons (gN 7 sc__law_refused.nd) pgs_nil))))
      (ds_cons (sS 8 sc__law_refused.nd (cc_call (cal__law_odd_prime T) (hr.mono (by decide)) (T.gl 70 "_law_odd_prime" rfl) (fun σ => passAt (takes_of rfl rfl rfl rfl) σ) (xG 0 dg_nil)))
      (ds_cons (sS 9 sc__law_refused.nd (cc_call (cal__law_pick T) (hr.mono (by decide)) (T.gl 59 "_law_pick" rfl) (fun σ => passAt (takes_of rfl rfl rfl rfl) σ) (xG 0 (dg_cons (dx_fz (dn_lst (da_cons dx_i (da_cons (dx_neg dx_i) (da_cons dx_i (da_cons dx_b (da_cons dx_n (da_cons dx_s (da_cons (dx_tup (da_cons dx_i da_nil)) (da_cons (dx_op op_pow d_pow dx_i dx_i) da_nil)))))))))) dg_nil))))
      (ds_cons (ds_if (PW.pt (dw_or (dt_cmp (c_neD hr.units rfl) d_ne (cc_call (cal__law_roots_told T) (hr.mono (by decide)) (T.gl 84 "_law_roots_told" rfl) (fun σ => passAt (takes_of rfl rfl rfl rfl) σ) (xG 6 (xG 8 (xG 9 dg_nil)))) (dx_fz (dn_plus (dx_fz (dn_lst (da_cons dx_s da_nil))) (xv 7)))) (dw_or1 (dt_cmp (c_neD hr.units rfl) d_ne (cc_call (cal__law_products_told T) (hr.mono (by decide)) (T.gl 85 "_law_products_told" rfl) (fun σ => passAt (takes_of rfl rfl rfl rfl) σ) (xG 6 (xG 1 (xG 3 dg_nil)))) (dx_fz (dn_plus (dx_fz (dn_lst (da_cons dx_s da_nil))) (xv 7))))))) (ds_one (ds_ret dx_b)) ds_nil)
      (ds_cons (ds_if (PW.pt (dw_or (dt_cmp (c_neD hr.units rfl) d_ne (cc_call (cal__law_roots_told T) (hr.mono (by decide)) (T.gl 84 "_law_roots_told" rfl) (fun σ => passAt (takes_of rfl rfl rfl rfl) σ) (xG 2 (xG 8 (xG 9 dg_nil)))) (dx_fz (dn_lst (da_cons dx_s (da_cons dx_i da_nil))))) (dw_or1 (dt_cmp (c_neD hr.units rfl) d_ne (cc_call (cal__law_products_told T) (hr.mono (by decide)) (T.gl 85 "_law_products_told" rfl) (fun σ => passAt (takes_of rfl rfl rfl rfl) σ) (xG 2 (xG 8 (xG 3 dg_nil)))) (dx_fz (dn_lst (da_cons dx_s (da_cons dx_i da_nil)))))))) (ds_one (ds_ret dx_b)) ds_nil)
      (ds_cons (sS 10 sc__law_refused.nd (dx_if (dt_cmp (c_eqD hr.units rfl) d_eq (cc_call (cal__law_take T) (hr.mono (by decide)) (T.gl 73 "_law_take" rfl) (fun σ => passAt (takes_of rfl rfl rfl rfl) σ) (xG 0 (dg_cons dx_i dg_nil))) dx_i) (cc_call (cal__law_scaled T) (hr.mono (by decide)) (T.gl 69 "_law_scaled" rfl) (fun σ => passAt (takes_of rfl rfl rfl rfl) σ) (dg_cons (dx_fz (dn_lst (da_cons dx_i (da_cons dx_i da_nil)))) (xG 1 dg_nil))) (xv 2)))
      (ds_one (ds_ret (dx_and (dx_cmp (c_eqD hr.units rfl) d_eq (cc_call (cal__law_roots_told T) (hr.mono (by decide)) (T.gl 84 "_law_roots_told" rfl) (fun σ => passAt (takes_of rfl rfl rfl rfl) σ) (xG 10 (xG 1 (xG 9 dg_nil)))) (dx_fz (dn_lst (da_cons dx_s da_nil)))) (dx_one (dx_cmp (c_eqD hr.units rfl) d_eq (cc_call (cal__law_products_told T) (hr.mono (by decide)) (T.gl 85 "_law_products_told" rfl) (fun σ => passAt (takes_of rfl rfl rfl rfl) σ) (xG 10 (xG 1 (xG 9 dg_nil)))) (dx_fz (dn_lst (da_cons dx_s da_nil)))))))))))))))))) (FunD.bindsN D (fun _ _ _ _ _ _ us hl => match us, hl with | [_, _, _, _], _ => rfl))
theorem sc__law_can : FnScope ["_law_p", "_law_numbers", "_law_number"] ["_law_p", "_law_numbers"] (defScope (top 92)) := ⟨rfl, rfl, rfl, by decide +kernel, rfl, by decide +kernel, by decide +kernel⟩
theorem cal__law_can (T : Fs tb K mg) : Cal P w ⟨K, mg, none⟩ base false 1 (He.ga K "_law_can") 2 F__law_can [] := by
  obtain ⟨fd, D⟩ : ∃ fd, FunD K "_law_can" "_law_can" (defArgs (top 92)) (defBody (top 92)) (defScope (top 92)) [] [] (He.ga K "_law_can") fd := T.says.def_ 51 rfl
  exact cal_of D (ok_def (N := ["_law_p", "_law_numbers", "_law_number"]) (ps := ["_law_p", "_law_numbers"]) (k := 0) (c := ⟨K, mg, none⟩) D sc__law_can (fun cdv A outer s H E hr => (ds_one (ds_ret (dx_cmp (c_eqD hr.units rfl) d_eq (dx_fz (dn_lc (own := [("_law_number", 2)]) (g := (gName 2)) (bind := (bNm 2)) rfl sc__law_can.nd (di_seq (xv 1)) (blkOk_by (own := [("_law_number", 2)]) (N := ["_law_p", "_law_numbers", "_law_number"]) (sc := defScope (top 92)) (by decide +kernel)) (bd_nm (by decide)) (fun _ _ _ _ _ => (gN 2 sc__law_can.nd)) (fun _ _ _ _ _ => (pts_if (dt_cmp (c_eqD hr.units rfl) d_eq (dx_op op_modN d_mod (dx_ty call_int1 k_int (by rfl) (T.fr 4 "int" rfl) PyProof.Rows.boot_int (da_cons (dx_ix (xv 2) dx_i) da_nil)) (xv 0)) dx_i))) (fun _ _ _ _ _ => (xv 2)))) (dx_fz (dn_lst da_nil))))))) (FunD.bindsN D (fun _ _ _ _ _ _ us hl => match us, hl with | [_, _], _ => rfl))
theorem sc__law_parts_poly : FnScope ["_law_parts_here", "_law_poly", "_law_root", "_law_up", "_law_k"] ["_law_parts_here"] (defScope (top 97)) := ⟨rfl, rfl, rfl, by decide +kernel, rfl, by decide +kernel, by decide +kernel⟩
theorem cal__law_parts_poly (T : Fs tb K mg) : Cal P w ⟨K, mg, none⟩ base false 1 (He.ga K "_law_parts_poly") 1 F__law_parts_poly [] := by
  obtain ⟨fd, D⟩ : ∃ fd, FunD K "_law_parts_poly" "_law_parts_poly" (defArgs (top 97)) (defBody (top 97)) (defScope (top 97)) [] [] (He.ga K "_law_parts_poly") fd := T.says.def_ 52 rfl
  exact cal_of D (ok_def (N := ["_law_parts_here", "_law_poly", "_law_root", "_law_up", "_law_k"]) (ps := ["_law_parts_here"]) (k := 0) (c := ⟨K, mg, none⟩) D sc__law_parts_poly (fun cdv A outer s H E hr => (ds_cons (sS 1 sc__law_parts_poly.nd (dx_fz (dn_ty (c_list rfl) k_list (by rfl) (T.fr 7 "list" rfl) (by decide +kernel) (da_cons (dx_ix (xv 0) dx_i) da_nil))))
      (ds_cons (ds_for (vs := [2]) (gg := (gName 2)) (bind := (bNm 2)) (passes_of rfl) rfl (bd_nm (by decide)) (di_seq (dx_ix (xv 0) dx_i)) (gN 2 sc__law_parts_poly.nd) (ds_cons (sS 3 sc__law_parts_poly.nd (dx_fz (dn_plus (dx_fz (dn_lst (da_cons dx_i da_nil))) (xv 1))))
      (ds_one (sS 1 sc__law_parts_poly.nd (dx_fz (dn_lc (own := [("_law_k", 4)]) (g := (gName 4)) (bind := (bNm 4)) rfl sc__law_parts_poly.nd (di_rg1 (by rfl) (T.fr 9 "range" rfl) (da_cons (dx_bi (c_len rfl) k_len (by rfl) (T.fr 6 "len" rfl) PySem.boot_len (da_cons (xv 3) da_nil)) da_nil)) (blkOk_by (own := [("_law_k", 4)]) (N := ["_law_parts_here", "_law_poly", "_law_root", "_law_up", "_law_k"]) (sc := defScope (top 97)) (by decide +kernel)) (bd_nm (by decide)) (fun _ _ _ _ _ => (gN 4 sc__law_parts_poly.nd)) (fun _ _ _ _ _ => pts_no) (fun _ _ _ _ _ => (dx_op op_sub d_sub (dx_ix (xv 3) (xv 4)) (dx_op op_mulW d_mul (xv 2) (dx_ix (dx_fz (dn_plus (xv 1) (dx_fz (dn_lst (da_cons dx_i da_nil))))) (xv 4)))))))))))
      (ds_one (ds_ret (xv 1))))))) (FunD.bindsN D (fun _ _ _ _ _ _ us hl => match us, hl with | [_], _ => rfl))
theorem sc__law_shuffled : FnScope ["_law_hand_here", "_law_things", "_law_pool", "_law_told", "_law_k"] ["_law_hand_here", "_law_things"] (defScope (top 90)) := ⟨rfl, rfl, rfl, by decide +kernel, rfl, by decide +kernel, by decide +kernel⟩
theorem cal__law_shuffled (T : Fs tb K mg) : Cal P w ⟨K, mg, none⟩ base false 3 (He.ga K "_law_shuffled") 2 F__law_shuffled [] := by
  obtain ⟨fd, D⟩ : ∃ fd, FunD K "_law_shuffled" "_law_shuffled" (defArgs (top 90)) (defBody (top 90)) (defScope (top 90)) [] [] (He.ga K "_law_shuffled") fd := T.says.def_ 53 rfl
  exact cal_of D (ok_def (N := ["_law_hand_here", "_law_things", "_law_pool", "_law_told", "_law_k"]) (ps := ["_law_hand_here", "_law_things"]) (k := 2) (c := ⟨K, mg, none⟩) D sc__law_shuffled (fun cdv A outer s H E hr => (ds_cons (sSN 2 sc__law_shuffled.nd (dn_ty (c_list rfl) k_list (by rfl) (T.fr 7 "list" rfl) (by decide +kernel) (da_cons (xv 1) da_nil)))
      (ds_cons (sSN 3 sc__law_shuffled.nd (dn_lst da_nil))
      (ds_cons (ds_for (vs := [4]) (gg := (gName 4)) (bind := (bNm 4)) (passes_of rfl) rfl (bd_nm (by decide)) (di_rg1 (by rfl) (T.fr 9 "range" rfl) (da_cons (dx_bi (c_len rfl) k_len (by rfl) (T.fr 6 "len" rfl) PySem.boot_len (da_cons (xv 1) da_nil)) da_nil)) (gN 4 sc__law_shuffled.nd) (ds_one (ds_appPop (i0 := 3) rfl (by first | exact Or.inl rfl | exact Or.inr (Or.inl rfl) | exact Or.inr (Or.inr rfl)) (xP 2) (cc_call (cal__law_take T) (hr.mono (by decide)) (T.gl 73 "_law_take" rfl) (fun σ => passAt (takes_of rfl rfl rfl rfl) σ) (xG 0 (dg_cons (dx_lenP (by rfl) (T.fr 6 "len" rfl) (xP 2)) dg_nil))))))
      (ds_one (ds_frz 3 (ds_ret (xv 3))))))))) (FunD.bindsN D (fun _ _ _ _ _ _ us hl => match us, hl with | [_, _], _ => rfl))
theorem sc__law_apart_poly : FnScope ["_law_hand_here", "_law_p", "_law_degree", "_law_roots_here", "_law_number", "_law_poly", "_law_root", "_law_up", "_law_k", "_law_far"] ["_law_hand_here", "_law_p", "_law_degree"] (defScope (top 113)) := ⟨rfl, rfl, rfl, by decide +kernel, rfl, by decide +kernel, by decide +kernel⟩
theorem cal__law_apart_poly (T : Fs tb K mg) : Cal P w ⟨K, mg, none⟩ base false 4 (He.ga K "_law_apart_poly") 3 F__law_apart_poly [] := by
  obtain ⟨fd, D⟩ : ∃ fd, FunD K "_law_apart_poly" "_law_apart_poly" (defArgs (top 113)) (defBody (top 113)) (defScope (top 113)) [] [] (He.ga K "_law_apart_poly") fd := T.says.def_ 54 rfl
  exact cal_of D (ok_def (N := ["_law_hand_here", "_law_p", "_law_degree", "_law_roots_here", "_law_number", "_law_poly", "_law_root", "_law_up", "_law_k", "_law_far"]) (ps := ["_law_hand_here", "_law_p", "_law_degree"]) (k := 3) (c := ⟨K, mg, none⟩) D sc__law_apart_poly (fun cdv A outer s H E hr => (ds_cons (sS 3 sc__law_apart_poly.nd (dx_fz (dn_sl (cc_call (cal__law_shuffled T) (hr.mono (by decide)) (T.gl 60 "_law_shuffled" rfl) (fun σ => passAt (takes_of rfl rfl rfl rfl) σ) (xG 0 (dg_cons (dx_fz (dn_lc (own := [("_law_number", 4)]) (g := (gName 4)) (bind := (bNm 4)) rfl sc__law_apart_poly.nd (di_rg1 (by rfl) (T.fr 9 "range" rfl) (da_cons (xv 1) da_nil)) (blkOk_by (own := [("_law_number", 4)]) (N := ["_law_hand_here", "_law_p", "_law_degree", "_law_roots_here", "_law_number", "_law_poly", "_law_root", "_law_up", "_law_k", "_law_far"]) (sc := defScope (top 113)) (by decide +kernel)) (bd_nm (by decide)) (fun _ _ _ _ _ => (gN 4 sc__law_apart_poly.nd)) (fun _ _ _ _ _ => pts_no) (fun _ _ _ _ _ => (xv 4)))) dg_nil))) do_no (do_e (xv 2)))))
      (ds_cons (sS 5 sc__law_apart_poly.nd (dx_fz (dn_lst (da_cons dx_i da_nil))))
      (ds_cons (ds_for (vs := [6]) (gg := (gName 6)) (bind := (bNm 6)) (passes_of rfl) rfl (bd_nm (by decide)) (di_seq (xv 3)) (gN 6 sc__law_apart_poly.nd) (ds_cons (sS 6 sc__law_apart_poly.nd (dx_op op_add d_add (xv 6) (dx_op op_mulW d_mul (xv 1) (dx_op op_sub d_sub (cc_call (cal__law_take T) (hr.mono (by decide)) (T.gl 73 "_law_take" rfl) (fun σ => passAt (takes_of rfl rfl rfl rfl) σ) (xG 0 (dg_cons dx_i dg_nil))) dx_i))))
      (ds_cons (sS 7 sc__law_apart_poly.nd (dx_fz (dn_plus (dx_fz (dn_lst (da_cons dx_i da_nil))) (xv 5))))
      (ds_one (sS 5 sc__law_apart_poly.nd (dx_fz (dn_lc (own := [("_law_k", 8)]) (g := (gName 8)) (bind := (bNm 8)) rfl sc__law_apart_poly.nd (di_rg1 (by rfl) (T.fr 9 "range" rfl) (da_cons (dx_bi (c_len rfl) k_len (by rfl) (T.fr 6 "len" rfl) PySem.boot_len (da_cons (xv 7) da_nil)) da_nil)) (blkOk_by (own := [("_law_k", 8)]) (N := ["_law_hand_here", "_law_p", "_law_degree", "_law_roots_here", "_law_number", "_law_poly", "_law_root", "_law_up", "_law_k", "_law_far"]) (sc := defScope (top 113)) (by decide +kernel)) (bd_nm (by decide)) (fun _ _ _ _ _ => (gN 8 sc__law_apart_poly.nd)) (fun _ _ _ _ _ => pts_no) (fun _ _ _ _ _ => (dx_op op_sub d_sub (dx_ix (xv 7) (xv 8)) (dx_op op_mulW d_mul (xv 6) (dx_ix (dx_fz (dn_plus (xv 5) (dx_fz (dn_lst (da_cons dx_i da_nil))))) (xv 8))))))))))))
      (ds_cons (ds_if (dt_cmp (c_eqD hr.units rfl) d_eq (cc_call (cal__law_take T) (hr.mono (by decide)) (T.gl 73 "_law_take" rfl) (fun σ => passAt (takes_of rfl rfl rfl rfl) σ) (xG 0 (dg_cons dx_i dg_nil))) dx_i) (ds_one (ds_ret (xv 5))) ds_nil)
      (ds_cons (sS 9 sc__law_apart_poly.nd (cc_call (cal__law_pick T) (hr.mono (by decide)) (T.gl 59 "_law_pick" rfl) (fun σ => passAt (takes_of rfl rfl rfl rfl) σ) (xG 0 (dg_cons (dx_fz (dn_lst (da_cons dx_i (da_cons dx_i (da_cons dx_i (da_cons (dx_op op_pow d_pow dx_i dx_i) da_nil)))))) dg_nil))))
      (ds_one (ds_ret (dx_fz (dn_plus (dx_fz (dn_lc (own := [("_law_k", 8)]) (g := (gName 8)) (bind := (bNm 8)) rfl sc__law_apart_poly.nd (di_rg1 (by rfl) (T.fr 9 "range" rfl) (da_cons (dx_op op_sub d_sub (dx_bi (c_len rfl) k_len (by rfl) (T.fr 6 "len" rfl) PySem.boot_len (da_cons (xv 5) da_nil)) dx_i) da_nil)) (blkOk_by (own := [("_law_k", 8)]) (N := ["_law_hand_here", "_law_p", "_law_degree", "_law_roots_here", "_law_number", "_law_poly", "_law_root", "_law_up", "_law_k", "_law_far"]) (sc := defScope (top 113)) (by decide +kernel)) (bd_nm (by decide)) (fun _ _ _ _ _ => (gN 8 sc__law_apart_poly.nd)) (fun _ _ _ _ _ => pts_no) (fun _ _ _ _ _ => (dx_op op_add d_add (dx_ix (xv 5) (xv 8)) (dx_op op_mulW d_mul (dx_op op_mulW d_mul (xv 1) (xv 9)) (dx_op op_sub d_sub (cc_call (cal__law_take T) (hr.mono (by decide)) (T.gl 73 "_law_take" rfl) passF (xG 0 (dg_cons dx_i dg_nil))) dx_i)))))) (dx_fz (dn_lst (da_cons dx_i da_nil)))))))))))))) (FunD.bindsN D (fun _ _ _ _ _ _ us hl => match us, hl with | [_, _, _], _ => rfl))
theorem sc__law_num : FnScope ["_law_p", "_law_many"] ["_law_p", "_law_many"] (defScope (top 106)) := ⟨rfl, rfl, rfl, by decide +kernel, rfl, by decide +kernel, by decide +kernel⟩
theorem cal__law_num (T : Fs tb K mg) : Cal P w ⟨K, mg, none⟩ base false 1 (He.ga K "_law_num") 2 F__law_num [] := by
  obtain ⟨fd, D⟩ : ∃ fd, FunD K "_law_num" "_law_num" (defArgs (top 106)) (defBody (top 106)) (defScope (top 106)) [] [] (He.ga K "_law_num") fd := T.says.def_ 55 rfl
  exact cal_of D (ok_def (N := ["_law_p", "_law_many"]) (ps := ["_law_p", "_law_many"]) (k := 0) (c := ⟨K, mg, none⟩) D sc__law_num (fun cdv A outer s H E hr => (ds_cons (ds_if (dt_cmp (c_eqD hr.units rfl) d_eq (xv 0) dx_i) (ds_one (ds_ret (dx_tup (da_cons (xv 1) (da_cons dx_i da_nil))))) ds_nil)
      (ds_one (ds_ret (dx_op op_modN d_mod (dx_ty call_int1 k_int (by rfl) (T.fr 4 "int" rfl) PyProof.Rows.boot_int (da_cons (xv 1) da_nil)) (xv 0))))))) (FunD.bindsN D (fun _ _ _ _ _ _ us hl => match us, hl with | [_, _], _ => rfl))
theorem sc__law_plus : FnScope ["_law_p", "_law_one", "_law_other"] ["_law_p", "_law_one", "_law_other"] (defScope (top 107)) := ⟨rfl, rfl, rfl, by decide +kernel, rfl, by decide +kernel, by decide +kernel⟩
theorem cal__law_plus (T : Fs tb K mg) : Cal P w ⟨K, mg, none⟩ base false 3 (He.ga K "_law_plus") 3 F__law_plus [] := by
  obtain ⟨fd, D⟩ : ∃ fd, FunD K "_law_plus" "_law_plus" (defArgs (top 107)) (defBody (top 107)) (defScope (top 107)) [] [] (He.ga K "_law_plus") fd := T.says.def_ 56 rfl
  exact cal_of D (ok_def (N := ["_law_p", "_law_one", "_law_other"]) (ps := ["_law_p", "_law_one", "_law_other"]) (k := 2) (c := ⟨K, mg, none⟩) D sc__law_plus (fun cdv A outer s H E hr => (ds_cons (ds_if (dt_cmp (c_eqD hr.units rfl) d_eq (xv 0) dx_i) (ds_cons (ds_if (PW.pt (dw_and (dt_cmp (c_eqD hr.units rfl) d_eq (dx_ix (xv 1) dx_i) dx_i) (dw_and1 (dt_cmp (c_eqD hr.units rfl) d_eq (dx_ix (xv 2) dx_i) dx_i)))) (ds_one (ds_ret (dx_tup (da_cons (dx_op op_add d_add (dx_ix (xv 1) dx_i) (dx_ix (xv 2) dx_i)) (da_cons dx_i da_nil))))) ds_nil)
      (ds_one (ds_ret (cc_call (cal__law_ratio T) (hr.mono (by decide)) (T.gl 75 "_law_ratio" rfl) (fun σ => passAt (takes_of rfl rfl rfl rfl) σ) (dg_cons (dx_op op_add d_add (dx_op op_mulW d_mul (dx_ix (xv 1) dx_i) (dx_ix (xv 2) dx_i)) (dx_op op_mulW d_mul (dx_ix (xv 2) dx_i) (dx_ix (xv 1) dx_i))) (dg_cons (dx_op op_mulW d_mul (dx_ix (xv 1) dx_i) (dx_ix (xv 2) dx_i)) dg_nil)))))) ds_nil)
      (ds_one (ds_ret (dx_op op_modN d_mod (dx_ty call_int1 k_int (by rfl) (T.fr 4 "int" rfl) PyProof.Rows.boot_int (da_cons (dx_op op_add d_add (xv 1) (xv 2)) da_nil)) (xv 0))))))) (FunD.bindsN D (fun _ _ _ _ _ _ us hl => match us, hl with | [_, _, _], _ => rfl))
theorem sc__law_times : FnScope ["_law_p", "_law_one", "_law_other"] ["_law_p", "_law_one", "_law_other"] (defScope (top 108)) := ⟨rfl, rfl, rfl, by decide +kernel, rfl, by decide +kernel, by decide +kernel⟩
theorem cal__law_times (T : Fs tb K mg) : Cal P w ⟨K, mg, none⟩ base false 3 (He.ga K "_law_times") 3 F__law_times [] := by
  obtain ⟨fd, D⟩ : ∃ fd, FunD K "_law_times" "_law_times" (defArgs (top 108)) (defBody (top 108)) (defScope (top 108)) [] [] (He.ga K "_law_times") fd := T.says.def_ 57 rfl
  exact cal_of D (ok_def (N := ["_law_p", "_law_one", "_law_other"]) (ps := ["_law_p", "_law_one", "_law_other"]) (k := 2) (c := ⟨K, mg, none⟩) D sc__law_times (fun cdv A outer s H E hr => (ds_cons (ds_if (dt_cmp (c_eqD hr.units rfl) d_eq (xv 0) dx_i) (ds_cons (ds_if (PW.pt (dw_and (dt_cmp (c_eqD hr.units rfl) d_eq (dx_ix (xv 1) dx_i) dx_i) (dw_and1 (dt_cmp (c_eqD hr.units rfl) d_eq (dx_ix (xv 2) dx_i) dx_i)))) (ds_one (ds_ret (dx_tup (da_cons (dx_op op_mulW d_mul (dx_ix (xv 1) dx_i) (dx_ix (xv 2) dx_i)) (da_cons dx_i da_nil))))) ds_nil)
      (ds_one (ds_ret (cc_call (cal__law_ratio T) (hr.mono (by decide)) (T.gl 75 "_law_ratio" rfl) (fun σ => passAt (takes_of rfl rfl rfl rfl) σ) (dg_cons (dx_op op_mulW d_mul (dx_ix (xv 1) dx_i) (dx_ix (xv 2) dx_i)) (dg_cons (dx_op op_mulW d_mul (dx_ix (xv 1) dx_i) (dx_ix (xv 2) dx_i)) dg_nil)))))) ds_nil)
      (ds_one (ds_ret (dx_op op_modN d_mod (dx_ty call_int1 k_int (by rfl) (T.fr 4 "int" rfl) PyProof.Rows.boot_int (da_cons (dx_op op_mulW d_mul (xv 1) (xv 2)) da_nil)) (xv 0))))))) (FunD.bindsN D (fun _ _ _ _ _ _ us hl => match us, hl with | [_, _, _], _ => rfl))
theorem sc__law_value : FnScope ["_law_p", "_law_poly", "_law_at", "_law_total", "_law_k"] ["_law_p", "_law_poly", "_law_at"] (defScope (top 93)) := ⟨rfl, rfl, rfl, by decide +kernel, rfl, by decide +kernel, by decide +kernel⟩
theorem cal__law_value (T : Fs tb K mg) : Cal P w ⟨K, mg, none⟩ base false 4 (He.ga K "_law_value") 3 F__law_value [] := by
  obtain ⟨fd, D⟩ : ∃ fd, FunD K "_law_value" "_law_value" (defArgs (top 93)) (defBody (top 93)) (defScope (top 93)) [] [] (He.ga K "_law_value") fd := T.says.def_ 58 rfl
  exact cal_of D (ok_def (N := ["_law_p", "_law_poly", "_law_at", "_law_total", "_law_k"]) (ps := ["_law_p", "_law_poly", "_law_at"]) (k := 3) (c := ⟨K, mg, none⟩) D sc__law_value (fun cdv A outer s H E hr => (ds_cons (sS 3 sc__law_value.nd (cc_call (cal__law_num T) (hr.mono (by decide)) (T.gl 76 "_law_num" rfl) (fun σ => passAt (takes_of rfl rfl rfl rfl) σ) (xG 0 (dg_cons dx_i dg_nil))))
      (ds_cons (ds_for (vs := [4]) (gg := (gName 4)) (bind := (bNm 4)) (passes_of rfl) rfl (bd_nm (by decide)) (di_rg1 (by rfl) (T.fr 9 "range" rfl) (da_cons (dx_bi (c_len rfl) k_len (by rfl) (T.fr 6 "len" rfl) PySem.boot_len (da_cons (xv 1) da_nil)) da_nil)) (gN 4 sc__law_value.nd) (ds_one (sS 3 sc__law_value.nd (cc_call (cal__law_plus T) (hr.mono (by decide)) (T.gl 77 "_law_plus" rfl) (fun σ => passAt (takes_of rfl rfl rfl rfl) σ) (xG 0 (dg_cons (cc_call (cal__law_times T) (hr.mono (by decide)) (T.gl 78 "_law_times" rfl) (fun σ => passAt (takes_of rfl rfl rfl rfl) σ) (xG 0 (xG 3 (xG 2 dg_nil)))) (dg_cons (dx_ix (xv 1) (dx_op op_sub d_sub (dx_op op_sub d_sub (dx_bi (c_len rfl) k_len (by rfl) (T.fr 6 "len" rfl) PySem.boot_len (da_cons (xv 1) da_nil)) dx_i) (xv 4))) dg_nil)))))))
      (ds_one (ds_ret (xv 3))))))) (FunD.bindsN D (fun _ _ _ _ _ _ us hl => match us, hl with | [_, _, _], _ => rfl))
theorem sc__law_roots : FnScope ["_law_p", "_law_poly", "_law_number"] ["_law_p", "_law_poly"] (defScope (top 94)) := ⟨rfl, rfl, rfl, by decide +kernel, rfl, by decide +kernel, by decide +kernel⟩
theorem cal__law_roots (T : Fs tb K mg) : Cal P w ⟨K, mg, none⟩ base false 5 (He.ga K "_law_roots") 2 F__law_roots [] := by
  obtain ⟨fd, D⟩ : ∃ fd, FunD K "_law_roots" "_law_roots" (defArgs (top 94)) (defBody (top 94)) (defScope (top 94)) [] [] (He.ga K "_law_roots") fd := T.says.def_ 59 rfl
  exact cal_of D (ok_def (N := ["_law_p", "_law_poly", "_law_number"]) (ps := ["_law_p", "_law_poly"]) (k := 4) (c := ⟨K, mg, none⟩) D sc__law_roots (fun cdv A outer s H E hr => (ds_one (ds_ret (dx_fz (dn_lc (own := [("_law_number", 2)]) (g := (gName 2)) (bind := (bNm 2)) rfl sc__law_roots.nd (di_rg1 (by rfl) (T.fr 9 "range" rfl) (da_cons (xv 0) da_nil)) (blkOk_by (own := [("_law_number", 2)]) (N := ["_law_p", "_law_poly", "_law_number"]) (sc := defScope (top 94)) (by decide +kernel)) (bd_nm (by decide)) (fun _ _ _ _ _ => (gN 2 sc__law_roots.nd)) (fun _ _ _ _ _ => (pts_if (dt_cmp (c_eqD hr.units rfl) d_eq (cc_call (cal__law_value T) (hr.mono (by decide)) (T.gl 63 "_law_value" rfl) passF (xG 0 (xG 1 (xG 2 dg_nil)))) dx_i))) (fun _ _ _ _ _ => (xv 2)))))))) (FunD.bindsN D (fun _ _ _ _ _ _ us hl => match us, hl with | [_, _], _ => rfl))
theorem sc__law_extra : FnScope ["_law_p", "_law_poly"] ["_law_p", "_law_poly"] (defScope (top 95)) := ⟨rfl, rfl, rfl, by decide +kernel, rfl, by decide +kernel, by decide +kernel⟩
theorem cal__law_extra (T : Fs tb K mg) : Cal P w ⟨K, mg, none⟩ base false 6 (He.ga K "_law_extra") 2 F__law_extra [] := by
  obtain ⟨fd, D⟩ : ∃ fd, FunD K "_law_extra" "_law_extra" (defArgs (top 95)) (defBody (top 95)) (defScope (top 95)) [] [] (He.ga K "_law_extra") fd := T.says.def_ 60 rfl
  exact cal_of D (ok_def (N := ["_law_p", "_law_poly"]) (ps := ["_law_p", "_law_poly"]) (k := 5) (c := ⟨K, mg, none⟩) D sc__law_extra (fun cdv A outer s H E hr => (ds_one (ds_ret (dx_ty call_int1 k_int (by rfl) (T.fr 4 "int" rfl) PyProof.Rows.boot_int (da_cons (dx_cmp op_lt d_lt (dx_bi (c_len rfl) k_len (by rfl) (T.fr 6 "len" rfl) PySem.boot_len (da_cons (cc_call (cal__law_roots T) (hr.mono (by decide)) (T.gl 64 "_law_roots" rfl) (fun σ => passAt (takes_of rfl rfl rfl rfl) σ) (xG 0 (xG 1 dg_nil))) da_nil)) (dx_op op_sub d_sub (dx_bi (c_len rfl) k_len (by rfl) (T.fr 6 "len" rfl) PySem.boot_len (da_cons (xv 1) da_nil)) dx_i)) da_nil)))))) (FunD.bindsN D (fun _ _ _ _ _ _ us hl => match us, hl with | [_, _], _ => rfl))
end
end N78
namespace N78
open PySem PySem.Spec PyProof.Rows L2 Fw Pd
section
variable {P : Program} {w : World} {K : PySem.W.Frag} {mg : Str → Option Value} {base : Heap}
theorem sc__law_parts : FnScope ["_law_hand_here", "_law_degree", "_law_free", "_law_far", "_law_roots_here", "_law_k"] ["_law_hand_here", "_law_degree"] (defScope (top 96)) := ⟨rfl, rfl, rfl, by decide +kernel, rfl, by decide +kernel, by decide +kernel⟩
theorem cal__law_parts (T : Fs tb K mg) : Cal P w ⟨K, mg, none⟩ base false 4 (He.ga K "_law_parts") 2 F__law_parts [] := by
  obtain ⟨fd, D⟩ : ∃ fd, FunD K "_law_parts" "_law_parts" (defArgs (top 96)) (defBody (top 96)) (defScope (top 96)) [] [] (He.ga K "_law_parts") fd := T.says.def_ 61 rfl
  exact cal_of D (ok_def (N := ["_law_hand_here", "_law_degree", "_law_free", "_law_far", "_law_roots_here", "_law_k"]) (ps := ["_law_hand_here", "_law_degree"]) (k := 3) (c := ⟨K, mg, none⟩) D sc__law_parts (fun cdv A outer s H E hr => (ds_cons (sS 2 sc__law_parts.nd (dx_if (dt_cmp op_gt d_gt (cc_call (cal__law_take T) (hr.mono (by decide)) (T.gl 73 "_law_take" rfl) (fun σ => passAt (takes_of rfl rfl rfl rfl) σ) (xG 0 (dg_cons dx_i dg_nil))) dx_i) (cc_call (cal__law_take T) (hr.mono (by decide)) (T.gl 73 "_law_take" rfl) (fun σ => passAt (takes_of rfl rfl rfl rfl) σ) (xG 0 (dg_cons (dx_op op_add d_add (dx_bi (call_min2 rfl) k_min2 (by rfl) (T.fr 8 "min" rfl) (by decide +kernel) (da_cons (xv 1) (da_cons dx_i da_nil))) dx_i) dg_nil))) dx_i))
      (ds_cons (sS 3 sc__law_parts.nd (dx_if (dt_cmp op_lt d_lt (xv 1) dx_i) (cc_call (cal__law_pick T) (hr.mono (by decide)) (T.gl 59 "_law_pick" rfl) (fun σ => passAt (takes_of rfl rfl rfl rfl) σ) (xG 0 (dg_cons (dx_fz (dn_lst (da_cons dx_i (da_cons dx_i (da_cons dx_i (da_cons dx_i (da_cons dx_i (da_cons dx_i (da_cons dx_i (da_cons dx_i (da_cons dx_i da_nil))))))))))) dg_nil))) dx_i))
      (ds_cons (sSN 4 sc__law_parts.nd (dn_lst da_nil))
      (ds_cons (ds_for (vs := [5]) (gg := (gName 5)) (bind := (bNm 5)) (passes_of rfl) rfl (bd_nm (by decide)) (di_rg1 (by rfl) (T.fr 9 "range" rfl) (da_cons (dx_op op_sub d_sub (xv 1) (xv 2)) da_nil)) (gN 5 sc__law_parts.nd) (ds_one (ds_app (xP 4) (dn_of (dx_op op_add d_add (dx_op op_sub d_sub (cc_call (cal__law_take T) (hr.mono (by decide)) (T.gl 73 "_law_take" rfl) (fun σ => passAt (takes_of rfl rfl rfl rfl) σ) (xG 0 (dg_cons dx_i dg_nil))) dx_i) (dx_op op_mulW d_mul (xv 3) (dx_op op_sub d_sub (cc_call (cal__law_take T) (hr.mono (by decide)) (T.gl 73 "_law_take" rfl) (fun σ => passAt (takes_of rfl rfl rfl rfl) σ) (xG 0 (dg_cons dx_i dg_nil))) dx_i)))))))
      (ds_one (ds_frz 4 (ds_ret (dx_fz (dn_lst (da_cons (xv 4) (da_cons (dx_fz (dn_plus (dx_fz (dn_lc (own := [("_law_k", 5)]) (g := (gName 5)) (bind := (bNm 5)) rfl sc__law_parts.nd (di_rg1 (by rfl) (T.fr 9 "range" rfl) (da_cons (xv 2) da_nil)) (blkOk_by (own := [("_law_k", 5)]) (N := ["_law_hand_here", "_law_degree", "_law_free", "_law_far", "_law_roots_here", "_law_k"]) (sc := defScope (top 96)) (by decide +kernel)) (bd_nm (by decide)) (fun _ _ _ _ _ => (gN 5 sc__law_parts.nd)) (fun _ _ _ _ _ => pts_no) (fun _ _ _ _ _ => (dx_op op_sub d_sub (cc_call (cal__law_take T) (hr.mono (by decide)) (T.gl 73 "_law_take" rfl) passF (xG 0 (dg_cons dx_i dg_nil))) dx_i)))) (dx_fz (dn_lst (da_cons dx_i da_nil))))) (da_cons (xv 3) da_nil)))))))))))))) (FunD.bindsN D (fun _ _ _ _ _ _ us hl => match us, hl with | [_, _], _ => rfl))
theorem sc__law_over : FnScope ["_law_p", "_law_one", "_law_other", "_law_told", "_law_k"] ["_law_p", "_law_one", "_law_other"] (defScope (top 110)) := ⟨rfl, rfl, rfl, by decide +kernel, rfl, by decide +kernel, by decide +kernel⟩
theorem cal__law_over (T : Fs tb K mg) : Cal P w ⟨K, mg, none⟩ base false 3 (He.ga K "_law_over") 3 F__law_over [] := by
  obtain ⟨fd, D⟩ : ∃ fd, FunD K "_law_over" "_law_over" (defArgs (top 110)) (defBody (top 110)) (defScope (top 110)) [] [] (He.ga K "_law_over") fd := T.says.def_ 62 rfl
  exact cal_of D (ok_def (N := ["_law_p", "_law_one", "_law_other", "_law_told", "_law_k"]) (ps := ["_law_p", "_law_one", "_law_other"]) (k := 2) (c := ⟨K, mg, none⟩) D sc__law_over (fun cdv A outer s H E hr => (ds_cons (ds_if (dt_cmp (c_eqD hr.units rfl) d_eq (xv 0) dx_i) (ds_one (ds_ret (cc_call (cal__law_ratio T) (hr.mono (by decide)) (T.gl 75 "_law_ratio" rfl) (fun σ => passAt (takes_of rfl rfl rfl rfl) σ) (dg_cons (dx_op op_mulW d_mul (dx_ix (xv 1) dx_i) (dx_ix (xv 2) dx_i)) (dg_cons (dx_op op_mulW d_mul (dx_ix (xv 1) dx_i) (dx_ix (xv 2) dx_i)) dg_nil))))) ds_nil)
      (ds_cons (sS 3 sc__law_over.nd (xv 1))
      (ds_cons (ds_for (vs := [4]) (gg := (gName 4)) (bind := (bNm 4)) (passes_of rfl) rfl (bd_nm (by decide)) (di_rg1 (by rfl) (T.fr 9 "range" rfl) (da_cons (dx_op op_sub d_sub (xv 0) dx_i) da_nil)) (gN 4 sc__law_over.nd) (ds_one (sS 3 sc__law_over.nd (dx_op op_modN d_mod (dx_ty call_int1 k_int (by rfl) (T.fr 4 "int" rfl) PyProof.Rows.boot_int (da_cons (dx_op op_mulW d_mul (xv 3) (xv 2)) da_nil)) (xv 0)))))
      (ds_one (ds_ret (xv 3)))))))) (FunD.bindsN D (fun _ _ _ _ _ _ us hl => match us, hl with | [_, _, _], _ => rfl))
theorem sc__law_read : FnScope ["_law_p", "_law_ratio_here"] ["_law_p", "_law_ratio_here"] (defScope (top 91)) := ⟨rfl, rfl, rfl, by decide +kernel, rfl, by decide +kernel, by decide +kernel⟩
theorem cal__law_read (T : Fs tb K mg) : Cal P w ⟨K, mg, none⟩ base false 4 (He.ga K "_law_read") 2 F__law_read [] := by
  obtain ⟨fd, D⟩ : ∃ fd, FunD K "_law_read" "_law_read" (defArgs (top 91)) (defBody (top 91)) (defScope (top 91)) [] [] (He.ga K "_law_read") fd := T.says.def_ 63 rfl
  exact cal_of D (ok_def (N := ["_law_p", "_law_ratio_here"]) (ps := ["_law_p", "_law_ratio_here"]) (k := 3) (c := ⟨K, mg, none⟩) D sc__law_read (fun cdv A outer s H E hr => (ds_one (ds_ret (cc_call (cal__law_over T) (hr.mono (by decide)) (T.gl 80 "_law_over" rfl) (fun σ => passAt (takes_of rfl rfl rfl rfl) σ) (xG 0 (dg_cons (dx_op op_modN d_mod (dx_ty call_int1 k_int (by rfl) (T.fr 4 "int" rfl) PyProof.Rows.boot_int (da_cons (dx_ix (xv 1) dx_i) da_nil)) (xv 0)) (dg_cons (dx_op op_modN d_mod (dx_ty call_int1 k_int (by rfl) (T.fr 4 "int" rfl) PyProof.Rows.boot_int (da_cons (dx_ix (xv 1) dx_i) da_nil)) (xv 0)) dg_nil)))))))) (FunD.bindsN D (fun _ _ _ _ _ _ us hl => match us, hl with | [_, _], _ => rfl))
theorem sc__law_common_bottom : FnScope ["_law_poly", "_law_told", "_law_number"] ["_law_poly"] (defScope (top 117)) := ⟨rfl, rfl, rfl, by decide +kernel, rfl, by decide +kernel, by decide +kernel⟩
theorem cal__law_common_bottom (T : Fs tb K mg) : Cal P w ⟨K, mg, none⟩ base false 2 (He.ga K "_law_common_bottom") 1 F__law_common_bottom [] := by
  obtain ⟨fd, D⟩ : ∃ fd, FunD K "_law_common_bottom" "_law_common_bottom" (defArgs (top 117)) (defBody (top 117)) (defScope (top 117)) [] [] (He.ga K "_law_common_bottom") fd := T.says.def_ 64 rfl
  exact cal_of D (ok_def (N := ["_law_poly", "_law_told", "_law_number"]) (ps := ["_law_poly"]) (k := 1) (c := ⟨K, mg, none⟩) D sc__law_common_bottom (fun cdv A outer s H E hr => (ds_cons (sS 1 sc__law_common_bottom.nd dx_i)
      (ds_cons (ds_for (vs := [2]) (gg := (gName 2)) (bind := (bNm 2)) (passes_of rfl) rfl (bd_nm (by decide)) (di_seq (xv 0)) (gN 2 sc__law_common_bottom.nd) (ds_one (sS 1 sc__law_common_bottom.nd (dx_op op_mulW d_mul (dx_op op_fdivG d_div (xv 1) (cc_call (cal__law_gcd T) (hr.mono (by decide)) (T.gl 74 "_law_gcd" rfl) (fun σ => passAt (takes_of rfl rfl rfl rfl) σ) (xG 1 (dg_cons (dx_ix (xv 2) dx_i) dg_nil)))) (dx_ix (xv 2) dx_i)))))
      (ds_one (ds_ret (xv 1))))))) (FunD.bindsN D (fun _ _ _ _ _ _ us hl => match us, hl with | [_], _ => rfl))
theorem sc__law_plain : FnScope ["_law_number", "_law_modulus"] ["_law_number", "_law_modulus"] (defScope (top 116)) := ⟨rfl, rfl, rfl, by decide +kernel, rfl, by decide +kernel, by decide +kernel⟩
theorem cal__law_plain (T : Fs tb K mg) : Cal P w ⟨K, mg, none⟩ base false 1 (He.ga K "_law_plain") 2 F__law_plain_78 [] := by
  obtain ⟨fd, D⟩ : ∃ fd, FunD K "_law_plain" "_law_plain" (defArgs (top 116)) (defBody (top 116)) (defScope (top 116)) [] [] (He.ga K "_law_plain") fd := T.says.def_ 65 rfl
  exact cal_of D (ok_def (N := ["_law_number", "_law_modulus"]) (ps := ["_law_number", "_law_modulus"]) (k := 0) (c := ⟨K, mg, none⟩) D sc__law_plain (fun cdv A outer s H E hr => (ds_one (ds_ret (dx_and (dx_is T.gt (by decide) (by rfl) (T.fr 5 "isinstance" rfl) (xv 0) (pe_bltn (v := .ty "int") (by rfl) (T.fr 4 "int" rfl) (by decide +kernel) rfl)) (dx_and (dx_not (dx_is T.gt (by decide) (by rfl) (T.fr 5 "isinstance" rfl) (xv 0) (pe_bltn (v := .ty "bool") (by rfl) (T.fr 2 "bool" rfl) (by decide +kernel) rfl))) (dx_one (dx_ch op_le op_lt d_le d_lt dx_i (xv 0) (xv 1))))))))) (FunD.bindsN D (fun _ _ _ _ _ _ us hl => match us, hl with | [_, _], _ => rfl))
theorem sc__law_whole_value : FnScope ["_law_poly", "_law_at", "_law_total", "_law_k"] ["_law_poly", "_law_at"] (defScope (top 98)) := ⟨rfl, rfl, rfl, by decide +kernel, rfl, by decide +kernel, by decide +kernel⟩
theorem cal__law_whole_value (T : Fs tb K mg) : Cal P w ⟨K, mg, none⟩ base false 1 (He.ga K "_law_whole_value") 2 F__law_whole_value [] := by
  obtain ⟨fd, D⟩ : ∃ fd, FunD K "_law_whole_value" "_law_whole_value" (defArgs (top 98)) (defBody (top 98)) (defScope (top 98)) [] [] (He.ga K "_law_whole_value") fd := T.says.def_ 66 rfl
  exact cal_of D (ok_def (N := ["_law_poly", "_law_at", "_law_total", "_law_k"]) (ps := ["_law_poly", "_law_at"]) (k := 0) (c := ⟨K, mg, none⟩) D sc__law_whole_value (fun cdv A outer s H E hr => (ds_cons (sS 2 sc__law_whole_value.nd dx_i)
      (ds_cons (ds_for (vs := [3]) (gg := (gName 3)) (bind := (bNm 3)) (passes_of rfl) rfl (bd_nm (by decide)) (di_rg1 (by rfl) (T.fr 9 "range" rfl) (da_cons (dx_bi (c_len rfl) k_len (by rfl) (T.fr 6 "len" rfl) PySem.boot_len (da_cons (xv 0) da_nil)) da_nil)) (gN 3 sc__law_whole_value.nd) (ds_one (sS 2 sc__law_whole_value.nd (dx_op op_add d_add (dx_op op_mulW d_mul (xv 2) (xv 1)) (dx_ix (xv 0) (dx_op op_sub d_sub (dx_op op_sub d_sub (dx_bi (c_len rfl) k_len (by rfl) (T.fr 6 "len" rfl) PySem.boot_len (da_cons (xv 0) da_nil)) dx_i) (xv 3)))))))
      (ds_one (ds_ret (xv 2))))))) (FunD.bindsN D (fun _ _ _ _ _ _ us hl => match us, hl with | [_, _], _ => rfl))
theorem sc__law_roots_right : FnScope ["_law_p", "_law_poly", "_law_modulus", "_law_told", "_law_here", "_law_number", "_law_bottom", "_law_wholes", "_law_root", "_law_one"] ["_law_p", "_law_poly", "_law_modulus", "_law_told"] (defScope (top 118)) := ⟨rfl, rfl, rfl, by decide +kernel, rfl, by decide +kernel, by decide +kernel⟩
theorem cal__law_roots_right (T : Fs tb K mg) : Cal P w ⟨K, mg, none⟩ base false 6 (He.ga K "_law_roots_right") 4 F__law_roots_right [] := by
  obtain ⟨fd, D⟩ : ∃ fd, FunD K "_law_roots_right" "_law_roots_right" (defArgs (top 118)) (defBody (top 118)) (defScope (top 118)) [] [] (He.ga K "_law_roots_right") fd := T.says.def_ 67 rfl
  exact cal_of D (ok_def (N := ["_law_p", "_law_poly", "_law_modulus", "_law_told", "_law_here", "_law_number", "_law_bottom", "_law_wholes", "_law_root", "_law_one"]) (ps := ["_law_p", "_law_poly", "_law_modulus", "_law_told"]) (k := 5) (c := ⟨K, mg, none⟩) D sc__law_roots_right (fun cdv A outer s H E hr => (ds_cons (sS 4 sc__law_roots_right.nd (cc_call (cal__law_roots T) (hr.mono (by decide)) (T.gl 64 "_law_roots" rfl) (fun σ => passAt (takes_of rfl rfl rfl rfl) σ) (xG 0 (dg_cons (dx_fz (dn_lc (own := [("_law_number", 5)]) (g := (gName 5)) (bind := (bNm 5)) rfl sc__law_roots_right.nd (di_seq (xv 1)) (blkOk_by (own := [("_law_number", 5)]) (N := ["_law_p", "_law_poly", "_law_modulus", "_law_told", "_law_here", "_law_number", "_law_bottom", "_law_wholes", "_law_root", "_law_one"]) (sc := defScope (top 118)) (by decide +kernel)) (bd_nm (by decide)) (fun _ _ _ _ _ => (gN 5 sc__law_roots_right.nd)) (fun _ _ _ _ _ => pts_no) (fun _ _ _ _ _ => (cc_call (cal__law_read T) (hr.mono (by decide)) (T.gl 61 "_law_read" rfl) passF (xG 0 (xG 5 dg_nil)))))) dg_nil))))
      (ds_cons (ds_if (PW.pt (dw_or (dt_not (dt_tru rfl (dx_is T.gt (by decide) (by rfl) (T.fr 5 "isinstance" rfl) (xv 3) (pe_bltn (v := .ty "tuple") (by rfl) (T.fr 12 "tuple" rfl) (by decide +kernel) rfl)))) (dw_or (dt_cmp (c_neD hr.units rfl) d_ne (dx_bi (c_len rfl) k_len (by rfl) (T.fr 6 "len" rfl) PySem.boot_len (da_cons (xv 3) da_nil)) (dx_bi (c_len rfl) k_len (by rfl) (T.fr 6 "len" rfl) PySem.boot_len (da_cons (xv 4) da_nil))) (dw_or1 (dt_cmp (c_neD hr.units rfl) d_ne (dx_bi (c_len rfl) k_len (by rfl) (T.fr 6 "len" rfl) PySem.boot_len (da_cons (xv 4) da_nil)) (dx_op op_sub d_sub (dx_bi (c_len rfl) k_len (by rfl) (T.fr 6 "len" rfl) PySem.boot_len (da_cons (xv 1) da_nil)) dx_i)))))) (ds_one (ds_ret dx_b)) ds_nil)
      (ds_cons (sS 6 sc__law_roots_right.nd (cc_call (cal__law_common_bottom T) (hr.mono (by decide)) (T.gl 87 "_law_common_bottom" rfl) (fun σ => passAt (takes_of rfl rfl rfl rfl) σ) (xG 1 dg_nil)))
      (ds_cons (ds_setLcF (i := 7) (own := [("_law_number", 5)]) (g := (gName 5)) (bind := (bNm 5)) rfl sc__law_roots_right.nd rfl rfl (sw_true rfl rfl rfl (by decide +kernel)) (di_seq (xv 1)) (blkOk_by (own := [("_law_number", 5)]) (N := ["_law_p", "_law_poly", "_law_modulus", "_law_told", "_law_here", "_law_number", "_law_bottom", "_law_wholes", "_law_root", "_law_one"]) (sc := defScope (top 118)) (by decide +kernel)) (bd_nm (by decide)) (fun _ _ _ _ _ => (gN 5 sc__law_roots_right.nd)) (fun _ _ _ _ _ => pts_no) (fun _ _ _ _ _ => (dx_op op_mulW d_mul (dx_ix (xv 5) dx_i) (dx_op op_fdivG d_div (xv 6) (dx_ix (xv 5) dx_i)))))
      (ds_cons (ds_for (vs := [8, 9]) (gg := (gTup K 2 (gCons (gName 8) (gCons (gName 9) gNil)))) (bind := (bTp [(bNm 8), (bNm 9)])) (passes_of rfl) rfl (bd_tp rfl (ba_cons (bd_nm (by decide)) (ba_cons (bd_nm (by decide)) ba_nil))) (di_zip (by rfl) (T.fr 13 "zip" rfl) (da_cons (xv 4) (da_cons (xv 3) da_nil))) (pg_tup rfl (pgs_cons (gN 8 sc__law_roots_right.nd) (pgs_cons (gN 9 sc__law_roots_right.nd) pgs_nil))) (ds_cons (ds_if (PW.pt (dw_or (dt_not (dt_tru rfl (cc_call (cal__law_plain T) (hr.mono (by decide)) (T.gl 86 "_law_plain" rfl) (fun σ => passAt (takes_of rfl rfl rfl rfl) σ) (xG 9 (xG 2 dg_nil))))) (dw_or1 (dt_cmp (c_neD hr.units rfl) d_ne (dx_op op_modN d_mod (dx_ty call_int1 k_int (by rfl) (T.fr 4 "int" rfl) PyProof.Rows.boot_int (da_cons (dx_op op_sub d_sub (xv 9) (xv 8)) da_nil)) (xv 0)) dx_i)))) (ds_one (ds_ret dx_b)) ds_nil)
      (ds_one (ds_if (dt_cmp (c_neD hr.units rfl) d_ne (dx_op op_modN d_mod (dx_ty call_int1 k_int (by rfl) (T.fr 4 "int" rfl) PyProof.Rows.boot_int (da_cons (cc_call (cal__law_whole_value T) (hr.mono (by decide)) (T.gl 68 "_law_whole_value" rfl) (fun σ => passAt (takes_of rfl rfl rfl rfl) σ) (xG 7 (xG 9 dg_nil))) da_nil)) (xv 2)) dx_i) (ds_one (ds_ret dx_b)) ds_nil))))
      (ds_one (ds_ret dx_b))))))))) (FunD.bindsN D (fun _ _ _ _ _ _ us hl => match us, hl with | [_, _, _, _], _ => rfl))
theorem sc__law_blank : FnScope ["_law_p", "_law_rows", "_law_columns", "_law_i"] ["_law_p", "_law_rows", "_law_columns"] (defScope (top 111)) := ⟨rfl, rfl, rfl, by decide +kernel, rfl, by decide +kernel, by decide +kernel⟩
theorem cal__law_blank (T : Fs tb K mg) : Cal P w ⟨K, mg, none⟩ base true 2 (He.ga K "_law_blank") 3 F__law_blank [] := by
  obtain ⟨fd, D⟩ : ∃ fd, FunD K "_law_blank" "_law_blank" (defArgs (top 111)) (defBody (top 111)) (defScope (top 111)) [] [] (He.ga K "_law_blank") fd := T.says.def_ 68 rfl
  exact cal_of D (ok_def (N := ["_law_p", "_law_rows", "_law_columns", "_law_i"]) (ps := ["_law_p", "_law_rows", "_law_columns"]) (k := 1) (c := ⟨K, mg, none⟩) D sc__law_blank (fun cdv A outer s H E hr => (ds_one (ds_retWW (dw_lc (own := [("_law_i", 3)]) (g := (gName 3)) (bind := (bNm 3)) rfl sc__law_blank.nd (di_rg1 (by rfl) (T.fr 9 "range" rfl) (da_cons (xv 1) da_nil)) (blkOk_by (own := [("_law_i", 3)]) (N := ["_law_p", "_law_rows", "_law_columns", "_law_i"]) (sc := defScope (top 111)) (by decide +kernel)) (bd_nm (by decide)) (fun _ _ _ _ _ => (gN 3 sc__law_blank.nd)) (fun _ _ _ _ _ => pts_no) (fun _ _ _ _ _ => (dw_of (dn_times (dx_fz (dn_lst (da_cons (cc_call (cal__law_num T) (hr.mono (by decide)) (T.gl 76 "_law_num" rfl) passF (xG 0 (dg_cons dx_i dg_nil))) da_nil))) (xv 2)))))))) (fun _ => by repeat (first | exact nx_ret | exact nx_retV | exact nx_retM | apply nx_seq | apply nx_frz | apply nx_if))) (FunD.bindsN D (fun _ _ _ _ _ _ us hl => match us, hl with | [_, _, _], _ => rfl))
theorem sc__law_less : FnScope ["_law_p", "_law_one", "_law_other"] ["_law_p", "_law_one", "_law_other"] (defScope (top 109)) := ⟨rfl, rfl, rfl, by decide +kernel, rfl, by decide +kernel, by decide +kernel⟩
theorem cal__law_less (T : Fs tb K mg) : Cal P w ⟨K, mg, none⟩ base false 4 (He.ga K "_law_less") 3 F__law_less [] := by
  obtain ⟨fd, D⟩ : ∃ fd, FunD K "_law_less" "_law_less" (defArgs (top 109)) (defBody (top 109)) (defScope (top 109)) [] [] (He.ga K "_law_less") fd := T.says.def_ 69 rfl
  exact cal_of D (ok_def (N := ["_law_p", "_law_one", "_law_other"]) (ps := ["_law_p", "_law_one", "_law_other"]) (k := 3) (c := ⟨K, mg, none⟩) D sc__law_less (fun cdv A outer s H E hr => (ds_cons (ds_if (dt_cmp (c_eqD hr.units rfl) d_eq (xv 0) dx_i) (ds_one (ds_ret (cc_call (cal__law_plus T) (hr.mono (by decide)) (T.gl 77 "_law_plus" rfl) (fun σ => passAt (takes_of rfl rfl rfl rfl) σ) (xG 0 (xG 1 (dg_cons (dx_tup (da_cons (dx_neg (dx_ix (xv 2) dx_i)) (da_cons (dx_ix (xv 2) dx_i) da_nil))) dg_nil)))))) ds_nil)
      (ds_one (ds_ret (dx_op op_modN d_mod (dx_ty call_int1 k_int (by rfl) (T.fr 4 "int" rfl) PyProof.Rows.boot_int (da_cons (dx_op op_sub d_sub (xv 1) (xv 2)) da_nil)) (xv 0))))))) (FunD.bindsN D (fun _ _ _ _ _ _ us hl => match us, hl with | [_, _, _], _ => rfl))
theorem sc__law_column : FnScope ["_law_p", "_law_poly", "_law_size", "_law_told", "_law_k"] ["_law_p", "_law_poly"] (defScope (top 112)) := ⟨rfl, rfl, rfl, by decide +kernel, rfl, by decide +kernel, by decide +kernel⟩
theorem cal__law_column (T : Fs tb K mg) : Cal P w ⟨K, mg, none⟩ base false 5 (He.ga K "_law_column") 2 F__law_column [] := by
  obtain ⟨fd, D⟩ : ∃ fd, FunD K "_law_column" "_law_column" (defArgs (top 112)) (defBody (top 112)) (defScope (top 112)) [] [] (He.ga K "_law_column") fd := T.says.def_ 70 rfl
  exact cal_of D (ok_def (N := ["_law_p", "_law_poly", "_law_size", "_law_told", "_law_k"]) (ps := ["_law_p", "_law_poly"]) (k := 4) (c := ⟨K, mg, none⟩) D sc__law_column (fun cdv A outer s H E hr => (ds_cons (sS 2 sc__law_column.nd (dx_op op_sub d_sub (dx_bi (c_len rfl) k_len (by rfl) (T.fr 6 "len" rfl) PySem.boot_len (da_cons (xv 1) da_nil)) dx_i))
      (ds_cons (sSW 3 sc__law_column.nd (cw_call (cal__law_blank T) (hr.mono (by decide)) (T.gl 81 "_law_blank" rfl) (fun σ => passAt (takes_of rfl rfl rfl rfl) σ) (xG 0 (xG 2 (xG 2 dg_nil)))))
      (ds_cons (ds_for (vs := [4]) (gg := (gName 4)) (bind := (bNm 4)) (passes_of rfl) rfl (bd_nm (by decide)) (di_rg1 (by rfl) (T.fr 9 "range" rfl) (da_cons (dx_op op_sub d_sub (xv 2) dx_i) da_nil)) (gN 4 sc__law_column.nd) (ds_one (ds_st (cc_call (cal__law_num T) (hr.mono (by decide)) (T.gl 76 "_law_num" rfl) (fun σ => passAt (takes_of rfl rfl rfl rfl) σ) (xG 0 (dg_cons dx_i dg_nil))) (dp_ix (xP 3) (dx_op op_add d_add (xv 4) dx_i)) (xv 4))))
      (ds_cons (ds_for (vs := [4]) (gg := (gName 4)) (bind := (bNm 4)) (passes_of rfl) rfl (bd_nm (by decide)) (di_rg1 (by rfl) (T.fr 9 "range" rfl) (da_cons (xv 2) da_nil)) (gN 4 sc__law_column.nd) (ds_one (ds_st (cc_call (cal__law_less T) (hr.mono (by decide)) (T.gl 79 "_law_less" rfl) (fun σ => passAt (takes_of rfl rfl rfl rfl) σ) (xG 0 (dg_cons (cc_call (cal__law_num T) (hr.mono (by decide)) (T.gl 76 "_law_num" rfl) (fun σ => passAt (takes_of rfl rfl rfl rfl) σ) (xG 0 (dg_cons dx_i dg_nil))) (dg_cons (dx_ix (xv 1) (xv 4)) dg_nil)))) (dp_ix (xP 3) (xv 4)) (dx_op op_sub d_sub (xv 2) dx_i))))
      (ds_one (ds_frz 3 (ds_ret (xv 3)))))))))) (FunD.bindsN D (fun _ _ _ _ _ _ us hl => match us, hl with | [_, _], _ => rfl))
theorem sc__law_row_plain : FnScope ["_law_row", "_law_many", "_law_modulus", "_law_number"] ["_law_row", "_law_many", "_law_modulus"] (defScope (top 119)) := ⟨rfl, rfl, rfl, by decide +kernel, rfl, by decide +kernel, by decide +kernel⟩
theorem cal__law_row_plain (T : Fs tb K mg) : Cal P w ⟨K, mg, none⟩ base false 2 (He.ga K "_law_row_plain") 3 F__law_row_plain [] := by
  obtain ⟨fd, D⟩ : ∃ fd, FunD K "_law_row_plain" "_law_row_plain" (defArgs (top 119)) (defBody (top 119)) (defScope (top 119)) [] [] (He.ga K "_law_row_plain") fd := T.says.def_ 71 rfl
  exact cal_of D (ok_def (N := ["_law_row", "_law_many", "_law_modulus", "_law_number"]) (ps := ["_law_row", "_law_many", "_law_modulus"]) (k := 1) (c := ⟨K, mg, none⟩) D sc__law_row_plain (fun cdv A outer s H E hr => (ds_one (ds_ret (dx_and (dx_is T.gt (by decide) (by rfl) (T.fr 5 "isinstance" rfl) (xv 0) (pe_bltn (v := .ty "tuple") (by rfl) (T.fr 12 "tuple" rfl) (by decide +kernel) rfl)) (dx_and (dx_cmp (c_eqD hr.units rfl) d_eq (dx_bi (c_len rfl) k_len (by rfl) (T.fr 6 "len" rfl) PySem.boot_len (da_cons (xv 0) da_nil)) (xv 1)) (dx_one (dx_cmp (c_eqD hr.units rfl) d_eq (dx_fz (dn_lc (own := [("_law_number", 3)]) (g := (gName 3)) (bind := (bNm 3)) rfl sc__law_row_plain.nd (di_seq (xv 0)) (blkOk_by (own := [("_law_number", 3)]) (N := ["_law_row", "_law_many", "_law_modulus", "_law_number"]) (sc := defScope (top 119)) (by decide +kernel)) (bd_nm (by decide)) (fun _ _ _ _ _ => (gN 3 sc__law_row_plain.nd)) (fun _ _ _ _ _ => (pts_if (dt_not (dt_tru rfl (cc_call (cal__law_plain T) (hr.mono (by decide)) (T.gl 86 "_law_plain" rfl) passF (xG 3 (xG 2 dg_nil))))))) (fun _ _ _ _ _ => (xv 3)))) (dx_fz (dn_lst da_nil)))))))))) (FunD.bindsN D (fun _ _ _ _ _ _ us hl => match us, hl with | [_, _, _], _ => rfl))
theorem sc__law_products_right : FnScope ["_law_poly", "_law_modulus", "_law_told", "_law_degree", "_law_products", "_law_product", "_law_bottom", "_law_second", "_law_i", "_law_j", "_law_one", "_law_u", "_law_v", "_law_c", "_law_d", "_law_other"] ["_law_poly", "_law_modulus", "_law_told"] (defScope (top 120)) := ⟨rfl, rfl, rfl, by decide +kernel, rfl, by decide +kernel, by decide +kernel⟩
theorem cal__law_products_right (T : Fs tb K mg) : Cal P w ⟨K, mg, none⟩ base false 6 (He.ga K "_law_products_right") 3 F__law_products_right [] := by
  obtain ⟨fd, D⟩ : ∃ fd, FunD K "_law_products_right" "_law_products_right" (defArgs (top 120)) (defBody (top 120)) (defScope (top 120)) [] [] (He.ga K "_law_products_right") fd := T.says.def_ 72 rfl
  exact cal_of D (ok_def (N := ["_law_poly", "_law_modulus", "_law_told", "_law_degree", "_law_products", "_law_product", "_law_bottom", "_law_second", "_law_i", "_law_j", "_law_one", "_law_u", "_law_v", "_law_c", "_law_d", "_law_other"]) (ps := ["_law_poly", "_law_modulus", "_law_told"]) (k := 5) (c := ⟨K, mg, none⟩) D sc__law_products_right (fun cdv A outer s H E hr => (ds_cons (sS 3 sc__law_products_right.nd (dx_op op_sub d_sub (dx_bi (c_len rfl) k_len (by rfl) (T.fr 6 "len" rfl) PySem.boot_len (da_cons (xv 0) da_nil)) dx_i))
      (ds_cons (ds_if (PW.pt (dw_or (dt_not (dt_tru rfl (dx_isC (ms := [("Figures", false), ("Raised", true)]) (bf := true) T 104 rfl (by decide +kernel) (by decide +kernel) (T.fr 5 "isinstance" rfl) (xv 2)))) (dw_or1 (dt_cmp (c_neD hr.units rfl) d_ne (xA 2) (xv 1))))) (ds_one (ds_ret dx_b)) ds_nil)
      (ds_cons (sS 4 sc__law_products_right.nd (xA 2))
      (ds_cons (ds_if (PW.pt (dw_or (dt_not (dt_tru rfl (dx_is T.gt (by decide) (by rfl) (T.fr 5 "isinstance" rfl) (xv 4) (pe_bltn (v := .ty "tuple") (by rfl) (T.fr 12 "tuple" rfl) (by decide +kernel) rfl)))) (dw_or1 (dt_cmp (c_neD hr.units rfl) d_ne (dx_bi (c_len rfl) k_len (by rfl) (T.fr 6 "len" rfl) PySem.boot_len (da_cons (xv 4) da_nil)) (xv 3))))) (ds_one (ds_ret dx_b)) ds_nil)
      (ds_cons (ds_for (vs := [5]) (gg := (gName 5)) (bind := (bNm 5)) (passes_of rfl) rfl (bd_nm (by decide)) (di_seq (xv 4)) (gN 5 sc__law_products_right.nd) (ds_cons (ds_if (PW.pt (dw_or (dt_not (dt_tru rfl (dx_is T.gt (by decide) (by rfl) (T.fr 5 "isinstance" rfl) (xv 5) (pe_bltn (v := .ty "tuple") (by rfl) (T.fr 12 "tuple" rfl) (by decide +kernel) rfl)))) (dw_or1 (dt_cmp (c_neD hr.units rfl) d_ne (dx_bi (c_len rfl) k_len (by rfl) (T.fr 6 "len" rfl) PySem.boot_len (da_cons (xv 5) da_nil)) dx_i)))) (ds_one (ds_ret dx_b)) ds_nil)
      (ds_cons (ds_if (PW.pt (dw_or (dt_not (dt_tru rfl (cc_call (cal__law_row_plain T) (hr.mono (by decide)) (T.gl 89 "_law_row_plain" rfl) (fun σ => passAt (takes_of rfl rfl rfl rfl) σ) (dg_cons (dx_ix (xv 5) dx_i) (xG 3 (xG 1 dg_nil)))))) (dw_or1 (dt_not (dt_tru rfl (cc_call (cal__law_row_plain T) (hr.mono (by decide)) (T.gl 89 "_law_row_plain" rfl) (fun σ => passAt (takes_of rfl rfl rfl rfl) σ) (dg_cons (dx_ix (xv 5) dx_i) (xG 3 (xG 1 dg_nil))))))))) (ds_one (ds_ret dx_b)) ds_nil)
      (ds_one (ds_if (dt_not (dt_tru rfl (cc_call (cal__law_row_plain T) (hr.mono (by decide)) (T.gl 89 "_law_row_plain" rfl) (fun σ => passAt (takes_of rfl rfl rfl rfl) σ) (dg_cons (dx_ty (c_tup rfl) k_tup (by rfl) (T.fr 12 "tuple" rfl) PyProof.Rows.boot_tuple (da_cons (dx_fz (dn_sl (xv 5) (do_e dx_i) do_no)) da_nil)) (dg_cons dx_i (xG 1 dg_nil)))))) (ds_one (ds_ret dx_b)) ds_nil)))))
      (ds_cons (sS 6 sc__law_products_right.nd (cc_call (cal__law_common_bottom T) (hr.mono (by decide)) (T.gl 87 "_law_common_bottom" rfl) (fun σ => passAt (takes_of rfl rfl rfl rfl) σ) (xG 0 dg_nil)))
      (ds_cons (sS 7 sc__law_products_right.nd (cc_call (cal__law_column T) (hr.mono (by decide)) (T.gl 82 "_law_column" rfl) (fun σ => passAt (takes_of rfl rfl rfl rfl) σ) (dg_cons dx_i (xG 0 dg_nil))))
      (ds_cons (ds_for (vs := [8]) (gg := (gName 8)) (bind := (bNm 8)) (passes_of rfl) rfl (bd_nm (by decide)) (di_rg1 (by rfl) (T.fr 9 "range" rfl) (da_cons (xv 3) da_nil)) (gN 8 sc__law_products_right.nd) (ds_one (ds_for (vs := [9]) (gg := (gName 9)) (bind := (bNm 9)) (passes_of rfl) rfl (bd_nm (by decide)) (di_rg1 (by rfl) (T.fr 9 "range" rfl) (da_cons (xv 3) da_nil)) (gN 9 sc__law_products_right.nd) (ds_cons (sS 10 sc__law_products_right.nd (dx_bi (c_sum rfl rfl) k_sum (by rfl) (T.fr 11 "sum" rfl) (by decide +kernel) (da_cons (dx_fz (dn_lc (own := [("_law_u", 11), ("_law_v", 12), ("_law_c", 13), ("_law_d", 14)]) (g := (gTup K 4 (gCons (gName 11) (gCons (gName 12) (gCons (gName 13) (gCons (gName 14) gNil)))))) (bind := (bTp [(bNm 11), (bNm 12), (bNm 13), (bNm 14)])) rfl sc__law_products_right.nd (di_seq (xv 4)) (blkOk_by (own := [("_law_u", 11), ("_law_v", 12), ("_law_c", 13), ("_law_d", 14)]) (N := ["_law_poly", "_law_modulus", "_law_told", "_law_degree", "_law_products", "_law_product", "_law_bottom", "_law_second", "_law_i", "_law_j", "_law_one", "_law_u", "_law_v", "_law_c", "_law_d", "_law_other"]) (sc := defScope (top 120)) (by decide +kernel)) (bd_tp rfl (ba_cons (bd_nm (by decide)) (ba_cons (bd_nm (by decide)) (ba_cons (bd_nm (by decide)) (ba_cons (bd_nm (by decide)) ba_nil))))) (fun _ _ _ _ _ => (pg_tup rfl (pgs_cons (gN 11 sc__law_products_right.nd) (pgs_cons (gN 12 sc__law_products_right.nd) (pgs_cons (gN 13 sc__law_products_right.nd) (pgs_cons (gN 14 sc__law_products_right.nd) pgs_nil)))))) (fun _ _ _ _ _ => pts_no) (fun _ _ _ _ _ => (dx_op op_mulW d_mul (dx_op op_mulW d_mul (xv 13) (dx_ix (xv 11) (xv 8))) (dx_ix (xv 12) (xv 9)))))) da_nil)))
      (ds_cons (sS 15 sc__law_products_right.nd (dx_bi (c_sum rfl rfl) k_sum (by rfl) (T.fr 11 "sum" rfl) (by decide +kernel) (da_cons (dx_fz (dn_lc (own := [("_law_u", 11), ("_law_v", 12), ("_law_c", 13), ("_law_d", 14)]) (g := (gTup K 4 (gCons (gName 11) (gCons (gName 12) (gCons (gName 13) (gCons (gName 14) gNil)))))) (bind := (bTp [(bNm 11), (bNm 12), (bNm 13), (bNm 14)])) rfl sc__law_products_right.nd (di_seq (xv 4)) (blkOk_by (own := [("_law_u", 11), ("_law_v", 12), ("_law_c", 13), ("_law_d", 14)]) (N := ["_law_poly", "_law_modulus", "_law_told", "_law_degree", "_law_products", "_law_product", "_law_bottom", "_law_second", "_law_i", "_law_j", "_law_one", "_law_u", "_law_v", "_law_c", "_law_d", "_law_other"]) (sc := defScope (top 120)) (by decide +kernel)) (bd_tp rfl (ba_cons (bd_nm (by decide)) (ba_cons (bd_nm (by decide)) (ba_cons (bd_nm (by decide)) (ba_cons (bd_nm (by decide)) ba_nil))))) (fun _ _ _ _ _ => (pg_tup rfl (pgs_cons (gN 11 sc__law_products_right.nd) (pgs_cons (gN 12 sc__law_products_right.nd) (pgs_cons (gN 13 sc__law_products_right.nd) (pgs_cons (gN 14 sc__law_products_right.nd) pgs_nil)))))) (fun _ _ _ _ _ => pts_no) (fun _ _ _ _ _ => (dx_op op_mulW d_mul (dx_op op_mulW d_mul (xv 14) (dx_ix (xv 11) (xv 8))) (dx_ix (xv 12) (xv 9)))))) da_nil)))
      (ds_cons (ds_if (dt_cmp (c_neD hr.units rfl) d_ne (dx_op op_modN d_mod (dx_ty call_int1 k_int (by rfl) (T.fr 4 "int" rfl) PyProof.Rows.boot_int (da_cons (dx_op op_sub d_sub (xv 10) (dx_ty call_int1 k_int (by rfl) (T.fr 4 "int" rfl) PyProof.Rows.boot_int (da_cons (dx_cmp (c_eqD hr.units rfl) d_eq (xv 8) (xv 9)) da_nil))) da_nil)) (xv 1)) dx_i) (ds_one (ds_ret dx_b)) ds_nil)
      (ds_one (ds_if (dt_cmp (c_neD hr.units rfl) d_ne (dx_op op_modN d_mod (dx_ty call_int1 k_int (by rfl) (T.fr 4 "int" rfl) PyProof.Rows.boot_int (da_cons (dx_op op_sub d_sub (dx_op op_mulW d_mul (xv 15) (xv 6)) (dx_op op_mulW d_mul (dx_ix (dx_ix (dx_ix (xv 7) (xv 8)) (xv 9)) dx_i) (dx_op op_fdivG d_div (xv 6) (dx_ix (dx_ix (dx_ix (xv 7) (xv 8)) (xv 9)) dx_i)))) da_nil)) (xv 1)) dx_i) (ds_one (ds_ret dx_b)) ds_nil))))))))
      (ds_one (ds_ret dx_b)))))))))))) (FunD.bindsN D (fun _ _ _ _ _ _ us hl => match us, hl with | [_, _, _], _ => rfl))
theorem sc_law : FnScope ["_law_script", "_law_hand_here", "_law_p", "_law_degree", "_law_poly", "_law_scale", "_law_times_here", "_law_modulus", "_law_k", "_law_kept", "_law_given", "_law_roots_here", "_law_products", "_law_number"] ["_law_script"] (defScope (top 122)) := ⟨rfl, rfl, rfl, by decide +kernel, rfl, by decide +kernel, by decide +kernel⟩
theorem law_ok (T : Fs tb K mg) (hu : LawB 12 B_law) : ∃ fd : FuncData, (∀ (s : Shared) (v : Value), BindsTo s fd ⟨[v], []⟩ [("_law_script", v)]) ∧ ∀ base : Heap, FnOk P w K mg base CX0 11 (He.ga K "law") fd ["_law_script"] (spLaw K) := by
  obtain ⟨fd, D⟩ : ∃ fd, FunD K "law" "law" (defArgs (top 122)) (defBody (top 122)) (defScope (top 122)) [] [] (He.ga K "law") fd := T.says.def_ 73 rfl
  have bW := FunD.bindsA (ps := ["_law_script"]) D fun _ _ _ _ _ _ us hl => match us, hl with | [_], _ => rfl
  refine ⟨fd, fun s v => bW s [v] rfl, fun base => ?_⟩
  obtain ⟨⟨fh, GH, bH⟩, kH⟩ := hand_ok (P := P) (w := w) (base := base) T
  refine fn_calm0 (FunD.ok (CX := L2.CX P w) (k := 10) D sc_law (fun vs H Q E h => len_law (Q := Q) (E := E) h) (fun cdv A outer s H vs Q E hr h => ⟨_, pss_cons (ps_set (i := 1) sc_law.nd rfl (by first | exact Or.inl rfl | exact Or.inr rfl) (pe_call GH (hr.mono (by decide)) (by rfl) (T.gl 71 "_law_hand" rfl) kH bH .nil pass0 (pa_cons (pv 0) pa_nil))) (ds_cons (sS 2 sc_law.nd (cc_call (cal__law_pick T) (hr.mono (by decide)) (T.gl 59 "_law_pick" rfl) (fun σ => passAt (takes_of rfl rfl rfl rfl) σ) (xG 1 (dg_cons (dx_fz (dn_lst (da_cons dx_i (da_cons dx_i (da_cons dx_i (da_cons dx_i (da_cons dx_i (da_cons dx_i (da_cons dx_i (da_cons dx_i da_nil)))))))))) dg_nil))))
      (ds_cons (sS 3 sc_law.nd (dx_op op_add d_add dx_i (cc_call (cal__law_take T) (hr.mono (by decide)) (T.gl 73 "_law_take" rfl) (fun σ => passAt (takes_of rfl rfl rfl rfl) σ) (xG 1 (dg_cons (dx_bi (call_min2 rfl) k_min2 (by rfl) (T.fr 8 "min" rfl) (by decide +kernel) (da_cons (xv 2) (da_cons dx_i da_nil))) dg_nil)))))
      (ds_cons (ds_if (dt_cmp (c_eqD hr.units rfl) d_eq (cc_call (cal__law_take T) (hr.mono (by decide)) (T.gl 73 "_law_take" rfl) (fun σ => passAt (takes_of rfl rfl rfl rfl) σ) (xG 1 (dg_cons dx_i dg_nil))) dx_i) (ds_one (sS 4 sc_law.nd (cc_call (cal__law_scaled T) (hr.mono (by decide)) (T.gl 69 "_law_scaled" rfl) (fun σ => passAt (takes_of rfl rfl rfl rfl) σ) (dg_cons (cc_call (cal__law_parts_poly T) (hr.mono (by decide)) (T.gl 67 "_law_parts_poly" rfl) (fun σ => passAt (takes_of rfl rfl rfl rfl) σ) (dg_cons (cc_call (cal__law_parts T) (hr.mono (by decide)) (T.gl 66 "_law_parts" rfl) (fun σ => passAt (takes_of rfl rfl rfl rfl) σ) (xG 1 (dg_cons (dx_op op_add d_add dx_i (cc_call (cal__law_take T) (hr.mono (by decide)) (T.gl 73 "_law_take" rfl) (fun σ => passAt (takes_of rfl rfl rfl rfl) σ) (xG 1 (dg_cons dx_i dg_nil)))) dg_nil))) dg_nil)) (dg_cons (cc_call (cal__law_pick T) (hr.mono (by decide)) (T.gl 59 "_law_pick" rfl) (fun σ => passAt (takes_of rfl rfl rfl rfl) σ) (xG 1 (dg_cons (dx_fz (dn_lst (da_cons dx_i (da_cons dx_i (da_cons dx_i (da_cons dx_i (da_cons dx_i (da_cons dx_i da_nil)))))))) dg_nil))) dg_nil))))) (ds_cons (sS 5 sc_law.nd (cc_call (cal__law_pick T) (hr.mono (by decide)) (T.gl 59 "_law_pick" rfl) (fun σ => passAt (takes_of rfl rfl rfl rfl) σ) (xG 1 (dg_cons (dx_fz (dn_lst (da_cons dx_i (da_cons dx_i (da_cons dx_i (da_cons dx_i (da_cons dx_i (da_cons dx_i (da_cons dx_i da_nil))))))))) dg_nil))))
      (ds_one (sS 4 sc_law.nd (cc_call (cal__law_scaled T) (hr.mono (by decide)) (T.gl 69 "_law_scaled" rfl) (fun σ => passAt (takes_of rfl rfl rfl rfl) σ) (dg_cons (cc_call (cal__law_apart_poly T) (hr.mono (by decide)) (T.gl 83 "_law_apart_poly" rfl) (fun σ => passAt (takes_of rfl rfl rfl rfl) σ) (xG 1 (xG 2 (xG 3 dg_nil)))) (dg_cons (dx_if (dt_cmp (c_eqD hr.units rfl) d_eq (dx_op op_modN d_mod (dx_ty call_int1 k_int (by rfl) (T.fr 4 "int" rfl) PyProof.Rows.boot_int (da_cons (xv 5) da_nil)) (xv 2)) dx_i) dx_i (xv 5)) dg_nil)))))))
      (ds_cons (sS 6 sc_law.nd (cc_call (cal__law_pick T) (hr.mono (by decide)) (T.gl 59 "_law_pick" rfl) (fun σ => passAt (takes_of rfl rfl rfl rfl) σ) (xG 1 (dg_cons (dx_fz (dn_lst (da_cons dx_i (da_cons dx_i (da_cons dx_i (da_cons dx_i (da_cons dx_i (da_cons dx_i (da_cons dx_i (da_cons dx_i da_nil)))))))))) dg_nil))))
      (ds_cons (sS 7 sc_law.nd dx_i)
      (ds_cons (ds_for (vs := [8]) (gg := (gName 8)) (bind := (bNm 8)) (passes_of rfl) rfl (bd_nm (by decide)) (di_rg1 (by rfl) (T.fr 9 "range" rfl) (da_cons (xv 6) da_nil)) (gN 8 sc_law.nd) (ds_one (sS 7 sc_law.nd (dx_op op_mulW d_mul (xv 7) (xv 2)))))
      (ds_cons (sS 9 sc_law.nd (dx_fz (dn_ty (c_list rfl) k_list (by rfl) (T.fr 7 "list" rfl) (by decide +kernel) (da_cons (xv 4) da_nil))))
      (ds_cons (sS 10 sc_law.nd (dx_if (dt_cmp (c_eqD hr.units rfl) d_eq (cc_call (cal__law_take T) (hr.mono (by decide)) (T.gl 73 "_law_take" rfl) (fun σ => passAt (takes_of rfl rfl rfl rfl) σ) (xG 1 (dg_cons dx_i dg_nil))) dx_i) (dx_ty (c_tup rfl) k_tup (by rfl) (T.fr 12 "tuple" rfl) PyProof.Rows.boot_tuple (da_cons (xv 4) da_nil)) (xv 4)))
      (ds_cons (sS 11 sc_law.nd (cc_call (cal__law_roots_told T) (hr.mono (by decide)) (T.gl 84 "_law_roots_told" rfl) (fun σ => passAt (takes_of rfl rfl rfl rfl) σ) (xG 10 (xG 2 (xG 6 dg_nil)))))
      (ds_cons (sS 12 sc_law.nd (cc_call (cal__law_products_told T) (hr.mono (by decide)) (T.gl 85 "_law_products_told" rfl) (fun σ => passAt (takes_of rfl rfl rfl rfl) σ) (xG 10 (xG 2 (xG 6 dg_nil)))))
      (ds_cons (ds_if (dt_not (dt_tru rfl (cc_call (cal__law_can T) (hr.mono (by decide)) (T.gl 62 "_law_can" rfl) (fun σ => passAt (takes_of rfl rfl rfl rfl) σ) (xG 2 (xG 4 dg_nil))))) (ds_one (ds_if (PW.pt (dw_or (dt_cmp (c_neD hr.units rfl) d_ne (xv 11) (dx_fz (dn_lst (da_cons dx_s da_nil)))) (dw_or1 (dt_cmp (c_neD hr.units rfl) d_ne (xv 12) (dx_fz (dn_lst (da_cons dx_s da_nil))))))) (ds_one (ds_ret dx_b)) ds_nil)) (ds_one (ds_if (dt_cmp (c_eqD hr.units rfl) d_eq (cc_call (cal__law_extra T) (hr.mono (by decide)) (T.gl 65 "_law_extra" rfl) (fun σ => passAt (takes_of rfl rfl rfl rfl) σ) (xG 2 (dg_cons (dx_fz (dn_lc (own := [("_law_number", 13)]) (g := (gName 13)) (bind := (bNm 13)) rfl sc_law.nd (di_seq (xv 4)) (blkOk_by (own := [("_law_number", 13)]) (N := ["_law_script", "_law_hand_here", "_law_p", "_law_degree", "_law_poly", "_law_scale", "_law_times_here", "_law_modulus", "_law_k", "_law_kept", "_law_given", "_law_roots_here", "_law_products", "_law_number"]) (sc := defScope (top 122)) (by decide +kernel)) (bd_nm (by decide)) (fun _ _ _ _ _ => (gN 13 sc_law.nd)) (fun _ _ _ _ _ => pts_no) (fun _ _ _ _ _ => (cc_call (cal__law_read T) (hr.mono (by decide)) (T.gl 61 "_law_read" rfl) passF (xG 2 (xG 13 dg_nil)))))) dg_nil))) dx_i) (ds_one (ds_if (PW.pt (dw_or (dt_cmp (c_neD hr.units rfl) d_ne (xv 11) (dx_fz (dn_lst (da_cons dx_s da_nil)))) (dw_or1 (dt_cmp (c_neD hr.units rfl) d_ne (xv 12) (dx_fz (dn_lst (da_cons dx_s da_nil))))))) (ds_one (ds_ret dx_b)) ds_nil)) (ds_cons (ds_if (PW.pt (dw_or (dt_cmp (c_neD hr.units rfl) d_ne (dx_ix (xv 11) dx_i) dx_s) (dw_or (dt_cmp (c_neD hr.units rfl) d_ne (dx_ix (xv 12) dx_i) dx_s) (dw_or1 (dt_cmp (c_neD hr.units rfl) d_ne (xv 4) (xv 9)))))) (ds_one (ds_ret dx_b)) ds_nil)
      (ds_one (ds_if (PW.pt (dw_or (dt_not (dt_tru rfl (cc_call (cal__law_roots_right T) (hr.mono (by decide)) (T.gl 88 "_law_roots_right" rfl) (fun σ => passAt (takes_of rfl rfl rfl rfl) σ) (xG 2 (xG 4 (xG 7 (dg_cons (dx_ix (xv 11) dx_i) dg_nil))))))) (dw_or1 (dt_not (dt_tru rfl (cc_call (cal__law_products_right T) (hr.mono (by decide)) (T.gl 90 "_law_products_right" rfl) (fun σ => passAt (takes_of rfl rfl rfl rfl) σ) (xG 4 (xG 7 (dg_cons (dx_ix (xv 12) dx_i) dg_nil))))))))) (ds_one (ds_ret dx_b)) ds_nil))))))
      (ds_one (ds_ret (cc_call (cal__law_refused T) (hr.mono (by decide)) (T.gl 91 "_law_refused" rfl) (fun σ => passAt (takes_of rfl rfl rfl rfl) σ) (xG 1 (xG 2 (xG 9 (xG 6 dg_nil)))))))))))))))))), law_read (c := ⟨K, mg, none⟩) (names := ["_law_script", "_law_hand_here", "_law_p", "_law_degree", "_law_poly", "_law_scale", "_law_times_here", "_law_modulus", "_law_k", "_law_kept", "_law_given", "_law_roots_here", "_law_products", "_law_number"]) (W := fun cls dd _ H' => E cls dd H') rfl hu h⟩))
end
end N78
namespace Fw
open PySem PySem.Spec L2
theorem eC_a (d : D) (δ : DE) (h : D) : eC d δ h = (.ok d h) := (rfl)
theorem eOp_a (f : D → D → Option D) (fa fb : EF D) (δ : DE) (h : D) : eOp f fa fb δ h = ((fa δ h).bind fun x h1 => (fb δ h1).bind fun y h2 => Ex.of (f x y) h2) := (rfl)
theorem eUn_a (f : D → Option D) (fa : EF D) (δ : DE) (h : D) : eUn f fa δ h = ((fa δ h).bind fun x h1 => Ex.of (f x) h1) := (rfl)
theorem eT_a (f : EF D) (δ : DE) (h : D) : eT f δ h = ((f δ h).bind bD) := (rfl)
theorem eTru_a (f : EF D) (δ : DE) (h : D) : eTru f δ h = ((f δ h).bind fun d h1 => Ex.of (truD d) h1) := (rfl)
theorem eAnd_a (g1 g2 : EF Bool) (δ : DE) (h : D) : eAnd g1 g2 δ h = ((g1 δ h).bind fun b h1 => if b then g2 δ h1 else .ok false h1) := (rfl)
theorem eOr_a (g1 g2 : EF Bool) (δ : DE) (h : D) : eOr g1 g2 δ h = ((g1 δ h).bind fun b h1 => if b then .ok true h1 else g2 δ h1) := (rfl)
theorem eNot_a (g : EF Bool) (δ : DE) (h : D) : eNot g δ h = ((g δ h).bind fun b h1 => .ok (!b) h1) := (rfl)
theorem eB_a (g : EF Bool) (δ : DE) (h : D) : eB g δ h = ((g δ h).bind fun b h1 => .ok (.bl b) h1) := (rfl)
theorem eIf_a (g : EF Bool) (fa fb : EF D) (δ : DE) (h : D) : eIf g fa fb δ h = ((g δ h).bind fun b h1 => if b then fa δ h1 else fb δ h1) := (rfl)
theorem eCh_a (k1 k2 : D → D → Option D) (fa fb fc : EF D) (δ : DE) (h : D) : eCh k1 k2 fa fb fc δ h = ((fa δ h).bind fun x h1 => (fb δ h1).bind fun y h2 => (Ex.of (k1 x y) h2).bind fun z h3 => (bD z h3).bind fun b h4 => if b then (fc δ h4).bind fun w h5 => Ex.of (k2 y w) h5 else .ok (.bl false) h4) := (rfl)
theorem eNil_a (δ : DE) (h : D) : eNil δ h = (.ok [] h) := (rfl)
theorem eCons_a (f : EF D) (g : EF (List D)) (δ : DE) (h : D) : eCons f g δ h = ((f δ h).bind fun d h1 => (g δ h1).bind fun ds h2 => .ok (d :: ds) h2) := (rfl)
theorem eTup_a (fs : EF (List D)) (δ : DE) (h : D) : eTup fs δ h = ((fs δ h).bind fun ds h1 => Ex.of (if szOk ds.length then some (.tup ds) else none) h1) := (rfl)
theorem eLst_a (fs : EF (List D)) (δ : DE) (h : D) : eLst fs δ h = ((fs δ h).bind fun ds h1 => Ex.of (if szOk ds.length then some (.hl ds) else none) h1) := (rfl)
theorem eFz_a (f : EF D) (δ : DE) (h : D) : eFz f δ h = ((f δ h).bind fun d h1 => .ok (sfz d) h1) := (rfl)
theorem eM_a (i : Nat) (δ : DE) (h : D) : eM i δ h = (match δ[i]? with
 | some (some .me) => .ok () h
 | _ => .bad) := (rfl)
theorem eIxM_a (i : Nat) (fb : EF D) (δ : DE) (h : D) : eIxM i fb δ h = ((eM i δ h).bind fun _ h1 => (fb δ h1).bind fun y h2 => Ex.of (match y, h2 with
 | .int i, .hl ds => atI ds i
 | _, _ => none) h2) := (rfl)
theorem eNo_a (δ : DE) (h : D) : eNo δ h = (.ok none h) := (rfl)
theorem eSl_a (f : EF D) (lo hi : EF (Option Int)) (δ : DE) (h : D) : eSl f lo hi δ h = ((f δ h).bind fun d h1 => (lo δ h1).bind fun l h2 => (hi δ h2).bind fun u h3 => Ex.of (slD d l u) h3) := (rfl)
theorem eBi_a (k : List D → Option D) (fs : EF (List D)) (δ : DE) (h : D) : eBi k fs δ h = ((fs δ h).bind fun ds h1 => Ex.of (k ds) h1) := (rfl)
theorem eIs_a (n : String) (f : EF D) (δ : DE) (h : D) : eIs n f δ h = ((f δ h).bind fun d h1 => Ex.of ((isS n d).map .bl) h1) := (rfl)
theorem eIs2_a (n m : String) (f : EF D) (δ : DE) (h : D) : eIs2 n m f δ h = ((f δ h).bind fun d h1 => Ex.of (match isS n d, isS m d with
 | some k, some l => some (.bl (k || l))
 | _, _ => none) h1) := (rfl)
theorem iSeq_a (f : EF D) (δ : DE) (h : D) : iSeq f δ h = ((f δ h).bind fun d h1 => Ex.of (itS d) h1) := (rfl)
theorem iRg_a (k : List D → Option (List D)) (fs : EF (List D)) (δ : DE) (h : D) : iRg k fs δ h = ((fs δ h).bind fun ds h1 => Ex.of (k ds) h1) := (rfl)
theorem eLcL_a (vs : List Nat) (it : EF (List D)) (bind : D → DE → Option DE) (test : EF Bool) (elt : EF D) (δ : DE) (h : D) : eLcL vs it bind test elt δ h = ((it δ h).bind fun ds h1 => if szOk ds.length then lcGo bind test elt (wipeD δ vs) ds h1 else .bad) := (rfl)
theorem eLc_a (vs : List Nat) (it : EF (List D)) (bind : D → DE → Option DE) (test : EF Bool) (elt : EF D) (δ : DE) (h : D) : eLc vs it bind test elt δ h = ((eLcL vs it bind test elt δ h).bind fun ys h2 => .ok (.hl ys) h2) := (rfl)
theorem tYesD_a (δ : DE) (h : D) : tYesD δ h = (.ok true h) := (rfl)
theorem sNil_a (δ : DE) (h : D) : sNil δ h = (.nx δ h) := (rfl)
theorem sSeq_a (u v : SF) (δ : DE) (h : D) : sSeq u v δ h = ((u δ h).bind v) := (rfl)
theorem sSet_a (i : Nat) (f : EF D) (δ : DE) (h : D) : sSet i f δ h = ((f δ h).fl δ fun d h1 => .nx (δ.set i (some d)) h1) := (rfl)
theorem sFrz_a (i : Nat) (u : SF) (δ : DE) (h : D) : sFrz i u δ h = (u (frzS i δ) h) := (rfl)
theorem sRet_a (f : EF D) (δ : DE) (h : D) : sRet f δ h = ((f δ h).fl δ fun d h1 => .ret d h1) := (rfl)
theorem sRetV_a (i : Nat) (δ : DE) (h : D) : sRetV i δ h = (match δ[i]? with
 | some (some (.hl ds)) => .ret (.hl ds) h
 | _ => .bad) := (rfl)
theorem sRetN_a (δ : DE) (h : D) : sRetN δ h = (.ret .non h) := (rfl)
theorem sIf_a (g : EF Bool) (u v : SF) (δ : DE) (h : D) : sIf g u v δ h = ((g δ h).fl δ fun b h1 => if b then u δ h1 else v δ h1) := (rfl)
theorem sBrk_a (δ : DE) (h : D) : sBrk δ h = (.brk δ h) := (rfl)
theorem sCt_a (δ : DE) (h : D) : sCt δ h = (.ct δ h) := (rfl)
theorem sDrop_a (f : EF D) (δ : DE) (h : D) : sDrop f δ h = ((f δ h).fl δ fun _ h1 => .nx δ h1) := (rfl)
theorem sAug_a (i : Nat) (k : D → D → Option D) (f : EF D) (δ : DE) (h : D) : sAug i k f δ h = (match δ[i]? with
 | some (some x) => if x.fr then (f δ h).fl δ fun y h1 => match k x y with
  | some z => .nx (δ.set i (some z)) h1
  | none => .bad
  else .bad
 | _ => .bad) := (rfl)
theorem sAsg_a (bind : D → DE → Option DE) (f : EF D) (δ : DE) (h : D) : sAsg bind f δ h = ((f δ h).fl δ fun d h1 => match bind d δ with
 | some δ2 => .nx δ2 h1
 | none => .bad) := (rfl)
theorem sPar_a (i j : Nat) (fs : EF (List D)) (δ : DE) (h : D) : sPar i j fs δ h = ((fs δ h).fl δ fun ds h1 => match ds with
 | [x, y] => .nx ((δ.set i (some x)).set j (some y)) h1
 | _ => .bad) := (rfl)
theorem sPar3_a (i j l : Nat) (fs : EF (List D)) (δ : DE) (h : D) : sPar3 i j l fs δ h = ((fs δ h).fl δ fun ds h1 => match ds with
 | [x, y, z] => .nx (((δ.set i (some x)).set j (some y)).set l (some z)) h1
 | _ => .bad) := (rfl)
theorem sFor_a (it : EF (List D)) (bind : D → DE → Option DE) (body : SF) (δ : DE) (h : D) : sFor it bind body δ h = ((it δ h).fl δ fun ds h1 => forGo bind body ds δ h1) := (rfl)
theorem pV_a (i : Nat) (δ : DE) (h : D) : pV i δ h = (match δ[i]? with
 | some (some d) => if d.nm then .ok (i, []) h else .bad
 | _ => .bad) := (rfl)
theorem pIx_a (k : EF Pl) (f : EF D) (δ : DE) (h : D) : pIx k f δ h = ((k δ h).bind fun p h1 => (f δ h1).bind fun y h2 => Ex.of (match plD δ p, y with
 | some (.hl ds), .int i => (ixN ds.length i).map fun j => (p.1, p.2 ++ [j])
 | _, _ => none) h2) := (rfl)
theorem ePl_a (k : EF Pl) (δ : DE) (h : D) : ePl k δ h = ((k δ h).bind fun p h1 => Ex.of (match plD δ p with
 | some d => if d.fr then some d else none
 | none => none) h1) := (rfl)
theorem eLenP_a (k : EF Pl) (δ : DE) (h : D) : eLenP k δ h = ((k δ h).bind fun p h1 => Ex.of (match plD δ p with
 | some (.hl ds) => some (.int ds.length)
 | _ => none) h1) := (rfl)
theorem sApp_a (k : EF Pl) (f : EF D) (δ : DE) (h : D) : sApp k f δ h = ((k δ h).fl δ fun p h1 => match plD δ p with
 | some (.hl ds) => (f δ h1).fl δ fun y h2 => if szOk ds.length then .nx (plS δ p (.hl (ds ++ [y]))) h2 else .bad
 | _ => .bad) := (rfl)
theorem sSt_a (k : EF Pl) (fi f : EF D) (δ : DE) (h : D) : sSt k fi f δ h = ((f δ h).fl δ fun y h1 => (k δ h1).fl δ fun p h2 => (fi δ h2).fl δ fun z h3 => match plD δ p, z with
 | some (.hl ds), .int i => match ixN ds.length i with
  | some j => .nx (plS δ p (.hl (ds.set j y))) h3
  | none => .bad
 | _, _ => .bad) := (rfl)
theorem sStM_a (o : Nat) (fi f : EF D) (δ : DE) (h : D) : sStM o fi f δ h = ((f δ h).fl δ fun y h1 => (eM o δ h1).fl δ fun _ h2 => (fi δ h2).fl δ fun z h3 => match z, h3 with
 | .int i, .hl ds => match ixN ds.length i with
  | some j => .nx δ (.hl (ds.set j y))
  | none => .bad
 | _, _ => .bad) := (rfl)
theorem sAt_a (n : Str) (o : Nat) (m : Str) (f : EF D) (δ : DE) (h : D) : sAt n o m f δ h = ((f δ h).fl δ fun y h1 => (eM o δ h1).fl δ fun _ h2 => match h2 with
 | .ins n' fs => if n' = n then (if szOk fs.length then (if fs.length < 900 then .nx δ (.ins n' (putD m y fs)) else .bad) else .bad) else .bad
 | _ => .bad) := (rfl)
theorem eCall_a (n : Nat) (F : Fn) (dd : List D) (fs : EF (List D)) (δ : DE) (h : D) : eCall n F dd fs δ h = ((fs δ h).bind fun ds h1 => if (ds ++ dd).length = n then F (ds ++ dd) h1 else .bad) := (rfl)
theorem eMake_a (nm : Str) (n : Nat) (F : Fn) (dd : List D) (fs : EF (List D)) (δ : DE) (h : D) : eMake nm n F dd fs δ h = ((fs δ h).bind fun ds h1 => if (D.me :: (ds ++ dd)).length = n then
 match F (.me :: (ds ++ dd)) (.ins nm []) with
 | .ok .non (.ins n' xs) => if n' = nm then .ok (.ins n' xs) h1 else .bad
 | .exc n' xs _ => .exc n' xs h1
 | _ => .bad
 else .bad) := (rfl)
theorem eFw_a (f : EF D) (δ : DE) (h : D) : eFw f δ h = ((f δ h).bind fun d h1 => .ok (frz d) h1) := (rfl)
theorem sRaise_a (n : Str) (fl : List D → Option (List (Str × D))) (fs : EF (List D)) (δ : DE) (h : D) : sRaise n fl fs δ h = ((fs δ h).fl δ fun ds h1 => match fl ds with
 | some fx => .exc n fx δ h1
 | none => .bad) := (rfl)
theorem sRaise0_a (n : Str) (δ : DE) (h : D) : sRaise0 n δ h = (.exc n [] δ h) := (rfl)
theorem sTry_a (u : SF) (cs : List Cz) (δ : DE) (h : D) : sTry u cs δ h = (match u δ h with
 | .exc n fs δ' h' => hdGo cs n fs δ' h'
 | r => r) := (rfl)
theorem eXf_a (ns : List Str) (i : Nat) (f : Str) (δ : DE) (h : D) : eXf ns i f δ h = (Ex.of (match δ[i]? with
 | some (some (.ex n fs)) => if ns.contains n then fs.lookup f else none
 | _ => none) h) := (rfl)
theorem eXi_a (ms : Str → Option Bool) (i : Nat) (δ : DE) (h : D) : eXi ms i δ h = (Ex.of (match δ[i]? with
 | some (some (.ex n _)) => (ms n).map .bl
 | _ => none) h) := (rfl)
theorem eNeI_a (nm : Str) (F : Fn) (fa fb : EF D) (δ : DE) (h : D) : eNeI nm F fa fb δ h = ((fa δ h).bind fun x h1 => (fb δ h1).bind fun y h2 => match x, y with
 | .ins n1 f1, .ins n2 f2 => if n1 = nm ∧ n2 = nm then (F [.ins n1 f1, .ins n2 f2] h2).nox.bind fun z h3 => match z with
  | .bl r => .ok (.bl (!r)) h3
  | _ => .bad
  else .bad
 | _, _ => .bad) := (rfl)
theorem eInn_a (g : EF (List D)) (δ : DE) (h : D) : eInn g δ h = (if slF δ then g δ h else .bad) := (rfl)
theorem eIsC_a (ms : Str → Option Bool) (bf : Bool) (f : EF D) (δ : DE) (h : D) : eIsC ms bf f δ h = ((f δ h).bind fun d h1 => Ex.of (match d with
 | .ins n _ => (ms n).map .bl
 | d => match tyS d with
  | some _ => if bf then some (.bl false) else none
  | none => none) h1) := (rfl)
def lenID (nm : Str) (F : Fn) (d h : D) : Ex D := match d with
  | .ins n' fs => if n' = nm then (F [.ins n' fs] h).nox.bind fun y h2 => match y with
    | .int i => if 0 ≤ i ∧ i < 1000000 then .ok (.int i) h2 else .bad
    | _ => .bad
    else .bad
  | _ => .bad
theorem eLenI_a (nm : Str) (F : Fn) (f : EF D) (δ : DE) (h : D) : eLenI nm F f δ h = (f δ h).bind fun d h1 => lenID nm F d h1 := (rfl)
def iowD (nm fld : Str) (d h : D) : Ex (List D) := Ex.of (match d with
  | .ins n' fs => if n' = nm then match fs.lookup fld with
    | some (.tup ds) => some ds
    | _ => none
    else none
  | _ => none) h
theorem iOwnI_a (nm fld : Str) (f : EF D) (δ : DE) (h : D) : iOwnI nm fld f δ h = (f δ h).bind fun d h1 => iowD nm fld d h1 := (rfl)
def atvD (o : Option (Option D)) (n : Str) (h : D) : Ex D := Ex.of (match o, h with
  | some (some (.ins _ fs)), _ => fs.lookup n
  | some (some .me), .ins _ fs => fs.lookup n
  | _, _ => none) h
theorem eAtV_a (i : Nat) (n : Str) (δ : DE) (h : D) : eAtV i n δ h = atvD δ[i]? n h := (rfl)
theorem atv_ins {m n : Str} {fs : List (Str × D)} {h : D} : atvD (some (some (.ins m fs))) n h = Ex.of (fs.lookup n) h := (rfl)
theorem atv_me {m n : Str} {fs : List (Str × D)} : atvD (some (some .me)) n (.ins m fs) = Ex.of (fs.lookup n) (.ins m fs) := (rfl)
def attD (d : D) (n : Str) (h : D) : Ex D := Ex.of (match d with
  | .ins _ fs => fs.lookup n
  | _ => none) h
theorem eAt_a (f : EF D) (n : Str) (δ : DE) (h : D) : eAt f n δ h = (f δ h).bind fun d h1 => attD d n h1 := (rfl)
theorem att_ins {m n : Str} {fs : List (Str × D)} {h : D} : attD (.ins m fs) n h = Ex.of (fs.lookup n) h := (rfl)
def vD (o : Option (Option D)) (h : D) : Ex D := match o with
  | some (some d) => if d.fr then .ok d h else .bad
  | _ => .bad
def vmD (o : Option (Option D)) (h : D) : Ex D := match o with
  | some (some .me) => .ok .me h
  | some (some d) => if d.fr then .ok d h else .bad
  | _ => .bad
theorem eV_a (i : Nat) (δ : DE) (h : D) : eV i δ h = vD δ[i]? h := (rfl)
theorem eVm_a (i : Nat) (δ : DE) (h : D) : eVm i δ h = vmD δ[i]? h := (rfl)
theorem vD_fr {d h : D} (e : d.fr = true) : vD (some (some d)) h = .ok d h := if_pos e
theorem vmD_fr {d h : D} (e : d.fr = true) : vmD (some (some d)) h = .ok d h := by
  cases d <;> first | rfl | cases e
theorem vmD_me {h : D} : vmD (some (some .me)) h = .ok .me h := (rfl)
theorem vD_non {h : D} : vD (some (some .non)) h = .ok .non h := (rfl)
theorem vmD_non {h : D} : vmD (some (some .non)) h = .ok .non h := (rfl)
theorem vD_bl {b : Bool} {h : D} : vD (some (some (.bl b))) h = .ok (.bl b) h := (rfl)
theorem vmD_bl {b : Bool} {h : D} : vmD (some (some (.bl b))) h = .ok (.bl b) h := (rfl)
theorem vD_int {i : Int} {h : D} : vD (some (some (.int i))) h = .ok (.int i) h := (rfl)
theorem vmD_int {i : Int} {h : D} : vmD (some (some (.int i))) h = .ok (.int i) h := (rfl)
theorem vD_str {x : Str} {h : D} : vD (some (some (.str x))) h = .ok (.str x) h := (rfl)
theorem vmD_str {x : Str} {h : D} : vmD (some (some (.str x))) h = .ok (.str x) h := (rfl)
theorem vD_tup {ds : List D} {h : D} : vD (some (some (.tup ds))) h = .ok (.tup ds) h := (rfl)
theorem vmD_tup {ds : List D} {h : D} : vmD (some (some (.tup ds))) h = .ok (.tup ds) h := (rfl)
theorem vD_lst {ds : List D} {h : D} : vD (some (some (.lst ds))) h = .ok (.lst ds) h := (rfl)
theorem vmD_lst {ds : List D} {h : D} : vmD (some (some (.lst ds))) h = .ok (.lst ds) h := (rfl)
theorem vD_ins {n : Str} {fs : List (Str × D)} {h : D} : vD (some (some (.ins n fs))) h = .ok (.ins n fs) h := (rfl)
theorem vmD_ins {n : Str} {fs : List (Str × D)} {h : D} : vmD (some (some (.ins n fs))) h = .ok (.ins n fs) h := (rfl)
theorem eOn_a (f : D → D → Option D) (fa fb : EF D) : eOn f fa fb = eOp f fa fb := (rfl)
end Fw
namespace Lw
open PySem PySem.Spec L2 Fw
def gen {α : Type} (n : Nat) (f : Nat → α) : List α := (List.range n).map f
theorem gen_len {α : Type} (n : Nat) (f : Nat → α) : (gen n f).length = n := by unfold gen; rw [List.length_map, List.length_range]
theorem gen_get {α : Type} {n i : Nat} {f : Nat → α} (h : i < n) : (gen n f)[i]? = some (f i) := by
  unfold gen
  rw [List.getElem?_map, List.getElem?_range h]
  rfl
theorem gen_ext {α : Type} {n : Nat} {f : Nat → α} {xs : List α} (hl : xs.length = n) (k : ∀ i, i < n → xs[i]? = some (f i)) : xs = gen n f := by
  refine List.ext_getElem? fun i => ?_
  by_cases h : i < n
  · rw [k i h, gen_get h]
  · rw [List.getElem?_eq_none (by omega), List.getElem?_eq_none (by rw [gen_len]; omega)]
theorem gen_congr {α : Type} {n : Nat} {f g : Nat → α} (k : ∀ i, i < n → f i = g i) : gen n f = gen n g := gen_ext (gen_len n f) fun i h => by rw [gen_get h, k i h]
theorem gen_mem {α : Type} {n : Nat} {f : Nat → α} {x : α} : x ∈ gen n f ↔ ∃ i, i < n ∧ x = f i := by
  unfold gen
  rw [List.mem_map]
  constructor
  · rintro ⟨i, h, e⟩
    exact ⟨i, List.mem_range.mp h, e.symm⟩
  · rintro ⟨i, h, e⟩
    exact ⟨i, List.mem_range.mpr h, e.symm⟩
theorem gen_map {α β : Type} {n : Nat} {f : Nat → α} {g : α → β} : (gen n f).map g = gen n fun i => g (f i) := by
  unfold gen
  rw [List.map_map]
  rfl
theorem gen_succ {α : Type} {n : Nat} {f : Nat → α} : gen (n + 1) f = f 0 :: gen n fun i => f (i + 1) := by
  unfold gen
  rw [List.range_succ_eq_map, List.map_cons, List.map_map]
  rfl
theorem gen_last {α : Type} {n : Nat} {f : Nat → α} : gen (n + 1) f = gen n f ++ [f n] := by
  unfold gen
  rw [List.range_succ, List.map_append]
  rfl
theorem gen_rep {α : Type} {n : Nat} {z : α} : List.replicate n z = gen n fun _ => z := gen_ext (List.length_replicate) fun i h => by rw [List.getElem?_replicate, if_pos h]
theorem gen_set {α : Type} {n i : Nat} {f : Nat → α} {x : α} : (gen n f).set i x = gen n fun k => if k = i then x else f k := gen_ext (by rw [List.length_set, gen_len]) fun k h => by
  by_cases e : k = i
  · subst e
    rw [List.getElem?_set_self (by rw [gen_len]; exact h), if_pos rfl]
  · rw [List.getElem?_set_ne (fun z => e z.symm), gen_get h, if_neg e]
theorem gen_take {α : Type} {n k : Nat} {f : Nat → α} : (gen n f).take k = gen (min k n) f := gen_ext (by rw [List.length_take, gen_len]) fun i h => by
  rw [List.getElem?_take, if_pos (by omega), gen_get (by omega)]
theorem gen_drop {α : Type} {n k : Nat} {f : Nat → α} : (gen n f).drop k = gen (n - k) fun i => f (k + i) := gen_ext (by rw [List.length_drop, gen_len]) fun i h => by
  rw [List.getElem?_drop, gen_get (by omega)]
theorem rgD_gen {lo : Int} {n : Nat} : rgD lo n = gen n fun i => .int (lo + (i : Int)) := rfl
def mapF (f : Nat → D → Ex D) : Nat → Nat → D → Ex (List D)
  | _, 0, h => .ok [] h
  | s, n + 1, h => (f s h).nox.bind fun y h1 => (mapF f (s + 1) n h1).bind fun ys h2 => .ok (y :: ys) h2
def mapN (n : Nat) (f : Nat → D → Ex D) (h : D) : Ex (List D) := mapF f 0 n h
theorem mapF_congr {f g : Nat → D → Ex D} : ∀ (n s : Nat) (h : D), (∀ i, i < s + n → ∀ h, f i h = g i h) → mapF f s n h = mapF g s n h
  | 0, _, _, _ => rfl
  | n + 1, s, h, k => by
    unfold mapF
    rw [k s (by omega) h]
    congr 1
    funext y h1
    rw [mapF_congr n (s + 1) h1 fun i hi => k i (by omega)]
theorem mapN_congr {n m : Nat} {f g : Nat → D → Ex D} {h h' : D} (e : n = m) (k : ∀ i, i < m → ∀ h, f i h = g i h) (eh : h = h') : mapN n f h = mapN m g h' := by
  subst e eh
  exact mapF_congr n 0 h fun i hi => k i (by omega)
theorem mapF_ok {g : Nat → D} : ∀ (n s : Nat) (h : D), mapF (fun i h => .ok (g i) h) s n h = .ok (gen n fun i => g (s + i)) h
  | 0, _, _ => rfl
  | n + 1, s, h => by
    unfold mapF
    have ih := mapF_ok (g := g) n (s + 1) h
    show (mapF (fun i h => .ok (g i) h) (s + 1) n h).bind _ = _
    rw [ih, gen_succ]
    show Ex.ok _ h = _
    congr 1
    rw [Nat.add_zero]
    congr 1
    exact gen_congr fun i _ => by rw [show s + 1 + i = s + (i + 1) by omega]
theorem mapN_ok {g : Nat → D} {n : Nat} {h : D} : mapN n (fun i h => if i < n then .ok (g i) h else .bad) h = .ok (gen n g) h := by
  have e : mapN n (fun i h => if i < n then .ok (g i) h else .bad) h = mapN n (fun i h => .ok (g i) h) h := mapN_congr rfl (fun i hi h => if_pos hi) rfl
  rw [e]
  unfold mapN
  rw [mapF_ok]
  congr 1
  exact gen_congr fun i _ => by rw [Nat.zero_add]
def bindE (o : Option DE) (elt : EF D) (h : D) : Ex D := match o with
  | some δ => elt δ h
  | none => .bad
theorem bindE_some {δ : DE} {elt : EF D} {h : D} : bindE (some δ) elt h = elt δ h := (rfl)
theorem lc_genF {bind : D → DE → Option DE} {elt : EF D} {δ : DE} {d : Nat → D} : ∀ (n s : Nat) (h : D), lcGo bind tYesD elt δ (gen n fun i => d (s + i)) h = mapF (fun i h => bindE (bind (d i) δ) elt h) s n h
  | 0, _, _ => rfl
  | n + 1, s, h => by
    rw [gen_succ]
    unfold lcGo mapF
    have e : (gen n fun i => d (s + (i + 1))) = gen n fun i => d (s + 1 + i) := gen_congr fun i _ => by rw [show s + (i + 1) = s + 1 + i by omega]
    rw [e, Nat.add_zero]
    cases q : bind (d s) δ with
    | none => rfl
    | some δ2 =>
      show (Ex.ok true h).nox.bind _ = _
      show ((elt δ2 h).nox.bind _) = ((bindE (some δ2) elt h).nox.bind _)
      rw [bindE_some]
      congr 1
      funext y h1
      rw [lc_genF n (s + 1) h1]
theorem lc_gen {bind : D → DE → Option DE} {elt : EF D} {δ : DE} {d : Nat → D} {n : Nat} {h : D} : lcGo bind tYesD elt δ (gen n d) h = mapN n (fun i h => if i < n then bindE (bind (d i) δ) elt h else .bad) h := by
  have := lc_genF (bind := bind) (elt := elt) (δ := δ) (d := d) n 0 h
  have e : mapN n (fun i h => if i < n then bindE (bind (d i) δ) elt h else .bad) h = mapN n (fun i h => bindE (bind (d i) δ) elt h) h := mapN_congr rfl (fun i hi h => if_pos hi) rfl
  rw [e]
  unfold mapN
  rw [← this]
  congr 1
  exact gen_congr fun i _ => by rw [Nat.zero_add]
end Lw
set_option exponentiation.threshold 20000
namespace Lw
open PySem PySem.Spec L2 Fw
theorem sWh_a (n : Nat) (g : EF Bool) (body : SF) : sWh n g body = whGo g body n := (rfl)
theorem eRg1_a (mk : List D → D) (f : EF D) (δ : DE) (h : D) : eRg1 mk f δ h = ((f δ h).bind fun y h1 => Ex.of (match y with
  | .int j => if rgB 0 j then some (mk (rgD 0 j.toNat)) else none
  | _ => none) h1) := (rfl)
theorem eLend_a (is : List Nat) (f : EF D) (δ : DE) (h : D) : eLend is f δ h = match f (lendS is δ) .non with
  | .ok d _ => if flatD d then .ok d h else .bad
  | _ => .bad := (rfl)
theorem sSwap_a (k1 : EF Pl) (f1 : EF D) (k2 : EF Pl) (f2 : EF D) (fs : EF (List D)) (δ : DE) (h : D) : sSwap k1 f1 k2 f2 fs δ h = ((fs δ h).fl δ fun ds h1 => match ds with
  | [x, y] => (stGo k1 f1 x δ h1).bind (stGo k2 f2 y)
  | _ => .bad) := (rfl)
theorem stGo_a (k : EF Pl) (fi : EF D) (y : D) (δ : DE) (h : D) : stGo k fi y δ h = ((k δ h).fl δ fun p h2 => (fi δ h2).fl δ fun z h3 => match plD δ p, z with
  | some (.hl ds), .int i => match ixN ds.length i with
    | some j => .nx (plS δ p (.hl (ds.set j y))) h3
    | none => .bad
  | _, _ => .bad) := (rfl)
theorem bind_okE {α β : Type} (a : α) (h : D) (k : α → D → Ex β) : (Ex.ok a h).bind k = k a h := (rfl)
theorem fl_okE {α : Type} (a : α) (h : D) (δ : DE) (k : α → D → Fl) : (Ex.ok a h).fl δ k = k a h := (rfl)
theorem fl_excE {α : Type} (n : Str) (fs : List (Str × D)) (h : D) (δ : DE) (k : α → D → Fl) : (Ex.exc n fs h : Ex α).fl δ k = .exc n fs δ h := (rfl)
theorem bind_excE {α β : Type} (n : Str) (fs : List (Str × D)) (h : D) (k : α → D → Ex β) : (Ex.exc n fs h : Ex α).bind k = .exc n fs h := (rfl)
theorem seq_nx (δ : DE) (h : D) (k : SF) : (Fl.nx δ h).bind k = k δ h := (rfl)
theorem seq_ret (d h : D) (k : SF) : (Fl.ret d h).bind k = .ret d h := (rfl)
theorem seq_exc (n : Str) (fs : List (Str × D)) (δ : DE) (h : D) (k : SF) : (Fl.exc n fs δ h).bind k = .exc n fs δ h := (rfl)
theorem of_someE {α : Type} (a : α) (h : D) : Ex.of (some a) h = .ok a h := (rfl)
theorem nox_okE {α : Type} (a : α) (h : D) : (Ex.ok a h).nox = .ok a h := (rfl)
theorem eq_int (i j : Int) : eqD (.int i) (.int j) = some (decide (i = j)) := by
  unfold eqD toPy
  rfl
theorem oAdd_i (i j : Int) : oAdd (.int i) (.int j) = (some (.int (i + j)) : Option D) := (rfl)
theorem oSub_i (i j : Int) : oSub (.int i) (.int j) = (some (.int (i - j)) : Option D) := (rfl)
theorem oMul_i (i j : Int) : oMul (.int i) (.int j) = (if cMul i j then some (.int (i * j)) else none : Option D) := (rfl)
theorem oDiv_i (i j : Int) : oDiv (.int i) (.int j) = (if cDiv i j then some (.int (i.fdiv j)) else none : Option D) := (rfl)
theorem oMod_i (i j : Int) : oMod (.int i) (.int j) = (if cMod i j then some (.int (i.fmod j)) else none : Option D) := (rfl)
theorem oPow_i (i j : Int) : oPow (.int i) (.int j) = (if cPow i j then some (.int (i ^ j.toNat)) else none : Option D) := (rfl)
theorem oLt_i (i j : Int) : oLt (.int i) (.int j) = (some (.bl (decide (i < j))) : Option D) := (rfl)
theorem oLe_i (i j : Int) : oLe (.int i) (.int j) = (some (.bl (decide (i ≤ j))) : Option D) := (rfl)
theorem oGt_i (i j : Int) : oGt (.int i) (.int j) = (some (.bl (decide (j < i))) : Option D) := (rfl)
theorem oGe_i (i j : Int) : oGe (.int i) (.int j) = (some (.bl (decide (j ≤ i))) : Option D) := (rfl)
theorem oEq_a (x y : D) : oEq x y = (eqD x y).map .bl := (rfl)
theorem oNe_a (x y : D) : oNe x y = (eqD x y).map fun b => .bl (!b) := (rfl)
theorem oInP_a (x y : D) : oInP x y = (inP x y).map .bl := (rfl)
theorem oNinP_a (x y : D) : oNinP x y = (inP x y).map fun b => .bl (!b) := (rfl)
theorem oNeg_i (i : Int) : oNeg (.int i) = some (.int (-i)) := (rfl)
theorem oIsB_i (a b : Bool) : oIsB (.bl a) (.bl b) = some (.bl (decide (a = b))) := (rfl)
theorem bNm_a (i : Nat) (d : D) (δ : DE) : bNm i d δ = some (δ.set i (some d)) := (rfl)
theorem bTp_a (bs : List (D → DE → Option DE)) (ds : List D) (δ : DE) : bTp bs (.tup ds) δ = bAll bs ds δ := (rfl)
theorem kLen_t (ds : List D) : kLen [.tup ds] = some (.int ds.length) := (rfl)
theorem kLen_l (ds : List D) : kLen [.lst ds] = some (.int ds.length) := (rfl)
theorem kGcd_i (i j : Int) : Fw.kGcd [.int i, .int j] = some (.int ((Nat.gcd i.natAbs j.natAbs : Nat) : Int)) := (rfl)
theorem oIx_t (ds : List D) (i : Int) : oIx (.tup ds) (.int i) = atI ds i := (rfl)
theorem oIx_l (ds : List D) (i : Int) : oIx (.lst ds) (.int i) = atI ds i := (rfl)
theorem kTup_t (ds : List D) : Fw.kTup [.tup ds] = some (.tup ds) := (rfl)
theorem kTup_l (ds : List D) : Fw.kTup [.lst ds] = some (.tup ds) := (rfl)
theorem kList_t (ds : List D) : Fw.kList [.tup ds] = some (.hl ds) := (rfl)
theorem kList_l (ds : List D) : Fw.kList [.lst ds] = some (.hl ds) := (rfl)
theorem kInt_i (i : Int) : Fw.kInt [.int i] = some (.int i) := (rfl)
theorem kInt_b (b : Bool) : Fw.kInt [.bl b] = some (.int (if b then 1 else 0)) := by cases b <;> rfl
theorem lk_hit {α : Type} (n : Str) (v : α) (l : List (Str × α)) : List.lookup n ((n, v) :: l) = some v := by
  rw [List.lookup_cons, beq_self_eq_true]
theorem itS_t (ds : List D) : itS (.tup ds) = some ds := (rfl)
theorem itS_l (ds : List D) : itS (.lst ds) = some ds := (rfl)
theorem nc0 : ((0 : Nat) : Int) = 0 := (rfl)
theorem nc1 : ((1 : Nat) : Int) = 1 := (rfl)
theorem tn0 : (0 : Int).toNat = 0 := (rfl)
theorem tn1 : (1 : Int).toNat = 1 := (rfl)
theorem sz_ok {n : Nat} (h : n ≤ 1000000) : szOk n = true := decide_eq_true h
theorem rgB_ok {a b : Int} (h1 : -1000000 ≤ a) (h2 : a ≤ 1000000) (h3 : -1000000 ≤ b) (h4 : b ≤ 1000000) : rgB a b = true := by
  unfold rgB
  rw [rgOk_of h1 h2, rgOk_of h3 h4]
  rfl
theorem rg1_ok {i : Int} (h1 : -1000000 ≤ i) (h2 : i ≤ 1000000) : rg1 [.int i] = some (gen i.toNat fun k => .int (k : Int)) := by
  show (if rgOk i = true then some (rgD 0 i.toNat) else none) = _
  rw [if_pos (rgOk_of h1 h2), rgD_gen]
  congr 1
  exact gen_congr fun k _ => by rw [Int.zero_add]
theorem rg2_ok {i j : Int} (h1 : -1000000 ≤ i) (h2 : i ≤ 1000000) (h3 : -1000000 ≤ j) (h4 : j ≤ 1000000) : rg2 [.int i, .int j] = some (gen (j - i).toNat fun k => .int (i + (k : Int))) := by
  show (if (rgOk i && rgOk j) = true then some (rgD i (j - i).toNat) else none) = _
  have : (rgOk i && rgOk j) = true := by
    rw [rgOk_of h1 h2, rgOk_of h3 h4]
    rfl
  rw [if_pos this, rgD_gen]
theorem rgD0 {n : Nat} : rgD 0 n = gen n fun k => .int (k : Int) := gen_congr fun k _ => by rw [Int.zero_add]
theorem atI_gen {n : Nat} {f : Nat → D} {i : Int} (h0 : 0 ≤ i) (h1 : i < n) : atI (gen n f) i = some (f i.toNat) := by
  unfold atI ixN
  rw [gen_len, if_pos h0, if_pos h1, Option.bind_some, gen_get (by omega)]
theorem at0 {α : Type} {a : α} {l : List α} : atI (a :: l) 0 = some a := by
  unfold atI ixN
  rw [if_pos (by omega), if_pos (by rw [List.length_cons]; omega)]
  rfl
theorem at1 {α : Type} {a b : α} {l : List α} : atI (a :: b :: l) 1 = some b := by
  unfold atI ixN
  rw [if_pos (by omega), if_pos (by rw [List.length_cons, List.length_cons]; omega)]
  rfl
theorem at2 {α : Type} {a b c : α} {l : List α} : atI (a :: b :: c :: l) 2 = some c := by
  unfold atI ixN
  rw [if_pos (by omega), if_pos (by rw [List.length_cons, List.length_cons, List.length_cons]; omega)]
  rfl
theorem at3 {α : Type} {a b c d : α} {l : List α} : atI (a :: b :: c :: d :: l) 3 = some d := by
  unfold atI ixN
  rw [if_pos (by omega), if_pos (by rw [List.length_cons, List.length_cons, List.length_cons, List.length_cons]; omega)]
  rfl
theorem ixN_ok {n : Nat} {i : Int} (h0 : 0 ≤ i) (h1 : i < n) : ixN n i = some i.toNat := by
  unfold ixN
  rw [if_pos h0, if_pos h1]
theorem mul_sm {i j : Int} (h1 : -18446744073709551616 < i) (h2 : i < 18446744073709551616) (h3 : -18446744073709551616 < j) (h4 : j < 18446744073709551616) : cMul i j = true := by
  have lg : ∀ k : Int, -18446744073709551616 < k → k < 18446744073709551616 → k.natAbs.log2 ≤ 64 := fun k a b => by
    by_cases h0 : k.natAbs = 0
    · rw [h0]; exact Nat.zero_le _
    · have := (Nat.log2_lt (n := k.natAbs) (k := 64) h0).mpr (by omega)
      omega
  have := lg i h1 h2
  have := lg j h3 h4
  exact decide_eq_true (by omega)
theorem div_sm {i j : Int} (h0 : j ≠ 0) (h3 : -18446744073709551616 < j) (h4 : j < 18446744073709551616) : cDiv i j = true := by
  have : j.natAbs.log2 < 64 := (Nat.log2_lt (n := j.natAbs) (k := 64) (by omega)).mpr (by omega)
  unfold cDiv
  rw [decide_eq_true h0, decide_eq_true (by omega : j.natAbs.log2 < 9000)]
  rfl
theorem mod_ok {i j : Int} (h0 : j ≠ 0) : cMod i j = true := decide_eq_true h0
theorem flat_rep {α : Type} (n : Nat) (z : α) : (List.replicate n [z]).flatten = List.replicate n z := by
  induction n with
  | zero => rfl
  | succ m ih => rw [List.replicate_succ, List.flatten_cons, ih, List.replicate_succ]; rfl
theorem times_t {z : D} {n : Int} (h0 : 0 ≤ n) (h : n ≤ 1000) : oTimes (.tup [z]) (.int n) = some (.tup (gen n.toNat fun _ => z)) := by
  show (if (cRep n 1 && !([z] : List D).isEmpty) = true then some (D.tup (List.replicate n.toNat [z]).flatten) else none) = _
  have : cRep n 1 = true := by unfold cRep; rw [decide_eq_true h0, decide_eq_true h]; rfl
  rw [this, flat_rep, gen_rep]
  rfl
theorem times_l {z : D} {n : Int} (h0 : -1000 ≤ n) (h : n ≤ 1000) : oTimes (.lst [z]) (.int n) = some (.hl (gen n.toNat fun _ => z)) := by
  show (if cRepL n 1 = true then some (D.hl (List.replicate n.toNat [z]).flatten) else none) = _
  have : cRepL n 1 = true := by unfold cRepL; rw [decide_eq_true h0, decide_eq_true h]; rfl
  rw [this, flat_rep, gen_rep]
  rfl
theorem plus_t {ds es : List D} (h : ds.length + es.length ≤ 1000000) : oPlus (.tup ds) (.tup es) = some (.tup (ds ++ es)) := by
  show (if szOk (ds.length + es.length) = true then some (D.tup (ds ++ es)) else none) = _
  rw [sz_ok h]
  rfl
theorem plus_l {ds es : List D} (h : ds.length + es.length ≤ 1000000) : oPlus (.lst ds) (.lst es) = some (.hl (ds ++ es)) := by
  show (if szOk (ds.length + es.length) = true then some (D.hl (ds ++ es)) else none) = _
  rw [sz_ok h]
  rfl
theorem slD_t {ds : List D} {l u : Option Int} : slD (.tup ds) l u = some (.tup (cutD ds l u)) := (rfl)
theorem slD_l {ds : List D} {l u : Option Int} : slD (.lst ds) l u = some (.hl (cutD ds l u)) := (rfl)
theorem cut_lo {n : Nat} {f : Nat → D} {i : Int} (h0 : 0 ≤ i) : cutD (gen n f) (some i) none = gen (n - i.toNat) fun k => f (i.toNat + k) := by
  unfold cutD
  have e : HT.sIx (gen n f).length 0 (some i) = min i.toNat n := by
    show (if i < 0 then (i + ((gen n f).length : Int)).toNat else min i.toNat (gen n f).length) = _
    rw [if_neg (by omega), gen_len]
  rw [e, show HT.sIx (gen n f).length (gen n f).length none = (gen n f).length from rfl, gen_len, gen_drop, gen_take]
  refine gen_ext (by rw [gen_len]; omega) fun k hk => ?_
  rw [gen_get (by omega)]
  congr 2
  omega
theorem cut_hi {n : Nat} {f : Nat → D} {i : Int} (h0 : 0 ≤ i) : cutD (gen n f) none (some i) = gen (min i.toNat n) f := by
  unfold cutD
  have e : HT.sIx (gen n f).length (gen n f).length (some i) = min i.toNat n := by
    show (if i < 0 then (i + ((gen n f).length : Int)).toNat else min i.toNat (gen n f).length) = _
    rw [if_neg (by omega), gen_len]
  rw [e, show HT.sIx (gen n f).length 0 none = 0 from rfl, List.drop_zero, gen_take]
  refine gen_ext (by rw [gen_len]; omega) fun k hk => gen_get (by omega)
theorem eOpt_a (f : EF D) (δ : DE) (h : D) : eOpt f δ h = ((f δ h).bind fun d h1 => match d with
  | .int i => .ok (some i) h1
  | _ => .bad) := (rfl)
theorem enD_gen : ∀ (n k : Nat) (f : Nat → D), enD k (gen n f) = gen n fun i => .tup [.int ((k + i : Nat) : Int), f i]
  | 0, _, _ => rfl
  | n + 1, k, f => by
    rw [gen_succ, gen_succ]
    unfold enD
    rw [enD_gen n (k + 1), Nat.add_zero]
    congr 1
    exact gen_congr fun i _ => by rw [show k + 1 + i = k + (i + 1) by omega]
theorem en_t {n : Nat} {f : Nat → D} : kEnum [.tup (gen n f)] = some (gen n fun i => .tup [.int (i : Int), f i]) := by
  show some (enD 0 (gen n f)) = _
  rw [enD_gen]
  congr 1
  exact gen_congr fun i _ => by rw [Nat.zero_add]
theorem en_l {n : Nat} {f : Nat → D} : kEnum [.lst (gen n f)] = some (gen n fun i => .tup [.int (i : Int), f i]) := by
  show some (enD 0 (gen n f)) = _
  rw [enD_gen]
  congr 1
  exact gen_congr fun i _ => by rw [Nat.zero_add]
theorem zipD_gen : ∀ (n m : Nat) (f g : Nat → D), zipD (gen n f) (gen m g) = gen (min n m) fun i => .tup [f i, g i]
  | 0, _, _, _ => by rw [Nat.zero_min]; rfl
  | n + 1, 0, f, g => by rw [Nat.min_zero, gen_succ]; rfl
  | n + 1, m + 1, f, g => by
    rw [gen_succ, gen_succ]
    unfold zipD
    rw [zipD_gen n m, show min (n + 1) (m + 1) = min n m + 1 by omega, gen_succ]
theorem zip_t {n m : Nat} {f g : Nat → D} : kZip [.tup (gen n f), .tup (gen m g)] = some (gen (min n m) fun i => .tup [f i, g i]) := congrArg some (zipD_gen n m f g)
theorem zip_l {n m : Nat} {f g : Nat → D} : kZip [.lst (gen n f), .lst (gen m g)] = some (gen (min n m) fun i => .tup [f i, g i]) := congrArg some (zipD_gen n m f g)
def sumZ : Nat → (Nat → Int) → Int
  | 0, _ => 0
  | n + 1, f => sumZ n f + f n
theorem intL_gen : ∀ (n : Nat) (f : Nat → Int), intL (gen n fun i => .int (f i)) = some (gen n f)
  | 0, _ => rfl
  | n + 1, f => by
    rw [gen_succ, gen_succ]
    show (intL (gen n fun i => .int (f (i + 1)))).map (f 0 :: ·) = _
    rw [intL_gen n fun i => f (i + 1)]
    rfl
theorem sum_gen : ∀ (n : Nat) (f : Nat → Int), (gen n f).sum = sumZ n f
  | 0, _ => rfl
  | n + 1, f => by rw [gen_last, List.sum_append, sum_gen n f]; show sumZ n f + (f n + 0) = _; rw [Int.add_zero]; rfl
theorem kSum_gen {n : Nat} {f : Nat → Int} : kSum [.lst (gen n fun i => .int (f i))] = some (.int (sumZ n f)) := by
  show (intL (gen n fun i => .int (f i))).map (fun ns => D.int ns.sum) = _
  rw [intL_gen, Option.map_some, sum_gen]
theorem bls_gen : ∀ (n : Nat) (f : Nat → Bool), bls (gen n fun i => .bl (f i)) = some (gen n f)
  | 0, _ => rfl
  | n + 1, f => by
    rw [gen_succ, gen_succ]
    show (bls (gen n fun i => .bl (f (i + 1)))).map (f 0 :: ·) = _
    rw [bls_gen n fun i => f (i + 1)]
    rfl
theorem kAll_gen {n : Nat} {f : Nat → Bool} : kAll [.lst (gen n fun i => .bl (f i))] = some (.bl ((gen n f).all id)) := by
  show (bls (gen n fun i => .bl (f i))).map (fun ns => D.bl (ns.all id)) = _
  rw [bls_gen]
  rfl
end Lw
local macro_rules | `(tactic| push_cast [$xs,*]) => `(tactic| simp (disch := first | omega | assumption | (simp only [Lw.gen_len, List.length_cons, List.length_nil, List.length_append]; omega)) only [Fw.eV_a, Fw.eC_a, Fw.eOp_a, Fw.eUn_a, Fw.eT_a, Fw.eTru_a, Fw.eAnd_a, Fw.eOr_a, Fw.eNot_a, Fw.eB_a, Fw.eIf_a, Fw.eCh_a, Fw.eNil_a, Fw.eCons_a, Fw.eTup_a, Fw.eLst_a, Fw.eFz_a, Fw.eM_a, Fw.eIxM_a, Fw.eNo_a, Fw.eSl_a, Fw.eAt_a, Fw.eAtV_a, Fw.eBi_a, Fw.eIs_a, Fw.eIs2_a, Fw.iSeq_a, Fw.iRg_a, Fw.eLcL_a, Fw.eLc_a, Fw.tYesD_a, Fw.sNil_a, Fw.sSeq_a, Fw.sSet_a, Fw.sFrz_a, Fw.sRet_a, Fw.sRetV_a, Fw.sRetN_a, Fw.sIf_a, Fw.sBrk_a, Fw.sCt_a, Fw.sDrop_a, Fw.sAug_a, Fw.sAsg_a, Fw.sPar_a, Fw.sPar3_a, Fw.sFor_a, Fw.pV_a, Fw.pIx_a, Fw.ePl_a, Fw.eLenP_a, Fw.sApp_a, Fw.sSt_a, Fw.sStM_a, Fw.sAt_a, Fw.eVm_a, Fw.eCall_a, Fw.eMake_a, Fw.eFw_a, Fw.sRaise_a, Fw.sRaise0_a, Fw.sTry_a, Fw.eXf_a, Fw.eXi_a, Fw.eLenI_a, Fw.iOwnI_a, Fw.eNeI_a, Fw.eInn_a, Fw.eIsC_a, Fw.eOn_a, Fw.runF, Lw.sWh_a, Lw.eRg1_a, Lw.eLend_a, Lw.sSwap_a, Lw.stGo_a, Lw.eOpt_a, Lw.bind_okE, Lw.fl_okE, Lw.fl_excE, Lw.bind_excE, Lw.seq_nx, Lw.seq_ret, Lw.seq_exc, Lw.of_someE, Lw.nox_okE, Fw.bD, Fw.truD, Lw.oAdd_i, Lw.oSub_i, Lw.oMul_i, Lw.oDiv_i, Lw.oMod_i, Lw.oPow_i, Lw.oLt_i, Lw.oLe_i, Lw.oGt_i, Lw.oGe_i, Lw.oEq_a, Lw.oNe_a, Lw.oInP_a, Lw.oNinP_a, Fw.oIsN, Fw.oNotN, Lw.oIsB_i, Lw.oNeg_i, Lw.eq_int, Fw.vmD_me, Fw.atv_ins, Fw.atv_me, Fw.att_ins, Fw.vD_non, Fw.vmD_non, Fw.vD_bl, Fw.vmD_bl, Fw.vD_int, Fw.vmD_int, Fw.vD_str, Fw.vmD_str, Fw.vD_tup, Fw.vmD_tup, Fw.vD_lst, Fw.vmD_lst, Fw.vD_ins, Fw.vmD_ins, Lw.bNm_a, Lw.bTp_a, Fw.bAll, Lw.itS_t, Lw.itS_l, Fw.frzS, Fw.sfz, Fw.tyS, Fw.isS, Fw.wipeD, List.map, List.append, List.length_cons, List.length_nil, List.replicate, List.getElem?_cons_zero, List.getElem?_cons_succ, List.set_cons_zero, List.set_cons_succ, List.cons_append, List.nil_append, List.append_nil, Nat.reduceSub, Nat.reduceAdd, Option.map_some, if_true, if_false, Bool.not_true, Bool.not_false, Bool.false_eq_true, ite_true, ite_false, reduceIte, decide_true, decide_false, eq_self, Lw.nc0, Lw.nc1, Int.cast_ofNat_Int, Lw.tn0, Lw.tn1, Int.toNat_natCast, Int.reduceToNat, Lw.oIx_t, Lw.oIx_l, Lw.kLen_t, Lw.kLen_l, Lw.kGcd_i, Lw.kTup_t, Lw.kTup_l, Lw.kList_t, Lw.kList_l, Lw.kInt_i, Lw.kInt_b, Lw.lk_hit, Lw.sz_ok, Lw.rgB_ok, Lw.rg1_ok, Lw.rg2_ok, Lw.rgD0, Lw.atI_gen, Lw.at0, Lw.at1, Lw.at2, Lw.at3, Lw.ixN_ok, Lw.mul_sm, Lw.div_sm, Lw.mod_ok, Lw.times_t, Lw.times_l, Lw.plus_t, Lw.plus_l, Lw.slD_t, Lw.slD_l, Lw.cut_lo, Lw.cut_hi, Lw.en_t, Lw.en_l, Lw.zip_t, Lw.zip_l, Lw.kSum_gen, Lw.kAll_gen, Lw.gen_len, Lw.lc_gen, Lw.bindE_some, Lw.mapN_ok, if_pos, if_neg, decide_eq_true_eq, decide_eq_true, decide_eq_false, Bool.not_eq_true', decide_eq_false_iff_not, Int.zero_add, Int.add_zero, Int.sub_zero, Nat.min_self, Bool.and_true, Bool.true_and, Bool.or_false, Bool.false_or, Bool.or_true, Bool.true_or, Bool.and_false, Bool.false_and, Fw.plD, Fw.getP, Fw.plS, Fw.setP, Fw.D.nm, true_or, or_true, false_or, or_false, true_and, and_true, false_and, and_false, not_true_eq_false, not_false_eq_true, $xs,*])
namespace Lw
open PySem PySem.Spec L2 Fw
end Lw
set_option exponentiation.threshold 20000
namespace Lw
open PySem PySem.Spec L2 Fw
class Fd (K : Type) extends Lean.Grind.CommRing K where
  inv : K → K
  mul_inv : ∀ a : K, a ≠ 0 → a * inv a = 1
  inv_zero : inv 0 = 0
  z_ne : (0 : K) ≠ 1
  dec : DecidableEq K
instance {K : Type} [f : Fd K] : DecidableEq K := f.dec
inductive Fg where
  | q
  | m (n : Nat) (h : n = 0 ∨ n = 1 ∨ n = 3 ∨ n = 5 ∨ n = 9 ∨ n = 11)
def Fg.p : Fg → Int
  | .q => 0
  | .m n _ => ((n + 2 : Nat) : Int)
@[reducible] def Fg.K : Fg → Type
  | .q => Rat
  | .m n _ => Fin (n + 2)
def finInv {n : Nat} (a : Fin (n + 2)) : Fin (n + 2) := ((List.finRange (n + 2)).find? fun b => a * b == 1).getD 0
theorem fin_inv {n : Nat} (h : n = 0 ∨ n = 1 ∨ n = 3 ∨ n = 5 ∨ n = 9 ∨ n = 11) : ∀ a : Fin (n + 2), a ≠ 0 → a * finInv a = 1 := by
  rcases h with rfl | rfl | rfl | rfl | rfl | rfl <;> decide +kernel
theorem fin_inv0 {n : Nat} : finInv (0 : Fin (n + 2)) = 0 := by
  unfold finInv
  have : (List.finRange (n + 2)).find? (fun b => (0 : Fin (n + 2)) * b == 1) = none := by
    rw [List.find?_eq_none]
    intro b _ z
    have e : (0 : Fin (n + 2)) * b = 1 := eq_of_beq z
    rw [Fin.zero_mul] at e
    have := congrArg Fin.val e
    simp at this
  rw [this]
  rfl
instance instFdRat : Fd Rat where
  inv := fun a => a⁻¹
  mul_inv := fun a h => Rat.mul_inv_cancel a h
  inv_zero := Rat.inv_zero
  z_ne := by decide
  dec := inferInstance
@[reducible] def instFdFin (n : Nat) (h : n = 0 ∨ n = 1 ∨ n = 3 ∨ n = 5 ∨ n = 9 ∨ n = 11) : Fd (Fin (n + 2)) where
  inv := finInv
  mul_inv := fin_inv h
  inv_zero := fin_inv0
  z_ne := by
    intro z
    have := congrArg Fin.val z
    simp at this
  dec := inferInstance
instance instFd (k : Fg) : Fd k.K := match k with
  | .q => instFdRat
  | .m n h => instFdFin n h
def bt (n : Nat) : Nat := if n = 0 then 0 else n.log2 + 1
theorem bt_lt (n : Nat) : n < 2 ^ bt n := by
  unfold bt
  split
  · rename_i h; rw [h]; decide
  · exact Nat.lt_log2_self
theorem bt_le {n b : Nat} (h : n < 2 ^ b) : bt n ≤ b := by
  unfold bt
  split
  · exact Nat.zero_le _
  · rename_i h0
    have := (Nat.log2_lt h0).mpr h
    omega
theorem bt_mono {n m : Nat} (h : n ≤ m) : bt n ≤ bt m := bt_le (Nat.lt_of_le_of_lt h (bt_lt m))
theorem bt_mul (n m : Nat) : bt (n * m) ≤ bt n + bt m := by
  refine bt_le ?_
  rw [Nat.pow_add]
  exact Nat.mul_lt_mul'' (bt_lt n) (bt_lt m)
theorem bt_add (n m : Nat) : bt (n + m) ≤ max (bt n) (bt m) + 1 := by
  refine bt_le ?_
  have h1 := Nat.lt_of_lt_of_le (bt_lt n) (Nat.pow_le_pow_right (by decide : 0 < 2) (Nat.le_max_left (bt n) (bt m)))
  have h2 := Nat.lt_of_lt_of_le (bt_lt m) (Nat.pow_le_pow_right (by decide : 0 < 2) (Nat.le_max_right (bt n) (bt m)))
  rw [Nat.pow_succ]
  omega
theorem bt_log (n : Nat) : n.log2 ≤ bt n := by
  unfold bt
  split
  · rename_i h; rw [h]; decide
  · omega
theorem cMul_b {i j : Int} (h : bt i.natAbs + bt j.natAbs < 1000000) : cMul i j = true := by
  have := bt_log i.natAbs
  have := bt_log j.natAbs
  exact decide_eq_true (by omega)
theorem cDiv_b {i j : Int} (h0 : j ≠ 0) (h : bt j.natAbs ≤ 9000) : cDiv i j = true := by
  have : j.natAbs.log2 < 9000 := by
    unfold bt at h
    split at h
    · omega
    · omega
  unfold cDiv
  rw [decide_eq_true h0, decide_eq_true this]
  rfl
open Rat in
theorem div_num_le (t : Int) {b : Int} (hb : b ≠ 0) : (divInt t b).num.natAbs ≤ t.natAbs := by
  rw [num_divInt, Int.natAbs_ediv_of_dvd, Int.natAbs_mul]
  · have : b.sign.natAbs = 1 := Int.natAbs_sign_of_ne_zero hb
    rw [this, Nat.one_mul]
    exact Nat.div_le_self _ _
  · exact Int.dvd_mul_of_dvd_right (Int.gcd_dvd_right ..)
open Rat in
theorem div_den_le (t : Int) {b : Int} (hb : b ≠ 0) : (divInt t b).den ≤ b.natAbs := by
  rw [den_divInt, if_neg hb]
  exact Nat.div_le_self _ _
def encQ (x : Rat) : D := .tup [.int x.num, .int x.den]
def hq (x : Rat) : Nat := max (bt x.num.natAbs) (bt x.den)
theorem hq_div (t : Int) {b : Int} (hb : b ≠ 0) : hq (Rat.divInt t b) ≤ max (bt t.natAbs) (bt b.natAbs) := by
  unfold hq
  have h1 := bt_mono (div_num_le t hb)
  have h2 := bt_mono (div_den_le t hb)
  omega
theorem den_ne (a : Rat) : (a.den : Int) ≠ 0 := by have := a.den_pos; omega
theorem q_mul (a b : Rat) : a * b = Rat.divInt (a.num * b.num) (a.den * b.den) := by
  rw [← Rat.divInt_mul_divInt, Rat.num_divInt_den, Rat.num_divInt_den]
theorem q_add (a b : Rat) : a + b = Rat.divInt (a.num * b.den + b.num * a.den) (a.den * b.den) := by
  rw [← Rat.divInt_add_divInt _ _ (den_ne a) (den_ne b), Rat.num_divInt_den, Rat.num_divInt_den]
theorem q_inv (a : Rat) : a⁻¹ = Rat.divInt a.den a.num := by
  rw [← Rat.inv_divInt, Rat.num_divInt_den]
theorem num_ne {a : Rat} (h : a ≠ 0) : a.num ≠ 0 := fun z => h (Rat.num_eq_zero.mp z)
theorem q_over (a b : Rat) : a * b⁻¹ = Rat.divInt (a.num * b.den) (a.den * b.num) := by
  rw [q_inv, ← Rat.divInt_mul_divInt, Rat.num_divInt_den]
end Lw
set_option exponentiation.threshold 20000
namespace Lw
open PySem PySem.Spec L2 Fw Pd
theorem fm {a m : Int} (h : 0 < m) : 0 ≤ a.fmod m ∧ a.fmod m < m := by
  rw [Int.fmod_eq_emod_of_nonneg _ (Int.le_of_lt h)]
  exact ⟨Int.emod_nonneg _ (by omega), Int.emod_lt_of_pos _ h⟩
theorem fd {a m : Int} (h : 0 < m) (ha : 0 ≤ a) : 0 ≤ a.fdiv m ∧ a.fdiv m ≤ a := by
  rw [Int.fdiv_eq_ediv_of_nonneg _ (Int.le_of_lt h)]
  exact ⟨Int.ediv_nonneg ha (Int.le_of_lt h), Int.ediv_le_self _ ha⟩
theorem fm_nat {a b : Nat} : (a : Int).fmod (b : Int) = ((a % b : Nat) : Int) := by
  rw [Int.fmod_eq_emod_of_nonneg _ (by omega)]; rfl
def gcdBody : SF := sSeq (sIf (eT (eOp oEq (eV 3) (eC (.int 0)))) (sRet (eV 2)) sNil) (sSeq (sSet 5 (eOp oMod (eBi kInt (eCons (eV 2) eNil)) (eV 3))) (sSeq (sSet 2 (eV 3)) (sSet 3 (eV 5))))
theorem gcd_end {d0 d1 h x : D} {xs : List D} {a : Nat} {o4 o5 : Option D} : forGo (bNm 4) gcdBody (x :: xs) [some d0, some d1, some (.int a), some (.int 0), o4, o5] h = .ret (.int a) h := by
  unfold forGo gcdBody
  push_cast []
theorem gcd_step {d0 d1 h x : D} {xs : List D} {a b : Nat} {o4 o5 : Option D} (hb : b ≠ 0) : forGo (bNm 4) gcdBody (x :: xs) [some d0, some d1, some (.int a), some (.int b), o4, o5] h = forGo (bNm 4) gcdBody xs [some d0, some d1, some (.int b), some (.int (a % b : Nat)), some x, some (.int (a % b : Nat))] h := by
  have hz : ¬ (b : Int) = 0 := by omega
  have hm := mod_ok (i := (a : Int)) hz
  have e := fm_nat (a := a) (b := b)
  rw [forGo]
  conv => lhs; unfold gcdBody
  push_cast [hz, hm, e]
  rfl
theorem gcd_loop {d0 d1 h : D} : ∀ (m : Nat) (l : List D) (a b : Nat) (o4 o5 : Option D), b < 2 ^ m → 2 * m + 1 ≤ l.length →
    forGo (bNm 4) gcdBody l [some d0, some d1, some (.int a), some (.int b), o4, o5] h = .ret (.int (Nat.gcd a b : Nat)) h
  | m, [], a, b, o4, o5, hb, hl => by simp at hl
  | 0, x :: xs, a, b, o4, o5, hb, hl => by
    have : b = 0 := by omega
    subst this
    rw [Nat.gcd_zero_right]
    exact gcd_end
  | m + 1, [x], a, b, o4, o5, hb, hl => by simp at hl
  | m + 1, x :: y :: ys, a, b, o4, o5, hb, hl => by
    by_cases h0 : b = 0
    · subst h0
      rw [Nat.gcd_zero_right]
      exact gcd_end
    · rw [gcd_step h0]
      have e1 : Nat.gcd a b = Nat.gcd b (a % b) := by rw [Nat.gcd_comm a b, Nat.gcd_rec b a, Nat.gcd_comm]
      by_cases h1 : a % b = 0
      · rw [h1] at e1 ⊢
        rw [e1, Nat.gcd_zero_right]
        exact gcd_end
      · rw [gcd_step h1]
        have e2 : Nat.gcd b (a % b) = Nat.gcd (a % b) (b % (a % b)) := by rw [Nat.gcd_comm b (a % b), Nat.gcd_rec (a % b) b, Nat.gcd_comm]
        have r1 : a % b < b := Nat.mod_lt _ (by omega)
        have r2 : b % (a % b) < a % b := Nat.mod_lt _ (by omega)
        have r3 : b % (a % b) + a % b ≤ b := by
          have := Nat.mod_add_div b (a % b)
          have : 1 ≤ b / (a % b) := Nat.div_pos (by omega) (by omega)
          have := Nat.mul_le_mul_left (a % b) this
          omega
        rw [e1, e2]
        refine gcd_loop m ys (a % b) (b % (a % b)) _ _ ?_ ?_
        · rw [Nat.pow_succ] at hb; omega
        · rw [List.length_cons, List.length_cons] at hl; omega
theorem abs_if (x : Int) : (if x < 0 then -x else x) = (x.natAbs : Int) := by split <;> omega
theorem E_gcd (x y : Int) (h : D) (hy : bt y.natAbs ≤ 20000) : F__law_gcd [.int x, .int y] h = .ok (.int (Nat.gcd x.natAbs y.natAbs : Nat)) h := by
  have hb : y.natAbs < 2 ^ 20000 := Nat.lt_of_lt_of_le (bt_lt _) (Nat.pow_le_pow_right (by decide) hy)
  have e := gcd_loop (h := h) (d0 := .int x) (d1 := .int y) 20000 (gen 60000 fun k => .int (k : Int)) x.natAbs y.natAbs none none hb (by rw [gen_len]; omega)
  have rg : rg1 [.int 60000] = some (gen 60000 fun k => .int (k : Int)) := rg1_ok (by omega) (by omega)
  unfold gcdBody at e
  unfold F__law_gcd
  simp only [runF, sSeq_a, sSet_a, eBi_a, eCons_a, eNil_a, eV_a, List.map, List.append, List.length_cons, List.length_nil, List.replicate, List.cons_append, List.nil_append, Nat.reduceSub, Nat.reduceAdd, List.getElem?_cons_zero, List.getElem?_cons_succ, vD_int, bind_okE, kAbs, abs_if, of_someE, fl_okE, seq_nx, List.set_cons_zero, List.set_cons_succ, sFor_a, iRg_a, eC_a, rg]
  rw [e]
  rfl
theorem low_parts (t : Int) {b : Int} (hb : b ≠ 0) : ∃ g : Int, 0 < g ∧ g = (Nat.gcd t.natAbs b.natAbs : Nat) ∧ bt g.natAbs ≤ bt b.natAbs ∧ (0 < b → t.fdiv g = (Rat.divInt t b).num ∧ b.fdiv g = ((Rat.divInt t b).den : Int)) ∧ (b < 0 → t.fdiv (-g) = (Rat.divInt t b).num ∧ b.fdiv (-g) = ((Rat.divInt t b).den : Int)) := by
  have g0 : 0 < Nat.gcd t.natAbs b.natAbs := Nat.gcd_pos_of_pos_right _ (by omega)
  have eg : Int.gcd b t = Nat.gcd t.natAbs b.natAbs := Nat.gcd_comm _ _
  have d1 : ((Nat.gcd t.natAbs b.natAbs : Nat) : Int) ∣ t := Int.ofNat_dvd_left.mpr (Nat.gcd_dvd_left ..)
  have d2 : ((Nat.gcd t.natAbs b.natAbs : Nat) : Int) ∣ b := Int.ofNat_dvd_left.mpr (Nat.gcd_dvd_right ..)
  refine ⟨(Nat.gcd t.natAbs b.natAbs : Nat), by omega, rfl, ?_, fun hp => ⟨?_, ?_⟩, fun hn => ⟨?_, ?_⟩⟩
  · rw [Int.natAbs_natCast]
    exact bt_mono (Nat.le_of_dvd (by omega) (Nat.gcd_dvd_right ..))
  · rw [Int.fdiv_eq_ediv_of_nonneg _ (by omega), Rat.num_divInt, Int.sign_eq_one_of_pos hp, Int.one_mul, eg]
  · rw [Int.fdiv_eq_ediv_of_nonneg _ (by omega), Rat.den_divInt, if_neg hb, eg, Int.natCast_ediv, Int.natAbs_of_nonneg (by omega)]
  · obtain ⟨q, hq⟩ := d1
    rw [Rat.num_divInt, Int.sign_eq_neg_one_of_neg hn, eg]
    have gi : (0 : Int) < ((Nat.gcd t.natAbs b.natAbs : Nat) : Int) := by omega
    generalize ((Nat.gcd t.natAbs b.natAbs : Nat) : Int) = g at *
    rw [hq, show g * q = (-g) * (-q) by rw [Int.neg_mul_neg], Int.mul_fdiv_cancel_left _ (by omega), Int.neg_mul_neg, Int.neg_mul, Int.one_mul, ← Int.mul_neg, Int.mul_ediv_cancel_left _ (by omega)]
  · obtain ⟨q, hq⟩ := d2
    rw [Rat.den_divInt, if_neg hb, eg, Int.natCast_ediv]
    have hn2 : (b.natAbs : Int) = -b := by omega
    rw [hn2]
    have gi : (0 : Int) < ((Nat.gcd t.natAbs b.natAbs : Nat) : Int) := by omega
    generalize ((Nat.gcd t.natAbs b.natAbs : Nat) : Int) = g at *
    rw [hq, show g * q = (-g) * (-q) by rw [Int.neg_mul_neg], Int.mul_fdiv_cancel_left _ (by omega), Int.neg_mul_neg, ← Int.mul_neg, Int.mul_ediv_cancel_left _ (by omega)]
theorem E_low (t b : Int) (h : D) (hb : b ≠ 0) (hs : bt b.natAbs ≤ 9000) : F_in_lowest_terms [.int t, .int b] h = .ok (encQ (Rat.divInt t b)) h := by
  obtain ⟨g, g0, eg, bg, hp, hn⟩ := low_parts t hb
  have d1 : ∀ i, cDiv i g = true := fun i => cDiv_b (by omega) (by omega)
  have d2 : ∀ i, cDiv i (-g) = true := fun i => cDiv_b (by omega) (by rw [Int.natAbs_neg]; omega)
  unfold F_in_lowest_terms encQ
  by_cases h0 : b < 0
  · obtain ⟨e1, e2⟩ := hn h0
    push_cast [h0, ← eg, d2, e1, e2]
  · obtain ⟨e1, e2⟩ := hp (by omega)
    push_cast [h0, ← eg, d1, e1, e2]
theorem E_ratio (t b : Int) (h : D) (hb : b ≠ 0) (hs : bt b.natAbs ≤ 9000) : F__law_ratio [.int t, .int b] h = .ok (encQ (Rat.divInt t b)) h := by
  obtain ⟨g, g0, eg, bg, hp, hn⟩ := low_parts t hb
  have d1 : ∀ i, cDiv i g = true := fun i => cDiv_b (by omega) (by omega)
  have d2 : ∀ i, cDiv i (-g) = true := fun i => cDiv_b (by omega) (by rw [Int.natAbs_neg]; omega)
  have e := E_gcd t b h (by omega)
  rw [← eg] at e
  unfold F__law_ratio encQ
  by_cases h0 : b < 0
  · obtain ⟨e1, e2⟩ := hn h0
    push_cast [h0, e, d2, e1, e2]
  · obtain ⟨e1, e2⟩ := hp (by omega)
    push_cast [h0, e, d1, e1, e2]
end Lw
set_option exponentiation.threshold 20000
namespace Lw
open PySem PySem.Spec L2 Fw Pd
def enc (k : Fg) (x : k.K) : D := match k, x with
  | .q, x => encQ x
  | .m _ _, x => .int (x.val : Int)
def ht (k : Fg) (x : k.K) : Nat := match k, x with
  | .q, x => hq x
  | .m _ _, _ => 0
def fig (k : Fg) : D := .ins "Figures" [("prime", .int k.p), ("zero", enc k 0), ("one", enc k 1)]
theorem enc_fr (k : Fg) (x : k.K) : (enc k x).fr = true := by cases k <;> rfl
theorem enc_vd {k : Fg} {x : k.K} {h : D} : vD (some (some (enc k x))) h = .ok (enc k x) h := by cases k <;> rfl
theorem enc_vm {k : Fg} {x : k.K} {h : D} : vmD (some (some (enc k x))) h = .ok (enc k x) h := by cases k <;> rfl
theorem fig_vd {k : Fg} {h : D} : vD (some (some (fig k))) h = .ok (fig k) h := (rfl)
theorem fig_vm {k : Fg} {h : D} : vmD (some (some (fig k))) h = .ok (fig k) h := (rfl)
theorem fig_p {k : Fg} {h : D} : atvD (some (some (fig k))) "prime" h = .ok (.int k.p) h := (rfl)
theorem fig_z {k : Fg} {h : D} : atvD (some (some (fig k))) "zero" h = .ok (enc k 0) h := (rfl)
theorem fig_o {k : Fg} {h : D} : atvD (some (some (fig k))) "one" h = .ok (enc k 1) h := (rfl)
theorem pq : Fg.q.p = 0 := (rfl)
theorem pm {n : Nat} {h} : (Fg.m n h).p = ((n + 2 : Nat) : Int) := (rfl)
theorem encQ_a (x : Rat) : enc .q x = encQ x := (rfl)
theorem encM_a {n : Nat} {h} (x : Fin (n + 2)) : enc (.m n h) x = .int (x.val : Int) := (rfl)
theorem hq_num (a : Rat) : bt a.num.natAbs ≤ hq a := Nat.le_max_left _ _
theorem hq_den (a : Rat) : bt a.den ≤ hq a := Nat.le_max_right _ _
theorem hq_mul (a b : Rat) : hq (a * b) ≤ hq a + hq b := by
  rw [q_mul]
  refine Nat.le_trans (hq_div _ (Int.mul_ne_zero (den_ne a) (den_ne b))) ?_
  rw [Int.natAbs_mul, Int.natAbs_mul, Int.natAbs_natCast, Int.natAbs_natCast]
  have := bt_mul a.num.natAbs b.num.natAbs
  have := bt_mul a.den b.den
  have := hq_num a
  have := hq_num b
  have := hq_den a
  have := hq_den b
  omega
theorem bt_sum (x y : Int) : bt (x + y).natAbs ≤ max (bt x.natAbs) (bt y.natAbs) + 1 := Nat.le_trans (bt_mono (Int.natAbs_add_le x y)) (bt_add _ _)
theorem hq_add (a b : Rat) : hq (a + b) ≤ hq a + hq b + 1 := by
  rw [q_add]
  refine Nat.le_trans (hq_div _ (Int.mul_ne_zero (den_ne a) (den_ne b))) ?_
  have h1 := bt_sum (a.num * b.den) (b.num * a.den)
  rw [Int.natAbs_mul, Int.natAbs_mul, Int.natAbs_natCast, Int.natAbs_natCast] at h1
  rw [Int.natAbs_mul, Int.natAbs_natCast, Int.natAbs_natCast]
  have := bt_mul a.num.natAbs b.den
  have := bt_mul b.num.natAbs a.den
  have := bt_mul a.den b.den
  have := hq_num a
  have := hq_num b
  have := hq_den a
  have := hq_den b
  omega
theorem hq_neg (a : Rat) : hq (-a) = hq a := by
  show max (bt (-a.num).natAbs) (bt a.den) = _
  rw [Int.natAbs_neg]
  rfl
theorem ht_mul (k : Fg) (a b : k.K) : ht k (a * b) ≤ ht k a + ht k b := by cases k with
  | q => exact hq_mul a b
  | m n h => exact Nat.zero_le _
theorem ht_add (k : Fg) (a b : k.K) : ht k (a + b) ≤ ht k a + ht k b + 1 := by cases k with
  | q => exact hq_add a b
  | m n h => exact Nat.zero_le _
theorem ht_neg (k : Fg) (a : k.K) : ht k (-a) = ht k a := by cases k with
  | q => exact hq_neg a
  | m n h => rfl
theorem ht_zero (k : Fg) : ht k 0 ≤ 1 := by cases k with
  | q => exact (by decide : hq 0 ≤ 1)
  | m n h => exact Nat.zero_le _
section
variable {n : Nat}
theorem fv_add (a b : Fin (n + 2)) : ((a.val : Int) + b.val).fmod ((n + 2 : Nat) : Int) = ((a + b).val : Int) := by
  rw [show (a.val : Int) + b.val = ((a.val + b.val : Nat) : Int) by omega, fm_nat, Fin.val_add]
theorem fv_mul (a b : Fin (n + 2)) : ((a.val : Int) * b.val).fmod ((n + 2 : Nat) : Int) = ((a * b).val : Int) := by
  rw [show (a.val : Int) * b.val = ((a.val * b.val : Nat) : Int) by rw [Int.natCast_mul], fm_nat, Fin.val_mul]
theorem fv_sub (a b : Fin (n + 2)) : ((a.val : Int) - b.val).fmod ((n + 2 : Nat) : Int) = ((a - b).val : Int) := by
  have hb := b.isLt
  rw [Fin.sub_def]
  show _ = (((n + 2 - b.val + a.val) % (n + 2) : Nat) : Int)
  rw [← fm_nat, Int.fmod_eq_emod_of_nonneg _ (by omega), Int.fmod_eq_emod_of_nonneg _ (by omega)]
  rw [show ((n + 2 - b.val + a.val : Nat) : Int) = ((a.val : Int) - b.val) + ((n + 2 : Nat) : Int) by omega, Int.add_emod_right]
theorem fv_lt (a : Fin (n + 2)) : (a.val : Int) < ((n + 2 : Nat) : Int) := by have := a.isLt; omega
end
theorem pm_le {n : Nat} (h : n = 0 ∨ n = 1 ∨ n = 3 ∨ n = 5 ∨ n = 9 ∨ n = 11) : n + 2 ≤ 13 := by omega
theorem E_plus (k : Fg) (a b : k.K) (h : D) (hs : ht k a + ht k b ≤ 8000) : F__law_plus [.int k.p, enc k a, enc k b] h = .ok (enc k (a + b)) h := by
  cases k with
  | q =>
    have a1 := hq_num a
    have a2 := hq_den a
    have b1 := hq_num b
    have b2 := hq_den b
    replace hs : hq a + hq b ≤ 8000 := hs
    rw [encQ_a, encQ_a, encQ_a, pq]
    by_cases hd : a.den = 1 ∧ b.den = 1
    · obtain ⟨ha, hb⟩ := hd
      have e1 : (a + b).num = a.num + b.num := by
        rw [q_add, ha, hb, Rat.num_divInt]
        simp
      have e2 : (a + b).den = 1 := by
        rw [q_add, ha, hb, Rat.den_divInt]
        simp
      unfold F__law_plus encQ
      push_cast [ha, hb, e1, e2]
    · have m1 : cMul a.num b.den = true := cMul_b (by rw [Int.natAbs_natCast]; omega)
      have m2 : cMul b.num a.den = true := cMul_b (by rw [Int.natAbs_natCast]; omega)
      have m3 : cMul (a.den : Int) b.den = true := cMul_b (by rw [Int.natAbs_natCast, Int.natAbs_natCast]; omega)
      have bm := bt_mul a.den b.den
      have er := E_ratio (a.num * b.den + b.num * a.den) (a.den * b.den) h (Int.mul_ne_zero (den_ne a) (den_ne b)) (by rw [Int.natAbs_mul, Int.natAbs_natCast, Int.natAbs_natCast]; omega)
      rw [← q_add] at er
      have c : ¬ ((a.den : Int) = 1 ∧ (b.den : Int) = 1) := fun z => hd ⟨by omega, by omega⟩
      unfold F__law_plus
      by_cases h1 : (a.den : Int) = 1
      · have h2 : ¬ (b.den : Int) = 1 := fun z => c ⟨h1, z⟩
        have h1n : a.den = 1 := by omega
        unfold encQ at er ⊢
        rw [h1] at m2 m3 er
        push_cast [h1, h2, m1, m2, m3, er]
      · unfold encQ at er ⊢
        push_cast [h1, m1, m2, m3, er]
  | m n hn =>
    have hp := pm_le hn
    have h0 : ¬ ((n + 2 : Nat) : Int) = 0 := by omega
    have e := fv_add a b
    rw [encM_a, encM_a, encM_a, pm]
    unfold F__law_plus
    push_cast [h0, e]
end Lw
set_option exponentiation.threshold 20000
namespace Lw
open PySem PySem.Spec L2 Fw Pd
theorem E_times (k : Fg) (a b : k.K) (h : D) (hs : ht k a + ht k b ≤ 8000) : F__law_times [.int k.p, enc k a, enc k b] h = .ok (enc k (a * b)) h := by
  cases k with
  | q =>
    have a1 := hq_num a
    have a2 := hq_den a
    have b1 := hq_num b
    have b2 := hq_den b
    replace hs : hq a + hq b ≤ 8000 := hs
    rw [encQ_a, encQ_a, encQ_a, pq]
    have m1 : cMul a.num b.num = true := cMul_b (by omega)
    by_cases hd : a.den = 1 ∧ b.den = 1
    · obtain ⟨ha, hb⟩ := hd
      have e1 : (a * b).num = a.num * b.num := by
        rw [q_mul, ha, hb, Rat.num_divInt]
        simp
      have e2 : (a * b).den = 1 := by
        rw [q_mul, ha, hb, Rat.den_divInt]
        simp
      unfold F__law_times encQ
      push_cast [ha, hb, e1, e2, m1]
    · have m3 : cMul (a.den : Int) b.den = true := cMul_b (by rw [Int.natAbs_natCast, Int.natAbs_natCast]; omega)
      have bm := bt_mul a.den b.den
      have er := E_ratio (a.num * b.num) (a.den * b.den) h (Int.mul_ne_zero (den_ne a) (den_ne b)) (by rw [Int.natAbs_mul, Int.natAbs_natCast, Int.natAbs_natCast]; omega)
      rw [← q_mul] at er
      have c : ¬ ((a.den : Int) = 1 ∧ (b.den : Int) = 1) := fun z => hd ⟨by omega, by omega⟩
      unfold F__law_times
      by_cases h1 : (a.den : Int) = 1
      · have h2 : ¬ (b.den : Int) = 1 := fun z => c ⟨h1, z⟩
        unfold encQ at er ⊢
        rw [h1] at m3 er
        push_cast [h1, h2, m1, m3, er]
      · unfold encQ at er ⊢
        push_cast [h1, m1, m3, er]
  | m n hn =>
    have hp := pm_le hn
    have h0 : ¬ ((n + 2 : Nat) : Int) = 0 := by omega
    have e := fv_mul a b
    have := fv_lt a
    have := fv_lt b
    have mm : cMul (a.val : Int) b.val = true := mul_sm (by omega) (by omega) (by omega) (by omega)
    rw [encM_a, encM_a, encM_a, pm]
    unfold F__law_times
    push_cast [h0, e, mm]
theorem E_less (k : Fg) (a b : k.K) (h : D) (hs : ht k a + ht k b ≤ 8000) : F__law_less [.int k.p, enc k a, enc k b] h = .ok (enc k (a - b)) h := by
  cases k with
  | q =>
    have e := E_plus .q a (-b) h (by rw [ht_neg]; exact hs)
    rw [show a + -b = a - b from (Rat.sub_eq_add_neg a b).symm] at e
    rw [encQ_a, encQ_a, encQ_a, pq] at *
    have en : encQ (-b) = .tup [.int (-b.num), .int b.den] := rfl
    rw [en] at e
    unfold F__law_less
    unfold encQ at e ⊢
    push_cast [e]
  | m n hn =>
    have hp := pm_le hn
    have h0 : ¬ ((n + 2 : Nat) : Int) = 0 := by omega
    have e := fv_sub a b
    rw [encM_a, encM_a, encM_a, pm]
    unfold F__law_less
    push_cast [h0, e]
def ic (k : Fg) (i : Int) : k.K := match k with
  | .q => (i : Rat)
  | .m n _ => Fin.ofNat (n + 2) (i.emod ((n + 2 : Nat) : Int)).toNat
theorem ic_val {n : Nat} {h} (i : Int) : ((ic (.m n h) i).val : Int) = i.fmod ((n + 2 : Nat) : Int) := by
  show ((((i.emod ((n + 2 : Nat) : Int)).toNat) % (n + 2) : Nat) : Int) = _
  have h0 := Int.emod_nonneg i (show ((n + 2 : Nat) : Int) ≠ 0 by omega)
  have h1 := Int.emod_lt_of_pos i (show (0 : Int) < ((n + 2 : Nat) : Int) by omega)
  have h0' : 0 ≤ i.emod ((n + 2 : Nat) : Int) := h0
  have h1' : i.emod ((n + 2 : Nat) : Int) < ((n + 2 : Nat) : Int) := h1
  rw [Int.fmod_eq_emod_of_nonneg _ (by omega), Nat.mod_eq_of_lt (by omega), Int.toNat_of_nonneg h0']
  rfl
theorem E_num (k : Fg) (i : Int) (h : D) : F__law_num [.int k.p, .int i] h = .ok (enc k (ic k i)) h := by
  cases k with
  | q =>
    have e1 : (ic .q i : Rat).num = i := Rat.num_intCast i
    have e2 : (ic .q i : Rat).den = 1 := Rat.den_intCast i
    rw [encQ_a, pq]
    unfold F__law_num encQ
    push_cast [e1, e2]
  | m n hn =>
    have h0 : ¬ ((n + 2 : Nat) : Int) = 0 := by omega
    rw [encM_a, ic_val, pm]
    unfold F__law_num
    push_cast [h0]
theorem ic_0 (k : Fg) : ic k 0 = 0 := by cases k with
  | q => rfl
  | m n h => exact Fin.ext (by have := ic_val (h := h) 0; rw [Int.zero_fmod] at this; exact Int.ofNat_inj.mp this)
theorem ic_1 (k : Fg) : ic k 1 = 1 := by cases k with
  | q => rfl
  | m n h =>
    refine Fin.ext (Int.ofNat_inj.mp ?_)
    have := ic_val (h := h) 1
    rw [Int.fmod_eq_emod_of_nonneg _ (by omega), Int.emod_eq_of_lt (by omega) (by omega)] at this
    rw [this]
    show (1 : Int) = ((1 % (n + 2) : Nat) : Int)
    rw [Nat.mod_eq_of_lt (by omega)]
    rfl
theorem E_num0 (k : Fg) (h : D) : F__law_num [.int k.p, .int 0] h = .ok (enc k 0) h := by rw [E_num, ic_0]
theorem E_num1 (k : Fg) (h : D) : F__law_num [.int k.p, .int 1] h = .ok (enc k 1) h := by rw [E_num, ic_1]
theorem fin_pow {n : Nat} (h : n = 0 ∨ n = 1 ∨ n = 3 ∨ n = 5 ∨ n = 9 ∨ n = 11) : ∀ a b : Fin (n + 2), b ≠ 0 → (Nat.repeat (fun x => x * b) n a) = a * finInv b := by
  rcases h with rfl | rfl | rfl | rfl | rfl | rfl <;> decide +kernel
theorem rep_next {α : Type} (f : α → α) : ∀ (m : Nat) (x : α), Nat.repeat f (m + 1) x = Nat.repeat f m (f x)
  | 0, _ => rfl
  | m + 1, x => congrArg f (rep_next f m x)
theorem over_loop {n : Nat} (a b : Fin (n + 2)) (hn : n + 2 ≤ 13) (h d0 : D) : ∀ (m s : Nat) (x : Fin (n + 2)) (o : Option D), ∃ o', forGo (bNm 4) (sSet 3 (eOp oMod (eBi kInt (eCons (eOp oMul (eV 3) (eV 2)) eNil)) (eV 0))) (gen m fun i => .int ((s + i : Nat) : Int)) [some (.int ((n + 2 : Nat) : Int)), some d0, some (.int (b.val : Int)), some (.int (x.val : Int)), o] h = .nx [some (.int ((n + 2 : Nat) : Int)), some d0, some (.int (b.val : Int)), some (.int ((Nat.repeat (fun x => x * b) m x).val : Int)), o'] h
  | 0, s, x, o => ⟨o, rfl⟩
  | m + 1, s, x, o => by
    have e := fv_mul x b
    have := fv_lt x
    have := fv_lt b
    have mm : cMul (x.val : Int) b.val = true := mul_sm (by omega) (by omega) (by omega) (by omega)
    have h0 : ¬ ((n + 2 : Nat) : Int) = 0 := by omega
    obtain ⟨o', ih⟩ := over_loop a b hn h d0 m (s + 1) (x * b) (some (.int ((s + 0 : Nat) : Int)))
    refine ⟨o', ?_⟩
    rw [gen_succ]
    rw [rep_next (fun x => x * b) m x, ← ih, forGo]
    have eg : (gen m fun i => D.int ((s + (i + 1) : Nat) : Int)) = gen m fun i => D.int ((s + 1 + i : Nat) : Int) := gen_congr fun i _ => by rw [show s + (i + 1) = s + 1 + i by omega]
    rw [eg]
    push_cast [h0, mm, e]
theorem E_over (k : Fg) (a b : k.K) (h : D) (hb : b ≠ 0) (hs : ht k a + ht k b ≤ 8000) : F__law_over [.int k.p, enc k a, enc k b] h = .ok (enc k (a * Fd.inv b)) h := by
  cases k with
  | q =>
    have a1 := hq_num a
    have a2 := hq_den a
    have b1 := hq_num b
    have b2 := hq_den b
    replace hs : hq a + hq b ≤ 8000 := hs
    have m1 : cMul a.num b.den = true := cMul_b (by rw [Int.natAbs_natCast]; omega)
    have m3 : cMul (a.den : Int) b.num = true := cMul_b (by rw [Int.natAbs_natCast]; omega)
    have bm := bt_mul a.den b.num.natAbs
    have er := E_ratio (a.num * b.den) (a.den * b.num) h (Int.mul_ne_zero (den_ne a) (num_ne hb)) (by rw [Int.natAbs_mul, Int.natAbs_natCast]; omega)
    rw [← q_over] at er
    rw [encQ_a, encQ_a, encQ_a, pq]
    show _ = Ex.ok (encQ (a * b⁻¹)) h
    unfold F__law_over
    unfold encQ at er ⊢
    push_cast [m1, m3, er]
  | m n hn =>
    have hp := pm_le hn
    have h0 : ¬ ((n + 2 : Nat) : Int) = 0 := by omega
    obtain ⟨o', e⟩ := over_loop a b hp h (.int (a.val : Int)) n 0 a none
    rw [fin_pow hn a b hb] at e
    rw [encM_a, encM_a, encM_a, pm]
    have e2 : (((n + 2 : Nat) : Int) - 2).toNat = n := by omega
    have eg : (gen n fun i => D.int ((0 + i : Nat) : Int)) = gen n fun i => D.int (i : Int) := gen_congr fun i _ => by rw [Nat.zero_add]
    rw [eg] at e
    unfold F__law_over
    push_cast [h0, e2, e]
    rfl
end Lw
set_option exponentiation.threshold 20000
namespace Lw
open PySem PySem.Spec L2 Fw Pd
def methD (nm m : Str) (n : Nat) (F : Fn) (dd : List D) (fs : EF (List D)) (δ : DE) (d h1 : D) : Ex D := match d with
  | .ins n' xs => if n' = nm ∧ xs.lookup m = none then (fs δ h1).bind fun ds h2 => if (d :: (ds ++ dd)).length = n then F (d :: (ds ++ dd)) h2 else .bad else .bad
  | _ => .bad
theorem eMeth_f (nm m : Str) (n : Nat) (F : Fn) (dd : List D) (fo : EF D) (fs : EF (List D)) (δ : DE) (h : D) : eMeth nm m n F dd fo fs δ h = (fo δ h).bind fun d h1 => methD nm m n F dd fs δ d h1 := (rfl)
theorem methD_ok {m : Str} {n : Nat} {F : Fn} {dd : List D} {fs : EF (List D)} {δ : DE} {h1 : D} (k : Fg) (hm : List.lookup m [("prime", D.int k.p), ("zero", enc k 0), ("one", enc k 1)] = none) : methD "Figures" m n F dd fs δ (fig k) h1 = (fs δ h1).bind fun ds h2 => if (fig k :: (ds ++ dd)).length = n then F (fig k :: (ds ++ dd)) h2 else .bad := by
  show (if ("Figures" : Str) = "Figures" ∧ _ then _ else _) = _
  rw [if_pos ⟨rfl, hm⟩]
theorem md_times {n : Nat} {F : Fn} {dd : List D} {fs : EF (List D)} {δ : DE} {h1 : D} {k : Fg} : methD "Figures" "times" n F dd fs δ (fig k) h1 = (fs δ h1).bind fun ds h2 => if (fig k :: (ds ++ dd)).length = n then F (fig k :: (ds ++ dd)) h2 else .bad := methD_ok k (rfl)
theorem md_over {n : Nat} {F : Fn} {dd : List D} {fs : EF (List D)} {δ : DE} {h1 : D} {k : Fg} : methD "Figures" "over" n F dd fs δ (fig k) h1 = (fs δ h1).bind fun ds h2 => if (fig k :: (ds ++ dd)).length = n then F (fig k :: (ds ++ dd)) h2 else .bad := methD_ok k (rfl)
theorem md_plus {n : Nat} {F : Fn} {dd : List D} {fs : EF (List D)} {δ : DE} {h1 : D} {k : Fg} : methD "Figures" "plus" n F dd fs δ (fig k) h1 = (fs δ h1).bind fun ds h2 => if (fig k :: (ds ++ dd)).length = n then F (fig k :: (ds ++ dd)) h2 else .bad := methD_ok k (rfl)
theorem md_number_of {n : Nat} {F : Fn} {dd : List D} {fs : EF (List D)} {δ : DE} {h1 : D} {k : Fg} : methD "Figures" "number_of" n F dd fs δ (fig k) h1 = (fs δ h1).bind fun ds h2 => if (fig k :: (ds ++ dd)).length = n then F (fig k :: (ds ++ dd)) h2 else .bad := methD_ok k (rfl)
theorem md_is_number {n : Nat} {F : Fn} {dd : List D} {fs : EF (List D)} {δ : DE} {h1 : D} {k : Fg} : methD "Figures" "is_number" n F dd fs δ (fig k) h1 = (fs δ h1).bind fun ds h2 => if (fig k :: (ds ++ dd)).length = n then F (fig k :: (ds ++ dd)) h2 else .bad := methD_ok k (rfl)
theorem md_all_numbers {n : Nat} {F : Fn} {dd : List D} {fs : EF (List D)} {δ : DE} {h1 : D} {k : Fg} : methD "Figures" "all_numbers" n F dd fs δ (fig k) h1 = (fs δ h1).bind fun ds h2 => if (fig k :: (ds ++ dd)).length = n then F (fig k :: (ds ++ dd)) h2 else .bad := methD_ok k (rfl)
theorem eq_enc (k : Fg) (a b : k.K) : eqD (enc k a) (enc k b) = some (decide (a = b)) := by
  cases k with
  | q =>
    show eqD (encQ a) (encQ b) = _
    unfold encQ eqD
    simp only [toPy, toPyL, Option.map_some]
    have sh : ∀ i j : Int, SeqAt.shaped (PyData.tuple [.int i, .int j]) = true := fun i j => by
      unfold SeqAt.shaped
      simp only [PyData.canLay0, PyData.canLayAll0, PyData.depth, PyData.depthAll]
      rfl
    rw [sh, sh]
    simp only [PyData.eqv, PyData.eqvAll, Bool.and_self, Bool.and_true, if_true]
    congr 1
    by_cases h : a = b
    · subst h
      rw [beq_self_eq_true, beq_self_eq_true, decide_eq_true rfl]
      rfl
    · rw [decide_eq_false h, Bool.and_eq_false_iff]
      by_cases hn : a.num = b.num
      · right
        rw [beq_eq_false_iff_ne]
        intro hd
        exact h (Rat.ext hn (by omega))
      · left
        rw [beq_eq_false_iff_ne]
        exact hn
  | m n hn =>
    show eqD (.int (a.val : Int)) (.int (b.val : Int)) = _
    rw [eq_int]
    congr 1
    refine decide_eq_decide.mpr ⟨fun z => Fin.ext (Int.ofNat_inj.mp z), fun z => by rw [z]⟩
theorem E_ftimes (k : Fg) (a b : k.K) (h : D) (hs : ht k a + ht k b ≤ 8000) : F_Figures_times [fig k, enc k a, enc k b] h = .ok (enc k (a * b)) h := by
  cases k with
  | q =>
    have a1 := hq_num a
    have a2 := hq_den a
    have b1 := hq_num b
    have b2 := hq_den b
    replace hs : hq a + hq b ≤ 8000 := hs
    have m1 : cMul a.num b.num = true := cMul_b (by omega)
    have m3 : cMul (a.den : Int) b.den = true := cMul_b (by rw [Int.natAbs_natCast, Int.natAbs_natCast]; omega)
    have bm := bt_mul a.den b.den
    have er := E_low (a.num * b.num) (a.den * b.den) h (Int.mul_ne_zero (den_ne a) (den_ne b)) (by rw [Int.natAbs_mul, Int.natAbs_natCast, Int.natAbs_natCast]; omega)
    rw [← q_mul] at er
    rw [encQ_a, encQ_a, encQ_a]
    unfold F_Figures_times F_ratio_times
    unfold encQ at er ⊢
    push_cast [fig_p, pq, m1, m3, er]
  | m n hn =>
    have hp := pm_le hn
    have h0 : ¬ ((n + 2 : Nat) : Int) = 0 := by omega
    have e := fv_mul a b
    have := fv_lt a
    have := fv_lt b
    have mm : cMul (a.val : Int) b.val = true := mul_sm (by omega) (by omega) (by omega) (by omega)
    rw [encM_a, encM_a, encM_a]
    unfold F_Figures_times
    push_cast [fig_p, pm, h0, e, mm]
theorem rest_loop {n : Nat} (b : Fin (n + 2)) (hn : n + 2 ≤ 13) (h : D) : ∀ (m s : Nat) (o : Option D), (∃ r : Fin (n + 2), s ≤ r.val ∧ r.val < s + m ∧ b * r = 1) → ∃ r : Fin (n + 2), b * r = 1 ∧ forGo (bNm 2) (sIf (eT (eOp oEq (eOp oMod (eOp oMul (eV 0) (eV 2)) (eV 1)) (eC (.int 1)))) (sRet (eV 2)) sNil) (gen m fun i => .int ((s + i : Nat) : Int)) [some (.int (b.val : Int)), some (.int ((n + 2 : Nat) : Int)), o] h = .ret (.int (r.val : Int)) h
  | 0, s, o, ⟨r, h1, h2, _⟩ => by omega
  | m + 1, s, o, ⟨r, h1, h2, h3⟩ => by
    have h0 : ¬ ((n + 2 : Nat) : Int) = 0 := by omega
    have := fv_lt b
    have hs : s < n + 2 := by have := r.isLt; omega
    have mm : cMul (b.val : Int) (s : Int) = true := mul_sm (by omega) (by omega) (by omega) (by omega)
    have e := fv_mul b ⟨s, hs⟩
    have e' : ((b.val : Int) * (s : Int)).fmod ((n + 2 : Nat) : Int) = ((b * ⟨s, hs⟩).val : Int) := e
    rw [gen_succ]
    by_cases hr : b * ⟨s, hs⟩ = 1
    · refine ⟨⟨s, hs⟩, hr, ?_⟩
      have ev : (((b * ⟨s, hs⟩ : Fin (n + 2)).val : Nat) : Int) = 1 := by
        rw [hr]
        show ((1 % (n + 2) : Nat) : Int) = 1
        rw [Nat.mod_eq_of_lt (by omega)]
        rfl
      rw [ev] at e'
      rw [forGo, Nat.add_zero]
      push_cast [h0, mm, e']
    · have ev : ¬ (((b * ⟨s, hs⟩ : Fin (n + 2)).val : Nat) : Int) = 1 := fun z => hr (Fin.ext (by
        show _ = 1 % (n + 2)
        rw [Nat.mod_eq_of_lt (by omega)]
        omega))
      have rs : r.val ≠ s := fun z => hr (by rw [← h3]; congr 1; exact Fin.ext z.symm)
      obtain ⟨r2, g1, g2⟩ := rest_loop b hn h m (s + 1) (some (.int ((s + 0 : Nat) : Int))) ⟨r, by omega, by omega, h3⟩
      refine ⟨r2, g1, ?_⟩
      have eg : (gen m fun i => D.int ((s + (i + 1) : Nat) : Int)) = gen m fun i => D.int ((s + 1 + i : Nat) : Int) := gen_congr fun i _ => by rw [show s + (i + 1) = s + 1 + i by omega]
      rw [← g2, forGo, eg, Nat.add_zero]
      push_cast [h0, mm, e', ev]
theorem fin_unique {n : Nat} (hn : n = 0 ∨ n = 1 ∨ n = 3 ∨ n = 5 ∨ n = 9 ∨ n = 11) (b r : Fin (n + 2)) (hb : b ≠ 0) (e1 : b * r = 1) : r = finInv b := by
  have e0 := fin_inv hn b hb
  have : r * (b * finInv b) = (b * r) * finInv b := by rw [← Fin.mul_assoc, Fin.mul_comm r b]
  rw [e0, e1, Fin.mul_one, Fin.one_mul] at this
  exact this
theorem finInv_ne {n : Nat} (hn : n = 0 ∨ n = 1 ∨ n = 3 ∨ n = 5 ∨ n = 9 ∨ n = 11) (b : Fin (n + 2)) (hb : b ≠ 0) : (finInv b).val ≠ 0 := fun z => by
  have e0 := fin_inv hn b hb
  rw [show finInv b = 0 from Fin.ext z, Fin.mul_zero] at e0
  have := congrArg Fin.val e0
  simp at this
theorem E_rest {n : Nat} (hn : n = 0 ∨ n = 1 ∨ n = 3 ∨ n = 5 ∨ n = 9 ∨ n = 11) (b : Fin (n + 2)) (hb : b ≠ 0) (p : Int) (ep : p = ((n + 2 : Nat) : Int)) (h : D) : F_undone_rest [.int (b.val : Int), .int p] h = .ok (.int ((finInv b).val : Int)) h := by
  have hp := pm_le hn
  have e0 := fin_inv hn b hb
  obtain ⟨r, e1, e2⟩ := rest_loop b hp h (n + 1) 1 none ⟨finInv b, by have := finInv_ne hn b hb; omega, by have := (finInv b).isLt; omega, e0⟩
  rw [fin_unique hn b r hb e1, ← ep] at e2
  have eg : (gen (n + 1) fun i => D.int ((1 + i : Nat) : Int)) = gen (n + 1) fun i => D.int (1 + (i : Int)) := gen_congr fun i _ => by rw [Int.natCast_add]; rfl
  rw [eg] at e2
  have et : (p - 1).toNat = n + 1 := by omega
  unfold F_undone_rest
  push_cast [et, e2]
theorem E_fover (k : Fg) (a b : k.K) (h : D) (hb : b ≠ 0) (hs : ht k a + ht k b ≤ 8000) : F_Figures_over [fig k, enc k a, enc k b] h = .ok (enc k (a * Fd.inv b)) h := by
  cases k with
  | q =>
    have a1 := hq_num a
    have a2 := hq_den a
    have b1 := hq_num b
    have b2 := hq_den b
    replace hs : hq a + hq b ≤ 8000 := hs
    have m1 : cMul a.num b.den = true := cMul_b (by rw [Int.natAbs_natCast]; omega)
    have m3 : cMul (a.den : Int) b.num = true := cMul_b (by rw [Int.natAbs_natCast]; omega)
    have bm := bt_mul a.den b.num.natAbs
    have er := E_low (a.num * b.den) (a.den * b.num) h (Int.mul_ne_zero (den_ne a) (num_ne hb)) (by rw [Int.natAbs_mul, Int.natAbs_natCast]; omega)
    rw [← q_over] at er
    rw [encQ_a, encQ_a, encQ_a]
    show _ = Ex.ok (encQ (a * b⁻¹)) h
    have nb := num_ne hb
    unfold F_Figures_over F_ratio_over
    unfold encQ at er ⊢
    push_cast [fig_p, pq, m1, m3, er, nb]
  | m n hn =>
    have hp := pm_le hn
    obtain ⟨p, ep⟩ : ∃ p, p = ((n + 2 : Nat) : Int) := ⟨_, rfl⟩
    have pmp : (Fg.m n hn).p = p := by rw [pm, ep]
    have h0 : ¬ p = 0 := by omega
    have e := fv_mul a (finInv b)
    rw [← ep] at e
    have er := E_rest hn b hb p ep h
    have := fv_lt a
    have := fv_lt (finInv b)
    have mm : cMul (a.val : Int) (finInv b).val = true := mul_sm (by omega) (by omega) (by omega) (by omega)
    rw [encM_a, encM_a, encM_a]
    unfold F_Figures_over
    push_cast [fig_p, pmp, h0, er, e, mm]
    rfl
end Lw
set_option exponentiation.threshold 20000
namespace Lw
open PySem PySem.Spec L2 Fw Pd
def irow (c : Nat) (w : Nat → Int) : D := .lst (gen c fun j => .int (w j))
def erow (k : Fg) (c : Nat) (x : Nat → k.K) : D := .tup (gen c fun j => enc k (x j))
def lcmN : Nat → (Nat → Nat) → Nat
  | 0, _ => 1
  | n + 1, d => Nat.lcm (lcmN n d) (d n)
def sumN : Nat → (Nat → Nat) → Nat
  | 0, _ => 0
  | n + 1, f => sumN n f + f n
theorem lcmN_pos {d : Nat → Nat} (hd : ∀ i, 0 < d i) : ∀ n, 0 < lcmN n d
  | 0 => Nat.one_pos
  | n + 1 => Nat.lcm_pos (lcmN_pos hd n) (hd n)
theorem lcmN_bt {d : Nat → Nat} (hd : ∀ i, 0 < d i) : ∀ n, bt (lcmN n d) ≤ 1 + sumN n fun i => bt (d i)
  | 0 => (by decide : bt 1 ≤ 1 + 0)
  | n + 1 => by
    have ih := lcmN_bt hd n
    have h1 : Nat.lcm (lcmN n d) (d n) ≤ lcmN n d * d n := Nat.le_of_dvd (Nat.mul_pos (lcmN_pos hd n) (hd n)) (Nat.lcm_dvd_mul _ _)
    have h2 := bt_mono h1
    have h3 := bt_mul (lcmN n d) (d n)
    show bt (Nat.lcm (lcmN n d) (d n)) ≤ 1 + (sumN n (fun i => bt (d i)) + bt (d n))
    omega
theorem lcmN_dvd {d : Nat → Nat} {i : Nat} : ∀ {n : Nat}, i < n → d i ∣ lcmN n d
  | n + 1, h => by
    by_cases e : i = n
    · subst e; exact Nat.dvd_lcm_right _ _
    · exact Nat.dvd_trans (lcmN_dvd (n := n) (by omega)) (Nat.dvd_lcm_left _ _)
/-- a loop by its states -/
theorem for_gen {bind : D → DE → Option DE} {body : SF} {d : Nat → D} {h : D} (S : Nat → DE) : ∀ (n s : Nat), (∀ i, s ≤ i → i < s + n → ∃ δ2, bind (d i) (S i) = some δ2 ∧ body δ2 h = .nx (S (i + 1)) h) → forGo bind body (gen n fun i => d (s + i)) (S s) h = .nx (S (s + n)) h
  | 0, s, _ => rfl
  | n + 1, s, k => by
    obtain ⟨δ2, e1, e2⟩ := k s (Nat.le_refl _) (by omega)
    have ih := for_gen S n (s + 1) fun i h1 h2 => k i (by omega) (by omega)
    have eg : (gen n fun i => d (s + (i + 1))) = gen n fun i => d (s + 1 + i) := gen_congr fun i _ => by rw [show s + (i + 1) = s + 1 + i by omega]
    rw [gen_succ, forGo, Nat.add_zero, e1]
    simp only [e2]
    rw [eg, ih, show s + 1 + n = s + (n + 1) by omega]
theorem for_gen0 {bind : D → DE → Option DE} {body : SF} {d : Nat → D} {h : D} (S : Nat → DE) {n : Nat} (k : ∀ i, i < n → ∃ δ2, bind (d i) (S i) = some δ2 ∧ body δ2 h = .nx (S (i + 1)) h) : forGo bind body (gen n d) (S 0) h = .nx (S n) h := by
  have := for_gen (bind := bind) (body := body) (d := d) (h := h) S n 0 fun i _ h2 => k i (by omega)
  rw [Nat.zero_add] at this
  rw [← this]
  congr 1
  exact gen_congr fun i _ => by rw [Nat.zero_add]
/-- a loop's name: what it holds at turn i -/
def lv (o : Option D) (d : Nat → D) : Nat → Option D
  | 0 => o
  | i + 1 => some (d i)
theorem lv_0 {o : Option D} {d : Nat → D} : lv o d 0 = o := rfl
theorem lv_s {o : Option D} {d : Nat → D} {i : Nat} : lv o d (i + 1) = some (d i) := rfl
theorem gcd_nat (a b : Nat) : Nat.gcd (Int.natAbs (a : Int)) (Int.natAbs (b : Int)) = Nat.gcd a b := by rw [Int.natAbs_natCast, Int.natAbs_natCast]
theorem E_bottom (c : Nat) (x : Nat → Rat) (h : D) (hc : c ≤ 1000) (hs : ∀ n, n ≤ c → bt (lcmN n fun i => (x i).den) ≤ 4000) (hd : ∀ i, i < c → bt (x i).den ≤ 4000) (hn : ∀ i, i < c → bt (x i).num.natAbs ≤ 4000) :
    F_over_one_bottom [.tup (gen c fun j => encQ (x j))] h = .ok (.tup [irow c fun j => (x j).num * ((lcmN c fun i => (x i).den : Nat) : Int).fdiv (x j).den, .int (lcmN c fun i => (x i).den : Nat)]) h := by
  have dp : ∀ i, 0 < (x i).den := fun i => (x i).den_pos
  have lp := lcmN_pos (d := fun i => (x i).den) dp
  have loop := for_gen0 (h := h) (bind := bTp [(bNm 2), (bNm 3)]) (body := (sSet 1 (eOp oDiv (eOp oMul (eV 1) (eV 3)) (eBi kGcd (eCons (eV 1) (eCons (eV 3) eNil)))))) (d := fun j => encQ (x j)) (n := c)
    (fun i => [some (.tup (gen c fun j => encQ (x j))), some (.int (lcmN i fun i => (x i).den : Nat)), lv none (fun i => .int (x i).num) i, lv none (fun i => .int ((x i).den : Nat)) i, none]) fun i hi => by
    have p1 := lp i
    have b1 := hs i (by omega)
    have b2 := hd i hi
    have mm : cMul (lcmN i fun i => (x i).den : Nat) ((x i).den : Nat) = true := cMul_b (by rw [Int.natAbs_natCast, Int.natAbs_natCast]; omega)
    have g0 : 0 < Nat.gcd (lcmN i fun i => (x i).den) (x i).den := Nat.gcd_pos_of_pos_right _ (dp i)
    have g1 : Nat.gcd (lcmN i fun i => (x i).den) (x i).den ≤ (x i).den := Nat.le_of_dvd (dp i) (Nat.gcd_dvd_right ..)
    have dd : ∀ z, cDiv z (Nat.gcd (lcmN i fun i => (x i).den) (x i).den : Nat) = true := fun z => cDiv_b (by omega) (by rw [Int.natAbs_natCast]; have := bt_mono g1; omega)
    have ev : (((lcmN i fun i => (x i).den : Nat) : Int) * ((x i).den : Nat)).fdiv (Nat.gcd (lcmN i fun i => (x i).den) (x i).den : Nat) = (lcmN (i + 1) fun i => (x i).den : Nat) := by
      rw [Int.fdiv_eq_ediv_of_nonneg _ (by omega), ← Int.natCast_mul, ← Int.natCast_ediv]
      rfl
    refine ⟨_, rfl, ?_⟩
    push_cast [lv_s, gcd_nat, mm, dd, ev]
  have L4 := hs c (Nat.le_refl _)
  have Lp := lp c
  have dd2 : ∀ i, i < c → cDiv (lcmN c fun i => (x i).den : Nat) ((x i).den : Nat) = true := fun i hi => cDiv_b (by have := dp i; omega) (by rw [Int.natAbs_natCast]; have := hd i hi; omega)
  have mm2 : ∀ i, i < c → cMul (x i).num (((lcmN c fun i => (x i).den : Nat) : Int).fdiv ((x i).den : Nat)) = true := fun i hi => by
    have h1 := hn i hi
    have h2 : (((lcmN c fun i => (x i).den : Nat) : Int).fdiv ((x i).den : Nat)).natAbs ≤ lcmN c fun i => (x i).den := by
      have := fd (a := ((lcmN c fun i => (x i).den : Nat) : Int)) (m := ((x i).den : Nat)) (by have := dp i; omega) (by omega)
      omega
    have := bt_mono h2
    exact cMul_b (by omega)
  have lv0 : ∀ i, vD (some (some (encQ (x i)))) h = .ok (encQ (x i)) h := fun i => rfl
  unfold F_over_one_bottom irow
  have l0 : ((lcmN 0 fun i => (x i).den : Nat) : Int) = 1 := rfl
  simp only [lv_0, l0] at loop
  push_cast [loop]
  unfold encQ
  push_cast [dd2, mm2]
end Lw
set_option exponentiation.threshold 20000
namespace Lw
open PySem PySem.Spec L2 Fw Pd
/-- bits of the bottom -/
def hd (k : Fg) (x : k.K) : Nat := match k, x with
  | .q, x => bt x.den
  | .m _ _, _ => 0
end Lw
set_option exponentiation.threshold 20000
namespace Lw
open PySem PySem.Spec L2 Fw Pd
/-- small rows of integers: bits by fractions, rests by a prime -/
def WOk (k : Fg) (B c : Nat) (w : Nat → Int) : Prop := ∀ j, j < c → match k with
  | .q => bt (w j).natAbs ≤ B
  | .m n _ => 0 ≤ w j ∧ w j < ((n + 2 : Nat) : Int)
theorem irow_vm {c : Nat} {w : Nat → Int} {h : D} : vmD (some (some (irow c w))) h = .ok (irow c w) h := (rfl)
end Lw
set_option exponentiation.threshold 20000
namespace Lw
open PySem PySem.Spec L2 Fw Pd
/-- a whole number among the figures, by what stands there: by a prime the number itself -/
theorem ic_of {n : Nat} {h} {i : Int} (h0 : 0 ≤ i) (h1 : i < ((n + 2 : Nat) : Int)) : ((ic (.m n h) i).val : Int) = i := by
  rw [ic_val, Int.fmod_eq_emod_of_nonneg _ (by omega), Int.emod_eq_of_lt h0 h1]
end Lw
set_option exponentiation.threshold 20000
namespace Lw
open PySem PySem.Spec L2 Fw Pd
theorem frzL_gen {n : Nat} {f : Nat → D} (h : ∀ i, (f i).fr = true) : frzL (gen n f) = gen n f := by
  induction n generalizing f with
  | zero => rfl
  | succ n ih =>
    rw [gen_succ]
    unfold frzL
    rw [ih fun i => h (i + 1)]
    congr 1
    have := h 0
    cases q : f 0 <;> rw [q] at this <;> first | rfl | cases this
theorem frzL_int {n : Nat} {f : Nat → Int} : frzL (gen n fun i => .int (f i)) = gen n fun i => .int (f i) := frzL_gen fun i => rfl
end Lw
set_option exponentiation.threshold 20000
namespace Lw
open PySem PySem.Spec L2 Fw Pd
def etab (k : Fg) (r c : Nat) (A : Nat → Nat → k.K) : D := .tup (gen r fun i => erow k c (A i))
theorem erow_vd {k : Fg} {c : Nat} {x : Nat → k.K} {h : D} : vD (some (some (erow k c x))) h = .ok (erow k c x) h := (rfl)
theorem erow_vm {k : Fg} {c : Nat} {x : Nat → k.K} {h : D} : vmD (some (some (erow k c x))) h = .ok (erow k c x) h := (rfl)
theorem erow_fr {k : Fg} {c : Nat} {x : Nat → k.K} : (erow k c x).fr = true := (rfl)
theorem etab_vd {k : Fg} {r c : Nat} {A : Nat → Nat → k.K} {h : D} : vD (some (some (etab k r c A))) h = .ok (etab k r c A) h := (rfl)
theorem etab_vm {k : Fg} {r c : Nat} {A : Nat → Nat → k.K} {h : D} : vmD (some (some (etab k r c A))) h = .ok (etab k r c A) h := (rfl)
theorem erow_ix {k : Fg} {c : Nat} {x : Nat → k.K} {i : Int} (h0 : 0 ≤ i) (h1 : i < c) : oIx (erow k c x) (.int i) = some (enc k (x i.toNat)) := by
  unfold erow
  rw [oIx_t, atI_gen h0 h1]
theorem erow_len {k : Fg} {c : Nat} {x : Nat → k.K} : kLen [erow k c x] = some (.int (c : Int)) := by
  unfold erow
  rw [kLen_t, gen_len]
end Lw
set_option exponentiation.threshold 20000
namespace Lw
open PySem PySem.Spec L2 Fw Pd
section
variable {K : Type} [Fd K]
def Sm : Nat → (Nat → K) → K
  | 0, _ => 0
  | n + 1, f => Sm n f + f n
theorem Sm_congr {f g : Nat → K} : ∀ {n : Nat}, (∀ i, i < n → f i = g i) → Sm n f = Sm n g
  | 0, _ => rfl
  | n + 1, k => by
    show Sm n f + f n = Sm n g + g n
    rw [Sm_congr fun i hi => k i (by omega), k n (by omega)]
theorem Sm_add {f g : Nat → K} : ∀ {n : Nat}, Sm n (fun i => f i + g i) = Sm n f + Sm n g
  | 0 => by show (0 : K) = 0 + 0; grind
  | n + 1 => by
    show Sm n (fun i => f i + g i) + (f n + g n) = Sm n f + f n + (Sm n g + g n)
    rw [Sm_add]; grind
theorem Sm_mul {f : Nat → K} {s : K} : ∀ {n : Nat}, Sm n (fun i => s * f i) = s * Sm n f
  | 0 => by show (0 : K) = s * 0; grind
  | n + 1 => by
    show Sm n (fun i => s * f i) + s * f n = s * (Sm n f + f n)
    rw [Sm_mul]; grind
theorem Sm_zero {f : Nat → K} : ∀ {n : Nat}, (∀ i, i < n → f i = 0) → Sm n f = 0
  | 0, _ => rfl
  | n + 1, k => by
    show Sm n f + f n = 0
    rw [Sm_zero fun i hi => k i (by omega), k n (by omega)]; grind
theorem Sm_one {f : Nat → K} {j : Nat} : ∀ {n : Nat}, j < n → (∀ i, i < n → i ≠ j → f i = 0) → Sm n f = f j
  | n + 1, h, k => by
    show Sm n f + f n = f j
    by_cases e : j = n
    · subst e
      rw [Sm_zero fun i hi => k i (by omega) (by omega)]; grind
    · rw [Sm_one (n := n) (by omega) fun i hi hn => k i (by omega) hn, k n (by omega) (fun z => e z.symm)]; grind
theorem mul_ne {a b : K} (ha : a ≠ 0) (hb : b ≠ 0) : a * b ≠ 0 := fun z => by
  have h1 := Fd.mul_inv a ha
  have : b = Fd.inv a * (a * b) := by grind
  rw [z] at this
  exact hb (by rw [this]; grind)
/-- what the rows send to nothing -/
def Ker (r c : Nat) (M : Nat → Nat → K) (v : Nat → K) : Prop := ∀ i, i < r → Sm c (fun j => M i j * v j) = 0
/-- reduced: rank l, leading columns ld -/
structure Rref (r c : Nat) (R : Nat → Nat → K) (l : Nat) (ld : Nat → Nat) : Prop where
  lr : l ≤ r
  lt : ∀ t, t < l → ld t < c
  up : ∀ t u, t < u → u < l → ld t < ld u
  one : ∀ t, t < l → R t (ld t) = 1
  zero : ∀ t, t < l → ∀ i, i < r → i ≠ t → R i (ld t) = 0
  left : ∀ t, t < l → ∀ j, j < ld t → R t j = 0
  rest : ∀ i, l ≤ i → i < r → ∀ j, j < c → R i j = 0
end
end Lw
set_option exponentiation.threshold 20000
namespace Lw
open PySem PySem.Spec L2 Fw Pd
theorem ic_add (k : Fg) (a b : Int) : ic k (a + b) = ic k a + ic k b := by
  cases k with
  | q => exact Rat.intCast_add a b
  | m n h =>
    refine Fin.ext (Int.ofNat_inj.mp ?_)
    have e := fv_add (ic (.m n h) a) (ic (.m n h) b)
    rw [ic_val, ic_val] at e
    refine Eq.trans ?_ e
    rw [ic_val, Int.fmod_eq_emod_of_nonneg _ (by omega), Int.fmod_eq_emod_of_nonneg _ (by omega), Int.fmod_eq_emod_of_nonneg _ (by omega), Int.fmod_eq_emod_of_nonneg _ (by omega), ← Int.add_emod]
theorem ic_mul (k : Fg) (a b : Int) : ic k (a * b) = ic k a * ic k b := by
  cases k with
  | q => exact Rat.intCast_mul a b
  | m n h =>
    refine Fin.ext (Int.ofNat_inj.mp ?_)
    have e := fv_mul (ic (.m n h) a) (ic (.m n h) b)
    rw [ic_val, ic_val] at e
    refine Eq.trans ?_ e
    rw [ic_val, Int.fmod_eq_emod_of_nonneg _ (by omega), Int.fmod_eq_emod_of_nonneg _ (by omega), Int.fmod_eq_emod_of_nonneg _ (by omega), Int.fmod_eq_emod_of_nonneg _ (by omega), ← Int.mul_emod]
theorem ic_sub (k : Fg) (a b : Int) : ic k (a - b) = ic k a - ic k b := by
  have h1 := ic_add k (a - b) b
  rw [Int.sub_add_cancel] at h1
  rw [h1]
  grind
/-- small enough to be told from nothing -/
def Ok1 (k : Fg) (i : Int) : Prop := match k with
  | .q => True
  | .m n _ => 0 ≤ i ∧ i < ((n + 2 : Nat) : Int)
theorem WOk.ok {k : Fg} {B c : Nat} {w : Nat → Int} (h : WOk k B c w) {j : Nat} (hj : j < c) : Ok1 k (w j) := by
  have := h j hj
  cases k with
  | q => trivial
  | m n hn => exact this
theorem WOk.mono {k : Fg} {B C c : Nat} {w : Nat → Int} (h : WOk k B c w) (hb : B ≤ C) : WOk k C c w := fun j hj => by
  have := h j hj
  cases k with
  | q => exact Nat.le_trans this hb
  | m n hn => exact this
theorem nat_ne {d : Nat} (h : 0 < d) : ic .q (d : Int) ≠ 0 := fun z => by
  have := Rat.intCast_eq_zero_iff.mp z
  omega
end Lw
set_option exponentiation.threshold 20000
namespace Lw
open PySem PySem.Spec L2 Fw Pd
end Lw
set_option exponentiation.threshold 20000
namespace Lw
open PySem PySem.Spec L2 Fw Pd
end Lw
set_option exponentiation.threshold 20000
namespace Lw
section
variable {K : Type} [Fd K]
def del (a b : Nat) : K := if a = b then 1 else 0
theorem del_s (a : Nat) : (del a a : K) = 1 := if_pos rfl
theorem del_n {a b : Nat} (h : a ≠ b) : (del a b : K) = 0 := if_neg h
theorem Sm_del {f : Nat → K} {j n : Nat} (h : j < n) : Sm n (fun i => f i * del i j) = f j := by
  rw [Sm_one h fun i _ hi => by rw [del_n hi]; grind]
  rw [del_s]; grind
theorem Sm_swap {F : Nat → Nat → K} {m : Nat} : ∀ {n : Nat}, Sm n (fun i => Sm m fun j => F i j) = Sm m fun j => Sm n fun i => F i j
  | 0 => (Sm_zero fun j _ => rfl).symm
  | n + 1 => by
    show Sm n (fun i => Sm m fun j => F i j) + Sm m (fun j => F n j) = Sm m fun j => Sm n (fun i => F i j) + F n j
    rw [Sm_add, Sm_swap]
theorem Sm_mulr {f : Nat → K} {s : K} {n : Nat} : Sm n (fun i => f i * s) = Sm n f * s := by
  rw [show (fun i => f i * s) = fun i => s * f i by funext i; grind, Sm_mul]; grind
/-- what goes to nothing, one for each column -/
def kv (R : Nat → Nat → K) (l : Nat) (ld : Nat → Nat) (j : Nat) : Nat → K := fun x => del x j - Sm l fun t => R t j * del x (ld t)
variable {r c l l' : Nat} {R R' : Nat → Nat → K} {ld ld' : Nat → Nat}
theorem Rref.inj (h : Rref r c R l ld) {t u : Nat} (ht : t < l) (hu : u < l) (e : ld t = ld u) : t = u := by
  rcases Nat.lt_trichotomy t u with z | z | z
  · have := h.up t u z hu; omega
  · exact z
  · have := h.up u t z ht; omega
theorem Rref.at (h : Rref r c R l ld) {t : Nat} (ht : t < l) {i : Nat} (hi : i < r) : R i (ld t) = del i t := by
  by_cases e : i = t
  · subst e; rw [del_s]; exact h.one i ht
  · rw [del_n e]; exact h.zero t ht i hi e
end
end Lw
set_option exponentiation.threshold 20000
namespace Lw
open PySem PySem.Spec L2 Fw Pd
end Lw
set_option exponentiation.threshold 20000
namespace Lw
open PySem PySem.Spec L2 Fw Pd
end Lw
set_option exponentiation.threshold 20000
namespace Lw
open PySem PySem.Spec L2 Fw Pd
theorem div_ok {i j : Int} (h0 : j ≠ 0) (hj : j.natAbs < 2 ^ 64) : cDiv i j = true := by
  have : bt j.natAbs ≤ 64 := bt_le hj
  exact cDiv_b h0 (by omega)
theorem mul_ok {i j : Int} (hi : i.natAbs < 2 ^ 64) (hj : j.natAbs < 2 ^ 64) : cMul i j = true := by
  have : bt i.natAbs ≤ 64 := bt_le hi
  have : bt j.natAbs ≤ 64 := bt_le hj
  exact cMul_b (by omega)
theorem atI_n {α : Type} {xs : List α} {i : Nat} {x : α} (h : xs[i]? = some x) : atI xs (i : Int) = some x := by
  have hl : i < xs.length := (List.getElem?_eq_some_iff.mp h).1
  unfold atI ixN
  rw [if_pos (Int.natCast_nonneg i), if_pos (by omega), Option.bind_some, Int.toNat_natCast, h]
theorem ix41 : ixN 4 1 = some 1 := (rfl)
theorem ix42 : ixN 4 2 = some 2 := (rfl)
theorem ix43 : ixN 4 3 = some 3 := (rfl)
theorem na {a : Int} {b : Nat} (h0 : 0 ≤ a) (h1 : a < b) : a.natAbs < b := by omega
theorem sm {i j : Int} (h0 : 0 ≤ i) (h1 : i < 2 ^ 63) (k0 : 0 ≤ j) (k1 : j < 2 ^ 63) : cMul i j = true := mul_ok (by omega) (by omega)
theorem E_mixed (n t : Int) (h : D) (hn : 0 ≤ n) (hn1 : n < 2 ^ 40) (ht : 0 ≤ t) (ht1 : t < 2 ^ 40) : ∃ r, F__law_mixed [.int n, .int t] h = .ok (.int r) h ∧ 0 ≤ r := by
  have m1 := sm hn (by omega) (show (0 : Int) ≤ 39373 by decide) (by decide)
  have m2 := sm ht (by omega) (show (0 : Int) ≤ 6151 by decide) (by decide)
  have m3 := sm ht (by omega) (show (0 : Int) ≤ 81071 by decide) (by decide)
  obtain ⟨A, eA⟩ : ∃ A, A = (n * 39373 + t * 6151 + 50021).fmod 2147483399 := ⟨_, rfl⟩
  obtain ⟨a0, a1⟩ := fm (a := n * 39373 + t * 6151 + 50021) (show (0 : Int) < 2147483399 by decide)
  rw [← eA] at a0 a1
  have m4 := sm a0 (by omega) a0 (by omega)
  obtain ⟨d0, d1⟩ := fd (m := 137) (by decide) a0
  obtain ⟨d2, d3⟩ := fd (m := 11) (by decide) a0
  obtain ⟨B, eB⟩ : ∃ B, B = (A * A + t * 81071 + A.fdiv 137).fmod 2147483629 := ⟨_, rfl⟩
  obtain ⟨b0, b1⟩ := fm (a := A * A + t * 81071 + A.fdiv 137) (show (0 : Int) < 2147483629 by decide)
  rw [← eB] at b0 b1
  have m5 := sm b0 (by omega) (show (0 : Int) ≤ 62089 by decide) (by decide)
  obtain ⟨c0, c1⟩ := fm (a := B * 62089 + A.fdiv 11) (show (0 : Int) < 2147483587 by decide)
  obtain ⟨f0, _⟩ := fd (m := 64) (by decide) c0
  refine ⟨_, ?_, f0⟩
  unfold F__law_mixed
  push_cast [m1, m2, m3, m4, m5, ← eA, ← eB, kInt, mod_ok (show (2147483399 : Int) ≠ 0 by decide), mod_ok (show (2147483629 : Int) ≠ 0 by decide), mod_ok (show (2147483587 : Int) ≠ 0 by decide), div_ok (show (137 : Int) ≠ 0 by decide) (by decide), div_ok (show (11 : Int) ≠ 0 by decide) (by decide), div_ok (show (64 : Int) ≠ 0 by decide) (by decide)]
/-- a hand -/
def HandI (h : D) : Prop := ∃ (cs : List Int) (p g t : Int), h = .hl [.lst (cs.map D.int), .int p, .int g, .int t] ∧ (∀ z ∈ cs, 0 ≤ z) ∧ cs.length ≤ 63 ∧ 0 ≤ p ∧ p ≤ 63 ∧ 0 ≤ g ∧ 0 ≤ t ∧ t < 2147483648
theorem hand_0 (cs : List Int) (t : Int) (h1 : ∀ z ∈ cs, 0 ≤ z) (h2 : cs.length ≤ 63) (h3 : 0 ≤ t) (h4 : t < 2147483648) : HandI (hand0 cs t) := ⟨cs, 0, 0, t, rfl, h1, h2, by omega, by omega, by omega, h3, h4⟩
theorem E_take (m : Int) (h : D) (hh : HandI h) (hm : 0 < m) (hm1 : m < 2 ^ 62) : ∃ r h', F__law_take [.me, .int m] h = .ok (.int r) h' ∧ 0 ≤ r ∧ r < m ∧ HandI h' := by
  obtain ⟨cs, p, g, t, rfl, hc, hl, p0, p1, g0, t0, t1⟩ := hh
  have hm0 : m ≠ 0 := by omega
  have mm := mod_ok (i := 0) hm0
  have md : ∀ i, cMod i m = true := fun i => mod_ok hm0
  have dd : ∀ i, cDiv i m = true := fun i => div_ok hm0 (by omega)
  have k1 : kLen [.lst (cs.map D.int)] = some (.int cs.length) := by
    show some (D.int ((cs.map D.int).length : Nat)) = _
    rw [List.length_map]
  -- the last way
  have last : ∀ p g, 0 ≤ p → p ≤ 63 → 0 ≤ g → ∃ q h', F__law_mixed [.int ((t + 1).fmod 2147483549), .int p] (.hl [.lst (cs.map D.int), .int p, .int g, .int ((t + 1).fmod 2147483549)]) = .ok (.int q) (.hl [.lst (cs.map D.int), .int p, .int g, .int ((t + 1).fmod 2147483549)]) ∧ h' = D.hl [.lst (cs.map D.int), .int p, .int g, .int ((t + 1).fmod 2147483549)] ∧ HandI h' := fun p g p0 p1 g0 => by
    obtain ⟨a0, a1⟩ := fm (a := t + 1) (show (0 : Int) < 2147483549 by decide)
    obtain ⟨q, e, _⟩ := E_mixed ((t + 1).fmod 2147483549) p (.hl [.lst (cs.map D.int), .int p, .int g, .int ((t + 1).fmod 2147483549)]) a0 (by omega) p0 (by omega)
    exact ⟨q, _, e, rfl, cs, p, g, _, rfl, hc, hl, p0, p1, g0, a0, by omega⟩
  have mt := mod_ok (i := t + 1) (show (2147483549 : Int) ≠ 0 by decide)
  by_cases hg : g = 0
  · subst hg
    by_cases hp : p < cs.length
    · obtain ⟨z, hz⟩ : ∃ z, cs[p.toNat]? = some z := ⟨cs[p.toNat], List.getElem?_eq_getElem (by omega)⟩
      have z0 := hc z (List.mem_of_getElem? hz)
      have ez : atI (cs.map D.int) p = some (.int z) := by
        have := atI_n (xs := cs.map D.int) (i := p.toNat) (x := .int z) (by rw [List.getElem?_map, hz]; rfl)
        rw [Int.toNat_of_nonneg p0] at this
        exact this
      by_cases h18 : z < 10 ^ 18
      · obtain ⟨a0, a1⟩ := fm (a := z) (show (0 : Int) < 2147483399 by decide)
        obtain ⟨q, e, _⟩ := E_mixed (z.fmod 2147483399) (p + 1) (.hl [.lst (cs.map D.int), .int (p + 1), .int 0, .int t]) a0 (by omega) (by omega) (by omega)
        refine ⟨q.fmod m, .hl [.lst (cs.map D.int), .int (p + 1), .int 0, .int t], ?_, (fm hm).1, (fm hm).2, cs, p + 1, 0, t, rfl, hc, hl, by omega, by omega, by omega, t0, t1⟩
        unfold F__law_take
        push_cast [eIxM, eM, sStM, at0, at1, at2, at3, ix41, k1, hp, ez, e, kInt, md, oIx, cPow, mod_ok (show (2147483399 : Int) ≠ 0 by decide), decide_true, decide_false]
      · have h18' : (decide (z < 10 ^ (18 : Int).toNat)) = false := decide_eq_false (by exact h18)
        have cp : (decide ((0:Int) ≤ 18) && (decide ((18:Int) ≤ 1000000) && decide ((10:Int).natAbs < 2 ^ 64))) = true := by decide
        have zp : (0 : Int) < z := by omega
        refine ⟨z.fmod m, .hl [.lst (cs.map D.int), .int (p + 1), .int (z.fdiv m), .int t], ?_, (fm hm).1, (fm hm).2, cs, p + 1, z.fdiv m, t, rfl, hc, hl, by omega, by omega, (fd hm z0).1, t0, t1⟩
        unfold F__law_take
        push_cast [eIxM, eM, sStM, at0, at1, at2, at3, ix41, ix42, k1, hp, ez, kInt, md, dd, oIx, cPow, cp, h18', zp, decide_true, decide_false]
    · obtain ⟨q, h', e, rfl, hi⟩ := last p 0 p0 p1 (by omega)
      refine ⟨q.fmod m, _, ?_, (fm hm).1, (fm hm).2, hi⟩
      have hz : ¬ (0 : Int) < 0 := by omega
      unfold F__law_take
      push_cast [eIxM, eM, sStM, at0, at1, at2, at3, ix43, k1, hp, e, kInt, md, mt, hz, decide_true, decide_false]
  · have gp : (0 : Int) < g := by omega
    refine ⟨g.fmod m, .hl [.lst (cs.map D.int), .int p, .int (g.fdiv m), .int t], ?_, (fm hm).1, (fm hm).2, cs, p, g.fdiv m, t, rfl, hc, hl, p0, p1, (fd hm g0).1, t0, t1⟩
    unfold F__law_take
    push_cast [eIxM, eM, sStM, at0, at1, at2, at3, ix42, hg, gp, kInt, md, dd, decide_true, decide_false]
end Lw
set_option exponentiation.threshold 20000
namespace Lw
end Lw
set_option exponentiation.threshold 20000
namespace Lw
open PySem PySem.Spec L2 Fw Pd
def Pl0 (n : Nat) (d : D) : Prop := ∃ q, toPy d = some q ∧ q.canLay0 = true ∧ q.depth ≤ n
theorem Pl0.mono {n m : Nat} {d : D} (h : Pl0 n d) (k : n ≤ m) : Pl0 m d := by
  obtain ⟨q, e1, e2, e3⟩ := h
  exact ⟨q, e1, e2, Nat.le_trans e3 k⟩
theorem pl_int (i : Int) : Pl0 0 (.int i) := ⟨.int i, by unfold toPy; rfl, by simp only [PyData.canLay0], by simp only [PyData.depth]; omega⟩
theorem pl_str {x : Str} (h : PyData.strOk x = true) : Pl0 0 (.str x) := ⟨.str x, by unfold toPy; rfl, by simp only [PyData.canLay0]; exact h, by simp only [PyData.depth]; omega⟩
theorem pl_all {n : Nat} : ∀ {ds : List D}, (∀ d ∈ ds, Pl0 n d) → ∃ qs, toPyL ds = some qs ∧ PyData.canLayAll0 qs = true ∧ PyData.depthAll qs ≤ n ∧ qs.length = ds.length ∧ ∀ (i : Nat) d q, ds[i]? = some d → qs[i]? = some q → toPy d = some q
  | [], _ => ⟨[], by unfold toPyL; rfl, by simp only [PyData.canLayAll0], by simp only [PyData.depthAll]; omega, rfl, fun i d q h => by simp at h⟩
  | d :: ds, k => by
    obtain ⟨q, e1, e2, e3⟩ := k d List.mem_cons_self
    obtain ⟨qs, f1, f2, f3, f4, f5⟩ := pl_all (ds := ds) fun x hx => k x (List.mem_cons_of_mem _ hx)
    refine ⟨q :: qs, by unfold toPyL; rw [e1, f1], ?_, ?_, by rw [List.length_cons, List.length_cons, f4], fun i x y hx hy => ?_⟩
    · simp only [PyData.canLayAll0, e2, f2, Bool.and_self]
    · simp only [PyData.depthAll]; omega
    · cases i with
      | zero => cases hx; cases hy; exact e1
      | succ i => exact f5 i x y hx hy
theorem pl_tup {n : Nat} {ds : List D} (k : ∀ d ∈ ds, Pl0 n d) : Pl0 (n + 1) (.tup ds) := by
  obtain ⟨qs, f1, f2, f3, _⟩ := pl_all k
  exact ⟨.tuple qs, by unfold toPy; rw [f1]; rfl, by simp only [PyData.canLay0, f2], by simp only [PyData.depth]; omega⟩
theorem pl_lst {n : Nat} {ds : List D} (k : ∀ d ∈ ds, Pl0 n d) : Pl0 (n + 1) (.lst ds) := by
  obtain ⟨qs, f1, f2, f3, _⟩ := pl_all k
  exact ⟨.list qs, by unfold toPy; rw [f1]; rfl, by simp only [PyData.canLay0, f2], by simp only [PyData.depth]; omega⟩
theorem pl_enc (k : Fg) (x : k.K) : Pl0 1 (enc k x) := by
  cases k with
  | q =>
    refine pl_tup fun d hd => ?_
    rcases List.mem_cons.mp hd with rfl | hd
    · exact pl_int _
    · rw [List.mem_singleton.mp hd]; exact pl_int _
  | m n h => exact (pl_int _).mono (by omega)
theorem pl_sh {n : Nat} {d : D} {q : PyData} (h : Pl0 n d) (hn : n ≤ 64) (e : toPy d = some q) : SeqAt.shaped q = true := by
  obtain ⟨q', e1, e2, e3⟩ := h
  rw [e] at e1
  cases e1
  unfold SeqAt.shaped
  rw [e2, decide_eq_true (show q.depth ≤ 64 by omega)]
  rfl
/-- two plain things, compared -/
def eqB (x y : D) : Bool := (eqD x y).getD false
theorem eq_pl {n : Nat} {x y : D} (hx : Pl0 n x) (hy : Pl0 n y) (hn : n ≤ 64) : eqD x y = some (eqB x y) := by
  obtain ⟨p, e1, _⟩ := id hx
  obtain ⟨q, e2, _⟩ := id hy
  unfold eqB eqD
  rw [e1, e2]
  simp only [pl_sh hx hn e1, pl_sh hy hn e2, Bool.and_self, if_true]
  rfl
def ptD (k : Fg) (o : Option k.K) : D := match o with
  | none => .str "last"
  | some x => enc k x
end Lw
set_option exponentiation.threshold 20000
namespace Lw
open PySem PySem.Spec L2 Fw Pd
def pw {K : Type} [Fd K] (x : K) : Nat → K
  | 0 => 1
  | n + 1 => pw x n * x
theorem ixN_last {n : Nat} : ixN (n + 1) (-1) = some n := by
  unfold ixN
  rw [if_neg (by omega), if_pos (by omega)]
  congr 1
  omega
end Lw
set_option exponentiation.threshold 20000
namespace Lw
open PySem PySem.Spec L2 Fw Pd
section
variable {K : Type} [Fd K]
def rpS (c : Nat → K) (y : K) : Nat → K := fun j => (if j = 0 then 0 else c (j - 1)) - y * c j
def rp (L : List K) : Nat → K := L.foldl rpS fun j => del j 0
theorem Sm_shift {f : Nat → K} : ∀ {n : Nat}, Sm (n + 1) f = f 0 + Sm n fun i => f (i + 1)
  | 0 => by show (0 : K) + f 0 = f 0 + 0; grind
  | n + 1 => by
    show Sm (n + 1) f + f (n + 1) = f 0 + (Sm n (fun i => f (i + 1)) + f (n + 1))
    rw [Sm_shift]; grind
end
end Lw
set_option exponentiation.threshold 20000
namespace Lw
open PySem PySem.Spec L2 Fw Pd
section
variable {K : Type} [Fd K]
def rts (o : Nat → Option K) (k : Nat) : Nat → List K
  | 0 => []
  | m + 1 => if m = k then rts o k m else match o m with
    | none => rts o k m
    | some x => rts o k m ++ [x]
variable {o : Nat → Option K} {k : Nat}
theorem rts_k {m : Nat} (h : m = k) : rts o k (m + 1) = rts o k m := by
  rw [rts, if_pos h]
theorem rts_n {m : Nat} (h : m ≠ k) (e : o m = none) : rts o k (m + 1) = rts o k m := by
  rw [rts, if_neg h, e]
theorem rts_s {m : Nat} {x : K} (h : m ≠ k) (e : o m = some x) : rts o k (m + 1) = rts o k m ++ [x] := by
  rw [rts, if_neg h, e]
theorem rts_mem {y : K} : ∀ {m : Nat}, y ∈ rts o k m ↔ ∃ i, i < m ∧ i ≠ k ∧ o i = some y
  | 0 => Iff.intro (fun h => nomatch h) fun h => by
    obtain ⟨i, h, _⟩ := h
    omega
  | m + 1 => by
    have ih := rts_mem (y := y) (m := m)
    have up : ∀ {P : Prop}, (P ↔ (m ≠ k ∧ o m = some y)) → ((y ∈ rts o k m ∨ P) ↔ ∃ i, i < m + 1 ∧ i ≠ k ∧ o i = some y) := fun {P} hp => by
      rw [ih, hp]
      constructor
      · rintro (⟨i, h1, h2, h3⟩ | ⟨h2, h3⟩)
        · exact ⟨i, by omega, h2, h3⟩
        · exact ⟨m, by omega, h2, h3⟩
      · rintro ⟨i, h1, h2, h3⟩
        by_cases e : i = m
        · subst e; exact .inr ⟨h2, h3⟩
        · exact .inl ⟨i, by omega, h2, h3⟩
    by_cases hk : m = k
    · rw [rts_k hk, ← up (P := False) ⟨False.elim, fun z => z.1 hk⟩, or_false]
    · cases e : o m with
      | none => rw [rts_n hk e, ← up (P := False) ⟨False.elim, fun z => by rw [e] at z; exact nomatch z.2⟩, or_false]
      | some x => rw [rts_s hk e, List.mem_append, ← up (P := y ∈ [x]) (by
          rw [List.mem_singleton, e]
          exact ⟨fun z => ⟨hk, by rw [z]⟩, fun z => (Option.some.inj z.2).symm⟩)]
end
end Lw
set_option exponentiation.threshold 20000
namespace Lw
open PySem PySem.Spec L2 Fw Pd
end Lw
set_option exponentiation.threshold 20000
namespace Lw
open PySem PySem.Spec L2 Fw Pd Dz
theorem isa_ni : isaB "NoneType" "int" = false := by decide +kernel
theorem isa_nb : isaB "NoneType" "bool" = false := by decide +kernel
theorem isa_ns : isaB "NoneType" "str" = false := by decide +kernel
theorem isa_nt : isaB "NoneType" "tuple" = false := by decide +kernel
theorem isa_nl : isaB "NoneType" "list" = false := by decide +kernel
theorem isa_bi : isaB "bool" "int" = true := by decide +kernel
theorem isa_bb : isaB "bool" "bool" = true := by decide +kernel
theorem isa_bs : isaB "bool" "str" = false := by decide +kernel
theorem isa_bt : isaB "bool" "tuple" = false := by decide +kernel
theorem isa_bl : isaB "bool" "list" = false := by decide +kernel
theorem isa_ii : isaB "int" "int" = true := by decide +kernel
theorem isa_ib : isaB "int" "bool" = false := by decide +kernel
theorem isa_is : isaB "int" "str" = false := by decide +kernel
theorem isa_it : isaB "int" "tuple" = false := by decide +kernel
theorem isa_il : isaB "int" "list" = false := by decide +kernel
theorem isa_si : isaB "str" "int" = false := by decide +kernel
theorem isa_sb : isaB "str" "bool" = false := by decide +kernel
theorem isa_ss : isaB "str" "str" = true := by decide +kernel
theorem isa_st : isaB "str" "tuple" = false := by decide +kernel
theorem isa_sl : isaB "str" "list" = false := by decide +kernel
theorem isa_ti : isaB "tuple" "int" = false := by decide +kernel
theorem isa_tb : isaB "tuple" "bool" = false := by decide +kernel
theorem isa_ts : isaB "tuple" "str" = false := by decide +kernel
theorem isa_tt : isaB "tuple" "tuple" = true := by decide +kernel
theorem isa_tl : isaB "tuple" "list" = false := by decide +kernel
theorem isa_li : isaB "list" "int" = false := by decide +kernel
theorem isa_lb : isaB "list" "bool" = false := by decide +kernel
theorem isa_ls : isaB "list" "str" = false := by decide +kernel
theorem isa_lt : isaB "list" "tuple" = false := by decide +kernel
theorem isa_ll : isaB "list" "list" = true := by decide +kernel
theorem wh_bl (b : Bool) (x y h : D) : F_is_whole [.bl b, x, y] h = .ok (.bl false) h := by unfold F_is_whole; push_cast [isa_ni, isa_nb, isa_ns, isa_nt, isa_nl, isa_bi, isa_bb, isa_bs, isa_bt, isa_bl, isa_ii, isa_ib, isa_is, isa_it, isa_il, isa_si, isa_sb, isa_ss, isa_st, isa_sl, isa_ti, isa_tb, isa_ts, isa_tt, isa_tl, isa_li, isa_lb, isa_ls, isa_lt, isa_ll]
theorem wh_non (x y h : D) : F_is_whole [.non, x, y] h = .ok (.bl false) h := by unfold F_is_whole; push_cast [isa_ni, isa_nb, isa_ns, isa_nt, isa_nl, isa_bi, isa_bb, isa_bs, isa_bt, isa_bl, isa_ii, isa_ib, isa_is, isa_it, isa_il, isa_si, isa_sb, isa_ss, isa_st, isa_sl, isa_ti, isa_tb, isa_ts, isa_tt, isa_tl, isa_li, isa_lb, isa_ls, isa_lt, isa_ll]
theorem wh_str (s : Str) (x y h : D) : F_is_whole [.str s, x, y] h = .ok (.bl false) h := by unfold F_is_whole; push_cast [isa_ni, isa_nb, isa_ns, isa_nt, isa_nl, isa_bi, isa_bb, isa_bs, isa_bt, isa_bl, isa_ii, isa_ib, isa_is, isa_it, isa_il, isa_si, isa_sb, isa_ss, isa_st, isa_sl, isa_ti, isa_tb, isa_ts, isa_tt, isa_tl, isa_li, isa_lb, isa_ls, isa_lt, isa_ll]
theorem wh_tup (ds : List D) (x y h : D) : F_is_whole [.tup ds, x, y] h = .ok (.bl false) h := by unfold F_is_whole; push_cast [isa_ni, isa_nb, isa_ns, isa_nt, isa_nl, isa_bi, isa_bb, isa_bs, isa_bt, isa_bl, isa_ii, isa_ib, isa_is, isa_it, isa_il, isa_si, isa_sb, isa_ss, isa_st, isa_sl, isa_ti, isa_tb, isa_ts, isa_tt, isa_tl, isa_li, isa_lb, isa_ls, isa_lt, isa_ll]
theorem wh_nn (i : Int) (h : D) : F_is_whole [.int i, .non, .non] h = .ok (.bl true) h := by unfold F_is_whole; push_cast [isa_ni, isa_nb, isa_ns, isa_nt, isa_nl, isa_bi, isa_bb, isa_bs, isa_bt, isa_bl, isa_ii, isa_ib, isa_is, isa_it, isa_il, isa_si, isa_sb, isa_ss, isa_st, isa_sl, isa_ti, isa_tb, isa_ts, isa_tt, isa_tl, isa_li, isa_lb, isa_ls, isa_lt, isa_ll]
theorem wh_in (i l : Int) (h : D) : F_is_whole [.int i, .int l, .non] h = .ok (.bl (decide (l ≤ i))) h := by
  unfold F_is_whole
  by_cases c : l ≤ i
  · push_cast [isa_ni, isa_nb, isa_ns, isa_nt, isa_nl, isa_bi, isa_bb, isa_bs, isa_bt, isa_bl, isa_ii, isa_ib, isa_is, isa_it, isa_il, isa_si, isa_sb, isa_ss, isa_st, isa_sl, isa_ti, isa_tb, isa_ts, isa_tt, isa_tl, isa_li, isa_lb, isa_ls, isa_lt, isa_ll, c]
  · push_cast [isa_ni, isa_nb, isa_ns, isa_nt, isa_nl, isa_bi, isa_bb, isa_bs, isa_bt, isa_bl, isa_ii, isa_ib, isa_is, isa_it, isa_il, isa_si, isa_sb, isa_ss, isa_st, isa_sl, isa_ti, isa_tb, isa_ts, isa_tt, isa_tl, isa_li, isa_lb, isa_ls, isa_lt, isa_ll, c]
theorem wh_ii (i l u : Int) (h : D) : F_is_whole [.int i, .int l, .int u] h = .ok (.bl (decide (l ≤ i) && decide (i ≤ u))) h := by
  unfold F_is_whole
  by_cases c : l ≤ i
  · by_cases d : i ≤ u
    · push_cast [isa_ni, isa_nb, isa_ns, isa_nt, isa_nl, isa_bi, isa_bb, isa_bs, isa_bt, isa_bl, isa_ii, isa_ib, isa_is, isa_it, isa_il, isa_si, isa_sb, isa_ss, isa_st, isa_sl, isa_ti, isa_tb, isa_ts, isa_tt, isa_tl, isa_li, isa_lb, isa_ls, isa_lt, isa_ll, c, d]
    · push_cast [isa_ni, isa_nb, isa_ns, isa_nt, isa_nl, isa_bi, isa_bb, isa_bs, isa_bt, isa_bl, isa_ii, isa_ib, isa_is, isa_it, isa_il, isa_si, isa_sb, isa_ss, isa_st, isa_sl, isa_ti, isa_tb, isa_ts, isa_tt, isa_tl, isa_li, isa_lb, isa_ls, isa_lt, isa_ll, c, d]
  · push_cast [isa_ni, isa_nb, isa_ns, isa_nt, isa_nl, isa_bi, isa_bb, isa_bs, isa_bt, isa_bl, isa_ii, isa_ib, isa_is, isa_it, isa_il, isa_si, isa_sb, isa_ss, isa_st, isa_sl, isa_ti, isa_tb, isa_ts, isa_tt, isa_tl, isa_li, isa_lb, isa_ls, isa_lt, isa_ll, c]
theorem ra_q (x : Rat) (h : D) : F_is_ratio [encQ x] h = .ok (.bl true) h := by
  have h1 := wh_nn x.num h
  have h2 := wh_in x.den 1 h
  have p := x.den_pos
  have h3 : (1 : Int) ≤ (x.den : Int) := by omega
  have g : Nat.gcd x.num.natAbs x.den = 1 := x.reduced
  have g2 : (x.den : Int).natAbs = x.den := Int.natAbs_natCast _
  rw [decide_eq_true h3] at h2
  unfold encQ F_is_ratio
  push_cast [isa_ni, isa_nb, isa_ns, isa_nt, isa_nl, isa_bi, isa_bb, isa_bs, isa_bt, isa_bl, isa_ii, isa_ib, isa_is, isa_it, isa_il, isa_si, isa_sb, isa_ss, isa_st, isa_sl, isa_ti, isa_tb, isa_ts, isa_tt, isa_tl, isa_li, isa_lb, isa_ls, isa_lt, isa_ll, h1, h2, g, g2]
end Lw
set_option exponentiation.threshold 20000
namespace Lw
open PySem PySem.Spec L2 Fw Pd Dz
/-- a thing: is it a number of these figures, is it "last" -/
structure Thg (k : Fg) (d : D) (nb la : Bool) : Prop where
  fr : d.fr = true
  pl : Pl0 2 d
  num : ∀ h, F_Figures_is_number [fig k, d] h = .ok (.bl nb) h
  last : eqD d (.str "last") = some la
  law : (isS "str" d = some true ∧ nb = false) ∨ (isS "str" d = some false ∧ ∀ h, F__law_numbers [.int k.p, .tup [d], .int 1] h = .ok (.bl nb) h)
  ex : la = true → nb = false
theorem num_q (d h : D) (b : Bool) (fr : d.fr = true) (e : ∀ h, F_is_ratio [d] h = .ok (.bl b) h) : F_Figures_is_number [fig .q, d] h = .ok (.bl b) h := by
  have v : vD (some (some d)) h = .ok d h := vD_fr fr
  have vm : vmD (some (some d)) h = .ok d h := vmD_fr fr
  unfold F_Figures_is_number
  push_cast [fig_vd, fig_p, pq, v, vm, e]
theorem num_m {n : Nat} {hn} (d h : D) (b : Bool) (fr : d.fr = true) (e : ∀ h, F_is_whole [d, .int 0, .int ((Fg.m n hn).p - 1)] h = .ok (.bl b) h) : F_Figures_is_number [fig (.m n hn), d] h = .ok (.bl b) h := by
  have v : vD (some (some d)) h = .ok d h := vD_fr fr
  have vm : vmD (some (some d)) h = .ok d h := vmD_fr fr
  have p0 : ¬ (Fg.m n hn).p = 0 := by rw [pm]; omega
  obtain ⟨p, ep⟩ : ∃ p, p = (Fg.m n hn).p := ⟨_, rfl⟩
  unfold F_Figures_is_number
  push_cast [fig_vd, fig_p, p0, v, vm, e]
end Lw
set_option exponentiation.threshold 20000
namespace Lw
open PySem PySem.Spec L2 Fw Pd Dz
/-- a list or a tuple -/
def sqD (b : Bool) (ds : List D) : D := if b then .lst ds else .tup ds
end Lw
set_option exponentiation.threshold 20000
namespace Lw
open PySem PySem.Spec L2 Fw Pd Dz
def is2 (n m : String) (d : D) : Option D := match isS n d, isS m d with
  | some k, some l => some (.bl (k || l))
  | _, _ => none
theorem is2_a (n m : String) (f : EF D) (δ : DE) (h : D) : eIs2 n m f δ h = ((f δ h).bind fun d h1 => Ex.of (is2 n m d) h1) := (rfl)
theorem is2_of {n m : String} {d : D} {a b : Bool} (h : isS n d = some a) (k : isS m d = some b) : is2 n m d = some (.bl (a || b)) := by unfold is2; rw [h, k]
def NotSeq (d : D) : Prop := d.fr = true ∧ isS "list" d = some false ∧ isS "tuple" d = some false
end Lw
set_option exponentiation.threshold 20000
namespace Lw
open PySem PySem.Spec L2 Fw Pd Dz
/-- small points -/
def Sml (k : Fg) (o : Option k.K) : Prop := ∀ x, o = some x → (ht k x ≤ 7 ∧ hd k x ≤ 1) ∨ (ht k x ≤ 2 ∧ hd k x ≤ 2)
theorem Sml.ht {k : Fg} {o : Option k.K} (s : Sml k o) (x : k.K) (e : o = some x) : ht k x ≤ 7 := by
  rcases s x e with ⟨h, _⟩ | ⟨h, _⟩ <;> omega
/-- points and strange things -/
inductive Th (k : Fg) where
  | pt (o : Option k.K)
  | od (d : D)
def Th.d {k : Fg} : Th k → D
  | .pt o => ptD k o
  | .od d => d
def Th.nb {k : Fg} : Th k → Bool
  | .pt (some _) => true
  | _ => false
def Th.ok {k : Fg} : Th k → Prop
  | .pt o => Sml k o
  | .od d => Thg k d false false
end Lw
set_option exponentiation.threshold 20000
namespace Lw
open PySem PySem.Spec L2 Fw Pd Dz
theorem hd_hit {ms : Str → Option Bool} {i : Nat} {u : SF} {r : List Cz} {n : Str} {fs : List (Str × D)} {δ : DE} {h : D} (e : ms n = some true) (hi : i < δ.length) : hdGo (⟨ms, some i, u⟩ :: r) n fs δ h = dropFl (some i) (u (δ.set i (some (.ex n fs))) h) := by
  unfold hdGo
  simp only [e, Cz.here, decide_eq_true hi, if_true, exIn]
theorem hd_miss {ms : Str → Option Bool} {i : Option Nat} {u : SF} {r : List Cz} {n : Str} {fs : List (Str × D)} {δ : DE} {h : D} (e : ms n = some false) : hdGo (⟨ms, i, u⟩ :: r) n fs δ h = hdGo r n fs δ h := by
  rw [hdGo]
  simp only [e]
theorem drop_ret {i : Nat} {d h : D} : dropFl (some i) (.ret d h) = .ret d h := rfl
theorem dx_n : dropX none = none := rfl
/-- what is whole and in 0 .. m -/
def WhNo (d : D) (lo hi : Int) : Prop := d.fr = true ∧ ∀ h, F_is_whole [d, .int lo, .int hi] h = .ok (.bl false) h
end Lw
set_option exponentiation.threshold 20000
namespace Lw
open PySem PySem.Spec L2 Fw Pd Dz
theorem E_all (n : Nat) (hn) (h : D) : F_Figures_all_numbers [fig (.m n hn)] h = .ok (.tup (gen (n + 2) fun j => .int (j : Int))) h := by
  obtain ⟨p, ep⟩ : ∃ p, p = (Fg.m n hn).p := ⟨_, rfl⟩
  have hp : p.toNat = n + 2 := by rw [ep, pm]; omega
  have h1 : p ≤ 13 := by rw [ep, pm]; omega
  have h2 : 2 ≤ p := by rw [ep, pm]; omega
  unfold F_Figures_all_numbers
  push_cast [fig_p, ← ep, hp]
theorem wn_bl (b : Bool) (l u : Int) : WhNo (.bl b) l u := ⟨rfl, fun h => wh_bl b _ _ h⟩
theorem wn_non (l u : Int) : WhNo .non l u := ⟨rfl, fun h => wh_non _ _ h⟩
theorem wn_str (s : Str) (l u : Int) : WhNo (.str s) l u := ⟨rfl, fun h => wh_str s _ _ h⟩
theorem wn_tup (ds : List D) (l u : Int) : WhNo (.tup ds) l u := ⟨rfl, fun h => wh_tup ds _ _ h⟩
theorem wn_int (i l u : Int) (hi : i < l ∨ u < i) : WhNo (.int i) l u := ⟨rfl, fun h => by
  rw [wh_ii]
  rcases hi with z | z
  · rw [decide_eq_false (show ¬ l ≤ i by omega)]; rfl
  · rw [decide_eq_false (show ¬ i ≤ u by omega), Bool.and_false]⟩
end Lw
set_option exponentiation.threshold 20000
namespace Lw
open PySem PySem.Spec L2 Fw Pd Dz
theorem for_inv' {bind : D → DE → Option DE} {body : SF} (I : Nat → DE → D → Prop) {d : Nat → D} : ∀ (n s : Nat) (δ : DE) (h : D), (∀ i, s ≤ i → i < s + n → ∀ δ h, I i δ h → ∃ δ1, bind (d i) δ = some δ1 ∧ ∃ δ2 h2, body δ1 h = .nx δ2 h2 ∧ I (i + 1) δ2 h2) → I s δ h → ∃ δ' h', forGo bind body (gen n fun i => d (s + i)) δ h = .nx δ' h' ∧ I (s + n) δ' h'
  | 0, s, δ, h, _, i0 => ⟨δ, h, rfl, i0⟩
  | n + 1, s, δ, h, st, i0 => by
    obtain ⟨δ1, e1, δ2, h2, e2, i1⟩ := st s (Nat.le_refl _) (by omega) δ h i0
    obtain ⟨δ', h', e3, i2⟩ := for_inv' (bind := bind) (body := body) I (d := d) n (s + 1) δ2 h2 (fun i h1 h2 => st i (by omega) (by omega)) i1
    refine ⟨δ', h', ?_, by rw [show s + (n + 1) = s + 1 + n by omega]; exact i2⟩
    have eg : (gen n fun i => d (s + (i + 1))) = gen n fun i => d (s + 1 + i) := gen_congr fun i _ => by rw [show s + (i + 1) = s + 1 + i by omega]
    rw [gen_succ, eg, forGo, Nat.add_zero]
    simp only [e1, e2, e3]
theorem for_draw {bind : D → DE → Option DE} {body : SF} (I : Nat → DE → D → Prop) {d : Nat → D} {n : Nat} {δ : DE} {h : D} (st : ∀ i, i < n → ∀ δ h, I i δ h → ∃ δ1, bind (d i) δ = some δ1 ∧ ∃ δ2 h2, body δ1 h = .nx δ2 h2 ∧ I (i + 1) δ2 h2) (i0 : I 0 δ h) : ∃ δ' h', forGo bind body (gen n d) δ h = .nx δ' h' ∧ I n δ' h' := by
  have := for_inv' (bind := bind) (body := body) I (d := d) n 0 δ h (fun i _ h2 => st i (by omega)) i0
  simp only [Nat.zero_add] at this
  exact this
theorem E_init (k : Fg) : F_Figures___init__ [.me, .int k.p] (.ins "Figures" []) = .ok .non (fig k) := by
  cases k with
  | q => rfl
  | m n hn => rcases hn with rfl | rfl | rfl | rfl | rfl | rfl <;> rfl
theorem E_make (k : Fg) (δ : DE) (h : D) (i : Nat) (hi : δ[i]? = some (some (.int k.p))) : eMake "Figures" 2 F_Figures___init__ [] (eCons (eV i) eNil) δ h = .ok (fig k) h := by
  have e := E_init k
  rw [eMake_a]
  push_cast [hi, e]
  rfl
end Lw
set_option exponentiation.threshold 20000
namespace Lw
open PySem PySem.Spec L2 Fw Pd Dz
def upd {k : Fg} (t : Nat → Th k) (j : Nat) (u : Th k) : Nat → Th k := fun i => if i = j then u else t i
structure Pool (k : Fg) (N m : Nat) (c : Nat) (q o : Nat → Option k.K) : Prop where
  cm : c + m = N
  qi : ∀ i j, i < c → j < c → q i = q j → i = j
  oi : ∀ i j, i < m → j < m → o i = o j → i = j
  ne : ∀ i j, i < m → j < c → o i ≠ q j
  qs : ∀ i, i < c → Sml k (q i)
  os : ∀ i, i < m → Sml k (o i)
theorem Pool.next {k : Fg} {N m c : Nat} {q o : Nat → Option k.K} (P : Pool k N m c q o) {r : Nat} (hr : r < c) : Pool k N (m + 1) (c - 1) (fun i => if i < r then q i else q (i + 1)) (fun i => if i < m then o i else q r) := by
  obtain ⟨cm, qi, oi, ne, qs, os⟩ := P
  have at_ : ∀ i, i < c - 1 → ∃ i', i' < c ∧ i' ≠ r ∧ (if i < r then q i else q (i + 1)) = q i' ∧ (i' < r → i' = i) ∧ (r < i' → i' = i + 1) := fun i hi => by
    by_cases z : i < r
    · exact ⟨i, by omega, by omega, if_pos z, fun _ => rfl, fun _ => by omega⟩
    · exact ⟨i + 1, by omega, by omega, if_neg z, fun _ => by omega, fun _ => rfl⟩
  refine ⟨by omega, fun i j hi hj e => ?_, fun i j hi hj e => ?_, fun i j hi hj e => ?_, fun i hi => ?_, fun i hi => ?_⟩
  · obtain ⟨i', a1, a2, a3, a4, a5⟩ := at_ i hi
    obtain ⟨j', b1, b2, b3, b4, b5⟩ := at_ j hj
    simp only [a3, b3] at e
    have := qi i' j' a1 b1 e
    omega
  · by_cases z : i < m
    · by_cases y : j < m
      · simp only [if_pos z, if_pos y] at e
        exact oi i j z y e
      · simp only [if_pos z, if_neg y] at e
        exact (ne i r z hr e).elim
    · by_cases y : j < m
      · simp only [if_neg z, if_pos y] at e
        exact (ne j r y hr e.symm).elim
      · omega
  · obtain ⟨j', b1, b2, b3, _⟩ := at_ j hj
    by_cases z : i < m
    · simp only [if_pos z, b3] at e
      exact ne i j' z b1 e
    · simp only [if_neg z, b3] at e
      exact b2 (qi r j' hr b1 e).symm
  · obtain ⟨i', a1, a2, a3, _⟩ := at_ i hi
    show Sml k (if i < r then q i else q (i + 1))
    rw [a3]
    exact qs i' a1
  · show Sml k (if i < m then o i else q r)
    split
    · exact os i (by omega)
    · exact qs r hr
end Lw
set_option exponentiation.threshold 20000
namespace Lw
open PySem PySem.Spec L2 Fw Pd Dz
def rI (i : Int) : Rat := ⟨i, 1, by decide, Nat.coprime_one_right _⟩
end Lw
set_option exponentiation.threshold 20000
namespace Lw
open PySem PySem.Spec L2 Fw Pd Dz
theorem eq_self {n : Nat} {d : D} (h : Pl0 n d) (hn : n ≤ 64) : eqD d d = some true := by
  obtain ⟨q, e1, e2, e3⟩ := id h
  rw [eq_pl h h hn]
  unfold eqB eqD
  rw [e1]
  simp only [pl_sh h hn e1, Bool.and_self, if_true, Option.getD_some, SeqAt.eqv_refl q e2]
/-- what the law's own comparison reads -/
def Exd : Nat → D → Prop
  | 0, _ => False
  | n + 1, d => (∃ i, d = .int i) ∨ (∃ s, d = .str s ∧ PyData.strOk s = true) ∨ ∃ ds, d = .tup ds ∧ ds.length ≤ 900 ∧ ∀ x ∈ ds, Exd n x
theorem eq_nil : eqD (.lst []) (.lst []) = some true := rfl
theorem Exd.up : ∀ {n : Nat} {d : D}, Exd n d → Exd (n + 1) d
  | 0, _, e => e.elim
  | n + 1, _, .inl e => .inl e
  | n + 1, _, .inr (.inl e) => .inr (.inl e)
  | n + 1, _, .inr (.inr ⟨ds, e, l, k⟩) => .inr (.inr ⟨ds, e, l, fun x hx => (k x hx).up⟩)
theorem Exd.le {n m : Nat} {d : D} (h : Exd n d) (k : n ≤ m) : Exd m d := by
  obtain ⟨j, rfl⟩ : ∃ j, m = n + j := ⟨m - n, by omega⟩
  clear k
  induction j with
  | zero => exact h
  | succ j ih => exact ih.up
end Lw
set_option exponentiation.threshold 20000
namespace Lw
open PySem PySem.Spec L2 Fw Pd Dz
theorem E_fplus (k : Fg) (a b : k.K) (h : D) (hs : ht k a + ht k b ≤ 8000) : F_Figures_plus [fig k, enc k a, enc k b] h = .ok (enc k (a + b)) h := by
  cases k with
  | q =>
    have a1 := hq_num a
    have a2 := hq_den a
    have b1 := hq_num b
    have b2 := hq_den b
    replace hs : hq a + hq b ≤ 8000 := hs
    have m1 : cMul a.num b.den = true := cMul_b (by rw [Int.natAbs_natCast]; omega)
    have m2 : cMul b.num a.den = true := cMul_b (by rw [Int.natAbs_natCast]; omega)
    have m3 : cMul (a.den : Int) b.den = true := cMul_b (by rw [Int.natAbs_natCast, Int.natAbs_natCast]; omega)
    have bm := bt_mul a.den b.den
    have er := E_low (a.num * b.den + b.num * a.den) (a.den * b.den) h (Int.mul_ne_zero (den_ne a) (den_ne b)) (by rw [Int.natAbs_mul, Int.natAbs_natCast, Int.natAbs_natCast]; omega)
    rw [← q_add] at er
    rw [encQ_a, encQ_a, encQ_a]
    unfold F_Figures_plus F_ratio_plus
    unfold encQ at er ⊢
    push_cast [fig_p, pq, m1, m2, m3, er]
  | m n hn =>
    have h0 : ¬ ((n + 2 : Nat) : Int) = 0 := by omega
    have e := fv_add a b
    rw [encM_a, encM_a, encM_a]
    unfold F_Figures_plus
    push_cast [fig_p, pm, h0, e]
theorem ic_sumZ (k : Fg) (f : Nat → Int) : ∀ c, ic k (sumZ c f) = Sm c fun j => ic k (f j)
  | 0 => ic_0 k
  | c + 1 => by
    show ic k (sumZ c f + f c) = _
    rw [ic_add, ic_sumZ k f c]
    rfl
theorem ic_self {n : Nat} {hn} (x : Fin (n + 2)) : ic (.m n hn) (x.val : Int) = x := Fin.ext (Int.ofNat_inj.mp (ic_of (by omega) (fv_lt x)))
/-- a row over one bottom -/
def lnT (k : Fg) (c : Nat) (x : Nat → k.K) : Nat → Int := match k, x with
  | .q, x => fun j => (x j).num * ((lcmN c fun i => (x i).den : Nat) : Int).fdiv (x j).den
  | .m _ _, x => fun j => ((x j).val : Int)
def lnB (k : Fg) (c : Nat) (x : Nat → k.K) : Nat := match k, x with
  | .q, x => lcmN c fun i => (x i).den
  | .m _ _, _ => 1
def lineD (k : Fg) (c : Nat) (x : Nat → k.K) : D := match k, x with
  | .q, x => .tup [irow c (lnT .q c x), .int (lnB .q c x : Nat)]
  | .m n h, x => .tup [erow (.m n h) c x, .int 1]
/-- small enough to be summed -/
structure Lk (k : Fg) (c : Nat) (x : Nat → k.K) : Prop where
  n : c ≤ 1000
  h : ∀ j, j < c → ht k (x j) ≤ 4000
  d : 1 + sumN c (fun i => hd k (x i)) ≤ 4000
theorem sumN_part {f : Nat → Nat} {n m : Nat} (h : n ≤ m) : sumN n f ≤ sumN m f := by
  obtain ⟨d, rfl⟩ : ∃ d, m = n + d := ⟨m - n, by omega⟩
  clear h
  induction d with
  | zero => exact Nat.le_refl _
  | succ d ih => exact Nat.le_trans ih (Nat.le_add_right _ _)
theorem E_line (k : Fg) (c : Nat) (x : Nat → k.K) (h : D) (l : Lk k c x) : F_whole_line [fig k, erow k c x] h = .ok (lineD k c x) h := by
  cases k with
  | q =>
    have lb : ∀ n, n ≤ c → bt (lcmN n fun i => (x i).den) ≤ 4000 := fun n hn => by
      have h1 := lcmN_bt (d := fun i => (x i).den) (fun i => (x i).den_pos) n
      have h2 := sumN_part (f := fun i => bt (x i).den) hn
      have h3 : 1 + (sumN c fun i => bt (x i).den) ≤ 4000 := l.d
      omega
    have e1 := E_bottom c x h l.n lb (fun i hi => Nat.le_trans (hq_den (x i)) (l.h i hi)) (fun i hi => Nat.le_trans (hq_num (x i)) (l.h i hi))
    unfold F_whole_line
    show _ = Ex.ok (D.tup [irow c _, .int _]) h
    unfold erow
    push_cast [fig_vm, fig_p, pq, encQ_a, e1]
    rfl
  | m n hn =>
    have h0 : ¬ ((n + 2 : Nat) : Int) = 0 := by omega
    unfold F_whole_line
    show _ = Ex.ok (D.tup [erow _ c x, .int 1]) h
    unfold erow
    push_cast [fig_p, pm, h0]
theorem lnT_q {c : Nat} {x : Nat → Rat} {j : Nat} (hj : j < c) : ic .q (lnT .q c x j) = x j * ic .q (lnB .q c x : Nat) := by
  show ic .q ((x j).num * ((lcmN c fun i => (x i).den : Nat) : Int).fdiv (x j).den) = x j * ic .q ((lcmN c fun i => (x i).den : Nat) : Int)
  have dp := (x j).den_pos
  have e2 : ic .q (((lcmN c fun i => (x i).den : Nat) : Int).fdiv ((x j).den : Nat)) * ic .q ((x j).den : Nat) = ic .q (lcmN c fun i => (x i).den : Nat) := by
    rw [← ic_mul, Int.fdiv_eq_ediv_of_nonneg _ (by omega), Int.ediv_mul_cancel (Int.ofNat_dvd.mpr (lcmN_dvd (d := fun i => (x i).den) hj))]
  have e3 : x j * ic .q ((x j).den : Nat) = ic .q (x j).num := by
    have h1 := Rat.num_divInt_den (x j)
    rw [Rat.divInt_eq_div, Rat.div_def] at h1
    have h2 := Rat.mul_inv_cancel (((x j).den : Int) : Rat) (nat_ne dp)
    show x j * (((x j).den : Int) : Rat) = (((x j).num : Int) : Rat)
    generalize (((x j).den : Int) : Rat) = y at *
    generalize (((x j).num : Int) : Rat) = z at *
    rw [← h1, Rat.mul_assoc, Rat.mul_comm y⁻¹, h2, Rat.mul_one]
  rw [ic_mul, ← e3, ← e2]
  generalize ic .q (((lcmN c fun i => (x i).den : Nat) : Int).fdiv ((x j).den : Nat)) = a
  generalize ic .q ((x j).den : Nat) = b
  rw [Rat.mul_assoc, Rat.mul_comm b a]
theorem lnB_pos {c : Nat} {x : Nat → Rat} : 0 < lnB .q c x := lcmN_pos (d := fun i => (x i).den) (fun i => (x i).den_pos) c
theorem lnB_bt {c : Nat} {x : Nat → Rat} (l : Lk .q c x) : bt (lnB .q c x) ≤ 4000 := by
  have h1 := lcmN_bt (d := fun i => (x i).den) (fun i => (x i).den_pos) c
  have h3 : 1 + (sumN c fun i => bt (x i).den) ≤ 4000 := l.d
  show bt (lcmN c fun i => (x i).den) ≤ 4000
  omega
theorem lnT_bt {c : Nat} {x : Nat → Rat} (l : Lk .q c x) {j : Nat} (hj : j < c) : bt (lnT .q c x j).natAbs ≤ 8000 := by
  show bt ((x j).num * ((lcmN c fun i => (x i).den : Nat) : Int).fdiv (x j).den).natAbs ≤ 8000
  have h1 := lnB_bt l
  have h1 : bt (lcmN c fun i => (x i).den) ≤ 4000 := h1
  have h2 : (((lcmN c fun i => (x i).den : Nat) : Int).fdiv ((x j).den : Nat)).natAbs ≤ lcmN c fun i => (x i).den := by
    have := fd (a := ((lcmN c fun i => (x i).den : Nat) : Int)) (m := ((x j).den : Nat)) (by have := (x j).den_pos; omega) (by omega)
    omega
  have h3 := bt_mono h2
  have h4 := hq_num (x j)
  have h5 : hq (x j) ≤ 4000 := l.h j hj
  have h6 := bt_mul (x j).num.natAbs (((lcmN c fun i => (x i).den : Nat) : Int).fdiv ((x j).den : Nat)).natAbs
  rw [← Int.natAbs_mul] at h6
  omega
theorem E_wholes_l (c : Nat) (f g : Nat → Int) (h : D) (hc : c ≤ 1000) (hf : ∀ j, j < c → cMul (f j) (g j) = true) : F_summed_wholes [irow c f, irow c g] h = .ok (.int (sumZ c fun j => f j * g j)) h := by
  unfold F_summed_wholes irow
  push_cast [hf]
theorem E_wholes_t (c : Nat) (f g : Nat → Int) (h : D) (hc : c ≤ 1000) (hf : ∀ j, j < c → cMul (f j) (g j) = true) : F_summed_wholes [.tup (gen c fun j => .int (f j)), .tup (gen c fun j => .int (g j))] h = .ok (.int (sumZ c fun j => f j * g j)) h := by
  unfold F_summed_wholes
  push_cast [hf]
theorem E_lines (k : Fg) (c : Nat) (x y : Nat → k.K) (h : D) (lx : Lk k c x) (ly : Lk k c y) : F_summed_lines [fig k, lineD k c x, lineD k c y] h = .ok (enc k (Sm c fun j => x j * y j)) h := by
  cases k with
  | q =>
    have ew := E_wholes_l c (lnT .q c x) (lnT .q c y) h lx.n fun j hj => cMul_b (by have := lnT_bt lx hj; have := lnT_bt ly hj; omega)
    have b1 := lnB_bt lx
    have b2 := lnB_bt ly
    have p1 := lnB_pos (c := c) (x := x)
    have p2 := lnB_pos (c := c) (x := y)
    have mm : cMul (lnB .q c x : Nat) (lnB .q c y : Nat) = true := cMul_b (by rw [Int.natAbs_natCast, Int.natAbs_natCast]; omega)
    have bm := bt_mul (lnB .q c x) (lnB .q c y)
    have er := E_low (sumZ c fun j => lnT .q c x j * lnT .q c y j) ((lnB .q c x : Nat) * (lnB .q c y : Nat)) h (Int.mul_ne_zero (by omega) (by omega)) (by rw [Int.natAbs_mul, Int.natAbs_natCast, Int.natAbs_natCast]; omega)
    have ev : Rat.divInt (sumZ c fun j => lnT .q c x j * lnT .q c y j) ((lnB .q c x : Nat) * (lnB .q c y : Nat)) = Sm c fun j => x j * y j := by
      have e1 := ic_sumZ .q (fun j => lnT .q c x j * lnT .q c y j) c
      have e2 : Sm c (fun j => ic .q (lnT .q c x j * lnT .q c y j)) = Sm c (fun j => x j * y j) * (ic .q (lnB .q c x : Nat) * ic .q (lnB .q c y : Nat)) := by
        rw [← Sm_mulr]
        refine Sm_congr fun j hj => ?_
        rw [ic_mul, lnT_q hj, lnT_q hj]
        generalize ic .q (lnB .q c x : Nat) = a
        generalize ic .q (lnB .q c y : Nat) = b
        grind
      rw [e2] at e1
      have n1 : ic .q (lnB .q c x : Nat) ≠ 0 := nat_ne p1
      have n2 : ic .q (lnB .q c y : Nat) ≠ 0 := nat_ne p2
      have n3 : ic .q (lnB .q c x : Nat) * ic .q (lnB .q c y : Nat) ≠ 0 := mul_ne n1 n2
      rw [Rat.divInt_eq_div, Rat.div_def]
      show ic .q _ * (ic .q ((lnB .q c x : Nat) * (lnB .q c y : Nat)))⁻¹ = _
      rw [e1, ic_mul, Rat.mul_assoc, Rat.mul_inv_cancel _ n3, Rat.mul_one]
    rw [ev] at er
    unfold F_summed_lines
    show _ = Ex.ok (encQ _) h
    unfold lineD
    push_cast [fig_p, pq, irow_vm, ew, mm, er]
  | m n hn =>
    have h0 : ¬ ((n + 2 : Nat) : Int) = 0 := by omega
    have ew := E_wholes_t c (fun j => ((x j).val : Int)) (fun j => ((y j).val : Int)) h lx.n fun j hj => by
      have := pm_le hn
      have := fv_lt (x j)
      have := fv_lt (y j)
      exact mul_sm (by omega) (by omega) (by omega) (by omega)
    have ev : (sumZ c fun j => ((x j).val : Int) * ((y j).val : Int)).fmod ((n + 2 : Nat) : Int) = ((@Sm (Fg.m n hn).K (instFd (.m n hn)) c fun j => x j * y j).val : Int) := by
      rw [← ic_val (h := hn), ic_sumZ]
      have e : @Sm (Fg.m n hn).K (instFd (.m n hn)) c (fun j => ic (.m n hn) (((x j).val : Int) * ((y j).val : Int))) = @Sm (Fg.m n hn).K (instFd (.m n hn)) c fun j => x j * y j := @Sm_congr (Fg.m n hn).K (instFd (.m n hn)) _ _ _ fun j hj => by rw [ic_mul, ic_self, ic_self]
      rw [e]
    have lx' : lineD (.m n hn) c x = .tup [.tup (gen c fun j => .int ((x j).val : Int)), .int 1] := rfl
    have ly' : lineD (.m n hn) c y = .tup [.tup (gen c fun j => .int ((y j).val : Int)), .int 1] := rfl
    rw [lx', ly', encM_a]
    unfold F_summed_lines
    push_cast [fig_p, pm, ew, h0, ev]
theorem lineD_vm {k : Fg} {c : Nat} {x : Nat → k.K} {h : D} : vmD (some (some (lineD k c x))) h = .ok (lineD k c x) h := by cases k <;> rfl
theorem E_scaled (k : Fg) (c : Nat) (a : k.K) (x : Nat → k.K) (h : D) (hc : c ≤ 1000) (hs : ∀ j, j < c → ht k a + ht k (x j) ≤ 8000) : F_row_scaled [fig k, enc k a, erow k c x] h = .ok (erow k c fun j => a * x j) h := by
  have e : ∀ j, j < c → ∀ h, F_Figures_times [fig k, enc k a, enc k (x j)] h = .ok (enc k (a * x j)) h := fun j hj h => E_ftimes k a (x j) h (hs j hj)
  unfold F_row_scaled erow
  push_cast [fig_vd, eMeth_f, md_times, enc_vm, e]
theorem E_rowsum (k : Fg) (c : Nat) (x y : Nat → k.K) (h : D) (hc : c ≤ 1000) (hs : ∀ j, j < c → ht k (x j) + ht k (y j) ≤ 8000) : F_row_sum [fig k, erow k c x, erow k c y] h = .ok (erow k c fun j => x j + y j) h := by
  have e : ∀ j, j < c → ∀ h, F_Figures_plus [fig k, enc k (x j), enc k (y j)] h = .ok (enc k (x j + y j)) h := fun j hj h => E_fplus k (x j) (y j) h (hs j hj)
  unfold F_row_sum erow
  push_cast [fig_vd, eMeth_f, md_plus, enc_vm, e]
def etabS (k : Fg) (b : Bool) (r c : Nat) (A : Nat → Nat → k.K) : D := sqD b (gen r fun i => erow k c (A i))
theorem E_flipped (k : Fg) (b : Bool) (r c : Nat) (A : Nat → Nat → k.K) (h : D) (r1 : 1 ≤ r) (hr : r ≤ 1000) (hc : c ≤ 1000) : F_flipped_table [etabS k b r c A] h = .ok (etab k c r fun i j => A j i) h := by
  have h0 : ¬ (r : Int) = 0 := by omega
  cases b with
  | false =>
    show F_flipped_table [.tup (gen r fun i => erow k c (A i))] h = _
    unfold F_flipped_table
    push_cast [h0, erow_len, erow_vd, erow_ix]
    rfl
  | true =>
    show F_flipped_table [.lst (gen r fun i => erow k c (A i))] h = _
    unfold F_flipped_table
    push_cast [h0, erow_len, erow_vd, erow_ix]
    rfl
theorem E_led (k : Fg) (r c : Nat) (A : Nat → Nat → k.K) (x : Nat → k.K) (h : D) (hr : r ≤ 1000) (la : ∀ i, i < r → Lk k c (A i)) (lx : Lk k c x) : F_column_led [fig k, etab k r c A, erow k c x] h = .ok (erow k r fun i => Sm c fun j => A i j * x j) h := by
  have e1 := E_line k c x h lx
  have e2 : ∀ i, i < r → ∀ h, F_whole_line [fig k, erow k c (A i)] h = .ok (lineD k c (A i)) h := fun i hi h => E_line k c (A i) h (la i hi)
  have e3 : ∀ i, i < r → ∀ h, F_summed_lines [fig k, lineD k c (A i), lineD k c x] h = .ok (enc k (Sm c fun j => A i j * x j)) h := fun i hi h => E_lines k c (A i) x h (la i hi) lx
  unfold F_column_led etab
  push_cast [fig_vm, erow_vm, e1, e2, lineD_vm, e3]
  rfl
end Lw
set_option exponentiation.threshold 20000
namespace Lw
open PySem PySem.Spec L2 Fw Pd Dz
theorem E_isnum (k : Fg) (x : k.K) (h : D) : F_Figures_is_number [fig k, enc k x] h = .ok (.bl true) h := by
  cases k with
  | q => exact num_q _ h true (enc_fr .q x) fun h => ra_q x h
  | m n hn =>
    refine num_m _ h true (enc_fr _ x) fun h => ?_
    have e := wh_ii (x.val : Int) 0 ((Fg.m n hn).p - 1) h
    have h1 : (0 : Int) ≤ (x.val : Int) := by omega
    have h2 : (x.val : Int) ≤ (Fg.m n hn).p - 1 := by have := fv_lt x; rw [pm]; omega
    rw [decide_eq_true h1, decide_eq_true h2] at e
    exact e
theorem E_isseq (b : Bool) (ds : List D) (h : D) : F_is_sequence [sqD b ds] h = .ok (.bl true) h := by
  cases b <;> (unfold sqD F_is_sequence; push_cast [isa_ni, isa_nb, isa_ns, isa_nt, isa_nl, isa_bi, isa_bb, isa_bs, isa_bt, isa_bl, isa_ii, isa_ib, isa_is, isa_it, isa_il, isa_si, isa_sb, isa_ss, isa_st, isa_sl, isa_ti, isa_tb, isa_ts, isa_tt, isa_tl, isa_li, isa_lb, isa_ls, isa_lt, isa_ll])
theorem sq_vm {b : Bool} {ds : List D} {h : D} : vmD (some (some (sqD b ds))) h = .ok (sqD b ds) h := by cases b <;> rfl
def srow (k : Fg) (b : Bool) (c : Nat) (x : Nat → k.K) : D := sqD b (gen c fun j => enc k (x j))
theorem srow_t {k : Fg} {c : Nat} {x : Nat → k.K} : srow k false c x = erow k c x := rfl
theorem srow_vm {k : Fg} {b : Bool} {c : Nat} {x : Nat → k.K} {h : D} : vmD (some (some (srow k b c x))) h = .ok (srow k b c x) h := sq_vm
theorem E_letters (k : Fg) (b : Bool) (c : Nat) (x : Nat → k.K) (w : Str) (h : D) (hc : c ≤ 1000) : F_check_letters [fig k, srow k b c x, .int c, .str w] h = .ok (erow k c x) h := by
  have e1 : F_is_sequence [srow k b c x] h = .ok (.bl true) h := E_isseq b _ h
  have e : ∀ j h, F_Figures_is_number [fig k, enc k (x j)] h = .ok (.bl true) h := fun j h => E_isnum k (x j) h
  have lp := for_gen0 (h := h) (bind := bTp [(bNm 4), (bNm 5)]) (body := (sIf (eNot (eTru (eMeth "Figures" "is_number" 2 F_Figures_is_number [] (eV 0) (eCons (eVm 5) eNil)))) (sRaise "BadLetters" (flD2 "what" "index") (eCons (eV 3) (eCons (eV 4) eNil))) sNil)) (d := fun j => .tup [.int (j : Int), enc k (x j)]) (n := c)
    (fun m => [some (fig k), some (srow k b c x), some (.int c), some (.str w), lv none (fun j => .int (j : Int)) m, lv none (fun j => enc k (x j)) m]) fun m hm => by
      refine ⟨_, rfl, ?_⟩
      push_cast [lv_s, fig_vd, eMeth_f, md_is_number, enc_vm, e]
  simp only [lv_0] at lp
  unfold F_check_letters
  cases b
  · unfold srow sqD erow at *
    simp only [if_false, Bool.false_eq_true] at *
    push_cast [e1, lp]
  · unfold srow sqD erow at *
    simp only [if_true] at *
    push_cast [e1, lp]
end Lw
set_option exponentiation.threshold 20000
namespace Lw
open PySem PySem.Spec L2 Fw Pd Dz
structure Pr4 (k : Fg) where
  u : Nat → k.K
  v : Nat → k.K
  a : k.K
  b : k.K
def Pr4.d {k : Fg} (r c : Nat) (P : Pr4 k) : D := .tup [erow k r P.u, erow k c P.v, enc k P.a, enc k P.b]
def Pr4.fl {k : Fg} (P : Pr4 k) : Pr4 k := ⟨P.v, P.u, P.a, P.b⟩
end Lw
set_option exponentiation.threshold 20000
namespace Lw
open PySem PySem.Spec L2 Fw Pd Dz
theorem ht_Sm (k : Fg) (f : Nat → k.K) (B : Nat) : ∀ n, (∀ i, i < n → ht k (f i) ≤ B) → ht k (Sm n f) ≤ 1 + n * (B + 1)
  | 0, _ => by have := ht_zero k; show ht k 0 ≤ _; omega
  | n + 1, b => by
    have h1 := ht_Sm k f B n fun i hi => b i (by omega)
    have h2 := b n (by omega)
    have h3 := ht_add k (Sm n f) (f n)
    show ht k (Sm n f + f n) ≤ _
    rw [Nat.succ_mul]
    omega
theorem hd_ht (k : Fg) (x : k.K) : hd k x ≤ ht k x := by cases k with
  | q => exact hq_den x
  | m n h => exact Nat.zero_le _
theorem sumN_b {f : Nat → Nat} {B : Nat} : ∀ {n : Nat}, (∀ i, i < n → f i ≤ B) → sumN n f ≤ n * B
  | 0, _ => Nat.zero_le _
  | n + 1, b => by
    have h1 := sumN_b (f := f) (B := B) (n := n) fun i hi => b i (by omega)
    have h2 := b n (by omega)
    show sumN n f + f n ≤ _
    rw [Nat.succ_mul]
    omega
theorem Lk_of {k : Fg} {c : Nat} {x : Nat → k.K} (B : Nat) (hc : c ≤ 1000) (h : ∀ j, j < c → ht k (x j) ≤ B) (hB : 1 + c * B ≤ 4000) : Lk k c x := ⟨hc, fun j hj => by
    have h1 := h j hj
    have h2 := Nat.le_mul_of_pos_left B (show 0 < c by omega)
    omega, by
    have := sumN_b (f := fun i => hd k (x i)) (B := B) (n := c) fun i hi => Nat.le_trans (hd_ht k (x i)) (h i hi)
    omega⟩
end Lw
set_option exponentiation.threshold 20000
namespace Lw
open PySem PySem.Spec L2 Fw Pd Dz
end Lw
set_option exponentiation.threshold 20000
namespace Lw
open PySem PySem.Spec L2 Fw Pd Dz
theorem sq_fr {b : Bool} {ds : List D} : (sqD b ds).fr = true := by cases b <;> rfl
end Lw
set_option exponentiation.threshold 20000
namespace Lw
open PySem PySem.Spec L2 Fw Pd Dz
end Lw
set_option exponentiation.threshold 20000
namespace Lw
open PySem PySem.Spec L2 Fw Pd Dz
end Lw
set_option exponentiation.threshold 20000
namespace Lw
open PySem PySem.Spec L2 Fw Pd Dz
def ltab (k : Fg) (r c : Nat) (A : Nat → Nat → k.K) : D := .lst (gen r fun i => .lst (gen c fun j => enc k (A i j)))
theorem bint (i j : Nat) : (if decide ((i : Int) = (j : Int)) = true then (1 : Int) else 0) = if i = j then 1 else 0 := by
  by_cases e : i = j
  · have : (i : Int) = (j : Int) := by omega
    rw [if_pos e, if_pos (decide_eq_true this)]
  · have : ¬ (i : Int) = (j : Int) := by omega
    rw [if_neg e, if_neg (by rw [decide_eq_false this]; exact fun z => nomatch z)]
theorem bint' (i j : Nat) : (if (i : Int) = (j : Int) then (1 : Int) else 0) = if i = j then 1 else 0 := by
  by_cases e : i = j
  · have : (i : Int) = (j : Int) := by omega
    rw [if_pos e, if_pos this]
  · have : ¬ (i : Int) = (j : Int) := by omega
    rw [if_neg e, if_neg this]
/-- a table that is still held -/
def htab (k : Fg) (r c : Nat) (A : Nat → Nat → k.K) : D := .hl (gen r fun i => .hl (gen c fun j => enc k (A i j)))
theorem E_blank (k : Fg) (r c : Nat) (h : D) (hr : r ≤ 900) (hc : c ≤ 900) : F__law_blank [.int k.p, .int r, .int c] h = .ok (htab k r c fun _ _ => 0) h := by
  have e : ∀ h, F__law_num [.int k.p, .int 0] h = .ok (enc k 0) h := fun h => E_num0 k h
  unfold F__law_blank htab
  push_cast [e]
end Lw
set_option exponentiation.threshold 20000
namespace Lw
open PySem PySem.Spec L2 Fw Pd Dz
def upd2 {K : Type} (A : Nat → Nat → K) (i j : Nat) (x : K) : Nat → Nat → K := fun a b => if a = i ∧ b = j then x else A a b
theorem htab_set {k : Fg} {r c : Nat} {A : Nat → Nat → k.K} {i j : Nat} {x : k.K} : D.hl ((gen r fun a => D.hl (gen c fun b => enc k (A a b))).set i (.hl ((gen c fun b => enc k (A i b)).set j (enc k x)))) = htab k r c (upd2 A i j x) := by
  rw [gen_set, gen_set]
  unfold htab upd2
  congr 1
  refine gen_congr fun a ha => ?_
  by_cases e : a = i
  · subst e
    rw [if_pos rfl]
    congr 1
    refine gen_congr fun b hb => ?_
    by_cases e : b = j
    · rw [if_pos e, if_pos ⟨rfl, e⟩]
    · rw [if_neg e, if_neg fun z => e z.2]
  · rw [if_neg e]
    congr 1
    refine gen_congr fun b hb => ?_
    rw [if_neg fun z => e z.1]
end Lw
set_option exponentiation.threshold 20000
namespace Lw
open PySem PySem.Spec L2 Fw Pd Dz
theorem htab_congr {k : Fg} {r c : Nat} {A B : Nat → Nat → k.K} (e : ∀ i j, i < r → j < c → A i j = B i j) : htab k r c A = htab k r c B := by
  unfold htab
  congr 1
  refine gen_congr fun i hi => ?_
  congr 1
  exact gen_congr fun j hj => by rw [e i j hi hj]
theorem frzL_h {k : Fg} {c : Nat} : ∀ {r : Nat} {A : Nat → Nat → k.K}, frzL (gen r fun i => .hl (gen c fun j => enc k (A i j))) = gen r fun i => .lst (gen c fun j => enc k (A i j))
  | 0, _ => rfl
  | r + 1, A => by
    rw [gen_succ, gen_succ]
    have ih := frzL_h (k := k) (c := c) (r := r) (A := fun i => A (i + 1))
    show D.lst (frzL (gen c fun j => enc k (A 0 j))) :: frzL (gen r fun i => .hl (gen c fun j => enc k (A (i + 1) j))) = _
    rw [ih, frzL_gen fun j => enc_fr k _]
end Lw
set_option exponentiation.threshold 20000
namespace Lw
open PySem PySem.Spec L2 Fw Pd Dz
end Lw
set_option exponentiation.threshold 20000
namespace Lw
open PySem PySem.Spec L2 Fw Pd Dz
end Lw
set_option exponentiation.threshold 20000
namespace Lw
open PySem PySem.Spec L2 Fw Pd Dz
theorem lc_drawF {bind : D → DE → Option DE} {elt : EF D} {δ : DE} {I : D → Prop} {R : Nat → D → Prop} {d : Nat → D} : ∀ (n s : Nat) (h : D), I h → (∀ i, s ≤ i → i < s + n → ∀ h, I h → ∃ δ2, bind (d i) δ = some δ2 ∧ ∃ y h', elt δ2 h = .ok y h' ∧ R i y ∧ I h') →
    ∃ (g : Nat → D) (h' : D), lcGo bind tYesD elt δ (gen n fun i => d (s + i)) h = .ok (gen n fun i => g (s + i)) h' ∧ (∀ i, s ≤ i → i < s + n → R i (g i)) ∧ I h'
  | 0, s, h, ih, _ => ⟨fun _ => .non, h, rfl, fun i h1 h2 => by omega, ih⟩
  | n + 1, s, h, ih, k => by
    obtain ⟨δ2, e1, y, h1, e2, r, i1⟩ := k s (Nat.le_refl _) (by omega) h ih
    obtain ⟨g, h2, e3, rs, i2⟩ := lc_drawF n (s + 1) h1 i1 fun i a b => k i (by omega) (by omega)
    refine ⟨fun i => if i = s then y else g i, h2, ?_, fun i a b => ?_, i2⟩
    · have eg : (gen n fun i => d (s + (i + 1))) = gen n fun i => d (s + 1 + i) := gen_congr fun i _ => by rw [show s + (i + 1) = s + 1 + i by omega]
      rw [gen_succ, gen_succ, Nat.add_zero]
      simp only [if_true]
      rw [eg]
      unfold lcGo
      simp only [e1, tYesD, nox_okE, bind_okE, if_true, e2, e3]
      congr 2
      exact gen_congr fun i _ => by rw [if_neg (show ¬ s + (i + 1) = s by omega), show s + (i + 1) = s + 1 + i by omega]
    · show R i (if i = s then y else g i)
      by_cases z : i = s
      · rw [if_pos z, z]; exact r
      · rw [if_neg z]; exact rs i (by omega) (by omega)
end Lw
set_option exponentiation.threshold 20000
namespace Lw
open PySem PySem.Spec L2 Fw Pd Dz
end Lw
set_option exponentiation.threshold 20000
namespace Lw
open PySem PySem.Spec L2 Fw Pd Dz
end Lw
set_option exponentiation.threshold 20000
namespace Lw
open PySem PySem.Spec L2 Fw Pd Dz
end Lw
set_option exponentiation.threshold 20000
namespace Lw
open PySem PySem.Spec L2 Fw Pd Dz
theorem five {P : D → Prop} {a b c d e : D} {r : Int} (r0 : 0 ≤ r) (r1 : r < 5) (ha : P a) (hb : P b) (hc : P c) (hd : P d) (he : P e) : ∃ x, atI [a, b, c, d, e] r = some x ∧ P x := by
  have : r = 0 ∨ r = 1 ∨ r = 2 ∨ r = 3 ∨ r = 4 := by omega
  rcases this with rfl | rfl | rfl | rfl | rfl
  · exact ⟨_, rfl, ha⟩
  · exact ⟨_, rfl, hb⟩
  · exact ⟨_, rfl, hc⟩
  · exact ⟨_, rfl, hd⟩
  · exact ⟨_, rfl, he⟩
end Lw
set_option exponentiation.threshold 20000
namespace Lw
open PySem PySem.Spec L2 Fw Pd Dz
end Lw
set_option exponentiation.threshold 20000
namespace Lw
open PySem PySem.Spec L2 Fw Pd Dz
section
variable {K : Type} [Fd K]
/-- what rows before i give to place j -/
def acR (a b : Nat → K) (i j : Nat) : K := Sm i fun x => if x ≤ j then a x * b (j - x) else 0
/-- and t places of row i -/
def acC (a b : Nat → K) (i t j : Nat) : K := acR a b i j + if i ≤ j ∧ j - i < t then a i * b (j - i) else 0
theorem acC_s {a b : Nat → K} {i t j : Nat} : acC a b i (t + 1) j = if j = i + t then acC a b i t j + a i * b t else acC a b i t j := by
  unfold acC
  by_cases h : j = i + t
  · rw [if_pos h, if_pos ⟨by omega, by omega⟩, if_neg fun z => (by have := z.2; omega : False), show j - i = t by omega]; grind
  · rw [if_neg h]
    by_cases h2 : i ≤ j ∧ j - i < t
    · rw [if_pos h2, if_pos ⟨h2.1, by omega⟩]
    · rw [if_neg h2, if_neg fun z => h2 ⟨z.1, by have := z.2; omega⟩]
end
theorem acR_ht (k : Fg) (a b : Nat → k.K) (i j A B : Nat) (ha : ∀ x, ht k (a x) ≤ A) (hb : ∀ x, ht k (b x) ≤ B) : ht k (acR a b i j) ≤ 1 + i * (A + B + 2) := by
  have := ht_Sm k (fun x => if x ≤ j then a x * b (j - x) else 0) (A + B + 1) i fun x hx => by
    show ht k (if x ≤ j then a x * b (j - x) else 0) ≤ _
    split
    · have := ht_mul k (a x) (b (j - x)); have := ha x; have := hb (j - x); omega
    · have := ht_zero k; omega
  exact this
theorem acC_ht (k : Fg) (a b : Nat → k.K) (i t j A B : Nat) (ha : ∀ x, ht k (a x) ≤ A) (hb : ∀ x, ht k (b x) ≤ B) : ht k (acC a b i t j) ≤ 1 + (i + 1) * (A + B + 2) := by
  have h1 := acR_ht k a b i j A B ha hb
  have h2 := ht_add k (acR a b i j) (if i ≤ j ∧ j - i < t then a i * b (j - i) else 0)
  have h3 : ht k (if i ≤ j ∧ j - i < t then a i * b (j - i) else 0) ≤ A + B + 1 := by
    split
    · have := ht_mul k (a i) (b (j - i)); have := ha i; have := hb (j - i); omega
    · have := ht_zero k; omega
  unfold acC
  rw [Nat.succ_mul]
  omega
def hrow (k : Fg) (n : Nat) (c : Nat → k.K) : D := .hl (gen n fun j => enc k (c j))
theorem hrow_set {k : Fg} {n i : Nat} {c : Nat → k.K} {x : k.K} : D.hl ((gen n fun j => enc k (c j)).set i (enc k x)) = hrow k n fun j => if j = i then x else c j := by
  rw [gen_set]
  unfold hrow
  congr 1
  refine gen_congr fun j _ => ?_
  show (if j = i then enc k x else enc k (c j)) = enc k (if j = i then x else c j)
  split <;> rfl
def btIn : SF := (sIf (eAnd (eT (eOp oNe (eV 5) (eAtV 0 "zero"))) (eT (eOp oNe (eV 7) (eAtV 0 "zero")))) (sSt (pV 3) (eOp oAdd (eV 4) (eV 6)) (eMeth "Figures" "plus" 3 F_Figures_plus [] (eV 0) (eCons (ePl (pIx (pV 3) (eOp oAdd (eV 4) (eV 6)))) (eCons (eMeth "Figures" "times" 3 F_Figures_times [] (eV 0) (eCons (eVm 5) (eCons (eVm 7) eNil))) eNil)))) sNil)
theorem bt_in (k : Fg) (a b : Nat → k.K) (N i t A B : Nat) (x1 x2 : Option D) (h : D) (hN : N ≤ 900) (hi : i + t < N) (ha : ∀ x, ht k (a x) ≤ A) (hb : ∀ x, ht k (b x) ≤ B) (hB : 1 + (i + 1) * (A + B + 2) + A + B ≤ 8000) :
    btIn [some (fig k), x1, x2, some (hrow k N (acC a b i t)), some (.int (i : Int)), some (enc k (a i)), some (.int (t : Int)), some (enc k (b t))] h = .nx [some (fig k), x1, x2, some (hrow k N (acC a b i (t + 1))), some (.int (i : Int)), some (enc k (a i)), some (.int (t : Int)), some (enc k (b t))] h := by
  have q1 := eq_enc k (a i) 0
  have q2 := eq_enc k (b t) 0
  have skip : a i * b t = 0 → acC a b i (t + 1) = acC a b i t := fun z => by
    funext j
    rw [acC_s, z]
    split
    · grind
    · rfl
  by_cases z1 : a i = 0
  · rw [decide_eq_true z1] at q1
    rw [skip (by rw [z1]; grind)]
    unfold btIn
    push_cast [enc_vd, fig_z, q1]
  · rw [decide_eq_false z1] at q1
    by_cases z2 : b t = 0
    · rw [decide_eq_true z2] at q2
      rw [skip (by rw [z2]; grind)]
      unfold btIn
      push_cast [enc_vd, fig_z, q1, q2]
    · rw [decide_eq_false z2] at q2
      have h1 := acC_ht k a b i t (i + t) A B ha hb
      have h2 := ha i
      have h3 := hb t
      have h4 := ht_mul k (a i) (b t)
      have e1 := E_ftimes k (a i) (b t) h (by omega)
      have e2 := E_fplus k (acC a b i t (i + t)) (a i * b t) h (by omega)
      have c1 : (i : Int) + (t : Int) = ((i + t : Nat) : Int) := by omega
      have fin : hrow k N (acC a b i (t + 1)) = D.hl ((gen N fun j => enc k (acC a b i t j)).set (i + t) (enc k (acC a b i t (i + t) + a i * b t))) := by
        rw [hrow_set]
        unfold hrow
        congr 1
        refine gen_congr fun j _ => ?_
        rw [acC_s]
        by_cases e : j = i + t
        · subst e; rfl
        · show _ = enc k (if j = i + t then _ else _)
          rw [if_neg e, if_neg e]
      rw [fin]
      unfold btIn hrow
      push_cast [enc_vd, enc_vm, fig_vd, fig_z, q1, q2, c1, gen_get, enc_fr, eMeth_f, md_plus, md_times, e1, e2]
end Lw
set_option exponentiation.threshold 20000
namespace Lw
open PySem PySem.Spec L2 Fw Pd Dz
theorem atI_last {n : Nat} {f : Nat → D} : atI (gen (n + 1) f) (-1) = some (f n) := by
  unfold atI
  rw [gen_len, ixN_last, Option.bind_some, gen_get (by omega)]
theorem E_chkpoly (k : Fg) (b : Bool) (n : Nat) (c : Nat → k.K) (h : D) (hn : n + 1 ≤ 12) (h0 : c n ≠ 0) : F_check_poly [fig k, srow k b (n + 1) c] h = .ok (erow k (n + 1) c) h := by
  have e1 : F_is_sequence [srow k b (n + 1) c] h = .ok (.bl true) h := E_isseq b _ h
  have e : ∀ j h, F_Figures_is_number [fig k, enc k (c j)] h = .ok (.bl true) h := fun j h => E_isnum k (c j) h
  have q := eq_enc k (c n) 0
  rw [decide_eq_false h0] at q
  have g1 : ¬ (12 : Int) < ((n + 1 : Nat) : Int) := by omega
  have g2 : (0 : Int) < ((n + 1 : Nat) : Int) := by omega
  have lp := for_gen0 (h := h) (bind := bTp [(bNm 2), (bNm 3)]) (body := (sIf (eNot (eTru (eMeth "Figures" "is_number" 2 F_Figures_is_number [] (eV 0) (eCons (eVm 3) eNil)))) (sRaise "BadPoly" (flD2 "index" "what") (eCons (eV 2) (eCons (eC (.str "number")) eNil))) sNil)) (d := fun j => .tup [.int (j : Int), enc k (c j)]) (n := n + 1)
    (fun m => [some (fig k), some (srow k b (n + 1) c), lv none (fun j => .int (j : Int)) m, lv none (fun j => enc k (c j)) m]) fun m hm => by
      refine ⟨_, rfl, ?_⟩
      push_cast [lv_s, fig_vd, eMeth_f, md_is_number, enc_vm, e]
  simp only [lv_0] at lp
  unfold F_check_poly
  cases b
  · unfold srow sqD at *
    simp only [if_false, Bool.false_eq_true] at *
    unfold erow
    push_cast [e1, g1, lp, g2, atI_last, fig_z, q]
  · unfold srow sqD at *
    simp only [if_true] at *
    unfold erow
    push_cast [e1, g1, lp, g2, atI_last, fig_z, q]
theorem E_ledp (k : Fg) (b : Bool) (n hi : Nat) (c : Nat → k.K) (h : D) (n1 : 1 ≤ n) (hn : n ≤ hi) (hh : hi ≤ 11) (h1 : c n = 1) : F_check_led_poly [fig k, srow k b (n + 1) c, .int 1, .int hi] h = .ok (erow k (n + 1) c) h := by
  have z1 := Fd.z_ne (K := k.K)
  have e1 := E_chkpoly k b n c h (by omega) (by rw [h1]; exact fun z => z1 z.symm)
  have q := eq_enc k (c n) 1
  rw [decide_eq_true h1] at q
  have d1 : ((n + 1 : Nat) : Int) - 1 = (n : Int) := by omega
  have g1 : ¬ (n : Int) < 1 := by omega
  have g2 : ¬ (hi : Int) < (n : Int) := by omega
  have g3 : ¬ (n : Int) < 0 := by omega
  unfold F_check_led_poly
  unfold erow at e1 ⊢
  push_cast [fig_vm, srow_vm, e1, d1, g1, g2, g3, atI_last, fig_o, q]
def highN (k : Fg) : Nat := match k with
  | .q => 5
  | .m n _ => min 5 (n + 2)
theorem high_le (k : Fg) : highN k ≤ 5 := by cases k with
  | q => exact Nat.le_refl _
  | m n hn => exact Nat.min_le_left _ _
theorem E_cp_no (k : Fg) (d h : D) (hd : NotSeq d) : F_check_poly [fig k, d] h = .exc "BadPoly" [("what", .str "many"), ("index", .int 0)] h := by
  obtain ⟨fr, s1, s2⟩ := hd
  have v : ∀ h, vD (some (some d)) h = .ok d h := fun h => vD_fr fr
  have vm : ∀ h, vmD (some (some d)) h = .ok d h := fun h => vmD_fr fr
  have q := is2_of s1 s2
  have e : F_is_sequence [d] h = .ok (.bl false) h := by
    unfold F_is_sequence
    push_cast [v, ↓is2_a, q]
  unfold F_check_poly
  push_cast [vm, e, flD2]
theorem E_cp_nil (k : Fg) (h : D) : F_check_poly [fig k, .lst []] h = .ok (.tup []) h := by
  have e1 : F_is_sequence [.lst []] h = .ok (.bl true) h := E_isseq true _ h
  have en : kEnum [.lst []] = some [] := rfl
  have g1 : ¬ (12 : Int) < 0 := by omega
  have g2 : ¬ (0 : Int) < 0 := by omega
  have n0 : ((0 : Nat) : Int) = 0 := rfl
  unfold F_check_poly
  push_cast [e1, n0, g1, en, forGo, g2]
theorem E_led_exc (k : Fg) (d hi h : D) (n : Str) (fs : List (Str × D)) (fd : d.fr = true) (e : F_check_poly [fig k, d] h = .exc n fs h) : F_check_led_poly [fig k, d, .int 1, hi] h = .exc n fs h := by
  have vm : ∀ h, vmD (some (some d)) h = .ok d h := fun h => vmD_fr fd
  unfold F_check_led_poly
  push_cast [fig_vm, vm, e]
end Lw
set_option exponentiation.threshold 20000
namespace Lw
open PySem PySem.Spec L2 Fw Pd Dz
end Lw
set_option exponentiation.threshold 20000
namespace Lw
open PySem PySem.Spec L2 Fw Pd Dz
def colT {k : Fg} (n : Nat) (c : Nat → k.K) : Nat → Nat → k.K := fun i j => if j = n - 1 then 0 - c i else del i (j + 1)
theorem E_columnL (k : Fg) (n : Nat) (c : Nat → k.K) (h : D) (n1 : 1 ≤ n) (hn : n ≤ 800) (hs : ∀ j, ht k (c j) ≤ 3999) : F__law_column [.int k.p, .lst (gen (n + 1) fun j => enc k (c j))] h = .ok (ltab k n n (colT n c)) h := by
  have e0 := E_blank k n n h (by omega) (by omega)
  have o1 : ∀ h, F__law_num [.int k.p, .int 1] h = .ok (enc k 1) h := fun h => E_num1 k h
  have z1 : ∀ h, F__law_num [.int k.p, .int 0] h = .ok (enc k 0) h := fun h => E_num0 k h
  have d1 : ((n + 1 : Nat) : Int) - 1 = (n : Int) := by omega
  have d2 : (n : Int) - 1 = ((n - 1 : Nat) : Int) := by omega
  have l1 := for_gen0 (h := h) (bind := bNm 4) (body := (sSt (pIx (pV 3) (eOp oAdd (eV 4) (eC (.int 1)))) (eV 4) (eCall 2 F__law_num [] (eCons (eVm 0) (eCons (eC (.int 1)) eNil))))) (d := fun j => .int (j : Int)) (n := n - 1)
    (fun m => [some (.int k.p), some (.lst (gen (n + 1) fun j => enc k (c j))), some (.int n), some (htab k n n fun a b => if b < m ∧ a = b + 1 then 1 else 0), lv none (fun j => .int (j : Int)) m]) fun m hm => by
      have c1 : (m : Int) + 1 = ((m + 1 : Nat) : Int) := by omega
      have eA : (upd2 (fun a b => if b < m ∧ a = b + 1 then (1 : k.K) else 0) (m + 1) m 1) = fun a b => if b < m + 1 ∧ a = b + 1 then 1 else 0 := by
        funext a b
        unfold upd2
        by_cases z : a = m + 1 ∧ b = m
        · obtain ⟨rfl, rfl⟩ := z
          rw [if_pos ⟨rfl, rfl⟩, if_pos ⟨by omega, rfl⟩]
        · rw [if_neg z]
          show (if b < m ∧ a = b + 1 then (1 : k.K) else 0) = _
          by_cases y : b < m ∧ a = b + 1
          · rw [if_pos y, if_pos ⟨by omega, y.2⟩]
          · rw [if_neg y, if_neg fun v => (by
              have h1 := v.1
              have h2 := v.2
              by_cases h3 : b < m
              · exact y ⟨h3, h2⟩
              · exact z ⟨by omega, by omega⟩ : False)]
      have st := htab_set (k := k) (r := n) (c := n) (A := fun a b => if b < m ∧ a = b + 1 then (1 : k.K) else 0) (i := m + 1) (j := m) (x := 1)
      rw [eA] at st
      refine ⟨_, rfl, ?_⟩
      rw [← st]
      unfold htab
      push_cast [lv_s, o1, c1, gen_get, enc_fr]
  have l2 := for_gen0 (h := h) (bind := bNm 4) (body := (sSt (pIx (pV 3) (eV 4)) (eOp oSub (eV 2) (eC (.int 1))) (eCall 3 F__law_less [] (eCons (eVm 0) (eCons (eCall 2 F__law_num [] (eCons (eVm 0) (eCons (eC (.int 0)) eNil))) (eCons (eOp oIx (eV 1) (eV 4)) eNil)))))) (d := fun j => .int (j : Int)) (n := n)
    (fun m => [some (.int k.p), some (.lst (gen (n + 1) fun j => enc k (c j))), some (.int n), some (htab k n n fun a b => if a < m ∧ b = n - 1 then 0 - c a else if b < n - 1 ∧ a = b + 1 then 1 else 0), lv (lv none (fun j => .int (j : Int)) (n - 1)) (fun j => .int (j : Int)) m]) fun m hm => by
      have el := E_less k 0 (c m) h (by have := ht_zero k; have := hs m; omega)
      have eA : (upd2 (fun a b => if a < m ∧ b = n - 1 then 0 - c a else if b < n - 1 ∧ a = b + 1 then (1 : k.K) else 0) m (n - 1) (0 - c m)) = fun a b => if a < m + 1 ∧ b = n - 1 then 0 - c a else if b < n - 1 ∧ a = b + 1 then 1 else 0 := by
        funext a b
        unfold upd2
        by_cases z : a = m ∧ b = n - 1
        · obtain ⟨rfl, rfl⟩ := z
          rw [if_pos ⟨rfl, rfl⟩, if_pos ⟨by omega, rfl⟩]
        · rw [if_neg z]
          show (if a < m ∧ b = n - 1 then 0 - c a else if b < n - 1 ∧ a = b + 1 then (1 : k.K) else 0) = _
          by_cases y : a < m ∧ b = n - 1
          · rw [if_pos y, if_pos ⟨by omega, y.2⟩]
          · rw [if_neg y, if_neg fun v : a < m + 1 ∧ b = n - 1 => (by
              have h1 := v.1
              have h2 := v.2
              by_cases h3 : a < m
              · exact y ⟨h3, h2⟩
              · exact z ⟨by omega, h2⟩ : False)]
      have st := htab_set (k := k) (r := n) (c := n) (A := fun a b => if a < m ∧ b = n - 1 then 0 - c a else if b < n - 1 ∧ a = b + 1 then (1 : k.K) else 0) (i := m) (j := n - 1) (x := 0 - c m)
      rw [eA] at st
      refine ⟨_, rfl, ?_⟩
      rw [← st]
      unfold htab
      push_cast [lv_s, z1, enc_vd, el, d2, gen_get, enc_fr]
  have s0 : (htab k n n fun a b => if b < 0 ∧ a = b + 1 then (1 : k.K) else 0) = htab k n n fun _ _ => 0 := htab_congr fun i j _ _ => by rw [if_neg fun z => Nat.not_lt_zero _ z.1]
  have s1 : (htab k n n fun a b => if a < 0 ∧ b = n - 1 then 0 - c a else if b < n - 1 ∧ a = b + 1 then (1 : k.K) else 0) = htab k n n fun a b => if b < n - 1 ∧ a = b + 1 then 1 else 0 := htab_congr fun i j _ _ => by rw [if_neg fun z => Nat.not_lt_zero _ z.1]
  have s2 : (htab k n n fun a b => if a < n ∧ b = n - 1 then 0 - c a else if b < n - 1 ∧ a = b + 1 then (1 : k.K) else 0) = htab k n n (colT n c) := htab_congr fun i j hi hj => by
    unfold colT
    by_cases z : j = n - 1
    · rw [if_pos ⟨hi, z⟩, if_pos z]
    · rw [if_neg fun y => z y.2, if_neg z]
      unfold del
      by_cases y : i = j + 1
      · rw [if_pos ⟨by omega, y⟩, if_pos y]
      · rw [if_neg fun v => y v.2, if_neg y]
  simp only [lv_0] at l1 l2
  rw [s0] at l1
  rw [s1, s2] at l2
  unfold F__law_column
  unfold htab at e0 l1 l2
  unfold ltab
  push_cast [d1, e0, d2, l1, l2, frzL_h]
end Lw
set_option exponentiation.threshold 20000
namespace Lw
open PySem PySem.Spec L2 Fw Pd Dz
end Lw
set_option exponentiation.threshold 20000
namespace Lw
open PySem PySem.Spec L2 Fw Pd Dz
end Lw
set_option exponentiation.threshold 20000
namespace Lw
open PySem PySem.Spec L2 Fw Pd Dz
end Lw
set_option exponentiation.threshold 20000
namespace Lw
open PySem PySem.Spec L2 Fw Pd Dz
def t3 (u : Int) : Nat → Rat := fun j => if j = 0 then ic .q u else if j = 3 then ic .q 1 else ic .q 0
def t2 (u v : Int) : Nat → Rat := fun j => if j = 0 then ic .q u else if j = 1 then ic .q v else if j = 2 then ic .q 1 else ic .q 0
end Lw
set_option exponentiation.threshold 20000
namespace Lw
open PySem PySem.Spec L2 Fw Pd Dz
end Lw
set_option exponentiation.threshold 20000
namespace Lw
open PySem PySem.Spec L2 Fw Pd Dz
end Lw
set_option exponentiation.threshold 20000
namespace Lw
open PySem PySem.Spec L2 Fw Pd Dz
/-- what is no lot of n points -/
def PW (k : Fg) (n : Nat) (w : D) : Prop := w.fr = true ∧ (w = .int 5 ∨ w = .str "last" ∨ ∃ b ds, w = sqD b ds) ∧ ∀ h, F_check_points [fig k, w, .int n, .bl false] h = .exc "BadPoints" [("index", .int (0 : Nat))] h
end Lw
set_option exponentiation.threshold 20000
namespace Lw
open PySem PySem.Spec L2 Fw Pd Dz
end Lw
set_option exponentiation.threshold 20000
namespace Lw
open PySem PySem.Spec L2 Fw Pd Dz
section
variable {K : Type} [Fd K]
def cv (a b : Nat → K) (j : Nat) : K := Sm (j + 1) fun x => a x * b (j - x)
def Ze (n : Nat) (a : Nat → K) : Prop := ∀ j, n ≤ j → a j = 0
theorem Ze.mono {n m : Nat} {a : Nat → K} (h : Ze n a) (k : n ≤ m) : Ze m a := fun j hj => h j (by omega)
theorem Sm_rev {f : Nat → K} : ∀ {n : Nat}, Sm n f = Sm n fun i => f (n - 1 - i)
  | 0 => rfl
  | n + 1 => by
    rw [Sm_shift (f := fun i => f (n + 1 - 1 - i))]
    show Sm n f + f n = f (n + 1 - 1 - 0) + _
    rw [Sm_rev (n := n), Sm_congr (n := n) (f := fun i => f (n + 1 - 1 - (i + 1))) (g := fun i => f (n - 1 - i)) fun i hi => by
      show f (n + 1 - 1 - (i + 1)) = f (n - 1 - i)
      rw [show n + 1 - 1 - (i + 1) = n - 1 - i by omega]]
    show _ = f (n + 1 - 1 - 0) + _
    rw [show n + 1 - 1 - 0 = n by omega]
    grind
theorem cv_comm {a b : Nat → K} : cv a b = cv b a := by
  funext j
  unfold cv
  rw [Sm_rev]
  exact Sm_congr fun i hi => by
    rw [show j + 1 - 1 - i = j - i by omega, show j - (j - i) = i by omega]; grind
theorem cv_addl {a b c : Nat → K} : cv (fun j => a j + b j) c = fun j => cv a c j + cv b c j := by
  funext j
  unfold cv
  rw [← Sm_add]
  exact Sm_congr fun i hi => by grind
theorem Sm_tri {F : Nat → Nat → K} : ∀ {n : Nat}, (Sm n fun x => Sm (x + 1) fun y => F y (x - y)) = Sm n fun y => Sm (n - y) fun z => F y z
  | 0 => rfl
  | n + 1 => by
    show (Sm n fun x => Sm (x + 1) fun y => F y (x - y)) + (Sm (n + 1) fun y => F y (n - y)) = (Sm n fun y => Sm (n + 1 - y) fun z => F y z) + Sm (n + 1 - n) (fun z => F n z)
    rw [Sm_tri, show n + 1 - n = 0 + 1 by omega]
    rw [Sm_congr (n := n) (f := fun y => Sm (n + 1 - y) fun z => F y z) (g := fun y => (Sm (n - y) fun z => F y z) + F y (n - y)) fun i hi => by
      show Sm (n + 1 - i) (fun z => F i z) = _
      rw [show n + 1 - i = (n - i) + 1 by omega]
      rfl]
    rw [Sm_add]
    show _ + (Sm n (fun y => F y (n - y)) + F n (n - n)) = _ + _ + ((0 : K) + F n 0)
    rw [Nat.sub_self]
    grind
theorem cv_assoc {a b c : Nat → K} : cv (cv a b) c = cv a (cv b c) := by
  funext j
  have h1 : cv (cv a b) c j = Sm (j + 1) fun x => Sm (x + 1) fun y => (fun y z => a y * b z * c (j - y - z)) y (x - y) := by
    unfold cv
    refine Sm_congr fun x hx => ?_
    rw [← Sm_mulr]
    refine Sm_congr fun y hy => ?_
    show _ = a y * b (x - y) * c (j - y - (x - y))
    rw [show j - y - (x - y) = j - x by omega]
  rw [h1, Sm_tri (F := fun y z => a y * b z * c (j - y - z))]
  unfold cv
  refine Sm_congr fun y hy => ?_
  rw [← Sm_mul, show j + 1 - y = j - y + 1 by omega]
  exact Sm_congr fun z hz => by grind
theorem cv_Ze {a b : Nat → K} {n m : Nat} (ha : Ze n a) (hb : Ze m b) : Ze (n + m - 1) (cv a b) := fun j hj => Sm_zero fun x hx => by
  by_cases h : n ≤ x
  · rw [ha x h]; grind
  · rw [hb (j - x) (by omega)]; grind
theorem cv_z {a : Nat → K} : cv a (fun _ => 0) = fun _ => 0 := by
  funext j
  exact Sm_zero fun x hx => by grind
def u1 (j : Nat) : K := if j = 0 then 1 else 0
/-- length n, no less -/
def Le (n : Nat) (a : Nat → K) : Prop := Ze n a ∧ (n = 0 ∨ a (n - 1) ≠ 0)
/-- goes into -/
def Dv (b a : Nat → K) : Prop := ∃ q n, Ze n q ∧ a = cv q b
theorem Dv.zero {b : Nat → K} : Dv b fun _ => 0 := ⟨fun _ => 0, 0, fun _ _ => rfl, by rw [cv_comm, cv_z]⟩
theorem Dv.trans {a b c : Nat → K} (h : Dv a b) (k : Dv b c) : Dv a c := by
  obtain ⟨q, n, hq, rfl⟩ := h
  obtain ⟨p, m, hp, rfl⟩ := k
  exact ⟨cv p q, m + n - 1, cv_Ze hp hq, by rw [cv_assoc]⟩
theorem Dv.add {a b c : Nat → K} (h : Dv a b) (k : Dv a c) : Dv a fun j => b j + c j := by
  obtain ⟨q, n, hq, rfl⟩ := h
  obtain ⟨p, m, hp, rfl⟩ := k
  exact ⟨fun j => q j + p j, max n m, fun j hj => by show q j + p j = 0; rw [hq j (by omega), hp j (by omega)]; grind, by rw [cv_addl]⟩
theorem Dv.mul {a b : Nat → K} {u : Nat → K} {n : Nat} (hu : Ze n u) (h : Dv a b) : Dv a (cv u b) := h.trans ⟨u, n, hu, rfl⟩
/-- a common divisor that is a combination: the greatest -/
def Gc (g a b : Nat → K) : Prop := Dv g a ∧ Dv g b ∧ ∃ u v n, Ze n u ∧ Ze n v ∧ g = fun j => cv u a j + cv v b j
theorem Gc.dv {f g a b : Nat → K} (h : Gc g a b) (ha : Dv f a) (hb : Dv f b) : Dv f g := by
  obtain ⟨_, _, u, v, n, hu, hv, rfl⟩ := h
  exact (ha.mul hu).add (hb.mul hv)
def Mo (g : Nat → K) : Prop := ∃ n, Le n g ∧ (n = 0 ∨ g (n - 1) = 1)
end
end Lw
set_option exponentiation.threshold 20000
namespace Lw
open PySem PySem.Spec L2 Fw Pd Dz
theorem eRv_a (f : EF D) (δ : DE) (h : D) : eRv f δ h = ((f δ h).bind fun d h1 => Ex.of (rvD d) h1) := (rfl)
theorem gen_rev {α : Type} {n : Nat} {f : Nat → α} : (gen n f).reverse = gen n fun i => f (n - 1 - i) := gen_ext (by rw [List.length_reverse, gen_len]) fun i h => by
  rw [List.getElem?_reverse (by rw [gen_len]; exact h), gen_len]
  exact gen_get (by omega)
theorem rvD_t {n : Nat} {f : Nat → D} : rvD (.tup (gen n f)) = some (.tup (gen n fun i => f (n - 1 - i))) := by
  show some (D.tup (gen n f).reverse) = _
  rw [gen_rev]
theorem rvD_l {n : Nat} {f : Nat → D} : rvD (.lst (gen n f)) = some (.hl (gen n fun i => f (n - 1 - i))) := by
  show some (D.hl (gen n f).reverse) = _
  rw [gen_rev]
end Lw
set_option exponentiation.threshold 20000
namespace Lw
open PySem PySem.Spec L2 Fw Pd Dz
end Lw
set_option exponentiation.threshold 20000
namespace Lw
open PySem PySem.Spec L2 Fw Pd Dz
end Lw
set_option exponentiation.threshold 20000
namespace Lw
open PySem PySem.Spec L2 Fw Pd Dz
end Lw
set_option exponentiation.threshold 20000
namespace Lw
open PySem PySem.Spec L2 Fw Pd Dz
end Lw
set_option exponentiation.threshold 20000
namespace Lw
open PySem PySem.Spec L2 Fw Pd Dz
end Lw
set_option exponentiation.threshold 20000
namespace Lw
open PySem PySem.Spec L2 Fw Pd Dz
end Lw
set_option exponentiation.threshold 20000
namespace Lw
open PySem PySem.Spec L2 Fw Pd Dz
end Lw
set_option exponentiation.threshold 20000
namespace Lw
open PySem PySem.Spec L2 Fw Pd Dz
end Lw
set_option exponentiation.threshold 20000
namespace Lw
open PySem PySem.Spec L2 Fw Pd Dz
end Lw
set_option exponentiation.threshold 20000
namespace Lw
open PySem PySem.Spec L2 Fw Pd Dz
end Lw
set_option exponentiation.threshold 20000
namespace Lw
open PySem PySem.Spec L2 Fw Pd Dz
def pairX (k : Fg) (r c : Nat) (A B : Nat → Nat → k.K) : List (Str × D) := [("figures", fig k), ("first", etab k r c A), ("second", etab k r c B), ("rows", .int (r : Int)), ("columns", .int (c : Int))]
def pairD (k : Fg) (r c : Nat) (A B : Nat → Nat → k.K) : D := .ins "Pair" (pairX k r c A B)
end Lw
set_option exponentiation.threshold 20000
namespace Lw
open PySem PySem.Spec L2 Fw Pd Dz
/-- sides: true is y -/
def sideS (w : Bool) : Str := if w then "y" else "x"
def rl (w : Bool) (r c : Nat) : Nat := if w then r else c
theorem str_yx : eqD (.str "y") (.str "x") = some false := by decide +kernel
theorem str_xy : eqD (.str "x") (.str "y") = some false := by decide +kernel
theorem str_yy : eqD (.str "y") (.str "y") = some true := by decide +kernel
theorem str_xx : eqD (.str "x") (.str "x") = some true := by decide +kernel
theorem E_by (w : Bool) (h : D) : F_check_by [.str (sideS w)] h = .ok .non h := by
  unfold F_check_by sideS
  cases w
  · push_cast [Bool.false_eq_true, str_xx, str_xy]
  · push_cast [str_yx, str_yy]
end Lw
set_option exponentiation.threshold 20000
namespace Lw
open PySem PySem.Spec L2 Fw Pd Dz
/-- small numbers -/
def Tw (k : Fg) (n : Nat) (x : Nat → k.K) : Prop := ∀ j, j < n → ht k (x j) ≤ 2
structure SmT {k : Fg} (r c : Nat) (P : Pr4 k) : Prop where
  u : ∀ i, i < r → ht k (P.u i) ≤ 2
  v : ∀ j, j < c → ht k (P.v j) ≤ 2
  a : ht k P.a ≤ 2
  b : ht k P.b ≤ 2
theorem Tw.lk {k : Fg} {n : Nat} {x : Nat → k.K} (h : Tw k n x) (hn : n ≤ 30) : Lk k n x := Lk_of 2 (by omega) h (by omega)
end Lw
set_option exponentiation.threshold 20000
namespace Lw
open PySem PySem.Spec L2 Fw Pd Dz
/-- both tables, tapped -/
def tpT {k : Fg} (A B : Nat → Nat → k.K) (z : Nat → k.K) (i j : Nat) : k.K := z 0 * A i j + z 1 * B i j
/-- the table's results by a side -/
def trn {k : Fg} (w : Bool) (r c : Nat) (T : Nat → Nat → k.K) (x : Nat → k.K) (j : Nat) : k.K := if w then Sm r fun i => T i j * x i else Sm c fun i => T j i * x i
theorem E_tscaled (k : Fg) (r c : Nat) (a : k.K) (A : Nat → Nat → k.K) (h : D) (hr : r ≤ 900) (hc : c ≤ 900) (hs : ∀ i j, i < r → j < c → ht k a + ht k (A i j) ≤ 8000) : F_table_scaled [fig k, enc k a, etab k r c A] h = .ok (etab k r c fun i j => a * A i j) h := by
  have e : ∀ i, i < r → ∀ h, F_row_scaled [fig k, enc k a, erow k c (A i)] h = .ok (erow k c fun j => a * A i j) h := fun i hi h => E_scaled k c a (A i) h (by omega) fun j hj => hs i j hi hj
  have fz : frzL (gen r fun i => erow k c fun j => a * A i j) = gen r fun i => erow k c fun j => a * A i j := frzL_gen fun i => erow_fr
  unfold F_table_scaled etab
  push_cast [fig_vm, enc_vm, erow_vm, e, fz]
theorem E_tplus (k : Fg) (r c : Nat) (A B : Nat → Nat → k.K) (h : D) (hr : r ≤ 900) (hc : c ≤ 900) (hs : ∀ i j, i < r → j < c → ht k (A i j) + ht k (B i j) ≤ 8000) : F_table_plus [fig k, etab k r c A, etab k r c B] h = .ok (etab k r c fun i j => A i j + B i j) h := by
  have e : ∀ i, i < r → ∀ h, F_row_sum [fig k, erow k c (A i), erow k c (B i)] h = .ok (erow k c fun j => A i j + B i j) h := fun i hi h => E_rowsum k c (A i) (B i) h (by omega) fun j hj => hs i j hi hj
  have fz : frzL (gen r fun i => erow k c fun j => A i j + B i j) = gen r fun i => erow k c fun j => A i j + B i j := frzL_gen fun i => erow_fr
  unfold F_table_plus etab
  push_cast [fig_vm, erow_vm, e, fz]
section
variable {k : Fg} {r c : Nat} {A B : Nat → Nat → k.K} {h : D}
theorem pai_vd : vD (some (some (pairD k r c A B))) h = .ok (pairD k r c A B) h := (rfl)
theorem pai_vm : vmD (some (some (pairD k r c A B))) h = .ok (pairD k r c A B) h := (rfl)
theorem pai_f : atvD (some (some (pairD k r c A B))) "figures" h = .ok (fig k) h := (rfl)
theorem pai_1 : atvD (some (some (pairD k r c A B))) "first" h = .ok (etab k r c A) h := (rfl)
theorem pai_2 : atvD (some (some (pairD k r c A B))) "second" h = .ok (etab k r c B) h := (rfl)
theorem pai_r : atvD (some (some (pairD k r c A B))) "rows" h = .ok (.int (r : Int)) h := (rfl)
theorem pai_c : atvD (some (some (pairD k r c A B))) "columns" h = .ok (.int (c : Int)) h := (rfl)
end
theorem tp_ht {k : Fg} {r c : Nat} {A B : Nat → Nat → k.K} {z : Nat → k.K} (hA : ∀ i j, i < r → j < c → ht k (A i j) ≤ 200) (hB : ∀ i j, i < r → j < c → ht k (B i j) ≤ 200) (hz : Tw k 2 z) {i j : Nat} (hi : i < r) (hj : j < c) : ht k (z 0 * A i j) ≤ 202 ∧ ht k (z 1 * B i j) ≤ 202 ∧ ht k (tpT A B z i j) ≤ 405 := by
  have h1 := ht_mul k (z 0) (A i j)
  have h2 := ht_mul k (z 1) (B i j)
  have h3 := ht_add k (z 0 * A i j) (z 1 * B i j)
  have := hA i j hi hj
  have := hB i j hi hj
  have := hz 0 (by omega)
  have := hz 1 (by omega)
  unfold tpT
  omega
theorem E_plain (k : Fg) (w b1 b2 : Bool) (r c : Nat) (A B : Nat → Nat → k.K) (z x : Nat → k.K) (h : D) (r1 : 1 ≤ r) (hr : r ≤ 5) (hc : c ≤ 5) (hA : ∀ i j, i < r → j < c → ht k (A i j) ≤ 200) (hB : ∀ i j, i < r → j < c → ht k (B i j) ≤ 200) (hz : Tw k 2 z) (hx : Tw k (rl w r c) x) :
    F_about_plain [pairD k r c A B, .str (sideS w), srow k b1 2 z, srow k b2 (rl w r c) x] h = .ok (erow k (rl (!w) r c) (trn w r c (tpT A B z) x)) h := by
  have e0 := E_by w h
  have e1 : F_check_letters [fig k, srow k b1 2 z, .int 2, .str "taps"] h = .ok (erow k 2 z) h := E_letters k b1 2 z "taps" h (by omega)
  have e2 := E_letters k b2 (rl w r c) x "letters" h (by unfold rl; split <;> omega)
  have t1 := E_tscaled k r c (z 0) A h (by omega) (by omega) fun i j hi hj => by have := hA i j hi hj; have := hz 0 (by omega); omega
  have t2 := E_tscaled k r c (z 1) B h (by omega) (by omega) fun i j hi hj => by have := hB i j hi hj; have := hz 1 (by omega); omega
  have t3 := E_tplus k r c (fun i j => z 0 * A i j) (fun i j => z 1 * B i j) h (by omega) (by omega) fun i j hi hj => by
    obtain ⟨h1, h2, _⟩ := tp_ht hA hB hz hi hj
    show ht k (z 0 * A i j) + ht k (z 1 * B i j) ≤ 8000
    omega
  have et : (fun i j => z 0 * A i j + z 1 * B i j) = tpT A B z := rfl
  rw [et] at t3
  have lT : ∀ n, n ≤ 5 → ∀ y : Nat → k.K, (∀ j, j < n → ht k (y j) ≤ 405) → Lk k n y := fun n hn y hy => Lk_of 405 (by omega) hy (by have := Nat.mul_le_mul_right 405 hn; omega)
  have z0 : oIx (erow k 2 z) (.int 0) = some (enc k (z 0)) := rfl
  have z1 : oIx (erow k 2 z) (.int 1) = some (enc k (z 1)) := rfl
  cases w
  · have e0 : F_check_by [.str "x"] h = .ok .non h := e0
    have e2 : F_check_letters [fig k, srow k b2 c x, .int (c : Int), .str "letters"] h = .ok (erow k c x) h := e2
    have hx : Tw k c x := hx
    have l1 := E_led k r c (tpT A B z) x h (by omega) (fun i hi => lT c hc _ fun j hj => (tp_ht hA hB hz hi hj).2.2) (Tw.lk hx (by omega))
    show F_about_plain [pairD k r c A B, .str "x", srow k b1 2 z, srow k b2 c x] h = .ok (erow k r fun j => Sm c fun i => tpT A B z j i * x i) h
    unfold F_about_plain
    push_cast [pai_vm, pai_vd, pai_f, pai_1, pai_2, pai_r, pai_c, e0, fig_vm, srow_vm, e1, str_xy, e2, erow_vd, erow_vm, z0, z1, t1, t2, t3, etab_vd, etab_vm, l1]
  · have e0 : F_check_by [.str "y"] h = .ok .non h := e0
    have e2 : F_check_letters [fig k, srow k b2 r x, .int (r : Int), .str "letters"] h = .ok (erow k r x) h := e2
    have hx : Tw k r x := hx
    have fl : F_flipped_table [etab k r c (tpT A B z)] h = .ok (etab k c r fun i j => tpT A B z j i) h := E_flipped k false r c (tpT A B z) h r1 (by omega) (by omega)
    have l1 := E_led k c r (fun i j => tpT A B z j i) x h (by omega) (fun i hi => lT r hr _ fun j hj => (tp_ht hA hB hz hj hi).2.2) (Tw.lk hx (by omega))
    show F_about_plain [pairD k r c A B, .str "y", srow k b1 2 z, srow k b2 r x] h = .ok (erow k c fun j => Sm r fun i => tpT A B z i j * x i) h
    unfold F_about_plain
    push_cast [pai_vm, pai_vd, pai_f, pai_1, pai_2, pai_r, pai_c, e0, fig_vm, srow_vm, e1, str_yy, e2, erow_vd, erow_vm, z0, z1, t1, t2, t3, etab_vd, etab_vm, fl, l1]
end Lw
set_option exponentiation.threshold 20000
namespace Lw
open PySem PySem.Spec L2 Fw Pd Dz
end Lw
set_option exponentiation.threshold 20000
namespace Lw
open PySem PySem.Spec L2 Fw Pd Dz
end Lw
set_option exponentiation.threshold 20000
namespace Lw
open PySem PySem.Spec L2 Fw Pd Dz
def Exi : Nat → D → Prop
  | 0, _ => False
  | n + 1, d => (∃ i, d = .int i) ∨ ∃ ds, d = .tup ds ∧ ds.length ≤ 900 ∧ ∀ x ∈ ds, Exi n x
theorem Exi.up : ∀ {n : Nat} {d : D}, Exi n d → Exi (n + 1) d
  | 0, _, e => e.elim
  | n + 1, _, .inl e => .inl e
  | n + 1, _, .inr ⟨ds, e, l, k⟩ => .inr ⟨ds, e, l, fun x hx => (k x hx).up⟩
end Lw
set_option exponentiation.threshold 20000
namespace Lw
open PySem PySem.Spec L2 Fw Pd Dz
def askH (k : Fg) (n : Nat) (z x : Nat → k.K) : D := .hl [srow k true 2 z, srow k true n x]
/-- m couples stand -/
def AskI (k : Fg) (n m : Nat) (d : D) : Prop := ∃ Z X : Nat → Nat → k.K, d = .hl (gen m fun i => askH k n (Z i) (X i)) ∧ (∀ i, i < m → Tw k 2 (Z i) ∧ Tw k n (X i))
theorem AskI.next {k : Fg} {n m : Nat} {ds : List D} {z x : Nat → k.K} (h : AskI k n m (.hl ds)) (hz : Tw k 2 z) (hx : Tw k n x) : AskI k n (m + 1) (.hl (ds ++ [askH k n z x])) := by
  obtain ⟨Z, X, e, a⟩ := h
  cases e
  refine ⟨fun i => if i < m then Z i else z, fun i => if i < m then X i else x, ?_, fun i hi => ?_⟩
  · congr 1
    rw [gen_last]
    congr 1
    · exact gen_congr fun i hi => by
        show _ = askH k n (if i < m then Z i else z) (if i < m then X i else x)
        rw [if_pos hi, if_pos hi]
    · show [askH k n z x] = [askH k n (if m < m then Z m else z) (if m < m then X m else x)]
      rw [if_neg (by omega), if_neg (by omega)]
  · by_cases c : i < m
    · show Tw k 2 (if i < m then Z i else z) ∧ Tw k n (if i < m then X i else x)
      rw [if_pos c, if_pos c]
      exact a i c
    · show Tw k 2 (if i < m then Z i else z) ∧ Tw k n (if i < m then X i else x)
      rw [if_neg c, if_neg c]
      exact ⟨hz, hx⟩
theorem AskI.hl {k : Fg} {n m : Nat} {d : D} (h : AskI k n m d) : ∃ ds, d = .hl ds ∧ ds.length = m := by
  obtain ⟨Z, X, e, _⟩ := h
  exact ⟨_, e, gen_len _ _⟩
end Lw
set_option exponentiation.threshold 20000
namespace Lw
open PySem PySem.Spec L2 Fw Pd Dz
end Lw
set_option exponentiation.threshold 20000
namespace Lw
open PySem PySem.Spec L2 Fw Pd Dz
end Lw
set_option exponentiation.threshold 20000
namespace Lw
open PySem PySem.Spec L2 Fw Pd Dz
end Lw
set_option exponentiation.threshold 20000
namespace Lw
open PySem PySem.Spec L2 Fw Pd Dz
/-- a loop that lets an error out at turn p -/
theorem for_genX {bind : D → DE → Option DE} {body : SF} {d : Nat → D} {h : D} {nm : Str} {fs : List (Str × D)} {δ3 δ2 : DE} (S : Nat → DE) {p : Nat} (e1 : bind (d p) (S p) = some δ2) (e2 : body δ2 h = .exc nm fs δ3 h) : ∀ (j s n : Nat), s + j = p → j < n → (∀ i, s ≤ i → i < p → ∃ δ2, bind (d i) (S i) = some δ2 ∧ body δ2 h = .nx (S (i + 1)) h) → forGo bind body (gen n fun i => d (s + i)) (S s) h = .exc nm fs δ3 h
  | 0, s, n, hp, hn, k => by
    obtain ⟨n, rfl⟩ : ∃ n', n = n' + 1 := ⟨n - 1, by omega⟩
    have : s = p := by omega
    subst this
    rw [gen_succ, forGo, Nat.add_zero, e1]
    simp only [e2]
  | j + 1, s, n, hp, hn, k => by
    obtain ⟨n, rfl⟩ : ∃ n', n = n' + 1 := ⟨n - 1, by omega⟩
    obtain ⟨δ4, f1, f2⟩ := k s (Nat.le_refl _) (by omega)
    have ih := for_genX S e1 e2 j (s + 1) n (by omega) (by omega) fun i h1 h2 => k i (by omega) h2
    have eg : (gen n fun i => d (s + (i + 1))) = gen n fun i => d (s + 1 + i) := gen_congr fun i _ => by rw [show s + (i + 1) = s + 1 + i by omega]
    rw [gen_succ, forGo, Nat.add_zero, f1]
    simp only [f2]
    rw [eg, ih]
theorem for_genX0 {bind : D → DE → Option DE} {body : SF} {d : Nat → D} {h : D} {nm : Str} {fs : List (Str × D)} {δ3 δ2 : DE} (S : Nat → DE) {p n : Nat} (hp : p < n) (e1 : bind (d p) (S p) = some δ2) (e2 : body δ2 h = .exc nm fs δ3 h) (k : ∀ i, i < p → ∃ δ2, bind (d i) (S i) = some δ2 ∧ body δ2 h = .nx (S (i + 1)) h) : forGo bind body (gen n d) (S 0) h = .exc nm fs δ3 h := by
  have := for_genX S e1 e2 p 0 n (by omega) hp fun i _ h2 => k i h2
  rw [← this]
  congr 1
  exact gen_congr fun i _ => by rw [Nat.zero_add]
def badD (k : Fg) : D := .int (if 0 < k.p then k.p else 1)
theorem E_badnum (k : Fg) (h : D) : F_Figures_is_number [fig k, badD k] h = .ok (.bl false) h := by
  cases k with
  | q =>
    refine num_q _ h false rfl fun h => ?_
    show F_is_ratio [.int 1] h = _
    unfold F_is_ratio
    push_cast [isa_ni, isa_nb, isa_ns, isa_nt, isa_nl, isa_bi, isa_bb, isa_bs, isa_bt, isa_bl, isa_ii, isa_ib, isa_is, isa_it, isa_il, isa_si, isa_sb, isa_ss, isa_st, isa_sl, isa_ti, isa_tb, isa_ts, isa_tt, isa_tl, isa_li, isa_lb, isa_ls, isa_lt, isa_ll]
  | m n hn =>
    refine num_m _ h false rfl fun h => ?_
    have p0 : 0 < (Fg.m n hn).p := by rw [pm]; omega
    have b : badD (.m n hn) = .int (Fg.m n hn).p := by
      unfold badD
      rw [if_pos p0]
    rw [b]
    have e := wh_ii (Fg.m n hn).p 0 ((Fg.m n hn).p - 1) h
    have c : ¬ (Fg.m n hn).p ≤ (Fg.m n hn).p - 1 := by omega
    rw [decide_eq_false c, Bool.and_false] at e
    exact e
/-- a spoilt row, and where -/
def Spt (k : Fg) (n : Nat) (d : D) (a : Nat) : Prop := (d = .non ∧ a = 0) ∨ (∃ x : Nat → k.K, d = srow k true (n + 1) x ∧ a = n) ∨ (∃ x : Nat → k.K, d = srow k true (n - 1) x ∧ a = n - 1) ∨ ∃ (x : Nat → k.K) (p : Nat), p < n ∧ d = .lst (gen n fun j => if j = p then badD k else enc k (x j)) ∧ a = p
theorem Spt.fr {k : Fg} {n : Nat} {d : D} {a : Nat} (h : Spt k n d a) : d.fr = true := by
  rcases h with ⟨rfl, _⟩ | ⟨x, rfl, _⟩ | ⟨x, rfl, _⟩ | ⟨x, p, _, rfl, _⟩ <;> rfl
end Lw
set_option exponentiation.threshold 20000
namespace Lw
open PySem PySem.Spec L2 Fw Pd Dz
theorem hd_hit0 {ms : Str → Option Bool} {u : SF} {r : List Cz} {n : Str} {fs : List (Str × D)} {δ : DE} {h : D} (e : ms n = some true) : hdGo (⟨ms, none, u⟩ :: r) n fs δ h = dropFl none (u δ h) := by
  unfold hdGo
  simp only [e]
  rfl
end Lw
set_option exponentiation.threshold 20000
namespace Lw
open PySem PySem.Spec L2 Fw Pd Dz
end Lw
set_option exponentiation.threshold 20000
namespace Lw
open PySem PySem.Spec L2 Fw Pd Dz
end Lw
set_option exponentiation.threshold 20000
namespace Lw
open PySem PySem.Spec L2 Fw Pd Dz
theorem min2_i (a b : Int) : Fw.kMin2 [.int a, .int b] = some (.int (if b < a then b else a)) := rfl
/-- m products drawn -/
def PrI (k : Fg) (r c m : Nat) (d : D) : Prop := ∃ P : Nat → Pr4 k, d = .hl (gen m fun i => (P i).d r c) ∧ ∀ t, t < m → SmT r c (P t)
theorem PrI.next {k : Fg} {r c m : Nat} {ds : List D} {Q : Pr4 k} (h : PrI k r c m (.hl ds)) (hq : SmT r c Q) : PrI k r c (m + 1) (.hl (ds ++ [Q.d r c])) := by
  obtain ⟨P, e, a⟩ := h
  cases e
  refine ⟨fun i => if i < m then P i else Q, ?_, fun i hi => ?_⟩
  · congr 1
    rw [gen_last]
    congr 1
    · exact gen_congr fun i hi => by
        show _ = Pr4.d r c (if i < m then P i else Q)
        rw [if_pos hi]
    · show [Q.d r c] = [Pr4.d r c (if m < m then P m else Q)]
      rw [if_neg (by omega)]
  · by_cases c : i < m
    · simp only [if_pos c]
      exact a i c
    · simp only [if_neg c]
      exact hq
theorem PrI.hl {k : Fg} {r c m : Nat} {d : D} (h : PrI k r c m d) : ∃ ds, d = .hl ds ∧ ds.length = m := by
  obtain ⟨P, e, _⟩ := h
  exact ⟨_, e, gen_len _ _⟩
end Lw
set_option exponentiation.threshold 20000
namespace Lw
open PySem PySem.Spec L2 Fw Pd Dz
section
variable {K : Type} [Fd K]
/-- W is A with its first n columns in steps: l rows lead, in the columns ld -/
structure Ech (r c n : Nat) (A W : Nat → Nat → K) (l : Nat) (ld : Nat → Nat) : Prop where
  ln : l ≤ n
  lr : l ≤ r
  lt : ∀ t, t < l → ld t < n
  up : ∀ t u, t < u → u < l → ld t < ld u
  nz : ∀ t, t < l → W t (ld t) ≠ 0
  bf : ∀ t j, t < l → j < ld t → W t j = 0
  zr : ∀ i j, l ≤ i → i < r → j < n → W i j = 0
  ker : ∀ v, Ker r c W v ↔ Ker r c A v
  fl : l = n ∨ ∃ j, j < n ∧ ∀ t, t < l → ld t ≠ j
  id : l = n → ∀ t, t < l → ld t = t
/-- sums over the leading columns are met from below -/
theorem tri {W : Nat → Nat → K} {ld : Nat → Nat} : ∀ (s : Nat) (b : Nat → K), (∀ t u, t < u → u < s → ld t < ld u) → (∀ t, t < s → W t (ld t) ≠ 0) → (∀ t j, t < s → j < ld t → W t j = 0) →
    ∃ y : Nat → K, (∀ t, t < s → Sm s (fun u => W t (ld u) * y u) = b t) ∧ ∀ t, t < s → (∀ u, t ≤ u → u < s → b u = 0) → y t = 0
  | 0, b, _, _, _ => ⟨fun _ => 0, fun t h => by omega, fun t h => by omega⟩
  | s + 1, b, up, nz, bf => by
    obtain ⟨y, hy, hz⟩ := tri s (fun t => b t - W t (ld s) * (b s * Fd.inv (W s (ld s)))) (fun t u h1 h2 => up t u h1 (by omega)) (fun t h => nz t (by omega)) (fun t j h1 h2 => bf t j (by omega) h2)
    have mi := Fd.mul_inv _ (nz s (by omega))
    refine ⟨fun u => if u = s then b s * Fd.inv (W s (ld s)) else y u, fun t ht => ?_, fun t ht hb => ?_⟩
    · show Sm s (fun u => W t (ld u) * (if u = s then b s * Fd.inv (W s (ld s)) else y u)) + W t (ld s) * (if s = s then b s * Fd.inv (W s (ld s)) else y s) = b t
      rw [if_pos rfl]
      by_cases q : t = s
      · subst q
        rw [Sm_zero fun u hu => by rw [bf t (ld u) (by omega) (up u t hu (by omega))]; grind]
        grind
      · rw [Sm_congr (g := fun u => W t (ld u) * y u) fun u hu => by rw [if_neg (by omega)], hy t (by omega)]
        grind
    · show (if t = s then b s * Fd.inv (W s (ld s)) else y t) = 0
      have b0 := hb s (by omega) (by omega)
      by_cases q : t = s
      · rw [if_pos q, b0]; grind
      · rw [if_neg q]
        refine hz t (by omega) fun u h1 h2 => ?_
        rw [hb u h1 (by omega), b0]
        grind
/-- a column that does not lead is met by those before it -/
theorem Ech.free {r c l : Nat} {A W : Nat → Nat → K} {ld : Nat → Nat} (e : Ech r c c A W l ld) {j : Nat} (hj : j < c) (hf : ∀ t, t < l → ld t ≠ j) : ∃ v : Nat → K, Ker r c A v ∧ v j = 1 ∧ ∀ x, j < x → v x = 0 := by
  obtain ⟨y, hy, hz⟩ := tri (W := W) (ld := ld) l (fun t => - W t j) e.up e.nz e.bf
  have y0 : ∀ u, u < l → j < ld u → y u = 0 := fun u hu h => hz u hu fun t h1 h2 => by
    have : ld u ≤ ld t := by
      by_cases q : u = t
      · rw [q]; exact Nat.le_refl _
      · exact Nat.le_of_lt (e.up u t (by omega) h2)
    rw [e.bf t j h2 (by omega)]
    grind
  refine ⟨fun x => del x j + Sm l fun u => y u * del x (ld u), (e.ker _).mp fun i hi => ?_, ?_, fun x hx => ?_⟩
  · by_cases q : i < l
    · have e1 : (fun x => W i x * (del x j + Sm l fun u => y u * del x (ld u))) = fun x => W i x * del x j + Sm l fun u => (W i x * (y u * del x (ld u))) := by
        funext x
        rw [Sm_mul]
        grind
      rw [e1, Sm_add, Sm_del hj, Sm_swap]
      rw [Sm_congr (g := fun u => W i (ld u) * y u) fun u hu => by
        rw [Sm_congr (g := fun x => (W i x * y u) * del x (ld u)) fun x _ => by grind, Sm_del (f := fun x => W i x * y u) (e.lt u hu)], hy i q]
      grind
    · exact Sm_zero fun x hx => by rw [e.zr i x (by omega) hi hx]; grind
  · show del j j + Sm l (fun u => y u * del j (ld u)) = 1
    rw [del_s, Sm_zero fun u hu => by rw [del_n (fun z => hf u hu z.symm)]; grind]
    grind
  · show del x j + Sm l (fun u => y u * del x (ld u)) = 0
    rw [del_n (by omega), Sm_zero fun u hu => by
      by_cases q : x = ld u
      · rw [y0 u hu (by omega)]; grind
      · rw [del_n q]; grind]
    grind
end
end Lw
set_option exponentiation.threshold 20000
namespace Lw
open PySem PySem.Spec L2 Fw Pd Dz
theorem frzL_nat : ∀ L : List Nat, frzL (L.map fun i : Nat => D.int (i : Int)) = L.map fun i : Nat => D.int (i : Int)
  | [] => rfl
  | x :: xs => by
    show D.int (x : Int) :: frzL (xs.map fun i : Nat => D.int (i : Int)) = _
    rw [frzL_nat xs]
    rfl
end Lw
set_option exponentiation.threshold 20000
namespace Lw
open PySem PySem.Spec L2 Fw Pd Dz
/-- sizes, each step four times as great -/
def Bk (B l : Nat) : Nat := 4 ^ l * (B + 1) - 1
end Lw
set_option exponentiation.threshold 20000
namespace Lw
open PySem PySem.Spec L2 Fw Pd Dz
section
variable {K : Type} [Fd K]
/-- from the top: the numbers of the quotient by t - x, at last the value -/
def hor (f : Nat → K) (x : K) (n : Nat) : Nat → K
  | 0 => f n
  | s + 1 => f (n - (s + 1)) + x * hor f x n s
end
end Lw
set_option exponentiation.threshold 20000
namespace Lw
open PySem PySem.Spec L2 Fw Pd Dz
/-- a poly led by one as the law draws it -/
structure Fpo (k : Fg) (n : Nat) (f : Nat → k.K) : Prop where
  n1 : 1 ≤ n
  n5 : n ≤ highN k
  one : f n = 1
  high : ∀ j, n < j → f j = 0
  sm : ∀ j, ht k (f j) ≤ 8
theorem Fpo.le {k : Fg} {n : Nat} {f : Nat → k.K} (P : Fpo k n f) : n ≤ 5 := Nat.le_trans P.n5 (high_le k)
end Lw
set_option exponentiation.threshold 20000
namespace Lw
open PySem PySem.Spec L2 Fw Pd Dz
/-- the value while it is reckoned -/
def horS {K : Type} [Fd K] (f : Nat → K) (x : K) (n : Nat) : Nat → K
  | 0 => 0
  | s + 1 => hor f x n s
theorem horS_s {K : Type} [Fd K] {f : Nat → K} {x : K} {n s : Nat} (hs : s ≤ n) : horS f x n s * x + f (n - s) = horS f x n (s + 1) := by
  cases s with
  | zero =>
    show 0 * x + f (n - 0) = f n
    rw [Nat.sub_zero]; grind
  | succ s =>
    show hor f x n s * x + f (n - (s + 1)) = f (n - (s + 1)) + x * hor f x n s
    grind
def bvBody : SF := (sSet 3 (eMeth "Figures" "plus" 3 F_Figures_plus [] (eV 0) (eCons (eMeth "Figures" "times" 3 F_Figures_times [] (eV 0) (eCons (eVm 3) (eCons (eVm 2) eNil))) (eCons (eVm 4) eNil))))
end Lw
namespace B78
def Vp : Nat → (Nat → Int) → Int → Int
  | 0, _, _ => 0
  | n + 1, c, x => c 0 + x * Vp n (fun j => c (j + 1)) x
def Gp : Nat → (Nat → Int) → Int → Nat → Int
  | 0, _, _, _ => 0
  | n + 1, c, x, 0 => Vp n (fun j => c (j + 1)) x
  | n + 1, c, x, j + 1 => Gp n (fun j => c (j + 1)) x j
theorem Vp_s (n : Nat) (c : Nat → Int) (x : Int) : Vp (n + 1) c x = c 0 + x * Vp n (fun j => c (j + 1)) x := rfl
theorem Vp_div : ∀ (n : Nat) (c : Nat → Int) (x y : Int), Vp (n + 1) c y = Vp (n + 1) c x + (y - x) * Vp n (Gp (n + 1) c x) y
  | 0, c, x, y => by simp [Vp]
  | n + 1, c, x, y => by
    have ih := Vp_div n (fun j => c (j + 1)) x y
    have e : Vp (n + 1) (Gp (n + 2) c x) y = Vp (n + 1) (fun j => c (j + 1)) x + y * Vp n (Gp (n + 1) (fun j => c (j + 1)) x) y := rfl
    rw [e, Vp_s (n + 1) c y, Vp_s (n + 1) c x, ih]
    grind
theorem Gp_last : ∀ (n : Nat) (c : Nat → Int) (x : Int), Gp (n + 1) c x n = 0
  | 0, _, _ => rfl
  | n + 1, c, x => Gp_last n (fun j => c (j + 1)) x
theorem Gp_top : ∀ (n : Nat) (c : Nat → Int) (x : Int), Gp (n + 2) c x n = c (n + 1)
  | 0, c, x => by
    show c 1 + x * 0 = c 1
    omega
  | n + 1, c, x => Gp_top n (fun j => c (j + 1)) x
theorem Gp_c : ∀ (n : Nat) (c : Nat → Int) (x : Int) (j : Nat), j < n → c (j + 1) = Gp (n + 1) c x j - x * Gp (n + 1) c x (j + 1)
  | n + 1, c, x, 0, _ => by
    show c 1 = (c 1 + x * Vp n (fun j => c (j + 2)) x) - x * Vp n (fun j => c (j + 2)) x
    omega
  | n + 1, c, x, j + 1, h => Gp_c n (fun j => c (j + 1)) x j (by omega)
theorem Gp_0 (n : Nat) (c : Nat → Int) (x : Int) : c 0 = Vp (n + 1) c x - x * Gp (n + 1) c x 0 := by
  show c 0 = (c 0 + x * Vp n (fun j => c (j + 1)) x) - x * Vp n (fun j => c (j + 1)) x
  omega
theorem Vp_add : ∀ (n : Nat) (a b : Nat → Int) (x : Int), Vp n (fun j => a j + b j) x = Vp n a x + Vp n b x
  | 0, _, _, _ => rfl
  | n + 1, a, b, x => by
    have ih := Vp_add n (fun j => a (j + 1)) (fun j => b (j + 1)) x
    rw [Vp_s, Vp_s, Vp_s, ih]
    grind
theorem Vp_mul : ∀ (n : Nat) (k : Int) (a : Nat → Int) (x : Int), Vp n (fun j => k * a j) x = k * Vp n a x
  | 0, k, _, _ => by simp [Vp]
  | n + 1, k, a, x => by
    have ih := Vp_mul n k (fun j => a (j + 1)) x
    rw [Vp_s, Vp_s, ih]
    grind
theorem Vp_cg : ∀ (n : Nat) (a b : Nat → Int) (q x : Int), (∀ j, j < n → q ∣ a j - b j) → q ∣ Vp n a x - Vp n b x
  | 0, _, _, q, _, _ => ⟨0, by simp [Vp]⟩
  | n + 1, a, b, q, x, h => by
    obtain ⟨k, ih⟩ := Vp_cg n (fun j => a (j + 1)) (fun j => b (j + 1)) q x (fun j hj => h (j + 1) (by omega))
    obtain ⟨m, e⟩ := h 0 (by omega)
    refine ⟨m + x * k, ?_⟩
    rw [Vp_s, Vp_s]
    grind
theorem Vp_eq (n : Nat) (a b : Nat → Int) (x : Int) (h : ∀ j, j < n → a j = b j) : Vp n a x = Vp n b x := by
  obtain ⟨k, e⟩ := Vp_cg n a b 0 x (fun j hj => ⟨0, by rw [h j hj]; omega⟩)
  omega
theorem Vp_cx (n : Nat) (c : Nat → Int) (q x y : Int) (h : q ∣ x - y) : q ∣ Vp n c x - Vp n c y := by
  cases n with
  | zero => exact ⟨0, by simp [Vp]⟩
  | succ n =>
    obtain ⟨k, e⟩ := h
    refine ⟨k * Vp n (Gp (n + 1) c y) x, ?_⟩
    rw [Vp_div n c y x]
    grind
def slp (c : Nat → Int) (j : Nat) : Int := ((j : Int) + 1) * c (j + 1)
theorem Vp_slope : ∀ (n : Nat) (c : Nat → Int) (x : Int), Vp n (slp c) x = Vp n (Gp (n + 1) c x) x
  | 0, _, _ => rfl
  | n + 1, c, x => by
    have ih := Vp_slope n (fun j => c (j + 1)) x
    have e : Vp (n + 1) (Gp (n + 2) c x) x = Vp (n + 1) (fun j => c (j + 1)) x + x * Vp n (Gp (n + 1) (fun j => c (j + 1)) x) x := rfl
    have e2 : (fun j => slp c (j + 1)) = fun j => slp (fun j => c (j + 1)) j + c (j + 2) := by
      funext j
      unfold slp
      rw [Int.natCast_succ]
      grind
    rw [e, Vp_s n (slp c), e2, Vp_add, ← ih, Vp_s n (fun j => c (j + 1))]
    have : slp c 0 = c 1 := by unfold slp; simp
    rw [this]
    show c 1 + x * (Vp n (slp fun j => c (j + 1)) x + Vp n (fun j => c (j + 2)) x) = c 1 + x * Vp n (fun j => c (j + 2)) x + x * Vp n (slp fun j => c (j + 1)) x
    grind
/-- f(y) = f(x) + (y - x) f'(x) + (y - x)^2 times something -/
theorem Vp_taylor (n : Nat) (c : Nat → Int) (x y : Int) : ∃ m, Vp (n + 1) c y = Vp (n + 1) c x + (y - x) * Vp n (slp c) x + (y - x) * (y - x) * m := by
  cases n with
  | zero => exact ⟨0, by simp [Vp]⟩
  | succ n =>
    refine ⟨Vp n (Gp (n + 1) (Gp (n + 2) c x) x) y, ?_⟩
    rw [Vp_div (n + 1) c x y, Vp_div n (Gp (n + 2) c x) x y, Vp_slope]
    grind
def Un (q a : Int) : Prop := ∃ u, q ∣ a * u - 1
theorem Un.cut {q a b : Int} (h : Un q a) (h2 : q ∣ a * b) : q ∣ b := by
  obtain ⟨u, k, e⟩ := h
  obtain ⟨m, f⟩ := h2
  exact ⟨u * m - k * b, by grind⟩
theorem Un.cg {q a b : Int} (h : Un q a) (h2 : q ∣ a - b) : Un q b := by
  obtain ⟨u, k, e⟩ := h
  obtain ⟨m, f⟩ := h2
  exact ⟨u, k - m * u, by grind⟩
theorem Un.mul {q a b : Int} (h : Un q a) (h2 : Un q b) : Un q (a * b) := by
  obtain ⟨u, k, e⟩ := h
  obtain ⟨v, m, f⟩ := h2
  exact ⟨u * v, k * b * v + m, by grind⟩
theorem Un.one {q : Int} : Un q 1 := ⟨1, 0, by omega⟩
/-- a poly of n numbers with n roots unlike by units is 0 -/
theorem Vp_zero : ∀ (n : Nat) (c R : Nat → Int) (q : Int), (∀ i j, i < n → j < n → i ≠ j → Un q (R i - R j)) → (∀ i, i < n → q ∣ Vp n c (R i)) → ∀ j, j < n → q ∣ c j
  | 0, _, _, _, _, _ => fun j hj => by omega
  | n + 1, c, R, q, hu, hr => by
    have g : ∀ j, j < n → q ∣ Gp (n + 1) c (R n) j := Vp_zero n _ R q (fun i j hi hj => hu i j (by omega) (by omega)) fun i hi => by
      refine (hu i n (by omega) (by omega) (by omega)).cut ?_
      have e := Vp_div n c (R n) (R i)
      obtain ⟨a, ea⟩ := hr i (by omega)
      obtain ⟨b, eb⟩ := hr n (by omega)
      exact ⟨a - b, by grind⟩
    have g2 : ∀ j, j ≤ n → q ∣ Gp (n + 1) c (R n) j := fun j hj => by
      by_cases h : j < n
      · exact g j h
      · rw [show j = n by omega, Gp_last]
        exact ⟨0, by omega⟩
    intro j hj
    cases j with
    | zero =>
      rw [Gp_0 n c (R n)]
      obtain ⟨a, ea⟩ := hr n (by omega)
      obtain ⟨b, eb⟩ := g2 0 (by omega)
      exact ⟨a - R n * b, by grind⟩
    | succ j =>
      rw [Gp_c n c (R n) j (by omega)]
      obtain ⟨a, ea⟩ := g2 j (by omega)
      obtain ⟨b, eb⟩ := g2 (j + 1) (by omega)
      exact ⟨a - R n * b, by grind⟩
/-- no more roots than the degree -/
theorem Vp_few (n : Nat) (c R : Nat → Int) (q : Int) (h1 : ¬ q ∣ 1) (hc : c n = 1) (hu : ∀ i j, i < n + 1 → j < n + 1 → i ≠ j → Un q (R i - R j)) (hr : ∀ i, i < n + 1 → q ∣ Vp (n + 1) c (R i)) : False := by
  have := Vp_zero (n + 1) c R q hu hr n (by omega)
  rw [hc] at this
  exact h1 this
/-- at one of n unlike roots the slope of a led poly of degree n is not 0 -/
theorem Vp_slope_ne (n : Nat) (c R : Nat → Int) (q : Int) (h1 : ¬ q ∣ 1) (hc : c n = 1) (hu : ∀ i j, i < n → j < n → i ≠ j → Un q (R i - R j)) (hr : ∀ i, i < n → q ∣ Vp (n + 1) c (R i)) (i : Nat) (hi : i < n) : ¬ q ∣ Vp n (slp c) (R i) := by
  intro z
  rw [Vp_slope] at z
  cases n with
  | zero => omega
  | succ n =>
    have := Vp_zero (n + 1) (Gp (n + 2) c (R i)) R q hu (fun j hj => by
      by_cases e : j = i
      · rw [e]; exact z
      · refine (hu j i hj hi e).cut ?_
        have e := Vp_div (n + 1) c (R i) (R j)
        obtain ⟨a, ea⟩ := hr i hi
        obtain ⟨b, eb⟩ := hr j hj
        exact ⟨b - a, by grind⟩) n (by omega)
    rw [Gp_top, hc] at this
    exact h1 this
theorem pw_le {p : Int} {a b : Nat} (h : a ≤ b) : p ^ a ∣ p ^ b := ⟨p ^ (b - a), by rw [← Int.pow_add]; congr 1; omega⟩
theorem dv_tr {a b c : Int} (h : a ∣ b) (h2 : b ∣ c) : a ∣ c := Int.dvd_trans h h2
theorem dv_mod {q a : Int} : q ∣ a - a % q := ⟨a / q, by have := Int.emod_def a q; omega⟩
theorem dv_mod2 {q a : Int} : q ∣ a % q - a := ⟨-(a / q), by have := Int.emod_def a q; grind⟩
/-- the undone one: x to x (2 - a x) -/
theorem inv_step (p a x y : Int) (t k : Nat) (h : p ^ min k t ∣ a * x - 1) (e : p ^ t ∣ y - x * (2 - a * x)) : p ^ min (2 * k) t ∣ a * y - 1 := by
  have d1 : p ^ min (2 * k) t ∣ p ^ min k t * p ^ min k t := by
    rw [← Int.pow_add]
    exact pw_le (by omega)
  have d2 : p ^ min (2 * k) t ∣ p ^ t := pw_le (by omega)
  obtain ⟨m, hm⟩ := h
  obtain ⟨s, hs⟩ := e
  obtain ⟨u, hu⟩ := d1
  obtain ⟨v, hv⟩ := d2
  generalize p ^ min (2 * k) t = D at *
  generalize p ^ min k t = E at *
  generalize p ^ t = F at *
  refine ⟨a * v * s - u * m * m, ?_⟩
  have e1 : a * y - 1 = a * (F * s) - (E * m) * (E * m) := by grind
  rw [e1, hv]
  have e2 : E * m * (E * m) = E * E * (m * m) := by grind
  rw [e2, hu]
  grind
/-- the root: x to x - f(x) u, u undoing f'(x) -/
theorem root_step (p : Int) (n : Nat) (c : Nat → Int) (x y u : Int) (t k : Nat) (h : p ^ min k t ∣ Vp (n + 1) c x) (hu : p ^ t ∣ Vp n (slp c) x * u - 1) (e : p ^ t ∣ y - (x - Vp (n + 1) c x * u)) : p ^ min (2 * k) t ∣ Vp (n + 1) c y := by
  have d1 : p ^ min (2 * k) t ∣ p ^ min k t * p ^ min k t := by
    rw [← Int.pow_add]
    exact pw_le (by omega)
  have d2 : p ^ min (2 * k) t ∣ p ^ t := pw_le (by omega)
  have d3 : p ^ min k t ∣ p ^ t := pw_le (by omega)
  obtain ⟨w, ew⟩ := Vp_taylor n c x y
  generalize Vp (n + 1) c y = fy at *
  generalize Vp (n + 1) c x = fx at *
  generalize Vp n (slp c) x = sx at *
  obtain ⟨m, hm⟩ := h
  obtain ⟨s, hs⟩ := e
  obtain ⟨r, hr⟩ := hu
  obtain ⟨u', hu'⟩ := d1
  obtain ⟨v, hv⟩ := d2
  obtain ⟨z, hz⟩ := d3
  generalize p ^ min (2 * k) t = D at *
  generalize p ^ min k t = E at *
  generalize p ^ t = F at *
  have a1 : y - x = F * s - fx * u := by omega
  have a2 : fy = F * (s * sx - fx * r) + (y - x) * (y - x) * w := by
    rw [ew, a1]
    have : sx * u = F * r + 1 := by omega
    grind
  have a3 : y - x = E * (z * s - m * u) := by grind
  rw [a2, a3]
  refine ⟨v * (s * sx - fx * r) + u' * (z * s - m * u) * (z * s - m * u) * w, ?_⟩
  have e2 : E * (z * s - m * u) * (E * (z * s - m * u)) * w = E * E * ((z * s - m * u) * (z * s - m * u) * w) := by grind
  rw [e2, hu', hv]
  grind
end B78
set_option exponentiation.threshold 20000
namespace B78
open PySem PySem.Spec L2 Fw Pd Dz Lw
theorem fm_dv (a q : Int) (h : 0 < q) : q ∣ a - a.fmod q := by
  rw [Int.fmod_eq_emod_of_nonneg _ (by omega)]
  exact dv_mod
theorem fm_dv2 (a q : Int) (h : 0 < q) : q ∣ a.fmod q - a := by
  rw [Int.fmod_eq_emod_of_nonneg _ (by omega)]
  exact dv_mod2
theorem fm_lo (a q : Int) (h : 0 < q) : 0 ≤ a.fmod q := by
  rw [Int.fmod_eq_emod_of_nonneg _ (by omega)]
  exact Int.emod_nonneg _ (by omega)
theorem fm_hi (a q : Int) (h : 0 < q) : a.fmod q < q := by
  rw [Int.fmod_eq_emod_of_nonneg _ (by omega)]
  exact Int.emod_lt_of_pos _ h
theorem dv_small {q a b : Int} (h : q ∣ a - b) (a0 : 0 ≤ a) (a1 : a < q) (b0 : 0 ≤ b) (b1 : b < q) : a = b := by
  have e1 := Int.emod_eq_emod_iff_emod_sub_eq_zero (m := a) (n := q) (k := b)
  have e2 := e1.mpr (Int.emod_eq_zero_of_dvd h)
  rw [Int.emod_eq_of_lt a0 a1, Int.emod_eq_of_lt b0 b1] at e2
  exact e2
theorem dv_sym {q a b : Int} (h : q ∣ a - b) : q ∣ b - a := by
  obtain ⟨k, e⟩ := h
  exact ⟨-k, by grind⟩
theorem dv_tri {q a b c : Int} (h : q ∣ a - b) (h2 : q ∣ b - c) : q ∣ a - c := by
  obtain ⟨k, e⟩ := h
  obtain ⟨m, f⟩ := h2
  exact ⟨k + m, by grind⟩
theorem fm_eq {a b q : Int} (h : 0 < q) (d : q ∣ a - b) : a.fmod q = b.fmod q :=
  dv_small (dv_tri (fm_dv2 a q h) (dv_tri d (fm_dv b q h))) (fm_lo _ _ h) (fm_hi _ _ h) (fm_lo _ _ h) (fm_hi _ _ h)
theorem fm_0 {a q : Int} (h : 0 < q) : a.fmod q = 0 ↔ q ∣ a := by
  constructor
  · intro z
    have := fm_dv a q h
    rw [z, Int.sub_zero] at this
    exact this
  · intro d
    have := fm_eq (b := 0) h (by rw [Int.sub_zero]; exact d)
    rw [this]
    exact Int.zero_fmod _
theorem fm_1 {a q : Int} (h : 1 < q) : a.fmod q = 1 ↔ q ∣ a - 1 := by
  constructor
  · intro z
    have := fm_dv a q (by omega)
    rw [z] at this
    exact this
  · intro d
    rw [fm_eq (b := 1) (by omega) d]
    have := Int.fmod_eq_emod_of_nonneg 1 (b := q) (by omega)
    rw [this, Int.emod_eq_of_lt (by omega) h]
theorem cm_b {i j : Int} (h : bt i.natAbs ≤ 3000) (h2 : bt j.natAbs ≤ 3000) : cMul i j = true := cMul_b (by omega)
theorem bt_in {a q : Int} (h0 : 0 ≤ a) (h1 : a < q) (hq : bt q.natAbs ≤ 120) : bt a.natAbs ≤ 120 := Nat.le_trans (bt_mono (by omega)) hq
theorem pw_bt {n : Nat} (hn : n + 2 ≤ 13) (t : Nat) (h : t ≤ 30) : bt (((n + 2 : Nat) : Int) ^ t).natAbs ≤ 120 := by
  refine bt_le ?_
  rw [Int.natAbs_pow, Int.natAbs_natCast]
  have h1 : (n + 2) ^ t ≤ 13 ^ t := Nat.pow_le_pow_left hn t
  have h2 : 13 ^ t ≤ 13 ^ 30 := Nat.pow_le_pow_right (by omega) h
  have h3 : (13 : Nat) ^ 30 < 2 ^ 120 := by decide +kernel
  omega
theorem pw_ge {p : Int} (hp : 2 ≤ p) : ∀ (t : Nat), 1 ≤ t → p ≤ p ^ t
  | 1, _ => by rw [Int.pow_one]; omega
  | t + 2, _ => by
    have ih := pw_ge hp (t + 1) (by omega)
    rw [Int.pow_succ]
    have : p ^ (t + 1) * 1 ≤ p ^ (t + 1) * p := Int.mul_le_mul_of_nonneg_left (by omega) (by omega)
    omega
/-- the modulus and what is known of it -/
structure Mo (m : Nat) (t : Nat) (p q : Int) : Prop where
  hm : m = 0 ∨ m = 1 ∨ m = 3 ∨ m = 5 ∨ m = 9 ∨ m = 11
  ep : p = ((m + 2 : Nat) : Int)
  eq : q = p ^ t
  t1 : 1 ≤ t
  t30 : t ≤ 30
theorem Mo.p2 {m t : Nat} {p q : Int} (M : Mo m t p q) : 2 ≤ p ∧ p ≤ 13 := by have := M.hm; have := M.ep; omega
theorem Mo.pq {m t : Nat} {p q : Int} (M : Mo m t p q) : p ≤ q := by rw [M.eq]; exact pw_ge M.p2.1 t M.t1
theorem Mo.bq {m t : Nat} {p q : Int} (M : Mo m t p q) : bt q.natAbs ≤ 120 := by rw [M.eq, M.ep]; exact pw_bt (pm_le M.hm) t M.t30
theorem Mo.dv {m t : Nat} {p q : Int} (M : Mo m t p q) : p ∣ q := by
  rw [M.eq]
  have := pw_le (p := p) M.t1
  rw [Int.pow_one] at this
  exact this
theorem Mo.nd {m t : Nat} {p q : Int} (M : Mo m t p q) : ¬ p ∣ 1 := fun z => by
  have := M.p2
  have := Int.le_of_dvd (by omega) z
  omega
def uwBody : SF := (sSet 3 (eOp oMod (eOp oMul (eV 3) (eOp oSub (eC (.int 2)) (eOp oMul (eV 0) (eV 3)))) (eV 2)))
def uwC : EF Bool := (eT (eOp oNe (eOp oMod (eOp oMul (eV 0) (eV 3)) (eV 2)) (eC (.int 1))))
theorem wh_uw {m t : Nat} {p q : Int} (M : Mo m t p q) (a : Int) (ha : bt a.natAbs ≤ 2000) : ∀ (f k : Nat) (x : Int), t ≤ k * 2 ^ f → p ^ min k t ∣ a * x - 1 → 0 ≤ x → x < q →
    ∃ y : Int, (∀ h, whGo uwC uwBody (f + 1) [some (.int a), some (.int p), some (.int q), some (.int x)] h = .nx [some (.int a), some (.int p), some (.int q), some (.int y)] h) ∧ q ∣ a * y - 1 ∧ 0 ≤ y ∧ y < q
  | f, k, x, hf, hd, x0, x1 => by
    have p2 := M.p2
    have pq := M.pq
    have q0 : ¬ q = 0 := by omega
    have bx := bt_in x0 x1 M.bq
    have m1 : cMul a x = true := cm_b (by omega) (by omega)
    by_cases z : (a * x).fmod q = 1
    · refine ⟨x, fun h => ?_, (fm_1 (by omega)).mp z, x0, x1⟩
      unfold whGo
      conv => lhs; unfold uwC
      push_cast [m1, q0, z]
    · cases f with
      | zero =>
        exfalso
        rw [show min k t = t by omega, ← M.eq] at hd
        exact z ((fm_1 (by omega)).mpr hd)
      | succ f =>
        have b2 : bt (2 - a * x).natAbs ≤ 3000 := by
          have h1 := bt_sum 2 (-(a * x))
          have h2 := bt_mul a.natAbs x.natAbs
          have h3 : bt (2 : Int).natAbs ≤ 2 := bt_le (by decide)
          rw [← Int.sub_eq_add_neg, Int.natAbs_neg, Int.natAbs_mul] at h1
          omega
        have m2 : cMul x (2 - a * x) = true := cm_b (by omega) b2
        obtain ⟨y, e, r⟩ := wh_uw M a ha f (2 * k) ((x * (2 - a * x)).fmod q) (by rw [Nat.pow_succ] at hf; have : k * (2 ^ f * 2) = 2 * k * 2 ^ f := by grind
                                                                                  omega) (inv_step p a x _ t k hd (by rw [← M.eq]; exact fm_dv2 _ _ (by omega))) (fm_lo _ _ (by omega)) (fm_hi _ _ (by omega))
        refine ⟨y, fun h => ?_, r⟩
        have e := e h
        rw [← e, whGo]
        conv => lhs; unfold uwC uwBody
        push_cast [m1, m2, q0, z]
        rfl
theorem E_uw {m t : Nat} {p q : Int} (M : Mo m t p q) (a : Int) (ha : bt a.natAbs ≤ 2000) (hd : ¬ p ∣ a) :
    ∃ y : Int, (∀ h, F_undone_whole [.int a, .int p, .int q] h = .ok (.int y) h) ∧ q ∣ a * y - 1 ∧ 0 ≤ y ∧ y < q := by
  have p2 := M.p2
  have pq := M.pq
  have p0 : ¬ p = 0 := by omega
  obtain ⟨b, hb⟩ : ∃ b : Fin (m + 2), (b.val : Int) = a.fmod p := ⟨ic (.m m M.hm) a, by rw [ic_val, ← M.ep]⟩
  have b0 : b ≠ 0 := fun z => by
    rw [z] at hb
    exact hd ((fm_0 (by omega)).mp hb.symm)
  have er := fun h => E_rest M.hm b b0 p M.ep h
  rw [hb] at er
  have fi := fv_mul b (finInv b)
  rw [fin_inv M.hm b b0, ← M.ep, hb] at fi
  have one : ((1 : Fin (m + 2)).val : Int) = 1 := by
    show ((1 % (m + 2) : Nat) : Int) = 1
    rw [Nat.mod_eq_of_lt (by omega)]
    rfl
  rw [one] at fi
  have lt := fv_lt (finInv b)
  rw [← M.ep] at lt
  have d1 := (fm_1 (by omega)).mp fi
  have d2 : p ∣ a * ((finInv b).val : Int) - 1 := by
    obtain ⟨k, e⟩ := fm_dv a p (by omega)
    obtain ⟨l, f⟩ := d1
    exact ⟨k * ((finInv b).val : Int) + l, by grind⟩
  obtain ⟨y, e, r⟩ := wh_uw M a ha 99 1 ((finInv b).val : Int) (by have := M.t30; have : 30 ≤ 1 * 2 ^ 99 := by decide +kernel
                                                                   omega) (by have := M.t1; rw [show min 1 t = 1 by omega, Int.pow_one]; exact d2) (by omega) (by omega)
  refine ⟨y, fun h => ?_, r⟩
  have e := e h
  unfold uwC uwBody at e
  unfold F_undone_whole
  push_cast [p0, er, sWh_a, e]
theorem E_restat (n : Nat) (c : Nat → Int) (x q : Int) (h : D) (q0 : 0 < q) (hq : bt q.natAbs ≤ 120) (hx : bt x.natAbs ≤ 2000) : F_rest_at [.lst (gen n fun j => .int (c j)), .int x, .int q] h = .ok (.int ((Vp n c x).fmod q)) h := by
  have qn : ¬ q = 0 := by omega
  have lp := for_gen0 (h := h) (bind := bNm 4) (body := (sSet 3 (eOp oMod (eOp oAdd (eOp oMul (eV 3) (eV 1)) (eV 4)) (eV 2)))) (d := fun s => .int (c (n - 1 - s))) (n := n)
    (fun s => [some (.lst (gen n fun j => .int (c j))), some (.int x), some (.int q), some (.int ((Vp s (fun j => c (n - s + j)) x).fmod q)), lv none (fun s => .int (c (n - 1 - s))) s]) fun s hs => by
      have bv := bt_in (fm_lo (Vp s (fun j => c (n - s + j)) x) q q0) (fm_hi _ _ q0) hq
      have m1 : cMul ((Vp s (fun j => c (n - s + j)) x).fmod q) x = true := cm_b (by omega) (by omega)
      have e : ((Vp s (fun j => c (n - s + j)) x).fmod q * x + c (n - 1 - s)).fmod q = (Vp (s + 1) (fun j => c (n - (s + 1) + j)) x).fmod q := by
        refine fm_eq q0 ?_
        obtain ⟨k, ek⟩ := fm_dv2 (Vp s (fun j => c (n - s + j)) x) q q0
        refine ⟨k * x, ?_⟩
        rw [Vp_s]
        have e1 : (fun j => c (n - (s + 1) + (j + 1))) = fun j => c (n - s + j) := by
          funext j
          congr 1
          omega
        rw [e1, show n - (s + 1) + 0 = n - 1 - s by omega]
        grind
      refine ⟨_, rfl, ?_⟩
      push_cast [lv_s, m1, qn, e]
  simp only [lv_0] at lp
  have z0 : (Vp 0 (fun j => c (n - 0 + j)) x).fmod q = 0 := Int.zero_fmod _
  have z1 : (fun j => c (n - n + j)) = c := by funext j; congr 1; omega
  rw [z0, z1] at lp
  unfold F_rest_at
  push_cast [eRv_a, rvD_l, lp]
theorem E_wslope (n : Nat) (c : Nat → Int) (h : D) (hn : n ≤ 800) (hc : ∀ j, bt (c j).natAbs ≤ 3000) : F_whole_slope [.lst (gen (n + 1) fun j => .int (c j))] h = .ok (.lst (gen n fun j => .int (slp c j))) h := by
  have m1 : ∀ j : Nat, j < n + 1 → cMul (j : Int) (c j) = true := fun j hj => cm_b (bt_le (b := 3000) (by
    rw [Int.natAbs_natCast]
    exact Nat.lt_of_lt_of_le (by omega : j < 2 ^ 10) (Nat.pow_le_pow_right (by omega) (by omega)))) (hc j)
  have g : (gen n fun j => D.int (((1 + j : Nat) : Int) * c (1 + j))) = gen n fun j => .int (slp c j) := gen_congr fun j _ => by
    unfold slp
    rw [show 1 + j = j + 1 by omega, Int.natCast_succ]
  unfold F_whole_slope
  push_cast [en_l, m1, slD_l, cut_lo, Nat.add_sub_cancel, g]
end B78
set_option exponentiation.threshold 20000
namespace B78
open PySem PySem.Spec L2 Fw Pd Dz Lw
def rrBody : SF := (sSeq (sSet 1 (eOp oMod (eOp oSub (eV 1) (eOp oMul (eV 5) (eCall 3 F_undone_whole [] (eCons (eCall 3 F_rest_at [] (eCons (eVm 4) (eCons (eVm 1) (eCons (eVm 3) eNil)))) (eCons (eVm 2) (eCons (eVm 3) eNil)))))) (eV 3)))
    (sSet 5 (eCall 3 F_rest_at [] (eCons (eVm 0) (eCons (eVm 1) (eCons (eVm 3) eNil))))))
def rrC : EF Bool := (eT (eOp oNe (eV 5) (eC (.int 0))))
def wlD (n : Nat) (c : Nat → Int) : D := .lst (gen n fun j => .int (c j))
theorem wl_vm {n : Nat} {c : Nat → Int} {h : D} : vmD (some (some (wlD n c))) h = .ok (wlD n c) h := vmD_fr rfl
theorem wh_rr {m t : Nat} {p q : Int} (M : Mo m t p q) (N : Nat) (c : Nat → Int) (r : Int) (hs : ¬ p ∣ Vp N (slp c) r) : ∀ (f k : Nat) (x : Int), t ≤ k * 2 ^ f → 1 ≤ k → p ^ min k t ∣ Vp (N + 1) c x → p ∣ x - r → 0 ≤ x → x < q →
    ∃ y : Int, (∀ h, whGo rrC rrBody (f + 1) [some (wlD (N + 1) c), some (.int x), some (.int p), some (.int q), some (wlD N (slp c)), some (.int ((Vp (N + 1) c x).fmod q))] h = .nx [some (wlD (N + 1) c), some (.int y), some (.int p), some (.int q), some (wlD N (slp c)), some (.int 0)] h) ∧ q ∣ Vp (N + 1) c y ∧ p ∣ y - r ∧ 0 ≤ y ∧ y < q
  | f, k, x, hf, hk, hd, hr, x0, x1 => by
    have p2 := M.p2
    have pq := M.pq
    have q0 : ¬ q = 0 := by omega
    have bx := bt_in x0 x1 M.bq
    by_cases z : (Vp (N + 1) c x).fmod q = 0
    · refine ⟨x, fun h => ?_, (fm_0 (by omega)).mp z, hr, x0, x1⟩
      unfold whGo
      conv => lhs; unfold rrC
      push_cast [z]
    · cases f with
      | zero =>
        exfalso
        rw [show min k t = t by omega, ← M.eq] at hd
        exact z ((fm_0 (by omega)).mpr hd)
      | succ f =>
        have e1 := fun h => E_restat N (slp c) x q h (by omega) M.bq (by omega)
        have bs := bt_in (fm_lo (Vp N (slp c) x) q (by omega)) (fm_hi _ _ (by omega)) M.bq
        have ns : ¬ p ∣ (Vp N (slp c) x).fmod q := fun w => hs (by
          have a1 := dv_tr M.dv (fm_dv (Vp N (slp c) x) q (by omega))
          have a2 := Vp_cx N (slp c) p x r hr
          obtain ⟨k1, e1⟩ := w
          obtain ⟨k2, e2⟩ := a1
          obtain ⟨k3, e3⟩ := a2
          exact ⟨k1 + k2 - k3, by grind⟩)
        obtain ⟨u, eu, du, u0, u1⟩ := E_uw M _ (by omega) ns
        have bu := bt_in u0 u1 M.bq
        have bf := bt_in (fm_lo (Vp (N + 1) c x) q (by omega)) (fm_hi _ _ (by omega)) M.bq
        have m1 : cMul ((Vp (N + 1) c x).fmod q) u = true := cm_b (by omega) (by omega)
        have y0 := fm_lo (x - (Vp (N + 1) c x).fmod q * u) q (by omega)
        have y1 := fm_hi (x - (Vp (N + 1) c x).fmod q * u) q (by omega)
        have dy : q ∣ (x - (Vp (N + 1) c x).fmod q * u).fmod q - (x - Vp (N + 1) c x * u) := by
          refine dv_tri (fm_dv2 _ q (by omega)) ?_
          obtain ⟨l, el⟩ := fm_dv (Vp (N + 1) c x) q (by omega)
          exact ⟨l * u, by grind⟩
        have du2 : q ∣ Vp N (slp c) x * u - 1 := by
          obtain ⟨l, el⟩ := fm_dv (Vp N (slp c) x) q (by omega)
          obtain ⟨l2, el2⟩ := du
          exact ⟨l * u + l2, by grind⟩
        have st := root_step p N c x _ u t k hd (by rw [← M.eq]; exact du2) (by rw [← M.eq]; exact dy)
        generalize ey : (x - (Vp (N + 1) c x).fmod q * u).fmod q = y at *
        have dp : p ∣ Vp (N + 1) c x := by
          have a : p ∣ p ^ min k t := by
            have := pw_le (p := p) (a := 1) (b := min k t) (by have := M.t1; omega)
            rw [Int.pow_one] at this
            exact this
          exact dv_tr a hd
        have yr : p ∣ y - r := by
          refine dv_tri ?_ hr
          obtain ⟨l, el⟩ := dv_tr M.dv dy
          obtain ⟨l2, el2⟩ := dp
          exact ⟨l - l2 * u, by grind⟩
        have by_ := bt_in y0 y1 M.bq
        have e2 := fun h => E_restat (N + 1) c y q h (by omega) M.bq (by omega)
        obtain ⟨w, e, rr⟩ := wh_rr M N c r hs f (2 * k) y (by rw [Nat.pow_succ] at hf; have : k * (2 ^ f * 2) = 2 * k * 2 ^ f := by grind
                                                              omega) (by omega) st yr y0 y1
        refine ⟨w, fun h => ?_, rr⟩
        have e := e h
        rw [← e, whGo]
        conv => lhs; unfold rrC rrBody
        have e1 : ∀ h, F_rest_at [wlD N (slp c), .int x, .int q] h = .ok (.int ((Vp N (slp c) x).fmod q)) h := e1
        have e2 : ∀ h, F_rest_at [wlD (N + 1) c, .int y, .int q] h = .ok (.int ((Vp (N + 1) c y).fmod q)) h := e2
        push_cast [wl_vm, e1, eu, m1, q0, z, ey, e2]
        rfl
theorem E_rroot {m t : Nat} {p q : Int} (M : Mo m t p q) (N : Nat) (c : Nat → Int) (r : Int) (hN : N ≤ 800) (hc : ∀ j, bt (c j).natAbs ≤ 3000) (r0 : 0 ≤ r) (r1 : r < p) (hr : p ∣ Vp (N + 1) c r) (hs : ¬ p ∣ Vp N (slp c) r) :
    ∃ y : Int, (∀ h, F_raised_root [wlD (N + 1) c, .int r, .int p, .int q] h = .ok (.int y) h) ∧ q ∣ Vp (N + 1) c y ∧ p ∣ y - r ∧ 0 ≤ y ∧ y < q := by
  have p2 := M.p2
  have pq := M.pq
  have bx := bt_in r0 (show r < q by omega) M.bq
  obtain ⟨y, e, rr⟩ := wh_rr M N c r hs 99 1 r (by have := M.t30; have : 30 ≤ 1 * 2 ^ 99 := by decide +kernel
                                                   omega) (by omega) (by have := M.t1; rw [show min 1 t = 1 by omega, Int.pow_one]; exact hr) ⟨0, by omega⟩ r0 (by omega)
  refine ⟨y, fun h => ?_, rr⟩
  have e := e h
  have e1 : ∀ h, F_whole_slope [wlD (N + 1) c] h = .ok (wlD N (slp c)) h := fun h => E_wslope N c h hN hc
  have e2 : ∀ h, F_rest_at [wlD (N + 1) c, .int r, .int q] h = .ok (.int ((Vp (N + 1) c r).fmod q)) h := fun h => E_restat (N + 1) c r q h (by omega) M.bq (by omega)
  unfold rrC rrBody at e
  unfold F_raised_root
  push_cast [wl_vm, e1, e2, sWh_a, e]
theorem choose1 {α : Type} {P : Nat → α → Prop} (h : ∀ j, ∃ x, P j x) : ∃ f : Nat → α, ∀ j, P j (f j) := ⟨fun j => Classical.choose (h j), fun j => Classical.choose_spec (h j)⟩
theorem E_wholes {m t : Nat} {p q : Int} (M : Mo m t p q) (n : Nat) (f : Nat → Rat) (hn : n ≤ 800) (hf : ∀ j, hq (f j) ≤ 300) (hd : ∀ j, ¬ p ∣ ((f j).den : Int)) :
    ∃ w : Nat → Int, (∀ h, F_wholes_by [.tup (gen n fun j => encQ (f j)), .int p, .int q] h = .ok (wlD n w) h) ∧ ∀ j, q ∣ w j * (f j).den - (f j).num ∧ 0 ≤ w j ∧ w j < q := by
  have p2 := M.p2
  have pq := M.pq
  have q0 : ¬ q = 0 := by omega
  obtain ⟨u, hu⟩ := choose1 fun j => E_uw M ((f j).den : Int) (by have := hq_den (f j); have := hf j; rw [Int.natAbs_natCast]; omega) (hd j)
  have eu : ∀ j, j < n → ∀ h, F_undone_whole [.int ((f j).den : Int), .int p, .int q] h = .ok (.int (u j)) h := fun j _ => (hu j).1
  have m1 : ∀ j, j < n → cMul (f j).num (u j) = true := fun j _ => cm_b (by have := hq_num (f j); have := hf j; omega) (by have := bt_in (hu j).2.2.1 (hu j).2.2.2 M.bq; omega)
  refine ⟨fun j => ((f j).num * u j).fmod q, fun h => ?_, fun j => ⟨?_, fm_lo _ _ (by omega), fm_hi _ _ (by omega)⟩⟩
  · unfold wlD F_wholes_by encQ
    push_cast [eu, m1, q0]
  · obtain ⟨k, ek⟩ := fm_dv2 ((f j).num * u j) q (by omega)
    obtain ⟨l, el⟩ := (hu j).2.1
    exact ⟨k * (f j).den + (f j).num * l, by grind⟩
theorem E_powerof (p : Int) (t : Nat) (h : D) (ht : t ≤ 800) (hp : bt p.natAbs ≤ 8) : F_power_of [.int p, .int (t : Int)] h = .ok (.int (p ^ t)) h := by
  have bp : ∀ s : Nat, bt (p ^ s).natAbs ≤ 8 * s + 1 := fun s => by
    induction s with
    | zero => rw [Int.pow_zero]; exact bt_le (by decide)
    | succ s ih =>
      rw [Int.pow_succ, Int.natAbs_mul]
      have := bt_mul (p ^ s).natAbs p.natAbs
      omega
  have lp := for_gen0 (h := h) (bind := bNm 3) (body := (sSet 2 (eOp oMul (eV 2) (eV 0)))) (d := fun s => .int (s : Int)) (n := t)
    (fun s => [some (.int p), some (.int (t : Int)), some (.int (p ^ s)), lv none (fun s => .int (s : Int)) s]) fun s hs => by
      have m1 : cMul (p ^ s) p = true := cMul_b (by have := bp s; omega)
      have e : p ^ s * p = p ^ (s + 1) := (Int.pow_succ p s).symm
      refine ⟨_, rfl, ?_⟩
      push_cast [lv_s, m1, e]
  simp only [lv_0] at lp
  rw [Int.pow_zero] at lp
  unfold F_power_of
  push_cast [lp]
def rpw (x q : Int) : Nat → Int
  | 0 => 1
  | j + 1 => (rpw x q j * x).fmod q
theorem rpw_in {x q : Int} (q1 : 1 < q) : ∀ j, 0 ≤ rpw x q j ∧ rpw x q j < q
  | 0 => ⟨by show (0 : Int) ≤ 1; omega, by show (1 : Int) < q; omega⟩
  | j + 1 => ⟨fm_lo _ _ (by omega), fm_hi _ _ (by omega)⟩
theorem rpw_dv {x q : Int} (q1 : 1 < q) : ∀ j, q ∣ rpw x q j - x ^ j
  | 0 => ⟨0, by rw [Int.pow_zero]; show (1 : Int) - 1 = q * 0; omega⟩
  | j + 1 => by
    obtain ⟨k, ek⟩ := rpw_dv (x := x) q1 j
    obtain ⟨l, el⟩ := fm_dv2 (rpw x q j * x) q (by omega)
    refine ⟨l + k * x, ?_⟩
    rw [Int.pow_succ]
    show (rpw x q j * x).fmod q - x ^ j * x = _
    grind
def prBody : SF := sApp (pV 3) (eOp oMod (eOp oMul (ePl (pIx (pV 3) (eUn oNeg (eC (.int 1))))) (eV 0)) (eV 2))
theorem wh_pr (x q : Int) (n : Nat) (h : D) (q1 : 1 < q) (hq : bt q.natAbs ≤ 120) (hx : bt x.natAbs ≤ 120) (hn : n ≤ 900) : ∀ (fuel m : Nat), m + 1 ≤ n → n - (m + 1) < fuel →
    whGo (eT (eOp oLt (eLenP (pV 3)) (eV 1))) prBody fuel [some (.int x), some (.int (n : Int)), some (.int q), some (.hl (gen (m + 1) fun j => .int (rpw x q j)))] h = .nx [some (.int x), some (.int (n : Int)), some (.int q), some (.hl (gen n fun j => .int (rpw x q j)))] h
  | 0, m, _, hf => by omega
  | fuel + 1, m, hm, hf => by
    by_cases e : m + 1 = n
    · subst e
      have c : ¬ ((m + 1 : Nat) : Int) < ((m + 1 : Nat) : Int) := by omega
      unfold whGo
      push_cast [c]
    · have ih := wh_pr x q n h q1 hq hx hn fuel (m + 1) (by omega) (by omega)
      have q0 : ¬ q = 0 := by omega
      have m1 : cMul (rpw x q m) x = true := cm_b (by have := bt_in (rpw_in (x := x) q1 m).1 (rpw_in (x := x) q1 m).2 hq; omega) (by omega)
      have ap : (gen (m + 1 + 1) fun j => D.int (rpw x q j)) = (gen (m + 1) fun j => .int (rpw x q j)) ++ [.int ((rpw x q m * x).fmod q)] := by
        rw [gen_last]; rfl
      rw [ap] at ih
      rw [whGo]
      have fi : ∀ i, (D.int i).fr = true := fun _ => rfl
      conv => lhs; unfold prBody
      push_cast [ixN_last, gen_get, fi, m1, q0]
      exact ih
theorem E_prow (x q : Int) (n : Nat) (h : D) (q1 : 1 < q) (hq : bt q.natAbs ≤ 120) (hx : bt x.natAbs ≤ 120) (n1 : 1 ≤ n) (hn : n ≤ 90) : F_power_row_by [.int x, .int (n : Int), .int q] h = .ok (.tup (gen n fun j => .int (rpw x q j))) h := by
  have w := wh_pr x q n h q1 hq hx (by omega) 100 0 (by omega) (by omega)
  have g1 : (gen (0 + 1) fun j => D.int (rpw x q j)) = [.int 1] := rfl
  rw [g1] at w
  have fz : frzL (gen n fun j => D.int (rpw x q j)) = gen n fun j => .int (rpw x q j) := frzL_gen fun i => rfl
  unfold prBody at w
  unfold F_power_row_by
  push_cast [sWh_a, w, fz]
end B78
set_option exponentiation.threshold 20000
namespace B78
open PySem PySem.Spec L2 Fw Pd Dz Lw
theorem Vp_up (n : Nat) (c : Nat → Int) (x : Int) : Vp (n + 1) c x = Vp n c x + c n * x ^ n := by
  induction n generalizing c with
  | zero => rw [Int.pow_zero]; show c 0 + x * 0 = 0 + c 0 * 1; omega
  | succ n ih =>
    rw [Vp_s (n + 1), ih, Vp_s n, Int.pow_succ]
    grind
theorem Vp_sum (n m : Nat) (a : Nat → Nat → Int) (x : Int) : Vp n (fun i => sumZ m fun k => a k i) x = sumZ m fun k => Vp n (a k) x := by
  induction m with
  | zero =>
    have := Vp_mul n 0 (fun _ => 0) x
    simp only [Int.zero_mul] at this
    exact this
  | succ m ih =>
    show Vp n (fun i => (sumZ m fun k => a k i) + a m i) x = (sumZ m fun k => Vp n (a k) x) + Vp n (a m) x
    rw [Vp_add, ih]
theorem Vp_z (n : Nat) (x : Int) : Vp n (fun _ => 0) x = 0 := by
  have := Vp_mul n 0 (fun _ => 0) x
  simp only [Int.zero_mul] at this
  exact this
theorem Vp_one (n j : Nat) (x : Int) (h : j < n) : Vp n (fun i => if i = j then 1 else 0) x = x ^ j := by
  induction n with
  | zero => omega
  | succ n ih =>
    rw [Vp_up]
    by_cases e : j < n
    · rw [ih e, if_neg (by omega)]; omega
    · rw [show j = n by omega, if_pos rfl, Vp_eq n _ (fun _ => 0) x (fun i hi => if_neg (by omega)), Vp_z]; omega
theorem sumZ_cg {q : Int} (m : Nat) (f g : Nat → Int) (h : ∀ k, k < m → q ∣ f k - g k) : q ∣ sumZ m f - sumZ m g := by
  induction m with
  | zero => exact ⟨0, by show (0 : Int) - 0 = q * 0; omega⟩
  | succ m ih =>
    obtain ⟨a, ea⟩ := ih fun k hk => h k (by omega)
    obtain ⟨b, eb⟩ := h m (by omega)
    refine ⟨a + b, ?_⟩
    show sumZ m f + f m - (sumZ m g + g m) = _
    grind
theorem sumZ_z (m : Nat) : sumZ m (fun _ => 0) = 0 := by
  induction m with
  | zero => rfl
  | succ m ih => show sumZ m (fun _ => 0) + 0 = 0; rw [ih]; rfl
theorem sumZ_eq (m : Nat) (f g : Nat → Int) (h : ∀ k, k < m → f k = g k) : sumZ m f = sumZ m g := by
  obtain ⟨k, e⟩ := sumZ_cg (q := 0) m f g fun k hk => ⟨0, by rw [h k hk]; omega⟩
  omega
theorem sumZ_one (m l : Nat) (v : Int) (h : l < m) : sumZ m (fun k => if k = l then v else 0) = v := by
  induction m with
  | zero => omega
  | succ m ih =>
    show sumZ m (fun k => if k = l then v else 0) + (if m = l then v else 0) = v
    by_cases e : l < m
    · rw [ih e, if_neg (by omega)]; omega
    · rw [if_pos (by omega), sumZ_eq m _ (fun _ => 0) (fun k hk => if_neg (by omega)), sumZ_z]; omega
def upC (c : Nat → Int) : Nat → Int
  | 0 => 0
  | j + 1 => c j
def dnC (n : Nat) (c : Nat → Int) (j : Nat) : Int := if j < n then c j else 0
def tsC (q : Int) (n : Nat) (c : Nat → Int) (r : Int) (j : Nat) : Int := (upC c j - r * dnC n c j).fmod q
theorem ts_val (q : Int) (q0 : 0 < q) (n : Nat) (c : Nat → Int) (r x : Int) : q ∣ Vp (n + 1) (tsC q n c r) x - (x - r) * Vp n c x := by
  have h1 := Vp_cg (n + 1) (tsC q n c r) (fun j => upC c j + (-r) * dnC n c j) q x fun j _ => by
    have := fm_dv2 (upC c j - r * dnC n c j) q q0
    obtain ⟨k, e⟩ := this
    exact ⟨k, by show (upC c j - r * dnC n c j).fmod q - _ = _; grind⟩
  have h2 : Vp (n + 1) (upC c) x = x * Vp n c x := by
    show 0 + x * Vp n c x = _
    omega
  have h3 : Vp (n + 1) (dnC n c) x = Vp n c x := by
    rw [Vp_up, Vp_eq n (dnC n c) c x fun j hj => if_pos hj]
    show _ + (if n < n then c n else 0) * x ^ n = _
    rw [if_neg (by omega)]
    omega
  rw [Vp_add, Vp_mul, h2, h3] at h1
  obtain ⟨k, e⟩ := h1
  exact ⟨k, by grind⟩
theorem E_ts (n : Nat) (c : Nat → Int) (r q : Int) (h : D) (q1 : 1 < q) (hn : n ≤ 800) (hc : ∀ j, bt (c j).natAbs ≤ 120) (hr : bt r.natAbs ≤ 120) : F_times_straight [wlD n c, .int r, .int q] h = .ok (wlD (n + 1) (tsC q n c r)) h := by
  have a1 : ([D.int 0] ++ gen n fun j => D.int (c j)) = gen (n + 1) fun j => .int (upC c j) := by rw [gen_succ]; rfl
  have a2 : ((gen n fun j => D.int (c j)) ++ [D.int 0]) = gen (n + 1) fun j => .int (dnC n c j) := by
    rw [gen_last]
    unfold dnC
    rw [if_neg (by omega)]
    congr 1
    exact gen_congr fun j hj => by rw [if_pos hj]
  have q0 : ¬ q = 0 := by omega
  have m1 : ∀ j, j < n + 1 → cMul r (dnC n c j) = true := fun j _ => cm_b (by omega) (by unfold dnC; split; exact Nat.le_trans (hc j) (by omega); exact bt_le (by decide))
  unfold wlD F_times_straight tsC
  push_cast [plus_l, a1, a2, zip_l, Nat.min_self, m1, q0]
def psL (i s : Nat) : Nat := if s ≤ i then s + 1 else s
def psC (q : Int) (R : Nat → Int) (i : Nat) : Nat → Nat → Int
  | 0 => fun j => if j = 0 then 1 else 0
  | s + 1 => if s = i then psC q R i s else tsC q (psL i s) (psC q R i s) (R s)
def prd (R : Nat → Int) (i : Nat) (x : Int) : Nat → Int
  | 0 => 1
  | s + 1 => if s = i then prd R i x s else (x - R s) * prd R i x s
theorem ps_val (q : Int) (q0 : 0 < q) (R : Nat → Int) (i : Nat) (x : Int) : ∀ s, q ∣ Vp (psL i s) (psC q R i s) x - prd R i x s
  | 0 => ⟨0, by
    have : psL i 0 = 1 := if_pos (Nat.zero_le _)
    rw [this]
    show 1 + x * 0 - 1 = q * 0
    omega⟩
  | s + 1 => by
    have ih := ps_val q q0 R i x s
    by_cases e : s = i
    · have a : psL i (s + 1) = psL i s := by unfold psL; rw [if_neg (by omega), if_pos (by omega)]
      unfold psC prd
      rw [if_pos e, if_pos e, a]
      exact ih
    · have a : psL i (s + 1) = psL i s + 1 := by unfold psL; split <;> split <;> omega
      unfold psC prd
      rw [if_neg e, if_neg e, a]
      obtain ⟨k, ek⟩ := ts_val q q0 (psL i s) (psC q R i s) (R s) x
      obtain ⟨l, el⟩ := ih
      exact ⟨k + (x - R s) * l, by grind⟩
theorem ps_in (q : Int) (q1 : 1 < q) (R : Nat → Int) (i : Nat) : ∀ s j, 0 ≤ psC q R i s j ∧ psC q R i s j < q
  | 0, j => by
    show 0 ≤ (if j = 0 then (1 : Int) else 0) ∧ (if j = 0 then (1 : Int) else 0) < q
    split <;> omega
  | s + 1, j => by
    unfold psC
    split
    · exact ps_in q q1 R i s j
    · exact ⟨fm_lo _ _ (by omega), fm_hi _ _ (by omega)⟩
theorem prd_at (R : Nat → Int) (i k : Nat) (hk : k ≠ i) : ∀ s, k < s → prd R i (R k) s = 0
  | s + 1, h => by
    unfold prd
    by_cases e : s = i
    · rw [if_pos e]; exact prd_at R i k hk s (by omega)
    · rw [if_neg e]
      by_cases e2 : s = k
      · rw [e2]; simp
      · rw [prd_at R i k hk s (by omega)]; simp
theorem prd_un (q : Int) (R : Nat → Int) (i n : Nat) (hi : i < n) (hu : ∀ i j, i < n → j < n → i ≠ j → Un q (R i - R j)) : ∀ s, s ≤ n → Un q (prd R i (R i) s)
  | 0, _ => Un.one
  | s + 1, h => by
    unfold prd
    by_cases e : s = i
    · rw [if_pos e]; exact prd_un q R i n hi hu s (by omega)
    · rw [if_neg e]; exact (hu i s hi (by omega) (fun z => e z.symm)).mul (prd_un q R i n hi hu s (by omega))
theorem Un.nd {q a : Int} (h : Un q a) (h1 : ¬ q ∣ 1) : ¬ q ∣ a := fun z => h1 (by
  obtain ⟨u, k, e⟩ := h
  obtain ⟨l, f⟩ := z
  exact ⟨l * u - k, by grind⟩)
/-- what is not divided by the prime is a unit by the power -/
theorem Mo.un {m t : Nat} {p q : Int} (M : Mo m t p q) {a : Int} (h : ¬ p ∣ a) : Un q a := by
  have p2 := M.p2
  have nd : ¬ p ∣ a.fmod p := fun z => h (by
    obtain ⟨k, e⟩ := fm_dv a p (by omega)
    obtain ⟨l, f⟩ := z
    exact ⟨k + l, by grind⟩)
  have b1 : bt p.natAbs ≤ 8 := bt_le (by show p.natAbs < 256; omega)
  have b2 := bt_mono (n := (a.fmod p).natAbs) (m := p.natAbs) (by have := fm_lo a p (by omega); have := fm_hi a p (by omega); omega)
  -- a by p^t: a rest by q
  have q0 : 0 < q := by have := M.pq; omega
  have nd2 : ¬ p ∣ a.fmod q := fun z => h (by
    obtain ⟨k, e⟩ := dv_tr M.dv (fm_dv a q q0)
    obtain ⟨l, f⟩ := z
    exact ⟨k + l, by grind⟩)
  have b3 := bt_in (fm_lo a q q0) (fm_hi a q q0) M.bq
  obtain ⟨y, _, hy, _⟩ := E_uw M (a.fmod q) (by omega) nd2
  refine ⟨y, ?_⟩
  obtain ⟨k, e⟩ := fm_dv a q q0
  obtain ⟨l, f⟩ := hy
  exact ⟨k * y + l, by grind⟩
theorem Mo.one {m t : Nat} {p q : Int} (M : Mo m t p q) : Mo m 1 p p := ⟨M.hm, M.ep, by rw [Int.pow_one], by omega, by omega⟩
theorem Un.down {p q a : Int} (h : Un q a) (d : p ∣ q) : Un p a := by
  obtain ⟨u, e⟩ := h
  exact ⟨u, dv_tr d e⟩
theorem E_atroot {m t : Nat} {p q : Int} (M : Mo m t p q) (n : Nat) (R : Nat → Int) (hn : n ≤ 700) (hR : ∀ j, 0 ≤ R j ∧ R j < q) (hu : ∀ i j, i < n → j < n → i ≠ j → Un q (R i - R j)) (i : Nat) (hi : i < n) :
    ∃ e : Nat → Int, (∀ h, F_poly_at_one_root [.tup (gen n fun j => .int (R j)), .int (R i), .int p, .int q] h = .ok (.tup (gen n fun j => .int (e j))) h) ∧ (∀ j, 0 ≤ e j ∧ e j < q) ∧ ∀ k, k < n → q ∣ Vp n e (R k) - (if k = i then 1 else 0) := by
  have p2 := M.p2
  have pq := M.pq
  have q0 : ¬ q = 0 := by omega
  have nd1 : ¬ q ∣ 1 := fun z => M.nd (dv_tr M.dv z)
  have Ln : psL i n = n := if_neg (by omega)
  have v := fun x => ps_val q (by omega) R i x n
  rw [Ln] at v
  have inn := ps_in q (by omega) R i
  have lp : ∀ h, _ := fun h => for_gen0 (h := h) (bind := bNm 5) (body := (sIf (eT (eOp oNe (eV 5) (eV 1))) (sSet 4 (eCall 3 F_times_straight [] (eCons (eVm 4) (eCons (eVm 5) (eCons (eVm 3) eNil))))) sNil)) (d := fun s => .int (R s)) (n := n)
    (fun s => [some (.tup (gen n fun j => .int (R j))), some (.int (R i)), some (.int p), some (.int q), some (wlD (psL i s) (psC q R i s)), lv none (fun s => .int (R s)) s, none, none]) fun s hs => by
      have ets := E_ts (psL i s) (psC q R i s) (R s) q h (by omega) (by unfold psL; split <;> omega) (fun j => bt_in (inn s j).1 (inn s j).2 M.bq) (bt_in (hR s).1 (hR s).2 M.bq)
      refine ⟨_, rfl, ?_⟩
      by_cases e : s = i
      · have a : psL i (s + 1) = psL i s := by unfold psL; rw [if_neg (by omega), if_pos (by omega)]
        have b : psC q R i (s + 1) = psC q R i s := if_pos e
        rw [a, b]
        have e2 : R s = R i := by rw [e]
        push_cast [lv_s, e2]
      · have a : psL i (s + 1) = psL i s + 1 := by unfold psL; split <;> split <;> omega
        have b : psC q R i (s + 1) = tsC q (psL i s) (psC q R i s) (R s) := if_neg e
        rw [a, b]
        have ne : ¬ R s = R i := fun z => by
          obtain ⟨u, k, ek⟩ := hu s i hs hi e
          rw [z] at ek
          exact nd1 ⟨-k, by grind⟩
        push_cast [lv_s, ne, wl_vm, ets]
  simp only [lv_0] at lp
  have w0 : wlD (psL i 0) (psC q R i 0) = .lst [.int 1] := by
    have : psL i 0 = 1 := if_pos (Nat.zero_le _)
    rw [this]
    rfl
  rw [w0, Ln] at lp
  have er := fun h => E_restat n (psC q R i n) (R i) q h (by omega) M.bq (by have := bt_in (hR i).1 (hR i).2 M.bq; omega)
  have er : ∀ h, F_rest_at [wlD n (psC q R i n), .int (R i), .int q] h = .ok (.int ((Vp n (psC q R i n) (R i)).fmod q)) h := er
  have un1 : Un q (Vp n (psC q R i n) (R i)) := (prd_un q R i n hi hu n (Nat.le_refl _)).cg (dv_sym (v (R i)))
  have ndp : ¬ p ∣ (Vp n (psC q R i n) (R i)).fmod q := fun z => (un1.down M.dv).nd M.nd (by
    obtain ⟨k, e⟩ := dv_tr M.dv (fm_dv (Vp n (psC q R i n) (R i)) q (by omega))
    obtain ⟨l, f⟩ := z
    exact ⟨k + l, by grind⟩)
  have bf := bt_in (fm_lo (Vp n (psC q R i n) (R i)) q (by omega)) (fm_hi _ _ (by omega)) M.bq
  obtain ⟨u, eu, du, u0, u1⟩ := E_uw M _ (by omega) ndp
  have m1 : ∀ j, j < n → cMul (psC q R i n j) u = true := fun j _ => cm_b (by have := bt_in (inn n j).1 (inn n j).2 M.bq; omega) (by have := bt_in u0 u1 M.bq; omega)
  refine ⟨fun j => (psC q R i n j * u).fmod q, fun h => ?_, fun j => ⟨fm_lo _ _ (by omega), fm_hi _ _ (by omega)⟩, fun k hk => ?_⟩
  · have lp := lp h
    unfold F_poly_at_one_root
    have gw : wlD n (psC q R i n) = .lst (gen n fun j => .int (psC q R i n j)) := rfl
    push_cast [lp, wl_vm, er, eu]
    rw [gw]
    push_cast [m1, q0]
  · have h1 := Vp_cg n (fun j => (psC q R i n j * u).fmod q) (fun j => u * psC q R i n j) q (R k) fun j _ => by
      obtain ⟨l, e⟩ := fm_dv2 (psC q R i n j * u) q (by omega)
      exact ⟨l, by grind⟩
    rw [Vp_mul] at h1
    by_cases e : k = i
    · rw [if_pos e]
      rw [e] at h1 ⊢
      obtain ⟨a, ea⟩ := h1
      obtain ⟨b, eb⟩ := du
      obtain ⟨c, ec⟩ := fm_dv (Vp n (psC q R i n) (R i)) q (by omega)
      exact ⟨a + b + c * u, by grind⟩
    · rw [if_neg e]
      have z := v (R k)
      rw [prd_at R i k e n hk] at z
      obtain ⟨a, ea⟩ := h1
      obtain ⟨b, eb⟩ := z
      exact ⟨a + u * b, by grind⟩
theorem sum_pow {q : Int} (n s : Nat) (R : Nat → Int) (e : Nat → Nat → Int) (he : ∀ i k, i < n → k < n → q ∣ Vp n (e i) (R k) - (if k = i then 1 else 0)) (l : Nat) (hl : l < n) :
    q ∣ Vp n (fun i => sumZ n fun k => R k ^ s * e k i) (R l) - R l ^ s := by
  rw [Vp_sum n n (fun k i => R k ^ s * e k i) (R l)]
  have h := sumZ_cg (q := q) n (fun k => Vp n (fun i => R k ^ s * e k i) (R l)) (fun k => if k = l then R l ^ s else 0) fun k hk => by
    rw [Vp_mul]
    obtain ⟨a, ea⟩ := he k l hk hl
    by_cases z : k = l
    · rw [if_pos z]
      rw [if_pos z.symm] at ea
      rw [z] at ea ⊢
      exact ⟨R l ^ s * a, by grind⟩
    · rw [if_neg z]
      rw [if_neg (fun w => z w.symm)] at ea
      exact ⟨R k ^ s * a, by grind⟩
  rw [sumZ_one n l _ hl] at h
  exact h
theorem sum_unit {q : Int} (n s : Nat) (R : Nat → Int) (e : Nat → Nat → Int) (he : ∀ i k, i < n → k < n → q ∣ Vp n (e i) (R k) - (if k = i then 1 else 0)) (hu : ∀ i j, i < n → j < n → i ≠ j → Un q (R i - R j)) (hs : s < n) (i : Nat) (hi : i < n) :
    q ∣ (sumZ n fun k => R k ^ s * e k i) - (if i = s then 1 else 0) := by
  have := Vp_zero n (fun i => (sumZ n fun k => R k ^ s * e k i) + (-1) * (if i = s then 1 else 0)) R q hu (fun l hl => by
    rw [Vp_add, Vp_mul, Vp_one n s _ hs]
    obtain ⟨a, ea⟩ := sum_pow n s R e he l hl
    exact ⟨a, by grind⟩) i hi
  obtain ⟨a, ea⟩ := this
  exact ⟨a, by grind⟩
theorem sum_last {q : Int} (n : Nat) (R w : Nat → Int) (e : Nat → Nat → Int) (he : ∀ i k, i < n → k < n → q ∣ Vp n (e i) (R k) - (if k = i then 1 else 0)) (hu : ∀ i j, i < n → j < n → i ≠ j → Un q (R i - R j)) (hw : w n = 1) (hr : ∀ l, l < n → q ∣ Vp (n + 1) w (R l)) (i : Nat) (hi : i < n) :
    q ∣ (sumZ n fun k => R k ^ n * e k i) + w i := by
  refine Vp_zero n (fun i => (sumZ n fun k => R k ^ n * e k i) + w i) R q hu (fun l hl => ?_) i hi
  rw [Vp_add]
  obtain ⟨a, ea⟩ := sum_pow n n R e he l hl
  obtain ⟨b, eb⟩ := hr l hl
  rw [Vp_up, hw] at eb
  exact ⟨a + b, by grind⟩
end B78
set_option exponentiation.threshold 20000
namespace Lw
open PySem PySem.Spec L2 Fw Pd Dz
def eqL : List D → List D → Bool
  | [], [] => true
  | x :: xs, y :: ys => eqB x y && eqL xs ys
  | _, _ => false
theorem eqB_py {m : Nat} {x y : D} {p q : PyData} (hx : Pl0 m x) (hy : Pl0 m y) (hm : m ≤ 64) (e1 : toPy x = some p) (e2 : toPy y = some q) : eqB x y = PyData.eqv p q := by
  unfold eqB eqD
  rw [e1, e2]
  simp only [pl_sh hx hm e1, pl_sh hy hm e2, Bool.and_self, if_true, Option.getD_some]
theorem eqL_py {m : Nat} (hm : m ≤ 64) : ∀ {xs ys : List D} {ps qs : List PyData}, (∀ x ∈ xs, Pl0 m x) → (∀ y ∈ ys, Pl0 m y) → toPyL xs = some ps → toPyL ys = some qs → PyData.eqvAll ps qs = eqL xs ys
  | [], [], _, _, _, _, e1, e2 => by
    unfold toPyL at e1 e2
    cases e1
    cases e2
    simp only [PyData.eqvAll, eqL]
  | [], y :: ys, _, _, _, hy, e1, e2 => by
    unfold toPyL at e1 e2
    cases e1
    obtain ⟨q, eq, _⟩ := hy y List.mem_cons_self
    rw [eq] at e2
    cases q2 : toPyL ys with
    | none => rw [q2] at e2; cases e2
    | some r =>
      rw [q2] at e2
      cases e2
      simp only [PyData.eqvAll, eqL]
  | x :: xs, [], _, _, hx, _, e1, e2 => by
    unfold toPyL at e1 e2
    cases e2
    obtain ⟨q, eq, _⟩ := hx x List.mem_cons_self
    rw [eq] at e1
    cases q2 : toPyL xs with
    | none => rw [q2] at e1; cases e1
    | some r =>
      rw [q2] at e1
      cases e1
      simp only [PyData.eqvAll, eqL]
  | x :: xs, y :: ys, _, _, hx, hy, e1, e2 => by
    unfold toPyL at e1 e2
    obtain ⟨p, ep, _⟩ := hx x List.mem_cons_self
    obtain ⟨q, eq, _⟩ := hy y List.mem_cons_self
    rw [ep] at e1
    rw [eq] at e2
    cases q1 : toPyL xs with
    | none => rw [q1] at e1; cases e1
    | some ps =>
      cases q2 : toPyL ys with
      | none => rw [q2] at e2; cases e2
      | some qs =>
        rw [q1] at e1
        rw [q2] at e2
        cases e1
        cases e2
        simp only [PyData.eqvAll, eqL]
        rw [eqB_py (hx x List.mem_cons_self) (hy y List.mem_cons_self) hm ep eq, eqL_py hm (fun z hz => hx z (List.mem_cons_of_mem _ hz)) (fun z hz => hy z (List.mem_cons_of_mem _ hz)) q1 q2]
theorem lc_filterL {bind : D → DE → Option DE} {test : EF Bool} {elt : EF D} {δ : DE} {h : D} {d e : Nat → D} (P : Nat → Bool) : ∀ (L : List Nat), (∀ a, a ∈ L → ∃ δ2, bind (d a) δ = some δ2 ∧ test δ2 h = .ok (P a) h ∧ (P a = true → elt δ2 h = .ok (e a) h)) → lcGo bind test elt δ (L.map d) h = .ok ((L.filter P).map e) h
  | [], _ => rfl
  | a :: L, st => by
    obtain ⟨δ2, e1, e2, e3⟩ := st a List.mem_cons_self
    have ih := lc_filterL (bind := bind) (test := test) (elt := elt) (δ := δ) (h := h) (d := d) (e := e) P L fun b hb => st b (List.mem_cons_of_mem _ hb)
    rw [List.map_cons, lcGo, List.filter_cons]
    cases q : P a with
    | true =>
      rw [q] at e2
      simp only [e1, e2, e3 q, ih, nox_okE, bind_okE, if_true, List.map_cons]
    | false =>
      rw [q] at e2
      simp only [e1, e2, ih, nox_okE, bind_okE, if_false, Bool.false_eq_true]
end Lw
set_option exponentiation.threshold 20000
namespace B78
open PySem PySem.Spec L2 Fw Pd Dz Lw
/-- a fraction by the prime -/
def rdK (k : Fg) (x : Rat) : k.K := ic k x.num * Fd.inv (ic k (x.den : Int))
theorem kp_pos {k : Fg} (hp : k.p ≠ 0) : 0 < k.p ∧ k.p ≤ 13 ∧ 2 ≤ k.p := by
  cases k with
  | q => exact absurd pq hp
  | m m hm => rw [pm]; omega
theorem ht_m {k : Fg} (hp : k.p ≠ 0) (x : k.K) : ht k x = 0 := by
  cases k with
  | q => exact absurd pq hp
  | m m hm => rfl
theorem enc_ic {k : Fg} (hp : k.p ≠ 0) (i : Int) : enc k (ic k i) = .int (i.fmod k.p) := by
  cases k with
  | q => exact absurd pq hp
  | m m hm => rw [encM_a, ic_val, pm]
theorem enc_icn {k : Fg} (j : Nat) (hj : j < k.p.toNat) : enc k (ic k (j : Int)) = .int (j : Int) := by
  have hp : k.p ≠ 0 := fun z => by rw [z] at hj; exact absurd hj (Nat.not_lt_zero _)
  rw [enc_ic hp, Int.fmod_eq_emod_of_nonneg _ (by omega), Int.emod_eq_of_lt (by omega) (by omega)]
theorem ic_z {k : Fg} (hp : k.p ≠ 0) (i : Int) : ic k i = 0 ↔ k.p ∣ i := by
  have h0 := (kp_pos hp).1
  rw [← fm_0 h0]
  have q1 := eq_enc k (ic k i) 0
  have z := enc_ic hp i
  have z0 := enc_ic hp 0
  rw [ic_0, Int.zero_fmod] at z0
  constructor
  · intro e
    rw [e, z0] at z
    injection z with z
    exact z.symm
  · intro e
    rw [e] at z
    rw [z, z0] at q1
    by_cases c : ic k i = 0
    · exact c
    · rw [decide_eq_false c, eq_int] at q1
      simp at q1
theorem ic_e {k : Fg} (hp : k.p ≠ 0) {i j : Int} (h : k.p ∣ i - j) : ic k i = ic k j := by
  have := (ic_z hp (i - j)).mpr h
  rw [ic_sub] at this
  grind
theorem E_numof {k : Fg} (hp : k.p ≠ 0) (x : Rat) (h : D) (hd : ¬ k.p ∣ (x.den : Int)) : F_Figures_number_of [fig k, encQ x] h = .ok (enc k (rdK k x)) h := by
  have h0 := (kp_pos hp).1
  have e := E_fover k (ic k x.num) (ic k (x.den : Int)) h (fun z => hd ((ic_z hp _).mp z)) (by rw [ht_m hp, ht_m hp]; omega)
  rw [enc_ic hp, enc_ic hp] at e
  have nd : ¬ ((x.den : Int).fmod k.p = 0) := fun z => hd ((fm_0 h0).mp z)
  unfold rdK
  unfold F_Figures_number_of encQ
  push_cast [fig_vd, fig_vm, fig_p, hp, nd, eMeth_f, md_over, e]
theorem E_numof_bad {k : Fg} (hp : k.p ≠ 0) (x : Rat) (h : D) (hd : k.p ∣ (x.den : Int)) : F_Figures_number_of [fig k, encQ x] h = .exc "BadNumber" [] h := by
  have h0 := (kp_pos hp).1
  have nd : (x.den : Int).fmod k.p = 0 := (fm_0 h0).mpr hd
  unfold F_Figures_number_of encQ
  push_cast [fig_vd, fig_vm, fig_p, hp, nd]
theorem lcX_raise {bind : D → DE → Option DE} {test : EF Bool} {elt : EF D} {δ : DE} {h : D} {n : Str} {fs : List (Str × D)} : ∀ (ds : List D), (∀ x ∈ ds, ∃ δ2, bind x δ = some δ2 ∧ test δ2 h = .ok true h ∧ ((∃ y, elt δ2 h = .ok y h) ∨ elt δ2 h = .exc n fs h)) →
    (∃ x ∈ ds, ∃ δ2, bind x δ = some δ2 ∧ elt δ2 h = .exc n fs h) → lcGoX bind test elt δ ds h = .exc n fs h
  | [], _, ⟨x, hx, _⟩ => nomatch hx
  | x :: xs, k, r => by
    obtain ⟨δ2, e1, e2, e3⟩ := k x List.mem_cons_self
    unfold lcGoX
    simp only [e1, e2, nox_okE, bind_okE, if_true]
    rcases e3 with ⟨y, e3⟩ | e3
    · have ih := lcX_raise xs (fun z hz => k z (List.mem_cons_of_mem _ hz)) (by
        obtain ⟨z, hz, δ3, f1, f2⟩ := r
        rcases List.mem_cons.mp hz with q | q
        · subst q
          rw [e1] at f1
          cases f1
          rw [e3] at f2
          cases f2
        · exact ⟨z, q, δ3, f1, f2⟩)
      simp only [e3, bind_okE, ih, bind_excE]
    · simp only [e3, bind_excE]
theorem E_numsby {k : Fg} (hp : k.p ≠ 0) (n : Nat) (f : Nat → Rat) (h : D) (hn : n ≤ 800) (hd : ∀ j, j < n → ¬ k.p ∣ ((f j).den : Int)) : F_numbers_by [fig k, .tup (gen n fun j => encQ (f j))] h = .ok (erow k n fun j => rdK k (f j)) h := by
  have e : ∀ j, j < n → ∀ h, F_Figures_number_of [fig k, encQ (f j)] h = .ok (enc k (rdK k (f j))) h := fun j hj h => E_numof hp (f j) h (hd j hj)
  have en : ∀ (x : Rat) h, vmD (some (some (encQ x))) h = .ok (encQ x) h := fun x h => vmD_fr rfl
  have lc : lcGo (bNm 2) tYesD (eMeth "Figures" "number_of" 2 F_Figures_number_of [] (eV 0) (eCons (eVm 2) eNil)) [some (fig k), some (.tup (gen n fun j => encQ (f j))), none] (gen n fun j => encQ (f j)) h = .ok (gen n fun j => enc k (rdK k (f j))) h := by
    push_cast [fig_vd, eMeth_f, md_number_of, en, e]
  unfold F_numbers_by erow
  push_cast [eLcX_a, lcX_ok lc]
theorem E_numsby_bad {k : Fg} (hp : k.p ≠ 0) (n : Nat) (f : Nat → Rat) (h : D) (hn : n ≤ 800) (hd : ∃ j, j < n ∧ k.p ∣ ((f j).den : Int)) : F_numbers_by [fig k, .tup (gen n fun j => encQ (f j))] h = .exc "BadNumber" [] h := by
  have en : ∀ (x : Rat) h, vmD (some (some (encQ x))) h = .ok (encQ x) h := fun x h => vmD_fr rfl
  have el : ∀ j, (eMeth "Figures" "number_of" 2 F_Figures_number_of [] (eV 0) (eCons (eVm 2) eNil)) [some (fig k), some (.tup (gen n fun j => encQ (f j))), some (encQ (f j))] h = F_Figures_number_of [fig k, encQ (f j)] h := fun j => by
    push_cast [fig_vd, eMeth_f, md_number_of, en]
  have lc : lcGoX (bNm 2) tYesD (eMeth "Figures" "number_of" 2 F_Figures_number_of [] (eV 0) (eCons (eVm 2) eNil)) [some (fig k), some (.tup (gen n fun j => encQ (f j))), none] (gen n fun j => encQ (f j)) h = .exc "BadNumber" [] h := by
    refine lcX_raise _ (fun x hx => ?_) ?_
    · obtain ⟨j, hj, rfl⟩ := gen_mem.mp hx
      refine ⟨_, rfl, rfl, ?_⟩
      show (∃ y, (eMeth "Figures" "number_of" 2 F_Figures_number_of [] (eV 0) (eCons (eVm 2) eNil)) [some (fig k), some (.tup (gen n fun j => encQ (f j))), some (encQ (f j))] h = .ok y h) ∨ (eMeth "Figures" "number_of" 2 F_Figures_number_of [] (eV 0) (eCons (eVm 2) eNil)) [some (fig k), some (.tup (gen n fun j => encQ (f j))), some (encQ (f j))] h = .exc "BadNumber" [] h
      rw [el]
      by_cases z : k.p ∣ ((f j).den : Int)
      · exact .inr (E_numof_bad hp (f j) h z)
      · exact .inl ⟨_, E_numof hp (f j) h z⟩
    · obtain ⟨j, hj, z⟩ := hd
      refine ⟨encQ (f j), gen_mem.mpr ⟨j, hj, rfl⟩, _, rfl, ?_⟩
      show (eMeth "Figures" "number_of" 2 F_Figures_number_of [] (eV 0) (eCons (eVm 2) eNil)) [some (fig k), some (.tup (gen n fun j => encQ (f j))), some (encQ (f j))] h = _
      rw [el]
      exact E_numof_bad hp (f j) h z
  unfold F_numbers_by
  push_cast [eLcX_a, lc]
theorem E_bval {k : Fg} (hp : k.p ≠ 0) (n : Nat) (f : Nat → k.K) (x : k.K) (h : D) : F_bare_value [fig k, erow k (n + 1) f, enc k x] h = .ok (enc k (hor f x n n)) h := by
  have lp := for_gen0 (h := h) (bind := bNm 4) (body := bvBody) (d := fun s => enc k (f (n + 1 - 1 - s))) (n := n + 1)
    (fun s => [some (fig k), some (erow k (n + 1) f), some (enc k x), some (enc k (horS f x n s)), lv none (fun s => enc k (f (n + 1 - 1 - s))) s]) fun s hs => by
      have e1 := E_ftimes k (horS f x n s) x h (by rw [ht_m hp, ht_m hp]; omega)
      have e2 := E_fplus k (horS f x n s * x) (f (n - s)) h (by rw [ht_m hp, ht_m hp]; omega)
      rw [horS_s (by omega)] at e2
      have ei : n + 1 - 1 - s = n - s := by omega
      refine ⟨_, rfl, ?_⟩
      rw [lv_s, ei]
      unfold bvBody
      push_cast [eMeth_f, md_times, md_plus, fig_vd, fig_vm, enc_vm, e1, e2]
  simp only [lv_0] at lp
  have z0 : horS f x n 0 = 0 := rfl
  have z1 : horS f x n (n + 1) = hor f x n n := rfl
  rw [z0, z1] at lp
  unfold bvBody at lp
  unfold F_bare_value
  unfold erow at lp ⊢
  push_cast [fig_z, eRv_a, rvD_t, sfz, lp, enc_vd]
theorem E_lval {k : Fg} (hp : k.p ≠ 0) (n : Nat) (f : Nat → k.K) (x : k.K) (h : D) (hn : n ≤ 800) : F__law_value [.int k.p, .lst (gen (n + 1) fun j => enc k (f j)), enc k x] h = .ok (enc k (hor f x n n)) h := by
  have e0 := E_num0 k h
  have nn : ((n + 1 : Nat) : Int) - 1 = n := by omega
  have lp := for_gen0 (h := h) (bind := bNm 4) (body := (sSet 3 (eCall 3 F__law_plus [] (eCons (eVm 0) (eCons (eCall 3 F__law_times [] (eCons (eVm 0) (eCons (eVm 3) (eCons (eVm 2) eNil)))) (eCons (eOp oIx (eV 1) (eOp oSub (eOp oSub (eBi kLen (eCons (eV 1) eNil)) (eC (.int 1))) (eV 4))) eNil)))))) (d := fun s => .int (s : Int)) (n := n + 1)
    (fun s => [some (.int k.p), some (.lst (gen (n + 1) fun j => enc k (f j))), some (enc k x), some (enc k (horS f x n s)), lv none (fun s => .int (s : Int)) s]) fun s hs => by
      have e1 := E_times k (horS f x n s) x h (by rw [ht_m hp, ht_m hp]; omega)
      have e2 := E_plus k (horS f x n s * x) (f (n - s)) h (by rw [ht_m hp, ht_m hp]; omega)
      rw [horS_s (by omega)] at e2
      have ei : ((n : Int) - (s : Int)) = ((n - s : Nat) : Int) := by omega
      have at_ : atI (gen (n + 1) fun j => enc k (f j)) ((n - s : Nat) : Int) = some (enc k (f (n - s))) := by
        have := atI_gen (n := n + 1) (f := fun j => enc k (f j)) (i := ((n - s : Nat) : Int)) (by omega) (by omega)
        rw [Int.toNat_natCast] at this
        exact this
      refine ⟨_, rfl, ?_⟩
      push_cast [lv_s, nn, ei, at_, enc_vm, e1, e2]
  simp only [lv_0] at lp
  have z0 : horS f x n 0 = 0 := rfl
  have z1 : horS f x n (n + 1) = hor f x n n := rfl
  rw [z0, z1] at lp
  unfold F__law_value
  push_cast [e0, lp, enc_vd]
/-- the same by whole numbers -/
theorem hor_vp {k : Fg} (hp : k.p ≠ 0) (n : Nat) (w : Nat → Int) (x : Int) : ∀ s, s ≤ n → hor (fun j => ic k (w j)) (ic k x) n s = ic k (Vp (s + 1) (fun j => w (n - s + j)) x)
  | 0, _ => by
    show ic k (w n) = ic k (w (n - 0 + 0) + x * 0)
    rw [Int.mul_zero, Int.add_zero]
    rfl
  | s + 1, hs => by
    have ih := hor_vp hp n w x s (by omega)
    have e1 : (fun j => w (n - (s + 1) + (j + 1))) = fun j => w (n - s + j) := by
      funext j
      congr 1
      omega
    show ic k (w (n - (s + 1))) + ic k x * hor (fun j => ic k (w j)) (ic k x) n s = _
    rw [Vp_s, ic_add, ic_mul, e1, ih]
    rfl
theorem hor_z {k : Fg} (hp : k.p ≠ 0) (n : Nat) (w : Nat → Int) (x : Int) : hor (fun j => ic k (w j)) (ic k x) n n = 0 ↔ k.p ∣ Vp (n + 1) w x := by
  rw [hor_vp hp n w x n (Nat.le_refl _), ic_z hp]
  have e : (fun j => w (n - n + j)) = w := by
    funext j
    congr 1
    omega
  rw [e]
/-- the reading is what the poly by a power is by the prime -/
theorem rdK_w {k : Fg} (hp : k.p ≠ 0) (x : Rat) (w : Int) (hd : ¬ k.p ∣ (x.den : Int)) (h : k.p ∣ w * x.den - x.num) : rdK k x = ic k w := by
  have e := ic_e hp h
  rw [ic_mul] at e
  have d0 : ic k (x.den : Int) ≠ 0 := fun z => hd ((ic_z hp _).mp z)
  have i1 := Fd.mul_inv (ic k (x.den : Int)) d0
  unfold rdK
  rw [← e]
  grind
end B78
set_option exponentiation.threshold 20000
namespace Lw
open PySem PySem.Spec L2 Fw Pd Dz
end Lw
set_option exponentiation.threshold 20000
namespace Lw
open PySem PySem.Spec L2 Fw Pd Dz
def nats (L : List Nat) : List D := L.map fun i : Nat => D.int (i : Int)
theorem frz_nats (L : List Nat) : frzL (nats L) = nats L := frzL_nat L
end Lw
set_option exponentiation.threshold 20000
namespace B78
open PySem PySem.Spec L2 Fw Pd Dz Lw
def rts (k : Fg) (n : Nat) (r : Nat → k.K) : List Nat := (List.range k.p.toNat).filter fun j => decide (hor r (ic k (j : Int)) n n = 0)
theorem E_allp {k : Fg} (hp : k.p ≠ 0) (h : D) : F_Figures_all_numbers [fig k] h = .ok (.tup ((List.range k.p.toNat).map fun j : Nat => .int (j : Int))) h := by
  cases k with
  | q => exact absurd pq hp
  | m m hm => exact E_all m hm h
theorem len_rng (n : Nat) (f : Nat → D) : ((List.range n).map f).length = n := by rw [List.length_map, List.length_range]
theorem E_broots {k : Fg} (hp : k.p ≠ 0) (n : Nat) (r : Nat → k.K) (h : D) : F_bare_roots [fig k, erow k (n + 1) r] h = .ok (.tup (nats (rts k n r))) h := by
  have h0 := kp_pos hp
  have ea := fun h => E_allp hp h
  have lc := lc_filterL (bind := bNm 2) (test := (eT (eOp oEq (eCall 3 F_bare_value [] (eCons (eVm 0) (eCons (eVm 1) (eCons (eVm 2) eNil)))) (eAtV 0 "zero")))) (elt := eV 2) (δ := [some (fig k), some (erow k (n + 1) r), none]) (h := h) (d := fun j : Nat => D.int (j : Int)) (e := fun j : Nat => D.int (j : Int))
    (fun j => decide (hor r (ic k (j : Int)) n n = 0)) (List.range k.p.toNat) fun a ha => by
      have al := List.mem_range.mp ha
      have eb := E_bval hp n r (ic k (a : Int)) h
      rw [enc_icn a al] at eb
      refine ⟨_, rfl, ?_, fun _ => ?_⟩
      · have q := eq_enc k (hor r (ic k (a : Int)) n n) 0
        by_cases z : hor r (ic k (a : Int)) n n = 0
        · rw [decide_eq_true z] at q ⊢
          push_cast [fig_vm, erow_vm, eb, fig_z, q]
        · rw [decide_eq_false z] at q ⊢
          push_cast [fig_vm, erow_vm, eb, fig_z, q]
      · push_cast []
  have ln := len_rng k.p.toNat fun j : Nat => D.int (j : Int)
  have sz : szOk k.p.toNat = true := sz_ok (by omega)
  have fz : frzL ((rts k n r).map fun j : Nat => D.int (j : Int)) = nats (rts k n r) := frz_nats _
  unfold rts at fz
  unfold F_bare_roots
  unfold rts
  push_cast [fig_p, hp, fig_vd, eMeth_f, md_all_numbers, ea, ln, sz, lc, fz]
  rfl
theorem nats_len (L : List Nat) : (nats L).length = L.length := List.length_map ..
theorem nats_vd {L : List Nat} {h : D} : vD (some (some (.tup (nats L)))) h = .ok (.tup (nats L)) h := (rfl)
theorem E_comes {k : Fg} (hp : k.p ≠ 0) (n : Nat) (r : Nat → k.K) (h : D) (hn : n + 1 ≤ 12) (r1 : r n = 1) : F_comes_apart [fig k, erow k (n + 1) r] h = .ok (if (rts k n r).length = n then .tup (nats (rts k n r)) else .non) h := by
  have e1 := E_chkpoly k false n r h hn (by rw [r1]; exact fun z => Fd.z_ne (K := k.K) z.symm)
  rw [srow_t] at e1
  have e2 := E_broots hp n r h
  have n0 : ¬ ((n + 1 : Nat) : Int) = 0 := by omega
  have n1 : ((n + 1 : Nat) : Int) - 1 = (n : Int) := by omega
  have nz : F_check_not_zero [fig k, erow k (n + 1) r] h = .ok (erow k (n + 1) r) h := by
    unfold erow at e1 ⊢
    unfold F_check_not_zero
    push_cast [fig_vm, e1, n0]
  unfold F_comes_apart
  by_cases c : (rts k n r).length = n
  · rw [if_pos c]
    have nl := (nats_len (rts k n r)).trans c
    have sz : szOk n = true := sz_ok (by omega)
    unfold erow at nz e2 ⊢
    push_cast [fig_vm, nz, e2, nats_vd, nl, n1]
  · rw [if_neg c]
    have nl := nats_len (rts k n r)
    have ne : ¬ (((rts k n r).length : Nat) : Int) = (n : Int) := by omega
    unfold erow at nz e2 ⊢
    push_cast [fig_vm, nz, e2, nats_vd, nl, n1, ne]
theorem mk0 (δ : DE) (h : D) : eMake "Figures" 2 F_Figures___init__ [] (eCons (eC (.int 0)) eNil) δ h = .ok (fig .q) h := by
  have e := E_init .q
  rw [pq] at e
  rw [eMake_a]
  push_cast [e]
  rfl
theorem E_offered {k : Fg} (hp : k.p ≠ 0) (h : D) : F_is_offered_prime [.int k.p] h = .ok (.bl true) h := by
  have e := wh_nn k.p h
  have i : inP (.int k.p) (.tup tup_PRIMES) = some true := by
    cases k with
    | q => exact absurd pq hp
    | m m hm => rcases hm with rfl | rfl | rfl | rfl | rfl | rfl <;> decide +kernel
  unfold F_is_offered_prime
  push_cast [e, oInP_a, i]
theorem E_chkprime {k : Fg} (hp : k.p ≠ 0) (h : D) : F_check_prime [.int k.p] h = .ok .non h := by
  have e := E_offered hp h
  unfold F_check_prime
  push_cast [e]
theorem E_chkfp (b : Bool) (n : Nat) (f : Nat → Rat) (h : D) (n1 : 1 ≤ n) (hn : n ≤ 5) (f1 : f n = 1) : F_check_fraction_poly [srow .q b (n + 1) f] h = .ok (erow .q (n + 1) f) h := by
  have e : F_check_led_poly [fig .q, srow .q b (n + 1) f, .int 1, .int 5] h = _ := E_ledp .q b n 5 f h n1 hn (by omega) f1
  unfold F_check_fraction_poly
  push_cast [↓mk0, srow_vm, e]
def raD {k : Fg} (n : Nat) (f : Nat → Rat) (r : Nat → k.K) : D := .tup [erow .q (n + 1) f, .tup (nats (rts k n r))]
theorem E_chkraised {k : Fg} (hp : k.p ≠ 0) (b : Bool) (n t : Nat) (f : Nat → Rat) (h : D) (n1 : 1 ≤ n) (hn : n ≤ 5) (f1 : f n = 1) (t1 : 1 ≤ t) (t2 : t ≤ 30) (hd : ∀ j, j < n + 1 → ¬ k.p ∣ ((f j).den : Int)) :
    F_check_raised [srow .q b (n + 1) f, .int k.p, .int (t : Int)] h = if (rts k n fun j => rdK k (f j)).length = n then .ok (raD n f fun j => rdK k (f j)) h else .exc "NotApart" [] h := by
  have e1 := E_chkfp b n f h n1 hn f1
  have e2 := E_chkprime hp h
  have e3 := wh_ii (t : Int) 1 30 h
  rw [decide_eq_true (show (1 : Int) ≤ t by omega), decide_eq_true (show (t : Int) ≤ 30 by omega)] at e3
  have mk : ∀ (a c d e : Option D) (g : D), eMake "Figures" 2 F_Figures___init__ [] (eCons (eV 1) eNil) [a, some (.int k.p), c, d, e] g = .ok (fig k) g := fun a c d e g => E_make k _ g 1 rfl
  have e4 : F_numbers_by [fig k, erow .q (n + 1) f] h = _ := E_numsby hp (n + 1) f h (by omega) hd
  have r1 : rdK k (f n) = 1 := by
    rw [f1]
    have i1 : ic k ((1 : Rat).num) = 1 := ic_1 k
    have i2 : ic k (((1 : Rat).den : Nat) : Int) = 1 := ic_1 k
    unfold rdK
    rw [i1, i2]
    have := Fd.mul_inv (1 : k.K) (fun z => Fd.z_ne (K := k.K) z.symm)
    exact this
  have e5 := E_comes hp n (fun j => rdK k (f j)) h (by omega) r1
  unfold F_check_raised raD
  by_cases c : (rts k n fun j => rdK k (f j)).length = n
  · rw [if_pos c] at e5 ⊢
    push_cast [srow_vm, e1, e2, e3, ↓mk, fig_vm, erow_vm, erow_vd, e4, e5, nats_vd]
  · rw [if_neg c] at e5 ⊢
    push_cast [srow_vm, e1, e2, e3, ↓mk, fig_vm, erow_vm, erow_vd, e4, e5]
theorem E_chkraised_num {k : Fg} (hp : k.p ≠ 0) (b : Bool) (n t : Nat) (f : Nat → Rat) (h : D) (n1 : 1 ≤ n) (hn : n ≤ 5) (f1 : f n = 1) (t1 : 1 ≤ t) (t2 : t ≤ 30) (hd : ∃ j, j < n + 1 ∧ k.p ∣ ((f j).den : Int)) :
    F_check_raised [srow .q b (n + 1) f, .int k.p, .int (t : Int)] h = .exc "BadNumber" [] h := by
  have e1 := E_chkfp b n f h n1 hn f1
  have e2 := E_chkprime hp h
  have e3 := wh_ii (t : Int) 1 30 h
  rw [decide_eq_true (show (1 : Int) ≤ t by omega), decide_eq_true (show (t : Int) ≤ 30 by omega)] at e3
  have mk : ∀ (a c d e : Option D) (g : D), eMake "Figures" 2 F_Figures___init__ [] (eCons (eV 1) eNil) [a, some (.int k.p), c, d, e] g = .ok (fig k) g := fun a c d e g => E_make k _ g 1 rfl
  have e4 : F_numbers_by [fig k, erow .q (n + 1) f] h = _ := E_numsby_bad hp (n + 1) f h (by omega) hd
  unfold F_check_raised
  push_cast [srow_vm, e1, e2, e3, ↓mk, fig_vm, erow_vm, erow_vd, e4]
end B78
set_option exponentiation.threshold 20000
namespace B78
open PySem PySem.Spec L2 Fw Pd Dz Lw
theorem mo_of {k : Fg} (hp : k.p ≠ 0) {t : Nat} (t1 : 1 ≤ t) (t30 : t ≤ 30) : ∃ m, Mo m t k.p (k.p ^ t) := by
  cases k with
  | q => exact absurd pq hp
  | m m hm => exact ⟨m, hm, pm, rfl, t1, t30⟩
/-- a poly as the law draws it -/
structure Dp (n : Nat) (f : Nat → Rat) : Prop where
  n1 : 1 ≤ n
  n5 : n ≤ 5
  one : f n = 1
  high : ∀ j, n < j → f j = 0
  sm : ∀ j, hq (f j) ≤ 300
/-- no bottom is divided by the prime -/
def Can (k : Fg) (f : Nat → Rat) : Prop := ∀ j, ¬ k.p ∣ ((f j).den : Int)
theorem Dp.can {k : Fg} {n : Nat} {f : Nat → Rat} (P : Dp n f) (hp : k.p ≠ 0) (h : ∀ j, j < n + 1 → ¬ k.p ∣ ((f j).den : Int)) : Can k f := fun j => by
  by_cases c : j < n + 1
  · exact h j c
  · rw [P.high j (by omega)]
    intro z
    have := kp_pos hp
    have := Int.le_of_dvd (by decide) z
    have e : (((0 : Rat).den : Nat) : Int) = 1 := rfl
    omega
/-- the poly by the power, in whole numbers -/
structure Wp (k : Fg) (q : Int) (n : Nat) (f : Nat → Rat) (w : Nat → Int) : Prop where
  dv : ∀ j, q ∣ w j * (f j).den - (f j).num
  lo : ∀ j, 0 ≤ w j
  hi : ∀ j, w j < q
  one : w n = 1
  rd : ∀ j, rdK k (f j) = ic k (w j)
theorem wp_of {k : Fg} (hp : k.p ≠ 0) {n t m : Nat} {q : Int} {f : Nat → Rat} (P : Dp n f) (M : Mo m t k.p q) (hc : Can k f) : ∃ w, (∀ h, F_wholes_by [erow .q (n + 1) f, .int k.p, .int q] h = .ok (wlD (n + 1) w) h) ∧ Wp k q n f w := by
  obtain ⟨w, e, hw⟩ := E_wholes M (n + 1) f (by have := P.n5; omega) P.sm hc
  have p2 := M.p2
  have pq := M.pq
  refine ⟨w, e, fun j => (hw j).1, fun j => (hw j).2.1, fun j => (hw j).2.2, ?_, fun j => rdK_w hp (f j) (w j) (hc j) (dv_tr M.dv (hw j).1)⟩
  have := (hw n).1
  rw [P.one] at this
  have e1 : (((1 : Rat).den : Nat) : Int) = 1 := rfl
  have e2 : (1 : Rat).num = 1 := rfl
  rw [e1, e2, Int.mul_one] at this
  exact dv_small this (hw n).2.1 (hw n).2.2 (by omega) (by omega)
/-- the i-th root by the prime -/
def rI (L : List Nat) (i : Nat) : Int := ((L[i]?.getD 0 : Nat) : Int)
theorem nats_gen (L : List Nat) : nats L = gen L.length fun i => .int (rI L i) := by
  unfold nats
  refine List.ext_getElem (by rw [List.length_map, gen_len]) fun i h1 h2 => ?_
  rw [List.length_map] at h1
  have : (gen L.length fun i => D.int (rI L i))[i]? = some (.int (rI L i)) := gen_get h1
  rw [List.getElem?_eq_getElem h2] at this
  injection this with this
  rw [this, List.getElem_map]
  unfold rI
  rw [List.getElem?_eq_getElem h1]
  rfl
theorem rts_mem {k : Fg} (hp : k.p ≠ 0) {n : Nat} {q : Int} {f : Nat → Rat} {w : Nat → Int} (W : Wp k q n f w) (j : Nat) : j ∈ rts k n (fun j => rdK k (f j)) ↔ j < k.p.toNat ∧ k.p ∣ Vp (n + 1) w j := by
  unfold rts
  rw [List.mem_filter, List.mem_range, decide_eq_true_eq]
  have : (fun j => rdK k (f j)) = fun j => ic k (w j) := funext W.rd
  rw [this, hor_z hp]
theorem rts_nd (k : Fg) (n : Nat) (r : Nat → k.K) : (rts k n r).Nodup := List.Nodup.sublist List.filter_sublist List.nodup_range
structure Ri (p : Int) (n N : Nat) (w r : Nat → Int) : Prop where
  lo : ∀ i, 0 ≤ r i
  hi : ∀ i, r i < p
  root : ∀ i, i < N → p ∣ Vp (n + 1) w (r i)
  un : ∀ i j, i < N → j < N → i ≠ j → ¬ p ∣ r i - r j
theorem ri_of {k : Fg} (hp : k.p ≠ 0) {n : Nat} {q : Int} {f : Nat → Rat} {w : Nat → Int} (W : Wp k q n f w) : Ri k.p n (rts k n fun j => rdK k (f j)).length w (rI (rts k n fun j => rdK k (f j))) := by
  have nd := rts_nd k n fun j => rdK k (f j)
  have mem := rts_mem hp W
  have h0 := kp_pos hp
  generalize rts k n (fun j => rdK k (f j)) = L at *
  have at_ : ∀ i, (h : i < L.length) → rI L i = ((L[i] : Nat) : Int) := fun i h => by
    unfold rI
    rw [List.getElem?_eq_getElem h]
    rfl
  have lo : ∀ i, 0 ≤ rI L i := fun i => by unfold rI; omega
  have hi : ∀ i, rI L i < k.p := fun i => by
    by_cases c : i < L.length
    · rw [at_ i c]
      have := ((mem L[i]).mp (List.getElem_mem c)).1
      omega
    · unfold rI
      rw [List.getElem?_eq_none (by omega)]
      show ((0 : Nat) : Int) < _
      omega
  refine ⟨lo, hi, fun i h => ?_, fun i j h1 h2 ne z => ?_⟩
  · rw [at_ i h]
    exact ((mem L[i]).mp (List.getElem_mem h)).2
  · have e := dv_small z (lo i) (hi i) (lo j) (hi j)
    rw [at_ i h1, at_ j h2] at e
    exact ne ((List.getElem_inj nd).mp (Int.ofNat_inj.mp e))
/-- no more roots than the degree -/
theorem rts_few {k : Fg} (hp : k.p ≠ 0) {n t m : Nat} {q : Int} {f : Nat → Rat} {w : Nat → Int} (M : Mo m t k.p q) (W : Wp k q n f w) : (rts k n fun j => rdK k (f j)).length ≤ n := by
  have R := ri_of hp W
  by_cases c : (rts k n fun j => rdK k (f j)).length ≤ n
  · exact c
  · exfalso
    exact Vp_few n w (rI (rts k n fun j => rdK k (f j))) k.p M.nd W.one (fun i j h1 h2 ne => M.one.un (R.un i j (by omega) (by omega) ne)) fun i hi => R.root i (by omega)
/-- the roots raised -/
structure Up (p q : Int) (n : Nat) (w r R : Nat → Int) : Prop where
  lo : ∀ i, 0 ≤ R i
  hi : ∀ i, R i < q
  root : ∀ i, i < n → q ∣ Vp (n + 1) w (R i)
  ov : ∀ i, i < n → p ∣ R i - r i
  un : ∀ i j, i < n → j < n → i ≠ j → Un q (R i - R j)
theorem up_of {m t n : Nat} {p q : Int} {w r : Nat → Int} (M : Mo m t p q) (hn : n ≤ 700) (w0 : ∀ j, 0 ≤ w j) (w1 : ∀ j, w j < q) (wn : w n = 1) (R : Ri p n n w r) :
    ∃ R : Nat → Int, (∀ i, i < n → ∀ h, F_raised_root [wlD (n + 1) w, .int (r i), .int p, .int q] h = .ok (.int (R i)) h) ∧ Up p q n w r R := by
  have p2 := M.p2
  have pq := M.pq
  have ex : ∀ i, ∃ y : Int, (i < n → ∀ h, F_raised_root [wlD (n + 1) w, .int (r i), .int p, .int q] h = .ok (.int y) h) ∧ (i < n → q ∣ Vp (n + 1) w y ∧ p ∣ y - r i) ∧ 0 ≤ y ∧ y < q := fun i => by
    by_cases c : i < n
    · obtain ⟨y, e, a, b, c0, c1⟩ := E_rroot M n w (r i) (by omega) (fun j => by have := bt_in (w0 j) (w1 j) M.bq; omega) (R.lo i) (R.hi i) (R.root i c)
        (Vp_slope_ne n w r p M.nd wn (fun i j h1 h2 ne => M.one.un (R.un i j h1 h2 ne)) (fun i hi => R.root i hi) i c)
      exact ⟨y, fun _ => e, fun _ => ⟨a, b⟩, c0, c1⟩
    · exact ⟨0, fun h => absurd h c, fun h => absurd h c, by omega, by omega⟩
  obtain ⟨Y, hY⟩ := choose1 ex
  refine ⟨Y, fun i hi => (hY i).1 hi, fun i => (hY i).2.2.1, fun i => (hY i).2.2.2, fun i hi => ((hY i).2.1 hi).1, fun i hi => ((hY i).2.1 hi).2, fun i j h1 h2 ne => M.un fun z => R.un i j h1 h2 ne ?_⟩
  obtain ⟨a, ea⟩ := ((hY i).2.1 h1).2
  obtain ⟨b, eb⟩ := ((hY j).2.1 h2).2
  obtain ⟨c, ec⟩ := z
  exact ⟨c - a + b, by grind⟩
theorem E_rbp {m t n : Nat} {p q : Int} {w r R : Nat → Int} (f : Nat → Rat) (h : D) (hn : n ≤ 700) (ew : ∀ h, F_wholes_by [erow .q (n + 1) f, .int p, .int q] h = .ok (wlD (n + 1) w) h) (er : ∀ i, i < n → ∀ h, F_raised_root [wlD (n + 1) w, .int (r i), .int p, .int q] h = .ok (.int (R i)) h) :
    F_roots_by_power [erow .q (n + 1) f, .tup (gen n fun i => .int (r i)), .int p, .int q] h = .ok (.tup (gen n fun i => .int (R i))) h := by
  unfold F_roots_by_power
  push_cast [erow_vm, ew, wl_vm, er]
/-- products for the square pair of the poly, by the power -/
def rsD (q : Int) (n : Nat) (e : Nat → Nat → Int) (R : Nat → Int) : D := .ins "Raised" [("modulus", .int q), ("products", .tup (gen n fun i => .tup [.tup (gen n fun j => .int (e i j)), .tup (gen n fun j => .int (rpw (R i) q j)), .int 1, .int (R i)]))]
end B78
set_option exponentiation.threshold 20000
namespace B78
open PySem PySem.Spec L2 Fw Pd Dz Lw
theorem m78_PoPo : msOf [("DividedByNought", false), ("BadFigures", false), ("BadNumber", false), ("BadPoly", true), ("NotApart", false), ("BadPrime", false), ("BadTimes", false)] "BadPoly" = some true := by decide +kernel
theorem m78_PoPr : msOf [("DividedByNought", false), ("BadFigures", false), ("BadNumber", false), ("BadPoly", true), ("NotApart", false), ("BadPrime", false), ("BadTimes", false)] "BadPrime" = some false := by decide +kernel
theorem m78_PoTi : msOf [("DividedByNought", false), ("BadFigures", false), ("BadNumber", false), ("BadPoly", true), ("NotApart", false), ("BadPrime", false), ("BadTimes", false)] "BadTimes" = some false := by decide +kernel
theorem m78_PoNu : msOf [("DividedByNought", false), ("BadFigures", false), ("BadNumber", false), ("BadPoly", true), ("NotApart", false), ("BadPrime", false), ("BadTimes", false)] "BadNumber" = some false := by decide +kernel
theorem m78_PoAp : msOf [("DividedByNought", false), ("BadFigures", false), ("BadNumber", false), ("BadPoly", true), ("NotApart", false), ("BadPrime", false), ("BadTimes", false)] "NotApart" = some false := by decide +kernel
theorem m78_PrPr : msOf [("DividedByNought", false), ("BadFigures", false), ("BadNumber", false), ("BadPoly", false), ("NotApart", false), ("BadPrime", true), ("BadTimes", false)] "BadPrime" = some true := by decide +kernel
theorem m78_PrTi : msOf [("DividedByNought", false), ("BadFigures", false), ("BadNumber", false), ("BadPoly", false), ("NotApart", false), ("BadPrime", true), ("BadTimes", false)] "BadTimes" = some false := by decide +kernel
theorem m78_PrNu : msOf [("DividedByNought", false), ("BadFigures", false), ("BadNumber", false), ("BadPoly", false), ("NotApart", false), ("BadPrime", true), ("BadTimes", false)] "BadNumber" = some false := by decide +kernel
theorem m78_PrAp : msOf [("DividedByNought", false), ("BadFigures", false), ("BadNumber", false), ("BadPoly", false), ("NotApart", false), ("BadPrime", true), ("BadTimes", false)] "NotApart" = some false := by decide +kernel
theorem m78_TiTi : msOf [("DividedByNought", false), ("BadFigures", false), ("BadNumber", false), ("BadPoly", false), ("NotApart", false), ("BadPrime", false), ("BadTimes", true)] "BadTimes" = some true := by decide +kernel
theorem m78_TiNu : msOf [("DividedByNought", false), ("BadFigures", false), ("BadNumber", false), ("BadPoly", false), ("NotApart", false), ("BadPrime", false), ("BadTimes", true)] "BadNumber" = some false := by decide +kernel
theorem m78_TiAp : msOf [("DividedByNought", false), ("BadFigures", false), ("BadNumber", false), ("BadPoly", false), ("NotApart", false), ("BadPrime", false), ("BadTimes", true)] "NotApart" = some false := by decide +kernel
theorem m78_NuNu : msOf [("DividedByNought", false), ("BadFigures", false), ("BadNumber", true), ("BadPoly", false), ("NotApart", false), ("BadPrime", false), ("BadTimes", false)] "BadNumber" = some true := by decide +kernel
theorem m78_NuAp : msOf [("DividedByNought", false), ("BadFigures", false), ("BadNumber", true), ("BadPoly", false), ("NotApart", false), ("BadPrime", false), ("BadTimes", false)] "NotApart" = some false := by decide +kernel
theorem m78_ApAp : msOf [("DividedByNought", false), ("BadFigures", false), ("BadNumber", false), ("BadPoly", false), ("NotApart", true), ("BadPrime", false), ("BadTimes", false)] "NotApart" = some true := by decide +kernel
theorem c78_1 : (["BadPoly", "BadPrime"] : List Str).contains "BadPoly" = true := by decide +kernel
theorem c78_2 : (["BadPoly", "BadPrime"] : List Str).contains "BadPrime" = true := by decide +kernel
theorem c78_3 : (["BadPoly"] : List Str).contains "BadPoly" = true := by decide +kernel
theorem l78_i (w i : D) : List.lookup ("index" : Str) [("what", w), ("index", i)] = some i := rfl
theorem l78_w (w i : D) : List.lookup ("what" : Str) [("what", w), ("index", i)] = some w := rfl
theorem l78_p (i : D) : List.lookup ("index" : Str) [("index", i)] = some i := rfl
theorem E_rtPo (a b c : D) (fa : a.fr = true) (fb : b.fr = true) (fc : c.fr = true) (w i : D) (fw : w.fr = true) (fi : i.fr = true) (h : D) (e : F_raised_roots [a, b, c] h = .exc "BadPoly" [("what", w), ("index", i)] h) : F__law_roots_told [a, b, c] h = .ok (.lst [.str "poly", i, w]) h := by
  have va : ∀ h, vmD (some (some a)) h = .ok a h := fun h => vmD_fr fa
  have vb : ∀ h, vmD (some (some b)) h = .ok b h := fun h => vmD_fr fb
  have vc : ∀ h, vmD (some (some c)) h = .ok c h := fun h => vmD_fr fc
  have sfi := sfz_id fi
  have sfw := sfz_id fw
  unfold F__law_roots_told
  push_cast [va, vb, vc, e, hd_hit m78_PoPo, dropFl, drop_ret, c78_1, c78_3, l78_i, l78_w, sfi, sfw]
theorem E_rtPr (a b c : D) (fa : a.fr = true) (fb : b.fr = true) (fc : c.fr = true) (i : D) (fi : i.fr = true) (h : D) (e : F_raised_roots [a, b, c] h = .exc "BadPrime" [("index", i)] h) : F__law_roots_told [a, b, c] h = .ok (.lst [.str "prime", i]) h := by
  have va : ∀ h, vmD (some (some a)) h = .ok a h := fun h => vmD_fr fa
  have vb : ∀ h, vmD (some (some b)) h = .ok b h := fun h => vmD_fr fb
  have vc : ∀ h, vmD (some (some c)) h = .ok c h := fun h => vmD_fr fc
  have sfi := sfz_id fi
  unfold F__law_roots_told
  push_cast [va, vb, vc, e, hd_miss m78_PoPr, hd_hit m78_PrPr, dropFl, drop_ret, c78_2, l78_p, sfi]
theorem E_rtTi (a b c : D) (fa : a.fr = true) (fb : b.fr = true) (fc : c.fr = true) (h : D) (e : F_raised_roots [a, b, c] h = .exc "BadTimes" [] h) : F__law_roots_told [a, b, c] h = .ok (.lst [.str "times"]) h := by
  have va : ∀ h, vmD (some (some a)) h = .ok a h := fun h => vmD_fr fa
  have vb : ∀ h, vmD (some (some b)) h = .ok b h := fun h => vmD_fr fb
  have vc : ∀ h, vmD (some (some c)) h = .ok c h := fun h => vmD_fr fc
  unfold F__law_roots_told
  push_cast [va, vb, vc, e, hd_miss m78_PoTi, hd_miss m78_PrTi, hd_hit0 m78_TiTi, dropFl, drop_ret]
theorem E_rtNu (a b c : D) (fa : a.fr = true) (fb : b.fr = true) (fc : c.fr = true) (h : D) (e : F_raised_roots [a, b, c] h = .exc "BadNumber" [] h) : F__law_roots_told [a, b, c] h = .ok (.lst [.str "number"]) h := by
  have va : ∀ h, vmD (some (some a)) h = .ok a h := fun h => vmD_fr fa
  have vb : ∀ h, vmD (some (some b)) h = .ok b h := fun h => vmD_fr fb
  have vc : ∀ h, vmD (some (some c)) h = .ok c h := fun h => vmD_fr fc
  unfold F__law_roots_told
  push_cast [va, vb, vc, e, hd_miss m78_PoNu, hd_miss m78_PrNu, hd_miss m78_TiNu, hd_hit0 m78_NuNu, dropFl, drop_ret]
theorem E_rtAp (a b c : D) (fa : a.fr = true) (fb : b.fr = true) (fc : c.fr = true) (h : D) (e : F_raised_roots [a, b, c] h = .exc "NotApart" [] h) : F__law_roots_told [a, b, c] h = .ok (.lst [.str "apart"]) h := by
  have va : ∀ h, vmD (some (some a)) h = .ok a h := fun h => vmD_fr fa
  have vb : ∀ h, vmD (some (some b)) h = .ok b h := fun h => vmD_fr fb
  have vc : ∀ h, vmD (some (some c)) h = .ok c h := fun h => vmD_fr fc
  unfold F__law_roots_told
  push_cast [va, vb, vc, e, hd_miss m78_PoAp, hd_miss m78_PrAp, hd_miss m78_TiAp, hd_miss m78_NuAp, hd_hit0 m78_ApAp, dropFl, drop_ret]
theorem E_rtok (a b c x : D) (fa : a.fr = true) (fb : b.fr = true) (fc : c.fr = true) (fx_ : x.fr = true) (h : D) (e : F_raised_roots [a, b, c] h = .ok x h) : F__law_roots_told [a, b, c] h = .ok (.lst [.str "roots", x]) h := by
  have va : ∀ h, vmD (some (some a)) h = .ok a h := fun h => vmD_fr fa
  have vb : ∀ h, vmD (some (some b)) h = .ok b h := fun h => vmD_fr fb
  have vc : ∀ h, vmD (some (some c)) h = .ok c h := fun h => vmD_fr fc
  have vx : ∀ h, vD (some (some x)) h = .ok x h := fun h => vD_fr fx_
  unfold F__law_roots_told
  push_cast [va, vb, vc, e, vx]
theorem E_ptPo (a b c : D) (fa : a.fr = true) (fb : b.fr = true) (fc : c.fr = true) (w i : D) (fw : w.fr = true) (fi : i.fr = true) (h : D) (e : F_raised_products [a, b, c] h = .exc "BadPoly" [("what", w), ("index", i)] h) : F__law_products_told [a, b, c] h = .ok (.lst [.str "poly", i, w]) h := by
  have va : ∀ h, vmD (some (some a)) h = .ok a h := fun h => vmD_fr fa
  have vb : ∀ h, vmD (some (some b)) h = .ok b h := fun h => vmD_fr fb
  have vc : ∀ h, vmD (some (some c)) h = .ok c h := fun h => vmD_fr fc
  have sfi := sfz_id fi
  have sfw := sfz_id fw
  unfold F__law_products_told
  push_cast [va, vb, vc, e, hd_hit m78_PoPo, dropFl, drop_ret, c78_1, c78_3, l78_i, l78_w, sfi, sfw]
theorem E_ptPr (a b c : D) (fa : a.fr = true) (fb : b.fr = true) (fc : c.fr = true) (i : D) (fi : i.fr = true) (h : D) (e : F_raised_products [a, b, c] h = .exc "BadPrime" [("index", i)] h) : F__law_products_told [a, b, c] h = .ok (.lst [.str "prime", i]) h := by
  have va : ∀ h, vmD (some (some a)) h = .ok a h := fun h => vmD_fr fa
  have vb : ∀ h, vmD (some (some b)) h = .ok b h := fun h => vmD_fr fb
  have vc : ∀ h, vmD (some (some c)) h = .ok c h := fun h => vmD_fr fc
  have sfi := sfz_id fi
  unfold F__law_products_told
  push_cast [va, vb, vc, e, hd_miss m78_PoPr, hd_hit m78_PrPr, dropFl, drop_ret, c78_2, l78_p, sfi]
theorem E_ptTi (a b c : D) (fa : a.fr = true) (fb : b.fr = true) (fc : c.fr = true) (h : D) (e : F_raised_products [a, b, c] h = .exc "BadTimes" [] h) : F__law_products_told [a, b, c] h = .ok (.lst [.str "times"]) h := by
  have va : ∀ h, vmD (some (some a)) h = .ok a h := fun h => vmD_fr fa
  have vb : ∀ h, vmD (some (some b)) h = .ok b h := fun h => vmD_fr fb
  have vc : ∀ h, vmD (some (some c)) h = .ok c h := fun h => vmD_fr fc
  unfold F__law_products_told
  push_cast [va, vb, vc, e, hd_miss m78_PoTi, hd_miss m78_PrTi, hd_hit0 m78_TiTi, dropFl, drop_ret]
theorem E_ptNu (a b c : D) (fa : a.fr = true) (fb : b.fr = true) (fc : c.fr = true) (h : D) (e : F_raised_products [a, b, c] h = .exc "BadNumber" [] h) : F__law_products_told [a, b, c] h = .ok (.lst [.str "number"]) h := by
  have va : ∀ h, vmD (some (some a)) h = .ok a h := fun h => vmD_fr fa
  have vb : ∀ h, vmD (some (some b)) h = .ok b h := fun h => vmD_fr fb
  have vc : ∀ h, vmD (some (some c)) h = .ok c h := fun h => vmD_fr fc
  unfold F__law_products_told
  push_cast [va, vb, vc, e, hd_miss m78_PoNu, hd_miss m78_PrNu, hd_miss m78_TiNu, hd_hit0 m78_NuNu, dropFl, drop_ret]
theorem E_ptAp (a b c : D) (fa : a.fr = true) (fb : b.fr = true) (fc : c.fr = true) (h : D) (e : F_raised_products [a, b, c] h = .exc "NotApart" [] h) : F__law_products_told [a, b, c] h = .ok (.lst [.str "apart"]) h := by
  have va : ∀ h, vmD (some (some a)) h = .ok a h := fun h => vmD_fr fa
  have vb : ∀ h, vmD (some (some b)) h = .ok b h := fun h => vmD_fr fb
  have vc : ∀ h, vmD (some (some c)) h = .ok c h := fun h => vmD_fr fc
  unfold F__law_products_told
  push_cast [va, vb, vc, e, hd_miss m78_PoAp, hd_miss m78_PrAp, hd_miss m78_TiAp, hd_miss m78_NuAp, hd_hit0 m78_ApAp, dropFl, drop_ret]
theorem E_ptok (a b c x : D) (fa : a.fr = true) (fb : b.fr = true) (fc : c.fr = true) (fx_ : x.fr = true) (h : D) (e : F_raised_products [a, b, c] h = .ok x h) : F__law_products_told [a, b, c] h = .ok (.lst [.str "products", x]) h := by
  have va : ∀ h, vmD (some (some a)) h = .ok a h := fun h => vmD_fr fa
  have vb : ∀ h, vmD (some (some b)) h = .ok b h := fun h => vmD_fr fb
  have vc : ∀ h, vmD (some (some c)) h = .ok c h := fun h => vmD_fr fc
  have vx : ∀ h, vD (some (some x)) h = .ok x h := fun h => vD_fr fx_
  unfold F__law_products_told
  push_cast [va, vb, vc, e, vx]
end B78
set_option exponentiation.threshold 20000
namespace B78
open PySem PySem.Spec L2 Fw Pd Dz Lw
theorem rr_exc (a b c : D) (fa : a.fr = true) (fb : b.fr = true) (fc : c.fr = true) (h : D) (n : Str) (fs : List (Str × D)) (e : F_check_raised [a, b, c] h = .exc n fs h) : F_raised_roots [a, b, c] h = .exc n fs h ∧ F_raised_products [a, b, c] h = .exc n fs h := by
  have va : ∀ h, vmD (some (some a)) h = .ok a h := fun h => vmD_fr fa
  have vb : ∀ h, vmD (some (some b)) h = .ok b h := fun h => vmD_fr fb
  have vc : ∀ h, vmD (some (some c)) h = .ok c h := fun h => vmD_fr fc
  constructor
  · unfold F_raised_roots
    push_cast [va, vb, vc, e]
  · unfold F_raised_products
    push_cast [va, vb, vc, e]
def raw (b : Bool) (n : Nat) (f : Nat → Rat) : D := srow .q b (n + 1) f
theorem raw_fr {b : Bool} {n : Nat} {f : Nat → Rat} : (raw b n f).fr = true := sq_fr
theorem told_num {k : Fg} (hp : k.p ≠ 0) (b : Bool) (n t : Nat) (f : Nat → Rat) (h : D) (P : Dp n f) (t1 : 1 ≤ t) (t2 : t ≤ 30) (hd : ∃ j, j < n + 1 ∧ k.p ∣ ((f j).den : Int)) :
    F__law_roots_told [raw b n f, .int k.p, .int (t : Int)] h = .ok (.lst [.str "number"]) h ∧ F__law_products_told [raw b n f, .int k.p, .int (t : Int)] h = .ok (.lst [.str "number"]) h := by
  have e := rr_exc (raw b n f) (.int k.p) (.int (t : Int)) raw_fr rfl rfl h _ _ (E_chkraised_num hp b n t f h P.n1 P.n5 P.one t1 t2 hd)
  exact ⟨E_rtNu _ _ _ raw_fr rfl rfl h e.1, E_ptNu _ _ _ raw_fr rfl rfl h e.2⟩
theorem told_apart {k : Fg} (hp : k.p ≠ 0) (b : Bool) (n t : Nat) (f : Nat → Rat) (h : D) (P : Dp n f) (t1 : 1 ≤ t) (t2 : t ≤ 30) (hd : Can k f) (hl : (rts k n fun j => rdK k (f j)).length ≠ n) :
    F__law_roots_told [raw b n f, .int k.p, .int (t : Int)] h = .ok (.lst [.str "apart"]) h ∧ F__law_products_told [raw b n f, .int k.p, .int (t : Int)] h = .ok (.lst [.str "apart"]) h := by
  have c := E_chkraised hp b n t f h P.n1 P.n5 P.one t1 t2 fun j _ => hd j
  rw [if_neg hl] at c
  have e := rr_exc (raw b n f) (.int k.p) (.int (t : Int)) raw_fr rfl rfl h _ _ c
  exact ⟨E_rtAp _ _ _ raw_fr rfl rfl h e.1, E_ptAp _ _ _ raw_fr rfl rfl h e.2⟩
/-- roots and products, where the poly comes apart -/
structure Good (p q : Int) (n : Nat) (w r R : Nat → Int) (e : Nat → Nat → Int) : Prop where
  up : Up p q n w r R
  lo : ∀ i j, 0 ≤ e i j
  hi : ∀ i j, e i j < q
  one : ∀ i k, i < n → k < n → q ∣ Vp n (e i) (R k) - (if k = i then 1 else 0)
theorem rs_fr {q : Int} {n : Nat} {e : Nat → Nat → Int} {R : Nat → Int} : (rsD q n e R).fr = true := rfl
theorem rinit (q : Int) (ps : List D) : F_Raised___init__ [.me, .int q, .tup ps] (.ins "Raised" []) = .ok .non (.ins "Raised" [("modulus", .int q), ("products", .tup ps)]) := rfl
theorem told_good {k : Fg} (hp : k.p ≠ 0) (b : Bool) (n t : Nat) (f : Nat → Rat) (P : Dp n f) (t1 : 1 ≤ t) (t2 : t ≤ 30) (hd : Can k f) (hl : (rts k n fun j => rdK k (f j)).length = n) :
    ∃ (w R : Nat → Int) (e : Nat → Nat → Int), Wp k (k.p ^ t) n f w ∧ Good k.p (k.p ^ t) n w (rI (rts k n fun j => rdK k (f j))) R e ∧
      ∀ h, F__law_roots_told [raw b n f, .int k.p, .int (t : Int)] h = .ok (.lst [.str "roots", .tup (gen n fun i => .int (R i))]) h ∧ F__law_products_told [raw b n f, .int k.p, .int (t : Int)] h = .ok (.lst [.str "products", rsD (k.p ^ t) n e R]) h := by
  obtain ⟨m, M⟩ := mo_of hp t1 t2
  obtain ⟨w, ew, W⟩ := wp_of hp P M hd
  have Rr := ri_of hp W
  rw [hl] at Rr
  have n5 := P.n5
  obtain ⟨R, er, U⟩ := up_of M (by omega) W.lo W.hi W.one Rr
  have qb : 1 < k.p ^ t := by have := M.pq; have := M.p2; omega
  have ex : ∀ i, ∃ e : Nat → Int, (i < n → ∀ h, F_poly_at_one_root [.tup (gen n fun j => .int (R j)), .int (R i), .int k.p, .int (k.p ^ t)] h = .ok (.tup (gen n fun j => .int (e j))) h) ∧ (∀ j, 0 ≤ e j ∧ e j < k.p ^ t) ∧ (i < n → ∀ l, l < n → k.p ^ t ∣ Vp n e (R l) - (if l = i then 1 else 0)) := fun i => by
    by_cases c : i < n
    · obtain ⟨e, a1, a2, a3⟩ := E_atroot M n R (by omega) (fun j => ⟨U.lo j, U.hi j⟩) U.un i c
      exact ⟨e, fun _ => a1, a2, fun _ => a3⟩
    · exact ⟨fun _ => 0, fun h => absurd h c, fun j => ⟨Int.le_refl 0, by show (0 : Int) < _; omega⟩, fun h => absurd h c⟩
  obtain ⟨e, he⟩ := choose1 ex
  refine ⟨w, R, e, W, ⟨U, fun i j => ((he i).2.1 j).1, fun i j => ((he i).2.1 j).2, fun i l hi hl => (he i).2.2 hi l hl⟩, fun h => ?_⟩
  have ck : ∀ h, F_check_raised [raw b n f, .int k.p, .int (t : Int)] h = .ok (.tup [erow .q (n + 1) f, .tup (gen n fun i => .int (rI (rts k n fun j => rdK k (f j)) i))]) h := fun h => by
    have c := E_chkraised hp b n t f h P.n1 P.n5 P.one t1 t2 fun j _ => hd j
    rw [if_pos hl] at c
    unfold raD at c
    rw [nats_gen, hl] at c
    exact c
  have pw := fun h => E_powerof k.p t h (by omega) (bt_le (b := 8) (by have := M.p2; show k.p.natAbs < 256; omega))
  have rb := fun h => E_rbp (m := m) (t := t) (r := rI (rts k n fun j => rdK k (f j))) f h (by omega) ew er
  have va : ∀ h, vmD (some (some (raw b n f))) h = .ok (raw b n f) h := fun h => vmD_fr raw_fr
  have rr : ∀ h, F_raised_roots [raw b n f, .int k.p, .int (t : Int)] h = .ok (.tup (gen n fun i => .int (R i))) h := fun h => by
    unfold F_raised_roots
    push_cast [va, ck, erow_vm, pw, rb]
  have ea : ∀ i, i < n → ∀ h, F_poly_at_one_root [.tup (gen n fun j => .int (R j)), .int (R i), .int k.p, .int (k.p ^ t)] h = .ok (.tup (gen n fun j => .int (e i j))) h := fun i hi => (he i).1 hi
  have ep : ∀ i, i < n → ∀ h, F_power_row_by [.int (R i), .int (n : Int), .int (k.p ^ t)] h = .ok (.tup (gen n fun j => .int (rpw (R i) (k.p ^ t) j))) h := fun i _ h => E_prow (R i) (k.p ^ t) n h qb M.bq (bt_in (U.lo i) (U.hi i) M.bq) P.n1 (by omega)
  have rp : ∀ h, F_raised_products [raw b n f, .int k.p, .int (t : Int)] h = .ok (rsD (k.p ^ t) n e R) h := fun h => by
    unfold F_raised_products rsD
    push_cast [va, ck, erow_vm, pw, rb, ea, ep, rinit]
  exact ⟨E_rtok _ _ _ _ raw_fr rfl rfl rfl h (rr h), E_ptok _ _ _ _ raw_fr rfl rfl rs_fr h (rp h)⟩
end B78
set_option exponentiation.threshold 20000
namespace B78
open PySem PySem.Spec L2 Fw Pd Dz Lw
theorem E_lread {k : Fg} (hp : k.p ≠ 0) (x : Rat) (h : D) (hd : ¬ k.p ∣ (x.den : Int)) : F__law_read [.int k.p, encQ x] h = .ok (enc k (rdK k x)) h := by
  have h0 := (kp_pos hp).1
  have e := E_over k (ic k x.num) (ic k (x.den : Int)) h (fun z => hd ((ic_z hp _).mp z)) (by rw [ht_m hp, ht_m hp]; omega)
  rw [enc_ic hp, enc_ic hp] at e
  unfold rdK
  unfold F__law_read encQ
  push_cast [hp, e]
theorem rng_gen (n : Nat) : (gen n fun j => D.int (j : Int)) = (List.range n).map fun j : Nat => D.int (j : Int) := rfl
theorem E_lroots {k : Fg} (hp : k.p ≠ 0) (n : Nat) (r : Nat → k.K) (h : D) (hn : n ≤ 800) : F__law_roots [.int k.p, .lst (gen (n + 1) fun j => enc k (r j))] h = .ok (.lst (nats (rts k n r))) h := by
  have h0 := kp_pos hp
  have z0 : enc k 0 = .int 0 := by have := enc_ic hp 0; rw [ic_0, Int.zero_fmod] at this; exact this
  have vl : ∀ h, vmD (some (some (.lst (gen (n + 1) fun j => enc k (r j))))) h = .ok (.lst (gen (n + 1) fun j => enc k (r j))) h := fun h => vmD_fr rfl
  have lc := lc_filterL (bind := bNm 2) (test := (eT (eOp oEq (eCall 3 F__law_value [] (eCons (eVm 0) (eCons (eVm 1) (eCons (eVm 2) eNil)))) (eC (.int 0))))) (elt := eV 2) (δ := [some (.int k.p), some (.lst (gen (n + 1) fun j => enc k (r j))), none]) (h := h) (d := fun j : Nat => D.int (j : Int)) (e := fun j : Nat => D.int (j : Int))
    (fun j => decide (hor r (ic k (j : Int)) n n = 0)) (List.range k.p.toNat) fun a ha => by
      have al := List.mem_range.mp ha
      have eb := E_lval hp n r (ic k (a : Int)) h hn
      rw [enc_icn a al] at eb
      refine ⟨_, rfl, ?_, fun _ => ?_⟩
      · have q := eq_enc k (hor r (ic k (a : Int)) n n) 0
        rw [z0] at q
        by_cases z : hor r (ic k (a : Int)) n n = 0
        · rw [decide_eq_true z] at q ⊢
          push_cast [eb, q]
        · rw [decide_eq_false z] at q ⊢
          push_cast [eb, q]
      · push_cast []
  rw [← rng_gen] at lc
  have sz : szOk k.p.toNat = true := sz_ok (by omega)
  have fz : frzL ((rts k n r).map fun j : Nat => D.int (j : Int)) = nats (rts k n r) := frz_nats _
  unfold rts at fz
  unfold F__law_roots
  unfold rts
  push_cast [sz, lc, fz]
  rfl
theorem E_lextra {k : Fg} (hp : k.p ≠ 0) (n : Nat) (r : Nat → k.K) (h : D) (hn : n ≤ 800) : F__law_extra [.int k.p, .lst (gen (n + 1) fun j => enc k (r j))] h = .ok (.int (if (rts k n r).length < n then 1 else 0)) h := by
  have e := E_lroots hp n r h hn
  have nl := nats_len (rts k n r)
  have n1 : ((n + 1 : Nat) : Int) - 1 = (n : Int) := by omega
  have vl : ∀ h, vmD (some (some (.lst (gen (n + 1) fun j => enc k (r j))))) h = .ok (.lst (gen (n + 1) fun j => enc k (r j))) h := fun h => vmD_fr rfl
  unfold F__law_extra
  by_cases c : (rts k n r).length < n
  · have c2 : (((rts k n r).length : Nat) : Int) < (n : Int) := by omega
    rw [if_pos c]
    push_cast [e, nl, n1, c2, kInt_b]
  · have c2 : ¬ (((rts k n r).length : Nat) : Int) < (n : Int) := by omega
    rw [if_neg c]
    push_cast [e, nl, n1, c2, kInt_b]
/-- a list against the empty one -/
theorem eqB_l78 {m : Nat} {xs ys : List D} (hm : m + 1 ≤ 64) (hx : ∀ x ∈ xs, Pl0 m x) (hy : ∀ y ∈ ys, Pl0 m y) : eqB (.lst xs) (.lst ys) = eqL xs ys := by
  obtain ⟨ps, e1, _⟩ := pl_all hx
  obtain ⟨qs, e2, _⟩ := pl_all hy
  have t1 : toPy (.lst xs) = some (.list ps) := by unfold toPy; rw [e1]; rfl
  have t2 : toPy (.lst ys) = some (.list qs) := by unfold toPy; rw [e2]; rfl
  rw [eqB_py (pl_lst hx) (pl_lst hy) hm t1 t2]
  simp only [PyData.eqv]
  exact eqL_py (by omega) hx hy e1 e2
theorem frzL_all : ∀ (ds : List D), (∀ d ∈ ds, d.fr = true) → frzL ds = ds
  | [], _ => rfl
  | d :: ds, h => by
    show frz d :: frzL ds = _
    rw [frz_id (h d List.mem_cons_self), frzL_all ds fun x hx => h x (List.mem_cons_of_mem _ hx)]
theorem lst_nil {m : Nat} {xs : List D} (hm : m + 1 ≤ 64) (hx : ∀ x ∈ xs, Pl0 m x) : eqD (.lst xs) (.lst []) = some xs.isEmpty := by
  cases xs with
  | nil => rfl
  | cons x xs =>
    rw [eq_pl (pl_lst hx) (pl_lst (n := m) fun d hd => (List.not_mem_nil hd).elim) hm, eqB_l78 hm hx fun d hd => (List.not_mem_nil hd).elim]
    rfl
theorem E_lcan {k : Fg} (hp : k.p ≠ 0) (n : Nat) (f : Nat → Rat) (h : D) (hn : n ≤ 800) : F__law_can [.int k.p, raw true n f] h = .ok (.bl (((List.range (n + 1)).filter fun j => decide (k.p ∣ ((f j).den : Int))).isEmpty)) h := by
  have h0 := (kp_pos hp).1
  have lc := lc_filterL (bind := bNm 2) (test := (eT (eOp oEq (eOp oMod (eBi kInt (eCons (eOp oIx (eV 2) (eC (.int 1))) eNil)) (eV 0)) (eC (.int 0))))) (elt := eV 2) (δ := [some (.int k.p), some (.lst (gen (n + 1) fun j => encQ (f j))), none]) (h := h) (d := fun j : Nat => encQ (f j)) (e := fun j : Nat => encQ (f j))
    (fun j => decide (k.p ∣ ((f j).den : Int))) (List.range (n + 1)) fun a ha => by
      refine ⟨_, rfl, ?_, fun _ => ?_⟩
      · by_cases z : k.p ∣ ((f a).den : Int)
        · have z2 := (fm_0 h0).mpr z
          rw [decide_eq_true z]
          unfold encQ
          push_cast [hp, z2]
        · have z2 : ¬ _ := fun y => z ((fm_0 h0).mp y)
          rw [decide_eq_false z]
          unfold encQ
          push_cast [hp, z2]
      · unfold encQ
        push_cast []
  have pl : ∀ x ∈ (((List.range (n + 1)).filter fun j => decide (k.p ∣ ((f j).den : Int))).map fun j => encQ (f j)), Pl0 1 x := fun x hx => by
    obtain ⟨j, _, rfl⟩ := List.mem_map.mp hx
    exact pl_enc .q (f j)
  have q := lst_nil (by omega) pl
  rw [List.isEmpty_map] at q
  have fz : frzL (((List.range (n + 1)).filter fun j => decide (k.p ∣ ((f j).den : Int))).map fun j => encQ (f j)) = ((List.range (n + 1)).filter fun j => decide (k.p ∣ ((f j).den : Int))).map fun j => encQ (f j) := frzL_all _ fun x hx => by
    obtain ⟨j, _, rfl⟩ := List.mem_map.mp hx
    rfl
  have lc : lcGo _ _ _ _ (gen (n + 1) fun j => encQ (f j)) h = _ := lc
  show F__law_can [.int k.p, .lst (gen (n + 1) fun j => encQ (f j))] h = _
  unfold F__law_can
  push_cast [lc, fz, q]
end B78
set_option exponentiation.threshold 20000
namespace B78
open PySem PySem.Spec L2 Fw Pd Dz Lw
def gcdI (a : Int) (d : Nat) : Int := ((Nat.gcd a.natAbs (d : Int).natAbs : Nat) : Int)
def cbt (f : Nat → Rat) : Nat → Int
  | 0 => 1
  | s + 1 => (cbt f s).fdiv (gcdI (cbt f s) (f s).den) * (f s).den
theorem gcd_pos {a : Int} {d : Nat} (h : 0 < d) : 0 < gcdI a d := by
  unfold gcdI
  have : 0 < Nat.gcd a.natAbs (d : Int).natAbs := Nat.gcd_pos_of_pos_right _ (by rw [Int.natAbs_natCast]; exact h)
  omega
theorem gcd_l {a : Int} {d : Nat} : gcdI a d ∣ a := by
  unfold gcdI
  exact Int.ofNat_dvd_left.mpr (Nat.gcd_dvd_left _ _)
theorem gcd_r {a : Int} {d : Nat} : gcdI a d ∣ (d : Int) := by
  unfold gcdI
  exact Int.ofNat_dvd_left.mpr (Nat.gcd_dvd_right _ _)
theorem fdiv_dvd {a g : Int} (h : 0 < g) (hd : g ∣ a) : a.fdiv g * g = a := by
  rw [Int.fdiv_eq_ediv_of_nonneg _ (by omega)]
  exact Int.ediv_mul_cancel hd
theorem cbt_pos (f : Nat → Rat) : ∀ s, 0 < cbt f s
  | 0 => by show (0 : Int) < 1; omega
  | s + 1 => by
    have ih := cbt_pos f s
    have g := gcd_pos (a := cbt f s) (f s).den_pos
    have e := fdiv_dvd g (gcd_l (a := cbt f s) (d := (f s).den))
    have d0 : 0 < ((f s).den : Int) := by have := (f s).den_pos; omega
    have p : 0 < (cbt f s).fdiv (gcdI (cbt f s) (f s).den) := by
      by_cases c : 0 < (cbt f s).fdiv (gcdI (cbt f s) (f s).den)
      · exact c
      · exfalso
        have := Int.mul_nonpos_of_nonpos_of_nonneg (a := (cbt f s).fdiv (gcdI (cbt f s) (f s).den)) (b := gcdI (cbt f s) (f s).den) (by omega) (by omega)
        omega
    exact Int.mul_pos p d0
theorem cbt_up (f : Nat → Rat) (s : Nat) : cbt f s ∣ cbt f (s + 1) := by
  have g := gcd_pos (a := cbt f s) (f s).den_pos
  have e := fdiv_dvd g (gcd_l (a := cbt f s) (d := (f s).den))
  obtain ⟨c, ec⟩ := gcd_r (a := cbt f s) (d := (f s).den)
  refine ⟨c, ?_⟩
  show (cbt f s).fdiv (gcdI (cbt f s) (f s).den) * (f s).den = _
  rw [ec]
  generalize gcdI (cbt f s) (f s).den = G at *
  generalize (cbt f s).fdiv G = X at *
  rw [← Int.mul_assoc, e]
theorem cbt_den (f : Nat → Rat) (j : Nat) : ∀ s, j < s → ((f j).den : Int) ∣ cbt f s
  | s + 1, h => by
    by_cases c : j = s
    · rw [c]
      exact ⟨(cbt f s).fdiv (gcdI (cbt f s) (f s).den), by show (cbt f s).fdiv (gcdI (cbt f s) (f s).den) * (f s).den = _; exact Int.mul_comm _ _⟩
    · exact dv_tr (cbt_den f j s (by omega)) (cbt_up f s)
theorem fdiv_bt {a g : Int} (h : 0 < g) (a0 : 0 < a) : bt (a.fdiv g).natAbs ≤ bt a.natAbs := by
  refine bt_mono ?_
  rw [Int.fdiv_eq_ediv_of_nonneg _ (by omega)]
  have := Int.ediv_le_self (b := g) (a := a) (by omega)
  have := Int.ediv_nonneg (a := a) (b := g) (by omega) (by omega)
  omega
theorem cbt_bt (f : Nat → Rat) (hf : ∀ j, hq (f j) ≤ 300) : ∀ s, bt (cbt f s).natAbs ≤ 300 * s + 1
  | 0 => bt_le (n := 1) (b := 1) (by decide)
  | s + 1 => by
    have ih := cbt_bt f hf s
    have g := gcd_pos (a := cbt f s) (f s).den_pos
    have h1 := fdiv_bt g (cbt_pos f s)
    have h2 := hq_den (f s)
    have h3 := hf s
    show bt ((cbt f s).fdiv (gcdI (cbt f s) (f s).den) * (f s).den).natAbs ≤ _
    rw [Int.natAbs_mul, Int.natAbs_natCast]
    have h4 := bt_mul ((cbt f s).fdiv (gcdI (cbt f s) (f s).den)).natAbs (f s).den
    omega
theorem E_cbt (n : Nat) (f : Nat → Rat) (h : D) (hn : n ≤ 20) (hf : ∀ j, hq (f j) ≤ 300) : F__law_common_bottom [.lst (gen n fun j => encQ (f j))] h = .ok (.int (cbt f n)) h := by
  have lp := for_gen0 (h := h) (bind := bNm 2) (body := (sSet 1 (eOp oMul (eOp oDiv (eV 1) (eCall 2 F__law_gcd [] (eCons (eVm 1) (eCons (eOp oIx (eV 2) (eC (.int 1))) eNil)))) (eOp oIx (eV 2) (eC (.int 1)))))) (d := fun s => encQ (f s)) (n := n)
    (fun s => [some (.lst (gen n fun j => encQ (f j))), some (.int (cbt f s)), lv none (fun s => encQ (f s)) s]) fun s hs => by
      have b := cbt_bt f hf s
      have h2 := hq_den (f s)
      have h3 := hf s
      have g0 := gcd_pos (a := cbt f s) (f s).den_pos
      have e : F__law_gcd [.int (cbt f s), .int ((f s).den : Int)] h = .ok (.int (gcdI (cbt f s) (f s).den)) h := E_gcd (cbt f s) ((f s).den : Int) h (by rw [Int.natAbs_natCast]; omega)
      have gn : ¬ gcdI (cbt f s) (f s).den = 0 := by omega
      have gb : bt (gcdI (cbt f s) (f s).den).natAbs ≤ 300 := Nat.le_trans (bt_mono (by
        have := Int.le_of_dvd (by have := (f s).den_pos; omega) (gcd_r (a := cbt f s) (d := (f s).den))
        omega)) (show bt (f s).den ≤ 300 by omega)
      have dv : cDiv (cbt f s) (gcdI (cbt f s) (f s).den) = true := cDiv_b gn (by omega)
      have h1 := fdiv_bt g0 (cbt_pos f s)
      have m1 : cMul ((cbt f s).fdiv (gcdI (cbt f s) (f s).den)) (f s).den = true := cMul_b (by rw [Int.natAbs_natCast]; omega)
      have vq : ∀ h, vD (some (some (encQ (f s)))) h = .ok (encQ (f s)) h := fun h => vD_fr rfl
      have ix : oIx (encQ (f s)) (.int 1) = some (.int ((f s).den : Int)) := rfl
      refine ⟨_, rfl, ?_⟩
      show _ = Fl.nx [some (.lst (gen n fun j => encQ (f j))), some (.int ((cbt f s).fdiv (gcdI (cbt f s) (f s).den) * (f s).den)), _] h
      push_cast [lv_s, vq, ix, e, dv, m1]
  simp only [lv_0] at lp
  have z : cbt f 0 = 1 := rfl
  rw [z] at lp
  unfold F__law_common_bottom
  push_cast [lp]
def whC (f : Nat → Rat) (B : Int) (j : Nat) : Int := (f j).num * B.fdiv (f j).den
theorem whC_dv {k : Fg} {q : Int} {n : Nat} {f : Nat → Rat} {w : Nat → Int} (W : Wp k q n f w) {B : Int} (j : Nat) (hB : ((f j).den : Int) ∣ B) : q ∣ whC f B j - B * w j := by
  have e := fdiv_dvd (show 0 < ((f j).den : Int) by have := (f j).den_pos; omega) hB
  obtain ⟨c, ec⟩ := W.dv j
  unfold whC
  generalize B.fdiv (f j).den = X at *
  exact ⟨-(c * X), by grind⟩
theorem whC_root {k : Fg} {q : Int} {n : Nat} {f : Nat → Rat} {w : Nat → Int} (W : Wp k q n f w) {B : Int} (hB : ∀ j, j < n + 1 → ((f j).den : Int) ∣ B) {R : Int} (hR : q ∣ Vp (n + 1) w R) : q ∣ Vp (n + 1) (whC f B) R := by
  have h := Vp_cg (n + 1) (whC f B) (fun j => B * w j) q R fun j hj => whC_dv W j (hB j hj)
  rw [Vp_mul] at h
  obtain ⟨a, ea⟩ := h
  obtain ⟨b, eb⟩ := hR
  exact ⟨a + B * b, by grind⟩
theorem whC_bt {f : Nat → Rat} {B : Int} {j : Nat} (hf : hq (f j) ≤ 300) (b0 : 0 < B) (hB : bt B.natAbs ≤ 6001) : bt (whC f B j).natAbs ≤ 6301 := by
  have h1 := hq_num (f j)
  have h2 := fdiv_bt (show 0 < ((f j).den : Int) by have := (f j).den_pos; omega) b0
  have h3 := bt_mul (f j).num.natAbs (B.fdiv (f j).den).natAbs
  unfold whC
  rw [Int.natAbs_mul]
  omega
theorem E_wholev (n : Nat) (c : Nat → Int) (x : Int) (h : D) (hn : n ≤ 100) (hc : ∀ j, j < n → bt (c j).natAbs ≤ 6301) (hx : bt x.natAbs ≤ 120) : F__law_whole_value [.lst (gen n fun j => .int (c j)), .int x] h = .ok (.int (Vp n c x)) h := by
  have bv : ∀ s, s ≤ n → bt (Vp s (fun j => c (n - s + j)) x).natAbs ≤ 6301 + 200 * s := fun s => by
    induction s with
    | zero => exact fun _ => Nat.le_trans (bt_le (n := 0) (b := 0) (by decide)) (Nat.zero_le _)
    | succ s ih =>
      intro hs
      have ih := ih (by omega)
      have e1 : (fun j => c (n - (s + 1) + (j + 1))) = fun j => c (n - s + j) := by
        funext j
        congr 1
        omega
      rw [Vp_s, e1]
      have h1 := bt_sum (c (n - (s + 1) + 0)) (x * Vp s (fun j => c (n - s + j)) x)
      have h2 := hc (n - (s + 1) + 0) (by omega)
      have h3 := bt_mul x.natAbs (Vp s (fun j => c (n - s + j)) x).natAbs
      rw [Int.natAbs_mul] at h1
      omega
  have lp := for_gen0 (h := h) (bind := bNm 3) (body := (sSet 2 (eOp oAdd (eOp oMul (eV 2) (eV 1)) (eOp oIx (eV 0) (eOp oSub (eOp oSub (eBi kLen (eCons (eV 0) eNil)) (eC (.int 1))) (eV 3)))))) (d := fun s => .int (s : Int)) (n := n)
    (fun s => [some (.lst (gen n fun j => .int (c j))), some (.int x), some (.int (Vp s (fun j => c (n - s + j)) x)), lv none (fun s => .int (s : Int)) s]) fun s hs => by
      have b := bv s (by omega)
      have m1 : cMul (Vp s (fun j => c (n - s + j)) x) x = true := cMul_b (by omega)
      have i1 : (n : Int) - 1 - (s : Int) = ((n - 1 - s : Nat) : Int) := by omega
      have at_ : atI (gen n fun j => D.int (c j)) ((n - 1 - s : Nat) : Int) = some (.int (c (n - 1 - s))) := by
        have := atI_gen (n := n) (f := fun j => D.int (c j)) (i := ((n - 1 - s : Nat) : Int)) (by omega) (by omega)
        rw [Int.toNat_natCast] at this
        exact this
      have e : Vp s (fun j => c (n - s + j)) x * x + c (n - 1 - s) = Vp (s + 1) (fun j => c (n - (s + 1) + j)) x := by
        have e1 : (fun j => c (n - (s + 1) + (j + 1))) = fun j => c (n - s + j) := by
          funext j
          congr 1
          omega
        rw [Vp_s, e1, show n - (s + 1) + 0 = n - 1 - s by omega]
        grind
      refine ⟨_, rfl, ?_⟩
      push_cast [lv_s, m1, i1, at_, e]
  simp only [lv_0] at lp
  have z0 : Vp 0 (fun j => c (n - 0 + j)) x = 0 := rfl
  have z1 : (fun j => c (n - n + j)) = c := by funext j; congr 1; omega
  rw [z0, z1] at lp
  unfold F__law_whole_value
  push_cast [lp]
theorem E_plain (x q : Int) (h : D) (x0 : 0 ≤ x) (x1 : x < q) : F__law_plain_78 [.int x, .int q] h = .ok (.bl true) h := by
  unfold F__law_plain_78
  push_cast [isa_ni, isa_nb, isa_ns, isa_nt, isa_nl, isa_bi, isa_bb, isa_bs, isa_bt, isa_bl, isa_ii, isa_ib, isa_is, isa_it, isa_il, isa_si, isa_sb, isa_ss, isa_st, isa_sl, isa_ti, isa_tb, isa_ts, isa_tt, isa_tl, isa_li, isa_lb, isa_ls, isa_lt, isa_ll, x0, x1]
end B78
set_option exponentiation.threshold 20000
namespace B78
open PySem PySem.Spec L2 Fw Pd Dz Lw
theorem zip_lt78 {n m : Nat} {f g : Nat → D} : kZip [.lst (gen n f), .tup (gen m g)] = some (gen (min n m) fun i => .tup [f i, g i]) := congrArg some (zipD_gen n m f g)
theorem E_rootsright {k : Fg} (hp : k.p ≠ 0) (n : Nat) {q : Int} (f : Nat → Rat) (w R : Nat → Int) (e : Nat → Nat → Int) (h : D) (P : Dp n f) (hc : Can k f) (hl : (rts k n fun j => rdK k (f j)).length = n) (qb : bt q.natAbs ≤ 120) (q0 : 0 < q) (W : Wp k q n f w) (G : Good k.p q n w (rI (rts k n fun j => rdK k (f j))) R e) :
    F__law_roots_right [.int k.p, raw true n f, .int q, .tup (gen n fun i => .int (R i))] h = .ok (.bl true) h := by
  have n5 := P.n5
  have h0 := kp_pos hp
  have qn : ¬ q = 0 := by omega
  have erd : ∀ j, j < n + 1 → ∀ h, F__law_read [.int k.p, encQ (f j)] h = .ok (enc k (rdK k (f j))) h := fun j _ h => E_lread hp (f j) h (hc j)
  have vq : ∀ j h, vmD (some (some (encQ (f j)))) h = .ok (encQ (f j)) h := fun j h => vmD_fr rfl
  have er := fun h => E_lroots hp n (fun j => rdK k (f j)) h (by omega)
  rw [nats_gen, hl] at er
  have ec : ∀ h, F__law_common_bottom [.lst (gen (n + 1) fun j => encQ (f j))] h = .ok (.int (cbt f (n + 1))) h := fun h => E_cbt (n + 1) f h (by omega) P.sm
  have bB : bt (cbt f (n + 1)).natAbs ≤ 6001 := by have := cbt_bt f P.sm (n + 1); omega
  have ev : ∀ i, i < n → ∀ h, F__law_whole_value [.lst (gen (n + 1) fun j => .int (whC f (cbt f (n + 1)) j)), .int (R i)] h = .ok (.int (Vp (n + 1) (whC f (cbt f (n + 1))) (R i))) h := fun i hi h => E_wholev (n + 1) _ (R i) h (by omega) (fun j _ => whC_bt (P.sm j) (cbt_pos f _) bB) (bt_in (G.up.lo i) (G.up.hi i) qb)
  have d0 : ∀ j, ¬ ((f j).den : Int) = 0 := fun j => by have := (f j).den_pos; omega
  have dv : ∀ j, j < n + 1 → cDiv (cbt f (n + 1)) ((f j).den : Int) = true := fun j _ => cDiv_b (d0 j) (by have := hq_den (f j); have := P.sm j; rw [Int.natAbs_natCast]; omega)
  have m1 : ∀ j, j < n + 1 → cMul (f j).num ((cbt f (n + 1)).fdiv (f j).den) = true := fun j _ => cMul_b (by
    have := hq_num (f j)
    have := P.sm j
    have := fdiv_bt (show 0 < ((f j).den : Int) by have := (f j).den_pos; omega) (cbt_pos f (n + 1))
    omega)
  have n1 : ((n + 1 : Nat) : Int) - 1 = (n : Int) := by omega
  have wh : (gen (n + 1) fun j => D.int ((f j).num * (cbt f (n + 1)).fdiv (f j).den)) = gen (n + 1) fun j => .int (whC f (cbt f (n + 1)) j) := rfl
  have vw : ∀ h, vmD (some (some (.lst (gen (n + 1) fun j => D.int (whC f (cbt f (n + 1)) j))))) h = .ok (.lst (gen (n + 1) fun j => .int (whC f (cbt f (n + 1)) j))) h := fun h => vmD_fr rfl
  have lp := fun h => for_gen0 (h := h) (bind := bTp [(bNm 8), (bNm 9)]) (body := (sSeq (sIf (eOr (eNot (eTru (eCall 2 F__law_plain_78 [] (eCons (eVm 9) (eCons (eVm 2) eNil))))) (eT (eOp oNe (eOp oMod (eBi kInt (eCons (eOp oSub (eV 9) (eV 8)) eNil)) (eV 0)) (eC (.int 0))))) (sRet (eC (.bl false))) sNil)
    (sIf (eT (eOp oNe (eOp oMod (eBi kInt (eCons (eCall 2 F__law_whole_value [] (eCons (eVm 7) (eCons (eVm 9) eNil))) eNil)) (eV 2)) (eC (.int 0)))) (sRet (eC (.bl false))) sNil))) (d := fun s => .tup [.int (rI (rts k n fun j => rdK k (f j)) s), .int (R s)]) (n := n)
    (fun s => [some (.int k.p), some (.lst (gen (n + 1) fun j => encQ (f j))), some (.int q), some (.tup (gen n fun i => .int (R i))), some (.lst (gen n fun i => .int (rI (rts k n fun j => rdK k (f j)) i))), none, some (.int (cbt f (n + 1))), some (.lst (gen (n + 1) fun j => .int (whC f (cbt f (n + 1)) j))),
      lv none (fun s => .int (rI (rts k n fun j => rdK k (f j)) s)) s, lv none (fun s => .int (R s)) s]) fun s hs => by
      have ep := E_plain (R s) q h (G.up.lo s) (G.up.hi s)
      have e1 := (fm_0 (a := R s - rI (rts k n fun j => rdK k (f j)) s) h0.1).mpr (G.up.ov s hs)
      have e2 := (fm_0 q0).mpr (whC_root W (fun j hj => cbt_den f j (n + 1) hj) (G.up.root s hs))
      refine ⟨_, rfl, ?_⟩
      push_cast [lv_s, ep, e1, e2, hp, qn, vw, ev]
  simp only [lv_0] at lp
  show F__law_roots_right [.int k.p, .lst (gen (n + 1) fun j => encQ (f j)), .int q, .tup (gen n fun i => .int (R i))] h = _
  unfold F__law_roots_right
  have ix0 : ∀ j, oIx (encQ (f j)) (.int 0) = some (.int (f j).num) := fun j => rfl
  have ix1 : ∀ j, oIx (encQ (f j)) (.int 1) = some (.int ((f j).den : Int)) := fun j => rfl
  have vd : ∀ j h, vD (some (some (encQ (f j)))) h = .ok (encQ (f j)) h := fun j h => vD_fr rfl
  push_cast [isa_ni, isa_nb, isa_ns, isa_nt, isa_nl, isa_bi, isa_bb, isa_bs, isa_bt, isa_bl, isa_ii, isa_ib, isa_is, isa_it, isa_il, isa_si, isa_sb, isa_ss, isa_st, isa_sl, isa_ti, isa_tb, isa_ts, isa_tt, isa_tl, isa_li, isa_lb, isa_ls, isa_lt, isa_ll, erd, vq, vd, er, n1, ec, ix0, ix1, dv, m1, wh, zip_lt78, lp]
end B78
set_option exponentiation.threshold 20000
namespace B78
open PySem PySem.Spec L2 Fw Pd Dz Lw
theorem E_rowplain (n : Nat) (c : Nat → Int) (q : Int) (h : D) (hn : n ≤ 800) (c0 : ∀ j, 0 ≤ c j) (c1 : ∀ j, c j < q) : F__law_row_plain [.tup (gen n fun j => .int (c j)), .int (n : Int), .int q] h = .ok (.bl true) h := by
  have lc := lc_filterL (bind := bNm 3) (test := (eNot (eTru (eCall 2 F__law_plain_78 [] (eCons (eVm 3) (eCons (eVm 2) eNil)))))) (elt := eV 3) (δ := [some (.tup (gen n fun j => .int (c j))), some (.int (n : Int)), some (.int q), none]) (h := h) (d := fun j : Nat => D.int (c j)) (e := fun j : Nat => D.int (c j))
    (fun _ => false) (List.range n) fun a _ => by
      have e := E_plain (c a) q h (c0 a) (c1 a)
      refine ⟨_, rfl, ?_, fun z => nomatch z⟩
      push_cast [e]
  have ne : ((List.range n).filter fun _ => false).map (fun j : Nat => D.int (c j)) = [] := by rw [List.filter_eq_nil_iff.mpr fun _ _ => by simp]; rfl
  rw [ne] at lc
  have lc : lcGo _ _ _ _ (gen n fun j => D.int (c j)) h = _ := lc
  unfold F__law_row_plain
  have fz : frzL [] = [] := rfl
  push_cast [isa_ni, isa_nb, isa_ns, isa_nt, isa_nl, isa_bi, isa_bb, isa_bs, isa_bt, isa_bl, isa_ii, isa_ib, isa_is, isa_it, isa_il, isa_si, isa_sb, isa_ss, isa_st, isa_sl, isa_ti, isa_tb, isa_ts, isa_tt, isa_tl, isa_li, isa_lb, isa_ls, isa_lt, isa_ll, lc, fz, eq_nil]
def pB1 : SF := (sSeq (sIf (eOr (eNot (eTru (eIs "tuple" (eV 5)))) (eT (eOp oNe (eBi kLen (eCons (eV 5) eNil)) (eC (.int 4))))) (sRet (eC (.bl false))) sNil)
    (sSeq (sIf (eOr (eNot (eTru (eCall 3 F__law_row_plain [] (eCons (eOp oIx (eV 5) (eC (.int 0))) (eCons (eVm 3) (eCons (eVm 1) eNil)))))) (eNot (eTru (eCall 3 F__law_row_plain [] (eCons (eOp oIx (eV 5) (eC (.int 1))) (eCons (eVm 3) (eCons (eVm 1) eNil))))))) (sRet (eC (.bl false))) sNil)
    (sIf (eNot (eTru (eCall 3 F__law_row_plain [] (eCons (eBi kTup (eCons (eFz (eSl (eV 5) (eOpt (eC (.int 2))) eNo)) eNil)) (eCons (eC (.int 2)) (eCons (eVm 1) eNil)))))) (sRet (eC (.bl false))) sNil)))
def pBI : SF := (sSeq (sSet 10 (eBi kSum (eCons (eFz (eLc [11, 12, 13, 14] (iSeq (eV 4)) (bTp [(bNm 11), (bNm 12), (bNm 13), (bNm 14)]) tYesD (eOp oMul (eOp oMul (eV 13) (eOp oIx (eV 11) (eV 8))) (eOp oIx (eV 12) (eV 9))))) eNil)))
    (sSeq (sSet 15 (eBi kSum (eCons (eFz (eLc [11, 12, 13, 14] (iSeq (eV 4)) (bTp [(bNm 11), (bNm 12), (bNm 13), (bNm 14)]) tYesD (eOp oMul (eOp oMul (eV 14) (eOp oIx (eV 11) (eV 8))) (eOp oIx (eV 12) (eV 9))))) eNil)))
    (sSeq (sIf (eT (eOp oNe (eOp oMod (eBi kInt (eCons (eOp oSub (eV 10) (eBi kInt (eCons (eOp oEq (eV 8) (eV 9)) eNil))) eNil)) (eV 1)) (eC (.int 0)))) (sRet (eC (.bl false))) sNil)
    (sIf (eT (eOp oNe (eOp oMod (eBi kInt (eCons (eOp oSub (eOp oMul (eV 15) (eV 6)) (eOp oMul (eOp oIx (eOp oIx (eOp oIx (eV 7) (eV 8)) (eV 9)) (eC (.int 0))) (eOp oDiv (eV 6) (eOp oIx (eOp oIx (eOp oIx (eV 7) (eV 8)) (eV 9)) (eC (.int 1)))))) eNil)) (eV 1)) (eC (.int 0)))) (sRet (eC (.bl false))) sNil))))
def pBO : SF := (sFor (iRg rg1 (eCons (eV 3) eNil)) (bNm 9) (sSeq (sSet 10 (eBi kSum (eCons (eFz (eLc [11, 12, 13, 14] (iSeq (eV 4)) (bTp [(bNm 11), (bNm 12), (bNm 13), (bNm 14)]) tYesD (eOp oMul (eOp oMul (eV 13) (eOp oIx (eV 11) (eV 8))) (eOp oIx (eV 12) (eV 9))))) eNil)))
    (sSeq (sSet 15 (eBi kSum (eCons (eFz (eLc [11, 12, 13, 14] (iSeq (eV 4)) (bTp [(bNm 11), (bNm 12), (bNm 13), (bNm 14)]) tYesD (eOp oMul (eOp oMul (eV 14) (eOp oIx (eV 11) (eV 8))) (eOp oIx (eV 12) (eV 9))))) eNil)))
    (sSeq (sIf (eT (eOp oNe (eOp oMod (eBi kInt (eCons (eOp oSub (eV 10) (eBi kInt (eCons (eOp oEq (eV 8) (eV 9)) eNil))) eNil)) (eV 1)) (eC (.int 0)))) (sRet (eC (.bl false))) sNil)
    (sIf (eT (eOp oNe (eOp oMod (eBi kInt (eCons (eOp oSub (eOp oMul (eV 15) (eV 6)) (eOp oMul (eOp oIx (eOp oIx (eOp oIx (eV 7) (eV 8)) (eV 9)) (eC (.int 0))) (eOp oDiv (eV 6) (eOp oIx (eOp oIx (eOp oIx (eV 7) (eV 8)) (eV 9)) (eC (.int 1)))))) eNil)) (eV 1)) (eC (.int 0)))) (sRet (eC (.bl false))) sNil)))))
theorem pBO_is : pBO = sFor (iRg rg1 (eCons (eV 3) eNil)) (bNm 9) pBI := rfl
def prI (q : Int) (n : Nat) (e : Nat → Nat → Int) (R : Nat → Int) (i : Nat) : D := .tup [.tup (gen n fun j => .int (e i j)), .tup (gen n fun j => .int (rpw (R i) q j)), .int 1, .int (R i)]
theorem rs_m {q : Int} {n : Nat} {e : Nat → Nat → Int} {R : Nat → Int} {h : D} : atvD (some (some (rsD q n e R))) "modulus" h = .ok (.int q) h := (rfl)
theorem rs_p {q : Int} {n : Nat} {e : Nat → Nat → Int} {R : Nat → Int} {h : D} : atvD (some (some (rsD q n e R))) "products" h = .ok (.tup (gen n (prI q n e R))) h := (rfl)
theorem rs_vd {q : Int} {n : Nat} {e : Nat → Nat → Int} {R : Nat → Int} {h : D} : vD (some (some (rsD q n e R))) h = .ok (rsD q n e R) h := (rfl)
def s1 (q : Int) (n : Nat) (e : Nat → Nat → Int) (R : Nat → Int) (i j : Nat) : Int := sumZ n fun l => 1 * e l i * rpw (R l) q j
def s2 (q : Int) (n : Nat) (e : Nat → Nat → Int) (R : Nat → Int) (i j : Nat) : Int := sumZ n fun l => R l * e l i * rpw (R l) q j
theorem s1_ok {p q : Int} {n : Nat} {w r R : Nat → Int} {e : Nat → Nat → Int} (q1 : 1 < q) (G : Good p q n w r R e) (i j : Nat) (hi : i < n) (hj : j < n) : q ∣ s1 q n e R i j - (if i = j then 1 else 0) := by
  have a := sumZ_cg (q := q) n (fun l => 1 * e l i * rpw (R l) q j) (fun l => R l ^ j * e l i) fun l _ => by
    obtain ⟨c, ec⟩ := rpw_dv (x := R l) q1 j
    exact ⟨c * e l i, by grind⟩
  exact dv_tri a (sum_unit n j R e G.one G.up.un hj i hi)
theorem s2_up {p q : Int} {n : Nat} {w r R : Nat → Int} {e : Nat → Nat → Int} (q1 : 1 < q) (G : Good p q n w r R e) (i j : Nat) : q ∣ s2 q n e R i j - sumZ n fun l => R l ^ (j + 1) * e l i :=
  sumZ_cg (q := q) n (fun l => R l * e l i * rpw (R l) q j) (fun l => R l ^ (j + 1) * e l i) fun l _ => by
    obtain ⟨c, ec⟩ := rpw_dv (x := R l) q1 j
    exact ⟨c * e l i * R l, by rw [Int.pow_succ]; grind⟩
theorem rat_neg (x : Rat) : (0 - x).num = -x.num ∧ (0 - x).den = x.den := by
  have : (0 : Rat) - x = -x := by grind
  rw [this]
  exact ⟨Rat.neg_num x, Rat.neg_den x⟩
theorem s2_ok {k : Fg} {p q : Int} {n : Nat} {f : Nat → Rat} {w r R : Nat → Int} {e : Nat → Nat → Int} (q1 : 1 < q) (W : Wp k q n f w) (G : Good p q n w r R e) {B : Int} (hB : ∀ j, j < n → ((f j).den : Int) ∣ B) (i j : Nat) (hi : i < n) (hj : j < n) :
    q ∣ s2 q n e R i j * B - (colT (k := .q) n f i j).num * B.fdiv ((colT (k := .q) n f i j).den : Int) := by
  have u := s2_up q1 G i j
  by_cases c : j = n - 1
  · have cx : colT (k := .q) n f i j = 0 - f i := if_pos c
    rw [cx, (rat_neg (f i)).1, (rat_neg (f i)).2]
    have l := sum_last n R w e G.one G.up.un W.one G.up.root i hi
    rw [show j + 1 = n by omega] at u
    have ed := fdiv_dvd (show 0 < ((f i).den : Int) by have := (f i).den_pos; omega) (hB i hi)
    obtain ⟨a, ea⟩ := u
    obtain ⟨b, eb⟩ := l
    obtain ⟨d, ed2⟩ := W.dv i
    generalize B.fdiv ((f i).den : Int) = X at *
    generalize s2 q n e R i j = S at *
    generalize (sumZ n fun l => R l ^ n * e l i) = T at *
    refine ⟨(a + b) * B - d * X, ?_⟩
    have e1 : S = q * a + q * b - w i := by omega
    rw [e1, ← ed]
    grind
  · have cx : colT (k := .q) n f i j = del i (j + 1) := if_neg c
    have l := sum_unit n (j + 1) R e G.one G.up.un (by omega) i hi
    have dx : (colT (k := .q) n f i j).num = (if i = j + 1 then 1 else 0) ∧ (colT (k := .q) n f i j).den = 1 := by
      rw [cx]
      by_cases z : i = j + 1
      · rw [if_pos z, z, del_s]
        exact ⟨rfl, rfl⟩
      · rw [if_neg z, del_n z]
        exact ⟨rfl, rfl⟩
    rw [dx.1, dx.2]
    have b1 : B.fdiv ((1 : Nat) : Int) = B := Int.fdiv_one B
    rw [b1]
    obtain ⟨a, ea⟩ := u
    obtain ⟨b, eb⟩ := l
    generalize s2 q n e R i j = S at *
    generalize (sumZ n fun l => R l ^ (j + 1) * e l i) = T at *
    generalize (if i = j + 1 then (1 : Int) else 0) = dd at *
    exact ⟨(a + b) * B, by grind⟩
theorem bt_sumZ (b : Nat) : ∀ (n : Nat) (f : Nat → Int), (∀ i, i < n → bt (f i).natAbs ≤ b) → bt (sumZ n f).natAbs ≤ b + n
  | 0, _, _ => Nat.le_trans (bt_le (n := 0) (b := 0) (by decide)) (Nat.zero_le _)
  | n + 1, f, h => by
    have ih := bt_sumZ b n f fun i hi => h i (by omega)
    have h1 := bt_sum (sumZ n f) (f n)
    have h2 := h n (by omega)
    show bt (sumZ n f + f n).natAbs ≤ _
    omega
end B78
set_option exponentiation.threshold 20000
namespace B78
open PySem PySem.Spec L2 Fw Pd Dz Lw
theorem isr {q : Int} {n : Nat} {e : Nat → Nat → Int} {R : Nat → Int} (δ : DE) (h : D) (hi : δ[2]? = some (some (rsD q n e R))) : eIsC (msOf [("Figures", false), ("Raised", true)]) true (eV 2) δ h = .ok (.bl true) h := by
  have m : msOf [("Figures", false), ("Raised", true)] "Raised" = some true := by decide +kernel
  simp only [eIsC_a, eV_a, hi, rs_vd, bind_okE]
  unfold rsD
  simp only [m]
  rfl
def clD (n : Nat) (f : Nat → Rat) : D := .lst (gen n fun i => .lst (gen n fun j => encQ (colT (k := .q) n f i j)))
section
variable {k : Fg} {p q : Int} {n : Nat} {f : Nat → Rat} {w r R : Nat → Int} {e : Nat → Nat → Int}
theorem in_turn (q1 : 1 < q) (qb : bt q.natAbs ≤ 120) (hn : n ≤ 5) (hf : ∀ j, hq (f j) ≤ 300) (W : Wp k q n f w) (G : Good p q n w r R e) (x5 x10 x11 x12 x13 x14 x15 : Option D) (h : D) (i j : Nat) (hi : i < n) (hj : j < n) :
    pBI [some (raw true n f), some (.int q), some (rsD q n e R), some (.int (n : Int)), some (.tup (gen n (prI q n e R))), x5, some (.int (cbt f (n + 1))), some (clD n f), some (.int (i : Int)), some (.int (j : Int)), x10, x11, x12, x13, x14, x15] h
      = .nx [some (raw true n f), some (.int q), some (rsD q n e R), some (.int (n : Int)), some (.tup (gen n (prI q n e R))), x5, some (.int (cbt f (n + 1))), some (clD n f), some (.int (i : Int)), some (.int (j : Int)), some (.int (s1 q n e R i j)), x11, x12, x13, x14, some (.int (s2 q n e R i j))] h := by
  have q0 : 0 < q := by omega
  have qn : ¬ q = 0 := by omega
  have be : ∀ l i, bt (e l i).natAbs ≤ 120 := fun l i => bt_in (G.lo l i) (G.hi l i) qb
  have br : ∀ l j, bt (rpw (R l) q j).natAbs ≤ 120 := fun l j => bt_in (rpw_in q1 j).1 (rpw_in q1 j).2 qb
  have bR : ∀ l, bt (R l).natAbs ≤ 120 := fun l => bt_in (G.up.lo l) (G.up.hi l) qb
  have b1 : bt (1 : Int).natAbs ≤ 1 := bt_le (by decide)
  have c1 : ∀ l, l < n → cMul 1 (e l i) = true := fun l _ => cMul_b (by have := be l i; omega)
  have t1 : ∀ l, bt (1 * e l i).natAbs ≤ 120 := fun l => by rw [Int.one_mul]; exact be l i
  have c2 : ∀ l, l < n → cMul (1 * e l i) (rpw (R l) q j) = true := fun l _ => cMul_b (by have := t1 l; have := br l j; omega)
  have c3 : ∀ l, l < n → cMul (R l) (e l i) = true := fun l _ => cMul_b (by have := be l i; have := bR l; omega)
  have t3 : ∀ l, bt (R l * e l i).natAbs ≤ 240 := fun l => by
    rw [Int.natAbs_mul]
    have := bt_mul (R l).natAbs (e l i).natAbs
    have := be l i
    have := bR l
    omega
  have c4 : ∀ l, l < n → cMul (R l * e l i) (rpw (R l) q j) = true := fun l _ => cMul_b (by have := t3 l; have := br l j; omega)
  have b2 : bt (s2 q n e R i j).natAbs ≤ 360 + n := bt_sumZ 360 n _ fun l _ => by
    rw [Int.natAbs_mul]
    have := bt_mul (R l * e l i).natAbs (rpw (R l) q j).natAbs
    have := t3 l
    have := br l j
    omega
  have bB := cbt_bt f hf (n + 1)
  have c5 : cMul (s2 q n e R i j) (cbt f (n + 1)) = true := cMul_b (by omega)
  have dp := (colT (k := .q) n f i j).den_pos
  have dn : ((colT (k := .q) n f i j).den : Int) ≠ 0 := by omega
  have hx : hq (colT (k := .q) n f i j) ≤ 300 := by
    have h1 : ∀ x : Rat, hq (0 - x) ≤ hq x := fun x => by
      unfold hq
      rw [(rat_neg x).1, (rat_neg x).2, Int.natAbs_neg]
      exact Nat.le_refl _
    show hq (if j = n - 1 then 0 - f i else del i (j + 1)) ≤ 300
    split
    · exact Nat.le_trans (h1 _) (hf i)
    · show hq (if i = j + 1 then 1 else 0) ≤ 300
      split <;> decide
  have c6 : cDiv (cbt f (n + 1)) ((colT (k := .q) n f i j).den : Int) = true := cDiv_b dn (by rw [Int.natAbs_natCast]; have := hq_den (colT (k := .q) n f i j); omega)
  have c7 : cMul (colT (k := .q) n f i j).num ((cbt f (n + 1)).fdiv ((colT (k := .q) n f i j).den : Int)) = true := cMul_b (by
    have := hq_num (colT (k := .q) n f i j)
    have := fdiv_bt (a := cbt f (n + 1)) (g := ((colT (k := .q) n f i j).den : Int)) (by omega) (cbt_pos f _)
    omega)
  have z1 := (fm_0 q0).mpr (s1_ok q1 G i j hi hj)
  have z2 := (fm_0 q0).mpr (s2_ok q1 W G (fun j hj => cbt_den f j (n + 1) (by omega)) i j hi hj)
  have ix0 : ∀ x, oIx (encQ x) (.int 0) = some (.int x.num) := fun x => rfl
  have ix1 : ∀ x, oIx (encQ x) (.int 1) = some (.int (x.den : Int)) := fun x => rfl
  have eS1 : (sumZ n fun l => 1 * e l i * rpw (R l) q j) = s1 q n e R i j := rfl
  have eS2 : (sumZ n fun l => R l * e l i * rpw (R l) q j) = s2 q n e R i j := rfl
  unfold clD prI pBI
  push_cast [c1, c2, c3, c4, eS1, eS2, bint, bint', z1, qn, ix0, ix1, c5, c6, c7, z2, kInt_b]
theorem in_loop (q1 : 1 < q) (qb : bt q.natAbs ≤ 120) (hn : n ≤ 5) (hf : ∀ j, hq (f j) ≤ 300) (W : Wp k q n f w) (G : Good p q n w r R e) (x5 x9 x10 x15 : Option D) (h : D) (i : Nat) (hi : i < n) :
    pBO [some (raw true n f), some (.int q), some (rsD q n e R), some (.int (n : Int)), some (.tup (gen n (prI q n e R))), x5, some (.int (cbt f (n + 1))), some (clD n f), some (.int (i : Int)), x9, x10, none, none, none, none, x15] h
      = .nx [some (raw true n f), some (.int q), some (rsD q n e R), some (.int (n : Int)), some (.tup (gen n (prI q n e R))), x5, some (.int (cbt f (n + 1))), some (clD n f), some (.int (i : Int)), some (.int ((n - 1 : Nat) : Int)), some (.int (s1 q n e R i (n - 1))), none, none, none, none, some (.int (s2 q n e R i (n - 1)))] h := by
  have lp := for_gen0 (h := h) (bind := bNm 9) (body := pBI) (d := fun j => .int (j : Int)) (n := n)
    (fun s => [some (raw true n f), some (.int q), some (rsD q n e R), some (.int (n : Int)), some (.tup (gen n (prI q n e R))), x5, some (.int (cbt f (n + 1))), some (clD n f), some (.int (i : Int)), lv x9 (fun j => .int (j : Int)) s, lv x10 (fun j => .int (s1 q n e R i j)) s, none, none, none, none, lv x15 (fun j => .int (s2 q n e R i j)) s]) fun s hs =>
      ⟨_, rfl, in_turn q1 qb hn hf W G x5 _ none none none none _ h i s hi hs⟩
  obtain ⟨n', rfl⟩ : ∃ n', n = n' + 1 := ⟨n - 1, by omega⟩
  simp only [lv_0, lv_s] at lp
  rw [pBO_is]
  push_cast [lp, Nat.add_sub_cancel]
theorem E_prodsright (hk : k.p ≠ 0) (q1 : 1 < q) (qb : bt q.natAbs ≤ 120) (h : D) (P : Dp n f) (W : Wp k q n f w) (G : Good p q n w r R e) : F__law_products_right [raw true n f, .int q, rsD q n e R] h = .ok (.bl true) h := by
  have n5 := P.n5
  have n1 := P.n1
  have m1 : ((n + 1 : Nat) : Int) - 1 = (n : Int) := by omega
  have rw0 : ∀ i, i < n → ∀ h, F__law_row_plain [.tup (gen n fun j => .int (e i j)), .int (n : Int), .int q] h = .ok (.bl true) h := fun i _ h => E_rowplain n (e i) q h (by omega) (G.lo i) (G.hi i)
  have rw1 : ∀ i, i < n → ∀ h, F__law_row_plain [.tup (gen n fun j => .int (rpw (R i) q j)), .int (n : Int), .int q] h = .ok (.bl true) h := fun i _ h => E_rowplain n (rpw (R i) q) q h (by omega) (fun j => (rpw_in q1 j).1) (fun j => (rpw_in q1 j).2)
  have rw2 : ∀ i, i < n → ∀ h, F__law_row_plain [.tup [.int 1, .int (R i)], .int 2, .int q] h = .ok (.bl true) h := fun i _ h => E_rowplain 2 (fun j => if j = 0 then 1 else R i) q h (by omega) (fun j => by have := G.up.lo i; split <;> omega) (fun j => by have := G.up.hi i; split <;> omega)
  have cut : ∀ a b c d : D, cutD [a, b, c, d] (some 2) none = [c, d] := fun a b c d => rfl
  have l1 := fun h => for_gen0 (h := h) (bind := bNm 5) (body := pB1) (d := prI q n e R) (n := n)
    (fun s => [some (raw true n f), some (.int q), some (rsD q n e R), some (.int (n : Int)), some (.tup (gen n (prI q n e R))), lv none (prI q n e R) s, none, none, none, none, none, none, none, none, none, none]) fun s hs => by
      have vp : ∀ h, vD (some (some (prI q n e R s))) h = .ok (prI q n e R s) h := fun h => vD_fr rfl
      refine ⟨_, rfl, ?_⟩
      rw [lv_s]
      unfold prI pB1
      push_cast [isa_ni, isa_nb, isa_ns, isa_nt, isa_nl, isa_bi, isa_bb, isa_bs, isa_bt, isa_bl, isa_ii, isa_ib, isa_is, isa_it, isa_il, isa_si, isa_sb, isa_ss, isa_st, isa_sl, isa_ti, isa_tb, isa_ts, isa_tt, isa_tl, isa_li, isa_lb, isa_ls, isa_lt, isa_ll, slD_t, cut, rw0, rw1, rw2, eOpt_a]
  have l2 := fun (x5 : Option D) h => for_gen0 (h := h) (bind := bNm 8) (body := pBO) (d := fun i => .int (i : Int)) (n := n)
    (fun s => [some (raw true n f), some (.int q), some (rsD q n e R), some (.int (n : Int)), some (.tup (gen n (prI q n e R))), x5, some (.int (cbt f (n + 1))), some (clD n f), lv none (fun i => .int (i : Int)) s, lv none (fun _ => .int ((n - 1 : Nat) : Int)) s, lv none (fun i => .int (s1 q n e R i (n - 1))) s, none, none, none, none, lv none (fun i => .int (s2 q n e R i (n - 1))) s]) fun s hs => by
      refine ⟨_, rfl, ?_⟩
      rw [lv_s, lv_s, lv_s, lv_s]
      exact in_loop q1 qb n5 P.sm W G x5 _ _ _ h s hs
  simp only [lv_0] at l1 l2
  have ir : ∀ (x3 x4 x5 x6 x7 x8 x9 x10 x11 x12 x13 x14 x15 : Option D) (g : D), eIsC (msOf [("Figures", false), ("Raised", true)]) true (eV 2) [some (raw true n f), some (.int q), some (rsD q n e R), x3, x4, x5, x6, x7, x8, x9, x10, x11, x12, x13, x14, x15] g = .ok (.bl true) g := fun _ _ _ _ _ _ _ _ _ _ _ _ _ g => isr _ g rfl
  have ec : ∀ h, F__law_common_bottom [raw true n f] h = .ok (.int (cbt f (n + 1))) h := fun h => E_cbt (n + 1) f h (by omega) P.sm
  have ek : ∀ h, F__law_column [.int 0, raw true n f] h = .ok (clD n f) h := fun h => E_columnL .q n f h n1 (by omega) (fun j => Nat.le_trans (P.sm j) (by omega))
  have rv : ∀ h, vD (some (some (raw true n f))) h = .ok (raw true n f) h := fun h => vD_fr raw_fr
  have rm : ∀ h, vmD (some (some (raw true n f))) h = .ok (raw true n f) h := fun h => vmD_fr raw_fr
  have rl : kLen [raw true n f] = some (.int ((n + 1 : Nat) : Int)) := by
    show kLen [.lst (gen (n + 1) fun j => encQ (f j))] = _
    rw [kLen_l, gen_len]
  unfold pB1 at l1
  unfold pBO at l2
  unfold F__law_products_right
  push_cast [isa_ni, isa_nb, isa_ns, isa_nt, isa_nl, isa_bi, isa_bb, isa_bs, isa_bt, isa_bl, isa_ii, isa_ib, isa_is, isa_it, isa_il, isa_si, isa_sb, isa_ss, isa_st, isa_sl, isa_ti, isa_tb, isa_ts, isa_tt, isa_tl, isa_li, isa_lb, isa_ls, isa_lt, isa_ll, ↓ir, rs_m, rs_p, rv, rm, rl, m1, ec, ek, l1, l2]
end
end B78
set_option exponentiation.threshold 20000
namespace B78
open PySem PySem.Spec L2 Fw Pd Dz Lw
theorem E_pick (ds : List D) (h : D) (hh : HandI h) (h0 : 0 < ds.length) (h1 : ds.length ≤ 1000) : ∃ d ∈ ds, ∃ h', F__law_pick [.me, .lst ds] h = .ok d h' ∧ HandI h' := by
  obtain ⟨r, h', e, r0, r1, hi⟩ := E_take (ds.length : Int) h hh (by omega) (by omega)
  obtain ⟨i, rfl⟩ : ∃ i : Nat, r = i := ⟨r.toNat, by omega⟩
  have hi2 : i < ds.length := by omega
  refine ⟨ds[i], List.getElem_mem hi2, h', ?_, hi⟩
  have at_ : atI ds (i : Int) = some ds[i] := by
    unfold atI ixN
    rw [if_pos (by omega), if_pos (by omega), Option.bind_some, Int.toNat_natCast, List.getElem?_eq_getElem hi2]
  unfold F__law_pick
  push_cast [e, at_]
def ipD (n : Nat) (c : Nat → Int) : D := .lst (gen (n + 1) fun j => .int (c j))
structure Ip (n : Nat) (c : Nat → Int) (B : Nat) : Prop where
  one : c n = 1
  sm : ∀ j, bt (c j).natAbs ≤ B
def stC (n : Nat) (c : Nat → Int) (r : Int) (j : Nat) : Int := upC c j - r * dnC (n + 1) c j
theorem Ip.up {n : Nat} {c : Nat → Int} {B b : Nat} (I : Ip n c B) {r : Int} (hr : bt r.natAbs ≤ b) : Ip (n + 1) (stC n c r) (B + b + 1) := by
  constructor
  · show upC c (n + 1) - r * dnC (n + 1) c (n + 1) = 1
    have : dnC (n + 1) c (n + 1) = 0 := if_neg (by omega)
    rw [this, Int.mul_zero, Int.sub_zero]
    exact I.one
  · intro j
    have h1 : bt (upC c j).natAbs ≤ B := by
      cases j with
      | zero => exact Nat.le_trans (bt_le (n := 0) (b := 0) (by decide)) (Nat.zero_le _)
      | succ j => exact I.sm j
    have h2 : bt (dnC (n + 1) c j).natAbs ≤ B := by
      unfold dnC
      split
      · exact I.sm j
      · exact Nat.le_trans (bt_le (n := 0) (b := 0) (by decide)) (Nat.zero_le _)
    have h3 := bt_sum (upC c j) (-(r * dnC (n + 1) c j))
    have h4 := bt_mul r.natAbs (dnC (n + 1) c j).natAbs
    rw [Int.natAbs_neg, Int.natAbs_mul] at h3
    unfold stC
    rw [Int.sub_eq_add_neg]
    omega
theorem st_lists (n : Nat) (c : Nat → Int) : ([D.int 0] ++ gen (n + 1) fun j => D.int (c j)) = (gen (n + 2) fun j => .int (upC c j)) ∧ ((gen (n + 1) fun j => D.int (c j)) ++ [D.int 0]) = gen (n + 2) fun j => .int (dnC (n + 1) c j) := by
  constructor
  · refine Eq.symm ?_
    rw [show n + 2 = n + 1 + 1 from rfl, gen_succ (n := n + 1)]
    rfl
  · rw [gen_last (n := n + 1)]
    unfold dnC
    rw [if_neg (by omega)]
    congr 1
    exact gen_congr fun j hj => by rw [if_pos hj]
theorem step_a (n : Nat) (c : Nat → Int) (r : Int) (B : Nat) (hB : B ≤ 2000) (I : Ip n c B) (hr : bt r.natAbs ≤ 100) (hn : n ≤ 100) (x0 x3 x4 : Option D) (h : D) :
    (sSeq (sSet 3 (eFz (eOn oPlus (eFz (eLst (eCons (eC (.int 0)) eNil))) (eV 1))))
    (sSet 1 (eFz (eLc [4] (iRg rg1 (eCons (eBi kLen (eCons (eV 3) eNil)) eNil)) (bNm 4) tYesD (eOp oSub (eOp oIx (eV 3) (eV 4)) (eOp oMul (eV 2) (eOp oIx (eFz (eOn oPlus (eV 1) (eFz (eLst (eCons (eC (.int 0)) eNil))))) (eV 4)))))))) [x0, some (ipD n c), some (.int r), x3, x4] h
      = .nx [x0, some (ipD (n + 1) (stC n c r)), some (.int r), some (.lst (gen (n + 2) fun j => .int (upC c j))), x4] h := by
  obtain ⟨a1, a2⟩ := st_lists n c
  have m1 : ∀ j, j < n + 2 → cMul r (dnC (n + 1) c j) = true := fun j _ => cMul_b (by
    have h2 : bt (dnC (n + 1) c j).natAbs ≤ B := by
      unfold dnC
      split
      · exact I.sm j
      · exact Nat.le_trans (bt_le (n := 0) (b := 0) (by decide)) (Nat.zero_le _)
    omega)
  unfold ipD stC
  push_cast [plus_l, a1, a2, m1]
theorem step_b (n : Nat) (c : Nat → Int) (r : Int) (B : Nat) (hB : B ≤ 2000) (I : Ip n c B) (hr : bt r.natAbs ≤ 100) (hn : n ≤ 100) (x0 x1 x2 x3 x4 x7 x8 x9 : Option D) (h : D) :
    (sSeq (sSet 7 (eFz (eOn oPlus (eFz (eLst (eCons (eC (.int 0)) eNil))) (eV 5))))
    (sSet 5 (eFz (eLc [8] (iRg rg1 (eCons (eBi kLen (eCons (eV 7) eNil)) eNil)) (bNm 8) tYesD (eOp oSub (eOp oIx (eV 7) (eV 8)) (eOp oMul (eV 6) (eOp oIx (eFz (eOn oPlus (eV 5) (eFz (eLst (eCons (eC (.int 0)) eNil))))) (eV 8)))))))) [x0, x1, x2, x3, x4, some (ipD n c), some (.int r), x7, x8, x9] h
      = .nx [x0, x1, x2, x3, x4, some (ipD (n + 1) (stC n c r)), some (.int r), some (.lst (gen (n + 2) fun j => .int (upC c j))), x8, x9] h := by
  obtain ⟨a1, a2⟩ := st_lists n c
  have m1 : ∀ j, j < n + 2 → cMul r (dnC (n + 1) c j) = true := fun j _ => cMul_b (by
    have h2 : bt (dnC (n + 1) c j).natAbs ≤ B := by
      unfold dnC
      split
      · exact I.sm j
      · exact Nat.le_trans (bt_le (n := 0) (b := 0) (by decide)) (Nat.zero_le _)
    omega)
  unfold ipD stC
  push_cast [plus_l, a1, a2, m1]
theorem E_partspoly (n N : Nat) (c ρ : Nat → Int) (x : Int) (h : D) (hN : n + N ≤ 10) (I : Ip n c 10) (hρ : ∀ i, bt (ρ i).natAbs ≤ 17) :
    ∃ c', F__law_parts_poly [.lst [.lst (gen N fun i => .int (ρ i)), ipD n c, .int x]] h = .ok (ipD (n + N) c') h ∧ Ip (n + N) c' 200 := by
  obtain ⟨δ', h', lp, eh, c', x2, x3, ed, I'⟩ := for_draw (bind := bNm 2) (body := (sSeq (sSet 3 (eFz (eOn oPlus (eFz (eLst (eCons (eC (.int 0)) eNil))) (eV 1))))
    (sSet 1 (eFz (eLc [4] (iRg rg1 (eCons (eBi kLen (eCons (eV 3) eNil)) eNil)) (bNm 4) tYesD (eOp oSub (eOp oIx (eV 3) (eV 4)) (eOp oMul (eV 2) (eOp oIx (eFz (eOn oPlus (eV 1) (eFz (eLst (eCons (eC (.int 0)) eNil))))) (eV 4)))))))))
    (d := fun i => .int (ρ i)) (n := N) (h := h) (δ := [some (.lst [.lst (gen N fun i => .int (ρ i)), ipD n c, .int x]), some (ipD n c), none, none, none])
    (fun s δ h' => h' = h ∧ ∃ c' x2 x3, δ = [some (.lst [.lst (gen N fun i => .int (ρ i)), ipD n c, .int x]), some (ipD (n + s) c'), x2, x3, none] ∧ Ip (n + s) c' (10 + 18 * s))
    (fun s hs δ h' ⟨eh, c', x2, x3, ed, I'⟩ => by
      subst ed eh
      have st := step_a (n + s) c' (ρ s) (10 + 18 * s) (by omega) I' (Nat.le_trans (hρ s) (by omega)) (by omega) (some (.lst [.lst (gen N fun i => .int (ρ i)), ipD n c, .int x])) x3 none h'
      have I2 := I'.up (hρ s)
      exact ⟨_, rfl, _, h', st, rfl, _, _, _, rfl, ⟨I2.one, fun j => Nat.le_trans (I2.sm j) (by omega)⟩⟩) ⟨rfl, c, none, none, rfl, I.one, fun j => Nat.le_trans (I.sm j) (by omega)⟩
  subst ed eh
  refine ⟨c', ?_, I'.one, fun j => Nat.le_trans (I'.sm j) (by omega)⟩
  have kl : kList [ipD n c] = some (.hl (gen (n + 1) fun j => .int (c j))) := rfl
  have fz : frzL (gen (n + 1) fun j => D.int (c j)) = gen (n + 1) fun j => .int (c j) := frzL_int
  have cl : D.lst (gen (n + 1) fun j => .int (c j)) = ipD n c := rfl
  have iv : ∀ d h, vD (some (some (ipD n d))) h = .ok (ipD n d) h := fun d h => vD_fr rfl
  have iw : ∀ d h, vD (some (some (ipD (n + N) d))) h = .ok (ipD (n + N) d) h := fun d h => vD_fr rfl
  simp only [eOn_a] at lp
  unfold F__law_parts_poly
  push_cast [kl, fz, cl, lp, iw]
end B78
set_option exponentiation.threshold 20000
namespace B78
open PySem PySem.Spec L2 Fw Pd Dz Lw
theorem bt_iv {a : Int} {b : Nat} (h1 : -(2 ^ b : Int) < a) (h2 : a < 2 ^ b) : bt a.natAbs ≤ b := bt_le (by
  have e : ((2 ^ b : Nat) : Int) = (2 : Int) ^ b := by rw [Int.natCast_pow]; rfl
  omega)
theorem choose2 {α : Type} {n : Nat} {P : Nat → α → Prop} [Inhabited α] (h : ∀ j, j < n → ∃ x, P j x) : ∃ f : Nat → α, ∀ j, j < n → P j (f j) := by
  obtain ⟨f, hf⟩ := choose1 (P := fun j x => j < n → P j x) fun j => by
    by_cases c : j < n
    · obtain ⟨x, hx⟩ := h j c
      exact ⟨x, fun _ => hx⟩
    · exact ⟨default, fun z => absurd z c⟩
  exact ⟨f, hf⟩
theorem min2_i (a b : Int) : Fw.kMin2 [.int a, .int b] = some (.int (if b < a then b else a)) := rfl
theorem E_parts (dg : Nat) (h : D) (hh : HandI h) (d1 : 1 ≤ dg) (d5 : dg ≤ 5) :
    ∃ (n N : Nat) (c ρ : Nat → Int) (x : Int) (h' : D), n + N = dg ∧ F__law_parts [.me, .int (dg : Int)] h = .ok (.lst [.lst (gen N fun i => .int (ρ i)), ipD n c, .int x]) h' ∧ Ip n c 10 ∧ (∀ i, bt (ρ i).natAbs ≤ 17) ∧ HandI h' := by
  -- how much is free
  have e2 : ∃ (n : Nat) (h' : D), n ≤ dg ∧ HandI h' ∧ (eIf (eT (eOp oGt (eCall 2 F__law_take [] (eCons (eVm 0) (eCons (eC (.int 3)) eNil))) (eC (.int 0)))) (eCall 2 F__law_take [] (eCons (eVm 0) (eCons (eOp oAdd (eBi kMin2 (eCons (eV 1) (eCons (eC (.int 3)) eNil))) (eC (.int 1))) eNil))) (eC (.int 0))) [some .me, some (.int (dg : Int)), none, none, none, none] h = .ok (.int (n : Int)) h' := by
    obtain ⟨r, h1, e, r0, r1, i1⟩ := E_take 3 h hh (by decide) (by decide)
    by_cases z : 0 < r
    · have mn := min2_i (dg : Int) 3
      have mx : (if (3 : Int) < (dg : Int) then (3 : Int) else (dg : Int)) + 1 = ((min dg 3 + 1 : Nat) : Int) := by split <;> omega
      obtain ⟨v, h2, e2, v0, v1, i2⟩ := E_take ((min dg 3 + 1 : Nat) : Int) h1 i1 (by omega) (by omega)
      obtain ⟨n, rfl⟩ : ∃ n : Nat, v = n := ⟨v.toNat, by omega⟩
      refine ⟨n, h2, by omega, i2, ?_⟩
      push_cast [e, z, mn, mx, e2]
    · refine ⟨0, h1, by omega, i1, ?_⟩
      push_cast [e, z]
  obtain ⟨n, h2, nd, i2, e2⟩ := e2
  have e3 : ∃ (x : Int) (h' : D), 0 ≤ x ∧ x ≤ 30030 ∧ HandI h' ∧ (eIf (eT (eOp oLt (eV 1) (eC (.int 4)))) (eCall 2 F__law_pick [] (eCons (eVm 0) (eCons (eFz (eLst (eCons (eC (.int 0)) (eCons (eC (.int 0)) (eCons (eC (.int 0)) (eCons (eC (.int 0)) (eCons (eC (.int 0)) (eCons (eC (.int 385)) (eCons (eC (.int 5005)) (eCons (eC (.int 30030)) (eCons (eC (.int 30030)) eNil))))))))))) eNil))) (eC (.int 0))) [some .me, some (.int (dg : Int)), some (.int (n : Int)), none, none, none] h2 = .ok (.int x) h' := by
    by_cases z : (dg : Int) < 4
    · obtain ⟨d, hd, h3, e, i3⟩ := E_pick [.int 0, .int 0, .int 0, .int 0, .int 0, .int 385, .int 5005, .int 30030, .int 30030] h2 i2 (by decide) (by decide)
      have : ∃ x : Int, d = .int x ∧ 0 ≤ x ∧ x ≤ 30030 := by
        simp only [List.mem_cons, List.not_mem_nil, or_false] at hd
        rcases hd with rfl | rfl | rfl | rfl | rfl | rfl | rfl | rfl | rfl <;> exact ⟨_, rfl, by decide, by decide⟩
      obtain ⟨x, rfl, x0, x1⟩ := this
      refine ⟨x, h3, x0, x1, i3, ?_⟩
      push_cast [z, e]
    · refine ⟨0, h2, by decide, by decide, i2, ?_⟩
      push_cast [z]
  obtain ⟨x, h3, x0, x1, i3, e3⟩ := e3
  have dn : (dg : Int) - (n : Int) = ((dg - n : Nat) : Int) := by omega
  obtain ⟨δ', h4, lp, i4, ρ, y5, ed, hρ⟩ := for_draw (bind := bNm 5) (body := (sApp (pV 4) (eOp oAdd (eOp oSub (eCall 2 F__law_take [] (eCons (eVm 0) (eCons (eC (.int 13)) eNil))) (eC (.int 6))) (eOp oMul (eV 3) (eOp oSub (eCall 2 F__law_take [] (eCons (eVm 0) (eCons (eC (.int 3)) eNil))) (eC (.int 1)))))))
    (d := fun i => .int (i : Int)) (n := dg - n) (h := h3) (δ := [some .me, some (.int (dg : Int)), some (.int (n : Int)), some (.int x), some (.hl []), none])
    (fun s δ h' => HandI h' ∧ ∃ (ρ : Nat → Int) (y5 : Option D), δ = [some .me, some (.int (dg : Int)), some (.int (n : Int)), some (.int x), some (.hl (gen s fun i => .int (ρ i))), y5] ∧ ∀ i, bt (ρ i).natAbs ≤ 17)
    (fun s hs δ h' ⟨i', ρ, y5, ed, hρ⟩ => by
      subst ed
      obtain ⟨a, g1, ea, a0, a1, ia⟩ := E_take 13 h' i' (by decide) (by decide)
      obtain ⟨b, g2, eb, b0, b1, ib⟩ := E_take 3 g1 ia (by decide) (by decide)
      have xb : x * (b - 1) = -x ∨ x * (b - 1) = 0 ∨ x * (b - 1) = x := by
        have : b = 0 ∨ b = 1 ∨ b = 2 := by omega
        rcases this with rfl | rfl | rfl
        · left; omega
        · right; left; omega
        · right; right; omega
      have m1 : cMul x (b - 1) = true := cMul_b (by
        have := bt_iv (a := x) (b := 17) (by omega) (by omega)
        have := bt_iv (a := b - 1) (b := 17) (by omega) (by omega)
        omega)
      have ap : (gen s fun i => D.int (ρ i)) ++ [.int (a - 6 + x * (b - 1))] = gen (s + 1) fun i => .int (if i = s then a - 6 + x * (b - 1) else ρ i) := by
        rw [gen_last, if_pos rfl]
        congr 1
        exact gen_congr fun i hi => by rw [if_neg (by omega)]
      have sz : szOk s = true := sz_ok (by omega)
      refine ⟨_, rfl, [some .me, some (.int (dg : Int)), some (.int (n : Int)), some (.int x), some (.hl (gen (s + 1) fun i => .int (if i = s then a - 6 + x * (b - 1) else ρ i))), some (.int (s : Int))], g2, ?_, ib, fun i => if i = s then a - 6 + x * (b - 1) else ρ i, some (.int (s : Int)), rfl, fun i => ?_⟩
      · push_cast [ea, eb, m1, ap, sz]
      · show bt (if i = s then a - 6 + x * (b - 1) else ρ i).natAbs ≤ 17
        split
        · exact bt_iv (by omega) (by omega)
        · exact hρ i) ⟨i3, fun _ => 0, none, rfl, fun _ => Nat.le_trans (bt_le (n := 0) (b := 0) (by decide)) (Nat.zero_le _)⟩
  subst ed
  -- the free part
  obtain ⟨g, h5, lc, hg, i5⟩ := lc_drawF (bind := bNm 5) (elt := (eOp oSub (eCall 2 F__law_take [] (eCons (eVm 0) (eCons (eC (.int 19)) eNil))) (eC (.int 9)))) (δ := [some .me, some (.int (dg : Int)), some (.int (n : Int)), some (.int x), some (.lst (gen (dg - n) fun i => .int (ρ i))), none]) (I := HandI) (R := fun _ y => ∃ z : Int, y = .int z ∧ bt z.natAbs ≤ 10) (d := fun i => .int (i : Int)) n 0 h4 i4 fun i _ _ h' i' => by
    obtain ⟨a, g1, ea, a0, a1, ia⟩ := E_take 19 h' i' (by decide) (by decide)
    refine ⟨_, rfl, .int (a - 9), g1, ?_, ⟨_, rfl, bt_iv (by omega) (by omega)⟩, ia⟩
    push_cast [ea]
  simp only [Nat.zero_add] at lc
  obtain ⟨z, hz⟩ := choose2 (n := n) (P := fun i (z : Int) => g i = .int z ∧ bt z.natAbs ≤ 10) fun i hi => hg i (by omega) (by omega)
  have gz : (gen n fun i => g i) = gen n fun i => .int (z i) := gen_congr fun i hi => (hz i hi).1
  rw [gz] at lc
  have lcm : mapN n (fun i h => if i < n then (F__law_take [D.me, D.int 19] h).bind fun x h1 => Ex.of (oSub x (D.int 9)) h1 else Ex.bad) h4 = .ok (gen n fun i => .int (z i)) h5 := by
    rw [← lc]
    push_cast []
  let c : Nat → Int := fun j => if j < n then z j else if j = n then 1 else 0
  have cap : (gen n fun i => D.int (z i)) ++ [.int 1] = gen (n + 1) fun i => .int (c i) := by
    rw [gen_last]
    have : c n = 1 := by show (if n < n then z n else if n = n then 1 else 0) = 1; rw [if_neg (by omega), if_pos rfl]
    rw [this]
    congr 1
    exact gen_congr fun i hi => by show D.int (z i) = .int (if i < n then z i else if i = n then 1 else 0); rw [if_pos hi]
  have fz1 : frzL (gen n fun i => D.int (z i)) = gen n fun i => .int (z i) := frzL_int
  have fz2 : frzL (gen (dg - n) fun i => D.int (ρ i)) = gen (dg - n) fun i => .int (ρ i) := frzL_int
  have fz3 : frzL (gen (n + 1) fun i => D.int (c i)) = gen (n + 1) fun i => .int (c i) := frzL_int
  have sz : szOk n = true := sz_ok (by omega)
  refine ⟨n, dg - n, c, ρ, x, h5, by omega, ?_, ⟨?_, fun j => ?_⟩, hρ, i5⟩
  · unfold F__law_parts ipD
    push_cast [↓e2, ↓e3, dn, lp, fz2, lcm, fz1, sz, plus_l, cap, fz3]
  · show (if n < n then z n else if n = n then 1 else 0) = 1
    rw [if_neg (by omega), if_pos rfl]
  · show bt (if j < n then z j else if j = n then 1 else 0).natAbs ≤ 10
    split
    · rename_i hj
      exact (hz j hj).2
    · split <;> exact bt_le (by decide)
end B78
set_option exponentiation.threshold 20000
namespace B78
open PySem PySem.Spec L2 Fw Pd Dz Lw
theorem eraseIdx_map78 {α β : Type} (f : α → β) : ∀ (l : List α) (j : Nat), (l.map f).eraseIdx j = (l.eraseIdx j).map f
  | [], _ => rfl
  | _ :: _, 0 => rfl
  | x :: l, j + 1 => by
    show f x :: (l.map f).eraseIdx j = f x :: (l.eraseIdx j).map f
    rw [eraseIdx_map78 f l j]
theorem E_shuffled (N : Nat) (h : D) (hh : HandI h) (hN : N ≤ 20) :
    ∃ (σ : Nat → Int) (h' : D), F__law_shuffled [.me, .lst (gen N fun j => .int (j : Int))] h = .ok (.lst (gen N fun i => .int (σ i))) h' ∧ (∀ i, 0 ≤ σ i ∧ σ i ≤ 20) ∧ HandI h' := by
  obtain ⟨δ', h2, lp, i2, pool, σ, y4, ed, pl, pin, hσ⟩ := for_draw (bind := bNm 4) (body := sAppPop 3 (pV 2) (eCall 2 F__law_take [] (eCons (eVm 0) (eCons (eLenP (pV 2)) eNil))))
    (d := fun i => .int (i : Int)) (n := N) (h := h) (δ := [some .me, some (.lst (gen N fun j => .int (j : Int))), some (.hl (gen N fun j => .int (j : Int))), some (.hl []), none])
    (fun s δ h' => HandI h' ∧ ∃ (pool : List Int) (σ : Nat → Int) (y4 : Option D), δ = [some .me, some (.lst (gen N fun j => .int (j : Int))), some (.hl (pool.map D.int)), some (.hl (gen s fun i => .int (σ i))), y4] ∧ pool.length = N - s ∧ (∀ x ∈ pool, 0 ≤ x ∧ x ≤ 20) ∧ ∀ i, 0 ≤ σ i ∧ σ i ≤ 20)
    (fun s hs δ h' ⟨i', pool, σ, y4, ed, pl, pin, hσ⟩ => by
      subst ed
      have hl : (pool.map D.int).length = N - s := by rw [List.length_map, pl]
      obtain ⟨r, g1, er, r0, r1, i1⟩ := E_take ((N - s : Nat) : Int) h' i' (by omega) (by omega)
      obtain ⟨j, rfl⟩ : ∃ j : Nat, r = j := ⟨r.toNat, by omega⟩
      have hj : j < pool.length := by omega
      have gj : (pool.map D.int)[j]? = some (.int pool[j]) := by rw [List.getElem?_map, List.getElem?_eq_getElem hj]; rfl
      have ee : (pool.map D.int).eraseIdx j = (pool.eraseIdx j).map D.int := eraseIdx_map78 D.int pool j
      have ix : ixN (N - s) (j : Int) = some j := by
        unfold ixN
        rw [if_pos (by omega), if_pos (by omega), Int.toNat_natCast]
      have ap : (gen s fun i => D.int (σ i)) ++ [.int pool[j]] = gen (s + 1) fun i => .int (if i = s then pool[j] else σ i) := by
        rw [gen_last, if_pos rfl]
        congr 1
        exact gen_congr fun i hi => by rw [if_neg (by omega)]
      have sz1 : szOk s = true := sz_ok (by omega)
      have sz2 : szOk (N - s) = true := sz_ok (by omega)
      have fi : ∀ i, (D.int i).fr = true := fun _ => rfl
      have ne : ((2 : Nat) ≠ 3) := by decide
      refine ⟨_, rfl, [some .me, some (.lst (gen N fun j => .int (j : Int))), some (.hl ((pool.eraseIdx j).map D.int)), some (.hl (gen (s + 1) fun i => .int (if i = s then pool[j] else σ i))), some (.int (s : Int))], g1, ?_, i1, pool.eraseIdx j, fun i => if i = s then pool[j] else σ i, some (.int (s : Int)), rfl, ?_, fun x hx => pin x (List.mem_of_mem_eraseIdx hx), fun i => ?_⟩
      · unfold sAppPop
        push_cast [hl, er, ix, gj, ee, ap, sz1, sz2, fi, ne]
      · rw [List.length_eraseIdx_of_lt hj, pl]; omega
      · show 0 ≤ (if i = s then pool[j] else σ i) ∧ (if i = s then pool[j] else σ i) ≤ 20
        split
        · exact pin _ (List.getElem_mem hj)
        · exact hσ i) ⟨hh, gen N fun j => (j : Int), fun _ => 0, none, by rw [gen_map]; rfl, by rw [gen_len]; omega, fun x hx => by
          obtain ⟨j, hj, rfl⟩ := gen_mem.mp hx
          omega, fun _ => ⟨Int.le_refl 0, by show (0 : Int) ≤ 20; omega⟩⟩
  subst ed
  have fz : frzL (gen N fun i => D.int (σ i)) = gen N fun i => .int (σ i) := frzL_int
  refine ⟨σ, h2, ?_, hσ, i2⟩
  unfold F__law_shuffled
  push_cast [lp, fz]
theorem E_apart {k : Fg} (hp : k.p ≠ 0) (n : Nat) (h : D) (hh : HandI h) (hn : n ≤ 5) (np : n ≤ k.p.toNat) :
    ∃ (c : Nat → Int) (h' : D), F__law_apart_poly [.me, .int k.p, .int (n : Int)] h = .ok (ipD n c) h' ∧ Ip n c 200 ∧ HandI h' := by
  have p0 := kp_pos hp
  have es : ∀ δ : Option D → Option D → Option D → Option D → Option D → Option D → Option D → DE, True := fun _ => trivial
  have mapid : ∀ h, (eFz (eLc [4] (iRg rg1 (eCons (eV 1) eNil)) (bNm 4) tYesD (eV 4))) [some .me, some (.int k.p), some (.int (n : Int)), none, none, none, none, none, none, none] h = .ok (.lst (gen k.p.toNat fun j => .int (j : Int))) h := fun h => by
    have fz : frzL (gen k.p.toNat fun j => D.int (j : Int)) = gen k.p.toNat fun j => .int (j : Int) := frzL_int
    push_cast [fz]
  obtain ⟨σ, h1, e1, hσ, i1⟩ := E_shuffled k.p.toNat h hh (by omega)
  have mn : min n k.p.toNat = n := by omega
  have fz1 : frzL (gen n fun i => D.int (σ i)) = gen n fun i => .int (σ i) := frzL_int
  obtain ⟨δ', h2, lp, i2, c, y6, y7, ed, I⟩ := for_draw (bind := bNm 6) (body := (sSeq (sSet 6 (eOp oAdd (eV 6) (eOp oMul (eV 1) (eOp oSub (eCall 2 F__law_take [] (eCons (eVm 0) (eCons (eC (.int 9)) eNil))) (eC (.int 4))))))
    (sSeq (sSet 7 (eFz (eOn oPlus (eFz (eLst (eCons (eC (.int 0)) eNil))) (eV 5))))
    (sSet 5 (eFz (eLc [8] (iRg rg1 (eCons (eBi kLen (eCons (eV 7) eNil)) eNil)) (bNm 8) tYesD (eOp oSub (eOp oIx (eV 7) (eV 8)) (eOp oMul (eV 6) (eOp oIx (eFz (eOn oPlus (eV 5) (eFz (eLst (eCons (eC (.int 0)) eNil))))) (eV 8))))))))))
    (d := fun i => .int (σ i)) (n := n) (h := h1) (δ := [some .me, some (.int k.p), some (.int (n : Int)), some (.lst (gen n fun i => .int (σ i))), none, some (ipD 0 fun _ => 1), none, none, none, none])
    (fun s δ h' => HandI h' ∧ ∃ (c : Nat → Int) (y6 y7 : Option D), δ = [some .me, some (.int k.p), some (.int (n : Int)), some (.lst (gen n fun i => .int (σ i))), none, some (ipD s c), y6, y7, none, none] ∧ Ip s c (1 + 10 * s))
    (fun s hs δ h' ⟨i', c, y6, y7, ed, I⟩ => by
      subst ed
      obtain ⟨a, g1, ea, a0, a1, ia⟩ := E_take 9 h' i' (by decide) (by decide)
      have b1 := bt_iv (a := k.p) (b := 4) (by omega) (by omega)
      have b2 := bt_iv (a := a - 4) (b := 3) (by omega) (by omega)
      have m1 : cMul k.p (a - 4) = true := cMul_b (by omega)
      have b3 : bt (σ s + k.p * (a - 4)).natAbs ≤ 9 := by
        have h1 := bt_sum (σ s) (k.p * (a - 4))
        have h2 := bt_mul k.p.natAbs (a - 4).natAbs
        rw [Int.natAbs_mul] at h1
        have h3 := bt_iv (a := σ s) (b := 5) (by have := (hσ s).1; omega) (by have := (hσ s).2; omega)
        omega
      have st := step_b s c (σ s + k.p * (a - 4)) (1 + 10 * s) (by omega) I (Nat.le_trans b3 (by omega)) (by omega) (some .me) (some (.int k.p)) (some (.int (n : Int))) (some (.lst (gen n fun i => .int (σ i)))) none y7 none none g1
      have I2 := I.up b3
      have ev : (sSet 6 (eOp oAdd (eV 6) (eOp oMul (eV 1) (eOp oSub (eCall 2 F__law_take [] (eCons (eVm 0) (eCons (eC (.int 9)) eNil))) (eC (.int 4)))))) [some .me, some (.int k.p), some (.int (n : Int)), some (.lst (gen n fun i => .int (σ i))), none, some (ipD s c), some (.int (σ s)), y7, none, none] h' = .nx [some .me, some (.int k.p), some (.int (n : Int)), some (.lst (gen n fun i => .int (σ i))), none, some (ipD s c), some (.int (σ s + k.p * (a - 4))), y7, none, none] g1 := by
        push_cast [ea, m1]
      refine ⟨_, rfl, [some .me, some (.int k.p), some (.int (n : Int)), some (.lst (gen n fun i => .int (σ i))), none, some (ipD (s + 1) (stC s c (σ s + k.p * (a - 4)))), some (.int (σ s + k.p * (a - 4))), some (.lst (gen (s + 2) fun j => .int (upC c j))), none, none], g1, ?_, ia, stC s c (σ s + k.p * (a - 4)), _, _, rfl, I2.one, fun j => Nat.le_trans (I2.sm j) (by omega)⟩
      rw [sSeq_a]
      refine Eq.trans (congrArg (fun z => Fl.bind z _) ev) ?_
      exact st) ⟨i1, fun _ => 1, none, none, rfl, rfl, fun _ => bt_le (by decide)⟩
  subst ed
  obtain ⟨t, h3, et, t0, t1, i3⟩ := E_take 4 h2 i2 (by decide) (by decide)
  simp only [eOn_a] at lp
  have w0 : D.lst [D.int 1] = ipD 0 fun _ => 1 := rfl
  have iv : ∀ h, vD (some (some (ipD n c))) h = .ok (ipD n c) h := fun h => vD_fr rfl
  by_cases z : t = 0
  · refine ⟨c, h3, ?_, ⟨I.one, fun j => Nat.le_trans (I.sm j) (by omega)⟩, i3⟩
    subst z
    unfold F__law_apart_poly
    push_cast [↓mapid, e1, slD_l, cut_hi, mn, fz1, eOpt_a, w0, lp, et, iv]
  · obtain ⟨d, hd, h4, ed4, i4⟩ := E_pick [.int 1, .int 1, .int 1, .int 10000] h3 i3 (by decide) (by decide)
    have : ∃ x : Int, d = .int x ∧ 0 ≤ x ∧ x ≤ 10000 := by
      simp only [List.mem_cons, List.not_mem_nil, or_false] at hd
      rcases hd with rfl | rfl | rfl | rfl <;> exact ⟨_, rfl, by decide, by decide⟩
    obtain ⟨x, rfl, x0, x1⟩ := this
    have pw4 : oPow (.int 10) (.int 4) = some (.int 10000) := rfl
    have b1 := bt_iv (a := k.p) (b := 4) (by omega) (by omega)
    have b2 := bt_iv (a := x) (b := 14) (by omega) (by omega)
    have m1 : cMul k.p x = true := cMul_b (by omega)
    have b3 : bt (k.p * x).natAbs ≤ 18 := by
      rw [Int.natAbs_mul]
      have := bt_mul k.p.natAbs x.natAbs
      omega
    have nn : ((n + 1 : Nat) : Int) - 1 = (n : Int) := by omega
    obtain ⟨g, h5, lc, hg, i5⟩ := lc_drawF (bind := bNm 8) (elt := (eOp oAdd (eOp oIx (eV 5) (eV 8)) (eOp oMul (eOp oMul (eV 1) (eV 9)) (eOp oSub (eCall 2 F__law_take [] (eCons (eVm 0) (eCons (eC (.int 19)) eNil))) (eC (.int 9)))))) (δ := [some .me, some (.int k.p), some (.int (n : Int)), some (.lst (gen n fun i => .int (σ i))), none, some (ipD n c), y6, y7, none, some (.int x)]) (I := HandI) (R := fun _ y => ∃ z : Int, y = .int z ∧ bt z.natAbs ≤ 200) (d := fun i => .int (i : Int)) n 0 h4 i4 fun i hi0 hi h' i' => by
      obtain ⟨a, g1, ea, a0, a1, ia⟩ := E_take 19 h' i' (by decide) (by decide)
      have b4 := bt_iv (a := a - 9) (b := 4) (by omega) (by omega)
      have m2 : cMul (k.p * x) (a - 9) = true := cMul_b (by omega)
      have at_ : atI (gen (n + 1) fun j => D.int (c j)) (i : Int) = some (.int (c i)) := by
        have := atI_gen (n := n + 1) (f := fun j => D.int (c j)) (i := (i : Int)) (by omega) (by omega)
        rw [Int.toNat_natCast] at this
        exact this
      refine ⟨_, rfl, .int (c i + k.p * x * (a - 9)), g1, ?_, ⟨_, rfl, ?_⟩, ia⟩
      · unfold ipD
        push_cast [at_, m1, m2, ea]
      · have h1 := bt_sum (c i) (k.p * x * (a - 9))
        have h2 := bt_mul (k.p * x).natAbs (a - 9).natAbs
        rw [Int.natAbs_mul] at h1
        have := I.sm i
        omega
    simp only [Nat.zero_add] at lc
    obtain ⟨zz, hz⟩ := choose2 (n := n) (P := fun i (z : Int) => g i = .int z ∧ bt z.natAbs ≤ 200) fun i hi => hg i (by omega) (by omega)
    have gz : (gen n fun i => g i) = gen n fun i => .int (zz i) := gen_congr fun i hi => (hz i hi).1
    rw [gz] at lc
    let c2 : Nat → Int := fun j => if j < n then zz j else if j = n then 1 else 0
    have cap : (gen n fun i => D.int (zz i)) ++ [.int 1] = gen (n + 1) fun i => .int (c2 i) := by
      rw [gen_last]
      have : c2 n = 1 := by show (if n < n then zz n else if n = n then 1 else 0) = 1; rw [if_neg (by omega), if_pos rfl]
      rw [this]
      congr 1
      exact gen_congr fun i hi => by show D.int (zz i) = .int (if i < n then zz i else if i = n then 1 else 0); rw [if_pos hi]
    have fz2 : frzL (gen n fun i => D.int (zz i)) = gen n fun i => .int (zz i) := frzL_int
    have fz3 : frzL (gen (n + 1) fun i => D.int (c2 i)) = gen (n + 1) fun i => .int (c2 i) := frzL_int
    have il : kLen [ipD n c] = some (.int ((n + 1 : Nat) : Int)) := by unfold ipD; rw [kLen_l, gen_len]
    have eE : (eFz (eLc [8] (iRg rg1 (eCons (eOp oSub (eBi kLen (eCons (eV 5) eNil)) (eC (.int 1))) eNil)) (bNm 8) tYesD (eOp oAdd (eOp oIx (eV 5) (eV 8)) (eOp oMul (eOp oMul (eV 1) (eV 9)) (eOp oSub (eCall 2 F__law_take [] (eCons (eVm 0) (eCons (eC (.int 19)) eNil))) (eC (.int 9))))))) [some .me, some (.int k.p), some (.int (n : Int)), some (.lst (gen n fun i => .int (σ i))), none, some (ipD n c), y6, y7, none, some (.int x)] h4 = .ok (.lst (gen n fun i => .int (zz i))) h5 := by
      have sz : szOk (gen n fun i => D.int (i : Int)).length = true := by rw [gen_len]; exact sz_ok (by omega)
      simp only [eFz_a, eLc_a, eLcL_a, iRg_a, eCons_a, eNil_a, eOp_a, eBi_a, eV_a, eC_a, iv, bind_okE, List.getElem?_cons_succ, List.getElem?_cons_zero, il, of_someE, oSub_i, nn]
      have rg : rg1 [.int (n : Int)] = some (gen n fun i => .int (i : Int)) := by
        have := rg1_ok (i := (n : Int)) (by omega) (by omega)
        rw [Int.toNat_natCast] at this
        exact this
      simp only [rg, of_someE, bind_okE, sz, if_true]
      show ((lcGo _ _ _ [some .me, some (.int k.p), some (.int (n : Int)), some (.lst (gen n fun i => .int (σ i))), none, some (ipD n c), y6, y7, none, some (.int x)] _ h4).bind _).bind _ = _
      rw [lc]
      simp only [bind_okE, sfz, fz2]
    refine ⟨c2, h5, ?_, ⟨?_, fun j => ?_⟩, i5⟩
    · unfold F__law_apart_poly
      have fzc : D.lst (gen (n + 1) fun i => .int (c2 i)) = ipD n c2 := rfl
      have pl : oPlus (.lst (gen n fun i => D.int (zz i))) (ipD 0 fun _ => 1) = some (.hl (gen (n + 1) fun i => .int (c2 i))) := by
        rw [← w0, plus_l (by rw [gen_len, List.length_singleton]; omega), cap]
      push_cast [↓mapid, e1, slD_l, cut_hi, mn, fz1, eOpt_a, w0, lp, et, z, pw4, ed4, ↓eE, pl, fz3, fzc]
    · show (if n < n then zz n else if n = n then 1 else 0) = 1
      rw [if_neg (by omega), if_pos rfl]
    · show bt (if j < n then zz j else if j = n then 1 else 0).natAbs ≤ 200
      split
      · rename_i hj
        exact (hz j hj).2
      · split <;> exact bt_le (by decide)
end B78
set_option exponentiation.threshold 20000
namespace B78
open PySem PySem.Spec L2 Fw Pd Dz Lw
theorem sc_pw {sc : Int} (s1 : 1 ≤ sc) (s2 : sc ≤ 17) : ∀ m : Nat, 0 < sc ^ m ∧ bt (sc ^ m).natAbs ≤ 5 * m + 1
  | 0 => ⟨by rw [Int.pow_zero]; omega, by rw [Int.pow_zero]; exact bt_le (by decide)⟩
  | m + 1 => by
    obtain ⟨a, b⟩ := sc_pw s1 s2 m
    refine ⟨Int.pow_pos (by omega), ?_⟩
    rw [Int.pow_succ, Int.natAbs_mul]
    have h1 := bt_mul (sc ^ m).natAbs sc.natAbs
    have h2 := bt_iv (a := sc) (b := 5) (by omega) (by omega)
    omega
def scF (n : Nat) (c : Nat → Int) (sc : Int) (j : Nat) : Rat := if j ≤ n then Rat.divInt (c j) (sc ^ (n - j)) else 0
def l6 (n : Nat) : Nat → Option D
  | 0 => none
  | s + 1 => lv (l6 n s) (fun i => .int (i : Int)) (n - s)
theorem E_scaled (n : Nat) (c : Nat → Int) (sc : Int) (h : D) (n1 : 1 ≤ n) (n5 : n ≤ 5) (I : Ip n c 200) (s1 : 1 ≤ sc) (s2 : sc ≤ 17) : F__law_scaled_78 [ipD n c, .int sc] h = .ok (raw true n (scF n c sc)) h ∧ Dp n (scF n c sc) := by
  constructor
  · have inn : ∀ (s : Nat), s < n + 1 → ∀ (x1 : Option D) h, forGo (bNm 6) (sSet 5 (eOp oMul (eV 5) (eV 1))) (gen (n - s) fun i => .int (i : Int)) [some (ipD n c), some (.int sc), some (.int (n : Int)), some (.hl (gen s fun j => encQ (scF n c sc j))), some (.int (s : Int)), some (.int 1), x1] h
        = .nx [some (ipD n c), some (.int sc), some (.int (n : Int)), some (.hl (gen s fun j => encQ (scF n c sc j))), some (.int (s : Int)), some (.int (sc ^ (n - s))), lv x1 (fun i => .int (i : Int)) (n - s)] h := fun s hs x1 h => by
      have lp := for_gen0 (h := h) (bind := bNm 6) (body := (sSet 5 (eOp oMul (eV 5) (eV 1)))) (d := fun i => .int (i : Int)) (n := n - s)
        (fun m => [some (ipD n c), some (.int sc), some (.int (n : Int)), some (.hl (gen s fun j => encQ (scF n c sc j))), some (.int (s : Int)), some (.int (sc ^ m)), lv x1 (fun i => .int (i : Int)) m]) fun m hm => by
          have b := (sc_pw s1 s2 m).2
          have b2 := bt_iv (a := sc) (b := 5) (by omega) (by omega)
          have m1 : cMul (sc ^ m) sc = true := cMul_b (by omega)
          have e : sc ^ m * sc = sc ^ (m + 1) := (Int.pow_succ sc m).symm
          refine ⟨_, rfl, ?_⟩
          push_cast [lv_s, m1, e]
      simp only [lv_0] at lp
      rw [Int.pow_zero] at lp
      exact lp
    have lp := for_gen0 (h := h) (bind := bNm 4) (body := (sSeq (sSet 5 (eC (.int 1)))
    (sSeq (sFor (iRg rg1 (eCons (eOp oSub (eV 2) (eV 4)) eNil)) (bNm 6) (sSet 5 (eOp oMul (eV 5) (eV 1))))
    (sApp (pV 3) (eCall 2 F__law_ratio [] (eCons (eOp oIx (eV 0) (eV 4)) (eCons (eVm 5) eNil))))))) (d := fun i => .int (i : Int)) (n := n + 1)
      (fun s => [some (ipD n c), some (.int sc), some (.int (n : Int)), some (.hl (gen s fun j => encQ (scF n c sc j))), lv none (fun i => .int (i : Int)) s, lv none (fun s => .int (sc ^ (n - s))) s, l6 n s]) fun s hs => by
        have ns : (n : Int) - (s : Int) = ((n - s : Nat) : Int) := by omega
        have pw := sc_pw s1 s2 (n - s)
        have er : ∀ h, F__law_ratio [.int (c s), .int (sc ^ (n - s))] h = .ok (encQ (Rat.divInt (c s) (sc ^ (n - s)))) h := fun h => E_ratio (c s) (sc ^ (n - s)) h (by omega) (by omega)
        have at_ : atI (gen (n + 1) fun j => D.int (c j)) (s : Int) = some (.int (c s)) := by
          have := atI_gen (n := n + 1) (f := fun j => D.int (c j)) (i := (s : Int)) (by omega) (by omega)
          rw [Int.toNat_natCast] at this
          exact this
        have iv : ∀ h, vD (some (some (ipD n c))) h = .ok (ipD n c) h := fun h => vD_fr rfl
        have ix : oIx (ipD n c) (.int (s : Int)) = some (.int (c s)) := by
          unfold ipD
          rw [oIx_l, at_]
        have qf : ∀ x, (encQ x).fr = true := fun x => rfl
        have ap : (gen s fun j => encQ (scF n c sc j)) ++ [encQ (Rat.divInt (c s) (sc ^ (n - s)))] = gen (s + 1) fun j => encQ (scF n c sc j) := by
          rw [gen_last]
          unfold scF
          rw [if_pos (show s ≤ n by omega)]
        have sz : szOk s = true := sz_ok (by omega)
        have inn := inn s hs
        refine ⟨_, rfl, ?_⟩
        have l1 : l6 n (s + 1) = lv (l6 n s) (fun i => .int (i : Int)) (n - s) := rfl
        rw [lv_s, lv_s, l1]
        push_cast [ns, inn, iv, ix, er, qf, ap, sz]
    simp only [lv_0] at lp
    have n1' : ((n + 1 : Nat) : Int) - 1 = (n : Int) := by omega
    have il : kLen [ipD n c] = some (.int ((n + 1 : Nat) : Int)) := by unfold ipD; rw [kLen_l, gen_len]
    have iv : ∀ h, vD (some (some (ipD n c))) h = .ok (ipD n c) h := fun h => vD_fr rfl
    have np : (n : Int) + 1 = ((n + 1 : Nat) : Int) := by omega
    have g0 : (gen 0 fun j => encQ (scF n c sc j)) = [] := rfl
    rw [g0] at lp
    have l0 : l6 n 0 = none := rfl
    rw [l0] at lp
    have fz : frzL (gen (n + 1) fun j => encQ (scF n c sc j)) = gen (n + 1) fun j => encQ (scF n c sc j) := frzL_gen fun _ => rfl
    have ro : D.lst (gen (n + 1) fun j => encQ (scF n c sc j)) = raw true n (scF n c sc) := rfl
    unfold F__law_scaled_78
    have rv : ∀ h, vD (some (some (raw true n (scF n c sc)))) h = .ok (raw true n (scF n c sc)) h := fun h => vD_fr rfl
    push_cast [iv, il, n1', np, lp, fz, ro, rv]
  · refine ⟨n1, n5, ?_, fun j hj => if_neg (by omega), fun j => ?_⟩
    · show (if n ≤ n then Rat.divInt (c n) (sc ^ (n - n)) else 0) = 1
      rw [if_pos (Nat.le_refl n), Nat.sub_self, Int.pow_zero, I.one]
      decide +kernel
    · show hq (if j ≤ n then Rat.divInt (c j) (sc ^ (n - j)) else 0) ≤ 300
      split
      · have p := sc_pw s1 s2 (n - j)
        have h1 := hq_div (c j) (b := sc ^ (n - j)) (by omega)
        have h2 := I.sm j
        omega
      · decide
end B78
set_option exponentiation.threshold 20000
namespace Lw
open PySem PySem.Spec L2 Fw Pd Dz
end Lw
set_option exponentiation.threshold 20000
namespace Lw
open PySem PySem.Spec L2 Fw Pd Dz
end Lw
set_option exponentiation.threshold 20000
namespace Lw
open PySem PySem.Spec L2 Fw Pd Dz
end Lw
set_option exponentiation.threshold 20000
namespace Lw
open PySem PySem.Spec L2 Fw Pd Dz
end Lw
set_option exponentiation.threshold 20000
namespace Lw
open PySem PySem.Spec L2 Fw Pd Dz
end Lw
set_option exponentiation.threshold 20000
namespace Lw
open PySem PySem.Spec L2 Fw Pd Dz
end Lw
set_option exponentiation.threshold 20000
namespace Lw
open PySem PySem.Spec L2 Fw Pd Dz
end Lw
set_option exponentiation.threshold 20000
namespace Lw
open PySem PySem.Spec L2 Fw Pd Dz
end Lw
set_option exponentiation.threshold 20000
namespace Lw
open PySem PySem.Spec L2 Fw Pd Dz
end Lw
set_option exponentiation.threshold 20000
namespace Lw
open PySem PySem.Spec L2 Fw Pd Dz
end Lw
set_option exponentiation.threshold 20000
namespace Lw
open PySem PySem.Spec L2 Fw Pd Dz
def cpB : SF := (sIf (eNot (eTru (eMeth "Figures" "is_number" 2 F_Figures_is_number [] (eV 0) (eCons (eVm 3) eNil)))) (sRaise "BadPoly" (flD2 "index" "what") (eCons (eV 2) (eCons (eC (.str "number")) eNil))) sNil)
end Lw
set_option exponentiation.threshold 20000
namespace B78
open PySem PySem.Spec L2 Fw Pd Dz Lw
theorem E_cpnum (n : Nat) (f : Nat → Rat) (h : D) (hn : n + 1 ≤ 12) : F_check_poly [fig .q, .lst (gen (n + 1) fun j => if j = n then .int 1 else encQ (f j))] h = .exc "BadPoly" [("what", .str "number"), ("index", .int (n : Int))] h := by
  have s0 : F_is_sequence [.lst (gen (n + 1) fun j => if j = n then D.int 1 else encQ (f j))] h = .ok (.bl true) h := E_isseq true _ h
  have g1 : ¬ (12 : Int) < ((n + 1 : Nat) : Int) := by omega
  have eb : F_Figures_is_number [fig .q, .int 1] h = .ok (.bl false) h := E_badnum .q h
  have f2 : ∀ x y : D, flD2 "index" "what" [x, y] = some [(("what" : Str), y), (("index" : Str), x)] := fun x y => rfl
  have lo := for_genX0 (bind := bTp [(bNm 2), (bNm 3)]) (body := cpB) (d := fun j => .tup [.int (j : Int), if j = n then .int 1 else encQ (f j)]) (h := h) (n := n + 1) (p := n) (nm := "BadPoly") (fs := [("what", .str "number"), ("index", .int (n : Int))])
      (δ3 := [some (fig .q), some (.lst (gen (n + 1) fun j => if j = n then .int 1 else encQ (f j))), some (.int (n : Int)), some (.int 1)])
      (fun i => [some (fig .q), some (.lst (gen (n + 1) fun j => if j = n then .int 1 else encQ (f j))), lv none (fun i => .int (i : Int)) i, lv none (fun i => if i = n then .int 1 else encQ (f i)) i]) (by omega) (by
        show _ = some [some (fig .q), some (.lst (gen (n + 1) fun j => if j = n then .int 1 else encQ (f j))), some (.int (n : Int)), some (if n = n then .int 1 else encQ (f n))]
        rfl) (by
        rw [if_pos rfl]
        unfold cpB
        push_cast [fig_vd, eMeth_f, md_is_number, eb, f2]) fun i hi => by
          have e : F_Figures_is_number [fig .q, encQ (f i)] h = .ok (.bl true) h := E_isnum .q (f i) h
          have ni : ¬ i = n := by omega
          have ev : ∀ h, vmD (some (some (encQ (f i)))) h = .ok (encQ (f i)) h := fun h => rfl
          refine ⟨_, rfl, ?_⟩
          unfold cpB
          push_cast [lv_s, fig_vd, eMeth_f, md_is_number, ni, ev, e]
  simp only [lv_0] at lo
  unfold cpB at lo
  unfold F_check_poly
  push_cast [s0, g1, lo]
theorem fp_exc (d : D) (fd : d.fr = true) (h : D) (n : Str) (fs : List (Str × D)) (e : F_check_led_poly [fig .q, d, .int 1, .int 5] h = .exc n fs h) : F_check_fraction_poly [d] h = .exc n fs h := by
  have vm : ∀ h, vmD (some (some d)) h = .ok d h := fun h => vmD_fr fd
  unfold F_check_fraction_poly
  push_cast [↓mk0, vm, e]
theorem fp_nil (h : D) : F_check_fraction_poly [.lst []] h = .exc "BadPoly" [("what", .str "degree"), ("index", .int 0)] h := by
  refine fp_exc _ rfl h _ _ ?_
  have e := E_cp_nil .q h
  have n0 : ((0 : Nat) : Int) = 0 := rfl
  have g : (0 : Int) - 1 < 1 := by omega
  unfold F_check_led_poly
  push_cast [fig_vm, e, n0, g, flD2]
theorem fp_non (h : D) : F_check_fraction_poly [.non] h = .exc "BadPoly" [("what", .str "many"), ("index", .int 0)] h := by
  refine fp_exc _ rfl h _ _ (E_led_exc .q _ _ h _ _ rfl (E_cp_no .q .non h ⟨rfl, by decide +kernel, by decide +kernel⟩))
theorem fp_num (n : Nat) (f : Nat → Rat) (h : D) (hn : n ≤ 5) : F_check_fraction_poly [.lst ((gen n fun j => encQ (f j)) ++ [.int 1])] h = .exc "BadPoly" [("what", .str "number"), ("index", .int (n : Int))] h := by
  have e := E_cpnum n f h (by omega)
  have g : (gen (n + 1) fun j => if j = n then D.int 1 else encQ (f j)) = (gen n fun j => encQ (f j)) ++ [.int 1] := by
    rw [gen_last, if_pos rfl]
    congr 1
    exact gen_congr fun j hj => if_neg (by omega)
  rw [g] at e
  exact fp_exc _ rfl h _ _ (E_led_exc .q _ _ h _ _ rfl e)
theorem fp_led (n : Nat) (f : Nat → Rat) (h : D) (n1 : 1 ≤ n) (hn : n ≤ 5) : F_check_fraction_poly [.lst ((gen n fun j => encQ (f j)) ++ [encQ 2])] h = .exc "BadPoly" [("what", .str "led"), ("index", .int (n : Int))] h := by
  let c : Nat → Rat := fun j => if j = n then 2 else f j
  have cn : c n = 2 := if_pos rfl
  have g : ((gen n fun j => encQ (f j)) ++ [encQ 2]) = gen (n + 1) fun j => encQ (c j) := by
    rw [gen_last, cn]
    congr 1
    exact gen_congr fun j hj => by show _ = encQ (if j = n then 2 else f j); rw [if_neg (by omega)]
  rw [g]
  have e1 : F_check_poly [fig .q, .lst (gen (n + 1) fun j => encQ (c j))] h = .ok (erow .q (n + 1) c) h := E_chkpoly .q true n c h (by omega) (by rw [cn]; decide)
  have q := eq_enc .q (c n) 1
  have ne : ¬ (c n = (1 : Rat)) := by rw [cn]; decide
  rw [decide_eq_false ne] at q
  have d1 : ((n + 1 : Nat) : Int) - 1 = (n : Int) := by omega
  have g1 : ¬ (n : Int) < 1 := by omega
  have g2 : ¬ (5 : Int) < (n : Int) := by omega
  have g3 : ¬ (n : Int) < 0 := by omega
  refine fp_exc _ rfl h _ _ ?_
  unfold F_check_led_poly
  unfold erow at e1
  push_cast [fig_vm, e1, d1, g1, g2, g3, Lw.atI_last, fig_o, q, flD2]
theorem cr_poly (d b c : D) (fd : d.fr = true) (h : D) (n : Str) (fs : List (Str × D)) (e : F_check_fraction_poly [d] h = .exc n fs h) : F_check_raised [d, b, c] h = .exc n fs h := by
  have vm : ∀ h, vmD (some (some d)) h = .ok d h := fun h => vmD_fr fd
  unfold F_check_raised
  push_cast [vm, e]
/-- what is no prime that is offered -/
def NoPr (d : D) : Prop := d.fr = true ∧ ∀ h, F_is_offered_prime [d] h = .ok (.bl false) h
theorem npr_i {i : Int} (h : inP (.int i) (.tup tup_PRIMES) = some false) : NoPr (.int i) := ⟨rfl, fun g => by
  have e := wh_nn i g
  unfold F_is_offered_prime
  push_cast [e, oInP_a, h]⟩
theorem npr_n {d : D} (fd : d.fr = true) (h : ∀ g, F_is_whole [d, .non, .non] g = .ok (.bl false) g) : NoPr d := ⟨fd, fun g => by
  have e := h g
  have vm : ∀ h, vmD (some (some d)) h = .ok d h := fun h => vmD_fr fd
  unfold F_is_offered_prime
  push_cast [vm, e]⟩
theorem E_oddprime (h : D) (hh : HandI h) : ∃ d h', F__law_odd_prime [.me] h = .ok d h' ∧ NoPr d ∧ HandI h' := by
  obtain ⟨d, hd, h', e, i'⟩ := E_pick [.int 0, .int 1, .int 4, .int 9, .int 17, .int (-5), .bl true, .non, .str "5", .tup [.int 5], .int (10 ^ 30), .int 26, .bl false, .int 15] h hh (by decide) (by decide)
  have pw : oPow (.int 10) (.int 30) = some (.int (10 ^ 30)) := rfl
  refine ⟨d, h', ?_, ?_, i'⟩
  · unfold F__law_odd_prime
    push_cast [pw, e]
  · simp only [List.mem_cons, List.not_mem_nil, or_false] at hd
    rcases hd with rfl | rfl | rfl | rfl | rfl | rfl | rfl | rfl | rfl | rfl | rfl | rfl | rfl | rfl
    · exact npr_i (by decide +kernel)
    · exact npr_i (by decide +kernel)
    · exact npr_i (by decide +kernel)
    · exact npr_i (by decide +kernel)
    · exact npr_i (by decide +kernel)
    · exact npr_i (by decide +kernel)
    · exact npr_n rfl fun g => wh_bl _ _ _ g
    · exact npr_n rfl fun g => wh_non _ _ g
    · exact npr_n rfl fun g => wh_str _ _ _ g
    · exact npr_n rfl fun g => wh_tup _ _ _ g
    · exact npr_i (by decide +kernel)
    · exact npr_i (by decide +kernel)
    · exact npr_n rfl fun g => wh_bl _ _ _ g
    · exact npr_i (by decide +kernel)
theorem cr_prime (b : Bool) (n : Nat) (f : Nat → Rat) (P : Dp n f) (d c : D) (hd : NoPr d) (h : D) : F_check_raised [raw b n f, d, c] h = .exc "BadPrime" [("index", .int 0)] h := by
  have e1 : F_check_fraction_poly [raw b n f] h = _ := E_chkfp b n f h P.n1 P.n5 P.one
  have vr : ∀ h, vmD (some (some (raw b n f))) h = .ok (raw b n f) h := fun h => vmD_fr raw_fr
  have vm : ∀ h, vmD (some (some d)) h = .ok d h := fun h => vmD_fr hd.1
  have e2 : F_check_prime [d] h = .exc "BadPrime" [("index", .int 0)] h := by
    have e := hd.2 h
    unfold F_check_prime
    push_cast [vm, e, flD1]
  unfold F_check_raised
  push_cast [vr, vm, e1, e2]
theorem cr_times {k : Fg} (hp : k.p ≠ 0) (b : Bool) (n : Nat) (f : Nat → Rat) (P : Dp n f) (c : D) (hc : WhNo c 1 30) (h : D) : F_check_raised [raw b n f, .int k.p, c] h = .exc "BadTimes" [] h := by
  have e1 : F_check_fraction_poly [raw b n f] h = _ := E_chkfp b n f h P.n1 P.n5 P.one
  have vr : ∀ h, vmD (some (some (raw b n f))) h = .ok (raw b n f) h := fun h => vmD_fr raw_fr
  have vm : ∀ h, vmD (some (some c)) h = .ok c h := fun h => vmD_fr hc.1
  have e2 := E_chkprime hp h
  have e3 := hc.2 h
  unfold F_check_raised
  push_cast [vr, vm, e1, e2, e3]
end B78
set_option exponentiation.threshold 20000
namespace B78
open PySem PySem.Spec L2 Fw Pd Dz Lw
/-- an odd poly and what is told of it -/
structure Opl (n : Nat) (d i w : D) : Prop where
  fr : d.fr = true
  ex : ∀ h, F_check_fraction_poly [d] h = .exc "BadPoly" [("what", w), ("index", i)] h
  fi : i.fr = true
  fw : w.fr = true
  pi : Pl0 0 i
  pw : Pl0 0 w
theorem E_oddtimes (h : D) (hh : HandI h) : ∃ d h', F__law_pick [.me, .lst [.int 0, .int (-1), .int 31, .bl true, .non, .str "2", .tup [.int 1], .int (10 ^ 30)]] h = .ok d h' ∧ WhNo d 1 30 ∧ HandI h' := by
  obtain ⟨d, hd, h', e, i'⟩ := E_pick [.int 0, .int (-1), .int 31, .bl true, .non, .str "2", .tup [.int 1], .int (10 ^ 30)] h hh (by decide) (by decide)
  refine ⟨d, h', e, ?_, i'⟩
  simp only [List.mem_cons, List.not_mem_nil, or_false] at hd
  rcases hd with rfl | rfl | rfl | rfl | rfl | rfl | rfl | rfl
  · exact wn_int _ _ _ (by omega)
  · exact wn_int _ _ _ (by omega)
  · exact wn_int _ _ _ (by omega)
  · exact wn_bl _ _ _
  · exact wn_non _ _
  · exact wn_str _ _ _
  · exact wn_tup _ _ _
  · exact wn_int _ _ _ (by right; decide)
theorem e2q : encQ 2 = D.tup [.int 2, .int 1] := rfl
def oddsD (n : Nat) (f : Nat → Rat) : List D := [.lst [.lst [], .lst [.int 0, .str "degree"]], .lst [.lst ((gen n fun j => encQ (f j)) ++ [.tup [.int 2, .int 1]]), .lst [.int (n : Int), .str "led"]], .lst [.lst ((gen n fun j => encQ (f j)) ++ [.int 1]), .lst [.int (n : Int), .str "number"]], .lst [.non, .lst [.int 0, .str "many"]]]
theorem E_oddpoly (n : Nat) (f : Nat → Rat) (P : Dp n f) (h : D) (hh : HandI h) :
    ∃ d i w h', F__law_pick [.me, .lst (oddsD n f)] h = .ok (.lst [d, .lst [i, w]]) h' ∧ Opl n d i w ∧ HandI h' := by
  obtain ⟨x, hx, h', e, i'⟩ := E_pick (oddsD n f) h hh (by show 0 < 4; decide) (by show 4 ≤ 1000; decide)
  unfold oddsD at hx
  simp only [List.mem_cons, List.not_mem_nil, or_false] at hx
  rcases hx with rfl | rfl | rfl | rfl
  · exact ⟨_, _, _, h', e, ⟨rfl, fp_nil, rfl, rfl, pl_int 0, pl_str (by decide +kernel)⟩, i'⟩
  · exact ⟨_, _, _, h', e, ⟨rfl, fun h => by have := fp_led n f h P.n1 P.n5; rw [e2q] at this; exact this, rfl, rfl, pl_int _, pl_str (by decide +kernel)⟩, i'⟩
  · exact ⟨_, _, _, h', e, ⟨rfl, fun h => fp_num n f h P.n5, rfl, rfl, pl_int _, pl_str (by decide +kernel)⟩, i'⟩
  · exact ⟨_, _, _, h', e, ⟨rfl, fp_non, rfl, rfl, pl_int 0, pl_str (by decide +kernel)⟩, i'⟩
theorem eq_poly {i w : D} (pi : Pl0 0 i) (pw : Pl0 0 w) : eqD (.lst [.str "poly", i, w]) (.lst [.str "poly", i, w]) = some true := eq_self (n := 1) (pl_lst fun d hd => by
  simp only [List.mem_cons, List.not_mem_nil, or_false] at hd
  rcases hd with rfl | rfl | rfl
  · exact pl_str (by decide +kernel)
  · exact pi
  · exact pw) (by omega)
theorem eq_prime : eqD (.lst [.str "prime", .int 0]) (.lst [.str "prime", .int 0]) = some true := eq_self (n := 1) (pl_lst fun d hd => by
  simp only [List.mem_cons, List.not_mem_nil, or_false] at hd
  rcases hd with rfl | rfl
  · exact pl_str (by decide +kernel)
  · exact pl_int 0) (by omega)
theorem eq_word (s : Str) (h : PyData.strOk s = true) : eqD (.lst [.str s]) (.lst [.str s]) = some true := eq_self (n := 1) (pl_lst fun d hd => by
  rw [List.mem_singleton.mp hd]
  exact pl_str h) (by omega)
theorem E_refused78 {k : Fg} (hp : k.p ≠ 0) (n t : Nat) (f : Nat → Rat) (P : Dp n f) (h : D) (hh : HandI h) : ∃ h', F__law_refused_78 [.me, .int k.p, raw true n f, .int (t : Int)] h = .ok (.bl true) h' := by
  have p0 := kp_pos hp
  have n5 := P.n5
  obtain ⟨d, i, w, h1, e1, O, i1⟩ := E_oddpoly n f P h hh
  obtain ⟨pr, h2, e2, hpr, i2⟩ := E_oddprime h1 i1
  obtain ⟨ti, h3, e3, hti, i3⟩ := E_oddtimes h2 i2
  obtain ⟨r, h4, e4, r0, r1, i4⟩ := E_take 2 h3 i3 (by decide) (by decide)
  -- which poly last
  have e5 : ∃ (n2 : Nat) (f2 : Nat → Rat), Dp n2 f2 ∧ ∀ (a4 a5 a6 a7 a8 a9 : Option D), (eIf (eT (eOp oEq (eCall 2 F__law_take [] (eCons (eVm 0) (eCons (eC (.int 2)) eNil))) (eC (.int 0)))) (eCall 2 F__law_scaled_78 [] (eCons (eFz (eLst (eCons (eC (.int 1)) (eCons (eC (.int 1)) eNil)))) (eCons (eVm 1) eNil))) (eV 2)) [some .me, some (.int k.p), some (raw true n f), some (.int (t : Int)), a4, a5, a6, a7, a8, a9, none] h3 = .ok (raw true n2 f2) h4 := by
    by_cases z : r = 0
    · have sc := E_scaled 1 (fun _ => 1) k.p h4 (by omega) (by omega) ⟨rfl, fun _ => bt_le (by decide)⟩ (by omega) (by omega)
      have sc1 : F__law_scaled_78 [.lst [.int 1, .int 1], .int k.p] h4 = _ := sc.1
      refine ⟨1, _, sc.2, fun a4 a5 a6 a7 a8 a9 => ?_⟩
      subst z
      push_cast [e4, sc1]
    · have rv : ∀ h, vD (some (some (raw true n f))) h = .ok (raw true n f) h := fun h => vD_fr rfl
      refine ⟨n, f, P, fun a4 a5 a6 a7 a8 a9 => ?_⟩
      push_cast [e4, z, rv]
  obtain ⟨n2, f2, P2, e5⟩ := e5
  have rv : ∀ h, vD (some (some (raw true n f))) h = .ok (raw true n f) h := fun h => vD_fr rfl
  have rm : ∀ h, vmD (some (some (raw true n f))) h = .ok (raw true n f) h := fun h => vmD_fr rfl
  have rm2 : ∀ h, vmD (some (some (raw true n2 f2))) h = .ok (raw true n2 f2) h := fun h => vmD_fr rfl
  have dm : ∀ h, vmD (some (some d)) h = .ok d h := fun h => vmD_fr O.fr
  have wv : ∀ h, vD (some (some (D.lst [i, w]))) h = .ok (.lst [i, w]) h := fun h => vD_fr rfl
  have pm : ∀ h, vmD (some (some pr)) h = .ok pr h := fun h => vmD_fr hpr.1
  have tm : ∀ h, vmD (some (some ti)) h = .ok ti h := fun h => vmD_fr hti.1
  have x1 := rr_exc d pr ti O.fr hpr.1 hti.1 h3 _ _ (cr_poly d pr ti O.fr h3 _ _ (O.ex h3))
  have x2 := rr_exc d (.int k.p) (.int (t : Int)) O.fr rfl rfl h3 _ _ (cr_poly d (.int k.p) (.int (t : Int)) O.fr h3 _ _ (O.ex h3))
  have y1 := E_rtPo d pr ti O.fr hpr.1 hti.1 w i O.fw O.fi h3 x1.1
  have y2 := E_ptPo d (.int k.p) (.int (t : Int)) O.fr rfl rfl w i O.fw O.fi h3 x2.2
  have x3 := rr_exc (raw true n f) pr ti rfl hpr.1 hti.1 h3 _ _ (cr_prime true n f P pr ti hpr h3)
  have x4 := rr_exc (raw true n f) pr (.int (t : Int)) rfl hpr.1 rfl h3 _ _ (cr_prime true n f P pr (.int (t : Int)) hpr h3)
  have y3 := E_rtPr (raw true n f) pr ti rfl hpr.1 hti.1 (.int 0) rfl h3 x3.1
  have y4 := E_ptPr (raw true n f) pr (.int (t : Int)) rfl hpr.1 rfl (.int 0) rfl h3 x4.2
  have x5 := rr_exc (raw true n2 f2) (.int k.p) ti rfl rfl hti.1 h4 _ _ (cr_times hp true n2 f2 P2 ti hti h4)
  have y5 := E_rtTi (raw true n2 f2) (.int k.p) ti rfl rfl hti.1 h4 x5.1
  have y6 := E_ptTi (raw true n2 f2) (.int k.p) ti rfl rfl hti.1 h4 x5.2
  have q1 := eq_poly O.pi O.pw
  have q2 := eq_prime
  have q3 : eqD (.lst [.str "times"]) (.lst [.str "times"]) = some true := eq_word "times" (by decide +kernel)
  have rl : kLen [raw true n f] = some (.int ((n + 1 : Nat) : Int)) := by
    show kLen [.lst (gen (n + 1) fun j => encQ (f j))] = _
    rw [kLen_l, gen_len]
  have n1 : ((n + 1 : Nat) : Int) - 1 = (n : Int) := by omega
  have cutf : slD (raw true n f) none (some (n : Int)) = some (.hl (gen n fun j => encQ (f j))) := by
    show slD (.lst (gen (n + 1) fun j => encQ (f j))) none (some (n : Int)) = _
    rw [slD_l, cut_hi (by omega), Int.toNat_natCast, show min n (n + 1) = n by omega]
  have fz : frzL (gen n fun j => encQ (f j)) = gen n fun j => encQ (f j) := frzL_gen fun _ => rfl
  have fz1 : frzL ((gen n fun j => encQ (f j)) ++ [D.tup [.int 2, .int 1]]) = (gen n fun j => encQ (f j)) ++ [.tup [.int 2, .int 1]] := frzL_all _ fun x hx => by
    rcases List.mem_append.mp hx with z | z
    · obtain ⟨j, _, rfl⟩ := gen_mem.mp z
      rfl
    · rw [List.mem_singleton.mp z]; rfl
  have fz2 : frzL ((gen n fun j => encQ (f j)) ++ [D.int 1]) = (gen n fun j => encQ (f j)) ++ [.int 1] := frzL_all _ fun x hx => by
    rcases List.mem_append.mp hx with z | z
    · obtain ⟨j, _, rfl⟩ := gen_mem.mp z
      rfl
    · rw [List.mem_singleton.mp z]; rfl
  unfold oddsD at e1
  have pw : oPow (.int 10) (.int 30) = some (.int (10 ^ 30)) := rfl
  have neg1 : oNeg (.int 1) = some (.int (-1)) := rfl
  have pl0 : oPlus (.lst [.str "poly"]) (.lst [i, w]) = some (.hl [.str "poly", i, w]) := by rw [plus_l (by show 3 ≤ 1000000; decide)]; rfl
  refine ⟨h4, ?_⟩
  unfold F__law_refused_78
  push_cast [rv, rm, rl, n1, cutf, fz, plus_l, fz1, fz2, e1, bLs_a, dm, wv, e2, pm, pw, neg1, e3, tm, y1, y2, pl0, q1, y3, y4, q2, ↓e5, rm2, y5, y6, q3, eOpt_a]
end B78
set_option exponentiation.threshold 20000
namespace B78
open PySem PySem.Spec L2 Fw Pd Dz Lw
def b78_0 : SF := (sSet 2 (eCall 2 F__law_pick [] (eCons (eVm 1) (eCons (eFz (eLst (eCons (eC (.int 5)) (eCons (eC (.int 7)) (eCons (eC (.int 3)) (eCons (eC (.int 5)) (eCons (eC (.int 13)) (eCons (eC (.int 11)) (eCons (eC (.int 2)) (eCons (eC (.int 7)) eNil)))))))))) eNil))))
def b78_1 : SF := (sSet 3 (eOp oAdd (eC (.int 1)) (eCall 2 F__law_take [] (eCons (eVm 1) (eCons (eBi kMin2 (eCons (eV 2) (eCons (eC (.int 5)) eNil))) eNil)))))
def b78_2 : SF := (sIf (eT (eOp oEq (eCall 2 F__law_take [] (eCons (eVm 1) (eCons (eC (.int 4)) eNil))) (eC (.int 0)))) (sSet 4 (eCall 2 F__law_scaled_78 [] (eCons (eCall 1 F__law_parts_poly [] (eCons (eCall 2 F__law_parts [] (eCons (eVm 1) (eCons (eOp oAdd (eC (.int 1)) (eCall 2 F__law_take [] (eCons (eVm 1) (eCons (eC (.int 5)) eNil)))) eNil))) eNil)) (eCons (eCall 2 F__law_pick [] (eCons (eVm 1) (eCons (eFz (eLst (eCons (eC (.int 1)) (eCons (eC (.int 1)) (eCons (eC (.int 2)) (eCons (eC (.int 3)) (eCons (eC (.int 5)) (eCons (eC (.int 7)) eNil)))))))) eNil))) eNil)))) (sSeq (sSet 5 (eCall 2 F__law_pick [] (eCons (eVm 1) (eCons (eFz (eLst (eCons (eC (.int 1)) (eCons (eC (.int 1)) (eCons (eC (.int 1)) (eCons (eC (.int 2)) (eCons (eC (.int 3)) (eCons (eC (.int 4)) (eCons (eC (.int 17)) eNil))))))))) eNil))))
    (sSet 4 (eCall 2 F__law_scaled_78 [] (eCons (eCall 3 F__law_apart_poly [] (eCons (eVm 1) (eCons (eVm 2) (eCons (eVm 3) eNil)))) (eCons (eIf (eT (eOp oEq (eOp oMod (eBi kInt (eCons (eV 5) eNil)) (eV 2)) (eC (.int 0)))) (eC (.int 1)) (eV 5)) eNil))))))
def b78_3 : SF := (sSet 6 (eCall 2 F__law_pick [] (eCons (eVm 1) (eCons (eFz (eLst (eCons (eC (.int 1)) (eCons (eC (.int 2)) (eCons (eC (.int 3)) (eCons (eC (.int 4)) (eCons (eC (.int 5)) (eCons (eC (.int 8)) (eCons (eC (.int 13)) (eCons (eC (.int 30)) eNil)))))))))) eNil))))
def b78_4 : SF := (sSet 7 (eC (.int 1)))
def b78_5 : SF := (sFor (iRg rg1 (eCons (eV 6) eNil)) (bNm 8) (sSet 7 (eOp oMul (eV 7) (eV 2))))
def b78_6 : SF := (sSet 9 (eFz (eBi kList (eCons (eV 4) eNil))))
def b78_7 : SF := (sSet 10 (eIf (eT (eOp oEq (eCall 2 F__law_take [] (eCons (eVm 1) (eCons (eC (.int 2)) eNil))) (eC (.int 0)))) (eBi kTup (eCons (eV 4) eNil)) (eV 4)))
def b78_8 : SF := (sSet 11 (eCall 3 F__law_roots_told [] (eCons (eVm 10) (eCons (eVm 2) (eCons (eVm 6) eNil)))))
def b78_9 : SF := (sSet 12 (eCall 3 F__law_products_told [] (eCons (eVm 10) (eCons (eVm 2) (eCons (eVm 6) eNil)))))
def b78_10 : SF := (sIf (eNot (eTru (eCall 2 F__law_can [] (eCons (eVm 2) (eCons (eVm 4) eNil))))) (sIf (eOr (eT (eOp oNe (eV 11) (eFz (eLst (eCons (eC (.str "number")) eNil))))) (eT (eOp oNe (eV 12) (eFz (eLst (eCons (eC (.str "number")) eNil)))))) (sRet (eC (.bl false))) sNil) (sIf (eT (eOp oEq (eCall 2 F__law_extra [] (eCons (eVm 2) (eCons (eFz (eLc [13] (iSeq (eV 4)) (bNm 13) tYesD (eCall 2 F__law_read [] (eCons (eVm 2) (eCons (eVm 13) eNil))))) eNil))) (eC (.int 1)))) (sIf (eOr (eT (eOp oNe (eV 11) (eFz (eLst (eCons (eC (.str "apart")) eNil))))) (eT (eOp oNe (eV 12) (eFz (eLst (eCons (eC (.str "apart")) eNil)))))) (sRet (eC (.bl false))) sNil) (sSeq (sIf (eOr (eT (eOp oNe (eOp oIx (eV 11) (eC (.int 0))) (eC (.str "roots")))) (eOr (eT (eOp oNe (eOp oIx (eV 12) (eC (.int 0))) (eC (.str "products")))) (eT (eOp oNe (eV 4) (eV 9))))) (sRet (eC (.bl false))) sNil)
    (sIf (eOr (eNot (eTru (eCall 4 F__law_roots_right [] (eCons (eVm 2) (eCons (eVm 4) (eCons (eVm 7) (eCons (eOp oIx (eV 11) (eC (.int 1))) eNil))))))) (eNot (eTru (eCall 3 F__law_products_right [] (eCons (eVm 4) (eCons (eVm 7) (eCons (eOp oIx (eV 12) (eC (.int 1))) eNil))))))) (sRet (eC (.bl false))) sNil))))
def b78_11 : SF := (sRet (eCall 4 F__law_refused_78 [] (eCons (eVm 1) (eCons (eVm 2) (eCons (eVm 9) (eCons (eVm 6) eNil))))))
theorem B78_is : N78.B_law = sSeq b78_0 (sSeq b78_1 (sSeq b78_2 (sSeq b78_3 (sSeq b78_4 (sSeq b78_5 (sSeq b78_6 (sSeq b78_7 (sSeq b78_8 (sSeq b78_9 (sSeq b78_10 (b78_11))))))))))) := rfl
theorem t_prime (h : D) (hh : HandI h) : ∃ (k : Fg) (h' : D), k.p ≠ 0 ∧ b78_0 [none, some .me, none, none, none, none, none, none, none, none, none, none, none, none] h = .nx [none, some .me, some (.int k.p), none, none, none, none, none, none, none, none, none, none, none] h' ∧ HandI h' := by
  obtain ⟨d, hd, h', e, i'⟩ := E_pick [.int 5, .int 7, .int 3, .int 5, .int 13, .int 11, .int 2, .int 7] h hh (by decide) (by decide)
  have : ∃ k : Fg, k.p ≠ 0 ∧ d = .int k.p := by
    simp only [List.mem_cons, List.not_mem_nil, or_false] at hd
    rcases hd with rfl | rfl | rfl | rfl | rfl | rfl | rfl | rfl
    · exact ⟨.m 3 (by decide), by rw [pm]; omega, rfl⟩
    · exact ⟨.m 5 (by decide), by rw [pm]; omega, rfl⟩
    · exact ⟨.m 1 (by decide), by rw [pm]; omega, rfl⟩
    · exact ⟨.m 3 (by decide), by rw [pm]; omega, rfl⟩
    · exact ⟨.m 11 (by decide), by rw [pm]; omega, rfl⟩
    · exact ⟨.m 9 (by decide), by rw [pm]; omega, rfl⟩
    · exact ⟨.m 0 (by decide), by rw [pm]; omega, rfl⟩
    · exact ⟨.m 5 (by decide), by rw [pm]; omega, rfl⟩
  obtain ⟨k, hp, rfl⟩ := this
  refine ⟨k, h', hp, ?_, i'⟩
  unfold b78_0
  push_cast [e]
theorem t_degree {k : Fg} (hp : k.p ≠ 0) (h : D) (hh : HandI h) : ∃ (n : Nat) (h' : D), 1 ≤ n ∧ n ≤ 5 ∧ n ≤ k.p.toNat ∧ b78_1 [none, some .me, some (.int k.p), none, none, none, none, none, none, none, none, none, none, none] h = .nx [none, some .me, some (.int k.p), some (.int (n : Int)), none, none, none, none, none, none, none, none, none, none] h' ∧ HandI h' := by
  have p0 := kp_pos hp
  have mn := min2_i k.p 5
  obtain ⟨r, h', e, r0, r1, i'⟩ := E_take (if (5 : Int) < k.p then 5 else k.p) h hh (by split <;> omega) (by split <;> omega)
  obtain ⟨m, rfl⟩ : ∃ m : Nat, r = m := ⟨r.toNat, by omega⟩
  have c : (1 : Int) + (m : Int) = ((m + 1 : Nat) : Int) := by omega
  refine ⟨m + 1, h', by omega, by split at r1 <;> omega, by split at r1 <;> omega, ?_, i'⟩
  unfold b78_1
  push_cast [mn, e, c]
theorem t_poly {k : Fg} (hp : k.p ≠ 0) (n : Nat) (h : D) (hh : HandI h) (n1 : 1 ≤ n) (n5 : n ≤ 5) (np : n ≤ k.p.toNat) : ∃ (m : Nat) (f : Nat → Rat) (y5 : Option D) (h' : D), Dp m f ∧ b78_2 [none, some .me, some (.int k.p), some (.int (n : Int)), none, none, none, none, none, none, none, none, none, none] h = .nx [none, some .me, some (.int k.p), some (.int (n : Int)), some (raw true m f), y5, none, none, none, none, none, none, none, none] h' ∧ HandI h' := by
  obtain ⟨r, h1, e1, r0, r1, i1⟩ := E_take 4 h hh (by decide) (by decide)
  by_cases z : r = 0
  · obtain ⟨d, h2, e2, d0, d1, i2⟩ := E_take 5 h1 i1 (by decide) (by decide)
    obtain ⟨dg, rfl⟩ : ∃ dg : Nat, d = dg := ⟨d.toNat, by omega⟩
    have c1 : (1 : Int) + (dg : Int) = ((dg + 1 : Nat) : Int) := by omega
    obtain ⟨a, N, c, ρ, x, h3, hs, e3, I, hρ, i3⟩ := E_parts (dg + 1) h2 i2 (by omega) (by omega)
    obtain ⟨c', e4, I'⟩ := E_partspoly a N c ρ x h3 (by omega) I hρ
    obtain ⟨s, hs2, h4, e5, i4⟩ := E_pick [.int 1, .int 1, .int 2, .int 3, .int 5, .int 7] h3 i3 (by decide) (by decide)
    have : ∃ y : Int, s = .int y ∧ 1 ≤ y ∧ y ≤ 17 := by
      simp only [List.mem_cons, List.not_mem_nil, or_false] at hs2
      rcases hs2 with rfl | rfl | rfl | rfl | rfl | rfl <;> exact ⟨_, rfl, by decide, by decide⟩
    obtain ⟨y, rfl, y0, y1⟩ := this
    rw [hs] at e4 I'
    obtain ⟨e6, P⟩ := E_scaled (dg + 1) c' y h4 (by omega) (by omega) I' y0 y1
    refine ⟨dg + 1, scF (dg + 1) c' y, none, h4, P, ?_, i4⟩
    subst z
    unfold b78_2
    push_cast [e1, e2, c1, e3, e4, e5, e6]
  · obtain ⟨s, hs2, h2, e2, i2⟩ := E_pick [.int 1, .int 1, .int 1, .int 2, .int 3, .int 4, .int 17] h1 i1 (by decide) (by decide)
    have : ∃ y : Int, s = .int y ∧ 1 ≤ y ∧ y ≤ 17 := by
      simp only [List.mem_cons, List.not_mem_nil, or_false] at hs2
      rcases hs2 with rfl | rfl | rfl | rfl | rfl | rfl | rfl <;> exact ⟨_, rfl, by decide, by decide⟩
    obtain ⟨y, rfl, y0, y1⟩ := this
    obtain ⟨c, h3, e3, I, i3⟩ := E_apart hp n h2 i2 n5 np
    by_cases m : y.fmod k.p = 0
    · obtain ⟨e6, P⟩ := E_scaled n c 1 h3 n1 n5 I (by omega) (by omega)
      refine ⟨n, scF n c 1, some (.int y), h3, P, ?_, i3⟩
      unfold b78_2
      push_cast [e1, z, e2, e3, m, hp, e6]
    · obtain ⟨e6, P⟩ := E_scaled n c y h3 n1 n5 I y0 y1
      refine ⟨n, scF n c y, some (.int y), h3, P, ?_, i3⟩
      unfold b78_2
      push_cast [e1, z, e2, e3, m, hp, e6]
theorem t_times {k : Fg} (n m : Nat) (f : Nat → Rat) (y5 : Option D) (h : D) (hh : HandI h) : ∃ (t : Nat) (h' : D), 1 ≤ t ∧ t ≤ 30 ∧ b78_3 [none, some .me, some (.int k.p), some (.int (n : Int)), some (raw true m f), y5, none, none, none, none, none, none, none, none] h = .nx [none, some .me, some (.int k.p), some (.int (n : Int)), some (raw true m f), y5, some (.int (t : Int)), none, none, none, none, none, none, none] h' ∧ HandI h' := by
  obtain ⟨s, hs2, h2, e2, i2⟩ := E_pick [.int 1, .int 2, .int 3, .int 4, .int 5, .int 8, .int 13, .int 30] h hh (by decide) (by decide)
  have : ∃ t : Nat, s = .int (t : Int) ∧ 1 ≤ t ∧ t ≤ 30 := by
    simp only [List.mem_cons, List.not_mem_nil, or_false] at hs2
    rcases hs2 with rfl | rfl | rfl | rfl | rfl | rfl | rfl | rfl
    · exact ⟨1, rfl, by decide, by decide⟩
    · exact ⟨2, rfl, by decide, by decide⟩
    · exact ⟨3, rfl, by decide, by decide⟩
    · exact ⟨4, rfl, by decide, by decide⟩
    · exact ⟨5, rfl, by decide, by decide⟩
    · exact ⟨8, rfl, by decide, by decide⟩
    · exact ⟨13, rfl, by decide, by decide⟩
    · exact ⟨30, rfl, by decide, by decide⟩
  obtain ⟨t, rfl, t1, t2⟩ := this
  refine ⟨t, h2, t1, t2, ?_, i2⟩
  unfold b78_3
  push_cast [e2]
theorem t_power {k : Fg} (hp : k.p ≠ 0) (n m t : Nat) (f : Nat → Rat) (y5 : Option D) (h : D) (t30 : t ≤ 30) : ∃ y8, b78_5 [none, some .me, some (.int k.p), some (.int (n : Int)), some (raw true m f), y5, some (.int (t : Int)), some (.int 1), none, none, none, none, none, none] h = .nx [none, some .me, some (.int k.p), some (.int (n : Int)), some (raw true m f), y5, some (.int (t : Int)), some (.int (k.p ^ t)), y8, none, none, none, none, none] h := by
  have p0 := kp_pos hp
  have bp : ∀ s : Nat, bt (k.p ^ s).natAbs ≤ 4 * s + 1 := fun s => by
    induction s with
    | zero => rw [Int.pow_zero]; exact bt_le (by decide)
    | succ s ih =>
      rw [Int.pow_succ, Int.natAbs_mul]
      have h1 := bt_mul (k.p ^ s).natAbs k.p.natAbs
      have h2 := bt_iv (a := k.p) (b := 4) (by omega) (by omega)
      omega
  have lp := for_gen0 (h := h) (bind := bNm 8) (body := (sSet 7 (eOp oMul (eV 7) (eV 2)))) (d := fun i => .int (i : Int)) (n := t)
    (fun s => [none, some .me, some (.int k.p), some (.int (n : Int)), some (raw true m f), y5, some (.int (t : Int)), some (.int (k.p ^ s)), lv none (fun i => .int (i : Int)) s, none, none, none, none, none]) fun s hs => by
      have b2 := bt_iv (a := k.p) (b := 4) (by omega) (by omega)
      have m1 : cMul (k.p ^ s) k.p = true := cMul_b (by have := bp s; omega)
      have e : k.p ^ s * k.p = k.p ^ (s + 1) := (Int.pow_succ k.p s).symm
      refine ⟨_, rfl, ?_⟩
      push_cast [lv_s, m1, e]
  simp only [lv_0] at lp
  rw [Int.pow_zero] at lp
  refine ⟨lv none (fun i => .int (i : Int)) t, ?_⟩
  unfold b78_5
  push_cast [lp]
theorem pl_raw (n : Nat) (f : Nat → Rat) : Pl0 2 (raw true n f) := pl_lst fun d hd => by
  obtain ⟨j, _, rfl⟩ := gen_mem.mp hd
  exact pl_enc .q (f j)
theorem eq_s (s : Str) (h : PyData.strOk s = true) : eqD (.str s) (.str s) = some true := eq_self (n := 0) (pl_str h) (by omega)
theorem can_dec {k : Fg} (hp : k.p ≠ 0) {n : Nat} {f : Nat → Rat} (P : Dp n f) : (Can k f ∧ ((List.range (n + 1)).filter fun j => decide (k.p ∣ ((f j).den : Int))).isEmpty = true) ∨ ((∃ j, j < n + 1 ∧ k.p ∣ ((f j).den : Int)) ∧ ((List.range (n + 1)).filter fun j => decide (k.p ∣ ((f j).den : Int))).isEmpty = false) := by
  by_cases c : ∃ j, j < n + 1 ∧ k.p ∣ ((f j).den : Int)
  · refine .inr ⟨c, ?_⟩
    obtain ⟨j, hj, d⟩ := c
    have : j ∈ (List.range (n + 1)).filter fun j => decide (k.p ∣ ((f j).den : Int)) := List.mem_filter.mpr ⟨List.mem_range.mpr hj, decide_eq_true d⟩
    cases q : (List.range (n + 1)).filter fun j => decide (k.p ∣ ((f j).den : Int)) with
    | nil => rw [q] at this; exact (List.not_mem_nil this).elim
    | cons _ _ => rfl
  · refine .inl ⟨P.can hp fun j hj d => c ⟨j, hj, d⟩, ?_⟩
    rw [List.isEmpty_iff, List.filter_eq_nil_iff]
    intro j hj
    rw [decide_eq_true_eq]
    exact fun d => c ⟨j, List.mem_range.mp hj, d⟩
theorem t_judge {k : Fg} (hp : k.p ≠ 0) (b : Bool) (n dg t : Nat) (f : Nat → Rat) (y5 y8 : Option D) (h : D) (P : Dp n f) (t1 : 1 ≤ t) (t30 : t ≤ 30) : ∃ a c : D, F__law_roots_told [raw b n f, .int k.p, .int (t : Int)] h = .ok a h ∧ F__law_products_told [raw b n f, .int k.p, .int (t : Int)] h = .ok c h ∧ a.fr = true ∧ c.fr = true ∧
    b78_10 [none, some .me, some (.int k.p), some (.int (dg : Int)), some (raw true n f), y5, some (.int (t : Int)), some (.int (k.p ^ t)), y8, some (raw true n f), some (raw b n f), some a, some c, none] h = .nx [none, some .me, some (.int k.p), some (.int (dg : Int)), some (raw true n f), y5, some (.int (t : Int)), some (.int (k.p ^ t)), y8, some (raw true n f), some (raw b n f), some a, some c, none] h := by
  have n5 := P.n5
  have ec := E_lcan hp n f h (by omega)
  have rm : ∀ h, vmD (some (some (raw true n f))) h = .ok (raw true n f) h := fun h => vmD_fr rfl
  have rv : ∀ h, vD (some (some (raw true n f))) h = .ok (raw true n f) h := fun h => vD_fr rfl
  rcases can_dec hp P with ⟨hc, e0⟩ | ⟨hc, e0⟩
  · rw [e0] at ec
    obtain ⟨m, M⟩ := mo_of hp t1 t30
    obtain ⟨w, _, W⟩ := wp_of hp P M hc
    have few := rts_few hp M W
    have erd : ∀ j, j < n + 1 → ∀ h, F__law_read [.int k.p, encQ (f j)] h = .ok (enc k (rdK k (f j))) h := fun j _ h => E_lread hp (f j) h (hc j)
    have qv : ∀ j h, vmD (some (some (encQ (f j)))) h = .ok (encQ (f j)) h := fun j h => vmD_fr rfl
    have fz : frzL (gen (n + 1) fun j => enc k (rdK k (f j))) = gen (n + 1) fun j => enc k (rdK k (f j)) := frzL_gen fun j => enc_fr k _
    have ex := E_lextra hp n (fun j => rdK k (f j)) h (by omega)
    have itR : itS (raw true n f) = some (gen (n + 1) fun j => encQ (f j)) := rfl
    by_cases hl : (rts k n fun j => rdK k (f j)).length = n
    · obtain ⟨w, R, e, W, G, told⟩ := told_good hp b n t f P t1 t30 hc hl
      rw [if_neg (by omega)] at ex
      have q1 : 1 < k.p ^ t := by have := M.pq; have := M.p2; omega
      have er := E_rootsright hp n f w R e h P hc hl M.bq (by omega) W G
      have ep := E_prodsright hp q1 M.bq h P W G
      have s1 := eq_s "roots" (by decide +kernel)
      have s2 := eq_s "products" (by decide +kernel)
      have s3 := eq_self (pl_raw n f) (by omega)
      have z1 : ¬ (0 : Int) = 1 := by omega
      refine ⟨_, _, (told h).1, (told h).2, rfl, rfl, ?_⟩
      unfold b78_10
      push_cast [rm, rv, ec, itR, erd, qv, fz, ex, z1, s1, s2, s3, er, ep]
    · have told := told_apart hp b n t f h P t1 t30 hc hl
      rw [if_pos (by omega)] at ex
      have s1 := eq_word "apart" (by decide +kernel)
      refine ⟨_, _, told.1, told.2, rfl, rfl, ?_⟩
      unfold b78_10
      push_cast [rm, rv, ec, itR, erd, qv, fz, ex, s1]
  · rw [e0] at ec
    have told := told_num hp b n t f h P t1 t30 hc
    have s1 := eq_word "number" (by decide +kernel)
    refine ⟨_, _, told.1, told.2, rfl, rfl, ?_⟩
    unfold b78_10
    push_cast [rm, rv, ec, s1]
theorem t_form {k : Fg} (n m t : Nat) (f : Nat → Rat) (y5 y8 : Option D) (h : D) (hh : HandI h) : ∃ (b : Bool) (h' : D), b78_7 [none, some .me, some (.int k.p), some (.int (n : Int)), some (raw true m f), y5, some (.int (t : Int)), some (.int (k.p ^ t)), y8, some (raw true m f), none, none, none, none] h = .nx [none, some .me, some (.int k.p), some (.int (n : Int)), some (raw true m f), y5, some (.int (t : Int)), some (.int (k.p ^ t)), y8, some (raw true m f), some (raw b m f), none, none, none] h' ∧ HandI h' := by
  obtain ⟨r, h1, e1, r0, r1, i1⟩ := E_take 2 h hh (by decide) (by decide)
  have rv : ∀ h, vD (some (some (raw true m f))) h = .ok (raw true m f) h := fun h => vD_fr rfl
  by_cases z : r = 0
  · refine ⟨false, h1, ?_, i1⟩
    have kt : kTup [raw true m f] = some (raw false m f) := rfl
    subst z
    unfold b78_7
    push_cast [e1, rv, kt]
  · refine ⟨true, h1, ?_, i1⟩
    unfold b78_7
    push_cast [e1, z, rv]
end B78
set_option exponentiation.threshold 20000
open PySem PySem.Spec L2 Fw Pd Dz Lw B78 in
theorem M78.law_true : Fw.LawB 12 N78.B_law := fun cs t h1 h2 h3 h4 => by
  obtain ⟨k, g1, hp, e0, i1⟩ := t_prime (hand0 cs t) (hand_0 cs t h1 h2 h3 h4)
  obtain ⟨n, g2, n1, n5, np, e1, i2⟩ := t_degree hp g1 i1
  obtain ⟨m, f, y5, g3, P, e2, i3⟩ := t_poly hp n g2 i2 n1 n5 np
  obtain ⟨u, g4, u1, u30, e3, i4⟩ := t_times (k := k) n m f y5 g3 i3
  obtain ⟨y8, e5⟩ := t_power hp n m u f y5 g4 u30
  obtain ⟨b, g5, e7, i5⟩ := t_form (k := k) n m u f y5 y8 g4 i4
  obtain ⟨a, c, ta, tc, fa, fc, e10⟩ := t_judge hp b m n u f y5 y8 g5 P u1 u30
  obtain ⟨g6, er⟩ := E_refused78 hp m u f P g5 i5
  have rm : ∀ b h, vmD (some (some (raw b m f))) h = .ok (raw b m f) h := fun b h => vmD_fr raw_fr
  have rv : ∀ h, vD (some (some (raw true m f))) h = .ok (raw true m f) h := fun h => vD_fr rfl
  have kl : kList [raw true m f] = some (.hl (gen (m + 1) fun j => encQ (f j))) := rfl
  have fz : frzL (gen (m + 1) fun j => encQ (f j)) = gen (m + 1) fun j => encQ (f j) := frzL_gen fun _ => rfl
  have ro : D.lst (gen (m + 1) fun j => encQ (f j)) = raw true m f := rfl
  have e4 : ∀ h, b78_4 [none, some .me, some (.int k.p), some (.int (n : Int)), some (raw true m f), y5, some (.int (u : Int)), none, none, none, none, none, none, none] h = .nx [none, some .me, some (.int k.p), some (.int (n : Int)), some (raw true m f), y5, some (.int (u : Int)), some (.int 1), none, none, none, none, none, none] h := fun h => by
    unfold b78_4
    push_cast []
  have e6 : ∀ h, b78_6 [none, some .me, some (.int k.p), some (.int (n : Int)), some (raw true m f), y5, some (.int (u : Int)), some (.int (k.p ^ u)), y8, none, none, none, none, none] h = .nx [none, some .me, some (.int k.p), some (.int (n : Int)), some (raw true m f), y5, some (.int (u : Int)), some (.int (k.p ^ u)), y8, some (raw true m f), none, none, none, none] h := fun h => by
    unfold b78_6
    push_cast [rv, kl, fz, ro]
  have e8 : b78_8 [none, some .me, some (.int k.p), some (.int (n : Int)), some (raw true m f), y5, some (.int (u : Int)), some (.int (k.p ^ u)), y8, some (raw true m f), some (raw b m f), none, none, none] g5 = .nx [none, some .me, some (.int k.p), some (.int (n : Int)), some (raw true m f), y5, some (.int (u : Int)), some (.int (k.p ^ u)), y8, some (raw true m f), some (raw b m f), some a, none, none] g5 := by
    unfold b78_8
    push_cast [rm, ta]
  have e9 : b78_9 [none, some .me, some (.int k.p), some (.int (n : Int)), some (raw true m f), y5, some (.int (u : Int)), some (.int (k.p ^ u)), y8, some (raw true m f), some (raw b m f), some a, none, none] g5 = .nx [none, some .me, some (.int k.p), some (.int (n : Int)), some (raw true m f), y5, some (.int (u : Int)), some (.int (k.p ^ u)), y8, some (raw true m f), some (raw b m f), some a, some c, none] g5 := by
    unfold b78_9
    push_cast [rm, tc]
  have e11 : b78_11 [none, some .me, some (.int k.p), some (.int (n : Int)), some (raw true m f), y5, some (.int (u : Int)), some (.int (k.p ^ u)), y8, some (raw true m f), some (raw b m f), some a, some c, none] g5 = .ret (.bl true) g6 := by
    unfold b78_11
    push_cast [rm, er]
  refine ⟨g6, ?_⟩
  show N78.B_law [none, some .me, none, none, none, none, none, none, none, none, none, none, none, none] (hand0 cs t) = _
  rw [B78_is]
  simp only [sSeq_a, e0, e1, e2, e3, e4, e5, e6, e7, e8, e9, e10, e11, seq_nx, seq_ret]
open PySem PySem.W PySem.Calls PyProof.Rows
set_option maxRecDepth 100000 in
set_option maxHeartbeats 0 in
theorem PySem.Challenge.cw_sparedproducts_k78_whole_roots_by_powers_holds : PySem.Challenge.rw_sparedproducts_k78_whole_roots_by_powers.Holds := by
  w_on; o_law
  refine HandSHeadRun.head_imp (r := OpenLaw.row PySem.Challenge.rw_sparedproducts_k78_whole_roots_by_powers) (q := view (OpenLaw.row PySem.Challenge.rw_sparedproducts_k78_whole_roots_by_powers).prog [122]) (H := X78.hk) (ob := X78.ob) (M := 20000) (loose := X78.loose) (d := HandSHeadRun.topDef (OpenLaw.row PySem.Challenge.rw_sparedproducts_k78_whole_roots_by_powers).prog 122) (kwd := []) X78.ob_eq
    X78.run (by kernel_rfl) (by kernel_rfl) (by kernel_rfl) (by rfl) (by first | assumption | decide +kernel) (by decide +kernel) ⟨rfl, rfl, rfl, rfl, rfl, by decide +kernel⟩ ?hw ?hc
  case hw => w_witness2
  case hc =>
    refine L2.walk_ofE (l := PySem.Challenge.rw_sparedproducts_k78_whole_roots_by_powers) (n := 63) (k := 11) (x := "_law_script") (CX := L2.CX0) rfl (by decide) (by kernel_rfl) ⟨rfl, by decide, by decide⟩ ?F (fun _ _ _ _ z => z)
    intro w mg fa h Y G hmg0
    obtain ⟨K, KX, k, c⟩ := Y
    have T : Fw.Fs N78.tb K mg := Fw.Fs.of KX G k c
    have hmg : mg ("law" : PySem.Str) = some (.ref fa) := by
      have e : (HandSHeadRun.topDef (OpenLaw.row PySem.Challenge.rw_sparedproducts_k78_whole_roots_by_powers).prog 122).name = ("law" : PySem.Str) := by kernel_rfl
      rw [← e]
      exact hmg0
    have e := hmg.symm.trans (T.gl 92 "law" rfl)
    cases e
    obtain ⟨fd, hb, hF⟩ := N78.law_ok (P := (PySem.Challenge.rw_sparedproducts_k78_whole_roots_by_powers).prog) (w := w) T M78.law_true
    exact ⟨K, fd, Fw.spLaw K, KX, hb, fun H a ns hl _ hS => ⟨a, ns, rfl, hS, hl, fun _ => rfl⟩, fun base _ _ => hF base⟩
