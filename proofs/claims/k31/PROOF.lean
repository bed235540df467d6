import PyProof.Rows.All
import Wide.All
import OpenK.AllK
import Wide.FinOn
import KE.GoesMore
import HandS.Base
import HandS.Call
import HandS.List
import HandS.Iter
import HandS.Comp
import HandS.TupMul
import HandS.Walk
import HandS.Zip
import KE.KStateDown
import HandS.ForExc
import HandS.IsInst
import HandS.Wide
import HandS.Evl
import HandS.TupAny
import HandS.Flow
import HandS.ExcInit
import HandS.Gcd
import HandS.Style
import HandS.Rev
import HandS.RevRange
import HandS.Conv
import HandS.ExcField
import HandS.ExcOwn
import HandS.Defaults
import HandS.Exc
import HandS.TryOnly
import KE.KExcIs
import HandS.ExcValue
import HandS.HeadHook2
import HandS.HeadEnd
import HandS.Head2
import HandS.IterVal
import HandS.OwnIter
import HandS.Words
import OpenK.KOps
import PyProof.WalksMore
import HandS.SlotsOwn
import HandS.OwnEq
import PyProof.InstNe
import HandS.Flt
import HandS.Deep
import PyProof.Rows.Range3
import HandS.Star
import HandS.MakeKwOnly
import HandS.SetFor
import HandS.Head3
import PySem.Challenge.RW_sparedproducts_k31_whole_programs_alike
set_option Elab.async false
set_option linter.all false
set_option maxRecDepth 100000
set_option maxHeartbeats 0
namespace Gn
open PySem PySem.Spec PyProof.Rows L2
open Sem (wp)
open AutoSeq1 (wpAny_loadPart')
theorem new_enumT (l : Addr) (xs : Array Value) (n : Nat) (dct : Option Addr) (sl : Array (Option Value)) :
    Meets (Builtin.«enumerate.__new__» ⟨[.type "enumerate", .ref l], []⟩) fun _ R s =>
      (s.heap.get? l = some { cls := .type "tuple", dict := dct, data := .seq xs n, slots := sl }) ∧
      R (.ok (.ret (.ref (s.heap.objs.size + 1)))) { s with heap := Heap.push (s.heap.push { cls := .type "tuple_iterator", data := .fields #[.ref l, .int 0 0] }) { cls := .type "enumerate", data := .fields #[.none, .bool false, .ref s.heap.objs.size, rawInt 0, .none, .none] } } :=
  .of_wp fun prog w A R s h => by
    obtain ⟨hp, g, d, tk, os⟩ := s
    obtain ⟨hl, h⟩ := h
    have sub := sub_enumerate
    have hT : Heap.IsTuple (Shared.heap ⟨hp, g, d, tk, os⟩) l xs := ⟨_, hl, rfl, n, rfl⟩
    have hz : (hp.push { cls := .type "tuple_iterator", data := .fields #[.ref l, .int 0 0] }).objs.size = hp.objs.size + 1 := Heap.size_push ..
    wp_walk using wpAny_loadPart' hl
    refine wpAny_stack_any fun st => wpAny_pure ?_
    split
    · rename_i c _ _ _ _ _
      cases (c == Value.type "enumerate")
      all_goals
        wp_walk using wpAny_loadPart' hl, wpAny_pyIter_tuple hT
        exact ⟨_, rfl, by rw [hz]; exact h⟩
    · wp_walk using wpAny_loadPart' hl, wpAny_pyIter_tuple hT
      exact ⟨_, rfl, by rw [hz]; exact h⟩
theorem call_enumT {prog : Program} {w : World} {A : Around} {E : Value → Shared → Prop} {s : Shared} {l : Addr} {xs : Array Value} {Q : Value → Shared → Prop} (hT : s.heap.IsTuple l xs)
    (h : ∀ h', IsEnum h' (s.heap.objs.size + 1) s.heap.objs.size 0 .none → h'.IsTupleIter s.heap.objs.size l 0 →
      (∀ b o, s.heap.get? b = some o → h'.get? b = some o) → Q (.ref (s.heap.objs.size + 1)) { s with heap := h' }) :
    wpAny (model prog w) A (call (.type "enumerate") [.ref l]) Q E s := by
  obtain ⟨⟨c, dct, dt, sl⟩, hl, hc, n, hd⟩ := hT
  simp only at hc hd
  subst hc hd
  refine callType_new F.called_enumerate (by decide) (F.typeCall_enumerate_1 _) (F.newCall_enumerate_1 _) (fun obj => F.args_object_init_2 obj _) F.entry_enumerate_new (new_enumT l xs n dct sl) ⟨hl, ?_⟩
  have hz : (s.heap.push { cls := .type "tuple_iterator", data := .fields #[.ref l, .int 0 0] }).objs.size = s.heap.objs.size + 1 := Heap.size_push ..
  have he : IsEnum ((s.heap.push { cls := .type "tuple_iterator", data := .fields #[.ref l, .int 0 0] }).push { cls := .type "enumerate", data := .fields #[.none, .bool false, .ref s.heap.objs.size, rawInt 0, .none, .none] }) (s.heap.objs.size + 1) s.heap.objs.size 0 .none := by
    have q := Heap.get?_push_size (s.heap.push { cls := .type "tuple_iterator", data := .fields #[.ref l, .int 0 0] }) (o := { cls := .type "enumerate", data := .fields #[.none, .bool false, .ref s.heap.objs.size, rawInt 0, .none, .none] }) rfl
    rw [hz] at q
    exact q
  refine ⟨⟨_, he, rfl⟩, h _ he ?_ ?_⟩
  · exact ⟨_, Heap.get?_push_of_some _ (Heap.get?_push_size _ rfl), rfl, rfl⟩
  · exact fun b o x => Heap.get?_push_of_some _ (Heap.get?_push_of_some _ x)
/-- the tuple at a, each item in a new pair with its place -/
def IteT (K : PySem.W.Frag) (a : Addr) : It where
  go := fun i H => ∃ (xs : List V) (x : V), SqT K H a xs ∧ xs[i]? = some x
  yld := fun i H v H' => ∃ T x, v = .ref T ∧ H T = none ∧ H' = upd H T (.tup [.int (i : Nat), x]) ∧ ∀ xs, SqT K H a xs → xs[i]? = some x
  stop := fun i H => ∃ xs : List V, SqT K H a xs ∧ xs.length = i
theorem turn_enumT {P : Program} {w : World} {K : PySem.W.Frag} {elts : List Expr} {kk : Nat} {tpos : Pos} (a e it : Addr) :
    Turn P w K (.Tuple elts kk tpos) (IteT K a) [e, it] e (fun i h => (∃ old, IsEnum h e it ((i : Nat) : Int) old) ∧ h.IsTupleIter it a i ∧ (e ≠ it ∧ e ≠ a ∧ a ≠ it)) := by
  have two : ∀ b, b ∈ [e, it] → b = e ∨ b = it := fun b hb => by simpa using hb
  refine ⟨by simp, fun i h st b hb => ?_, fun i h h' st k => ?_, ?_, ?_, fun A i s Q E st h => ?_⟩
  · obtain ⟨⟨old, he⟩, ⟨o, ho, hc, hd⟩, _⟩ := st
    rcases two b hb with rfl | rfl
    · exact ⟨_, he, fun v q => nomatch q⟩
    · exact ⟨o, ho, fun v q => by rw [hd] at q; cases q⟩
  · obtain ⟨⟨old, he⟩, hi, n⟩ := st
    exact ⟨⟨old, k e (by simp) _ he⟩, hi.at (fun o q => k it (by simp) o q), n⟩
  · intro X hP hw hK hc i pins s σ H E I hf st hg
    subst hP hw hK
    obtain ⟨⟨old, he⟩, hit, n1, n2, n3⟩ := st
    obtain ⟨xs, x, hq, hx⟩ := hg
    obtain ⟨its, rv, p, hz⟩ := I.tuple hq
    obtain ⟨u, hu, ru⟩ := rv.get hx
    have el := Heap.lt_size he
    have il : it < s.heap.objs.size := by
      obtain ⟨_, q, _⟩ := hit
      exact Heap.lt_size q
    have lt : i < its.toArray.size := by
      obtain ⟨z, _⟩ := List.getElem?_eq_some_iff.mp hu
      rw [List.size_toArray]
      exact z
    refine wpAny_pyNext_enum_itemD (Draws.tuple (A := X.A.in1) (I.ok.hd hc) it a n3 its.toArray) he ⟨hit, p⟩ lt n1 (by simp [n1, n2]) fun x' h' tk hx' ho st' hT hsz hk => ?_
    have ex : x' = u := by
      have q : its.toArray[i]? = some u := by rw [List.getElem?_toArray]; exact hu
      rw [q] at hx'
      exact (Option.some.inj hx').symm
    subst ex
    refine ⟨_, rfl, wpAny_letOwnedTupleGo_enum (s := { s with heap := h', toks := tk + 1 }) ho fun h2 he2 sb => ?_⟩
    have hT2 := (sb.2 _ (Nat.ne_of_gt el)).trans hT
    have ok : ObjOk X.prog X.w (upd H s.heap.objs.size (.tup [.int (i : Nat), x])) h2 s.heap.objs.size (.tup [.int (i : Nat), x]) :=
      ⟨by show 2 ≤ sizeLine; decide, [.int i tk, x'], .cons ⟨_, rfl⟩ (.cons ru .nil), _, hT2, rfl, _, rfl⟩
    have I2 : Inv X pins σ (upd H s.heap.objs.size (.tup [.int (i : Nat), x])) { s with heap := h2, toks := tk + 1 } := by
      refine I.turnedNew (ch := [e, it]) (fun b ob hb q => ?_) hf (Nat.le_refl _) ok
      have b1 : b ≠ e := fun z => hb (by simp [z])
      have b2 : b ≠ it := fun z => hb (by simp [z])
      exact (sb.2 b b1).trans (hk b ob b1 b2 q)
    refine ⟨.ref s.heap.objs.size, _, I2, rfl, ⟨_, x, rfl, I.hok.fresh (Nat.le_refl _), rfl, fun ys hy => ?_⟩, ⟨⟨x', ?_⟩, st'.1.at fun o q => (sb.2 it (Ne.symm n1)).trans q, n1, n2, n3⟩, fun b hb => ?_⟩
    · rw [I.tuple_inj hy hq]
      exact hx
    · rw [show ((i + 1 : Nat) : Int) = (i : Int) + 1 by omega]
      exact he2
    · rw [upd_ne (Nat.ne_of_lt (by rcases two b hb with z | z <;> rw [z] <;> assumption))]
      exact (hf b hb).1
  · intro X hP hw hK hc i pins s σ H E I hf st hg
    subst hP hw hK
    obtain ⟨⟨old, he⟩, hit, n1, n2, n3⟩ := st
    obtain ⟨xs, hq, hx⟩ := hg
    obtain ⟨its, rv, p, hz⟩ := I.tuple hq
    obtain ⟨f0, f1, f2, f3, f4, f5⟩ := hf it (by simp)
    have ei : i = its.toArray.size := by
      rw [List.size_toArray, ← rv.length]
      exact hx.symm
    subst ei
    exact wpAny_pyNext_enum_endD (Draws.tuple (A := X.A.in1) (I.ok.hd hc) it a n3 its.toArray) he ⟨hit, p⟩ fun h' eb => ⟨rfl, I.turned (t' := s.toks) (fun b o hb q => eb b o hb q) f0 f1 f3 f4 f5⟩
  · obtain ⟨⟨_, he⟩, _⟩ := st
    exact wpAny_pyIter_enum he h
def iEnumT (K : PySem.W.Frag) (ta : TA) : TI := fun σ H R => ta σ H fun vs H1 => ∃ a xs, vs = [.ref a] ∧ ((SqL K H1 a xs ∧ R (Ite K a) H1) ∨ (SqT K H1 a xs ∧ R (IteT K a) H1))
/-- for (i, x) in enumerate(a list or a tuple) -/
theorem pi_enumA {X : Cx} {e : Expr} {ta : TA} {p pos tpos : Pos} {elts : List Expr} {kk : Nat} (hg : Gl X "enumerate") (hm : X.mg "enumerate" = none) (ha : PA X [e] ta) (hs : starEach [e] X.env = [(false, eval e X.env)] := by rfl) :
    PI X (.Tuple elts kk tpos) (.Call (.Name "enumerate" p) [e] [] pos) (iEnumT X.K ta) := by
  constructor
  intro pins s σ H R I h
  refine Call_ (ld_blt I hg hm boot_enumerate (PyProof.Rows.callWith_type1 (thn (ha.run pos pins s σ H _ I h) ?_) hs rfl))
  rintro us s1 ⟨vs, H1, I1, r1, a, xs, ex, q1⟩
  subst ex
  obtain ⟨u, rfl, ru⟩ : ∃ u, us = [u] ∧ RelV (.ref a) u := by
    cases r1 with
    | cons r rr =>
      cases rr
      exact ⟨_, rfl, r⟩
  cases (show u = Value.ref a from ru)
  have fresh : ∀ b, b ∈ [s1.heap.objs.size + 1, s1.heap.objs.size] → FpOk X pins H1 b := fun b hb => by
    have z : b = s1.heap.objs.size + 1 ∨ b = s1.heap.objs.size := by simpa using hb
    have le : s1.heap.objs.size ≤ b := by omega
    exact I1.fpOk le (I1.hok.fresh le)
  rcases q1 with ⟨hq, q⟩ | ⟨hq, q⟩
  · obtain ⟨its, rv, p', _⟩ := I1.list hq
    refine call_enumerate_list p'.isList fun h' he hit hsz hk => wpAny_pyIter_enum he ?_
    exact ⟨s1.heap.objs.size + 1, [s1.heap.objs.size + 1, s1.heap.objs.size], _, _, H1, rfl, I1.kept (t' := s1.toks) hk, turn_enum a (s1.heap.objs.size + 1) s1.heap.objs.size, ⟨⟨.none, he⟩, hit, Nat.succ_ne_self _⟩, fresh, q⟩
  · obtain ⟨its, rv, p', _⟩ := I1.tuple hq
    have al : a < s1.heap.objs.size := by
      obtain ⟨o, ho, _⟩ := id p'
      exact Heap.lt_size ho
    refine call_enumT p' fun h' he hit hk => wpAny_pyIter_enum he ?_
    exact ⟨s1.heap.objs.size + 1, [s1.heap.objs.size + 1, s1.heap.objs.size], _, _, H1, rfl, I1.kept (t' := s1.toks) hk, turn_enumT a (s1.heap.objs.size + 1) s1.heap.objs.size, ⟨⟨.none, he⟩, hit, Nat.succ_ne_self _, Nat.ne_of_gt (Nat.lt_succ_of_lt al), Nat.ne_of_lt al⟩, fresh, q⟩
theorem mul_same (l : Addr) (items : Array Value) (n : Nat) (sl : Array (Option Value)) (dd : Option Addr) (u : Tok) :
    Meets (Builtin.«tuple.__mul__» ⟨[.ref l, .int 1 u], []⟩) fun _ R s => (s.heap.get? l = some { cls := .type "tuple", dict := dd, data := .seq items n, slots := sl }) ∧ R (.ok (.ret (.ref l))) s :=
  .of_wp fun prog w A R s h => by
    obtain ⟨hp, g, d, tk, os⟩ := s
    obtain ⟨hl, h⟩ := h
    have f1 := AutoSeq1.idx_int
    have c0 : (decide ((1 : Int) < -(2 ^ 63)) || decide ((1 : Int) ≥ 2 ^ 63)) = false := by decide
    have c1 : (items.isEmpty || (1 : Int) == 1) = true := by simp
    wp_walk using wpAny_loadPart' hl
    repeat (first
      | (refine wpAny_ite_false (decide_eq_false (by rw [c0]; exact Bool.false_ne_true)) ?_; wp_walk using wpAny_loadPart' hl)
      | (refine wpAny_ite_true (decide_eq_true c1) ?_; wp_walk using wpAny_loadPart' hl))
    exact ⟨_, rfl, h⟩
/-- a tuple times 1: the tuple itself -/
def rRep1 (K : PySem.W.Frag) : R2 := fun x y H Q => ∃ l xs, x = .ref l ∧ y = .int 1 ∧ SqT K H l xs ∧ Q (.ref l) H
theorem op_rep1 {X : Cx} : OpR X (binaryOp .Mult) (rRep1 X.K) := by
  intro pins s σ H x y v u Q I rx ry h
  obtain ⟨l, xs, rfl, rfl, hT, q⟩ := h
  cases rx
  obtain ⟨t, rfl⟩ := ry
  obtain ⟨its, r, ⟨⟨cls, dd, data, sl⟩, ho, hc, n, hd⟩, hs⟩ := I.tuple hT
  simp only at hc hd
  subst hc hd
  refine wpAny_binaryOp_repeat_ref (T := "tuple") (U := "int") (by decide) ⟨_, ho, rfl⟩ (fun s' => typeIs_int s' 1 t) noFill_tuple_mul F.fills_int_mul F.slot_int_rmul repeat_tuple F.slot_int_index.lookup ?_
  refine call_meets F.slot_int_rmul (typeIs_int s 1 t) F.entry_int_rmul (F.args_int_rmul_2 _ _) (int_rmul_tuple 1 t l its.toArray n dd sl) ⟨ho, rfl, ⟨_, ho, rfl⟩, ?_⟩
  exact call_meets F.slot_tuple_mul ⟨_, ho, rfl⟩ F.entry_tuple_mul (F.args_tuple_mul_2 _ _) (mul_same l its.toArray n sl dd t) ⟨ho, .ref l, H, I, rfl, q⟩
end Gn
namespace Zx
open PySem PySem.Spec PyProof.Rows L2
theorem mvL {h h' : Heap} {l : Addr} {xs : Array Value} (e : h'.get? l = h.get? l) (k : h.IsList l xs) : h'.IsList l xs := by
  obtain ⟨o, q, r⟩ := k
  exact ⟨o, by rw [e]; exact q, r⟩
theorem mvT {h h' : Heap} {l : Addr} {xs : Array Value} (e : h'.get? l = h.get? l) (k : h.IsTuple l xs) : h'.IsTuple l xs := by
  obtain ⟨o, q, r⟩ := k
  exact ⟨o, by rw [e]; exact q, r⟩
theorem mvLI {h h' : Heap} {i l : Addr} {n : Nat} (e : h'.get? i = h.get? i) (k : h.IsListIter i l n) : h'.IsListIter i l n := by
  obtain ⟨o, q, r⟩ := k
  exact ⟨o, by rw [e]; exact q, r⟩
theorem mvTI {h h' : Heap} {i l : Addr} {n : Nat} (e : h'.get? i = h.get? i) (k : h.IsTupleIter i l n) : h'.IsTupleIter i l n := by
  obtain ⟨o, q, r⟩ := k
  exact ⟨o, by rw [e]; exact q, r⟩
theorem next_item {prog : Program} {w : World} {A : Around} {E : Value → Shared → Prop} {s : Shared} {z TI TO i1 i2 l1 l2 : Addr} {k1 k2 : Nat} {xs ys : Array Value} {x y a b : Value} {Q : Value → Shared → Prop}
    (D : ZipApart z TI TO i1 i2 l1 l2) (hz : IsZip s.heap z TI TO .none) (hTI : IsPair s.heap TI (.ref i1) (.ref i2)) (hTO : IsPair s.heap TO a b) (h1 : s.heap.IsListIter i1 l1 k1) (h2 : s.heap.IsTupleIter i2 l2 k2) (hl1 : s.heap.IsList l1 xs) (hl2 : s.heap.IsTuple l2 ys) (hx : xs[k1]? = some x) (hy : ys[k2]? = some y)
    (h : ∀ h' : Heap, IsZip h' z TI TO (rawInt s.heap.objs.size) → IsPair h' TO x y → h'.IsListIter i1 l1 (k1 + 1) → h'.IsTupleIter i2 l2 (k2 + 1) → IsPair h' s.heap.objs.size x y → h'.objs.size = s.heap.objs.size + 1 → (∀ (c : Addr) (o : Obj), c ≠ z → c ≠ TO → c ≠ i1 → c ≠ i2 → s.heap.get? c = some o → h'.get? c = some o) → Q (.ref s.heap.objs.size) { s with heap := h' }) :
    wpAny (model prog w) A (Builtin.«zip.__next__» ⟨[.ref z], []⟩) (fun fin s' => ∃ v, fin = .done (.ret v) ∧ Q v s') E s := by
  show wpAny (model prog w) A (field (.ref z) 2 >>= _) _ _ _
  refine wpAny_bind (wpAny_field hz rfl rfl ?_)
  show wpAny (model prog w) A (field (.ref z) 3 >>= _) _ _ _
  refine wpAny_bind (wpAny_field hz rfl rfl (wpAny_bind (wpAny_seqItems hTI rfl ?_)))
  show wpAny (model prog w) A (Builtin.SmallTypes.ownedTupleIsFree (.ref z) >>= _) _ _ _
  refine wpAny_bind ?_
  show wpAny (model prog w) A (field (.ref z) 0 >>= _) _ _ _
  refine wpAny_bind (wpAny_field hz rfl rfl (wpAny_pure ?_))
  simp only [beq_self_eq_true, if_true]
  refine wpAny_bind (wpAny_rule ?_)
  refine wpAny_bind (wpAny_field hz rfl rfl ?_)
  show wpAny (model prog w) A (setField (.ref z) 0 .ellipsis >>= _) _ _ _
  refine wpAny_bind (wpAny_setField_rec hz (by show 0 < 5; decide) fun h' hz' sb => ?_)
  simp only [List.zipIdx_cons, List.zipIdx_nil, List.forIn_cons, List.forIn_nil]
  refine wpAny_bind (wpAny_bind (wpAny_bind (wpAny_onRaise ?_)))
  show wpAny (model prog w) A (Builtin.SmallTypes.nextOf (.ref i1) >>= _) _ _ _
  refine wpAny_bind (wpAny_nextOf_list_item (mvLI (sb.2 _ D.i1z) h1) (mvL (sb.2 _ D.l1z) hl1) hx fun ha h1a sa => wpAny_pure ?_)
  have hTOa : ha.get? TO = some _ := ((sa.2 _ D.TOi1).trans (sb.2 _ D.TOz)).trans hTO
  refine wpAny_bind (wpAny_seqItems hTOa rfl ?_)
  refine wpAny_bind (wpAny_updateSeq_pair hTOa fun hb hTOb sc => ?_)
  refine wpAny_bind (wpAny_letGo (wpAny_pure ?_))
  refine wpAny_bind (wpAny_bind (wpAny_onRaise ?_))
  show wpAny (model prog w) A (Builtin.SmallTypes.nextOf (.ref i2) >>= _) _ _ _
  have a1 : ∀ c, c ≠ z → c ≠ i1 → c ≠ TO → hb.get? c = s.heap.get? c := fun c n1 n2 n3 => ((sc.2 c n3).trans (sa.2 c n2)).trans (sb.2 c n1)
  refine wpAny_bind (wpAny_nextOf_tuple_item (mvTI (a1 _ D.i2z D.i12.symm D.TOi2.symm) h2) (mvT (a1 _ D.l2z D.l2i1 D.l2TO) hl2) hy fun hc h2c sd => wpAny_pure ?_)
  have hTOc : hc.get? TO = some _ := (sd.2 _ D.TOi2).trans hTOb
  refine wpAny_bind (wpAny_seqItems hTOc rfl ?_)
  refine wpAny_bind (wpAny_updateSeq_pair hTOc fun he hTOe se => ?_)
  refine wpAny_bind (wpAny_letGo (wpAny_pure ?_))
  refine wpAny_pure ?_
  refine wpAny_bind (wpAny_seqItems hTOe rfl ?_)
  replace sa : Heap.SameBut i1 h' ha := sa
  replace sc : Heap.SameBut TO ha hb := sc
  replace sd : Heap.SameBut i2 hb hc := sd
  replace se : Heap.SameBut TO hc he := se
  have zs : he.objs.size = s.heap.objs.size := se.1.trans (sd.1.trans (sc.1.trans (sa.1.trans sb.1)))
  have a2 : ∀ c, c ≠ z → c ≠ i1 → c ≠ TO → c ≠ i2 → he.get? c = s.heap.get? c := fun c n1 n2 n3 n4 => ((se.2 c n3).trans (sd.2 c n4)).trans (a1 c n1 n2 n3)
  have hze := ((se.2 z D.TOz.symm).trans ((sd.2 z D.i2z.symm).trans ((sc.2 z D.TOz.symm).trans (sa.2 z D.i1z.symm)))).trans hz'
  have g1 := mvLI ((se.2 i1 D.TOi1.symm).trans ((sd.2 i1 D.i12).trans (sc.2 i1 D.TOi1.symm))) h1a
  have g2 := mvTI (se.2 i2 D.TOi2.symm) h2c
  refine wpAny_bind (wpAny_newTuple ?_ (by show 2 ≤ sizeLine; decide))
  show wpAny (model prog w) A ((setField (.ref z) 0 (rawInt (he.objs.size : Nat)) >>= fun _ => setField (.ref z) 1 (.bool false)) >>= _) _ _ _
  refine wpAny_bind (wpAny_bind (wpAny_setField_rec (Heap.get?_push_of_some _ hze) (by show 0 < 5; decide) fun h6 hz6 s6 => wpAny_setField_rec hz6 (by show 1 < 5; decide) fun h7 hz7 s7 => wpAny_pure ⟨_, rfl, ?_⟩))
  replace s7 : Heap.SameBut z h6 h7 := s7
  have s8 : h7.objs.size = (he.push { cls := .type "tuple", data := .seq #[x, y] }).objs.size := s7.1.trans s6.1
  have a8 : ∀ c, c ≠ z → h7.get? c = (he.push { cls := .type "tuple", data := .seq #[x, y] }).get? c := fun c n => (s7.2 c n).trans (s6.2 c n)
  have up : ∀ c o, c ≠ z → he.get? c = some o → h7.get? c = some o := fun c o n q => (a8 c n).trans (Heap.get?_push_of_some _ q)
  have nz : he.objs.size ≠ z := fun q => by
    have := Heap.lt_size hze
    exact absurd this (by rw [← q]; exact Nat.lt_irrefl _)
  show Q (.ref he.objs.size) { s with heap := h7 }
  rw [zs]
  refine h h7 ?_ (up _ _ D.TOz hTOe) (g1.at fun o q => up _ _ D.i1z q) (g2.at fun o q => up _ _ D.i2z q) ?_ ?_ fun c o n1 n2 n3 n4 q => up _ _ n1 ((a2 c n1 n3 n2 n4).trans q)
  · rw [← zs]
    exact hz7
  · rw [← zs]
    exact (a8 _ nz).trans (Heap.get?_push_size _ rfl)
  · rw [s8, Heap.size_push, zs]
theorem next_end {prog : Program} {w : World} {A : Around} {E : Value → Shared → Prop} {s : Shared} {z TI TO i1 i2 l1 l2 : Addr} {k1 k2 : Nat} {xs ys : Array Value} {a b : Value} {Q : PySem.Fin → Shared → Prop} (hh : A.handled = none)
    (D : ZipApart z TI TO i1 i2 l1 l2) (hz : IsZip s.heap z TI TO .none) (hTI : IsPair s.heap TI (.ref i1) (.ref i2)) (hTO : IsPair s.heap TO a b) (h1 : s.heap.IsListIter i1 l1 k1) (h2 : s.heap.IsTupleIter i2 l2 k2) (hl1 : s.heap.IsList l1 xs) (hl2 : s.heap.IsTuple l2 ys) (hend : xs[k1]? = none ∨ ys[k2]? = none)
    (hE : ∀ (h' : Heap) (e : Addr), (∀ (c : Addr) (o : Obj), c ≠ z → c ≠ TO → c ≠ i1 → c ≠ i2 → s.heap.get? c = some o → h'.get? c = some o) → (∃ o, h'.get? e = some o ∧ o.cls = .type "StopIteration") → E (.ref e) { s with heap := h' }) :
    wpAny (model prog w) A (Builtin.«zip.__next__» ⟨[.ref z], []⟩) Q E s := by
  show wpAny (model prog w) A (field (.ref z) 2 >>= _) _ _ _
  refine wpAny_bind (wpAny_field hz rfl rfl ?_)
  show wpAny (model prog w) A (field (.ref z) 3 >>= _) _ _ _
  refine wpAny_bind (wpAny_field hz rfl rfl (wpAny_bind (wpAny_seqItems hTI rfl ?_)))
  show wpAny (model prog w) A (Builtin.SmallTypes.ownedTupleIsFree (.ref z) >>= _) _ _ _
  refine wpAny_bind ?_
  show wpAny (model prog w) A (field (.ref z) 0 >>= _) _ _ _
  refine wpAny_bind (wpAny_field hz rfl rfl (wpAny_pure ?_))
  simp only [beq_self_eq_true, if_true]
  refine wpAny_bind (wpAny_rule ?_)
  refine wpAny_bind (wpAny_field hz rfl rfl ?_)
  show wpAny (model prog w) A (setField (.ref z) 0 .ellipsis >>= _) _ _ _
  refine wpAny_bind (wpAny_setField_rec hz (by show 0 < 5; decide) fun h' hz' sb => ?_)
  simp only [List.zipIdx_cons, List.zipIdx_nil, List.forIn_cons, List.forIn_nil]
  refine wpAny_bind (wpAny_bind (wpAny_bind (wpAny_onRaise ?_)))
  show wpAny (model prog w) A (Builtin.SmallTypes.nextOf (.ref i1) >>= _) _ _ _
  have fin : ∀ (hq : Heap) (e : Addr) (st : Shared), (∀ c o, c ≠ z → c ≠ TO → c ≠ i1 → c ≠ i2 → s.heap.get? c = some o → hq.get? c = some o) → hq.get? z = some { cls := .type "zip", data := .fields #[.ellipsis, .bool false, .bool false, .ref TI, .ref TO] } → (∃ o, hq.get? e = some o ∧ o.cls = .type "StopIteration") → st = { s with heap := hq } → wpAny (model prog w) A (setField (.ref z) 0 .none) (fun _ s2 => E (.ref e) s2) E st := by
    intro hq e st up gz ge est
    subst est
    refine wpAny_setField_rec gz (by show 0 < 5; decide) fun h7 hz7 s7 => ?_
    have s7 : Heap.SameBut z hq h7 := s7
    obtain ⟨o, go, co⟩ := ge
    refine hE h7 e (fun c o n1 n2 n3 n4 q => (s7.2 c n1).trans (up c o n1 n2 n3 n4 q)) ⟨o, (s7.2 e fun q => ?_).trans go, co⟩
    subst q
    rw [gz] at go
    cases go
    injection co with co
    exact absurd co (by decide)
  by_cases hx0 : xs[k1]? = none
  · refine wpAny_bind (wpAny_nextOf_list_end hh (mvLI (sb.2 _ D.i1z) h1) (mvL (sb.2 _ D.l1z) hl1) hx0 fun hq e xb ge => ?_)
    have xb : Heap.ExtBut i1 h' hq := xb
    exact fin hq e _ (fun c o n1 n2 n3 n4 q => xb c o n3 ((sb.2 c n1).trans q)) (xb z _ D.i1z.symm hz') ge rfl
  · obtain ⟨x, hx⟩ : ∃ x, xs[k1]? = some x := by
      cases q : xs[k1]? with
      | none => exact absurd q hx0
      | some x => exact ⟨x, rfl⟩
    have hy0 := hend.resolve_left hx0
    refine wpAny_bind (wpAny_nextOf_list_item (mvLI (sb.2 _ D.i1z) h1) (mvL (sb.2 _ D.l1z) hl1) hx fun ha h1a sa => wpAny_pure ?_)
    have hTOa : ha.get? TO = some _ := ((sa.2 _ D.TOi1).trans (sb.2 _ D.TOz)).trans hTO
    refine wpAny_bind (wpAny_seqItems hTOa rfl ?_)
    refine wpAny_bind (wpAny_updateSeq_pair hTOa fun hb hTOb sc => ?_)
    refine wpAny_bind (wpAny_letGo (wpAny_pure ?_))
    refine wpAny_bind (wpAny_bind (wpAny_onRaise ?_))
    show wpAny (model prog w) A (Builtin.SmallTypes.nextOf (.ref i2) >>= _) _ _ _
    replace sa : Heap.SameBut i1 h' ha := sa
    replace sc : Heap.SameBut TO ha hb := sc
    have a1 : ∀ c, c ≠ z → c ≠ i1 → c ≠ TO → hb.get? c = s.heap.get? c := fun c n1 n2 n3 => ((sc.2 c n3).trans (sa.2 c n2)).trans (sb.2 c n1)
    refine wpAny_bind (wpAny_nextOf_tuple_end hh (mvTI (a1 _ D.i2z D.i12.symm D.TOi2.symm) h2) (mvT (a1 _ D.l2z D.l2i1 D.l2TO) hl2) hy0 fun hq e xb ge => ?_)
    have xb : Heap.ExtBut i2 hb hq := xb
    exact fin hq e _ (fun c o n1 n2 n3 n4 q => xb c o n4 ((a1 c n1 n3 n2).trans q)) (xb z _ D.i2z.symm (((sc.2 z D.TOz.symm).trans (sa.2 z D.i1z.symm)).trans hz')) ge rfl
theorem pyNext_item {prog : Program} {w : World} {A : Around} {E : Value → Shared → Prop} {s : Shared} {z TI TO i1 i2 l1 l2 : Addr} {k1 k2 : Nat} {xs ys : Array Value} {x y a b : Value} {Q : Option Value → Shared → Prop}
    (D : ZipApart z TI TO i1 i2 l1 l2) (hz : IsZip s.heap z TI TO .none) (hTI : IsPair s.heap TI (.ref i1) (.ref i2)) (hTO : IsPair s.heap TO a b) (h1 : s.heap.IsListIter i1 l1 k1) (h2 : s.heap.IsTupleIter i2 l2 k2) (hl1 : s.heap.IsList l1 xs) (hl2 : s.heap.IsTuple l2 ys) (hx : xs[k1]? = some x) (hy : ys[k2]? = some y)
    (hQ : ∀ h' : Heap, IsZip h' z TI TO (rawInt s.heap.objs.size) → IsPair h' TO x y → h'.IsListIter i1 l1 (k1 + 1) → h'.IsTupleIter i2 l2 (k2 + 1) → IsPair h' s.heap.objs.size x y → h'.objs.size = s.heap.objs.size + 1 → (∀ (c : Addr) (o : Obj), c ≠ z → c ≠ TO → c ≠ i1 → c ≠ i2 → s.heap.get? c = some o → h'.get? c = some o) → Q (some (.ref s.heap.objs.size)) { s with heap := h' }) :
    wpAny (model prog w) A (pyNext (.ref z)) Q E s := by
  have hT : s.TypeIs (.ref z) "zip" := ⟨_, hz, rfl⟩
  exact wpAny_bind (wpAny_attempt (wpAny_callSpecial?_slot hT F.slot_zip_next (wpAny_call_entry F.slot_zip_next hT F.entry_zip_next (next_item D hz hTI hTO h1 h2 hl1 hl2 hx hy fun h' a1 a2 a3 a4 a5 a6 a7 => wpAny_pure (hQ h' a1 a2 a3 a4 a5 a6 a7)) (F.args_zip_next_1 (.ref z)))))
theorem pyNext_end {prog : Program} {w : World} {A : Around} {E : Value → Shared → Prop} {s : Shared} {z TI TO i1 i2 l1 l2 : Addr} {k1 k2 : Nat} {xs ys : Array Value} {a b : Value} {Q : Option Value → Shared → Prop} (hh : A.handled = none)
    (D : ZipApart z TI TO i1 i2 l1 l2) (hz : IsZip s.heap z TI TO .none) (hTI : IsPair s.heap TI (.ref i1) (.ref i2)) (hTO : IsPair s.heap TO a b) (h1 : s.heap.IsListIter i1 l1 k1) (h2 : s.heap.IsTupleIter i2 l2 k2) (hl1 : s.heap.IsList l1 xs) (hl2 : s.heap.IsTuple l2 ys) (hend : xs[k1]? = none ∨ ys[k2]? = none)
    (hQ : ∀ h' : Heap, (∀ (c : Addr) (o : Obj), c ≠ z → c ≠ TO → c ≠ i1 → c ≠ i2 → s.heap.get? c = some o → h'.get? c = some o) → Q none { s with heap := h' }) :
    wpAny (model prog w) A (pyNext (.ref z)) Q E s := by
  have hT : s.TypeIs (.ref z) "zip" := ⟨_, hz, rfl⟩
  exact wpAny_bind (wpAny_attempt (wpAny_callSpecial?_slot hT F.slot_zip_next (wpAny_call_entry F.slot_zip_next hT F.entry_zip_next (next_end hh D hz hTI hTO h1 h2 hl1 hl2 hend fun h' e hk ⟨o, ho, hc⟩ => wpAny_bind (wpAny_isInstance ⟨o, ho, hc⟩ isSubtype_stop (wpAny_pure (hQ h' hk)))) (F.args_zip_next_1 (.ref z)))))
def ItzX (K : W.Frag) (a b : Addr) : It := ⟨fun i H => ∃ xs ys x y, SqL K H a xs ∧ SqT K H b ys ∧ xs[i]? = some x ∧ ys[i]? = some y, fun i H v H' => ∃ T x y, v = .ref T ∧ H T = none ∧ H' = upd H T (.tup [x, y]) ∧ (∀ xs, SqL K H a xs → xs[i]? = some x) ∧ ∀ ys, SqT K H b ys → ys[i]? = some y, fun i H => ∃ xs ys, SqL K H a xs ∧ SqT K H b ys ∧ (xs.length ≤ i ∨ ys.length ≤ i)⟩
theorem turn_zipX {P : Program} {w : World} {K : W.Frag} {elts : List Expr} {kk : Nat} {tpos : Pos} {a b z TI TO i1 i2 : Addr} (D : ZipApart z TI TO i1 i2 a b) :
    Turn P w K (.Tuple elts kk tpos) (ItzX K a b) [z, TI, TO, i1, i2] z fun i h => IsZip h z TI TO .none ∧ IsPair h TI (.ref i1) (.ref i2) ∧ (∃ x y, IsPair h TO x y) ∧ h.IsListIter i1 a i ∧ h.IsTupleIter i2 b i where
  mem := by simp
  obj := by
    rintro i h ⟨hz, hTI, ⟨x, y, hTO⟩, ⟨o1, e1, _, d1⟩, ⟨o2, e2, _, d2⟩⟩ c hc
    rcases (show c = z ∨ c = TI ∨ c = TO ∨ c = i1 ∨ c = i2 by simpa using hc) with rfl | rfl | rfl | rfl | rfl
    · exact ⟨_, hz, fun v q => nomatch q⟩
    · exact ⟨_, hTI, fun v q => nomatch q⟩
    · exact ⟨_, hTO, fun v q => nomatch q⟩
    · exact ⟨_, e1, fun v q => by rw [d1] at q; cases q⟩
    · exact ⟨_, e2, fun v q => by rw [d2] at q; cases q⟩
  keep := by
    rintro i h h' ⟨hz, hTI, ⟨x, y, hTO⟩, h1, h2⟩ k
    exact ⟨k z (by simp) _ hz, k TI (by simp) _ hTI, ⟨x, y, k TO (by simp) _ hTO⟩, h1.at fun o q => k i1 (by simp) o q, h2.at fun o q => k i2 (by simp) o q⟩
  item := by
    rintro X rfl rfl rfl hc i pins s σ H E I hf ⟨hz, hTI, ⟨x0, y0, hTO⟩, h1, h2⟩ ⟨xs, ys, x, y, hqx, hqy, hx, hy⟩
    obtain ⟨its, rv, p, _⟩ := I.list hqx
    obtain ⟨its2, rv2, p2, _⟩ := I.tuple hqy
    obtain ⟨u, hu, ru⟩ := Vals.get rv hx
    obtain ⟨u2, hu2, ru2⟩ := Vals.get rv2 hy
    have hzl := Heap.lt_size hz
    refine pyNext_item D hz hTI hTO h1 h2 (PlainL.isList p) p2 (x := u) (y := u2) (by simpa using hu) (by simpa using hu2) fun h' z' TO' h1' h2' hT hsz hk => ?_
    refine ⟨_, rfl, wpAny_letOwnedTupleGo_zip z' fun h'' z'' sb => ?_⟩
    replace sb : Heap.SameBut z h' h'' := sb
    have hT2 := (sb.2 s.heap.objs.size (Nat.ne_of_gt hzl)).trans hT
    have I1 : Inv X pins σ (upd H s.heap.objs.size (.tup [x, y])) { s with heap := h'' } := Inv.turnedNew (ch := [z, TI, TO, i1, i2]) I (fun c o hb q => by
      have hb' : ¬ (c = z ∨ c = TI ∨ c = TO ∨ c = i1 ∨ c = i2) := fun e => hb (by simpa using e)
      exact (sb.2 c fun q' => hb' (.inl q')).trans (hk c o (fun q' => hb' (.inl q')) (fun q' => hb' (.inr (.inr (.inl q')))) (fun q' => hb' (.inr (.inr (.inr (.inl q'))))) (fun q' => hb' (.inr (.inr (.inr (.inr q'))))) q)) hf (Nat.le_refl _) ⟨by show 2 ≤ sizeLine; decide, [u, u2], .cons ru (.cons ru2 .nil), _, hT2, rfl, 0, rfl⟩
    refine ⟨.ref s.heap.objs.size, upd H s.heap.objs.size (.tup [x, y]), I1, rfl, ⟨_, x, y, rfl, HOk.fresh I.hok (Nat.le_refl _), rfl, fun l hl => by rw [Inv.list_inj I hl hqx]; exact hx, fun l hl => by rw [Inv.tuple_inj I hl hqy]; exact hy⟩, ⟨z'', (sb.2 TI D.TIz).trans (hk TI _ D.TIz D.TITO D.TIi1 D.TIi2 hTI), ⟨u, u2, (sb.2 TO D.TOz).trans TO'⟩, h1'.at fun o q => (sb.2 i1 D.i1z).trans q, h2'.at fun o q => (sb.2 i2 D.i2z).trans q⟩, fun c hcm => ?_⟩
    have hlt : c < s.heap.objs.size := by
      rcases (show c = z ∨ c = TI ∨ c = TO ∨ c = i1 ∨ c = i2 by simpa using hcm) with rfl | rfl | rfl | rfl | rfl
      · exact hzl
      · exact Heap.lt_size hTI
      · exact Heap.lt_size hTO
      · obtain ⟨o, e1, _⟩ := h1; exact Heap.lt_size e1
      · obtain ⟨o, e1, _⟩ := h2; exact Heap.lt_size e1
    rw [upd_ne (Nat.ne_of_lt hlt)]
    exact (hf c hcm).1
  done := by
    rintro X rfl rfl rfl hc i pins s σ H E I hf ⟨hz, hTI, ⟨x0, y0, hTO⟩, h1, h2⟩ ⟨xs, ys, hqx, hqy, hend⟩
    obtain ⟨its, rv, p, _⟩ := I.list hqx
    obtain ⟨its2, rv2, p2, _⟩ := I.tuple hqy
    have l1 := Vals.length rv
    have l2 := Vals.length rv2
    refine pyNext_end (I.ok.hd hc) D hz hTI hTO h1 h2 (PlainL.isList p) p2 ?_ fun h' hk => ⟨rfl, ?_⟩
    · rcases hend with q | q
      · left; simp only [List.getElem?_toArray]; rw [List.getElem?_eq_none_iff]; omega
      · right; simp only [List.getElem?_toArray]; rw [List.getElem?_eq_none_iff]; omega
    · exact Inv.turnedL (t' := s.toks) (ch := [z, TI, TO, i1, i2]) I (fun c o hb q => by
        have hb' : ¬ (c = z ∨ c = TI ∨ c = TO ∨ c = i1 ∨ c = i2) := fun e => hb (by simpa using e)
        exact hk c o (fun q' => hb' (.inl q')) (fun q' => hb' (.inr (.inr (.inl q')))) (fun q' => hb' (.inr (.inr (.inr (.inl q'))))) (fun q' => hb' (.inr (.inr (.inr (.inr q'))))) q) hf
  self := by
    rintro A i s Q E ⟨hz, _⟩ q
    exact wpAny_pyIter_zip hz q
end Zx
namespace Zx
open PySem PySem.Spec PyProof.Rows L2
open Sem (wp)
def zH1 (h : Heap) (l1 : Addr) : Heap := h.push { cls := .type "list_iterator", data := .fields #[.ref l1, .int 0 0] }
def zH2 (h : Heap) (l1 l2 : Addr) : Heap := (zH1 h l1).push { cls := .type "tuple_iterator", data := .fields #[.ref l2, .int 0 0] }
def zH3 (h : Heap) (l1 l2 : Addr) : Heap := (zH2 h l1 l2).push { cls := .type "tuple", data := .seq #[.ref h.objs.size, .ref (zH1 h l1).objs.size] }
def zH4 (h : Heap) (l1 l2 : Addr) : Heap := (zH3 h l1 l2).push { cls := .type "tuple", data := .seq #[.none, .none] }
def zH5 (h : Heap) (l1 l2 : Addr) : Heap := (zH4 h l1 l2).push { cls := .type "zip", data := .fields #[.none, .bool false, .bool false, .ref (zH2 h l1 l2).objs.size, .ref (zH3 h l1 l2).objs.size] }
theorem new_zipX (l1 l2 : Addr) (xs ys : Array Value) :
    Meets (Builtin.«zip.__new__» ⟨[.type "zip", .ref l1, .ref l2], []⟩) fun _ R s =>
      s.heap.IsList l1 xs ∧ s.heap.IsTuple l2 ys ∧ R (.ok (.ret (.ref (zH4 s.heap l1 l2).objs.size))) { s with heap := zH5 s.heap l1 l2 } :=
  .of_wp fun prog w A R s h => by
    obtain ⟨hp, g, d, tk, os⟩ := s
    obtain ⟨k1, k2, q⟩ := h
    have sub := sub_zip
    have key : ∀ {x : Addr} {hq : Heap} {Q : Value → Shared → Prop} {E : Value → Shared → Prop}, ((x = l1 ∧ hq = hp ∧ Q (.ref hp.objs.size) ⟨zH1 hp l1, g, d, tk, os⟩) ∨ (x = l2 ∧ hq = zH1 hp l1 ∧ Q (.ref (zH1 hp l1).objs.size) ⟨zH2 hp l1 l2, g, d, tk, os⟩)) → wpAny (model prog w) A.in1 (pyIter (.ref x)) Q E ⟨hq, g, d, tk, os⟩ := by
      rintro x hq Q E (⟨rfl, rfl, q⟩ | ⟨rfl, rfl, q⟩)
      · exact wpAny_pyIter_list k1 q
      · refine wpAny_pyIter_tuple (items := ys) ?_ q
        obtain ⟨o, e, r⟩ := k2
        exact ⟨o, Heap.get?_push_of_some _ e, r⟩
    wp_walk using key
    refine .inl ⟨rfl, rfl, ?_⟩
    wp_walk using key
    refine .inr ⟨rfl, rfl, ?_⟩
    wp_walk using key
    exact ⟨_, rfl, q⟩
theorem call_zipX {prog : Program} {w : World} {A : Around} {E : Value → Shared → Prop} {s : Shared} {l1 l2 : Addr} {xs ys : Array Value} {Q : Value → Shared → Prop} (hl1 : s.heap.IsList l1 xs) (hl2 : s.heap.IsTuple l2 ys)
    (h : ∀ h' : Heap, IsZip h' (s.heap.objs.size + 4) (s.heap.objs.size + 2) (s.heap.objs.size + 3) .none → IsPair h' (s.heap.objs.size + 2) (.ref s.heap.objs.size) (.ref (s.heap.objs.size + 1)) → IsPair h' (s.heap.objs.size + 3) .none .none → h'.IsListIter s.heap.objs.size l1 0 → h'.IsTupleIter (s.heap.objs.size + 1) l2 0 → h'.objs.size = s.heap.objs.size + 5 → (∀ (c : Addr) (o : Obj), s.heap.get? c = some o → h'.get? c = some o) → Q (.ref (s.heap.objs.size + 4)) { s with heap := h' }) :
    wpAny (model prog w) A (call (.type "zip") [.ref l1, .ref l2]) Q E s := by
  refine callType_new F.called_zip (by decide) (F.typeCall_zip_2 _ _) (F.newCall_zip_2 _ _) (fun obj => F.args_object_init_3 obj _ _) F.entry_zip_new (new_zipX l1 l2 xs ys) ⟨hl1, hl2, ?_⟩
  have z1 : (zH1 s.heap l1).objs.size = s.heap.objs.size + 1 := Heap.size_push _ _
  have z2 : (zH2 s.heap l1 l2).objs.size = s.heap.objs.size + 2 := by unfold zH2; rw [Heap.size_push, z1]
  have z3 : (zH3 s.heap l1 l2).objs.size = s.heap.objs.size + 3 := by unfold zH3; rw [Heap.size_push, z2]
  have z4 : (zH4 s.heap l1 l2).objs.size = s.heap.objs.size + 4 := by unfold zH4; rw [Heap.size_push, z3]
  have z5 : (zH5 s.heap l1 l2).objs.size = s.heap.objs.size + 5 := by unfold zH5; rw [Heap.size_push, z4]
  have g5 : (zH5 s.heap l1 l2).get? (zH4 s.heap l1 l2).objs.size = some _ := Heap.get?_push_size _ rfl
  have g4 : (zH5 s.heap l1 l2).get? (zH3 s.heap l1 l2).objs.size = some _ := Heap.get?_push_of_some _ (Heap.get?_push_size _ rfl)
  have g3 : (zH5 s.heap l1 l2).get? (zH2 s.heap l1 l2).objs.size = some _ := Heap.get?_push_of_some _ (Heap.get?_push_of_some _ (Heap.get?_push_size _ rfl))
  have g2 : (zH5 s.heap l1 l2).get? (zH1 s.heap l1).objs.size = some _ := Heap.get?_push_of_some _ (Heap.get?_push_of_some _ (Heap.get?_push_of_some _ (Heap.get?_push_size _ rfl)))
  have g1 : (zH5 s.heap l1 l2).get? s.heap.objs.size = some _ := Heap.get?_push_of_some _ (Heap.get?_push_of_some _ (Heap.get?_push_of_some _ (Heap.get?_push_of_some _ (Heap.get?_push_size _ rfl))))
  have up : ∀ c o, s.heap.get? c = some o → (zH5 s.heap l1 l2).get? c = some o := fun c o q => Heap.get?_push_of_some _ (Heap.get?_push_of_some _ (Heap.get?_push_of_some _ (Heap.get?_push_of_some _ (Heap.get?_push_of_some _ q))))
  show Shared.TypeIs _ (.ref (zH4 s.heap l1 l2).objs.size) "zip" ∧ Q (.ref (zH4 s.heap l1 l2).objs.size) _
  rw [z1] at g2 g3
  rw [z2] at g3 g5
  rw [z3] at g4 g5
  rw [z4] at g5 ⊢
  exact ⟨⟨_, g5, rfl⟩, h (zH5 s.heap l1 l2) g5 g3 g4 ⟨_, g1, rfl, rfl⟩ ⟨_, g2, rfl, rfl⟩ z5 up⟩
theorem apart {n a b : Nat} (la : a < n) (lb : b < n) : ZipApart (n + 4) (n + 2) (n + 3) n (n + 1) a b := by
  constructor <;> (intro e; have e : (_ : Nat) = _ := e; omega)
theorem five {n c : Nat} (h : c ∈ [n + 4, n + 2, n + 3, n, n + 1]) : n ≤ c := by
  rcases (show c = n + 4 ∨ c = n + 2 ∨ c = n + 3 ∨ c = n ∨ c = n + 1 by simpa using h) with h | h | h | h | h <;> omega
/-- for (x, y) in zip(a list, a tuple) -/
def iZipX (K : W.Frag) (ta : TA) : TI := fun σ H R => ta σ H fun vs H1 => ∃ a b xs ys, vs = [.ref a, .ref b] ∧ ((SqL K H1 a xs ∧ SqL K H1 b ys ∧ R (Itz K a b) H1) ∨ (SqT K H1 a xs ∧ SqT K H1 b ys ∧ R (RZ.ItzT K a b) H1) ∨ (SqL K H1 a xs ∧ SqT K H1 b ys ∧ R (ItzX K a b) H1))
theorem pi_zipX {X : Cx} {e e2 : Expr} {ta : TA} {p pos tpos : Pos} {elts : List Expr} {kk : Nat} (hg : Gl X "zip") (hm : X.mg "zip" = none) (ha : PA X [e, e2] ta) (hs : starEach [e, e2] X.env = (false, eval e X.env) :: starEach [e2] X.env := by rfl) (hpl : (backTo pos (starEach [e2] X.env)).any (·.1) = false := by rfl) :
    PI X (.Tuple elts kk tpos) (.Call (.Name "zip" p) [e, e2] [] pos) (iZipX X.K ta) := by
  constructor
  intro pins s σ H R I h
  refine Call_ (ld_blt I hg hm boot_zip (PyProof.Rows.callWith_type1 (thn (ha.run pos pins s σ H _ I h) ?_) hs hpl))
  rintro us s1 ⟨vs, H1, I1, r1, a, b, xs, ys, rfl, q⟩
  obtain ⟨u, u2, rfl, ru, ru2⟩ : ∃ u u2, us = [u, u2] ∧ RelV (.ref a) u ∧ RelV (.ref b) u2 := by
    cases r1 with
    | cons r rr =>
      cases rr with
      | cons r' rr' =>
        cases rr'
        exact ⟨_, _, rfl, r, r'⟩
  cases (show u = Value.ref a from ru)
  cases (show u2 = Value.ref b from ru2)
  rcases q with ⟨ha, hb, q⟩ | ⟨ha, hb, q⟩ | ⟨ha, hb, q⟩
  · obtain ⟨its, rv, p1, _⟩ := I1.list ha
    obtain ⟨its2, rv2, p2, _⟩ := I1.list hb
    obtain ⟨oa, ea, _⟩ := id (PlainL.isList p1)
    obtain ⟨ob, eb, _⟩ := id (PlainL.isList p2)
    have la : a < s1.heap.objs.size := Heap.lt_size ea
    have lb : b < s1.heap.objs.size := Heap.lt_size eb
    refine call_zip_2 (PlainL.isList p1) (PlainL.isList p2) fun h' hz hTI hTO h1 h2 hsz hk => ?_
    refine wpAny_pyIter_zip hz ?_
    refine ⟨_, _, _, _, H1, rfl, I1.kept (t' := s1.toks) hk, turn_zip (a := a) (b := b) (i1 := s1.heap.objs.size) (i2 := s1.heap.objs.size + 1) (TI := s1.heap.objs.size + 2) (TO := s1.heap.objs.size + 3) (z := s1.heap.objs.size + 4) (apart la lb), ⟨hz, hTI, ⟨_, _, hTO⟩, h1, h2⟩, fun c hc => ?_, q⟩
    have hge := five hc
    exact I1.fpOk hge (I1.hok.fresh hge)
  · obtain ⟨its, rv, p1, _⟩ := I1.tuple ha
    obtain ⟨its2, rv2, p2, _⟩ := I1.tuple hb
    obtain ⟨oa, ea, _⟩ := id (id p1)
    obtain ⟨ob, eb, _⟩ := id (id p2)
    have la : a < s1.heap.objs.size := Heap.lt_size ea
    have lb : b < s1.heap.objs.size := Heap.lt_size eb
    refine RZ.call_zipT (id p1) (id p2) fun h' hz hTI hTO h1 h2 hsz hk => ?_
    refine wpAny_pyIter_zip hz ?_
    refine ⟨_, _, _, _, H1, rfl, I1.kept (t' := s1.toks) hk, RZ.turn_zipT (a := a) (b := b) (i1 := s1.heap.objs.size) (i2 := s1.heap.objs.size + 1) (TI := s1.heap.objs.size + 2) (TO := s1.heap.objs.size + 3) (z := s1.heap.objs.size + 4) (apart la lb), ⟨hz, hTI, ⟨_, _, hTO⟩, h1, h2⟩, fun c hc => ?_, q⟩
    have hge := five hc
    exact I1.fpOk hge (I1.hok.fresh hge)
  · obtain ⟨its, rv, p1, _⟩ := I1.list ha
    obtain ⟨its2, rv2, p2, _⟩ := I1.tuple hb
    obtain ⟨oa, ea, _⟩ := id (PlainL.isList p1)
    obtain ⟨ob, eb, _⟩ := id (id p2)
    have la : a < s1.heap.objs.size := Heap.lt_size ea
    have lb : b < s1.heap.objs.size := Heap.lt_size eb
    refine call_zipX (PlainL.isList p1) (id p2) fun h' hz hTI hTO h1 h2 hsz hk => ?_
    refine wpAny_pyIter_zip hz ?_
    refine ⟨_, _, _, _, H1, rfl, I1.kept (t' := s1.toks) hk, turn_zipX (a := a) (b := b) (i1 := s1.heap.objs.size) (i2 := s1.heap.objs.size + 1) (TI := s1.heap.objs.size + 2) (TO := s1.heap.objs.size + 3) (z := s1.heap.objs.size + 4) (apart la lb), ⟨hz, hTI, ⟨_, _, hTO⟩, h1, h2⟩, fun c hc => ?_, q⟩
    have hge := five hc
    exact I1.fpOk hge (I1.hok.fresh hge)
end Zx
set_option exponentiation.threshold 20000
namespace Dz
open PySem PySem.Spec PyProof.Rows L2
def isaB (t c : String) : Bool := t == c || (t == "bool" && c == "int")
theorem same_new {H : Hp} {a : Addr} {o : HO} (h : H a = none) : Same H (upd H a o) := fun b u e => by
  rw [upd_ne (ne_of_none e h)]
  exact e
/-- small enough for every deed: below a thousand bits and some -/
def Sm (i : Int) : Prop := i.natAbs < 2 ^ 1000
end Dz
namespace Dz
open PySem PySem.Spec PyProof.Rows L2
end Dz
set_option exponentiation.threshold 20000
namespace Mt
open PySem PySem.Spec L2 Dz
/-- a couple in lowest terms is a ratio -/
def Low (t b : Int) : Prop := 1 ≤ b ∧ Nat.gcd t.natAbs b.natAbs = 1
/-- a drawn fraction -/
structure Frac (t b : Int) : Prop where
  low : Low t b
  t1 : t.natAbs ≤ 1000000000
  b1 : b ≤ 12
theorem Frac.ne {t b : Int} (h : Frac t b) : b ≠ 0 := by have := h.low.1; omega
end Mt
namespace Vz
open PySem PySem.Spec PyProof.Rows L2 Dz
structure Mv (G H G' H' : Hp) : Prop where
  gg : Same G G'
  gh : Same G' H'
  nw : ∀ a, H a ≠ none → G' a = G a
  dm : ∀ a, H a ≠ none → H' a ≠ none
theorem some_ne {α : Type} {x : Option α} {o : α} (h : x = some o) : x ≠ none := fun z => by rw [h] at z; cases z
theorem ne_some {α : Type} {x : Option α} (h : x ≠ none) : ∃ o, x = some o := by
  cases x with
  | none => exact absurd rfl h
  | some o => exact ⟨o, rfl⟩
theorem old_none {G H : Hp} {p : Addr} (s : Same G H) (hp : H p = none) : G p = none := by
  cases e : G p with
  | none => rfl
  | some o =>
    rw [s p o e] at hp
    cases hp
section
variable {G H G1 H1 G2 H2 G' H' : Hp}
theorem Mv.refl (s : Same G H) : Mv G H G H := ⟨Same.refl _, s, fun _ _ => rfl, fun _ h => h⟩
theorem Mv.trans (x : Mv G H G1 H1) (y : Mv G1 H1 G2 H2) : Mv G H G2 H2 :=
  ⟨x.gg.trans y.gg, y.gh, fun a h => (y.nw a (x.dm a h)).trans (x.nw a h), fun a h => y.dm a (x.dm a h)⟩
theorem Mv.of (s : Same G H) (t : Same H H') : Mv G H G H' :=
  ⟨Same.refl _, s.trans t, fun _ _ => rfl, fun a h => by
    obtain ⟨o, e⟩ := ne_some h
    exact some_ne (t a o e)⟩
theorem Mv.new {p : Addr} {o : HO} (s : Same G H) (hp : H p = none) : Mv G H (upd G p o) (upd H p o) := by
  have gp := old_none s hp
  refine ⟨same_new gp, fun b u e => ?_, fun a h => ?_, fun a h => ?_⟩
  · by_cases hb : b = p
    · subst hb
      rw [upd_same] at e ⊢
      exact e
    · rw [upd_ne hb] at e ⊢
      exact s b u e
  · rw [upd_ne fun z => h (by rw [z]; exact hp)]
  · rw [upd_ne fun z => h (by rw [z]; exact hp)]
    exact h
/-- a new object that stays out of the view -/
theorem Mv.hid {p : Addr} {o : HO} (s : Same G H) (hp : H p = none) : Mv G H G (upd H p o) := Mv.of s (same_new hp)
/-- an object out of the view changes -/
theorem Mv.put {p : Addr} {o : HO} (s : Same G H) (gp : G p = none) (hp : H p ≠ none) : Mv G H G (upd H p o) := by
  refine ⟨Same.refl _, fun b u e => ?_, fun _ _ => rfl, fun a h => ?_⟩
  · rw [upd_ne (ne_of_none e gp)]
    exact s b u e
  · by_cases ha : a = p
    · rw [ha, upd_same]
      exact fun z => nomatch z
    · rw [upd_ne ha]
      exact h
/-- an object out of the view comes in as it stands -/
theorem Mv.shut {p : Addr} {o : HO} (x : Mv G H G1 H1) (np : H p = none) (g1 : G1 p = none) (hp : H1 p = some o) : Mv G H (upd G1 p o) H1 := by
  refine ⟨x.gg.trans (same_new g1), fun b u e => ?_, fun a h => ?_, x.dm⟩
  · by_cases hb : b = p
    · subst hb
      rw [upd_same] at e
      rw [hp]
      exact e
    · rw [upd_ne hb] at e
      exact x.gh b u e
  · rw [upd_ne fun z => h (by rw [z]; exact np)]
    exact x.nw a h
/-- what a deed keeps that changes only what ex tells -/
def Kp (ex : Addr → Prop) (H H' : Hp) : Prop := ∀ b o, ¬ ex b → H b = some o → H' b = some o
theorem Kp.refl {ex : Addr → Prop} : Kp ex H H := fun _ _ _ h => h
theorem Kp.trans {ex : Addr → Prop} (x : Kp ex H H1) (y : Kp ex H1 H2) : Kp ex H H2 := fun b o hb e => y b o hb (x b o hb e)
theorem Kp.of {ex : Addr → Prop} (s : Same H H1) : Kp ex H H1 := fun b o _ e => s b o e
end
theorem pi_or {X : Cx} {tg it : Expr} {w1 w2 : TI} (h1 : PI X tg it w1) (h2 : PI X tg it w2) : PI X tg it (fun σ H R => w1 σ H R ∨ w2 σ H R) :=
  ⟨fun pins s σ H R I h => h.elim (h1.run pins s σ H R I) (h2.run pins s σ H R I)⟩
section
variable {K : PySem.W.Frag} {J : It} {n : Nat} {Gd : Hp → Prop} {Y : Nat → Hp → V → Hp → Prop} {g : TG} {tt : TT} {te : TE} {vs : List Nat} {σ : L2.St} {G1 H1 : Hp} {D : Addr} {Qd : Hp → Prop}
/-- what a comprehension's loop asks -/
abbrev LcW (J : It) (g : TG) (tt : TT) (te : TE) (vs : List Nat) (σ : L2.St) (H1 : Hp) (D : Addr) (Qd : Hp → Prop) : Prop :=
  ∃ W : Nat → Nat → Hp → Prop, (∃ m, W 0 m (upd H1 D (.lst []))) ∧ ∀ i m H, W i m H →
      (J.stop i H ∧ Qd H) ∨ (J.go i H ∧ ∃ Nx : Hp → Prop, (∀ H', Nx H' → ∃ m', m' < m ∧ W (i + 1) m' H') ∧ ∀ x H', J.yld i H x H' → g x (wipe σ vs) H' fun σ2 H2 => wipe σ2 vs = wipe σ vs ∧ tt σ2 H2 fun b H3 =>
        if b = true then te σ2 H3 fun y H4 => ∃ acc, H4 D = some (.lst acc) ∧ acc.length < sizeLine ∧ Nx (upd H4 D (.lst (acc ++ [y]))) else Nx H3)
end
end Vz
namespace Fw
open PySem PySem.Spec PyProof.Rows L2 Vz
/-- a value as data: hl a list that one place alone holds; me the one thing that is handed about and changes (a law's hand, a self under construction); ex an error that a suite holds -/
inductive D where
  | non | bl (b : Bool) | int (i : Int) | str (x : Str)
  | tup (ds : List D) | lst (ds : List D)
  | ins (n : Str) (fs : List (Str × D))
  | hl (ds : List D) | me
  | ex (n : Str) (fs : List (Str × D))
/-- a law's constants -/
structure Cn where
  K : PySem.W.Frag
  mg : Str → Option Value
  xa : Option (Addr × Value × Option Addr) := none
/-- what is asked of a class whose instances are handed about -/
structure COk (K : PySem.W.Frag) (C : Addr) : Prop where
  cl : Cls K C
  ca : PySem.W.findIn K (.ref C) "__class__" = some (some (.builtin "object.__class__"))
  mo : PySem.W.mroIn K C (.type "object") = some true
  nb : ∀ n ∈ (["int", "bool", "str", "list", "tuple", "dict"] : List String), PySem.W.kitOne K (.ref C) (.type n) = some false
mutual
inductive Dq (c : Cn) (ha : Option Addr) (G : Hp) : V → D → Prop
  | non : Dq c ha G .non .non
  | bl (b : Bool) : Dq c ha G (.bl b) (.bl b)
  | int (i : Int) : Dq c ha G (.int i) (.int i)
  | str (x : Str) : Dq c ha G (.str x) (.str x)
  | tup {a : Addr} {xs : List V} {ds : List D} : SqT c.K G a xs → DqAll c ha G xs ds → Dq c ha G (.ref a) (.tup ds)
  | lst {a : Addr} {xs : List V} {ds : List D} : G a = some (.lst xs) → DqAll c ha G xs ds → Dq c ha G (.ref a) (.lst ds)
  | ins {a C dx : Addr} {n : Str} {xs : List (Str × V)} {fs : List (Str × D)} : c.mg n = some (.ref C) → G a = some (.ins C dx xs) → COk c.K C → DqF c ha G C xs fs → Dq c ha G (.ref a) (.ins n fs)
inductive DqAll (c : Cn) (ha : Option Addr) (G : Hp) : List V → List D → Prop
  | nil : DqAll c ha G [] []
  | cons {v : V} {d : D} {xs : List V} {ds : List D} : Dq c ha G v d → DqAll c ha G xs ds → DqAll c ha G (v :: xs) (d :: ds)
inductive DqF (c : Cn) (ha : Option Addr) (G : Hp) : Addr → List (Str × V) → List (Str × D) → Prop
  | nil {C : Addr} : DqF c ha G C [] []
  | cons {C : Addr} {n : Str} {v : V} {d : D} {xs : List (Str × V)} {fs : List (Str × D)} : NoAttr c.K C n → Dq c ha G v d → DqF c ha G C xs fs → DqF c ha G C ((n, v) :: xs) ((n, d) :: fs)
end
section
variable {c : Cn} {ha : Option Addr} {G G' H H' G1 H1 : Hp}
theorem dq_mono (s : Same G G') {v : V} {d : D} (h : Dq c ha G v d) : Dq c ha G' v d := by
  refine Dq.rec (motive_1 := fun v d _ => Dq c ha G' v d) (motive_2 := fun xs ds _ => DqAll c ha G' xs ds) (motive_3 := fun C xs fs _ => DqF c ha G' C xs fs) ?_ ?_ ?_ ?_ ?_ ?_ ?_ ?_ ?_ ?_ ?_ h
  · exact .non
  · exact fun b => .bl b
  · exact fun i => .int i
  · exact fun x => .str x
  · exact fun h1 _ h2 => .tup (Evl.ex_t s h1) h2
  · exact fun h1 _ h2 => .lst (s _ _ h1) h2
  · exact fun h1 h2 h3 _ h4 => .ins h1 (s _ _ h2) h3 h4
  · exact .nil
  · exact fun _ _ h1 h2 => .cons h1 h2
  · exact .nil
  · exact fun h0 _ _ h1 h2 => .cons h0 h1 h2
theorem dq_ha {hb : Option Addr} {v : V} {d : D} (h : Dq c ha G v d) : Dq c hb G v d := by
  refine Dq.rec (motive_1 := fun v d _ => Dq c hb G v d) (motive_2 := fun xs ds _ => DqAll c hb G xs ds) (motive_3 := fun C xs fs _ => DqF c hb G C xs fs) ?_ ?_ ?_ ?_ ?_ ?_ ?_ ?_ ?_ ?_ ?_ h
  · exact .non
  · exact fun b => .bl b
  · exact fun i => .int i
  · exact fun x => .str x
  · exact fun h1 _ h2 => .tup h1 h2
  · exact fun h1 _ h2 => .lst h1 h2
  · exact fun h1 h2 h3 _ h4 => .ins h1 h2 h3 h4
  · exact .nil
  · exact fun _ _ h1 h2 => .cons h1 h2
  · exact .nil
  · exact fun h0 _ _ h1 h2 => .cons h0 h1 h2
theorem dqF_ha {hb : Option Addr} {C : Addr} : ∀ {xs : List (Str × V)} {fs : List (Str × D)}, DqF c ha G C xs fs → DqF c hb G C xs fs
  | _, _, .nil => .nil
  | _, _, .cons h0 h t => .cons h0 (dq_ha h) (dqF_ha t)
theorem dqAll_mono (s : Same G G') : ∀ {xs : List V} {ds : List D}, DqAll c ha G xs ds → DqAll c ha G' xs ds
  | _, _, .nil => .nil
  | _, _, .cons h t => .cons (dq_mono s h) (dqAll_mono s t)
theorem dqF_mono (s : Same G G') {C : Addr} : ∀ {xs : List (Str × V)} {fs : List (Str × D)}, DqF c ha G C xs fs → DqF c ha G' C xs fs
  | _, _, .nil => .nil
  | _, _, .cons h0 h t => .cons h0 (dq_mono s h) (dqF_mono s t)
theorem dqAll_len : ∀ {xs : List V} {ds : List D}, DqAll c ha G xs ds → xs.length = ds.length
  | _, _, .nil => rfl
  | _, _, .cons _ t => congrArg Nat.succ (dqAll_len t)
theorem dqAll_at : ∀ {xs : List V} {ds : List D} {i : Nat} {d : D}, DqAll c ha G xs ds → ds[i]? = some d → ∃ x, xs[i]? = some x ∧ Dq c ha G x d
  | _, _, i, _, .nil, e => by simp at e
  | _, _, 0, _, .cons h _, e => by
    have z := Option.some.inj e
    subst z
    exact ⟨_, rfl, h⟩
  | _, _, i + 1, _, .cons _ t, e => dqAll_at (i := i) t e
theorem dqAll_app : ∀ {xs ys : List V} {ds es : List D}, DqAll c ha G xs ds → DqAll c ha G ys es → DqAll c ha G (xs ++ ys) (ds ++ es)
  | _, _, _, _, .nil, k => k
  | _, _, _, _, .cons h t, k => .cons h (dqAll_app t k)
theorem dqAll_drop : ∀ (n : Nat) {xs : List V} {ds : List D}, DqAll c ha G xs ds → DqAll c ha G (xs.drop n) (ds.drop n)
  | 0, _, _, h => h
  | _ + 1, _, _, .nil => .nil
  | n + 1, _, _, .cons _ t => dqAll_drop n t
theorem dqAll_take : ∀ (n : Nat) {xs : List V} {ds : List D}, DqAll c ha G xs ds → DqAll c ha G (xs.take n) (ds.take n)
  | 0, _, _, _ => .nil
  | _ + 1, _, _, .nil => .nil
  | n + 1, _, _, .cons h t => .cons h (dqAll_take n t)
theorem dqAll_set {v : V} {d : D} (r : Dq c ha G v d) : ∀ (n : Nat) {xs : List V} {ds : List D}, DqAll c ha G xs ds → DqAll c ha G (xs.set n v) (ds.set n d)
  | _, _, _, .nil => .nil
  | 0, _, _, .cons _ t => .cons r t
  | n + 1, _, _, .cons h t => .cons h (dqAll_set r n t)
theorem dqAll_reps {xs : List V} {ds : List D} (r : DqAll c ha G xs ds) : ∀ n : Nat, DqAll c ha G (List.replicate n xs).flatten (List.replicate n ds).flatten
  | 0 => .nil
  | n + 1 => by
    rw [List.replicate_succ, List.replicate_succ, List.flatten_cons, List.flatten_cons]
    exact dqAll_app r (dqAll_reps r n)
theorem dqF_look {C : Addr} : ∀ {xs : List (Str × V)} {fs : List (Str × D)} {n : Str} {d : D}, DqF c ha G C xs fs → fs.lookup n = some d → NoAttr c.K C n ∧ ∃ v, xs.lookup n = some v ∧ Dq c ha G v d
  | _, _, n, d, .nil, e => nomatch e
  | _, _, n, d, .cons (n := m) h0 h t, e => by
    rw [List.lookup_cons] at e ⊢
    cases q : n == m with
    | true =>
      rw [q] at e
      have e1 : n = m := eq_of_beq q
      subst e1
      have e2 := Option.some.inj e
      subst e2
      exact ⟨h0, _, rfl, h⟩
    | false =>
      rw [q] at e
      exact dqF_look t e
theorem dqF_no {C : Addr} : ∀ {xs : List (Str × V)} {fs : List (Str × D)} {n : Str}, DqF c ha G C xs fs → fs.lookup n = none → xs.lookup n = none
  | _, _, n, .nil, _ => rfl
  | _, _, n, .cons (n := m) h0 h t, e => by
    rw [List.lookup_cons] at e ⊢
    cases q : n == m with
    | true => rw [q] at e; cases e
    | false =>
      rw [q] at e
      exact dqF_no t e
theorem dqF_len {C : Addr} : ∀ {xs : List (Str × V)} {fs : List (Str × D)}, DqF c ha G C xs fs → xs.length = fs.length
  | _, _, .nil => rfl
  | _, _, .cons _ _ t => congrArg Nat.succ (dqF_len t)
end
mutual
inductive Own (c : Cn) (ha : Option Addr) (G H : Hp) : V → D → List Addr → Prop
  | frz {v : V} {d : D} : Dq c ha G v d → Own c ha G H v d []
  | hl {a : Addr} {xs : List V} {ds : List D} {fp : List Addr} : H a = some (.lst xs) → G a = none → OwnAll c ha G H xs ds fp → Own c ha G H (.ref a) (.hl ds) (a :: fp)
inductive OwnAll (c : Cn) (ha : Option Addr) (G H : Hp) : List V → List D → List Addr → Prop
  | nil : OwnAll c ha G H [] [] []
  | cons {v : V} {d : D} {f : List Addr} {xs : List V} {ds : List D} {fp : List Addr} : Own c ha G H v d f → OwnAll c ha G H xs ds fp → OwnAll c ha G H (v :: xs) (d :: ds) (f ++ fp)
end
/-- the dict of an error that a suite holds -/
inductive ExH (c : Cn) (ha : Option Addr) (G H : Hp) : Option Addr → Addr → List (Str × D) → List Addr → Prop
  | none {C : Addr} : ExH c ha G H none C [] []
  | some {d C : Addr} {xs : List (Str × V)} {fs : List (Str × D)} : H d = some (.xd xs) → G d = none → DqF c ha G C xs fs → ExH c ha G H (some d) C fs [d]
inductive OwnS (c : Cn) (ha : Option Addr) (G H : Hp) : L2.St → List (Option D) → List Addr → Prop
  | nil : OwnS c ha G H [] [] []
  | non (o : Option V) {σ : L2.St} {δ : List (Option D)} {fp : List Addr} : OwnS c ha G H σ δ fp → OwnS c ha G H (o :: σ) (none :: δ) fp
  | me {a : Addr} {σ : L2.St} {δ : List (Option D)} {fp : List Addr} : ha = some a → OwnS c ha G H σ δ fp → OwnS c ha G H (some (.ref a) :: σ) (some .me :: δ) fp
  | ex {a C : Addr} {dd : Option Addr} {n : Str} {fs : List (Str × D)} {fx : List Addr} {σ : L2.St} {δ : List (Option D)} {fp : List Addr} : c.xa = some (a, .ref C, dd) → c.mg n = some (.ref C) → ExH c ha G H dd C fs fx → OwnS c ha G H σ δ fp → OwnS c ha G H (some (.ref a) :: σ) (some (.ex n fs) :: δ) (fx ++ fp)
  | some {v : V} {d : D} {f : List Addr} {σ : L2.St} {δ : List (Option D)} {fp : List Addr} : Own c ha G H v d f → OwnS c ha G H σ δ fp → OwnS c ha G H (some v :: σ) (some d :: δ) (f ++ fp)
section
variable {c : Cn} {ha : Option Addr} {G G' H H' G1 H1 : Hp}
theorem own_keep (s : Same G G') {v : V} {d : D} {fp : List Addr} (h : Own c ha G H v d fp) : (∀ b ∈ fp, H' b = H b ∧ G' b = none) → Own c ha G' H' v d fp := by
  refine Own.rec (motive_1 := fun v d fp _ => (∀ b ∈ fp, H' b = H b ∧ G' b = none) → Own c ha G' H' v d fp) (motive_2 := fun xs ds fp _ => (∀ b ∈ fp, H' b = H b ∧ G' b = none) → OwnAll c ha G' H' xs ds fp) ?_ ?_ ?_ ?_ h
  · exact fun h _ => .frz (dq_mono s h)
  · exact fun h1 h2 _ ih k => .hl ((k _ List.mem_cons_self).1.trans h1) (k _ List.mem_cons_self).2 (ih fun b hb => k b (List.mem_cons_of_mem _ hb))
  · exact fun _ => .nil
  · exact fun _ _ i1 i2 k => .cons (i1 fun b hb => k b (List.mem_append_left _ hb)) (i2 fun b hb => k b (List.mem_append_right _ hb))
theorem ownAll_keep (s : Same G G') : ∀ {xs : List V} {ds : List D} {fp : List Addr}, OwnAll c ha G H xs ds fp → (∀ b ∈ fp, H' b = H b ∧ G' b = none) → OwnAll c ha G' H' xs ds fp
  | _, _, _, .nil, _ => .nil
  | _, _, _, .cons h t, k => .cons (own_keep s h fun b hb => k b (List.mem_append_left _ hb)) (ownAll_keep s t fun b hb => k b (List.mem_append_right _ hb))
theorem exh_keep (s : Same G G') {dd : Option Addr} {C : Addr} {fs : List (Str × D)} {fx : List Addr} (x : ExH c ha G H dd C fs fx) (k : ∀ b ∈ fx, H' b = H b ∧ G' b = none) : ExH c ha G' H' dd C fs fx := by
  cases x with
  | none => exact .none
  | some h1 h2 h3 => exact .some ((k _ List.mem_cons_self).1.trans h1) (k _ List.mem_cons_self).2 (dqF_mono s h3)
theorem exh_at {dd : Option Addr} {C : Addr} {fs : List (Str × D)} {fx : List Addr} (x : ExH c ha G H dd C fs fx) : ∀ b ∈ fx, G b = none ∧ H b ≠ none := by
  cases x with
  | none => exact fun b hb => nomatch hb
  | some h1 h2 h3 => exact fun b hb => by rw [List.mem_singleton.mp hb]; exact ⟨h2, some_ne h1⟩
theorem ownS_keep (s : Same G G') : ∀ {σ : L2.St} {δ : List (Option D)} {fp : List Addr}, OwnS c ha G H σ δ fp → (∀ b ∈ fp, H' b = H b ∧ G' b = none) → OwnS c ha G' H' σ δ fp
  | _, _, _, .nil, _ => .nil
  | _, _, _, .non o t, k => .non o (ownS_keep s t k)
  | _, _, _, .me e t, k => .me e (ownS_keep s t k)
  | _, _, _, .ex e m x t, k => .ex e m (exh_keep s x fun b hb => k b (List.mem_append_left _ hb)) (ownS_keep s t fun b hb => k b (List.mem_append_right _ hb))
  | _, _, _, .some h t, k => .some (own_keep s h fun b hb => k b (List.mem_append_left _ hb)) (ownS_keep s t fun b hb => k b (List.mem_append_right _ hb))
theorem own_at {v : V} {d : D} {fp : List Addr} (h : Own c ha G H v d fp) : ∀ b ∈ fp, G b = none ∧ H b ≠ none := by
  refine Own.rec (motive_1 := fun v d fp _ => ∀ b ∈ fp, G b = none ∧ H b ≠ none) (motive_2 := fun xs ds fp _ => ∀ b ∈ fp, G b = none ∧ H b ≠ none) ?_ ?_ ?_ ?_ h
  · exact fun _ b hb => nomatch hb
  · intro a xs ds fp h1 h2 _ ih b hb
    rcases List.mem_cons.mp hb with e | hb
    · subst e
      exact ⟨h2, some_ne h1⟩
    · exact ih b hb
  · exact fun b hb => nomatch hb
  · exact fun _ _ i1 i2 b hb => (List.mem_append.mp hb).elim (i1 b) (i2 b)
theorem ownAll_at : ∀ {xs : List V} {ds : List D} {fp : List Addr}, OwnAll c ha G H xs ds fp → ∀ b ∈ fp, G b = none ∧ H b ≠ none
  | _, _, _, .nil, b, hb => nomatch hb
  | _, _, _, .cons h t, b, hb => (List.mem_append.mp hb).elim (own_at h b) (ownAll_at t b)
theorem ownS_at : ∀ {σ : L2.St} {δ : List (Option D)} {fp : List Addr}, OwnS c ha G H σ δ fp → ∀ b ∈ fp, G b = none ∧ H b ≠ none
  | _, _, _, .nil, b, hb => nomatch hb
  | _, _, _, .non o t, b, hb => ownS_at t b hb
  | _, _, _, .me e t, b, hb => ownS_at t b hb
  | _, _, _, .ex e m x t, b, hb => (List.mem_append.mp hb).elim (exh_at x b) (ownS_at t b)
  | _, _, _, .some h t, b, hb => (List.mem_append.mp hb).elim (own_at h b) (ownS_at t b)
theorem ownAll_of : ∀ {xs : List V} {ds : List D}, DqAll c ha G xs ds → OwnAll c ha G H xs ds []
  | _, _, .nil => .nil
  | _, _, .cons h t => .cons (f := []) (fp := []) (.frz h) (ownAll_of t)
theorem ownAll_len : ∀ {xs : List V} {ds : List D} {fp : List Addr}, OwnAll c ha G H xs ds fp → xs.length = ds.length
  | _, _, _, .nil => rfl
  | _, _, _, .cons _ t => congrArg Nat.succ (ownAll_len t)
/-- not a held list -/
def D.fr : D → Bool
  | .hl _ => false
  | .me => false
  | .ex _ _ => false
  | _ => true
/-- a thing that a slot may hold by itself -/
def D.nm : D → Bool
  | .me => false
  | .ex _ _ => false
  | _ => true
theorem fr_nm {d : D} (h : d.fr = true) : d.nm = true := by cases d <;> first | rfl | cases h
theorem own_fr {v : V} {d : D} {fp : List Addr} (h : Own c ha G H v d fp) (f : d.fr = true) : Dq c ha G v d ∧ fp = [] := by
  cases h with
  | frz h => exact ⟨h, rfl⟩
  | hl _ _ _ => cases f
theorem dq_fr {v : V} {d : D} (h : Dq c ha G v d) : d.fr = true := by cases h <;> rfl
/-- a slot, and the others -/
theorem ownS_slot : ∀ {i : Nat} {σ : L2.St} {δ : List (Option D)} {fp : List Addr} {d : D}, OwnS c ha G H σ δ fp → δ[i]? = some (some d) → d.nm = true →
    ∃ v f1 f f2, σ[i]? = some (some v) ∧ fp = f1 ++ (f ++ f2) ∧ Own c ha G H v d f ∧ ∀ {G' H' : Hp} {f' : List Addr} {v' : V} {d' : D}, Same G G' → (∀ b ∈ f1 ++ f2, H' b = H b ∧ G' b = none) → Own c ha G' H' v' d' f' → OwnS c ha G' H' (σ.set i (some v')) (δ.set i (some d')) (f1 ++ (f' ++ f2))
  | i, _, _, _, _, .nil, e, _ => by simp at e
  | 0, _, _, _, _, .non o t, e, _ => by simp at e
  | 0, _, _, _, _, .me _ t, e, n => by
    have z : _ = _ := Option.some.inj (Option.some.inj e)
    subst z
    cases n
  | 0, _, _, _, _, .ex _ _ _ t, e, n => by
    have z : _ = _ := Option.some.inj (Option.some.inj e)
    subst z
    cases n
  | 0, _, _, _, _, .some h t, e, _ => by
    have z : _ = _ := Option.some.inj (Option.some.inj e)
    subst z
    refine ⟨_, [], _, _, rfl, rfl, h, fun s k h' => ?_⟩
    rw [List.nil_append]
    exact OwnS.some h' (ownS_keep s t k)
  | i + 1, _, _, _, _, .non o t, e, n => by
    obtain ⟨v, f1, f, f2, h1, h2, h3, h4⟩ := ownS_slot (i := i) t e n
    exact ⟨v, f1, f, f2, h1, h2, h3, fun s k h' => .non o (h4 s k h')⟩
  | i + 1, _, _, _, _, .me o t, e, n => by
    obtain ⟨v, f1, f, f2, h1, h2, h3, h4⟩ := ownS_slot (i := i) t e n
    exact ⟨v, f1, f, f2, h1, h2, h3, fun s k h' => .me o (h4 s k h')⟩
  | i + 1, _, _, _, _, .ex (fx := g) o m x t, e, n => by
    obtain ⟨v, f1, f, f2, h1, rfl, h3, h4⟩ := ownS_slot (i := i) t e n
    refine ⟨v, g ++ f1, f, f2, h1, by rw [List.append_assoc], h3, fun s k h' => ?_⟩
    rw [List.append_assoc]
    exact .ex o m (exh_keep s x fun b hb => k b (List.mem_append_left _ (List.mem_append_left _ hb))) (h4 s (fun b hb => k b (by rw [List.append_assoc]; exact List.mem_append_right _ hb)) h')
  | i + 1, _, _, _, _, .some (f := g) h t, e, n => by
    obtain ⟨v, f1, f, f2, h1, rfl, h3, h4⟩ := ownS_slot (i := i) t e n
    refine ⟨v, g ++ f1, f, f2, h1, by rw [List.append_assoc], h3, fun s k h' => ?_⟩
    rw [List.append_assoc]
    exact .some (own_keep s h fun b hb => k b (List.mem_append_left _ (List.mem_append_left _ hb))) (h4 s (fun b hb => k b (by rw [List.append_assoc]; exact List.mem_append_right _ hb)) h')
theorem ownS_me : ∀ {i : Nat} {σ : L2.St} {δ : List (Option D)} {fp : List Addr}, OwnS c ha G H σ δ fp → δ[i]? = some (some .me) → ∃ a, σ[i]? = some (some (.ref a)) ∧ ha = some a
  | i, _, _, _, .nil, e => by simp at e
  | 0, _, _, _, .non o t, e => by simp at e
  | 0, _, _, _, .me (a := a) h t, e => ⟨a, rfl, h⟩
  | 0, _, _, _, .ex _ _ _ t, e => by
    have z : _ = _ := Option.some.inj (Option.some.inj e)
    cases z
  | 0, _, _, _, .some h t, e => by
    have z : _ = _ := Option.some.inj (Option.some.inj e)
    subst z
    cases h with
    | frz h => cases h
  | i + 1, _, _, _, .non o t, e => ownS_me (i := i) t e
  | i + 1, _, _, _, .me o t, e => ownS_me (i := i) t e
  | i + 1, _, _, _, .ex _ _ _ t, e => ownS_me (i := i) t e
  | i + 1, _, _, _, .some o t, e => ownS_me (i := i) t e
/-- a slot is stored -/
theorem ownS_set {v : V} {d : D} {f : List Addr} (r : Own c ha G H v d f) : ∀ {i : Nat} {σ : L2.St} {δ : List (Option D)} {fp : List Addr}, OwnS c ha G H σ δ fp → ∃ fp' : List Addr, OwnS c ha G H (σ.set i (some v)) (δ.set i (some d)) fp' ∧ ∀ (l : List Addr), (f ++ (l ++ fp)).Nodup → (l ++ fp').Nodup ∧ ∀ b ∈ fp', b ∈ f ∨ b ∈ fp
  | i, _, _, _, .nil => ⟨[], .nil, fun l n => ⟨(List.nodup_append.mp n).2.1, fun b hb => nomatch hb⟩⟩
  | 0, _, _, _, .non (fp := fp) o t => ⟨f ++ fp, .some r t, fun l n => by
    refine ⟨?_, fun b hb => List.mem_append.mp hb⟩
    have p : (f ++ (l ++ fp)).Perm (l ++ (f ++ fp)) := by
      rw [← List.append_assoc, ← List.append_assoc]
      exact (List.perm_append_comm).append_right _
    exact p.nodup_iff.mp n⟩
  | 0, _, _, _, .me (fp := fp) o t => ⟨f ++ fp, .some r t, fun l n => by
    refine ⟨?_, fun b hb => List.mem_append.mp hb⟩
    have p : (f ++ (l ++ fp)).Perm (l ++ (f ++ fp)) := by
      rw [← List.append_assoc, ← List.append_assoc]
      exact (List.perm_append_comm).append_right _
    exact p.nodup_iff.mp n⟩
  | 0, _, _, _, .ex (fx := g) (fp := fp) _ _ _ t => ⟨f ++ fp, .some r t, fun l n => by
    refine ⟨?_, fun b hb => (List.mem_append.mp hb).imp id fun z => List.mem_append_right _ z⟩
    have p : (f ++ (l ++ (g ++ fp))).Perm (g ++ (l ++ (f ++ fp))) := by
      refine (List.Perm.trans ?_ (List.perm_append_comm (l₁ := l ++ (f ++ fp)) (l₂ := g)))
      refine (List.perm_append_comm).trans ?_
      rw [List.append_assoc, List.append_assoc, List.append_assoc, List.append_assoc]
      refine List.Perm.append_left l ?_
      refine (List.perm_append_comm).trans ?_
      rw [List.append_assoc]
      rw [← List.append_assoc, ← List.append_assoc f]
      exact List.Perm.append_right _ List.perm_append_comm
    exact (List.nodup_append.mp (p.nodup_iff.mp n)).2.1⟩
  | 0, _, _, _, .some (f := g) (fp := fp) h t => ⟨f ++ fp, .some r t, fun l n => by
    refine ⟨?_, fun b hb => (List.mem_append.mp hb).imp id fun z => List.mem_append_right _ z⟩
    have p : (f ++ (l ++ (g ++ fp))).Perm (g ++ (l ++ (f ++ fp))) := by
      refine (List.Perm.trans ?_ (List.perm_append_comm (l₁ := l ++ (f ++ fp)) (l₂ := g)))
      refine (List.perm_append_comm).trans ?_
      rw [List.append_assoc, List.append_assoc, List.append_assoc, List.append_assoc]
      refine List.Perm.append_left l ?_
      refine (List.perm_append_comm).trans ?_
      rw [List.append_assoc]
      rw [← List.append_assoc, ← List.append_assoc f]
      exact List.Perm.append_right _ List.perm_append_comm
    exact (List.nodup_append.mp (p.nodup_iff.mp n)).2.1⟩
  | i + 1, _, _, _, .non o t => by
    obtain ⟨fp', h1, h2⟩ := ownS_set r (i := i) t
    exact ⟨fp', .non o h1, h2⟩
  | i + 1, _, _, _, .me o t => by
    obtain ⟨fp', h1, h2⟩ := ownS_set r (i := i) t
    exact ⟨fp', .me o h1, h2⟩
  | i + 1, _, _, _, .ex (fx := g) (fp := fp) o m x t => by
    obtain ⟨fp', h1, h2⟩ := ownS_set r (i := i) t
    refine ⟨g ++ fp', .ex o m x h1, fun l n => ?_⟩
    have n2 : (f ++ ((l ++ g) ++ fp)).Nodup := by rw [List.append_assoc l]; exact n
    obtain ⟨q1, q2⟩ := h2 (l ++ g) n2
    refine ⟨by rw [← List.append_assoc]; exact q1, fun b hb => ?_⟩
    rcases List.mem_append.mp hb with hb | hb
    · exact .inr (List.mem_append_left _ hb)
    · exact (q2 b hb).imp id fun z => List.mem_append_right _ z
  | i + 1, _, _, _, .some (f := g) (fp := fp) h t => by
    obtain ⟨fp', h1, h2⟩ := ownS_set r (i := i) t
    refine ⟨g ++ fp', .some h h1, fun l n => ?_⟩
    have n2 : (f ++ ((l ++ g) ++ fp)).Nodup := by rw [List.append_assoc l]; exact n
    obtain ⟨q1, q2⟩ := h2 (l ++ g) n2
    refine ⟨by rw [← List.append_assoc]; exact q1, fun b hb => ?_⟩
    rcases List.mem_append.mp hb with hb | hb
    · exact .inr (List.mem_append_left _ hb)
    · exact (q2 b hb).imp id fun z => List.mem_append_right _ z
/-- a slot is forgotten -/
theorem ownS_wipe : ∀ {i : Nat} {σ : L2.St} {δ : List (Option D)} {fp : List Addr} (o : Option V), OwnS c ha G H σ δ fp → ∃ fp', OwnS c ha G H (σ.set i o) (δ.set i none) fp' ∧ fp'.Sublist fp
  | i, _, _, _, o, .nil => ⟨[], .nil, List.Sublist.refl _⟩
  | 0, _, _, _, o, .non _ t => ⟨_, .non o t, List.Sublist.refl _⟩
  | 0, _, _, _, o, .me _ t => ⟨_, .non o t, List.Sublist.refl _⟩
  | 0, _, _, _, o, .ex _ _ _ t => ⟨_, .non o t, List.sublist_append_right ..⟩
  | 0, _, _, _, o, .some h t => ⟨_, .non o t, List.sublist_append_right ..⟩
  | i + 1, _, _, _, o, .non o' t => by
    obtain ⟨fp', h1, h2⟩ := ownS_wipe (i := i) o t
    exact ⟨fp', .non o' h1, h2⟩
  | i + 1, _, _, _, o, .me e t => by
    obtain ⟨fp', h1, h2⟩ := ownS_wipe (i := i) o t
    exact ⟨fp', .me e h1, h2⟩
  | i + 1, _, _, _, o, .ex e m x t => by
    obtain ⟨fp', h1, h2⟩ := ownS_wipe (i := i) o t
    exact ⟨_, .ex e m x h1, List.Sublist.append (List.Sublist.refl _) h2⟩
  | i + 1, _, _, _, o, .some h t => by
    obtain ⟨fp', h1, h2⟩ := ownS_wipe (i := i) o t
    exact ⟨_, .some h h1, List.Sublist.append (List.Sublist.refl _) h2⟩
/-- an item of a held list -/
theorem ownAll_item : ∀ {i : Nat} {xs : List V} {ds : List D} {fp : List Addr} {d : D}, OwnAll c ha G H xs ds fp → ds[i]? = some d →
    ∃ v f1 f f2, xs[i]? = some v ∧ fp = f1 ++ (f ++ f2) ∧ Own c ha G H v d f ∧ ∀ {G' H' : Hp} {f' : List Addr} {v' : V} {d' : D}, Same G G' → (∀ b ∈ f1 ++ f2, H' b = H b ∧ G' b = none) → Own c ha G' H' v' d' f' → OwnAll c ha G' H' (xs.set i v') (ds.set i d') (f1 ++ (f' ++ f2))
  | i, _, _, _, _, .nil, e => by simp at e
  | 0, _, _, _, _, .cons h t, e => by
    have z := Option.some.inj e
    subst z
    refine ⟨_, [], _, _, rfl, rfl, h, fun s k h' => ?_⟩
    rw [List.nil_append]
    exact OwnAll.cons h' (ownAll_keep s t k)
  | i + 1, _, _, _, _, .cons (f := g) h t, e => by
    obtain ⟨v, f1, f, f2, h1, rfl, h3, h4⟩ := ownAll_item (i := i) t e
    refine ⟨v, g ++ f1, f, f2, h1, by rw [List.append_assoc], h3, fun s k h' => ?_⟩
    rw [List.append_assoc]
    exact .cons (own_keep s h fun b hb => k b (List.mem_append_left _ (List.mem_append_left _ hb))) (h4 s (fun b hb => k b (by rw [List.append_assoc]; exact List.mem_append_right _ hb)) h')
theorem ownAll_app : ∀ {xs ys : List V} {ds es : List D} {f g : List Addr}, OwnAll c ha G H xs ds f → OwnAll c ha G H ys es g → OwnAll c ha G H (xs ++ ys) (ds ++ es) (f ++ g)
  | _, _, _, _, _, _, .nil, k => k
  | _, _, _, _, _, _, .cons (f := f) h t, k => by
    rw [List.append_assoc]
    exact .cons h (ownAll_app t k)
end
inductive Hok (c : Cn) (ha : Option Addr) (G H : Hp) : D → Prop
  | non : ha = none → Hok c ha G H .non
  | hand {a : Addr} {xs : List V} {ds : List D} : ha = some a → G a = none → H a = some (.lst xs) → DqAll c ha G xs ds → Hok c ha G H (.hl ds)
  | self {a C dx : Addr} {n : Str} {xs : List (Str × V)} {fs : List (Str × D)} : ha = some a → G a = none → c.mg n = some (.ref C) → COk c.K C → H a = some (.ins C dx xs) → DqF c ha G C xs fs → Hok c ha G H (.ins n fs)
theorem hok_at {c : Cn} {a : Addr} {G H : Hp} {h : D} (x : Hok c (some a) G H h) : G a = none ∧ H a ≠ none := by
  cases x with
  | non e => cases e
  | hand e g h _ => cases e; exact ⟨g, some_ne h⟩
  | self e g _ _ h _ => cases e; exact ⟨g, some_ne h⟩
theorem hok_keep {c : Cn} {ha : Option Addr} {G G' H H' : Hp} {h : D} (x : Hok c ha G H h) (s : Same G G') (k : ∀ a, ha = some a → G' a = none ∧ H' a = H a) : Hok c ha G' H' h := by
  cases x with
  | non e => exact .non e
  | hand e g h d => exact .hand e (k _ e).1 ((k _ e).2.trans h) (dqAll_mono s d)
  | self e g m cl h d => exact .self e (k _ e).1 m cl ((k _ e).2.trans h) (dqF_mono s d)
/-- the state of a body: G0, B the view and the heap at its entry -/
structure Sta (c : Cn) (ha : Option Addr) (G0 B G H : Hp) (σ : L2.St) (δ : List (Option D)) (h : D) : Prop where
  sl : ∃ fp, OwnS c ha G H σ δ fp ∧ fp.Nodup ∧ ∀ a ∈ fp, B a = none ∧ ha ≠ some a
  mv : Mv G0 B G H
  bt : ∀ b o, ha ≠ some b → B b = some o → H b = some o
  hd : Hok c ha G H h
  hb : ∀ a, ha = some a → B a ≠ none
/-- what an expression does to a heap -/
structure Af (c : Cn) (ha : Option Addr) (G H G' H' : Hp) (h' : D) : Prop where
  mv : Mv G H G' H'
  bt : ∀ b o, ha ≠ some b → H b = some o → H' b = some o
  hd : Hok c ha G' H' h'
section
variable {c : Cn} {ha : Option Addr} {G0 B G H G1 H1 G2 H2 G' H' : Hp} {σ : L2.St} {δ : List (Option D)} {h h1 h2 h' : D}
theorem Sta.gh (s : Sta c ha G0 B G H σ δ h) : Same G H := s.mv.gh
theorem Af.refl (s : Same G H) (k : Hok c ha G H h) : Af c ha G H G H h := ⟨Mv.refl s, fun _ _ _ e => e, k⟩
theorem Sta.here (s : Sta c ha G0 B G H σ δ h) : Af c ha G H G H h := .refl s.gh s.hd
theorem Af.trans (x : Af c ha G H G1 H1 h1) (y : Af c ha G1 H1 G2 H2 h2) : Af c ha G H G2 H2 h2 := ⟨x.mv.trans y.mv, fun b o n e => y.bt b o n (x.bt b o n e), y.hd⟩
theorem Af.gg (x : Af c ha G H G1 H1 h1) : Same G G1 := x.mv.gg
theorem Af.gh (x : Af c ha G H G1 H1 h1) : Same G1 H1 := x.mv.gh
theorem Sta.to (s : Sta c ha G0 B G H σ δ h) (x : Af c ha G H G' H' h') : Sta c ha G0 B G' H' σ δ h' := by
  obtain ⟨fp, o, n, k⟩ := s.sl
  refine ⟨⟨fp, ownS_keep x.gg o fun b hb => ?_, n, k⟩, s.mv.trans x.mv, fun b o n e => x.bt b o n (s.bt b o n e), x.hd, s.hb⟩
  obtain ⟨g, hne⟩ := ownS_at o b hb
  obtain ⟨u, e⟩ := ne_some hne
  exact ⟨by rw [e]; exact x.bt b u (k b hb).2 e, (x.mv.nw b hne).trans g⟩
/-- an expression that changes nothing of what stands -/
theorem Af.of (s : Same G H) (k : Hok c ha G H h) (m : Mv G H G' H') (t : Same H H') : Af c ha G H G' H' h := by
  refine ⟨m, fun b o _ e => t b o e, hok_keep k m.gg fun a e => ?_⟩
  subst e
  obtain ⟨g, hne⟩ := hok_at k
  obtain ⟨u, e⟩ := ne_some hne
  exact ⟨(m.nw a hne).trans g, by rw [e]; exact t a u e⟩
end
end Fw
namespace Fw
open PySem PySem.Spec PyProof.Rows L2 Vz
/-- what comes of an expression: a thing and the handed thing behind it; an exception; or nothing that is known -/
inductive Ex (α : Type) where
  | ok (a : α) (h : D)
  | exc (n : Str) (fs : List (Str × D)) (h : D)
  | bad
def Ex.bind {α β : Type} (r : Ex α) (k : α → D → Ex β) : Ex β := match r with
  | .ok a h => k a h
  | .exc n fs h => .exc n fs h
  | .bad => .bad
def Ex.of {α : Type} (o : Option α) (h : D) : Ex α := match o with
  | some a => .ok a h
  | none => .bad
abbrev DE := List (Option D)
abbrev EF (α : Type) := DE → D → Ex α
/-- an exception's fields -/
def XR (c : Cn) (ha : Option Addr) (G H0 H : Hp) (C : Addr) (dd : Option Addr) (fs : List (Str × D)) : Prop := (fs = [] ∧ dd = none) ∨ ∃ d xs, dd = some d ∧ H d = some (.xd xs) ∧ G d = none ∧ H0 d = none ∧ DqF c ha G C xs fs
def Post {α : Type} (c : Cn) (ha : Option Addr) (W : WX) (σ : L2.St) (G H : Hp) (r : Ex α) (k : α → D → Hp → Hp → Prop) : Prop := match r with
  | .ok a h' => ∀ G' H', Af c ha G H G' H' h' → k a h' G' H'
  | .exc n fs h' => ∀ C dd G' H', Af c ha G H G' H' h' → c.mg n = some (.ref C) → XR c ha G' H H' C dd fs → W (.ref C) dd σ H'
  | .bad => False
section
variable {α β : Type} {c : Cn} {ha : Option Addr} {W : WX} {σ : L2.St} {G H G1 H1 G' H' : Hp} {h h' h1 : D}
theorem post_imp {r : Ex α} {k k' : α → D → Hp → Hp → Prop} (p : Post c ha W σ G H r k) (i : ∀ a h' G' H', Af c ha G H G' H' h' → k a h' G' H' → k' a h' G' H') : Post c ha W σ G H r k' := by
  cases r with
  | ok a h' => exact fun G' H' af => i a h' G' H' af (p G' H' af)
  | exc n fs h' => exact p
  | bad => exact p
theorem XR.from {H0 H1 : Hp} {C : Addr} {dd : Option Addr} {fs : List (Str × D)} (k : ∀ d, H1 d = none → H0 d = none) (x : XR c ha G H1 H C dd fs) : XR c ha G H0 H C dd fs := by
  rcases x with x | ⟨d, xs, h1, h2, h3, h4, h5⟩
  · exact .inl x
  · exact .inr ⟨d, xs, h1, h2, h3, k d h4, h5⟩
theorem af_old {ha : Option Addr} {G H G1 H1 : Hp} {h1 : D} (af : Af c ha G H G1 H1 h1) {a : Addr} (e : H1 a = none) : H a = none := by
  cases z : H a with
  | none => rfl
  | some o => exact absurd e (af.mv.dm a (some_ne z))
theorem post_from {r : Ex α} {k : α → D → Hp → Hp → Prop} (af : Af c ha G H G1 H1 h1) (p : Post c ha W σ G H r k) : Post c ha W σ G1 H1 r k := by
  cases r with
  | ok a h' => exact fun G' H' af' => p G' H' (af.trans af')
  | exc n fs h' => exact fun C dd G' H' af' m x => p C dd G' H' (af.trans af') m (x.from fun _ e => af_old af e)
  | bad => exact p
theorem post_bind {r : Ex α} {f : α → D → Ex β} {k : β → D → Hp → Hp → Prop} (p : Post c ha W σ G H (r.bind f) k) : Post c ha W σ G H r fun a h1 G1 H1 => Post c ha W σ G1 H1 (f a h1) k := by
  cases r with
  | ok a h' => exact fun G1 H1 af => post_from af p
  | exc n fs h' => exact p
  | bad => exact p
theorem post_of {o : Option α} {k : α → D → Hp → Hp → Prop} (p : Post c ha W σ G H (Ex.of o h) k) : ∃ a, o = some a ∧ ∀ G' H', Af c ha G H G' H' h → k a h G' H' := by
  cases o with
  | some a => exact ⟨a, rfl, p⟩
  | none => exact p.elim
theorem post_ok {a : α} {k : α → D → Hp → Hp → Prop} (p : Post c ha W σ G H (.ok a h) k) (s : Same G H) (o : Hok c ha G H h) : k a h G H := p G H (.refl s o)
end
def rd (c : Cn) (W : WX) (f : EF D) : TE := fun σ H Q => ∃ ha G0 B G δ h, Sta c ha G0 B G H σ δ h ∧ Post c ha W σ G H (f δ h) fun d _ G' H' => ∀ v, Dq c ha G' v d → Q v H'
def rt (c : Cn) (W : WX) (f : EF Bool) : TT := fun σ H Q => ∃ ha G0 B G δ h, Sta c ha G0 B G H σ δ h ∧ Post c ha W σ G H (f δ h) fun b _ _ H' => Q b H'
def ra (c : Cn) (W : WX) (f : EF (List D)) : TA := fun σ H Q => ∃ ha G0 B G δ h, Sta c ha G0 B G H σ δ h ∧ Post c ha W σ G H (f δ h) fun ds _ G' H' => ∀ vs, DqAll c ha G' vs ds → Q vs H'
/-- a thing at rest, or a new list of things at rest -/
def Nw (c : Cn) (ha : Option Addr) (H G' H' : Hp) (v : V) (d : D) : Prop := Dq c ha G' v d ∨ ∃ a xs ds, v = .ref a ∧ d = .hl ds ∧ H' a = some (.lst xs) ∧ G' a = none ∧ H a = none ∧ DqAll c ha G' xs ds
def rn (c : Cn) (W : WX) (f : EF D) : TE := fun σ H Q => ∃ ha G0 B G δ h, Sta c ha G0 B G H σ δ h ∧ Post c ha W σ G H (f δ h) fun d _ G' H' => ∀ v, Nw c ha H G' H' v d → Q v H'
section
variable {X : Cx} {W : WX} {c : Cn} {e a b : Expr} {es : List Expr} {pos : Pos} {ta tb te : TE} {t : TT} {f fa fb : EF D} {g ga gb : EF Bool}
theorem pe_to (p : PE X e te) (i : ∀ σ H Q, rd c W f σ H Q → te σ H Q) : PE X e (rd c W f) := ⟨fun pins s σ H Q I h => p.run pins s σ H Q I (i σ H Q h)⟩
theorem pn_to (p : PE X e te) (i : ∀ σ H Q, rn c W f σ H Q → te σ H Q) : PE X e (rn c W f) := ⟨fun pins s σ H Q I h => p.run pins s σ H Q I (i σ H Q h)⟩
theorem pt_to (p : PT X e t) (i : ∀ σ H Q, rt c W g σ H Q → t σ H Q) : PT X e (rt c W g) := ⟨fun pins s σ H Q I h => p.run pins s σ H Q I (i σ H Q h)⟩
theorem pa_to {t : TA} {f : EF (List D)} (p : PA X es t) (i : ∀ σ H Q, ra c W f σ H Q → t σ H Q) : PA X es (ra c W f) := ⟨fun ps pins s σ H Q I h => p.run ps pins s σ H Q I (i σ H Q h)⟩
def eV (i : Nat) : EF D := fun δ h => match δ[i]? with
  | some (some d) => if d.fr then .ok d h else .bad
  | _ => .bad
theorem rd_var {i : Nat} (σ : L2.St) (H : Hp) (Q : VK) (x : rd c W (eV i) σ H Q) : tVar i σ H Q := by
  obtain ⟨ha, G0, B, G, δ, h, st, p⟩ := x
  unfold eV at p
  split at p
  · rename_i d e
    split at p
    · rename_i hf
      obtain ⟨fp, o, n, k⟩ := st.sl
      obtain ⟨v, f1, f, f2, h1, _, h3, _⟩ := ownS_slot o e (fr_nm hf)
      exact ⟨v, h1, post_ok p st.gh st.hd v (own_fr h3 hf).1⟩
    · exact p.elim
  · exact p.elim
theorem dx_v {i : Nat} {x : Str} (hN : X.N[i]? = some x) (hv : Vis X.env.scope x) (hd : (x == ("__debug__" : Str)) = false := by decide) (hcd : (x == ("__classdict__" : Str)) = false := by decide) : PE X (.Name x pos) (rd c W (eV i)) := pe_to (pe_var hN hv hd hcd) rd_var
def eC (d : D) : EF D := fun _ h => .ok d h
theorem dx_c {v : V} {d : D} (p : PE X e (tC v)) (k : ∀ ha G, Dq c ha G v d) : PE X e (rd c W (eC d)) := pe_to p fun σ H Q ⟨ha, G0, B, G, δ, h, st, q⟩ => post_ok q st.gh st.hd v (k ha G)
theorem dx_i {i j} : PE X (.Constant (.int i) j pos) (rd c W (eC (.int i))) := dx_c pe_int fun _ _ => .int i
theorem dx_b {b : Bool} {j} : PE X (.Constant (.bool b) j pos) (rd c W (eC (.bl b))) := dx_c pe_bl fun _ _ => .bl b
theorem dx_n {j} : PE X (.Constant .none j pos) (rd c W (eC .non)) := dx_c pe_non fun _ _ => .non
theorem dx_s {x : Str} {j} : PE X (.Constant (.str x) j pos) (rd c W (eC (.str x))) := dx_c pe_str fun _ _ => .str x
def eOp (f : D → D → Option D) (fa fb : EF D) : EF D := fun δ h => (fa δ h).bind fun x h1 => (fb δ h1).bind fun y h2 => Ex.of (f x y) h2
/-- what an operation's rule asks is there where it gives something -/
def OpD (c : Cn) (r : R2) (f : D → D → Option D) : Prop := ∀ {ha : Option Addr} {G H : Hp} {x y d : D} {v w : V} {Q : VK}, Same G H → Dq c ha G v x → Dq c ha G w y → f x y = some d → (∀ u G' H', Mv G H G' H' → Same H H' → Dq c ha G' u d → Q u H') → r v w H Q
theorem rd_op {r : R2} {f : D → D → Option D} (hr : OpD c r f) (σ : L2.St) (H : Hp) (Q : VK) (x : rd c W (eOp f fa fb) σ H Q) : tOp r (rd c W fa) (rd c W fb) σ H Q := by
  obtain ⟨ha, G0, B, G, δ, h, st, p⟩ := x
  refine ⟨ha, G0, B, G, δ, h, st, post_imp (post_bind p) fun x h1 G1 H1 af1 p1 v dv => ?_⟩
  refine ⟨ha, G0, B, G1, δ, h1, st.to af1, post_imp (post_bind p1) fun y h2 G2 H2 af2 p2 w dw => ?_⟩
  obtain ⟨d, e, q⟩ := post_of p2
  exact hr af2.gh (dq_mono af2.gg dv) dw e fun u G' H' m s du => q G' H' (.of af2.gh af2.hd m s) u du
theorem dx_op {op : Operator} {r : R2} {f : D → D → Option D} (ho : OpR X (binaryOp op) r) (hr : OpD c r f) (ha : PE X a (rd c W fa)) (hb : PE X b (rd c W fb)) : PE X (.BinOp a op b pos) (rd c W (eOp f fa fb)) := pe_to (pe_op ho ha hb) (rd_op hr)
theorem dx_cmp {op : CmpOp} {r : R2} {f : D → D → Option D} (ho : OpR X (compareOp op) r) (hr : OpD c r f) (ha : PE X a (rd c W fa)) (hb : PE X b (rd c W fb)) (hm : behindInMarks op b = false := by rfl) : PE X (.Compare a [op] [b] pos) (rd c W (eOp f fa fb)) := pe_to (pe_cmpR ho ha hb hm) (rd_op hr)
def eUn (f : D → Option D) (fa : EF D) : EF D := fun δ h => (fa δ h).bind fun x h1 => Ex.of (f x) h1
/-- ints -/
def oI (g : Int → Int → Option D) : D → D → Option D
  | .int i, .int j => g i j
  | _, _ => none
theorem opd_I0 {g : Int → Int → V} {k : Int → Int → D} (e : ∀ ha G i j, Dq c ha G (g i j) (k i j)) : OpD c (rI0 g) (oI fun i j => some (k i j)) := by
  intro ha G H x y d v w Q s dx dy q fin
  cases dx <;> cases dy <;> first | cases q
  exact ⟨_, _, rfl, rfl, fin _ G H (Mv.refl s) (Same.refl _) (e _ _ _ _)⟩
theorem opd_I {C : Int → Int → Prop} {P : Int → Int → Bool} {g : Int → Int → V} {k : Int → Int → D} (e : ∀ ha G i j, Dq c ha G (g i j) (k i j)) (hC : ∀ i j, P i j = true → C i j) : OpD c (rI C g) (oI fun i j => if P i j then some (k i j) else none) := by
  intro ha G H x y d v w Q s dx dy q fin
  cases dx <;> cases dy <;> first | (cases q; done) | skip
  rename_i i j
  have q2 : (if P i j = true then some (k i j) else none) = some d := q
  by_cases hp : P i j = true
  · rw [if_pos hp] at q2
    cases q2
    exact ⟨_, _, rfl, rfl, hC _ _ hp, fin _ G H (Mv.refl s) (Same.refl _) (e _ _ _ _)⟩
  · rw [if_neg hp] at q2
    cases q2
def cMul (i j : Int) : Bool := decide (i.natAbs.log2 + j.natAbs.log2 < 1000000)
def cDiv (_ j : Int) : Bool := decide (j ≠ 0) && decide (j.natAbs.log2 < 9000)
def cMod (_ j : Int) : Bool := decide (j ≠ 0)
def cPow (i j : Int) : Bool := decide (0 ≤ j) && (decide (j ≤ 1000000) && decide (i.natAbs < 2 ^ 64))
theorem op_fdivG : OpR X (binaryOp .FloorDiv) (rI (fun _ j => j ≠ 0 ∧ j.natAbs.log2 < 9000) fun i j => .int (i.fdiv j)) := opI fun _ _ _ _ _ _ _ hc q => floordiv_int hc.1 q (.inl (PyProof.noPylong_of_log2 hc.2))
def oAdd := oI fun i j => some (.int (i + j))
def oSub := oI fun i j => some (.int (i - j))
def oMul := oI fun i j => if cMul i j then some (.int (i * j)) else none
def oDiv := oI fun i j => if cDiv i j then some (.int (i.fdiv j)) else none
def oMod := oI fun i j => if cMod i j then some (.int (i.fmod j)) else none
def oPow := oI fun i j => if cPow i j then some (.int (i ^ j.toNat)) else none
theorem d_add : OpD c (rI0 fun i j => .int (i + j)) oAdd := opd_I0 fun _ _ _ _ => .int _
theorem d_sub : OpD c (rI0 fun i j => .int (i - j)) oSub := opd_I0 fun _ _ _ _ => .int _
theorem d_mul : OpD c (rI CMulW fun i j => .int (i * j)) oMul := opd_I (fun _ _ _ _ => .int _) fun _ _ h => of_decide_eq_true h
theorem d_div : OpD c (rI (fun _ j => j ≠ 0 ∧ j.natAbs.log2 < 9000) fun i j => .int (i.fdiv j)) oDiv := opd_I (fun _ _ _ _ => .int _) fun _ _ h => by
  unfold cDiv at h
  rw [Bool.and_eq_true, decide_eq_true_eq, decide_eq_true_eq] at h
  exact h
theorem d_mod : OpD c (rI (fun _ j => j ≠ 0) fun i j => .int (i.fmod j)) oMod := opd_I (fun _ _ _ _ => .int _) fun _ _ h => of_decide_eq_true h
theorem d_pow : OpD c (rI CPow fun i j => .int (i ^ j.toNat)) oPow := opd_I (fun _ _ _ _ => .int _) fun _ _ h => by
  unfold cPow at h
  rw [Bool.and_eq_true, Bool.and_eq_true, decide_eq_true_eq, decide_eq_true_eq, decide_eq_true_eq] at h
  exact h
def oLt := oI fun i j => some (.bl (decide (i < j)))
def oLe := oI fun i j => some (.bl (decide (i ≤ j)))
def oGt := oI fun i j => some (.bl (decide (j < i)))
def oGe := oI fun i j => some (.bl (decide (j ≤ i)))
theorem d_lt : OpD c (rI0 fun i j => .bl (decide (i < j))) oLt := opd_I0 fun _ _ _ _ => .bl _
theorem d_le : OpD c (rI0 fun i j => .bl (decide (i ≤ j))) oLe := opd_I0 fun _ _ _ _ => .bl _
theorem d_gt : OpD c (rI0 fun i j => .bl (decide (j < i))) oGt := opd_I0 fun _ _ _ _ => .bl _
theorem d_ge : OpD c (rI0 fun i j => .bl (decide (j ≤ i))) oGe := opd_I0 fun _ _ _ _ => .bl _
mutual
def toPy : D → Option PyData
  | .non => some .none
  | .bl b => some (.bool b)
  | .int i => some (.int i)
  | .str x => some (.str x)
  | .tup ds => (toPyL ds).map .tuple
  | .lst ds => (toPyL ds).map .list
  | _ => none
def toPyL : List D → Option (List PyData)
  | [] => some []
  | d :: ds => match toPy d, toPyL ds with
    | some p, some ps => some (p :: ps)
    | _, _ => none
end
theorem dp_of {ha : Option Addr} {G : Hp} {v : V} {d : D} (h : Dq c ha G v d) : ∀ p, toPy d = some p → Dp c.K G v p := by
  refine Dq.rec (motive_1 := fun v d _ => ∀ p, toPy d = some p → Dp c.K G v p) (motive_2 := fun xs ds _ => ∀ ps, toPyL ds = some ps → DpAll c.K G xs ps) (motive_3 := fun _ _ _ _ => True) ?_ ?_ ?_ ?_ ?_ ?_ ?_ ?_ ?_ ?_ ?_ h
  · intro p e; unfold toPy at e; cases e; exact .non
  · intro b p e; unfold toPy at e; cases e; exact .bl b
  · intro i p e; unfold toPy at e; cases e; exact .int i
  · intro x p e; unfold toPy at e; cases e; exact .str x
  · intro a xs ds hs _ ih p e
    unfold toPy at e
    cases q : toPyL ds with
    | none => rw [q] at e; cases e
    | some ps => rw [q] at e; cases e; exact .tup hs (ih ps q)
  · intro a xs ds hs _ ih p e
    unfold toPy at e
    cases q : toPyL ds with
    | none => rw [q] at e; cases e
    | some ps => rw [q] at e; cases e; exact .lst (SqL.of hs) (ih ps q)
  · intro a C dx n xs fs _ _ _ _ _ p e; unfold toPy at e; cases e
  · intro ps e; unfold toPyL at e; cases e; exact .nil
  · intro v d xs ds _ _ ih1 ih2 ps e
    unfold toPyL at e
    cases q : toPy d with
    | none => rw [q] at e; cases e
    | some p =>
      cases q2 : toPyL ds with
      | none => rw [q, q2] at e; cases e
      | some ps2 => rw [q, q2] at e; cases e; exact .cons (ih1 p q) (ih2 ps2 q2)
  · exact fun {_} => True.intro
  · intros; exact True.intro
/-- equality of data -/
def eqD (x y : D) : Option Bool := match toPy x, toPy y with
  | some p, some q => if SeqAt.shaped p && SeqAt.shaped q then some (PyData.eqv p q) else none
  | _, _ => none
def oEq (x y : D) : Option D := (eqD x y).map .bl
def oNe (x y : D) : Option D := (eqD x y).map fun b => .bl (!b)
theorem eqD_get {x y : D} {b : Bool} (h : eqD x y = some b) : ∃ p q, toPy x = some p ∧ toPy y = some q ∧ SeqAt.shaped p = true ∧ SeqAt.shaped q = true ∧ PyData.eqv p q = b := by
  unfold eqD at h
  split at h
  · rename_i p q e1 e2
    split at h
    · rename_i s
      rw [Bool.and_eq_true] at s
      cases h
      exact ⟨p, q, e1, e2, s.1, s.2, rfl⟩
    · cases h
  · cases h
theorem d_eq : OpD c (rEqD c.K) oEq := by
  intro ha G H x y d v w Q s dx dy q fin
  unfold oEq at q
  cases e : eqD x y with
  | none => rw [e] at q; cases q
  | some b =>
    rw [e] at q
    cases q
    obtain ⟨p1, p2, e1, e2, s1, s2, rfl⟩ := eqD_get e
    exact ⟨p1, p2, dp_of (dq_mono s dx) p1 e1, dp_of (dq_mono s dy) p2 e2, s1, s2, fin _ G H (Mv.refl s) (Same.refl _) (.bl _)⟩
theorem d_ne : OpD c (rNeD c.K) oNe := by
  intro ha G H x y d v w Q s dx dy q fin
  unfold oNe at q
  cases e : eqD x y with
  | none => rw [e] at q; cases q
  | some b =>
    rw [e] at q
    cases q
    obtain ⟨p1, p2, e1, e2, s1, s2, rfl⟩ := eqD_get e
    exact ⟨p1, p2, dp_of (dq_mono s dx) p1 e1, dp_of (dq_mono s dy) p2 e2, s1, s2, fin _ G H (Mv.refl s) (Same.refl _) (.bl _)⟩
end
end Fw
namespace Wr
open PySem PySem.Spec PyProof.Rows L2 Gn
theorem mul_none (l : Addr) (items : Array Value) (n : Nat) (sl : Array (Option Value)) (dd : Option Addr) (u : Tok) (hne : items.isEmpty = false) :
    Meets (Builtin.«tuple.__mul__» ⟨[.ref l, .int 0 u], []⟩) fun _ R s => (s.heap.get? l = some { cls := .type "tuple", dict := dd, data := .seq items n, slots := sl }) ∧
      R (.ok (.ret (Value.ref s.heap.objs.size))) { s with heap := s.heap.push { cls := Value.type "tuple", data := Data.seq #[] }, toks := s.toks } :=
  .of_wp fun prog w A R s h => by
    obtain ⟨hp, g, d, tk, os⟩ := s
    obtain ⟨hl, h⟩ := h
    have f1 := AutoSeq1.idx_int
    have c0 : (decide ((0 : Int) < -(2 ^ 63)) || decide ((0 : Int) ≥ 2 ^ 63)) = false := by decide
    have c1 : (items.isEmpty || (0 : Int) == 1) = false := by rw [hne]; rfl
    have c2 : (decide ((0 : Int) ≤ 0) || items.isEmpty) = true := by rw [hne]; rfl
    wp_walk using wpAny_loadPart' hl
    repeat (first
      | (refine wpAny_ite_false (decide_eq_false (by rw [c0]; exact Bool.false_ne_true)) ?_; wp_walk using wpAny_loadPart' hl)
      | (refine wpAny_ite_false (decide_eq_false (by rw [c1]; exact Bool.false_ne_true)) ?_; wp_walk using wpAny_loadPart' hl)
      | (refine wpAny_ite_true (decide_eq_true c2) ?_; wp_walk using wpAny_loadPart' hl))
    exact ⟨_, rfl, h⟩
/-- a tuple times 0: a new tuple of nothing -/
def rRep0 (K : PySem.W.Frag) : R2 := fun x y H Q => ∃ l xs, x = .ref l ∧ y = .int 0 ∧ SqT K H l xs ∧ xs ≠ [] ∧ ∀ p, H p = none → Q (.ref p) (upd H p (.tup []))
theorem op_rep0 {X : Cx} : OpR X (binaryOp .Mult) (rRep0 X.K) := by
  intro pins s σ H x y v u Q I rx ry h
  obtain ⟨l, xs, rfl, rfl, hT, hne, q⟩ := h
  cases rx
  obtain ⟨t, rfl⟩ := ry
  obtain ⟨its, r, ⟨⟨cls, dd, data, sl⟩, ho, hc, n, hd⟩, hs⟩ := I.tuple hT
  simp only at hc hd
  subst hc hd
  have hi : its.toArray.isEmpty = false := by
    cases its with
    | nil =>
      have e := r.length
      exact absurd (List.eq_nil_of_length_eq_zero e) hne
    | cons a b => rfl
  refine wpAny_binaryOp_repeat_ref (T := "tuple") (U := "int") (by decide) ⟨_, ho, rfl⟩ (fun s' => typeIs_int s' 0 t) noFill_tuple_mul F.fills_int_mul F.slot_int_rmul repeat_tuple F.slot_int_index.lookup ?_
  refine call_meets F.slot_int_rmul (typeIs_int s 0 t) F.entry_int_rmul (F.args_int_rmul_2 _ _) (int_rmul_tuple 0 t l its.toArray n dd sl) ⟨ho, rfl, ⟨_, ho, rfl⟩, ?_⟩
  refine call_meets F.slot_tuple_mul ⟨_, ho, rfl⟩ F.entry_tuple_mul (F.args_tuple_mul_2 _ _) (mul_none l its.toArray n sl dd t hi) ⟨ho, ?_⟩
  refine ⟨.ref s.heap.objs.size, _, I.laid (t' := s.toks) (o := .tup []) (fun b ob q => Heap.get?_push_of_some _ q) (Nat.le_refl _) ?_, rfl, q _ (I.hok.fresh (Nat.le_refl _))⟩
  exact ⟨Nat.zero_le _, [], .nil, IsTup.new _ _⟩
end Wr
namespace Fw
open PySem PySem.Spec PyProof.Rows L2 Dz Vz
section
variable {X : Cx} {W : WX} {c : Cn} {e a b e2 : Expr} {es : List Expr} {pos : Pos} {ta tb te : TE} {t : TT} {f fa fb fc : EF D} {g ga gb : EF Bool} {fs : EF (List D)}
def bD : D → D → Ex Bool
  | .bl b, h => .ok b h
  | _, _ => .bad
def eT (f : EF D) : EF Bool := fun δ h => (f δ h).bind bD
theorem rt_T (σ : L2.St) (H : Hp) (Q : Bool → Hp → Prop) (x : rt c W (eT f) σ H Q) : rd c W f σ H fun v H' => ∃ k, v = .bl k ∧ Q k H' := by
  obtain ⟨ha, G0, B, G, δ, h, st, p⟩ := x
  refine ⟨ha, G0, B, G, δ, h, st, post_imp (post_bind p) fun d h1 G1 H1 af p1 v dv => ?_⟩
  cases dv with
  | bl b => exact ⟨b, rfl, post_ok p1 af.gh af.hd⟩
  | _ => exact p1.elim
theorem dt_cmp {op : CmpOp} {r : R2} {k : D → D → Option D} (ho : OpR X (compareOp op) r) (hr : OpD c r k) (ha : PE X a (rd c W fa)) (hb : PE X b (rd c W fb)) (hm : behindInMarks op b = false := by rfl) : PT X (.Compare a [op] [b] pos) (rt c W (eT (eOp k fa fb))) :=
  pt_to (pt_cmpR ho ha hb hm) fun σ H Q x => rd_op hr σ H _ (rt_T σ H Q x)
/-- truth of a thing -/
def truD : D → Option Bool
  | .non => some false
  | .bl b => some b
  | .int i => some (i != 0)
  | .tup ds => some !ds.isEmpty
  | .lst ds => some !ds.isEmpty
  | _ => none
def eTru (f : EF D) : EF Bool := fun δ h => (f δ h).bind fun d h1 => Ex.of (truD d) h1
theorem isE {ha : Option Addr} {G : Hp} {xs : List V} {ds : List D} (d : DqAll c ha G xs ds) : (!xs.isEmpty) = !ds.isEmpty := by cases d <;> rfl
theorem tru_of {ha : Option Addr} {G H : Hp} {v : V} {d : D} {b : Bool} (s : Same G H) (dv : Dq c ha G v d) (e : truD d = some b) : TruV c.K v H b := by
  cases dv with
  | non => cases e; exact rfl
  | bl b => cases e; exact rfl
  | int i => cases e; exact rfl
  | str x => cases e
  | tup h d => cases e; exact .inr (.inl ⟨_, Evl.ex_t s h, (isE d).symm⟩)
  | lst h d => cases e; exact .inl ⟨_, SqL.of (s _ _ h), (isE d).symm⟩
  | ins _ _ _ _ => cases e
theorem dt_tru (hK : X.K = c.K) (p : PE X e (rd c W f)) (he : ∀ whole, isTrue e X.env whole = (do let v ← whole; standAt e.pos; holding [v] (truthy v)) := by intro _; rfl) : PT X e (rt c W (eTru f)) := pt_to (pt_truth p he) fun σ H Q x => by
  obtain ⟨ha, G0, B, G, δ, h, st, p⟩ := x
  refine ⟨ha, G0, B, G, δ, h, st, post_imp (post_bind p) fun d h1 G1 H1 af p1 v dv => ?_⟩
  obtain ⟨b, eb, q⟩ := post_of p1
  rw [hK]
  exact ⟨b, tru_of af.gh dv eb, q _ _ (.refl af.gh af.hd)⟩
def eAnd (g1 g2 : EF Bool) : EF Bool := fun δ h => (g1 δ h).bind fun b h1 => if b then g2 δ h1 else .ok false h1
def eOr (g1 g2 : EF Bool) : EF Bool := fun δ h => (g1 δ h).bind fun b h1 => if b then .ok true h1 else g2 δ h1
def eNot (g : EF Bool) : EF Bool := fun δ h => (g δ h).bind fun b h1 => .ok (!b) h1
theorem pw_to {t u : TT} (p : PW X e t) (i : ∀ σ H Q, u σ H Q → t σ H Q) : PW X e u := ⟨fun wh pins s σ H Q I h => p.run wh pins s σ H Q I (i σ H Q h)⟩
theorem dw_and1 (p : PT X a (rt c W g)) : PW X (.BoolOp .And [a] pos) (rt c W g) := pw_and1 p
theorem dw_or1 (p : PT X a (rt c W g)) : PW X (.BoolOp .Or [a] pos) (rt c W g) := pw_or1 p
theorem dw_and (ha : PT X a (rt c W ga)) (hb : PW X (.BoolOp .And (b :: es) pos) (rt c W gb)) : PW X (.BoolOp .And (a :: b :: es) pos) (rt c W (eAnd ga gb)) := pw_to (pw_and ha hb) fun σ H Q x => by
  obtain ⟨ha, G0, B, G, δ, h, st, p⟩ := x
  refine ⟨ha, G0, B, G, δ, h, st, post_imp (post_bind p) fun b h1 G1 H1 af p1 => ?_⟩
  cases b with
  | true => exact ⟨ha, G0, B, G1, δ, h1, st.to af, p1⟩
  | false => exact post_ok p1 af.gh af.hd
theorem dw_or (ha : PT X a (rt c W ga)) (hb : PW X (.BoolOp .Or (b :: es) pos) (rt c W gb)) : PW X (.BoolOp .Or (a :: b :: es) pos) (rt c W (eOr ga gb)) := pw_to (pw_or ha hb) fun σ H Q x => by
  obtain ⟨ha, G0, B, G, δ, h, st, p⟩ := x
  refine ⟨ha, G0, B, G, δ, h, st, post_imp (post_bind p) fun b h1 G1 H1 af p1 => ?_⟩
  cases b with
  | false => exact ⟨ha, G0, B, G1, δ, h1, st.to af, p1⟩
  | true => exact post_ok p1 af.gh af.hd
theorem dt_not (ha : PT X a (rt c W ga)) : PT X (.UnaryOp .Not a pos) (rt c W (eNot ga)) := pt_to (pt_not ha) fun σ H Q x => by
  obtain ⟨ha, G0, B, G, δ, h, st, p⟩ := x
  exact ⟨ha, G0, B, G, δ, h, st, post_imp (post_bind p) fun b h1 G1 H1 af p1 => post_ok p1 af.gh af.hd⟩
def eB (g : EF Bool) : EF D := fun δ h => (g δ h).bind fun b h1 => .ok (.bl b) h1
theorem rd_B1 (σ : L2.St) (H : Hp) (Q : VK) (x : rd c W (eB (eT f)) σ H Q) : rd c W f σ H Q := by
  obtain ⟨ha, G0, B, G, δ, h, st, p⟩ := x
  refine ⟨ha, G0, B, G, δ, h, st, post_imp (post_bind (post_bind p)) fun d h1 G1 H1 af p1 v dv => ?_⟩
  cases dv with
  | bl b => exact post_ok (post_ok p1 af.gh af.hd) af.gh af.hd _ (.bl b)
  | _ => exact p1.elim
theorem dx_one {op} (p : PE X a (rd c W f)) : PE X (.BoolOp op [a] pos) (rd c W (eB (eT f))) := pe_to (pe_one p) rd_B1
theorem dx_and (ha : PE X a (rd c W fa)) (hb : PE X (.BoolOp .And (b :: es) pos) (rd c W (eB gb))) : PE X (.BoolOp .And (a :: b :: es) pos) (rd c W (eB (eAnd (eT fa) gb))) := pe_to (pe_and ha hb) fun σ H Q x => by
  obtain ⟨ha, G0, B, G, δ, h, st, p⟩ := x
  refine ⟨ha, G0, B, G, δ, h, st, post_imp (post_bind (post_bind (post_bind p))) fun d h1 G1 H1 af p1 v dv => ?_⟩
  cases dv with
  | bl b =>
    have p2 := post_ok p1 af.gh af.hd
    cases b with
    | true => exact ⟨true, rfl, ha, G0, B, G1, δ, h1, st.to af, by
        show Post c ha W σ G1 H1 ((gb δ h1).bind _) _
        cases e : gb δ h1 with
        | ok b2 h2 =>
          rw [if_pos rfl, e] at p2
          exact fun G2 H2 af2 => p2 G2 H2 af2 G2 H2 (.refl af2.gh af2.hd)
        | exc n fs h2 =>
          rw [if_pos rfl, e] at p2
          exact p2
        | bad =>
          rw [if_pos rfl, e] at p2
          exact p2⟩
    | false => exact ⟨false, rfl, post_ok (post_ok p2 af.gh af.hd) af.gh af.hd _ (.bl false)⟩
  | _ => exact p1.elim
theorem dx_or (ha : PE X a (rd c W fa)) (hb : PE X (.BoolOp .Or (b :: es) pos) (rd c W (eB gb))) : PE X (.BoolOp .Or (a :: b :: es) pos) (rd c W (eB (eOr (eT fa) gb))) := pe_to (pe_or ha hb) fun σ H Q x => by
  obtain ⟨ha, G0, B, G, δ, h, st, p⟩ := x
  refine ⟨ha, G0, B, G, δ, h, st, post_imp (post_bind (post_bind (post_bind p))) fun d h1 G1 H1 af p1 v dv => ?_⟩
  cases dv with
  | bl b =>
    have p2 := post_ok p1 af.gh af.hd
    cases b with
    | false => exact ⟨false, rfl, ha, G0, B, G1, δ, h1, st.to af, by
        show Post c ha W σ G1 H1 ((gb δ h1).bind _) _
        cases e : gb δ h1 with
        | ok b2 h2 =>
          rw [if_neg Bool.false_ne_true, e] at p2
          exact fun G2 H2 af2 => p2 G2 H2 af2 G2 H2 (.refl af2.gh af2.hd)
        | exc n fs h2 =>
          rw [if_neg Bool.false_ne_true, e] at p2
          exact p2
        | bad =>
          rw [if_neg Bool.false_ne_true, e] at p2
          exact p2⟩
    | true => exact ⟨true, rfl, post_ok (post_ok p2 af.gh af.hd) af.gh af.hd _ (.bl true)⟩
  | _ => exact p1.elim
theorem dx_not (ha : PE X a (rd c W fa)) : PE X (.UnaryOp .Not a pos) (rd c W (eB (eNot (eT fa)))) := pe_to (pe_not ha) fun σ H Q x => by
  obtain ⟨ha, G0, B, G, δ, h, st, p⟩ := x
  refine ⟨ha, G0, B, G, δ, h, st, post_imp (post_bind (post_bind (post_bind p))) fun d h1 G1 H1 af p1 v dv => ?_⟩
  cases dv with
  | bl b => exact ⟨b, rfl, post_ok (post_ok (post_ok p1 af.gh af.hd) af.gh af.hd) af.gh af.hd _ (.bl _)⟩
  | _ => exact p1.elim
def eIf (g : EF Bool) (fa fb : EF D) : EF D := fun δ h => (g δ h).bind fun b h1 => if b then fa δ h1 else fb δ h1
theorem dx_if (hg : PT X e (rt c W g)) (ha : PE X a (rd c W fa)) (hb : PE X b (rd c W fb)) : PE X (.IfExp e a b pos) (rd c W (eIf g fa fb)) := pe_to (pe_ifExp hg ha hb) fun σ H Q x => by
  obtain ⟨ha, G0, B, G, δ, h, st, p⟩ := x
  refine ⟨ha, G0, B, G, δ, h, st, post_imp (post_bind p) fun b h1 G1 H1 af p1 => ?_⟩
  cases b with
  | true => exact ⟨ha, G0, B, G1, δ, h1, st.to af, p1⟩
  | false => exact ⟨ha, G0, B, G1, δ, h1, st.to af, p1⟩
/-- a op1 b op2 c -/
def eCh (k1 k2 : D → D → Option D) (fa fb fc : EF D) : EF D := fun δ h => (fa δ h).bind fun x h1 => (fb δ h1).bind fun y h2 => (Ex.of (k1 x y) h2).bind fun z h3 => (bD z h3).bind fun b h4 => if b then (fc δ h4).bind fun w h5 => Ex.of (k2 y w) h5 else .ok (.bl false) h4
def oIsN (x y : D) : Option D := match y with
  | .non => some (.bl (match x with | .non => true | _ => false))
  | _ => none
def oNotN (x y : D) : Option D := match y with
  | .non => some (.bl (match x with | .non => false | _ => true))
  | _ => none
theorem d_isN : OpD c (fun x y H Q => y = .non ∧ Q (.bl (decide (x = .non))) H) oIsN := by
  intro ha G H x y d v w Q s dx dy q fin
  cases dy <;> first | (cases q; done) | skip
  refine ⟨rfl, fin _ G H (Mv.refl s) (Same.refl _) ?_⟩
  cases dx <;> (cases q; exact .bl _)
theorem d_notN : OpD c (fun x y H Q => y = .non ∧ Q (.bl (!decide (x = .non))) H) oNotN := by
  intro ha G H x y d v w Q s dx dy q fin
  cases dy <;> first | (cases q; done) | skip
  refine ⟨rfl, fin _ G H (Mv.refl s) (Same.refl _) ?_⟩
  cases dx <;> (cases q; exact .bl _)
def oIsB (x y : D) : Option D := match x, y with
  | .bl a, .bl b => some (.bl (decide (a = b)))
  | _, _ => none
def eNil : EF (List D) := fun _ h => .ok [] h
def eCons (f : EF D) (g : EF (List D)) : EF (List D) := fun δ h => (f δ h).bind fun d h1 => (g δ h1).bind fun ds h2 => .ok (d :: ds) h2
theorem da_nil : PA X [] (ra c W eNil) := pa_to pa_nil fun σ H Q x => by
  obtain ⟨ha, G0, B, G, δ, h, st, p⟩ := x
  exact post_ok p st.gh st.hd [] .nil
theorem da_cons (he : PE X e (rd c W f)) (hs : PA X es (ra c W fs)) (hst : starEach (e :: es) X.env = (false, eval e X.env) :: starEach es X.env := by rfl) : PA X (e :: es) (ra c W (eCons f fs)) := pa_to (pa_cons he hs hst) fun σ H Q x => by
  obtain ⟨ha, G0, B, G, δ, h, st, p⟩ := x
  refine ⟨ha, G0, B, G, δ, h, st, post_imp (post_bind p) fun d h1 G1 H1 af1 p1 v dv => ?_⟩
  refine ⟨ha, G0, B, G1, δ, h1, st.to af1, post_imp (post_bind p1) fun ds h2 G2 H2 af2 p2 vs dvs => ?_⟩
  exact post_ok p2 af2.gh af2.hd _ (.cons (dq_mono af2.gg dv) dvs)
def szOk (n : Nat) : Bool := decide (n ≤ 1000000)
theorem szOk_le {n : Nat} (h : szOk n = true) : n ≤ sizeLine := by
  have := of_decide_eq_true h
  rw [sizeLine_eq]
  omega
def eTup (fs : EF (List D)) : EF D := fun δ h => (fs δ h).bind fun ds h1 => Ex.of (if szOk ds.length then some (.tup ds) else none) h1
theorem if_get {α : Type} {b : Bool} {x : α} {y : α} (h : (if b = true then some x else none) = some y) : b = true ∧ x = y := by
  by_cases hb : b = true
  · rw [if_pos hb] at h
    exact ⟨hb, Option.some.inj h⟩
  · rw [if_neg hb] at h
    cases h
theorem dx_tup {x1} (hs : PA X es (ra c W fs)) : PE X (.Tuple es x1 pos) (rd c W (eTup fs)) := pe_to (pe_tup hs) fun σ H Q x => by
  obtain ⟨ha, G0, B, G, δ, h, st, p⟩ := x
  refine ⟨ha, G0, B, G, δ, h, st, post_imp (post_bind p) fun ds h1 G1 H1 af1 p1 vs dvs => ?_⟩
  obtain ⟨d, e, q⟩ := post_of p1
  obtain ⟨z, rfl⟩ := if_get e
  refine ⟨by rw [dqAll_len dvs]; exact szOk_le z, fun t ht => ?_⟩
  have m := Mv.new (o := .tup vs) af1.gh ht
  exact q _ _ (.of af1.gh af1.hd m (same_new ht)) _ (.tup (SqT.of upd_same) (dqAll_mono m.gg dvs))
def eLst (fs : EF (List D)) : EF D := fun δ h => (fs δ h).bind fun ds h1 => Ex.of (if szOk ds.length then some (.hl ds) else none) h1
/-- a new list of things at rest -/
theorem nw_lst {ha : Option Addr} {G H : Hp} {l : Addr} {vs : List V} {ds : List D} (s : Same G H) (hl : H l = none) (d : DqAll c ha G vs ds) : Nw c ha H G (upd H l (.lst vs)) (.ref l) (.hl ds) :=
  .inr ⟨l, vs, ds, rfl, rfl, upd_same, old_none s hl, hl, d⟩
theorem nw_from {ha : Option Addr} {G H G1 H1 G2 H2 : Hp} {h1 : D} {v : V} {d : D} (af : Af c ha G H G1 H1 h1) (n : Nw c ha H1 G2 H2 v d) : Nw c ha H G2 H2 v d := by
  rcases n with n | ⟨a, xs, ds, h1, h2, h3, h4, h5, h6⟩
  · exact .inl n
  · exact .inr ⟨a, xs, ds, h1, h2, h3, h4, af_old af h5, h6⟩
theorem dn_lst (hs : PA X es (ra c W fs)) : PE X (.List es pos) (rn c W (eLst fs)) := pn_to (pe_lst hs) fun σ H Q x => by
  obtain ⟨ha, G0, B, G, δ, h, st, p⟩ := x
  refine ⟨ha, G0, B, G, δ, h, st, post_imp (post_bind p) fun ds h1 G1 H1 af1 p1 vs dvs => ?_⟩
  obtain ⟨d, e, q⟩ := post_of p1
  obtain ⟨z, rfl⟩ := if_get e
  refine ⟨by rw [dqAll_len dvs]; exact szOk_le z, fun t ht => ?_⟩
  exact q _ _ (.of af1.gh af1.hd (Mv.hid af1.gh ht) (same_new ht)) _ (nw_from af1 (nw_lst af1.gh ht dvs))
def sfz : D → D
  | .hl ds => .lst ds
  | d => d
theorem sfz_id {d : D} (h : d.fr = true) : sfz d = d := by
  cases d <;> first | rfl | cases h
def eFz (f : EF D) : EF D := fun δ h => (f δ h).bind fun d h1 => .ok (sfz d) h1
theorem Sta.hne {ha : Option Addr} {G0 B G H : Hp} {σ : L2.St} {δ : DE} {h : D} (st : Sta c ha G0 B G H σ δ h) : ∀ a, ha = some a → H a ≠ none := fun a e => by
  subst e
  exact (hok_at st.hd).2
theorem af_fz {ha : Option Addr} {G H G1 H1 : Hp} {h1 : D} {v : V} {d : D} (hk : ∀ a, ha = some a → H a ≠ none) (af : Af c ha G H G1 H1 h1) (n : Nw c ha H G1 H1 v d) : ∃ G2, Af c ha G H G2 H1 h1 ∧ Dq c ha G2 v (sfz d) := by
  rcases n with n | ⟨a, xs, ds, rfl, rfl, h3, h4, h5, h6⟩
  · rw [sfz_id (dq_fr n)]
    exact ⟨G1, af, n⟩
  · have s1 : Same G1 (upd G1 a (.lst xs)) := same_new h4
    refine ⟨upd G1 a (.lst xs), ⟨Mv.shut af.mv h5 h4 h3, af.bt, hok_keep af.hd s1 fun b e => ⟨?_, rfl⟩⟩, .lst upd_same (dqAll_mono s1 h6)⟩
    rw [upd_ne fun z => hk b e (by rw [z]; exact h5)]
    subst e
    exact (hok_at af.hd).1
theorem dx_fz (p : PE X e (rn c W f)) : PE X e (rd c W (eFz f)) := pe_to p fun σ H Q x => by
  obtain ⟨ha, G0, B, G, δ, h, st, p⟩ := x
  refine ⟨ha, G0, B, G, δ, h, st, ?_⟩
  unfold eFz at p
  cases e : f δ h with
  | ok d h1 =>
    rw [e] at p
    intro G1 H1 af1 v n
    obtain ⟨G2, af2, dv⟩ := af_fz st.hne af1 n
    exact p G2 H1 af2 v dv
  | exc n fs h1 => rw [e] at p; exact p
  | bad => rw [e] at p; exact p
theorem nw_dq {ha : Option Addr} {H G' H' : Hp} {v : V} {d : D} (h : Dq c ha G' v d) : Nw c ha H G' H' v d := .inl h
theorem dn_of (p : PE X e (rd c W f)) : PE X e (rn c W f) := pn_to p fun σ H Q x => by
  obtain ⟨ha, G0, B, G, δ, h, st, p⟩ := x
  exact ⟨ha, G0, B, G, δ, h, st, post_imp p fun d h1 G1 H1 af q v dv => q v (nw_dq dv)⟩
end
end Fw
namespace Fw
open PySem PySem.Spec PyProof.Rows L2 Dz Vz
section
variable {X : Cx} {W : WX} {c : Cn} {e a b e2 : Expr} {es : List Expr} {pos : Pos} {ta tb te : TE} {t : TT} {f fa fb fc : EF D} {g ga gb : EF Bool} {fs : EF (List D)}
def oIx (x y : D) : Option D := match x, y with
  | .tup ds, .int i => atI ds i
  | .lst ds, .int i => atI ds i
  | _, _ => none
theorem atI_dq {ha : Option Addr} {G : Hp} {xs : List V} {ds : List D} {i : Int} {d : D} (h : DqAll c ha G xs ds) (e : atI ds i = some d) : ∃ v, atI xs i = some v ∧ Dq c ha G v d := by
  unfold atI at e ⊢
  rw [dqAll_len h]
  cases q : ixN ds.length i with
  | none => rw [q] at e; cases e
  | some j =>
    rw [q] at e
    obtain ⟨x, h1, h2⟩ := dqAll_at h (show ds[j]? = some d from e)
    exact ⟨x, h1, h2⟩
theorem d_ix : OpD c (rIx c.K) oIx := by
  intro ha G H x y d v w Q s dx dy q fin
  cases dx with
  | tup h1 h2 =>
    cases dy with
    | int i =>
      obtain ⟨z, e1, e2⟩ := atI_dq h2 q
      exact .inr (.inl ⟨_, _, _, z, rfl, rfl, Evl.ex_t s h1, e1, fin _ G H (Mv.refl s) (Same.refl _) e2⟩)
    | _ => cases q
  | lst h1 h2 =>
    cases dy with
    | int i =>
      obtain ⟨z, e1, e2⟩ := atI_dq h2 q
      exact .inl ⟨_, _, _, z, rfl, rfl, SqL.of (s _ _ h1), e1, fin _ G H (Mv.refl s) (Same.refl _) e2⟩
    | _ => cases q
  | _ => cases q
theorem dx_ix (ha : PE X a (rd c W fa)) (hb : PE X b (rd c W fb)) (hs : PlainIx b := by exact fun _ _ => rfl) (hK : X.K = c.K := by rfl) : PE X (.Subscript a b pos) (rd c W (eOp oIx fa fb)) := pe_to (pe_ix ix_seq ha hb hs) (by rw [hK]; exact rd_op d_ix)
/-- the thing that is handed about, in slot i -/
def eM (i : Nat) : EF Unit := fun δ h => match δ[i]? with
  | some (some .me) => .ok () h
  | _ => .bad
def rm (c : Cn) (W : WX) (f : EF Unit) : TE := fun σ H Q => ∃ ha G0 B G δ h, Sta c ha G0 B G H σ δ h ∧ Post c ha W σ G H (f δ h) fun _ _ _ H' => ∀ a, ha = some a → Q (.ref a) H'
theorem dm_v {i : Nat} {x : Str} (hN : X.N[i]? = some x) (hv : Vis X.env.scope x) (hd : (x == ("__debug__" : Str)) = false := by decide) (hcd : (x == ("__classdict__" : Str)) = false := by decide) : PE X (.Name x pos) (rm c W (eM i)) := ⟨fun pins s σ H Q I z => (pe_var hN hv hd hcd).run pins s σ H Q I (by
  obtain ⟨ha, G0, B, G, δ, h, st, p⟩ := z
  unfold eM at p
  split at p
  · rename_i e
    obtain ⟨fp, o, n, k⟩ := st.sl
    obtain ⟨a, h1, h2⟩ := ownS_me o e
    exact ⟨_, h1, post_ok p st.gh st.hd a h2⟩
  · exact p.elim)⟩
/-- an item of it -/
def eIxM (i : Nat) (fb : EF D) : EF D := fun δ h => (eM i δ h).bind fun _ h1 => (fb δ h1).bind fun y h2 => Ex.of (match y, h2 with
  | .int i, .hl ds => atI ds i
  | _, _ => none) h2
theorem dx_ixM {i : Nat} (ha : PE X a (rm c W (eM i))) (hb : PE X b (rd c W fb)) (hs : PlainIx b := by exact fun _ _ => rfl) (hK : X.K = c.K := by rfl) : PE X (.Subscript a b pos) (rd c W (eIxM i fb)) := pe_to (pe_ix ix_list ha hb hs) fun σ H Q x => by
  obtain ⟨ha, G0, B, G, δ, h, st, p⟩ := x
  refine ⟨ha, G0, B, G, δ, h, st, post_imp (post_bind p) fun x h1 G1 H1 af1 p1 v e1 => ?_⟩
  refine ⟨ha, G0, B, G1, δ, h1, st.to af1, post_imp (post_bind p1) fun y h2 G2 H2 af2 p2 w dw => ?_⟩
  obtain ⟨d, e, q⟩ := post_of p2
  cases dw with
  | int i =>
    cases af2.hd with
    | hand e2 _ h4 h5 =>
      rw [e1] at e2
      cases e2
      obtain ⟨z, k1, k2⟩ := atI_dq h5 e
      exact ⟨_, _, _, z, rfl, rfl, SqL.of h4, k1, q _ _ (.refl af2.gh af2.hd) _ k2⟩
    | _ => cases e
  | _ => cases e
def eOn (f : D → D → Option D) (fa fb : EF D) : EF D := eOp f fa fb
def OpN (c : Cn) (r : R2) (f : D → D → Option D) : Prop := ∀ {ha : Option Addr} {G H : Hp} {x y d : D} {v w : V} {Q : VK}, Same G H → Dq c ha G v x → Dq c ha G w y → f x y = some d → (∀ u G' H', Mv G H G' H' → Same H H' → Nw c ha H G' H' u d → Q u H') → r v w H Q
theorem OpD.n {r : R2} {f : D → D → Option D} (h : OpD c r f) : OpN c r f := fun s dx dy e fin => h s dx dy e fun u G' H' m s du => fin u G' H' m s (nw_dq du)
theorem OpN.or {r1 r2 : R2} {f1 f2 : D → D → Option D} (h1 : OpN c r1 f1) (h2 : OpN c r2 f2) : OpN c (fun x y H Q => r1 x y H Q ∨ r2 x y H Q) (fun x y => match f1 x y with | some d => some d | none => f2 x y) := by
  intro ha G H x y d v w Q s dx dy e fin
  cases q : f1 x y with
  | some d2 =>
    simp only [q] at e
    cases e
    exact .inl (h1 s dx dy q fin)
  | none =>
    simp only [q] at e
    exact .inr (h2 s dx dy e fin)
theorem rn_op {r : R2} {f : D → D → Option D} (hr : OpN c r f) (σ : L2.St) (H : Hp) (Q : VK) (x : rn c W (eOn f fa fb) σ H Q) : tOp r (rd c W fa) (rd c W fb) σ H Q := by
  obtain ⟨ha, G0, B, G, δ, h, st, p⟩ := x
  refine ⟨ha, G0, B, G, δ, h, st, post_imp (post_bind p) fun x h1 G1 H1 af1 p1 v dv => ?_⟩
  refine ⟨ha, G0, B, G1, δ, h1, st.to af1, post_imp (post_bind p1) fun y h2 G2 H2 af2 p2 w dw => ?_⟩
  obtain ⟨d, e, q⟩ := post_of p2
  exact hr af2.gh (dq_mono af2.gg dv) dw e fun u G' H' m s n => q G' H' (.of af2.gh af2.hd m s) u (nw_from (af1.trans af2) n)
def oCatT (x y : D) : Option D := match x, y with
  | .tup ds, .tup es => if szOk (ds.length + es.length) then some (.tup (ds ++ es)) else none
  | _, _ => none
theorem nil_of {ha : Option Addr} {G : Hp} {xs : List V} {ds : List D} (h : DqAll c ha G xs ds) : xs = [] ↔ ds = [] := by cases h <;> simp
theorem d_catT : OpD c (rCatA c.K) oCatT := by
  intro ha G H x y d v w Q s dx dy q fin
  cases dx with
  | tup h1 h2 =>
    cases dy with
    | tup h3 h4 =>
      obtain ⟨z, rfl⟩ := if_get q
      rename_i a1 xs1 ds1 a2 xs2 ds2
      refine ⟨_, _, _, _, rfl, rfl, Evl.ex_t s h1, Evl.ex_t s h3, by rw [dqAll_len h2, dqAll_len h4]; exact szOk_le z, fun e => ?_, fun _ e => ?_, fun _ _ p hp => ?_⟩
      · rw [(nil_of h2).mp e, List.nil_append] at fin
        exact fin _ G H (Mv.refl s) (Same.refl _) (.tup h3 h4)
      · rw [(nil_of h4).mp e, List.append_nil] at fin
        exact fin _ G H (Mv.refl s) (Same.refl _) (.tup h1 h2)
      · have m := Mv.new (o := .tup (xs1 ++ xs2)) s hp
        exact fin _ _ _ m (same_new hp) (.tup (SqT.of upd_same) (dqAll_app (dqAll_mono m.gg h2) (dqAll_mono m.gg h4)))
    | _ => cases q
  | _ => cases q
def oCatL (x y : D) : Option D := match x, y with
  | .lst ds, .lst es => if szOk (ds.length + es.length) then some (.hl (ds ++ es)) else none
  | _, _ => none
theorem nw_new {ha : Option Addr} {G H : Hp} {l : Addr} {vs : List V} {ds : List D} {Q : VK} (s : Same G H) (hl : H l = none) (d : DqAll c ha G vs ds) (fin : ∀ u G' H', Mv G H G' H' → Same H H' → Nw c ha H G' H' u (.hl ds) → Q u H') : Q (.ref l) (upd H l (.lst vs)) :=
  fin _ _ _ (Mv.hid s hl) (same_new hl) (nw_lst s hl d)
theorem d_catL : OpN c rCat oCatL := by
  intro ha G H x y d v w Q s dx dy q fin
  cases dx with
  | lst h1 h2 =>
    cases dy with
    | lst h3 h4 =>
      obtain ⟨z, rfl⟩ := if_get q
      exact ⟨_, _, _, _, rfl, rfl, s _ _ h1, s _ _ h3, by rw [dqAll_len h2, dqAll_len h4]; exact szOk_le z, fun p hp => nw_new s hp (dqAll_app h2 h4) fin⟩
    | _ => cases q
  | _ => cases q
/-- a + b -/
def oPlus (x y : D) : Option D := match x, y with
  | .int i, .int j => some (.int (i + j))
  | .tup ds, .tup es => if szOk (ds.length + es.length) then some (.tup (ds ++ es)) else none
  | .lst ds, .lst es => if szOk (ds.length + es.length) then some (.hl (ds ++ es)) else none
  | _, _ => none
theorem d_plus : OpN c (fun x y H Q => rI0 (fun i j => .int (i + j)) x y H Q ∨ (rCatA c.K x y H Q ∨ rCat x y H Q)) oPlus := by
  intro ha G H x y d v w Q s dx dy q fin
  cases x <;> cases y <;> first | (cases q; done) | skip
  · exact .inl (d_add.n s dx dy q fin)
  · exact .inr (.inl (d_catT.n s dx dy q fin))
  · exact .inr (.inr (d_catL s dx dy q fin))
theorem op_plus : OpR X (binaryOp .Add) (fun x y H Q => rI0 (fun i j => .int (i + j)) x y H Q ∨ (rCatA X.K x y H Q ∨ rCat x y H Q)) := op_add.or (op_catA.or op_cat)
theorem dn_plus (ha : PE X a (rd c W fa)) (hb : PE X b (rd c W fb)) (hK : X.K = c.K := by rfl) : PE X (.BinOp a .Add b pos) (rn c W (eOn oPlus fa fb)) := pn_to (pe_op op_plus ha hb) (by rw [hK]; exact rn_op d_plus)
/-- a * b -/
def cRep (k : Int) (n : Nat) : Bool := decide (0 ≤ k) && (decide (k ≤ 1000) && decide (n ≤ 1000))
def cRepL (k : Int) (n : Nat) : Bool := decide (-1000 ≤ k) && (decide (k ≤ 1000) && decide (n ≤ 1000))
def oTimes (x y : D) : Option D := match x, y with
  | .int i, .int j => if cMul i j then some (.int (i * j)) else none
  | .tup ds, .int k => if cRep k ds.length && !ds.isEmpty then some (.tup (List.replicate k.toNat ds).flatten) else none
  | .lst ds, .int k => if cRepL k ds.length then some (.hl (List.replicate k.toNat ds).flatten) else none
  | _, _ => none
theorem cRepL_get {k : Int} {n : Nat} (h : cRepL k n = true) : -1000 ≤ k ∧ k ≤ 1000 ∧ n ≤ 1000 := by
  unfold cRepL at h
  rw [Bool.and_eq_true, Bool.and_eq_true, decide_eq_true_eq, decide_eq_true_eq, decide_eq_true_eq] at h
  exact h
theorem cRep_get {k : Int} {n : Nat} (h : cRep k n = true) : 0 ≤ k ∧ k ≤ 1000 ∧ n ≤ 1000 := by
  unfold cRep at h
  rw [Bool.and_eq_true, Bool.and_eq_true, decide_eq_true_eq, decide_eq_true_eq, decide_eq_true_eq] at h
  exact h
abbrev rTimes (K : PySem.W.Frag) : R2 := fun x y H Q => rI CMulW (fun i j => .int (i * j)) x y H Q ∨ (rRep x y H Q ∨ (rRepT K x y H Q ∨ (Gn.rRep1 K x y H Q ∨ Wr.rRep0 K x y H Q)))
theorem d_times : OpN c (rTimes c.K) oTimes := by
  intro ha G H x y d v w Q s dx dy q fin
  cases x <;> cases y <;> first | (cases q; done) | skip
  · exact .inl (d_mul.n s dx dy q fin)
  · rename_i ds k
    obtain ⟨z, rfl⟩ := if_get q
    rw [Bool.and_eq_true] at z
    obtain ⟨z1, z2⟩ := z
    obtain ⟨k0, k1, k2⟩ := cRep_get z1
    cases dy
    cases dx with
    | tup h1 h2 =>
      rename_i a xs
      have hne : xs ≠ [] := fun e => by rw [(nil_of h2).mp e] at z2; cases z2
      by_cases e0 : k = 0
      · subst e0
        refine .inr (.inr (.inr (.inr ⟨a, xs, rfl, rfl, Evl.ex_t s h1, hne, fun p hp => ?_⟩)))
        exact fin _ _ _ (Mv.new s hp) (same_new hp) (nw_dq (.tup (SqT.of upd_same) .nil))
      · by_cases e1 : k = 1
        · subst e1
          refine .inr (.inr (.inr (.inl ⟨a, xs, rfl, rfl, Evl.ex_t s h1, ?_⟩)))
          refine fin _ G H (Mv.refl s) (Same.refl _) (nw_dq (.tup h1 ?_))
          show DqAll c ha G xs ([ds].flatten)
          rw [List.flatten_cons, List.flatten_nil, List.append_nil]
          exact h2
        · refine .inr (.inr (.inl ⟨a, k, xs, rfl, rfl, Evl.ex_t s h1, hne, by omega, k1, by rw [dqAll_len h2]; exact k2, fun p hp => ?_⟩))
          have m := Mv.new (o := .tup (List.replicate k.toNat xs).flatten) s hp
          exact fin _ _ _ m (same_new hp) (nw_dq (.tup (SqT.of upd_same) (dqAll_reps (dqAll_mono m.gg h2) _)))
  · rename_i ds k
    obtain ⟨z, rfl⟩ := if_get q
    obtain ⟨k0, k1, k2⟩ := cRepL_get z
    cases dy
    cases dx with
    | lst h1 h2 =>
      refine .inr (.inl ⟨_, k, _, rfl, rfl, s _ _ h1, by omega, by omega, ?_, fun p hp => nw_new s hp (dqAll_reps h2 _) fin⟩)
      rw [dqAll_len h2, sizeLine_eq]
      have : ds.length * k.toNat ≤ 1000 * 1000 := Nat.mul_le_mul k2 (by omega)
      omega
theorem op_times : OpR X (binaryOp .Mult) (rTimes X.K) := op_mulW.or (op_rep.or (op_repT.or (Gn.op_rep1.or Wr.op_rep0)))
theorem dn_times (ha : PE X a (rd c W fa)) (hb : PE X b (rd c W fb)) (hK : X.K = c.K := by rfl) : PE X (.BinOp a .Mult b pos) (rn c W (eOn oTimes fa fb)) := pn_to (pe_op op_times ha hb) (by rw [hK]; exact rn_op d_times)
def oNeg : D → Option D
  | .int i => some (.int (-i))
  | _ => none
theorem dx_neg (ha : PE X a (rd c W fa)) : PE X (.UnaryOp .USub a pos) (rd c W (eUn oNeg fa)) := pe_to (pe_un un_neg ha) fun σ H Q x => by
  obtain ⟨ha, G0, B, G, δ, h, st, p⟩ := x
  refine ⟨ha, G0, B, G, δ, h, st, post_imp (post_bind p) fun x h1 G1 H1 af1 p1 v dv => ?_⟩
  obtain ⟨d, e, q⟩ := post_of p1
  cases dv with
  | int i => cases e; exact ⟨i, rfl, q _ _ (.refl af1.gh af1.hd) _ (.int _)⟩
  | _ => cases e
def eOpt (f : EF D) : EF (Option Int) := fun δ h => (f δ h).bind fun d h1 => match d with
  | .int i => .ok (some i) h1
  | _ => .bad
def eNo : EF (Option Int) := fun _ h => .ok none h
def ro (c : Cn) (W : WX) (f : EF (Option Int)) : TO := fun σ H Q => ∃ ha G0 B G δ h, Sta c ha G0 B G H σ δ h ∧ Post c ha W σ G H (f δ h) fun o _ _ H' => Q o H'
theorem po_to {o : Option Expr} {t : TO} {f : EF (Option Int)} (p : PO X o t) (i : ∀ σ H Q, ro c W f σ H Q → t σ H Q) : PO X o (ro c W f) := ⟨fun pins s σ H Q I h => p.run pins s σ H Q I (i σ H Q h)⟩
theorem do_no : PO X none (ro c W eNo) := po_to po_none fun σ H Q x => by
  obtain ⟨ha, G0, B, G, δ, h, st, p⟩ := x
  exact post_ok p st.gh st.hd
theorem do_e (p : PE X e (rd c W f)) : PO X (some e) (ro c W (eOpt f)) := po_to (po_some p) fun σ H Q x => by
  obtain ⟨ha, G0, B, G, δ, h, st, p⟩ := x
  refine ⟨ha, G0, B, G, δ, h, st, post_imp (post_bind p) fun d h1 G1 H1 af p1 v dv => ?_⟩
  cases dv with
  | int i => exact ⟨i, rfl, post_ok p1 af.gh af.hd⟩
  | _ => exact p1.elim
def cutD {α : Type} (xs : List α) (lo hi : Option Int) : List α := (xs.drop (HT.sIx xs.length 0 lo)).take (HT.sIx xs.length xs.length hi - HT.sIx xs.length 0 lo)
def slD (d : D) (lo hi : Option Int) : Option D := match d with
  | .tup ds => some (.tup (cutD ds lo hi))
  | .lst ds => some (.hl (cutD ds lo hi))
  | _ => none
def eSl (f : EF D) (lo hi : EF (Option Int)) : EF D := fun δ h => (f δ h).bind fun d h1 => (lo δ h1).bind fun l h2 => (hi δ h2).bind fun u h3 => Ex.of (slD d l u) h3
theorem dqAll_cut {ha : Option Addr} {G : Hp} {xs : List V} {ds : List D} {lo hi : Option Int} (h : DqAll c ha G xs ds) : DqAll c ha G (cutV xs lo hi) (cutD ds lo hi) := by
  unfold cutV cutD
  rw [dqAll_len h]
  exact dqAll_take _ (dqAll_drop _ h)
theorem dn_sl {lo hi : Option Expr} {gl gh : EF (Option Int)} {p2 : Pos} (he : PE X e (rd c W f)) (hl : PO X lo (ro c W gl)) (hh : PO X hi (ro c W gh)) (hK : X.K = c.K := by rfl) : PE X (.Subscript e (.Slice lo hi none p2) pos) (rn c W (eSl f gl gh)) := pn_to (pe_slice (sl_tupA.or sl_list) he hl hh) fun σ H Q x => by
  obtain ⟨ha, G0, B, G, δ, h, st, p⟩ := x
  refine ⟨ha, G0, B, G, δ, h, st, post_imp (post_bind p) fun x h1 G1 H1 af1 p1 v dv => ?_⟩
  refine ⟨ha, G0, B, G1, δ, h1, st.to af1, post_imp (post_bind p1) fun l h2 G2 H2 af2 p2 => ?_⟩
  refine ⟨ha, G0, B, G2, δ, h2, (st.to af1).to af2, post_imp (post_bind p2) fun u h3 G3 H3 af3 p3 => ?_⟩
  obtain ⟨d, e, q⟩ := post_of p3
  have dv3 := dq_mono (af2.gg.trans af3.gg) dv
  have a03 := (af1.trans af2).trans af3
  rw [hK]
  cases dv3 with
  | tup k1 k2 =>
    rename_i a xs ds
    cases e
    refine .inl ⟨a, xs, rfl, Evl.ex_t af3.gh k1, fun w => ?_, fun _ p hp => ?_⟩
    · refine q _ _ (.refl af3.gh af3.hd) _ (nw_dq (.tup k1 ?_))
      have z : cutD ds l u = ds := by
        unfold cutD
        rw [← dqAll_len k2, w.1, w.2, List.drop_zero, Nat.sub_zero, dqAll_len k2, List.take_length]
      rw [z]
      exact k2
    · have m := Mv.new (o := .tup (cutV xs l u)) af3.gh hp
      exact q _ _ (.of af3.gh af3.hd m (same_new hp)) _ (nw_dq (.tup (SqT.of upd_same) (dqAll_cut (dqAll_mono m.gg k2))))
  | lst k1 k2 =>
    rename_i a xs ds
    cases e
    refine .inr ⟨a, xs, rfl, SqL.of (af3.gh _ _ k1), fun p hp => ?_⟩
    exact q _ _ (.of af3.gh af3.hd (Mv.hid af3.gh hp) (same_new hp)) _ (nw_from a03 (nw_lst af3.gh hp (dqAll_cut k2)))
  | _ => cases e
def eAt (f : EF D) (n : Str) : EF D := fun δ h => (f δ h).bind fun d h1 => Ex.of (match d with
  | .ins _ fs => fs.lookup n
  | _ => none) h1
theorem dx_at {n : Str} (he : PE X e (rd c W f)) (hb : attributeBase e n X.env (eval e X.env) = eval e X.env := by rfl) (hK : X.K = c.K := by rfl) : PE X (.Attribute e n pos) (rd c W (eAt f n)) := pe_to (pe_fld he hb) fun σ H Q x => by
  obtain ⟨ha, G0, B, G, δ, h, st, p⟩ := x
  refine ⟨ha, G0, B, G, δ, h, st, post_imp (post_bind p) fun x h1 G1 H1 af1 p1 v dv => ?_⟩
  obtain ⟨d, e, q⟩ := post_of p1
  rw [hK]
  cases dv with
  | ins k1 k2 k3 k4 =>
    obtain ⟨na, w, k5, k6⟩ := dqF_look k4 e
    exact ⟨_, _, _, _, w, rfl, af1.gh _ _ k2, k3.cl, na, k5, q _ _ (.refl af1.gh af1.hd) _ k6⟩
  | _ => cases e
/-- an attribute of what slot i holds -/
def eAtV (i : Nat) (n : Str) : EF D := fun δ h => Ex.of (match δ[i]?, h with
  | some (some (.ins _ fs)), _ => fs.lookup n
  | some (some .me), .ins _ fs => fs.lookup n
  | _, _ => none) h
theorem dx_atV {i : Nat} {x n : Str} {p : Pos} (hN : X.N[i]? = some x) (hv : Vis X.env.scope x) (hd : (x == ("__debug__" : Str)) = false := by decide) (hcd : (x == ("__classdict__" : Str)) = false := by decide) (hb : attributeBase (.Name x p) n X.env (eval (.Name x p) X.env) = eval (.Name x p) X.env := by rfl) (hK : X.K = c.K := by rfl) : PE X (.Attribute (.Name x p) n pos) (rd c W (eAtV i n)) := pe_to (pe_fld (pe_var hN hv hd hcd) hb) fun σ H Q x => by
  obtain ⟨ha, G0, B, G, δ, h, st, p⟩ := x
  obtain ⟨d, e, q⟩ := post_of p
  rw [hK]
  obtain ⟨fp, o, n, k⟩ := st.sl
  split at e
  · rename_i e1
    obtain ⟨v, f1, f, f2, h1, _, h3, _⟩ := ownS_slot o e1 rfl
    refine ⟨v, h1, ?_⟩
    cases (own_fr h3 rfl).1 with
    | ins k1 k2 k3 k4 =>
      obtain ⟨na, w, k5, k6⟩ := dqF_look k4 e
      exact ⟨_, _, _, _, w, rfl, st.gh _ _ k2, k3.cl, na, k5, q _ _ st.here _ k6⟩
  · rename_i e1
    obtain ⟨a, h1, h2⟩ := ownS_me o e1
    refine ⟨_, h1, ?_⟩
    cases id st.hd with
    | self e2 _ k0 k3 k2 k4 =>
      rw [h2] at e2
      cases e2
      obtain ⟨na, w, k5, k6⟩ := dqF_look k4 e
      exact ⟨_, _, _, _, w, rfl, k2, k3.cl, na, k5, q _ _ st.here _ k6⟩
  · cases e
def CaD (c : Cn) (r : List V → Hp → VK → Prop) (f : List D → Option D) : Prop := ∀ {ha : Option Addr} {G H : Hp} {ds : List D} {d : D} {vs : List V} {Q : VK}, Same G H → DqAll c ha G vs ds → f ds = some d → (∀ u G' H', Mv G H G' H' → Same H H' → Dq c ha G' u d → Q u H') → r vs H Q
def CaN (c : Cn) (r : List V → Hp → VK → Prop) (f : List D → Option D) : Prop := ∀ {ha : Option Addr} {G H : Hp} {ds : List D} {d : D} {vs : List V} {Q : VK}, Same G H → DqAll c ha G vs ds → f ds = some d → (∀ u G' H', Mv G H G' H' → Same H H' → Nw c ha H G' H' u d → Q u H') → r vs H Q
def eBi (k : List D → Option D) (fs : EF (List D)) : EF D := fun δ h => (fs δ h).bind fun ds h1 => Ex.of (k ds) h1
theorem rd_bi {r : List V → Hp → VK → Prop} {k : List D → Option D} (hr : CaD c r k) (σ : L2.St) (H : Hp) (Q : VK) (x : rd c W (eBi k fs) σ H Q) : tCB r (ra c W fs) σ H Q := by
  obtain ⟨ha, G0, B, G, δ, h, st, p⟩ := x
  refine ⟨ha, G0, B, G, δ, h, st, post_imp (post_bind p) fun ds h1 G1 H1 af1 p1 vs dvs => ?_⟩
  obtain ⟨d, e, q⟩ := post_of p1
  exact hr af1.gh dvs e fun u G' H' m s du => q G' H' (.of af1.gh af1.hd m s) u du
theorem rn_bi {r : List V → Hp → VK → Prop} {k : List D → Option D} (hr : CaN c r k) (σ : L2.St) (H : Hp) (Q : VK) (x : rn c W (eBi k fs) σ H Q) : tCB r (ra c W fs) σ H Q := by
  obtain ⟨ha, G0, B, G, δ, h, st, p⟩ := x
  refine ⟨ha, G0, B, G, δ, h, st, post_imp (post_bind p) fun ds h1 G1 H1 af1 p1 vs dvs => ?_⟩
  obtain ⟨d, e, q⟩ := post_of p1
  exact hr af1.gh dvs e fun u G' H' m s du => q G' H' (.of af1.gh af1.hd m s) u (nw_from af1 du)
theorem dx_bi {x : Str} {id : String} {p : Pos} {r : List V → Hp → VK → Prop} {k : List D → Option D} (hc : CallR X (.builtin id) r) (hr : CaD c r k) (hg : Gl X x) (hm : X.mg x = none) (hv : bootBuiltins x = some (.builtin id)) (ha : PA X (e :: es) (ra c W fs)) (hn : x ≠ "__name__" := by decide) (hdb : (x == ("__debug__" : Str)) = false := by decide)
    (he : starEach (e :: es) X.env = (false, eval e X.env) :: starEach es X.env := by rfl) (hpl : (backTo pos (starEach es X.env)).any (·.1) = false := by rfl) : PE X (.Call (.Name x p) (e :: es) [] pos) (rd c W (eBi k fs)) := pe_to (pe_callB hc hg hm hv ha hn hdb he hpl) (rd_bi hr)
theorem dx_ty {x : Str} {T : String} {p : Pos} {r : List V → Hp → VK → Prop} {k : List D → Option D} (hc : CallR X (.type T) r) (hr : CaD c r k) (hg : Gl X x) (hm : X.mg x = none) (hv : bootBuiltins x = some (.type T)) (ha : PA X (e :: es) (ra c W fs)) (hn : x ≠ "__name__" := by decide) (hdb : (x == ("__debug__" : Str)) = false := by decide)
    (he : starEach (e :: es) X.env = (false, eval e X.env) :: starEach es X.env := by rfl) (hpl : (backTo pos (starEach es X.env)).any (·.1) = false := by rfl) : PE X (.Call (.Name x p) (e :: es) [] pos) (rd c W (eBi k fs)) := pe_to (pe_callTy hc hg hm hv ha hn hdb he hpl) (rd_bi hr)
theorem dn_ty {x : Str} {T : String} {p : Pos} {r : List V → Hp → VK → Prop} {k : List D → Option D} (hc : CallR X (.type T) r) (hr : CaN c r k) (hg : Gl X x) (hm : X.mg x = none) (hv : bootBuiltins x = some (.type T)) (ha : PA X (e :: es) (ra c W fs)) (hn : x ≠ "__name__" := by decide) (hdb : (x == ("__debug__" : Str)) = false := by decide)
    (he : starEach (e :: es) X.env = (false, eval e X.env) :: starEach es X.env := by rfl) (hpl : (backTo pos (starEach es X.env)).any (·.1) = false := by rfl) : PE X (.Call (.Name x p) (e :: es) [] pos) (rn c W (eBi k fs)) := pn_to (pe_callTy hc hg hm hv ha hn hdb he hpl) (rn_bi hr)
theorem dx_fun {x : Str} {id : String} {p : Pos} {r : List V → Hp → VK → Prop} {k : List D → Option D} (hc : CallR X (.builtin id) r) (hr : CaD c r k) (hg : Gl X x) (hm : X.mg x = some (.builtin id)) (ha : PA X (e :: es) (ra c W fs)) (hdb : (x == ("__debug__" : Str)) = false := by decide)
    (he : starEach (e :: es) X.env = (false, eval e X.env) :: starEach es X.env := by rfl) (hpl : (backTo pos (starEach es X.env)).any (·.1) = false := by rfl) : PE X (.Call (.Name x p) (e :: es) [] pos) (rd c W (eBi k fs)) := pe_to (pe_callBfun hc hg hm ha hdb he hpl) (rd_bi hr)
def kLen : List D → Option D
  | [.tup ds] => some (.int ds.length)
  | [.lst ds] => some (.int ds.length)
  | _ => none
theorem one_of {ha : Option Addr} {G : Hp} {vs : List V} {d : D} (h : DqAll c ha G vs [d]) : ∃ v, vs = [v] ∧ Dq c ha G v d := by
  cases h with
  | cons h t => cases t; exact ⟨_, rfl, h⟩
theorem two_of {ha : Option Addr} {G : Hp} {vs : List V} {d1 d2 : D} (h : DqAll c ha G vs [d1, d2]) : ∃ v w, vs = [v, w] ∧ Dq c ha G v d1 ∧ Dq c ha G w d2 := by
  cases h with
  | cons h t =>
    obtain ⟨w, rfl, hw⟩ := one_of t
    exact ⟨_, w, rfl, h, hw⟩
theorem k_len : CaD c (fun xs H Q => ∃ p ys, xs = [.ref p] ∧ (SqL c.K H p ys ∨ SqT c.K H p ys) ∧ Q (.int ys.length) H) kLen := by
  intro ha G H ds d vs Q s dv e fin
  unfold kLen at e
  split at e <;> cases e
  · obtain ⟨v, rfl, dv1⟩ := one_of dv
    cases dv1 with
    | tup h1 h2 => exact ⟨_, _, rfl, .inr (Evl.ex_t s h1), by rw [dqAll_len h2]; exact fin _ G H (Mv.refl s) (Same.refl _) (.int _)⟩
  · obtain ⟨v, rfl, dv1⟩ := one_of dv
    cases dv1 with
    | lst h1 h2 => exact ⟨_, _, rfl, .inl (SqL.of (s _ _ h1)), by rw [dqAll_len h2]; exact fin _ G H (Mv.refl s) (Same.refl _) (.int _)⟩
theorem c_len (hK : X.K = c.K) : CallR X (.builtin "len") (fun xs H Q => ∃ p ys, xs = [.ref p] ∧ (SqL c.K H p ys ∨ SqT c.K H p ys) ∧ Q (.int ys.length) H) := by rw [← hK]; exact call_len_seq
def kInt : List D → Option D
  | [.int i] => some (.int i)
  | [.bl b] => some (.int (if b then 1 else 0))
  | _ => none
theorem k_int : CaD c (fun xs H Q => (∃ i, xs = [.int i] ∧ Q (.int i) H) ∨ ∃ k, xs = [.bl k] ∧ Q (.int (if k then 1 else 0)) H) kInt := by
  intro ha G H ds d vs Q s dv e fin
  unfold kInt at e
  split at e <;> cases e
  · obtain ⟨v, rfl, dv1⟩ := one_of dv
    cases dv1
    exact .inl ⟨_, rfl, fin _ G H (Mv.refl s) (Same.refl _) (.int _)⟩
  · obtain ⟨v, rfl, dv1⟩ := one_of dv
    cases dv1
    exact .inr ⟨_, rfl, fin _ G H (Mv.refl s) (Same.refl _) (.int _)⟩
def kAbs : List D → Option D
  | [.int i] => some (.int (if i < 0 then -i else i))
  | _ => none
theorem k_abs : CaD c (fun xs H Q => ∃ i, xs = [.int i] ∧ Q (.int (if i < 0 then -i else i)) H) kAbs := by
  intro ha G H ds d vs Q s dv e fin
  unfold kAbs at e
  split at e <;> cases e
  obtain ⟨v, rfl, dv1⟩ := one_of dv
  cases dv1
  exact ⟨_, rfl, fin _ G H (Mv.refl s) (Same.refl _) (.int _)⟩
def kMin2 : List D → Option D
  | [.int i, .int j] => some (.int (if j < i then j else i))
  | _ => none
theorem k_min2 : CaD c (fun xs H Q => ∃ i j, xs = [.int i, .int j] ∧ Q (.int (if j < i then j else i)) H) kMin2 := by
  intro ha G H ds d vs Q s dv e fin
  unfold kMin2 at e
  split at e <;> cases e
  obtain ⟨v, w, rfl, dv1, dw⟩ := two_of dv
  cases dv1
  cases dw
  exact ⟨_, _, rfl, fin _ G H (Mv.refl s) (Same.refl _) (.int _)⟩
def kGcd : List D → Option D
  | [.int i, .int j] => some (.int ((Nat.gcd i.natAbs j.natAbs : Nat) : Int))
  | _ => none
theorem k_gcd : CaD c rGcd kGcd := by
  intro ha G H ds d vs Q s dv e fin
  unfold kGcd at e
  split at e <;> cases e
  obtain ⟨v, w, rfl, dv1, dw⟩ := two_of dv
  cases dv1
  cases dw
  exact ⟨_, _, rfl, fin _ G H (Mv.refl s) (Same.refl _) (.int _)⟩
def kTup : List D → Option D
  | [.tup ds] => some (.tup ds)
  | [.lst ds] => some (.tup ds)
  | _ => none
theorem k_tup : CaD c (fun xs H Q => ∃ p ys, xs = [.ref p] ∧ ((SqL c.K H p ys ∧ ∀ l, H l = none → Q (.ref l) (upd H l (.tup ys))) ∨ (SqT c.K H p ys ∧ Q (.ref p) H))) kTup := by
  intro ha G H ds d vs Q s dv e fin
  unfold kTup at e
  split at e <;> cases e
  · obtain ⟨v, rfl, dv1⟩ := one_of dv
    cases dv1 with
    | tup h1 h2 => exact ⟨_, _, rfl, .inr ⟨Evl.ex_t s h1, fin _ G H (Mv.refl s) (Same.refl _) (.tup h1 h2)⟩⟩
  · obtain ⟨v, rfl, dv1⟩ := one_of dv
    cases dv1 with
    | lst h1 h2 =>
      refine ⟨_, _, rfl, .inl ⟨SqL.of (s _ _ h1), fun l hl => ?_⟩⟩
      exact fin _ _ _ (Mv.new s hl) (same_new hl) (.tup (SqT.of upd_same) (dqAll_mono (Mv.new s hl).gg h2))
theorem c_tup (hK : X.K = c.K) : CallR X (.type "tuple") (fun xs H Q => ∃ p ys, xs = [.ref p] ∧ ((SqL c.K H p ys ∧ ∀ l, H l = none → Q (.ref l) (upd H l (.tup ys))) ∨ (SqT c.K H p ys ∧ Q (.ref p) H))) := by rw [← hK]; exact call_tuple_of
def kList : List D → Option D
  | [.tup ds] => some (.hl ds)
  | [.lst ds] => some (.hl ds)
  | _ => none
theorem k_list : CaN c (fun xs H Q => ∃ p ys, xs = [.ref p] ∧ (SqL c.K H p ys ∨ SqT c.K H p ys) ∧ ∀ l, H l = none → Q (.ref l) (upd H l (.lst ys))) kList := by
  intro ha G H ds d vs Q s dv e fin
  unfold kList at e
  split at e <;> cases e
  · obtain ⟨v, rfl, dv1⟩ := one_of dv
    cases dv1 with
    | tup h1 h2 => exact ⟨_, _, rfl, .inr (Evl.ex_t s h1), fun l hl => nw_new s hl h2 fin⟩
  · obtain ⟨v, rfl, dv1⟩ := one_of dv
    cases dv1 with
    | lst h1 h2 => exact ⟨_, _, rfl, .inl (SqL.of (s _ _ h1)), fun l hl => nw_new s hl h2 fin⟩
theorem c_list (hK : X.K = c.K) : CallR X (.type "list") (fun xs H Q => ∃ p ys, xs = [.ref p] ∧ (SqL c.K H p ys ∨ SqT c.K H p ys) ∧ ∀ l, H l = none → Q (.ref l) (upd H l (.lst ys))) := by rw [← hK]; exact call_list_of
/-- ints in a row -/
def intL : List D → Option (List Int)
  | [] => some []
  | .int i :: ds => (intL ds).map (i :: ·)
  | _ => none
def kSum : List D → Option D
  | [.lst ds] => (intL ds).map fun ns => .int ns.sum
  | _ => none
def bls : List D → Option (List Bool)
  | [] => some []
  | .bl i :: ds => (bls ds).map (i :: ·)
  | _ => none
theorem bls_get : ∀ {ds : List D} {ns : List Bool} {ha : Option Addr} {G : Hp} {vs : List V}, bls ds = some ns → DqAll c ha G vs ds → vs = ns.map V.bl
  | [], ns, _, _, _, e, h => by cases e; cases h; rfl
  | d :: ds, ns, _, _, _, e, h => by
    cases h with
    | cons h t =>
      cases h with
      | bl i =>
        unfold bls at e
        cases q : bls ds with
        | none => rw [q] at e; cases e
        | some ms =>
          rw [q] at e
          cases e
          rw [bls_get q t]
          rfl
      | _ => cases e
def kAll : List D → Option D
  | [.lst ds] => (bls ds).map fun ns => .bl (ns.all id)
  | _ => none
theorem k_all : CaD c (rAll c.K) kAll := by
  intro ha G H ds d vs Q s dv e fin
  unfold kAll at e
  split at e
  · rename_i ds
    obtain ⟨v, rfl, dv1⟩ := one_of dv
    cases dv1 with
    | lst h1 h2 =>
      cases q : bls ds with
      | none => rw [q] at e; cases e
      | some ns =>
        rw [q] at e
        cases e
        have z := bls_get q h2
        subst z
        exact ⟨_, ns, rfl, SqL.of (s _ _ h1), fin _ G H (Mv.refl s) (Same.refl _) (.bl _)⟩
  · cases e
theorem c_all (hc : X.calm = true) (hK : X.K = c.K) : CallR X (.builtin "all") (rAll c.K) := by rw [← hK]; exact cr_all hc
end
end Fw
namespace Fw
open PySem PySem.Spec PyProof.Rows L2 Dz Vz
section
variable {X : Cx} {W : WX} {c : Cn} {e a b e2 : Expr} {es : List Expr} {pos : Pos} {ta tb te : TE} {t : TT} {f fa fb fc : EF D} {g ga gb : EF Bool} {fs : EF (List D)}
theorem c_eqD (hu : X.A.units + 64 < cLine) (hK : X.K = c.K) : OpR X (compareOp .Eq) (rEqD c.K) := by rw [← hK]; exact op_eqD hu
theorem c_neD (hu : X.A.units + 64 < cLine) (hK : X.K = c.K) : OpR X (compareOp .NotEq) (rNeD c.K) := by rw [← hK]; exact op_neD hu
def tyS : D → Option String
  | .non => some "NoneType"
  | .bl _ => some "bool"
  | .int _ => some "int"
  | .str _ => some "str"
  | .lst _ => some "list"
  | .tup _ => some "tuple"
  | _ => none
def isS (n : String) (d : D) : Option Bool := match d with
  | .ins _ _ => some false
  | _ => (tyS d).map fun t => isaB t n
theorem kit_bS {K : PySem.W.Frag} {t n : String} (ht : t ∈ (["NoneType", "bool", "int", "str", "list", "tuple"] : List String)) (hn : n ∈ (["int", "bool", "str", "list", "tuple", "dict"] : List String)) : PySem.W.kitOne K (.type t) (.type n) = some (isaB t n) := by
  simp only [List.mem_cons, List.not_mem_nil, or_false] at ht hn
  rcases ht with rfl | rfl | rfl | rfl | rfl | rfl <;> rcases hn with rfl | rfl | rfl | rfl | rfl | rfl <;> kernel_rfl
theorem ty_dq {ha : Option Addr} {G H : Hp} {v : V} {d : D} {t : String} (s : Same G H) (h : Dq c ha G v d) (e : tyS d = some t) : TyX c.K H v (.type t) ∧ t ∈ (["NoneType", "bool", "int", "str", "list", "tuple"] : List String) := by
  cases h with
  | non => cases e; exact ⟨.base .non, by simp⟩
  | bl b => cases e; exact ⟨.base (.bl b), by simp⟩
  | int i => cases e; exact ⟨.base (.int i), by simp⟩
  | str x => cases e; exact ⟨.base (.str x), by simp⟩
  | lst h1 _ => cases e; exact ⟨.base (.lst (s _ _ h1)), by simp⟩
  | tup h1 _ =>
    cases e
    refine ⟨?_, by simp⟩
    rcases Evl.ex_t s h1 with (hs | ⟨o, hs⟩) | ⟨o, its, n, hk, hc, _⟩
    · exact .base (.tup hs)
    · exact .fTuple hs
    · exact .kTuple hk hc
  | ins _ _ _ _ => cases e
/-- what is asked of object.__class__ -/
structure GtK (K : PySem.W.Frag) : Prop where
  hn : PySem.W.specialIn K (.builtin "object.__class__") "__get__" = some (some (.builtin "getset_descriptor.__get__"))
  ht : PySem.W.takesIn K (.builtin "object.__class__") = some true
theorem is_ty {ha : Option Addr} {G H : Hp} {v : V} {d : D} {n0 : String} {k0 : Bool} (gt : GtK c.K) (s : Same G H) (h : Dq c ha G v d) (e0 : isS n0 d = some k0) : ∃ t, TyX c.K H v t ∧ ∀ n k, n ∈ (["int", "bool", "str", "list", "tuple", "dict"] : List String) → isS n d = some k → PySem.W.kitOne c.K t (.type n) = some k := by
  cases h with
  | ins k1 k2 k3 k4 => exact ⟨_, .base (.ins (s _ _ k2) k3.cl k3.ca gt.hn gt.ht k3.mo), fun n k hn e => by cases e; exact k3.nb n hn⟩
  | non => exact ⟨_, (ty_dq s (.non : Dq c ha G .non .non) rfl).1, fun n k hn e => by cases e; exact kit_bS (by simp) hn⟩
  | bl b => exact ⟨_, (ty_dq s (.bl b : Dq c ha G _ _) rfl).1, fun n k hn e => by cases e; exact kit_bS (by simp) hn⟩
  | int b => exact ⟨_, (ty_dq s (.int b : Dq c ha G _ _) rfl).1, fun n k hn e => by cases e; exact kit_bS (by simp) hn⟩
  | str b => exact ⟨_, (ty_dq s (.str b : Dq c ha G _ _) rfl).1, fun n k hn e => by cases e; exact kit_bS (by simp) hn⟩
  | lst h1 h2 => exact ⟨_, (ty_dq s (.lst h1 h2 : Dq c ha G _ _) rfl).1, fun n k hn e => by cases e; exact kit_bS (by simp) hn⟩
  | tup h1 h2 => exact ⟨_, (ty_dq s (.tup h1 h2 : Dq c ha G _ _) rfl).1, fun n k hn e => by cases e; exact kit_bS (by simp) hn⟩
def eIs (n : String) (f : EF D) : EF D := fun δ h => (f δ h).bind fun d h1 => Ex.of ((isS n d).map .bl) h1
theorem map_get {α β : Type} {o : Option α} {g : α → β} {y : β} (h : o.map g = some y) : ∃ x, o = some x ∧ g x = y := by
  cases o with
  | none => cases h
  | some x => exact ⟨x, rfl, Option.some.inj h⟩
theorem dx_is {n : String} {p : Pos} (gt : GtK c.K) (hn : n ∈ (["int", "bool", "str", "list", "tuple", "dict"] : List String)) (hg : Gl X "isinstance") (hm : X.mg "isinstance" = none) (ha : PE X a (rd c W f)) (hb : PE X b (tC (.ty n))) (hK : X.K = c.K := by rfl)
    (s1 : starEach (a :: [b]) X.env = (false, eval a X.env) :: starEach [b] X.env := by rfl) (s2 : starEach (b :: []) X.env = (false, eval b X.env) :: starEach [] X.env := by rfl) (hpl : (backTo pos (starEach [b] X.env)).any (·.1) = false := by rfl) : PE X (.Call (.Name "isinstance" p) [a, b] [] pos) (rd c W (eIs n f)) :=
  pe_to (pe_callB call_isi hg hm PyProof.Rows.boot_isinstance (pa_cons ha (pa_cons hb pa_nil s2) s1) (by decide) (by decide) s1 hpl) fun σ H Q x => by
    obtain ⟨ha, G0, B, G, δ, h, st, p⟩ := x
    refine ⟨ha, G0, B, G, δ, h, st, post_imp (post_bind p) fun d h1 G1 H1 af p1 v dv => ?_⟩
    obtain ⟨y, e, q⟩ := post_of p1
    obtain ⟨k, e1, rfl⟩ := map_get e
    obtain ⟨t, t1, t2⟩ := is_ty gt af.gh dv e1
    rw [hK]
    exact ⟨v, .ty n, t, .type n, k, rfl, .ty n, t1, t2 n k hn e1, q _ _ (.refl af.gh af.hd) _ (.bl k)⟩
def eIs2 (n m : String) (f : EF D) : EF D := fun δ h => (f δ h).bind fun d h1 => Ex.of (match isS n d, isS m d with
  | some k, some l => some (.bl (k || l))
  | _, _ => none) h1
theorem kit_any2 {K : PySem.W.Frag} {t : Value} {n m : String} {k l : Bool} (h1 : PySem.W.kitOne K t (.type n) = some k) (h2 : PySem.W.kitOne K t (.type m) = some l) : PySem.W.kitAny K t [.type n, .type m] = some (k || l) := by
  unfold PySem.W.kitAny
  rw [h1]
  unfold PySem.W.kitAny
  rw [h2]
  cases k <;> cases l <;> rfl
theorem dx_is2 {n m : String} {p p2 : Pos} {k2 : Nat} {b1 b2 : Expr} (gt : GtK c.K) (hn : n ∈ (["int", "bool", "str", "list", "tuple", "dict"] : List String)) (hm' : m ∈ (["int", "bool", "str", "list", "tuple", "dict"] : List String)) (hg : Gl X "isinstance") (hm : X.mg "isinstance" = none) (ha : PE X a (rd c W f)) (hb1 : PE X b1 (tC (.ty n))) (hb2 : PE X b2 (tC (.ty m))) (hK : X.K = c.K := by rfl)
    (s1 : starEach (a :: [.Tuple [b1, b2] k2 p2]) X.env = (false, eval a X.env) :: starEach [.Tuple [b1, b2] k2 p2] X.env := by rfl) (s2 : starEach (.Tuple [b1, b2] k2 p2 :: []) X.env = (false, eval (.Tuple [b1, b2] k2 p2) X.env) :: starEach [] X.env := by rfl) (hpl : (backTo pos (starEach [.Tuple [b1, b2] k2 p2] X.env)).any (·.1) = false := by rfl)
    (s3 : starEach [b1, b2] X.env = (false, eval b1 X.env) :: starEach [b2] X.env := by rfl) (s4 : starEach [b2] X.env = (false, eval b2 X.env) :: starEach [] X.env := by rfl) : PE X (.Call (.Name "isinstance" p) [a, .Tuple [b1, b2] k2 p2] [] pos) (rd c W (eIs2 n m f)) :=
  pe_to (pe_callB call_isiT hg hm PyProof.Rows.boot_isinstance (pa_cons ha (pa_cons (pe_tup (pa_cons hb1 (pa_cons hb2 pa_nil s4) s3)) pa_nil s2) s1) (by decide) (by decide) s1 hpl) fun σ H Q x => by
    obtain ⟨ha, G0, B, G, δ, h, st, p⟩ := x
    refine ⟨ha, G0, B, G, δ, h, st, post_imp (post_bind p) fun d h1 G1 H1 af p1 v dv => ⟨by show 2 ≤ sizeLine; decide, fun t ht => ?_⟩⟩
    obtain ⟨y, e, q⟩ := post_of p1
    cases e1 : isS n d with
    | none => simp only [e1] at e; cases e
    | some k =>
      cases e2 : isS m d with
      | none => simp only [e1, e2] at e; cases e
      | some l =>
        simp only [e1, e2] at e
        cases e
        have mv := Mv.hid (o := .tup [.ty n, .ty m]) af.gh ht
        have af2 : Af c ha G1 H1 G1 (upd H1 t (.tup [.ty n, .ty m])) h1 := .of af.gh af.hd mv (same_new ht)
        obtain ⟨u, t1, t2⟩ := is_ty gt af2.gh dv e1
        rw [hK]
        exact ⟨v, t, _, u, _, _, rfl, upd_same, .cons (.ty n) (.cons (.ty m) .nil), t1, kit_any2 (t2 n k hn e1) (t2 m l hm' e2), q _ _ af2 _ (.bl _)⟩
structure WalkD (c : Cn) (ha : Option Addr) (G0 : Hp) (J : It) (ds : List D) : Prop where
  go : ∀ i G H, Same G0 G → Same G H → i < ds.length → J.go i H
  yld : ∀ i G H x H' d, Same G0 G → Same G H → ds[i]? = some d → J.yld i H x H' → ∃ G', Mv G H G' H' ∧ Same H H' ∧ Dq c ha G' x d
  stop : ∀ G H, Same G0 G → Same G H → J.stop ds.length H
def ri (c : Cn) (W : WX) (f : EF (List D)) : TI := fun σ H R => ∃ ha G0 B G δ h, Sta c ha G0 B G H σ δ h ∧ Post c ha W σ G H (f δ h) fun ds _ G' H' => ∀ J, WalkD c ha G' J ds → R J H'
theorem pi_to {tg it : Expr} {t : TI} (p : PI X tg it t) (i : ∀ σ H R, ri c W fs σ H R → t σ H R) : PI X tg it (ri c W fs) := ⟨fun pins s σ H R I h => p.run pins s σ H R I (i σ H R h)⟩
theorem wd_list {ha : Option Addr} {G : Hp} {a : Addr} {xs : List V} {ds : List D} (h1 : G a = some (.lst xs)) (h2 : DqAll c ha G xs ds) : WalkD c ha G (Itl c.K a) ds where
  go := fun i G' H s t hi => walk_list.goes i H (by rw [dqAll_len h2]; exact hi) (SqL.of (t _ _ (s _ _ h1)))
  yld := fun i G' H x H' d s t e y => by
    obtain ⟨rfl, hx⟩ := walk_list.yields i H x H' (by rw [dqAll_len h2]; exact (List.getElem?_eq_some_iff.mp e).1) (SqL.of (t _ _ (s _ _ h1))) y
    obtain ⟨x', e1, e2⟩ := dqAll_at h2 e
    rw [hx] at e1
    cases e1
    exact ⟨G', Mv.refl t, Same.refl _, dq_mono s e2⟩
  stop := fun G' H s t => ⟨xs, SqL.of (t _ _ (s _ _ h1)), by rw [dqAll_len h2]; exact Nat.le_refl _⟩
theorem wd_tup {ha : Option Addr} {G : Hp} {a : Addr} {xs : List V} {ds : List D} (h1 : SqT c.K G a xs) (h2 : DqAll c ha G xs ds) : WalkD c ha G (Itt c.K a) ds where
  go := fun i G' H s t hi => walk_tup.goes i H (by rw [dqAll_len h2]; exact hi) (Evl.ex_t t (Evl.ex_t s h1))
  yld := fun i G' H x H' d s t e y => by
    obtain ⟨rfl, hx⟩ := walk_tup.yields i H x H' (by rw [dqAll_len h2]; exact (List.getElem?_eq_some_iff.mp e).1) (Evl.ex_t t (Evl.ex_t s h1)) y
    obtain ⟨x', e1, e2⟩ := dqAll_at h2 e
    rw [hx] at e1
    cases e1
    exact ⟨G', Mv.refl t, Same.refl _, dq_mono s e2⟩
  stop := fun G' H s t => ⟨xs, Evl.ex_t t (Evl.ex_t s h1), by rw [dqAll_len h2]; exact Nat.le_refl _⟩
def itS : D → Option (List D)
  | .tup ds => some ds
  | .lst ds => some ds
  | _ => none
def iSeq (f : EF D) : EF (List D) := fun δ h => (f δ h).bind fun d h1 => Ex.of (itS d) h1
theorem di_seq {tg : Expr} (p : PE X e (rd c W f)) (hK : X.K = c.K := by rfl) : PI X tg e (ri c W (iSeq f)) := pi_to (pi_or (pi_list p) (pi_tup p)) fun σ H R x => by
  rw [hK]
  obtain ⟨ha, G0, B, G, δ, h, st, p⟩ := x
  unfold iSeq at p
  cases q : f δ h with
  | bad => rw [q] at p; exact p.elim
  | exc n fs h1 => rw [q] at p; exact .inl ⟨ha, G0, B, G, δ, h, st, by rw [q]; exact p⟩
  | ok d h1 =>
    rw [q] at p
    obtain ⟨ds, e, k⟩ := post_of p
    cases d <;> first | (cases e; done) | skip
    · cases e
      refine .inr ⟨ha, G0, B, G, δ, h, st, ?_⟩
      rw [q]
      intro G1 H1 af v dv
      cases dv with
      | tup h1 h2 => exact ⟨_, rfl, ⟨_, Evl.ex_t af.gh h1⟩, k G1 H1 af _ (wd_tup h1 h2)⟩
    · cases e
      refine .inl ⟨ha, G0, B, G, δ, h, st, ?_⟩
      rw [q]
      intro G1 H1 af v dv
      cases dv with
      | lst h1 h2 => exact ⟨_, rfl, ⟨_, SqL.of (af.gh _ _ h1)⟩, k G1 H1 af _ (wd_list h1 h2)⟩
/-- lo, lo + 1, .. -/
def rgD (lo : Int) (n : Nat) : List D := (List.range n).map fun (i : Nat) => D.int (lo + (i : Int))
theorem rgD_len {lo : Int} {n : Nat} : (rgD lo n).length = n := by unfold rgD; rw [List.length_map, List.length_range]
theorem rgD_at {lo : Int} {n i : Nat} {d : D} (e : (rgD lo n)[i]? = some d) : i < n ∧ d = .int (lo + (i : Int)) := by
  unfold rgD at e
  rw [List.getElem?_map] at e
  by_cases hi : i < n
  · rw [List.getElem?_range hi] at e
    cases e
    exact ⟨hi, rfl⟩
  · rw [List.getElem?_eq_none (by simpa using hi)] at e
    cases e
theorem wd_range {ha : Option Addr} {G : Hp} {lo : Int} {n : Nat} : WalkD c ha G (Itr lo n) (rgD lo n) where
  go := fun i G' H s t hi => by rw [rgD_len] at hi; exact hi
  yld := fun i G' H x H' d s t e y => by
    obtain ⟨rfl, rfl⟩ := y
    obtain ⟨hi, rfl⟩ := rgD_at e
    exact ⟨G', Mv.refl t, Same.refl _, .int _⟩
  stop := fun G' H s t => by rw [rgD_len]; exact Nat.le_refl _
/-- small; no way that counts down from a great number, whatever i is -/
def rgOk : Int → Bool
  | .ofNat n => Nat.ble n 1000000
  | .negSucc n => Nat.ble n 999999
theorem rgOk_get {i : Int} (h : rgOk i = true) : -1000000 ≤ i ∧ i ≤ 1000000 := by
  cases i with
  | ofNat n =>
    have : n ≤ 1000000 := Nat.le_of_ble_eq_true h
    rw [Int.ofNat_eq_natCast]
    exact ⟨by omega, by omega⟩
  | negSucc n =>
    have : n ≤ 999999 := Nat.le_of_ble_eq_true h
    exact ⟨by omega, by omega⟩
theorem rgOk_of {i : Int} (h1 : -1000000 ≤ i) (h2 : i ≤ 1000000) : rgOk i = true := by
  cases i with
  | ofNat n =>
    rw [Int.ofNat_eq_natCast] at h2
    exact Nat.ble_eq_true_of_le (by omega)
  | negSucc n => exact Nat.ble_eq_true_of_le (by omega)
def rg1 : List D → Option (List D)
  | [.int j] => if rgOk j then some (rgD 0 j.toNat) else none
  | _ => none
def rg2 : List D → Option (List D)
  | [.int i, .int j] => if rgOk i && rgOk j then some (rgD i (j - i).toNat) else none
  | _ => none
def iRg (k : List D → Option (List D)) (fs : EF (List D)) : EF (List D) := fun δ h => (fs δ h).bind fun ds h1 => Ex.of (k ds) h1
theorem di_rg1 {tg : Expr} {p : Pos} (hg : Gl X "range") (hm : X.mg "range" = none) (ha : PA X [a] (ra c W fs)) (hs : starEach [a] X.env = [(false, eval a X.env)] := by rfl) : PI X tg (.Call (.Name "range" p) [a] [] pos) (ri c W (iRg rg1 fs)) := pi_to (pi_range1 hg hm ha hs) fun σ H R x => by
  obtain ⟨ha, G0, B, G, δ, h, st, p⟩ := x
  refine ⟨ha, G0, B, G, δ, h, st, post_imp (post_bind p) fun ds h1 G1 H1 af p1 vs dv => ?_⟩
  obtain ⟨is, e, k⟩ := post_of p1
  unfold rg1 at e
  split at e
  · obtain ⟨z, rfl⟩ := if_get e
    obtain ⟨v, rfl, dv1⟩ := one_of dv
    obtain ⟨z1, z2⟩ := rgOk_get z
    cases dv1
    exact ⟨_, rfl, by omega, by omega, k _ _ (.refl af.gh af.hd) _ wd_range⟩
  · cases e
theorem di_rg2 {tg : Expr} {p : Pos} (hg : Gl X "range") (hm : X.mg "range" = none) (ha : PA X [a, b] (ra c W fs)) (hs : starEach [a, b] X.env = [(false, eval a X.env), (false, eval b X.env)] := by rfl) (hs2 : starEach [b] X.env = [(false, eval b X.env)] := by rfl) : PI X tg (.Call (.Name "range" p) [a, b] [] pos) (ri c W (iRg rg2 fs)) := pi_to (pi_range2 hg hm ha hs hs2) fun σ H R x => by
  obtain ⟨ha, G0, B, G, δ, h, st, p⟩ := x
  refine ⟨ha, G0, B, G, δ, h, st, post_imp (post_bind p) fun ds h1 G1 H1 af p1 vs dv => ?_⟩
  obtain ⟨is, e, k⟩ := post_of p1
  unfold rg2 at e
  split at e
  · obtain ⟨z, rfl⟩ := if_get e
    rw [Bool.and_eq_true] at z
    obtain ⟨v, w, rfl, dv1, dw⟩ := two_of dv
    obtain ⟨z1, z2⟩ := rgOk_get z.1
    obtain ⟨z3, z4⟩ := rgOk_get z.2
    cases dv1
    cases dw
    exact ⟨_, _, rfl, ⟨by omega, by omega, by omega, by omega⟩, k _ _ (.refl af.gh af.hd) _ wd_range⟩
  · cases e
/-- pairs, each new -/
def zipD : List D → List D → List D
  | x :: xs, y :: ys => .tup [x, y] :: zipD xs ys
  | _, _ => []
theorem zipD_at : ∀ {xs ys : List D} {i : Nat} {d : D}, (zipD xs ys)[i]? = some d → ∃ x y, xs[i]? = some x ∧ ys[i]? = some y ∧ d = .tup [x, y]
  | [], _, i, d, e => by simp [zipD] at e
  | _ :: _, [], i, d, e => by simp [zipD] at e
  | x :: xs, y :: ys, 0, d, e => by
    unfold zipD at e
    exact ⟨x, y, rfl, rfl, (Option.some.inj e).symm⟩
  | x :: xs, y :: ys, i + 1, d, e => by
    unfold zipD at e
    exact zipD_at (i := i) (by simpa using e)
theorem zipD_len : ∀ {xs ys : List D}, (zipD xs ys).length = min xs.length ys.length
  | [], _ => by simp [zipD]
  | _ :: _, [] => by simp [zipD]
  | x :: xs, y :: ys => by
    unfold zipD
    rw [List.length_cons, List.length_cons, List.length_cons, zipD_len]
    omega
theorem zipD_get {xs ys : List D} {i : Nat} (hi : i < (zipD xs ys).length) : i < xs.length ∧ i < ys.length := by rw [zipD_len] at hi; omega
theorem pair_new {ha : Option Addr} {G H : Hp} {T : Addr} {x y : V} {d1 d2 : D} (t : Same G H) (hT : H T = none) (h1 : Dq c ha G x d1) (h2 : Dq c ha G y d2) : ∃ G', Mv G H G' (upd H T (.tup [x, y])) ∧ Same H (upd H T (.tup [x, y])) ∧ Dq c ha G' (.ref T) (.tup [d1, d2]) := by
  have m := Mv.new (o := .tup [x, y]) t hT
  exact ⟨_, m, same_new hT, .tup (SqT.of upd_same) (.cons (dq_mono m.gg h1) (.cons (dq_mono m.gg h2) .nil))⟩
theorem wd_zipL {ha : Option Addr} {G : Hp} {a b : Addr} {xs ys : List V} {ds es : List D} (h1 : G a = some (.lst xs)) (h2 : DqAll c ha G xs ds) (h3 : G b = some (.lst ys)) (h4 : DqAll c ha G ys es) : WalkD c ha G (Itz c.K a b) (zipD ds es) where
  go := fun i G' H s t hi => by
    obtain ⟨i1, i2⟩ := zipD_get hi
    rw [← dqAll_len h2] at i1
    rw [← dqAll_len h4] at i2
    exact ⟨xs, ys, xs[i], ys[i], SqL.of (t _ _ (s _ _ h1)), SqL.of (t _ _ (s _ _ h3)), List.getElem?_eq_getElem i1, List.getElem?_eq_getElem i2⟩
  yld := fun i G' H x H' d s t e y => by
    obtain ⟨T, u, v, rfl, hT, rfl, k1, k2⟩ := y
    obtain ⟨d1, d2, e1, e2, rfl⟩ := zipD_at e
    obtain ⟨u', e3, e4⟩ := dqAll_at h2 e1
    obtain ⟨v', e5, e6⟩ := dqAll_at h4 e2
    rw [k1 xs (SqL.of (t _ _ (s _ _ h1)))] at e3
    rw [k2 ys (SqL.of (t _ _ (s _ _ h3)))] at e5
    cases e3
    cases e5
    exact pair_new t hT (dq_mono s e4) (dq_mono s e6)
  stop := fun G' H s t => by
    refine ⟨xs, ys, SqL.of (t _ _ (s _ _ h1)), SqL.of (t _ _ (s _ _ h3)), ?_⟩
    rw [zipD_len, dqAll_len h2, dqAll_len h4]
    omega
theorem wd_zipT {ha : Option Addr} {G : Hp} {a b : Addr} {xs ys : List V} {ds es : List D} (h1 : SqT c.K G a xs) (h2 : DqAll c ha G xs ds) (h3 : SqT c.K G b ys) (h4 : DqAll c ha G ys es) : WalkD c ha G (RZ.ItzT c.K a b) (zipD ds es) where
  go := fun i G' H s t hi => by
    obtain ⟨i1, i2⟩ := zipD_get hi
    rw [← dqAll_len h2] at i1
    rw [← dqAll_len h4] at i2
    exact ⟨xs, ys, xs[i], ys[i], Evl.ex_t t (Evl.ex_t s h1), Evl.ex_t t (Evl.ex_t s h3), List.getElem?_eq_getElem i1, List.getElem?_eq_getElem i2⟩
  yld := fun i G' H x H' d s t e y => by
    obtain ⟨T, u, v, rfl, hT, rfl, k1, k2⟩ := y
    obtain ⟨d1, d2, e1, e2, rfl⟩ := zipD_at e
    obtain ⟨u', e3, e4⟩ := dqAll_at h2 e1
    obtain ⟨v', e5, e6⟩ := dqAll_at h4 e2
    rw [k1 xs (Evl.ex_t t (Evl.ex_t s h1))] at e3
    rw [k2 ys (Evl.ex_t t (Evl.ex_t s h3))] at e5
    cases e3
    cases e5
    exact pair_new t hT (dq_mono s e4) (dq_mono s e6)
  stop := fun G' H s t => by
    refine ⟨xs, ys, Evl.ex_t t (Evl.ex_t s h1), Evl.ex_t t (Evl.ex_t s h3), ?_⟩
    rw [zipD_len, dqAll_len h2, dqAll_len h4]
    omega
theorem wd_zipX {ha : Option Addr} {G : Hp} {a b : Addr} {xs ys : List V} {ds es : List D} (h1 : G a = some (.lst xs)) (h2 : DqAll c ha G xs ds) (h3 : SqT c.K G b ys) (h4 : DqAll c ha G ys es) : WalkD c ha G (Zx.ItzX c.K a b) (zipD ds es) where
  go := fun i G' H s t hi => by
    obtain ⟨i1, i2⟩ := zipD_get hi
    rw [← dqAll_len h2] at i1
    rw [← dqAll_len h4] at i2
    exact ⟨xs, ys, xs[i], ys[i], SqL.of (t _ _ (s _ _ h1)), Evl.ex_t t (Evl.ex_t s h3), List.getElem?_eq_getElem i1, List.getElem?_eq_getElem i2⟩
  yld := fun i G' H x H' d s t e y => by
    obtain ⟨T, u, v, rfl, hT, rfl, k1, k2⟩ := y
    obtain ⟨d1, d2, e1, e2, rfl⟩ := zipD_at e
    obtain ⟨u', e3, e4⟩ := dqAll_at h2 e1
    obtain ⟨v', e5, e6⟩ := dqAll_at h4 e2
    rw [k1 xs (SqL.of (t _ _ (s _ _ h1)))] at e3
    rw [k2 ys (Evl.ex_t t (Evl.ex_t s h3))] at e5
    cases e3
    cases e5
    exact pair_new t hT (dq_mono s e4) (dq_mono s e6)
  stop := fun G' H s t => by
    refine ⟨xs, ys, SqL.of (t _ _ (s _ _ h1)), Evl.ex_t t (Evl.ex_t s h3), ?_⟩
    rw [zipD_len, dqAll_len h2, dqAll_len h4]
    omega
def kZip : List D → Option (List D)
  | [.lst xs, .lst ys] => some (zipD xs ys)
  | [.tup xs, .tup ys] => some (zipD xs ys)
  | [.lst xs, .tup ys] => some (zipD xs ys)
  | _ => none
theorem di_zip {p tpos : Pos} {elts : List Expr} {kk : Nat} (hg : Gl X "zip") (hm : X.mg "zip" = none) (ha : PA X [a, b] (ra c W fs)) (hK : X.K = c.K := by rfl)
    (hs : starEach [a, b] X.env = (false, eval a X.env) :: starEach [b] X.env := by rfl) (hpl : (backTo pos (starEach [b] X.env)).any (·.1) = false := by rfl) : PI X (.Tuple elts kk tpos) (.Call (.Name "zip" p) [a, b] [] pos) (ri c W (iRg kZip fs)) := pi_to (Zx.pi_zipX hg hm ha hs hpl) fun σ H R x => by
  obtain ⟨ha, G0, B, G, δ, h, st, p⟩ := x
  refine ⟨ha, G0, B, G, δ, h, st, post_imp (post_bind p) fun ds h1 G1 H1 af p1 vs dv => ?_⟩
  obtain ⟨is, e, k⟩ := post_of p1
  rw [hK]
  unfold kZip at e
  split at e
  · cases e
    obtain ⟨v, w, rfl, dv1, dw⟩ := two_of dv
    cases dv1 with
    | lst k1 k2 =>
      cases dw with
      | lst k3 k4 => exact ⟨_, _, _, _, rfl, .inl ⟨SqL.of (af.gh _ _ k1), SqL.of (af.gh _ _ k3), k _ _ (.refl af.gh af.hd) _ (wd_zipL k1 k2 k3 k4)⟩⟩
  · cases e
    obtain ⟨v, w, rfl, dv1, dw⟩ := two_of dv
    cases dv1 with
    | tup k1 k2 =>
      cases dw with
      | tup k3 k4 => exact ⟨_, _, _, _, rfl, .inr (.inl ⟨Evl.ex_t af.gh k1, Evl.ex_t af.gh k3, k _ _ (.refl af.gh af.hd) _ (wd_zipT k1 k2 k3 k4)⟩)⟩
  · cases e
    obtain ⟨v, w, rfl, dv1, dw⟩ := two_of dv
    cases dv1 with
    | lst k1 k2 =>
      cases dw with
      | tup k3 k4 => exact ⟨_, _, _, _, rfl, .inr (.inr ⟨SqL.of (af.gh _ _ k1), Evl.ex_t af.gh k3, k _ _ (.refl af.gh af.hd) _ (wd_zipX k1 k2 k3 k4)⟩)⟩
  · cases e
def enD : Nat → List D → List D
  | _, [] => []
  | i, d :: ds => .tup [.int (i : Nat), d] :: enD (i + 1) ds
theorem enD_len : ∀ {ds : List D} {i : Nat}, (enD i ds).length = ds.length
  | [], _ => rfl
  | _ :: ds, i => congrArg Nat.succ enD_len
theorem enD_at : ∀ {ds : List D} {i j : Nat} {d : D}, (enD i ds)[j]? = some d → ∃ x, ds[j]? = some x ∧ d = .tup [.int ((i + j : Nat) : Int), x]
  | [], i, j, d, e => by simp [enD] at e
  | x :: ds, i, 0, d, e => by
    unfold enD at e
    exact ⟨x, rfl, (Option.some.inj e).symm⟩
  | x :: ds, i, j + 1, d, e => by
    unfold enD at e
    obtain ⟨y, h1, h2⟩ := enD_at (i := i + 1) (j := j) (by simpa using e)
    exact ⟨y, by simpa using h1, by rw [h2]; congr 4; omega⟩
theorem wd_enL {ha : Option Addr} {G : Hp} {a : Addr} {xs : List V} {ds : List D} (h1 : G a = some (.lst xs)) (h2 : DqAll c ha G xs ds) : WalkD c ha G (Ite c.K a) (enD 0 ds) where
  go := fun i G' H s t hi => by
    rw [enD_len, ← dqAll_len h2] at hi
    exact ⟨xs, xs[i], SqL.of (t _ _ (s _ _ h1)), List.getElem?_eq_getElem hi⟩
  yld := fun i G' H x H' d s t e y => by
    obtain ⟨T, u, rfl, hT, rfl, k1⟩ := y
    obtain ⟨d1, e1, rfl⟩ := enD_at e
    obtain ⟨u', e3, e4⟩ := dqAll_at h2 e1
    rw [k1 xs (SqL.of (t _ _ (s _ _ h1)))] at e3
    cases e3
    rw [Nat.zero_add]
    exact pair_new t hT (.int _) (dq_mono s e4)
  stop := fun G' H s t => ⟨xs, SqL.of (t _ _ (s _ _ h1)), by rw [enD_len, dqAll_len h2]; exact Nat.le_refl _⟩
theorem wd_enT {ha : Option Addr} {G : Hp} {a : Addr} {xs : List V} {ds : List D} (h1 : SqT c.K G a xs) (h2 : DqAll c ha G xs ds) : WalkD c ha G (Gn.IteT c.K a) (enD 0 ds) where
  go := fun i G' H s t hi => by
    rw [enD_len, ← dqAll_len h2] at hi
    exact ⟨xs, xs[i], Evl.ex_t t (Evl.ex_t s h1), List.getElem?_eq_getElem hi⟩
  yld := fun i G' H x H' d s t e y => by
    obtain ⟨T, u, rfl, hT, rfl, k1⟩ := y
    obtain ⟨d1, e1, rfl⟩ := enD_at e
    obtain ⟨u', e3, e4⟩ := dqAll_at h2 e1
    rw [k1 xs (Evl.ex_t t (Evl.ex_t s h1))] at e3
    cases e3
    rw [Nat.zero_add]
    exact pair_new t hT (.int _) (dq_mono s e4)
  stop := fun G' H s t => ⟨xs, Evl.ex_t t (Evl.ex_t s h1), by rw [enD_len, dqAll_len h2]⟩
def kEnum : List D → Option (List D)
  | [.lst xs] => some (enD 0 xs)
  | [.tup xs] => some (enD 0 xs)
  | _ => none
theorem di_enum {p tpos : Pos} {elts : List Expr} {kk : Nat} (hg : Gl X "enumerate") (hm : X.mg "enumerate" = none) (ha : PA X [a] (ra c W fs)) (hK : X.K = c.K := by rfl)
    (hs : starEach [a] X.env = [(false, eval a X.env)] := by rfl) : PI X (.Tuple elts kk tpos) (.Call (.Name "enumerate" p) [a] [] pos) (ri c W (iRg kEnum fs)) := pi_to (Gn.pi_enumA hg hm ha hs) fun σ H R x => by
  obtain ⟨ha, G0, B, G, δ, h, st, p⟩ := x
  refine ⟨ha, G0, B, G, δ, h, st, post_imp (post_bind p) fun ds h1 G1 H1 af p1 vs dv => ?_⟩
  obtain ⟨is, e, k⟩ := post_of p1
  rw [hK]
  unfold kEnum at e
  split at e
  · cases e
    obtain ⟨v, rfl, dv1⟩ := one_of dv
    cases dv1 with
    | lst k1 k2 => exact ⟨_, _, rfl, .inl ⟨SqL.of (af.gh _ _ k1), k _ _ (.refl af.gh af.hd) _ (wd_enL k1 k2)⟩⟩
  · cases e
    obtain ⟨v, rfl, dv1⟩ := one_of dv
    cases dv1 with
    | tup k1 k2 => exact ⟨_, _, rfl, .inr ⟨Evl.ex_t af.gh k1, k _ _ (.refl af.gh af.hd) _ (wd_enT k1 k2)⟩⟩
  · cases e
end
end Fw
namespace Fw
open PySem PySem.Spec PyProof.Rows L2 Dz Vz
/-- nothing gets out -/
def WF : WX := fun _ _ _ _ => False
def Ex.nox {α : Type} : Ex α → Ex α
  | .ok a h => .ok a h
  | _ => .bad
def wipeD (δ : DE) : List Nat → DE
  | [] => δ
  | v :: vs => (wipeD δ vs).set v none
def lcGo (bind : D → DE → Option DE) (test : EF Bool) (elt : EF D) (δ : DE) : List D → D → Ex (List D)
  | [], h => .ok [] h
  | x :: xs, h => match bind x δ with
    | none => .bad
    | some δ2 => (test δ2 h).nox.bind fun b h2 => if b then (elt δ2 h2).nox.bind fun y h3 => (lcGo bind test elt δ xs h3).bind fun ys h4 => .ok (y :: ys) h4 else lcGo bind test elt δ xs h2
def eLcL (vs : List Nat) (it : EF (List D)) (bind : D → DE → Option DE) (test : EF Bool) (elt : EF D) : EF (List D) := fun δ h => (it δ h).bind fun ds h1 => if szOk ds.length then lcGo bind test elt (wipeD δ vs) ds h1 else .bad
def eLc (vs : List Nat) (it : EF (List D)) (bind : D → DE → Option DE) (test : EF Bool) (elt : EF D) : EF D := fun δ h => (eLcL vs it bind test elt δ h).bind fun ys h2 => .ok (.hl ys) h2
def tYesD : EF Bool := fun _ h => .ok true h
section
variable {X : Cx} {W : WX} {c : Cn} {e a b e2 : Expr} {es : List Expr} {pos : Pos} {ta tb te : TE} {f fa fb fc : EF D} {ga gb : EF Bool} {fs : EF (List D)}
theorem wipe_set {i : Nat} {o : Option V} : ∀ {vs : List Nat} {σ : L2.St}, (i ∈ vs → wipe (σ.set i o) vs = wipe σ vs) ∧ (i ∉ vs → wipe (σ.set i o) vs = (wipe σ vs).set i o)
  | [], σ => ⟨fun h => (List.not_mem_nil h).elim, fun _ => rfl⟩
  | v :: vs, σ => by
    obtain ⟨h1, h2⟩ := wipe_set (i := i) (o := o) (vs := vs) (σ := σ)
    constructor
    · intro hm
      show (wipe (σ.set i o) vs).set v none = (wipe σ vs).set v none
      by_cases hi : i ∈ vs
      · rw [h1 hi]
      · rw [h2 hi]
        rcases List.mem_cons.mp hm with e | e
        · subst e
          rw [List.set_set]
        · exact absurd e hi
    · intro hm
      have hv : i ≠ v := fun z => hm (by rw [z]; exact List.mem_cons_self)
      have hi : i ∉ vs := fun z => hm (List.mem_cons_of_mem _ z)
      show (wipe (σ.set i o) vs).set v none = ((wipe σ vs).set v none).set i o
      rw [h2 hi, List.set_comm _ _ hv]
theorem wipe_sub {σ : L2.St} {vs : List Nat} : ∀ {us : List Nat}, (∀ u ∈ us, u ∈ vs) → wipe (wipe σ us) vs = wipe σ vs
  | [], _ => rfl
  | u :: us, h => by
    show wipe ((wipe σ us).set u none) vs = wipe σ vs
    rw [wipe_set.1 (h u List.mem_cons_self)]
    exact wipe_sub fun x hx => h x (List.mem_cons_of_mem _ hx)
theorem wipe_wipe {σ : L2.St} {vs : List Nat} : wipe (wipe σ vs) vs = wipe σ vs := wipe_sub fun _ h => h
theorem Sta.wipe1 {ha : Option Addr} {G0 B G H : Hp} {σ : L2.St} {δ : DE} {h : D} (st : Sta c ha G0 B G H σ δ h) (i : Nat) (o : Option V) : Sta c ha G0 B G H (σ.set i o) (δ.set i none) h := by
  obtain ⟨fp, os, n, k⟩ := st.sl
  obtain ⟨fp', o', sb⟩ := ownS_wipe (i := i) o os
  exact ⟨⟨fp', o', n.sublist sb, fun a ha => k a (sb.subset ha)⟩, st.mv, st.bt, st.hd, st.hb⟩
theorem Sta.wipe {ha : Option Addr} {G0 B G H : Hp} {σ : L2.St} {δ : DE} {h : D} (st : Sta c ha G0 B G H σ δ h) : ∀ vs : List Nat, Sta c ha G0 B G H (L2.wipe σ vs) (wipeD δ vs) h
  | [] => st
  | v :: vs => (st.wipe vs).wipe1 v none
/-- a slot is stored with a thing at rest -/
theorem Sta.setD {ha : Option Addr} {G0 B G H : Hp} {σ : L2.St} {δ : DE} {h : D} {v : V} {d : D} (st : Sta c ha G0 B G H σ δ h) (i : Nat) (dv : Dq c ha G v d) : Sta c ha G0 B G H (σ.set i (some v)) (δ.set i (some d)) h := by
  obtain ⟨fp, os, n, k⟩ := st.sl
  obtain ⟨fp', o', h2⟩ := ownS_set (i := i) (.frz dv) os
  obtain ⟨n2, k2⟩ := h2 [] n
  exact ⟨⟨fp', o', n2, fun a hx => by rcases k2 a hx with z | z; exact nomatch z; exact k a z⟩, st.mv, st.bt, st.hd, st.hb⟩
/-- a target's binding -/
def BindD (c : Cn) (vs : List Nat) (g : TG) (bind : D → DE → Option DE) : Prop := ∀ {ha : Option Addr} {G0 B G H : Hp} {σ : L2.St} {δ δ2 : DE} {h d : D} {v : V} {Q : L2.St → Hp → Prop}, Sta c ha G0 B G H σ δ h → Dq c ha G v d → bind d δ = some δ2 → (∀ σ2, Sta c ha G0 B G H σ2 δ2 h → wipe σ2 vs = wipe σ vs → Q σ2 H) → g v σ H Q
def bNm (i : Nat) : D → DE → Option DE := fun d δ => some (δ.set i (some d))
theorem bd_nm {i : Nat} {vs : List Nat} (hi : i ∈ vs) : BindD c vs (gName i) (bNm i) := by
  intro ha G0 B G H σ δ δ2 h d v Q st dv e fin
  cases e
  exact fin _ (st.setD i dv) (wipe_set.1 hi)
def bAll : List (D → DE → Option DE) → List D → DE → Option DE
  | [], [], δ => some δ
  | b :: bs, d :: ds, δ => match b d δ with
    | some δ2 => bAll bs ds δ2
    | none => none
  | _, _, _ => none
def bTp (bs : List (D → DE → Option DE)) : D → DE → Option DE := fun d δ => match d with
  | .tup ds => bAll bs ds δ
  | _ => none
def BindA (c : Cn) (vs : List Nat) (g : TGs) (bs : List (D → DE → Option DE)) : Prop := ∀ {ha : Option Addr} {G0 B G H : Hp} {σ : L2.St} {δ δ2 : DE} {h : D} {ds : List D} {xs : List V} {Q : L2.St → Hp → Prop}, Sta c ha G0 B G H σ δ h → DqAll c ha G xs ds → bAll bs ds δ = some δ2 → (∀ σ2, Sta c ha G0 B G H σ2 δ2 h → wipe σ2 vs = wipe σ vs → Q σ2 H) → g xs σ H Q
theorem ba_nil {vs : List Nat} : BindA c vs gNil [] := by
  intro ha G0 B G H σ δ δ2 h ds xs Q st dv e fin
  cases dv with
  | nil => cases e; exact ⟨rfl, fin _ st rfl⟩
  | cons _ _ => cases e
theorem ba_cons {vs : List Nat} {g : TG} {gs : TGs} {b : D → DE → Option DE} {bs : List (D → DE → Option DE)} (h1 : BindD c vs g b) (h2 : BindA c vs gs bs) : BindA c vs (gCons g gs) (b :: bs) := by
  intro ha G0 B G H σ δ δ2 h ds xs Q st dv e fin
  cases dv with
  | nil => cases e
  | cons d1 d2 =>
    rename_i v d xs ds
    unfold bAll at e
    cases q : b d δ with
    | none => rw [q] at e; cases e
    | some δ1 =>
      rw [q] at e
      exact ⟨_, _, rfl, h1 st d1 q fun σ1 s1 w1 => h2 s1 d2 e fun σ2 s2 w2 => fin σ2 s2 (w2.trans w1)⟩
theorem bAll_len : ∀ {bs : List (D → DE → Option DE)} {ds : List D} {δ δ2 : DE}, bAll bs ds δ = some δ2 → ds.length = bs.length
  | [], [], _, _, _ => rfl
  | b :: bs, d :: ds, δ, δ2, e => by
    unfold bAll at e
    cases q : b d δ with
    | none => rw [q] at e; cases e
    | some δ1 =>
      rw [q] at e
      rw [List.length_cons, List.length_cons, bAll_len e]
  | [], _ :: _, _, _, e => by cases e
  | _ :: _, [], _, _, e => by cases e
theorem bd_tp {vs : List Nat} {gs : TGs} {bs : List (D → DE → Option DE)} {n : Nat} (hn : bs.length = n) (h2 : BindA c vs gs bs) : BindD c vs (gTup c.K n gs) (bTp bs) := by
  intro ha G0 B G H σ δ δ2 h d v Q st dv e fin
  cases dv with
  | tup h3 h4 => exact ⟨_, _, rfl, Evl.ex_t st.gh h3, by rw [dqAll_len h4, bAll_len e, hn], h2 st h4 e fin⟩
  | _ => cases e
theorem nox_ok {α : Type} {r : Ex α} {a : α} {h : D} (e : r.nox = .ok a h) : r = .ok a h := by
  cases r <;> first | exact e | cases e
theorem bind_ok {α β : Type} {r : Ex α} {k : α → D → Ex β} {b : β} {h : D} (e : r.bind k = .ok b h) : ∃ a h1, r = .ok a h1 ∧ k a h1 = .ok b h := by
  cases r with
  | ok a h1 => exact ⟨a, h1, rfl, e⟩
  | exc _ _ _ => cases e
  | bad => cases e
theorem lcGo_ne {bind : D → DE → Option DE} {test : EF Bool} {elt : EF D} {δ : DE} : ∀ {ds : List D} {h : D} {n : Str} {fs : List (Str × D)} {h2 : D}, lcGo bind test elt δ ds h ≠ .exc n fs h2
  | [], h, n, fs, h2, e => by cases e
  | d :: ds, h, n, fs, h2, e => by
    unfold lcGo at e
    cases q : bind d δ with
    | none => rw [q] at e; cases e
    | some δ2 =>
      simp only [q] at e
      cases q2 : test δ2 h with
      | ok b h3 =>
        rw [q2] at e
        cases b with
        | true =>
          have e' : ((elt δ2 h3).nox.bind fun y h3 => (lcGo bind test elt δ ds h3).bind fun ys h4 => .ok (y :: ys) h4) = .exc n fs h2 := e
          cases q3 : elt δ2 h3 with
          | ok y h4 =>
            rw [q3] at e'
            have e2 : ((lcGo bind test elt δ ds h4).bind fun ys h4 => Ex.ok (y :: ys) h4) = .exc n fs h2 := e'
            cases q4 : lcGo bind test elt δ ds h4 with
            | ok ys h5 => rw [q4] at e2; cases e2
            | exc n2 f2 h5 => exact lcGo_ne q4
            | bad => rw [q4] at e2; cases e2
          | exc _ _ _ => rw [q3] at e'; cases e'
          | bad => rw [q3] at e'; cases e'
        | false =>
          have e' : lcGo bind test elt δ ds h3 = .exc n fs h2 := e
          exact lcGo_ne e'
      | exc _ _ _ => rw [q2] at e; cases e
      | bad => rw [q2] at e; cases e
/-- a step of the walk: what was taken, what is left -/
structure LcI (c : Cn) (ha : Option Addr) (bind : D → DE → Option DE) (test : EF Bool) (elt : EF D) (δw : DE) (items all : List D) (hE : D) (G1 H1 : Hp) (Da : Addr) (i : Nat) (H : Hp) : Prop where
  ex : ∃ G h acc ds ys, Af c ha G1 H1 G H h ∧ H Da = some (.lst acc) ∧ G Da = none ∧ DqAll c ha G acc ds ∧ ds.length ≤ i ∧ lcGo bind test elt δw (items.drop i) h = .ok ys hE ∧ ds ++ ys = all
theorem af_put {ha : Option Addr} {G1 H1 G H : Hp} {h : D} {p : Addr} {o : HO} (af : Af c ha G1 H1 G H h) (hp : H1 p = none) (gp : G p = none) (hk : ∀ a, ha = some a → H1 a ≠ none) (hn : H p ≠ none) : Af c ha G1 H1 G (upd H p o) h := by
  refine ⟨af.mv.trans (Mv.put af.gh gp hn), fun b u n e => ?_, hok_keep af.hd (Same.refl _) fun a e => ?_⟩
  · rw [upd_ne fun z => by rw [z, hp] at e; cases e]
    exact af.bt b u n e
  · have hne := hk a e
    refine ⟨?_, upd_ne fun z => hne (by rw [z]; exact hp)⟩
    subst e
    exact (hok_at af.hd).1
theorem lc_run {ha : Option Addr} {bind : D → DE → Option DE} {g : TG} {vs : List Nat} {J : It} {items all : List D} {hE h1 : D} {G0 B G1 H1 : Hp} {σ : L2.St} {δ : DE} {Da : Addr} {Qd : Hp → Prop} (st : Sta c ha G0 B G1 H1 σ δ h1) (w : WalkD c ha G1 J items) (bd : BindD c vs g bind) (sz : szOk items.length = true)
    (hD : H1 Da = none) (go : lcGo bind ga f (wipeD δ vs) items h1 = .ok all hE)
    (fin : ∀ G H acc, Af c ha G1 H1 G H hE → H Da = some (.lst acc) → G Da = none → DqAll c ha G acc all → Qd H) : LcW J g (rt c WF ga) (rd c WF f) vs σ H1 Da Qd := by
  have hk := st.hne
  refine ⟨fun i m H => m = items.length - i ∧ i ≤ items.length ∧ LcI c ha bind ga f (wipeD δ vs) items all hE G1 H1 Da i H, ⟨_, rfl, Nat.zero_le _, ⟨G1, h1, [], [], all, ?_⟩⟩, ?_⟩
  · have a0 : Af c ha G1 H1 G1 (upd H1 Da (.lst [])) h1 := .of st.gh st.hd (Mv.hid st.gh hD) (same_new hD)
    exact ⟨a0, upd_same, old_none st.gh hD, .nil, Nat.zero_le _, go, rfl⟩
  · rintro i m H ⟨rfl, hi, ⟨G, h, acc, ds, ys, af, hDa, gD, da, hl, go, ea⟩⟩
    by_cases hlt : i < items.length
    · refine .inr ⟨w.go i G H af.gg af.gh hlt, fun H' => i + 1 ≤ items.length ∧ LcI c ha bind ga f (wipeD δ vs) items all hE G1 H1 Da (i + 1) H', fun H' hn => ⟨_, by omega, rfl, hn⟩, fun x H' y => ?_⟩
      have ei : items[i]? = some items[i] := List.getElem?_eq_getElem hlt
      obtain ⟨G2, m2, s2, dx⟩ := w.yld i G H x H' _ af.gg af.gh ei y
      have af2 : Af c ha G H G2 H' h := .of af.gh af.hd m2 s2
      have st2 := ((st.wipe vs).to af).to af2
      have ed : items.drop i = items[i] :: items.drop (i + 1) := (List.drop_eq_getElem_cons hlt)
      rw [ed] at go
      unfold lcGo at go
      cases qb : bind items[i] (wipeD δ vs) with
      | none => rw [qb] at go; cases go
      | some δ2 =>
        simp only [qb] at go
        obtain ⟨b, h2, e1, go2⟩ := bind_ok go
        have e1' := nox_ok e1
        refine bd st2 dx qb fun σ2 st3 we => ⟨we.trans (by rw [wipe_wipe]), ha, G0, B, G2, δ2, h, st3, ?_⟩
        rw [e1']
        intro G3 H3 af3
        have d03 := (af.trans af2).trans af3
        have hD3 : H3 Da = some (.lst acc) := af3.bt _ _ (fun z => hk Da z hD) (s2 _ _ hDa)
        have gD3 : G3 Da = none := (af3.mv.nw Da (some_ne (s2 _ _ hDa))).trans ((m2.nw Da (some_ne hDa)).trans gD)
        cases b with
        | false =>
          have go3 : lcGo bind ga f (wipeD δ vs) (items.drop (i + 1)) h2 = .ok ys hE := go2
          exact ⟨hlt, ⟨G3, h2, acc, ds, ys, d03, hD3, gD3, dqAll_mono (af2.gg.trans af3.gg) da, by omega, go3, ea⟩⟩
        | true =>
          have go3 : ((f δ2 h2).nox.bind fun y h3 => (lcGo bind ga f (wipeD δ vs) (items.drop (i + 1)) h3).bind fun ys h4 => .ok (y :: ys) h4) = Ex.ok ys hE := go2
          obtain ⟨y1, h3, e3, go4⟩ := bind_ok go3
          obtain ⟨ys1, h4, e4, go5⟩ := bind_ok go4
          cases go5
          have e3' := nox_ok e3
          refine ⟨ha, G0, B, G3, δ2, h2, st3.to af3, ?_⟩
          rw [e3']
          intro G4 H4 af4 v dv
          have hD4 : H4 Da = some (.lst acc) := af4.bt _ _ (fun z => hk Da z hD) hD3
          have gD4 : G4 Da = none := (af4.mv.nw Da (some_ne hD3)).trans gD3
          have gg := (af2.gg.trans af3.gg).trans af4.gg
          refine ⟨acc, hD4, ?_, hlt, ⟨G4, h3, acc ++ [v], ds ++ [y1], ys1, af_put (d03.trans af4) hD gD4 hk (some_ne hD4), upd_same, gD4, dqAll_app (dqAll_mono gg da) (.cons dv .nil), ?_, e4, by rw [List.append_assoc]; exact ea⟩⟩
          · rw [dqAll_len da, sizeLine_eq]
            have := of_decide_eq_true sz
            omega
          · rw [List.length_append, List.length_singleton]
            omega
    · have hi2 : i = items.length := by omega
      subst hi2
      rw [List.drop_length] at go
      cases go
      rw [List.append_nil] at ea
      subst ea
      exact .inl ⟨w.stop G H af.gg af.gh, fin G H acc af hDa gD da⟩
theorem post_lcL {ha : Option Addr} {G1 H1 : Hp} {h1 : D} {σ : L2.St} {vs : List Nat} {bind : D → DE → Option DE} {δ : DE} {ds : List D} {β : Type} {k : List D → D → Ex β} {K : β → D → Hp → Hp → Prop} (p : Post c ha W σ G1 H1 ((if szOk ds.length then lcGo bind ga f (wipeD δ vs) ds h1 else .bad).bind k) K) :
    szOk ds.length = true ∧ ∃ ys h2, lcGo bind ga f (wipeD δ vs) ds h1 = .ok ys h2 ∧ Post c ha W σ G1 H1 (k ys h2) K := by
  by_cases hz : szOk ds.length = true
  · rw [if_pos hz] at p
    cases q : lcGo bind ga f (wipeD δ vs) ds h1 with
    | ok ys h2 => rw [q] at p; exact ⟨hz, ys, h2, rfl, p⟩
    | exc n fs h2 => exact absurd q lcGo_ne
    | bad => rw [q] at p; exact p.elim
  · rw [if_neg hz] at p
    exact p.elim
theorem bind_assoc {α β γ : Type} {r : Ex α} {k : α → D → Ex β} {l : β → D → Ex γ} : (r.bind k).bind l = r.bind fun a h => (k a h).bind l := by cases r <;> rfl
theorem rn_lc {vs : List Nat} {bind : D → DE → Option DE} {g : TG} (bd : BindD c vs g bind) (σ : L2.St) (H : Hp) (Q : VK) (x : rn c W (eLc vs fs bind ga f) σ H Q) : tLc (ri c W fs) g (rt c WF ga) (rd c WF f) vs σ H Q := by
  obtain ⟨ha, G0, B, G, δ, h, st, p⟩ := x
  unfold eLc eLcL at p
  rw [bind_assoc] at p
  refine ⟨ha, G0, B, G, δ, h, st, post_imp (post_bind p) fun ds h1 G1 H1 af p1 J w Da hD => ?_⟩
  obtain ⟨hz, ys, h2, go, p2⟩ := post_lcL p1
  refine lc_run (st.to af) w bd hz hD go fun G2 H2 acc af2 hDa gD da => ?_
  exact p2 G2 H2 af2 _ (.inr ⟨Da, acc, ys, rfl, rfl, hDa, gD, af_old af hD, da⟩)
theorem dn_lc {elt tg iter : Expr} {ifs : List Expr} {scope : Scope} {own : List (Str × Nat)} {bind : D → DE → Option DE} {g : TG} (hc : X.calm = true) (hN : X.N.Nodup) (hi : PI X tg iter (ri c W fs)) (ok : BlkOk X.N X.env.scope scope own) (bd : BindD c (own.map (·.2)) g bind)
    (hg : ∀ (s : Shared) (H : Hp) (C : Addr) (cl : List (Str × Addr)) (fp : List Addr), PG (X.blk s H scope (compEnvC scope cl C X.env) fp) tg g) (ht : ∀ (s : Shared) (H : Hp) (C : Addr) (cl : List (Str × Addr)) (fp : List Addr), PTs (X.blk s H scope (compEnvC scope cl C X.env) fp) ifs (rt c WF ga))
    (he : ∀ (s : Shared) (H : Hp) (C : Addr) (cl : List (Str × Addr)) (fp : List Addr), PE (X.blk s H scope (compEnvC scope cl C X.env) fp) elt (rd c WF f)) (hs : ∀ x, foldedSetIterable iter X.env x = pure x := by intro _; rfl) :
    PE X (.ListComp elt [⟨tg, iter, ifs, 0⟩] scope pos) (rn c W (eLc (own.map (·.2)) fs bind ga f)) := pn_to (pe_lc hc hN hi ok hg ht he hs) (rn_lc bd)
theorem pts_no {X : Cx} : PTs X [] (rt c WF tYesD) := ⟨fun pins s σ H Q I x => by
  obtain ⟨ha, G0, B, G, δ, h, st, p⟩ := x
  exact pts_nil.run pins s σ H Q I (post_ok p st.gh st.hd)⟩
theorem pts_if {X : Cx} {e : Expr} (p : PT X e (rt c WF ga)) : PTs X [e] (rt c WF ga) := pts_one p
end
end Fw
namespace Fw
open PySem PySem.Spec PyProof.Rows L2 Dz Vz
inductive Fl where
  | nx (δ : DE) (h : D)
  | ret (d : D) (h : D)
  | brk (δ : DE) (h : D)
  | ct (δ : DE) (h : D)
  | exc (n : Str) (fs : List (Str × D)) (δ : DE) (h : D)
  | bad
abbrev SF := DE → D → Fl
/-- what a def hands back: a thing at rest; or lists that nobody else holds -/
def Res (nw : Bool) (c : Cn) (ha : Option Addr) (B G' H' : Hp) (v : V) (d : D) : Prop := match nw with
  | false => Dq c ha G' v d
  | true => ∃ fp, Own c ha G' H' v d fp ∧ fp.Nodup ∧ ∀ a ∈ fp, B a = none ∧ ha ≠ some a
def PostS (c : Cn) (ha : Option Addr) (W : WX) (nw : Bool) (G0 B G : Hp) (r : Fl) (Dn : Ends) : Prop := match r with
  | .nx δ' h' => ∀ σ' G' H', Sta c ha G0 B G' H' σ' δ' h' → Same G G' → Dn.nx σ' H'
  | .brk δ' h' => ∀ σ' G' H', Sta c ha G0 B G' H' σ' δ' h' → Same G G' → Dn.bk σ' H'
  | .ct δ' h' => ∀ σ' G' H', Sta c ha G0 B G' H' σ' δ' h' → Same G G' → Dn.ct σ' H'
  | .ret d h' => ∀ v G' H', Af c ha G0 B G' H' h' → Res nw c ha B G' H' v d → Dn.rt v H'
  | .exc n fs δ' h' => ∀ σ' C dd G1 H1 h1 G' H', Sta c ha G0 B G1 H1 σ' δ' h1 → Same G G1 → Af c ha G1 H1 G' H' h' → c.mg n = some (.ref C) → XR c ha G' H1 H' C dd fs → W (.ref C) dd σ' H'
  | .bad => False
def rs (c : Cn) (W : WX) (nw : Bool) (f : SF) : TS := fun Dn σ H => ∃ ha G0 B G δ h, Sta c ha G0 B G H σ δ h ∧ PostS c ha W nw G0 B G (f δ h) Dn
/-- an expression's outcome within a statement -/
def Ex.fl {α : Type} (r : Ex α) (δ : DE) (k : α → D → Fl) : Fl := match r with
  | .ok a h => k a h
  | .exc n fs h => .exc n fs δ h
  | .bad => .bad
section
variable {X : Cx} {W : WX} {c : Cn} {nw : Bool} {e a b e2 : Expr} {es : List Expr} {pos : Pos} {ta tb te : TE} {f fa fb fc : EF D} {g ga gb : EF Bool} {fs : EF (List D)} {s : Stmt} {ss : List Stmt} {u v : SF}
section
variable {ha : Option Addr} {G0 B G H G1 H1 G' H' : Hp} {σ : L2.St} {δ : DE} {h h1 h' : D} {Dn : Ends}
theorem Sta.af (st : Sta c ha G0 B G H σ δ h) : Af c ha G0 B G H h := ⟨st.mv, st.bt, st.hd⟩
theorem posts_from {r : Fl} (s : Same G G1) (p : PostS c ha W nw G0 B G r Dn) : PostS c ha W nw G0 B G1 r Dn := by
  cases r with
  | nx δ' h' => exact fun σ' G' H' st t => p σ' G' H' st (s.trans t)
  | brk δ' h' => exact fun σ' G' H' st t => p σ' G' H' st (s.trans t)
  | ct δ' h' => exact fun σ' G' H' st t => p σ' G' H' st (s.trans t)
  | exc n fs δ' h' => exact fun σ' C dd G1 H1 h1 G' H' st t => p σ' C dd G1 H1 h1 G' H' st (s.trans t)
  | _ => exact p
/-- from an expression's outcome -/
theorem post_fl {α : Type} {r : Ex α} {k : α → D → Fl} (st : Sta c ha G0 B G H σ δ h) (p : PostS c ha W nw G0 B G (r.fl δ k) Dn) : Post c ha W σ G H r fun a h1 G1 H1 => PostS c ha W nw G0 B G1 (k a h1) Dn := by
  cases r with
  | ok a h1 => exact fun G1 H1 af => posts_from af.gg p
  | exc n fs h1 => exact fun C dd G1 H1 af m x => p σ C dd G H h G1 H1 st (Same.refl _) af m x
  | bad => exact p
end
theorem ps_to {t : TS} (p : PS X s t) (i : ∀ Dn σ H, rs c W nw u Dn σ H → t Dn σ H) : PS X s (rs c W nw u) := ⟨fun pins s σ H Dn I h => p.run pins s σ H Dn I (i Dn σ H h)⟩
theorem pss_to {t : TS} (p : PSs X ss t) (i : ∀ Dn σ H, rs c W nw u Dn σ H → t Dn σ H) : PSs X ss (rs c W nw u) := ⟨fun pins s σ H Dn I h => p.run pins s σ H Dn I (i Dn σ H h)⟩
def sNil : SF := fun δ h => .nx δ h
def Fl.bind (r : Fl) (k : SF) : Fl := match r with
  | .nx δ h => k δ h
  | r => r
def sSeq (u v : SF) : SF := fun δ h => (u δ h).bind v
theorem ds_nil : PSs X [] (rs c W nw sNil) := pss_to pss_nil fun Dn σ H ⟨ha, G0, B, G, δ, h, st, p⟩ => p σ G H st (Same.refl _)
theorem ds_cons (p : PS X s (rs c W nw u)) (q : PSs X ss (rs c W nw v)) : PSs X (s :: ss) (rs c W nw (sSeq u v)) := pss_to (pss_cons p q) fun Dn σ H x => by
  obtain ⟨ha, G0, B, G, δ, h, st, p⟩ := x
  refine ⟨ha, G0, B, G, δ, h, st, ?_⟩
  unfold sSeq at p
  cases r : u δ h with
  | nx δ' h' =>
    rw [r] at p
    exact fun σ' G' H' st' t => ⟨ha, G0, B, G', δ', h', st', posts_from t p⟩
  | ret d h' => rw [r] at p; exact p
  | brk δ' h' => rw [r] at p; exact p
  | ct δ' h' => rw [r] at p; exact p
  | exc n fs δ' h' => rw [r] at p; exact p
  | bad => rw [r] at p; exact p
theorem ds_one (p : PS X s (rs c W nw u)) : PSs X [s] (rs c W nw u) := pss_one p
def sSet (i : Nat) (f : EF D) : SF := fun δ h => (f δ h).fl δ fun d h1 => .nx (δ.set i (some d)) h1
theorem rs_set {i : Nat} (Dn : Ends) (σ : L2.St) (H : Hp) (x : rs c W nw (sSet i f) Dn σ H) : tAsg (rd c W f) (gName i) Dn σ H := by
  obtain ⟨ha, G0, B, G, δ, h, st, p⟩ := x
  exact ⟨ha, G0, B, G, δ, h, st, post_imp (post_fl st p) fun d h1 G1 H1 af q v dv => q _ G1 H1 ((st.to af).setD i dv) (Same.refl _)⟩
theorem ds_set {i : Nat} {x : Str} {pos' : Pos} (hN : X.N.Nodup) (hi : X.N[i]? = some x) (hx : Loc X.env.scope x) (he : PE X e (rd c W f)) (hs : swapsWith e (some (.Name x pos')) pos.line X.env = pure false := by rfl) (hf : X.fn x = true ∨ X.env.scope.names.lookup x = some .local := by first | exact .inl rfl | exact .inr rfl | assumption) :
    PS X (.Assign [.Name x pos'] e pos) (rs c W nw (sSet i f)) := ps_to (ps_set hN hi hx he hs hf) rs_set
theorem Sta.old {ha : Option Addr} {G0 B G H : Hp} {σ : L2.St} {δ : DE} {h : D} {a : Addr} (st : Sta c ha G0 B G H σ δ h) (e : H a = none) : B a = none := by
  cases z : B a with
  | none => rfl
  | some o => exact absurd e (st.mv.dm a (some_ne z))
theorem Sta.ne_ha {ha : Option Addr} {G0 B G H : Hp} {σ : L2.St} {δ : DE} {h : D} {a : Addr} (st : Sta c ha G0 B G H σ δ h) (e : H a = none) : ha ≠ some a := fun z => st.hne a z e
/-- the slots' lists behind an expression -/
theorem Sta.keep {ha : Option Addr} {B G H G1 H1 : Hp} {σ : L2.St} {δ : DE} {h1 : D} {fp : List Addr} (af : Af c ha G H G1 H1 h1) (o : OwnS c ha G H σ δ fp) (k : ∀ a ∈ fp, B a = none ∧ ha ≠ some a) : OwnS c ha G1 H1 σ δ fp := by
  refine ownS_keep af.gg o fun b hb => ?_
  obtain ⟨g, hne⟩ := ownS_at o b hb
  obtain ⟨u, e⟩ := ne_some hne
  exact ⟨by rw [e]; exact af.bt b u (k b hb).2 e, (af.mv.nw b hne).trans g⟩
/-- a slot takes what an expression made -/
theorem Sta.setO {ha : Option Addr} {G0 B G H G1 H1 : Hp} {σ : L2.St} {δ : DE} {h h1 : D} {v : V} {d : D} {f : List Addr} (st : Sta c ha G0 B G H σ δ h) (af : Af c ha G H G1 H1 h1) (i : Nat) (o : Own c ha G1 H1 v d f) (nf : f.Nodup) (kf : ∀ a ∈ f, H a = none) : Sta c ha G0 B G1 H1 (σ.set i (some v)) (δ.set i (some d)) h1 := by
  obtain ⟨fp, os, n, k⟩ := st.sl
  have os1 := Sta.keep (B := B) af os k
  obtain ⟨fp', o', h2'⟩ := ownS_set (i := i) o os1
  obtain ⟨n2, k2⟩ := h2' [] (by
    show (f ++ fp).Nodup
    refine List.nodup_append.mpr ⟨nf, n, fun a hx b hy => ?_⟩
    rintro rfl
    exact (ownS_at os a hy).2 (kf a hx))
  have st1 := st.to af
  refine ⟨⟨fp', o', n2, fun b hx => ?_⟩, st1.mv, st1.bt, st1.hd, st1.hb⟩
  rcases k2 b hx with z | z
  · exact ⟨st.old (kf b z), st.ne_ha (kf b z)⟩
  · exact k b z
theorem nw_own {ha : Option Addr} {H G1 H1 : Hp} {v : V} {d : D} (n : Nw c ha H G1 H1 v d) : ∃ f, Own c ha G1 H1 v d f ∧ f.Nodup ∧ ∀ a ∈ f, H a = none := by
  rcases n with n | ⟨a, xs, ds, rfl, rfl, k1, k2, k3, k4⟩
  · exact ⟨[], .frz n, by simp, fun a hx => nomatch hx⟩
  · exact ⟨[a], .hl k1 k2 (ownAll_of k4), by simp, fun b hx => by rw [List.mem_singleton.mp hx]; exact k3⟩
theorem Sta.setN {ha : Option Addr} {G0 B G H G1 H1 : Hp} {σ : L2.St} {δ : DE} {h h1 : D} {v : V} {d : D} (st : Sta c ha G0 B G H σ δ h) (af : Af c ha G H G1 H1 h1) (i : Nat) (n : Nw c ha H G1 H1 v d) : Sta c ha G0 B G1 H1 (σ.set i (some v)) (δ.set i (some d)) h1 := by
  obtain ⟨f, o, n1, n2⟩ := nw_own n
  exact st.setO af i o n1 n2
theorem rs_setN {i : Nat} (Dn : Ends) (σ : L2.St) (H : Hp) (x : rs c W nw (sSet i f) Dn σ H) : tAsg (rn c W f) (gName i) Dn σ H := by
  obtain ⟨ha, G0, B, G, δ, h, st, p⟩ := x
  exact ⟨ha, G0, B, G, δ, h, st, post_imp (post_fl st p) fun d h1 G1 H1 af q v n => q _ G1 H1 (st.setN af i n) (Same.refl _)⟩
theorem ds_setN {i : Nat} {x : Str} {pos' : Pos} (hN : X.N.Nodup) (hi : X.N[i]? = some x) (hx : Loc X.env.scope x) (he : PE X e (rn c W f)) (hs : swapsWith e (some (.Name x pos')) pos.line X.env = pure false := by rfl) (hf : X.fn x = true ∨ X.env.scope.names.lookup x = some .local := by first | exact .inl rfl | exact .inr rfl | assumption) :
    PS X (.Assign [.Name x pos'] e pos) (rs c W nw (sSet i f)) := ps_to (ps_set hN hi hx he hs hf) rs_setN
theorem rs_setLcF {i : Nat} {vs : List Nat} {bind : D → DE → Option DE} {g : TG} (bd : BindD c vs g bind) (Dn : Ends) (σ : L2.St) (H : Hp) (x : rs c W nw (sSet i (eFz (eLc vs fs bind ga f))) Dn σ H) : tAsg (tLc (ri c W fs) g (rt c WF ga) (rd c WF f) vs) (gName i) Dn σ H := by
  obtain ⟨ha, G0, B, G, δ, h, st, p⟩ := x
  refine rn_lc bd σ H _ ⟨ha, G0, B, G, δ, h, st, ?_⟩
  have p2 := post_fl st p
  unfold eFz at p2
  cases q : eLc vs fs bind ga f δ h with
  | ok d h1 =>
    rw [q] at p2
    intro G1 H1 af v n
    obtain ⟨G2, af2, dv⟩ := af_fz st.hne af n
    exact p2 G2 H1 af2 _ G2 H1 ((st.to af2).setD i dv) (Same.refl _)
  | exc n fs h1 => rw [q] at p2; exact p2
  | bad => rw [q] at p2; exact p2
section
variable {i : Nat} {y : Str} {py : Pos} {elt tg iter : Expr} {ifs : List Expr} {scope : Scope} {own : List (Str × Nat)} {spos : Pos} {bind : D → DE → Option DE} {g : TG}
theorem ds_setLcF (hc : X.calm = true) (hN : X.N.Nodup) (hy : X.N[i]? = some y) (hyl : X.env.scope.names.lookup y = some .local)
    (hsw : swapsWith (.ListComp elt [⟨tg, iter, ifs, 0⟩] scope pos) (some (.Name y py)) spos.line X.env = pure true) (hi : PI X tg iter (ri c W fs)) (ok : BlkOk X.N X.env.scope scope own) (bd : BindD c (own.map (·.2)) g bind)
    (hg : ∀ (s : Shared) (H : Hp) (C : Addr) (cl : List (Str × Addr)) (fp : List Addr), PG (X.blk s H scope (compEnvC scope cl C X.env) fp) tg g) (ht : ∀ (s : Shared) (H : Hp) (C : Addr) (cl : List (Str × Addr)) (fp : List Addr), PTs (X.blk s H scope (compEnvC scope cl C X.env) fp) ifs (rt c WF ga))
    (he : ∀ (s : Shared) (H : Hp) (C : Addr) (cl : List (Str × Addr)) (fp : List Addr), PE (X.blk s H scope (compEnvC scope cl C X.env) fp) elt (rd c WF f)) (hs : ∀ x, foldedSetIterable iter X.env x = pure x := by intro _; rfl) :
    PS X (.Assign [.Name y py] (.ListComp elt [⟨tg, iter, ifs, 0⟩] scope pos) spos) (rs c W nw (sSet i (eFz (eLc (own.map (·.2)) fs bind ga f)))) := ps_to (ps_setLc hc hN hy hyl hsw hi ok hg ht he hs) (rs_setLcF bd)
end
mutual
def frz : D → D
  | .hl ds => .lst (frzL ds)
  | d => d
def frzL : List D → List D
  | [] => []
  | d :: ds => frz d :: frzL ds
end
def addG (G H : Hp) (fp : List Addr) : Hp := fun b => if b ∈ fp then H b else G b
theorem addG_in {G H : Hp} {fp : List Addr} {b : Addr} (h : b ∈ fp) : addG G H fp b = H b := if_pos h
theorem addG_out {G H : Hp} {fp : List Addr} {b : Addr} (h : b ∉ fp) : addG G H fp b = G b := if_neg h
theorem addG_same {G H : Hp} {fp : List Addr} (s : Same G H) : Same G (addG G H fp) := fun b o e => by
  by_cases h : b ∈ fp
  · rw [addG_in h]; exact s b o e
  · rw [addG_out h]; exact e
theorem addG_gh {G H : Hp} {fp : List Addr} (s : Same G H) : Same (addG G H fp) H := fun b o e => by
  by_cases h : b ∈ fp
  · rw [addG_in h] at e; exact e
  · rw [addG_out h] at e; exact s b o e
theorem frz_id {d : D} (h : d.fr = true) : frz d = d := by
  cases d <;> first | rfl | (unfold frz; rfl) | cases h
theorem own_frz {ha : Option Addr} {G H : Hp} {v : V} {d : D} {fp : List Addr} {all : List Addr} (s : Same G H) (o : Own c ha G H v d fp) : (∀ b ∈ fp, b ∈ all) → Dq c ha (addG G H all) v (frz d) := by
  refine Own.rec (motive_1 := fun v d fp _ => (∀ b ∈ fp, b ∈ all) → Dq c ha (addG G H all) v (frz d)) (motive_2 := fun xs ds fp _ => (∀ b ∈ fp, b ∈ all) → DqAll c ha (addG G H all) xs (frzL ds)) ?_ ?_ ?_ ?_ o
  · intro v d h _
    rw [frz_id (dq_fr h)]
    exact dq_mono (addG_same s) h
  · intro a xs ds fp h1 h2 _ ih k
    unfold frz
    exact .lst ((addG_in (k a List.mem_cons_self)).trans h1) (ih fun b hb => k b (List.mem_cons_of_mem _ hb))
  · intro _
    unfold frzL
    exact .nil
  · intro v d f xs ds fp _ _ i1 i2 k
    unfold frzL
    exact .cons (i1 fun b hb => k b (List.mem_append_left _ hb)) (i2 fun b hb => k b (List.mem_append_right _ hb))
def frzS (i : Nat) (δ : DE) : DE := match δ[i]? with
  | some (some (.hl ds)) => δ.set i (some (.lst (frzL ds)))
  | _ => δ
theorem Sta.frz {ha : Option Addr} {G0 B G H : Hp} {σ : L2.St} {δ : DE} {h : D} (st : Sta c ha G0 B G H σ δ h) (i : Nat) : ∃ G', Sta c ha G0 B G' H σ (frzS i δ) h ∧ Same G G' := by
  unfold frzS
  split
  · rename_i ds e
    obtain ⟨fp, os, n, k⟩ := st.sl
    obtain ⟨v, f1, f, f2, e1, rfl, o, zoom⟩ := ownS_slot os e rfl
    have sG := addG_same (fp := f) st.gh
    have n2 := List.nodup_append.mp n
    have n3 := List.nodup_append.mp n2.2.1
    have hf : ∀ b ∈ f, b ∈ f1 ++ (f ++ f2) := fun b hb => List.mem_append_right _ (List.mem_append_left _ hb)
    refine ⟨addG G H f, ⟨⟨f1 ++ ([] ++ f2), ?_, ?_, fun a hx => k a ?_⟩, ⟨st.mv.gg.trans sG, addG_gh st.gh, fun a hn => ?_, st.mv.dm⟩, st.bt, hok_keep st.hd sG fun a e => ⟨?_, rfl⟩, st.hb⟩, sG⟩
    · have z := zoom (G' := addG G H f) (H' := H) sG (fun b hb => ⟨rfl, ?_⟩) (.frz (by have z := own_frz (all := f) st.gh o fun b hb => hb; unfold Fw.frz at z; exact z))
      · have e2 : σ.set i (some v) = σ := by
          refine List.ext_getElem? fun j => ?_
          by_cases hj : i = j
          · subst hj
            rw [e1, List.getElem?_set_self (List.getElem?_eq_some_iff.mp e1).1]
          · rw [List.getElem?_set_ne hj]
        rw [e2] at z
        exact z
      · have hb2 : b ∈ f1 ++ (f ++ f2) := (List.mem_append.mp hb).elim (List.mem_append_left _) fun z => List.mem_append_right _ (List.mem_append_right _ z)
        rw [addG_out fun z => (List.mem_append.mp hb).elim (fun q => n2.2.2 b q b (List.mem_append_left _ z) rfl) fun q => n3.2.2 b z b q rfl]
        exact (ownS_at os b hb2).1
    · rw [List.nil_append]
      exact List.nodup_append.mpr ⟨n2.1, n3.2.1, fun a h1 b h2 => n2.2.2 a h1 b (List.mem_append_right _ h2)⟩
    · rw [List.nil_append] at hx
      exact (List.mem_append.mp hx).elim (List.mem_append_left _) fun z => List.mem_append_right _ (List.mem_append_right _ z)
    · rw [addG_out fun z => hn (k a (hf a z)).1]
      exact st.mv.nw a hn
    · rw [addG_out fun z => (k a (hf a z)).2 e]
      subst e
      exact (hok_at st.hd).1
  · exact ⟨G, st, Same.refl _⟩
/-- ahead of a statement -/
def sFrz (i : Nat) (u : SF) : SF := fun δ h => u (frzS i δ) h
theorem ds_frz (i : Nat) (p : PS X s (rs c W nw u)) : PS X s (rs c W nw (sFrz i u)) := ps_to p fun Dn σ H x => by
  obtain ⟨ha, G0, B, G, δ, h, st, q⟩ := x
  obtain ⟨G', st', sG⟩ := st.frz i
  exact ⟨ha, G0, B, G', _, h, st', posts_from sG q⟩
def sRet (f : EF D) : SF := fun δ h => (f δ h).fl δ fun d h1 => .ret d h1
theorem ds_ret (he : PE X e (rd c W f)) : PS X (.Return (some e) pos) (rs c W false (sRet f)) := ps_to (ps_ret he) fun Dn σ H x => by
  obtain ⟨ha, G0, B, G, δ, h, st, p⟩ := x
  exact ⟨ha, G0, B, G, δ, h, st, post_imp (post_fl st p) fun d h1 G1 H1 af q v dv => q v G1 H1 (st.to af).af dv⟩
/-- return x, the lists in x with it -/
def sRetV (i : Nat) : SF := fun δ h => match δ[i]? with
  | some (some (.hl ds)) => .ret (.hl ds) h
  | _ => .bad
def sRetN : SF := fun _ h => .ret .non h
def sIf (g : EF Bool) (u v : SF) : SF := fun δ h => (g δ h).fl δ fun b h1 => if b then u δ h1 else v δ h1
theorem ds_if {ss2 : List Stmt} (hg : PT X e (rt c W g)) (p : PSs X ss (rs c W nw u)) (q : PSs X ss2 (rs c W nw v)) : PS X (.If e ss ss2 pos) (rs c W nw (sIf g u v)) := ps_to (ps_if hg p q) fun Dn σ H x => by
  obtain ⟨ha, G0, B, G, δ, h, st, p⟩ := x
  refine ⟨ha, G0, B, G, δ, h, st, post_imp (post_fl st p) fun b h1 G1 H1 af q => ?_⟩
  cases b with
  | true => exact ⟨ha, G0, B, G1, δ, h1, st.to af, q⟩
  | false => exact ⟨ha, G0, B, G1, δ, h1, st.to af, q⟩
def sBrk : SF := fun δ h => .brk δ h
def sCt : SF := fun δ h => .ct δ h
theorem ds_ct : PS X (.Continue pos) (rs c W nw sCt) := ps_to ps_continue fun Dn σ H ⟨ha, G0, B, G, δ, h, st, p⟩ => p σ G H st (Same.refl _)
def sDrop (f : EF D) : SF := fun δ h => (f δ h).fl δ fun _ h1 => .nx δ h1
def sAug (i : Nat) (k : D → D → Option D) (f : EF D) : SF := fun δ h => match δ[i]? with
  | some (some x) => if x.fr then (f δ h).fl δ fun y h1 => match k x y with
    | some z => .nx (δ.set i (some z)) h1
    | none => .bad
    else .bad
  | _ => .bad
theorem rs_aug {i : Nat} {ti : TIp} {k : D → D → Option D} (hr : OpD c ti k) (Dn : Ends) (σ : L2.St) (H : Hp) (x : rs c W nw (sAug i k f) Dn σ H) : tAug i (rd c W f) ti Dn σ H := by
  obtain ⟨ha, G0, B, G, δ, h, st, p⟩ := x
  unfold sAug at p
  split at p
  · rename_i d e
    split at p
    · rename_i hf
      obtain ⟨fp, o, n, kk⟩ := st.sl
      obtain ⟨v, f1, f, f2, h1, _, h3, _⟩ := ownS_slot o e (fr_nm hf)
      have dv := (own_fr h3 hf).1
      refine ⟨v, h1, ha, G0, B, G, δ, h, st, post_imp (post_fl st p) fun y h1 G1 H1 af q w dw => ?_⟩
      cases z : k d y with
      | none => rw [z] at q; exact q.elim
      | some r =>
        rw [z] at q
        refine hr af.gh (dq_mono af.gg dv) dw z fun u G' H' m s du => ?_
        exact q _ G' H' ((((st.to af).to (.of af.gh af.hd m s))).setD i du) m.gg
    · exact p.elim
  · exact p.elim
theorem ds_aug {i : Nat} {x : Str} {op : Operator} {ti : TIp} {k : D → D → Option D} {pos' : Pos} (hr : OpD c ti k) (hN : X.N.Nodup) (hi : X.N[i]? = some x) (hx : Loc X.env.scope x) (he : PE X e (rd c W f)) (ho : PIp X op ti) (hf : X.fn x = true ∨ X.env.scope.names.lookup x = some .local := by first | exact .inl rfl | exact .inr rfl | assumption) :
    PS X (.AugAssign (.Name x pos') op e pos) (rs c W nw (sAug i k f)) := ps_to (ps_aug hN hi hx he ho hf) (rs_aug hr)
def sAsg (bind : D → DE → Option DE) (f : EF D) : SF := fun δ h => (f δ h).fl δ fun d h1 => match bind d δ with
  | some δ2 => .nx δ2 h1
  | none => .bad
theorem ds_asg {tg : Expr} {gg : TG} {vs : List Nat} {bind : D → DE → Option DE} (bd : BindD c vs gg bind) (he : PE X e (rd c W f)) (hg : PG X tg gg) (hs : swapsWithSole [tg] e pos.line X.env = pure false := by rfl) (hw : swappedStores [tg] e X.env = pure none := by rfl)
    (h1 : (assignEach [tg] X.env).map (·.2) = [assign tg X.env] := by rfl) : PS X (.Assign [tg] e pos) (rs c W nw (sAsg bind f)) := ps_to (ps_asg he hg hs hw h1) fun Dn σ H x => by
  obtain ⟨ha, G0, B, G, δ, h, st, p⟩ := x
  refine ⟨ha, G0, B, G, δ, h, st, post_imp (post_fl st p) fun d h1 G1 H1 af q v dv => ?_⟩
  cases z : bind d δ with
  | none => rw [z] at q; exact q.elim
  | some δ2 =>
    rw [z] at q
    exact bd (st.to af) dv z fun σ2 st2 _ => q σ2 G1 H1 st2 (Same.refl _)
def sPar (i j : Nat) (fs : EF (List D)) : SF := fun δ h => (fs δ h).fl δ fun ds h1 => match ds with
  | [x, y] => .nx ((δ.set i (some x)).set j (some y)) h1
  | _ => .bad
def sPar3 (i j l : Nat) (fs : EF (List D)) : SF := fun δ h => (fs δ h).fl δ fun ds h1 => match ds with
  | [x, y, z] => .nx (((δ.set i (some x)).set j (some y)).set l (some z)) h1
  | _ => .bad
def forGo (bind : D → DE → Option DE) (body : SF) : List D → SF
  | [], δ, h => .nx δ h
  | x :: xs, δ, h => match bind x δ with
    | none => .bad
    | some δ2 => match body δ2 h with
      | .nx δ3 h3 => forGo bind body xs δ3 h3
      | .ct δ3 h3 => forGo bind body xs δ3 h3
      | .brk δ3 h3 => .nx δ3 h3
      | r => r
def sFor (it : EF (List D)) (bind : D → DE → Option DE) (body : SF) : SF := fun δ h => (it δ h).fl δ fun ds h1 => forGo bind body ds δ h1
theorem rs_for {vs : List Nat} {bind : D → DE → Option DE} {gg : TG} (bd : BindD c vs gg bind) (Dn : Ends) (σ : L2.St) (H : Hp) (x : rs c W nw (sFor fs bind u) Dn σ H) : tFor (ri c W fs) gg (rs c W nw u) Dn σ H := by
  obtain ⟨ha, G0, B, G, δ, h, st, p⟩ := x
  refine ⟨ha, G0, B, G, δ, h, st, post_imp (post_fl st p) fun ds h1 G1 H1 af q J w => ?_⟩
  refine ⟨fun i m σ H => m = ds.length - i ∧ i ≤ ds.length ∧ ∃ G δ h, Sta c ha G0 B G H σ δ h ∧ Same G1 G ∧ PostS c ha W nw G0 B G (forGo bind u (ds.drop i) δ h) Dn, ⟨_, rfl, Nat.zero_le _, G1, δ, h1, st.to af, Same.refl _, q⟩, ?_⟩
  rintro i m σ H ⟨rfl, hi, G, δ, h, st, s1, q⟩
  by_cases hlt : i < ds.length
  · refine .inr ⟨w.go i G H s1 st.gh hlt, fun σ' H' => i + 1 ≤ ds.length ∧ ∃ G δ h, Sta c ha G0 B G H' σ' δ h ∧ Same G1 G ∧ PostS c ha W nw G0 B G (forGo bind u (ds.drop (i + 1)) δ h) Dn, fun σ' H' hn => ⟨_, by omega, rfl, hn⟩, fun x H' y => ?_⟩
    have ei : ds[i]? = some ds[i] := List.getElem?_eq_getElem hlt
    obtain ⟨G2, m2, s2, dx⟩ := w.yld i G H x H' _ s1 st.gh ei y
    have af2 : Af c ha G H G2 H' h := .of st.gh st.hd m2 s2
    have ed : ds.drop i = ds[i] :: ds.drop (i + 1) := (List.drop_eq_getElem_cons hlt)
    rw [ed] at q
    unfold forGo at q
    cases qb : bind ds[i] δ with
    | none => rw [qb] at q; exact q.elim
    | some δ2 =>
      simp only [qb] at q
      refine bd (st.to af2) dx qb fun σ2 st2 _ => ⟨ha, G0, B, G2, δ2, h, st2, ?_⟩
      cases e : u δ2 h with
      | nx δ3 h3 =>
        rw [e] at q
        exact fun σ3 G3 H3 st3 s3 => ⟨hlt, G3, δ3, h3, st3, (s1.trans m2.gg).trans s3, posts_from (m2.gg.trans s3) q⟩
      | ct δ3 h3 =>
        rw [e] at q
        exact fun σ3 G3 H3 st3 s3 => ⟨hlt, G3, δ3, h3, st3, (s1.trans m2.gg).trans s3, posts_from (m2.gg.trans s3) q⟩
      | brk δ3 h3 =>
        rw [e] at q
        exact fun σ3 G3 H3 st3 s3 => q σ3 G3 H3 st3 (m2.gg.trans s3)
      | ret d h3 => rw [e] at q; exact q
      | exc n f δ3 h3 => rw [e] at q; exact posts_from m2.gg q
      | bad => rw [e] at q; exact q.elim
  · have hi2 : i = ds.length := by omega
    subst hi2
    rw [List.drop_length] at q
    exact .inl ⟨w.stop G H s1 st.gh, q σ G H st (Same.refl _)⟩
theorem ds_for {tg iter : Expr} {vs : List Nat} {bind : D → DE → Option DE} {gg : TG} (hp : PassesOwn (model X.prog X.w) X.A X.env X.xe) (hc : X.calm = true) (bd : BindD c vs gg bind) (hi : PI X tg iter (ri c W fs)) (hg : PG X tg gg) (hb : PSs X ss (rs c W nw u))
    (hs : ∀ x, foldedSetIterable iter X.env x = pure x := by intro _; rfl) : PS X (.For tg iter ss [] pos) (rs c W nw (sFor fs bind u)) := ps_to (ps_for hp hc hi hg hb hs) (rs_for bd)
def whGo (g : EF Bool) (body : SF) : Nat → SF
  | 0, _, _ => .bad
  | n + 1, δ, h => (g δ h).fl δ fun b h1 => if b then match body δ h1 with
      | .nx δ3 h3 => whGo g body n δ3 h3
      | .ct δ3 h3 => whGo g body n δ3 h3
      | .brk δ3 h3 => .nx δ3 h3
      | r => r
    else .nx δ h1
def sWh (n : Nat) (g : EF Bool) (body : SF) : SF := whGo g body n
theorem rs_wh {n : Nat} (Dn : Ends) (σ : L2.St) (H : Hp) (x : rs c W nw (sWh n g u) Dn σ H) : tWhile (rt c W g) (rs c W nw u) Dn σ H := by
  obtain ⟨ha, G0, B, G, δ, h, st, p⟩ := x
  refine ⟨fun m σ H => ∃ G δ h, Sta c ha G0 B G H σ δ h ∧ PostS c ha W nw G0 B G (whGo g u m δ h) Dn, ⟨n, G, δ, h, st, p⟩, ?_⟩
  rintro m σ H ⟨G, δ, h, st, q⟩
  cases m with
  | zero => exact q.elim
  | succ m =>
    unfold whGo at q
    refine ⟨ha, G0, B, G, δ, h, st, post_imp (post_fl st q) fun b h1 G1 H1 af q1 => ?_⟩
    cases b with
    | false => exact q1 σ G1 H1 (st.to af) (Same.refl _)
    | true =>
      refine ⟨fun σ' H' => ∃ G δ h, Sta c ha G0 B G H' σ' δ h ∧ PostS c ha W nw G0 B G (whGo g u m δ h) Dn, fun σ' H' hn => ⟨m, Nat.lt_succ_self _, hn⟩, ha, G0, B, G1, δ, h1, st.to af, ?_⟩
      rw [if_pos rfl] at q1
      cases e : u δ h1 with
      | nx δ3 h3 =>
        rw [e] at q1
        exact fun σ3 G3 H3 st3 s3 => ⟨G3, δ3, h3, st3, posts_from s3 q1⟩
      | ct δ3 h3 =>
        rw [e] at q1
        exact fun σ3 G3 H3 st3 s3 => ⟨G3, δ3, h3, st3, posts_from s3 q1⟩
      | brk δ3 h3 =>
        rw [e] at q1
        exact fun σ3 G3 H3 st3 s3 => q1 σ3 G3 H3 st3 s3
      | ret d h3 => rw [e] at q1; exact q1
      | exc n f δ3 h3 => rw [e] at q1; exact q1
      | bad => rw [e] at q1; exact q1.elim
theorem ds_wh {n : Nat} (hp : PassesOwn (model X.prog X.w) X.A X.env X.xe) (hg : PT X e (rt c W g)) (hb : PSs X ss (rs c W nw u)) : PS X (.While e ss [] pos) (rs c W nw (sWh n g u)) := ps_to (ps_while hp hg hb) rs_wh
end
end Fw
namespace Fw
open PySem PySem.Spec PyProof.Rows L2 Dz Vz
def getP : D → List Nat → Option D
  | d, [] => some d
  | .hl ds, j :: js => match ds[j]? with
    | some d => getP d js
    | none => none
  | _, _ :: _ => none
def setP : D → List Nat → D → D
  | _, [], x => x
  | .hl ds, j :: js, x => match ds[j]? with
    | some d => .hl (ds.set j (setP d js x))
    | none => .hl ds
  | d, _ :: _, _ => d
/-- v stands at the place js below v0 -/
def VAt (ha : Option Addr) (H : Hp) : V → List Nat → V → Prop
  | v0, [], v => v = v0
  | v0, j :: js, v => ∃ a xs x, v0 = .ref a ∧ ha ≠ some a ∧ H a = some (.lst xs) ∧ xs[j]? = some x ∧ VAt ha H x js v
section
variable {c : Cn} {ha : Option Addr} {G H G' H' : Hp}
theorem vat_keep (k : ∀ a o, ha ≠ some a → H a = some o → H' a = some o) : ∀ {js : List Nat} {v0 v : V}, VAt ha H v0 js v → VAt ha H' v0 js v
  | [], _, _, h => h
  | _ :: _, _, _, ⟨a, xs, x, h1, h2, h3, h4, h5⟩ => ⟨a, xs, x, h1, h2, k a _ h2 h3, h4, vat_keep k h5⟩
theorem vat_inj : ∀ {js : List Nat} {v0 v w : V}, VAt ha H v0 js v → VAt ha H v0 js w → v = w
  | [], _, _, _, h, h' => h.trans h'.symm
  | _ :: _, _, _, _, ⟨a, xs, x, h1, h2, h3, h4, h5⟩, ⟨b, ys, y, k1, k2, k3, k4, k5⟩ => by
    subst h1
    cases k1
    rw [h3] at k3
    cases k3
    rw [h4] at k4
    cases k4
    exact vat_inj h5 k5
theorem vat_app : ∀ {js : List Nat} {v0 v : V} {j : Nat} {a : Addr} {xs : List V} {x : V}, VAt ha H v0 js v → v = .ref a → ha ≠ some a → H a = some (.lst xs) → xs[j]? = some x → VAt ha H v0 (js ++ [j]) x
  | [], _, _, j, a, xs, x, h, e, n, h1, h2 => ⟨a, xs, x, by rw [← e]; exact h.symm, n, h1, h2, rfl⟩
  | _ :: _, _, _, j, a, xs, x, ⟨b, ys, y, k1, k2, k3, k4, k5⟩, e, n, h1, h2 => ⟨b, ys, y, k1, k2, k3, k4, vat_app k5 e n h1 h2⟩
theorem own_zoom : ∀ {js : List Nat} {v0 : V} {d d' : D} {fp : List Addr}, Own c ha G H v0 d fp → (∀ b ∈ fp, ha ≠ some b) → getP d js = some d' →
    ∃ v f1 f f2, VAt ha H v0 js v ∧ fp = f1 ++ (f ++ f2) ∧ Own c ha G H v d' f ∧ ∀ {G' H' : Hp} {f' : List Addr} {d'' : D}, Same G G' → (∀ b ∈ f1 ++ f2, H' b = H b ∧ G' b = none) → Own c ha G' H' v d'' f' → Own c ha G' H' v0 (setP d js d'') (f1 ++ (f' ++ f2))
  | [], v0, d, d', fp, o, n, e => by
    unfold getP at e
    cases e
    refine ⟨v0, [], fp, [], rfl, by simp, o, fun {G' H' f' d''} s k o' => ?_⟩
    unfold setP
    rw [List.nil_append, List.append_nil]
    exact o'
  | j :: js, v0, d, d', fp, o, n, e => by
    cases o with
    | frz h => cases h <;> (unfold getP at e; cases e)
    | @hl a xs ds fpa h1 h2 h3 =>
      unfold getP at e
      cases q : ds[j]? with
      | none => rw [q] at e; cases e
      | some dj =>
        rw [q] at e
        obtain ⟨x, g1, g, g2, e1, e2, o2, zoom⟩ := ownAll_item h3 q
        subst e2
        obtain ⟨v, f1, f, f2, k1, k2, k3, zoom2⟩ := own_zoom (js := js) o2 (fun b hb => n b (List.mem_cons_of_mem _ (List.mem_append_right _ (List.mem_append_left _ hb)))) e
        subst k2
        refine ⟨v, a :: (g1 ++ f1), f, f2 ++ g2, ⟨a, xs, x, rfl, n a List.mem_cons_self, h1, e1, k1⟩, by simp [List.append_assoc], k3, fun {G' H' f' d''} s k o' => ?_⟩
        have o3 := zoom2 s (fun b hb => k b ?_) o'
        · have a3 := zoom s (fun b hb => k b ?_) o3
          · unfold setP
            rw [q]
            have ex : xs.set j x = xs := by
              refine List.ext_getElem? fun i => ?_
              by_cases hj : j = i
              · subst hj
                rw [e1, List.getElem?_set_self (List.getElem?_eq_some_iff.mp e1).1]
              · rw [List.getElem?_set_ne hj]
            rw [ex] at a3
            have ka := k a (List.mem_append_left _ List.mem_cons_self)
            have r := Own.hl (ka.1.trans h1) ka.2 a3
            have ef : a :: (g1 ++ ((f1 ++ (f' ++ f2)) ++ g2)) = (a :: (g1 ++ f1)) ++ (f' ++ (f2 ++ g2)) := by simp [List.append_assoc]
            rw [← ef]
            exact r
          · rcases List.mem_append.mp hb with z | z
            · exact List.mem_append_left _ (List.mem_cons_of_mem _ (List.mem_append_left _ z))
            · exact List.mem_append_right _ (List.mem_append_right _ z)
        · rcases List.mem_append.mp hb with z | z
          · exact List.mem_append_left _ (List.mem_cons_of_mem _ (List.mem_append_right _ z))
          · exact List.mem_append_right _ (List.mem_append_left _ z)
end
/-- a place: a slot, a way down -/
abbrev Pl := Nat × List Nat
def plD (δ : DE) (p : Pl) : Option D := match δ[p.1]? with
  | some (some d) => if d.nm then getP d p.2 else none
  | _ => none
def plS (δ : DE) (p : Pl) (x : D) : DE := match δ[p.1]? with
  | some (some d) => δ.set p.1 (some (setP d p.2 x))
  | _ => δ
def PlV (ha : Option Addr) (σ : L2.St) (H : Hp) (p : Pl) (v : V) : Prop := ∃ v0, σ[p.1]? = some (some v0) ∧ VAt ha H v0 p.2 v
section
variable {c : Cn} {ha : Option Addr} {G0 B G H G1 H1 : Hp} {σ : L2.St} {δ : DE} {h h1 : D}
/-- what stands at a place, and the place filled anew -/
theorem Sta.place {p : Pl} {d : D} (st : Sta c ha G0 B G H σ δ h) (e : plD δ p = some d) : ∃ v f1 f f2, PlV ha σ H p v ∧ Own c ha G H v d f ∧ (f1 ++ (f ++ f2)).Nodup ∧ (∀ a ∈ f1 ++ (f ++ f2), B a = none ∧ ha ≠ some a ∧ G a = none ∧ H a ≠ none) ∧
    ∀ {G' H' : Hp} {f' : List Addr} {d' : D}, Same G G' → (∀ b ∈ f1 ++ f2, H' b = H b ∧ G' b = none) → Own c ha G' H' v d' f' → OwnS c ha G' H' σ (plS δ p d') (f1 ++ (f' ++ f2)) := by
  obtain ⟨fp, os, n, k⟩ := st.sl
  unfold plD at e
  split at e
  · rename_i d0 e0
    by_cases nm : d0.nm = true
    case neg => rw [if_neg nm] at e; cases e
    rw [if_pos nm] at e
    obtain ⟨v0, a1, a, a2, e1, rfl, o, zoom⟩ := ownS_slot os e0 nm
    obtain ⟨v, f1, f, f2, k1, rfl, k3, zoom2⟩ := own_zoom o (fun b hb => (k b (List.mem_append_right _ (List.mem_append_left _ hb))).2) e
    have ef : a1 ++ ((f1 ++ (f ++ f2)) ++ a2) = (a1 ++ f1) ++ (f ++ (f2 ++ a2)) := by simp [List.append_assoc]
    refine ⟨v, a1 ++ f1, f, f2 ++ a2, ⟨v0, e1, k1⟩, k3, by rw [← ef]; exact n, fun b hb => ?_, fun {G' H' f' d'} s kk o' => ?_⟩
    · rw [← ef] at hb
      obtain ⟨z1, z2⟩ := k b hb
      obtain ⟨z3, z4⟩ := ownS_at os b hb
      exact ⟨z1, z2, z3, z4⟩
    · have o3 := zoom2 s (fun b hb => kk b ?_) o'
      · have os3 := zoom s (fun b hb => kk b ?_) o3
        · unfold plS
          rw [e0]
          have e2 : σ.set p.1 (some v0) = σ := by
            refine List.ext_getElem? fun j => ?_
            by_cases hj : p.1 = j
            · subst hj
              rw [e1, List.getElem?_set_self (List.getElem?_eq_some_iff.mp e1).1]
            · rw [List.getElem?_set_ne hj]
          rw [e2] at os3
          have eg : (a1 ++ f1) ++ (f' ++ (f2 ++ a2)) = a1 ++ ((f1 ++ (f' ++ f2)) ++ a2) := by simp [List.append_assoc]
          rw [eg]
          exact os3
        · rcases List.mem_append.mp hb with z | z
          · exact List.mem_append_left _ (List.mem_append_left _ z)
          · exact List.mem_append_right _ (List.mem_append_right _ z)
      · rcases List.mem_append.mp hb with z | z
        · exact List.mem_append_left _ (List.mem_append_right _ z)
        · exact List.mem_append_right _ (List.mem_append_left _ z)
  · cases e
theorem PlV.keep {p : Pl} {v : V} (x : PlV ha σ H p v) (af : Af c ha G H G1 H1 h1) : PlV ha σ H1 p v := by
  obtain ⟨v0, e, k⟩ := x
  exact ⟨v0, e, vat_keep (fun a o n e => af.bt a o n e) k⟩
theorem PlV.inj {p : Pl} {v w : V} (x : PlV ha σ H p v) (y : PlV ha σ H p w) : v = w := by
  obtain ⟨v0, e, k⟩ := x
  obtain ⟨w0, e', k'⟩ := y
  rw [e] at e'
  cases e'
  exact vat_inj k k'
/-- the list at a place is changed: new items es with their lists fe; the others stay -/
theorem Sta.change {p : Pl} {v : V} {ds : List D} (st : Sta c ha G0 B G H σ δ h) (e : plD δ p = some (.hl ds)) (pv : PlV ha σ H p v) :
    ∃ a xs f1 fd f2, v = .ref a ∧ H a = some (.lst xs) ∧ OwnAll c ha G H xs ds fd ∧ (f1 ++ ((a :: fd) ++ f2)).Nodup ∧ (∀ b ∈ f1 ++ ((a :: fd) ++ f2), B b = none ∧ ha ≠ some b ∧ G b = none ∧ H b ≠ none) ∧
      ∀ {G1 H1 : Hp} {h1 : D} {ys : List V} {es : List D} {fe : List Addr}, Af c ha G H G1 H1 h1 → OwnAll c ha G1 (upd H1 a (.lst ys)) ys es fe → (f1 ++ ((a :: fe) ++ f2)).Nodup → (∀ b ∈ fe, B b = none ∧ ha ≠ some b) → Sta c ha G0 B G1 (upd H1 a (.lst ys)) σ (plS δ p (.hl es)) h1 := by
  obtain ⟨w, f1, f, f2, k1, o, n, k, zoom⟩ := st.place e
  have ew := pv.inj k1
  subst ew
  cases o with
  | frz hq => cases hq
  | @hl a xs _ fd h1 h2 h3 =>
    refine ⟨a, xs, f1, fd, f2, rfl, h1, h3, n, k, fun {G1 H1 h1' ys es fe} af o2 n2 k2 => ?_⟩
    have ka := k a (List.mem_append_right _ (List.mem_append_left _ List.mem_cons_self))
    have na := List.nodup_append.mp n
    have nb := List.nodup_append.mp na.2.1
    have st1 := st.to af
    obtain ⟨ua, eua⟩ := ne_some ka.2.2.2
    have hna : H1 a ≠ none := some_ne (af.bt a _ ka.2.1 eua)
    have ga : G1 a = none := (af.mv.nw a ka.2.2.2).trans ka.2.2.1
    refine ⟨⟨f1 ++ ((a :: fe) ++ f2), zoom af.gg (fun b hb => ?_) (.hl upd_same ga o2), n2, fun b hb => ?_⟩, st1.mv.trans (Mv.put st1.gh ga hna), fun b o nb2 e2 => ?_, ?_, st1.hb⟩
    · have hb2 : b ∈ f1 ++ ((a :: fd) ++ f2) := (List.mem_append.mp hb).elim (List.mem_append_left _) fun z => List.mem_append_right _ (List.mem_append_right _ z)
      have kb := k b hb2
      have ne : b ≠ a := by
        rintro rfl
        rcases List.mem_append.mp hb with z | z
        · exact na.2.2 b z b (List.mem_append_left _ List.mem_cons_self) rfl
        · exact nb.2.2 b List.mem_cons_self b z rfl
      obtain ⟨u, eu⟩ := ne_some kb.2.2.2
      rw [upd_ne ne]
      exact ⟨by rw [eu]; exact af.bt b u kb.2.1 eu, (af.mv.nw b kb.2.2.2).trans kb.2.2.1⟩
    · rcases List.mem_append.mp hb with z | z
      · have := k b (List.mem_append_left _ z)
        exact ⟨this.1, this.2.1⟩
      · rcases List.mem_append.mp z with z | z
        · rcases List.mem_cons.mp z with z | z
          · rw [z]; exact ⟨ka.1, ka.2.1⟩
          · exact k2 b z
        · have := k b (List.mem_append_right _ (List.mem_append_right _ z))
          exact ⟨this.1, this.2.1⟩
    · rw [upd_ne fun z => by rw [z, ka.1] at e2; cases e2]
      exact st1.bt b o nb2 e2
    · refine hok_keep st1.hd (Same.refl _) fun b eb => ⟨?_, upd_ne fun z => ka.2.1 (by rw [← z]; exact eb)⟩
      subst eb
      exact (hok_at st1.hd).1
end
def rp (c : Cn) (W : WX) (f : EF Pl) : TE := fun σ H Q => ∃ ha G0 B G δ h, Sta c ha G0 B G H σ δ h ∧ Post c ha W σ G H (f δ h) fun p _ _ H' => ∀ v, PlV ha σ H' p v → Q v H'
section
variable {X : Cx} {W : WX} {c : Cn} {nw : Bool} {e a b e2 : Expr} {es : List Expr} {pos : Pos} {te : TE} {f fa fb fc : EF D} {k : EF Pl} {u : SF}
theorem pp_to (p : PE X e te) (i : ∀ σ H Q, rp c W k σ H Q → te σ H Q) : PE X e (rp c W k) := ⟨fun pins s σ H Q I h => p.run pins s σ H Q I (i σ H Q h)⟩
def pV (i : Nat) : EF Pl := fun δ h => match δ[i]? with
  | some (some d) => if d.nm then .ok (i, []) h else .bad
  | _ => .bad
theorem dp_v {i : Nat} {x : Str} (hN : X.N[i]? = some x) (hv : Vis X.env.scope x) (hd : (x == ("__debug__" : Str)) = false := by decide) (hcd : (x == ("__classdict__" : Str)) = false := by decide) : PE X (.Name x pos) (rp c W (pV i)) := pp_to (pe_var hN hv hd hcd) fun σ H Q x => by
  obtain ⟨ha, G0, B, G, δ, h, st, p⟩ := x
  unfold pV at p
  split at p
  · rename_i d e
    by_cases nm : d.nm = true
    case neg => rw [if_neg nm] at p; exact p.elim
    rw [if_pos nm] at p
    obtain ⟨fp, o, n, kk⟩ := st.sl
    obtain ⟨v, f1, f, f2, h1, _, h3, _⟩ := ownS_slot o e nm
    exact ⟨v, h1, post_ok p st.gh st.hd v ⟨v, h1, rfl⟩⟩
  · exact p.elim
/-- the place of an item -/
def pIx (k : EF Pl) (f : EF D) : EF Pl := fun δ h => (k δ h).bind fun p h1 => (f δ h1).bind fun y h2 => Ex.of (match plD δ p, y with
  | some (.hl ds), .int i => (ixN ds.length i).map fun j => (p.1, p.2 ++ [j])
  | _, _ => none) h2
theorem dp_ix (ha : PE X a (rp c W k)) (hb : PE X b (rd c W f)) (hs : PlainIx b := by exact fun _ _ => rfl) : PE X (.Subscript a b pos) (rp c W (pIx k f)) := pp_to (pe_ix ix_list ha hb hs) fun σ H Q x => by
  obtain ⟨ha, G0, B, G, δ, h, st, p⟩ := x
  refine ⟨ha, G0, B, G, δ, h, st, post_imp (post_bind p) fun pl h1 G1 H1 af1 p1 v pv => ?_⟩
  refine ⟨ha, G0, B, G1, δ, h1, st.to af1, post_imp (post_bind p1) fun y h2 G2 H2 af2 p2 w dw => ?_⟩
  obtain ⟨pl2, e, q⟩ := post_of p2
  split at e
  · rename_i ds i e1
    obtain ⟨j, e2, rfl⟩ := map_get e
    cases dw
    have st2 := (st.to af1).to af2
    obtain ⟨v', f1, fo, f2, k1, o, n, kk, _⟩ := st2.place e1
    have ev := (pv.keep af2).inj k1
    subst ev
    obtain ⟨v0, z1, z2⟩ := k1
    cases o with
    | frz hq => cases hq
    | @hl a xs _ fd g1 g2 g3 =>
      obtain ⟨_, hj, _, _⟩ := ixN_seq e2
      have hlen := ownAll_len g3
      obtain ⟨xj, ex⟩ : ∃ xj, xs[j]? = some xj := ⟨xs[j]'(by omega), List.getElem?_eq_getElem (by omega)⟩
      refine ⟨a, xs, i, xj, rfl, rfl, SqL.of g1, ?_, q _ _ (.refl af2.gh af2.hd) _ ⟨v0, z1, vat_app z2 rfl (kk a (List.mem_append_right _ (List.mem_append_left _ List.mem_cons_self))).2.1 g1 ex⟩⟩
      unfold atI
      rw [hlen, e2]
      exact ex
  · cases e
/-- a thing at rest at a place -/
def ePl (k : EF Pl) : EF D := fun δ h => (k δ h).bind fun p h1 => Ex.of (match plD δ p with
  | some d => if d.fr then some d else none
  | none => none) h1
theorem dx_pl (hk : PE X e (rp c W k)) : PE X e (rd c W (ePl k)) := pe_to hk fun σ H Q x => by
  obtain ⟨ha, G0, B, G, δ, h, st, p⟩ := x
  refine ⟨ha, G0, B, G, δ, h, st, post_imp (post_bind p) fun pl h1 G1 H1 af1 p1 v pv => ?_⟩
  obtain ⟨d, e, q⟩ := post_of p1
  split at e
  · rename_i d0 e0
    obtain ⟨hf, rfl⟩ := if_get e
    obtain ⟨v', f1, fo, f2, k1, o, n, kk, _⟩ := (st.to af1).place e0
    have ev := pv.inj k1
    subst ev
    exact q _ _ (.refl af1.gh af1.hd) _ (own_fr o hf).1
  · cases e
/-- len of a held list -/
def eLenP (k : EF Pl) : EF D := fun δ h => (k δ h).bind fun p h1 => Ex.of (match plD δ p with
  | some (.hl ds) => some (.int ds.length)
  | _ => none) h1
theorem dx_lenP {p : Pos} (hg : Gl X "len") (hm : X.mg "len" = none) (hk : PE X a (rp c W k)) (s1 : starEach (a :: []) X.env = (false, eval a X.env) :: starEach [] X.env := by rfl) (hpl : (backTo pos (starEach [] X.env)).any (·.1) = false := by rfl) : PE X (.Call (.Name "len" p) [a] [] pos) (rd c W (eLenP k)) := pe_to (pe_callB call_len_seq hg hm PySem.boot_len (pa_cons hk pa_nil s1) (by decide) (by decide) s1 hpl) fun σ H Q x => by
  obtain ⟨ha, G0, B, G, δ, h, st, p⟩ := x
  refine ⟨ha, G0, B, G, δ, h, st, post_imp (post_bind p) fun pl h1 G1 H1 af1 p1 v pv => ?_⟩
  obtain ⟨d, e, q⟩ := post_of p1
  split at e
  · rename_i ds e0
    cases e
    obtain ⟨v', f1, fo, f2, k1, o, n, kk, _⟩ := (st.to af1).place e0
    have ev := pv.inj k1
    subst ev
    cases o with
    | frz hq => cases hq
    | hl g1 g2 g3 => exact ⟨_, _, rfl, .inl (SqL.of g1), by rw [ownAll_len g3]; exact q _ _ (.refl af1.gh af1.hd) _ (.int _)⟩
  · cases e
def sApp (k : EF Pl) (f : EF D) : SF := fun δ h => (k δ h).fl δ fun p h1 => match plD δ p with
  | some (.hl ds) => (f δ h1).fl δ fun y h2 => if szOk ds.length then .nx (plS δ p (.hl (ds ++ [y]))) h2 else .bad
  | _ => .bad
theorem nodup_mid {α : Type} {f1 f2 g : List α} {a : α} {fd : List α} (n : (f1 ++ ((a :: fd) ++ f2)).Nodup) (ng : g.Nodup) (h : ∀ x ∈ g, x ∉ f1 ++ ((a :: fd) ++ f2)) : (f1 ++ ((a :: (fd ++ g)) ++ f2)).Nodup := by
  have e : (f1 ++ ((a :: (fd ++ g)) ++ f2)).Perm (g ++ (f1 ++ ((a :: fd) ++ f2))) := by
    have e1 : f1 ++ ((a :: (fd ++ g)) ++ f2) = (f1 ++ (a :: fd)) ++ (g ++ f2) := by simp [List.append_assoc]
    have e2 : f1 ++ ((a :: fd) ++ f2) = (f1 ++ (a :: fd)) ++ f2 := by simp [List.append_assoc]
    rw [e1, e2, ← List.append_assoc, ← List.append_assoc g]
    exact (List.perm_append_comm).append_right _
  refine e.nodup_iff.mpr (List.nodup_append.mpr ⟨ng, n, fun x hx y hy => ?_⟩)
  rintro rfl
  exact h x hx hy
/-- lists of items stay behind a deed that does not touch them -/
theorem ownAll_af {ha : Option Addr} {G H G1 H1 : Hp} {h1 : D} {xs : List V} {ds : List D} {fp : List Addr} {a : Addr} {o : HO} (af : Af c ha G H G1 H1 h1) (x : OwnAll c ha G H xs ds fp) (k : ∀ b ∈ fp, ha ≠ some b ∧ G b = none ∧ H b ≠ none ∧ b ≠ a) : OwnAll c ha G1 (upd H1 a o) xs ds fp := by
  refine ownAll_keep af.gg x fun b hb => ?_
  obtain ⟨k1, k2, k3, k4⟩ := k b hb
  obtain ⟨u, e⟩ := ne_some k3
  rw [upd_ne k4]
  exact ⟨by rw [e]; exact af.bt b u k1 e, (af.mv.nw b k3).trans k2⟩
theorem own_upd {ha : Option Addr} {G1 H1 : Hp} {v : V} {d : D} {fp : List Addr} {a : Addr} {o : HO} (x : Own c ha G1 H1 v d fp) (k : a ∉ fp) : Own c ha G1 (upd H1 a o) v d fp := by
  refine own_keep (Same.refl _) x fun b hb => ⟨upd_ne fun z => k (by rw [← z]; exact hb), (own_at x b hb).1⟩
theorem rs_app (Dn : Ends) (σ : L2.St) (H : Hp) (x : rs c W nw (sApp k f) Dn σ H) : tDrop (tBM c.K "list" rAppend (rp c W k) (tCons (rn c W f) tNil)) Dn σ H := by
  obtain ⟨ha, G0, B, G, δ, h, st, p⟩ := x
  refine ⟨ha, G0, B, G, δ, h, st, post_imp (post_fl st p) fun pl h1 G1 H1 af1 p1 v pv => ?_⟩
  have st1 := st.to af1
  split at p1
  · rename_i ds e0
    obtain ⟨a, xs, f1, fd, f2, rfl, hl, oa, n, kk, ch⟩ := st1.change e0 pv
    refine ⟨.inl ⟨rfl, xs, SqL.of hl⟩, ha, G0, B, G1, δ, h1, st1, post_imp (post_fl st1 p1) fun y h2 G2 H2 af2 q w nw => ?_⟩
    by_cases hz : szOk ds.length = true
    · rw [if_pos hz] at q
      obtain ⟨fe, oe, ne, ke⟩ := nw_own nw
      have ka := kk a (List.mem_append_right _ (List.mem_append_left _ List.mem_cons_self))
      have hl2 : H2 a = some (.lst xs) := af2.bt a _ ka.2.1 hl
      have nb := List.nodup_append.mp (List.nodup_append.mp n).2.1
      have na : a ∉ fe := fun z => by rw [ke a z] at hl; cases hl
      refine ⟨a, xs, w, rfl, rfl, hl2, ?_, q σ G2 _ (ch (es := ds ++ [y]) (fe := fd ++ (fe ++ [])) af2 (ownAll_app (ownAll_af af2 oa fun b hb => ?_) (.cons (own_upd oe na) .nil)) ?_ fun b hb => ?_) (Same.refl _)⟩
      · rw [ownAll_len oa, sizeLine_eq]
        have := of_decide_eq_true hz
        omega
      · have kb := kk b (List.mem_append_right _ (List.mem_append_left _ (List.mem_cons_of_mem _ hb)))
        refine ⟨kb.2.1, kb.2.2.1, kb.2.2.2, ?_⟩
        rintro rfl
        exact (List.nodup_cons.mp nb.1).1 hb
      · rw [List.append_nil]
        exact nodup_mid n ne fun x hx hy => (kk x hy).2.2.2 (ke x hx)
      · rw [List.append_nil] at hb
        rcases List.mem_append.mp hb with z | z
        · have := kk b (List.mem_append_right _ (List.mem_append_left _ (List.mem_cons_of_mem _ z)))
          exact ⟨this.1, this.2.1⟩
        · exact ⟨st1.old (ke b z), st1.ne_ha (ke b z)⟩
    · rw [if_neg hz] at q
      exact q.elim
  · exact p1.elim
theorem ds_app {apos pos2 : Pos} (hk : PE X a (rp c W k)) (he : PE X e (rn c W f)) (hK : X.K = c.K := by rfl) (hbase : attributeBase a "append" X.env (eval a X.env) = eval a X.env := by rfl)
    (hfew : ((backTo pos (starEach [e] X.env)).all (fun x => !x.1) && (backToKw pos (keywordEach [] X.env)).all (fun x => x.1.isSome)
      && decide ([e].length + ([] : List Keyword).length + (if ([] : List Keyword).isEmpty then 0 else 1) < 30)) = true := by rfl)
    (hline : (apos.endLine == pos.line) = true := by rfl) (s1 : starEach [e] X.env = (false, eval e X.env) :: starEach [] X.env := by rfl) (hplain : (backTo pos (starEach [] X.env)).any (·.1) = false := by rfl)
    (hs : swapsWith (.Call (.Attribute a "append" apos) [e] [] pos) none pos2.line X.env = pure false := by rfl) : PS X (.Expr (.Call (.Attribute a "append" apos) [e] [] pos) pos2) (rs c W nw (sApp k f)) :=
  ps_to (ps_expr (pe_bm PySem.F.plainAttrs_list PySem.F.slot_list_append PySem.F.type_list_append mt_append hk (pa_cons he pa_nil s1) hbase hfew hline s1 hplain) hs) (by rw [hK]; exact rs_app)
def sSt (k : EF Pl) (fi f : EF D) : SF := fun δ h => (f δ h).fl δ fun y h1 => (k δ h1).fl δ fun p h2 => (fi δ h2).fl δ fun z h3 => match plD δ p, z with
  | some (.hl ds), .int i => match ixN ds.length i with
    | some j => .nx (plS δ p (.hl (ds.set j y))) h3
    | none => .bad
  | _, _ => .bad
theorem nodup_ins {α : Type} {l1 l2 g : List α} (n : (l1 ++ l2).Nodup) (ng : g.Nodup) (h : ∀ x ∈ g, x ∉ l1 ++ l2) : (l1 ++ (g ++ l2)).Nodup := by
  have e : (l1 ++ (g ++ l2)).Perm (g ++ (l1 ++ l2)) := by
    rw [← List.append_assoc, ← List.append_assoc]
    exact (List.perm_append_comm).append_right _
  refine e.nodup_iff.mpr (List.nodup_append.mpr ⟨ng, n, fun x hx y hy => ?_⟩)
  rintro rfl
  exact h x hx hy
theorem rs_st (Dn : Ends) (σ : L2.St) (H : Hp) (x : rs c W nw (sSt k fb f) Dn σ H) : tAsg (rd c W f) (gSub (rp c W k) (rd c W fb) rSetL) Dn σ H := by
  obtain ⟨ha, G0, B, G, δ, h, st, p⟩ := x
  refine ⟨ha, G0, B, G, δ, h, st, post_imp (post_fl st p) fun y h1 G1 H1 af1 p1 w dw => ?_⟩
  have st1 := st.to af1
  refine ⟨ha, G0, B, G1, δ, h1, st1, post_imp (post_fl st1 p1) fun pl h2 G2 H2 af2 p2 v pv => ?_⟩
  have st2 := st1.to af2
  refine ⟨ha, G0, B, G2, δ, h2, st2, post_imp (post_fl st2 p2) fun z h3 G3 H3 af3 p3 iv di => ?_⟩
  have st3 := st2.to af3
  split at p3
  · rename_i ds i e0
    split at p3
    · rename_i j ej
      cases di
      obtain ⟨a, xs, f1, fd, f2, rfl, hl, oa, n, kk, ch⟩ := st3.change e0 (pv.keep af3)
      obtain ⟨_, hj, _, _⟩ := ixN_seq ej
      obtain ⟨dj, edj⟩ : ∃ dj, ds[j]? = some dj := ⟨ds[j], List.getElem?_eq_getElem hj⟩
      obtain ⟨vj, g1, g, g2, e1, rfl, oj, zoom⟩ := ownAll_item oa edj
      have nb := List.nodup_append.mp n
      have nc := List.nodup_append.mp nb.2.1
      have na := (List.nodup_cons.mp nc.1)
      have hm : ∀ b, b ∈ g1 ++ g2 → b ∈ g1 ++ (g ++ g2) := fun b hb => (List.mem_append.mp hb).elim (List.mem_append_left _) fun z => List.mem_append_right _ (List.mem_append_right _ z)
      refine ⟨a, xs, i, j, rfl, rfl, hl, by rw [ownAll_len oa]; exact ej, p3 σ G3 _ (ch (es := ds.set j y) (fe := g1 ++ ([] ++ g2)) (.refl st3.gh st3.hd) (zoom (Same.refl _) (fun b hb => ⟨upd_ne fun z => na.1 (by rw [← z]; exact hm b hb), ?_⟩) (.frz (dq_mono (af2.gg.trans af3.gg) dw))) ?_ fun b hb => ?_) (Same.refl _)⟩
      · exact (ownAll_at oa b (hm b hb)).1
      · have sb : (f1 ++ ((a :: (g1 ++ ([] ++ g2))) ++ f2)).Sublist (f1 ++ ((a :: (g1 ++ (g ++ g2))) ++ f2)) := by
          refine List.Sublist.append (List.Sublist.refl _) (List.Sublist.append ((List.Sublist.append (List.Sublist.refl _) (List.Sublist.append (List.nil_sublist _) (List.Sublist.refl _))).cons_cons a) (List.Sublist.refl _))
        exact n.sublist sb
      · have hb2 : b ∈ g1 ++ (g ++ g2) := hm b (by rw [List.nil_append] at hb; exact hb)
        have := kk b (List.mem_append_right _ (List.mem_append_left _ (List.mem_cons_of_mem _ hb2)))
        exact ⟨this.1, this.2.1⟩
    · exact p3.elim
  · exact p3.elim
theorem ds_st {tpos : Pos} (he : PE X e (rd c W f)) (hk : PE X a (rp c W k)) (hb : PE X b (rd c W fb))
    (hs : swapsWithSole [.Subscript a b tpos] e pos.line X.env = pure false := by rfl) (hw : swappedStores [.Subscript a b tpos] e X.env = pure none := by rfl)
    (h1 : (assignEach [.Subscript a b tpos] X.env).map (·.2) = [assign (.Subscript a b tpos) X.env] := by rfl)
    (ha : ∀ v, assign (.Subscript a b tpos) X.env v = (do
      let ov ← holding [v] (eval a X.env)
      let iv ← holding [v, ov] (eval b X.env)
      standAt tpos
      holding [v, ov, iv] (setItem ov iv v)
      release [v, ov, iv] []) := by intro _; rfl) : PS X (.Assign [.Subscript a b tpos] e pos) (rs c W nw (sSt k fb f)) := ps_to (ps_asg he (pg_sub hk hb set_list ha) hs hw h1) rs_st
def sStM (o : Nat) (fi f : EF D) : SF := fun δ h => (f δ h).fl δ fun y h1 => (eM o δ h1).fl δ fun _ h2 => (fi δ h2).fl δ fun z h3 => match z, h3 with
  | .int i, .hl ds => match ixN ds.length i with
    | some j => .nx δ (.hl (ds.set j y))
    | none => .bad
  | _, _ => .bad
theorem Sta.handed {ha : Option Addr} {G0 B G H : Hp} {σ : L2.St} {δ : DE} {h h' : D} {a : Addr} {o : HO} (st : Sta c ha G0 B G H σ δ h) (e : ha = some a) (k : Hok c ha G (upd H a o) h') : Sta c ha G0 B G (upd H a o) σ δ h' := by
  obtain ⟨fp, os, n, kk⟩ := st.sl
  subst e
  obtain ⟨g, hne⟩ := hok_at st.hd
  refine ⟨⟨fp, ownS_keep (Same.refl _) os fun b hb => ⟨upd_ne fun z => (kk b hb).2 (by rw [z]), (ownS_at os b hb).1⟩, n, kk⟩, st.mv.trans (Mv.put st.gh g hne), fun b u n e => ?_, k, st.hb⟩
  rw [upd_ne fun z => n (by rw [z])]
  exact st.bt b u n e
theorem rs_stM {o : Nat} (Dn : Ends) (σ : L2.St) (H : Hp) (x : rs c W nw (sStM o fb f) Dn σ H) : tAsg (rd c W f) (gSub (rm c W (eM o)) (rd c W fb) rSetL) Dn σ H := by
  obtain ⟨ha, G0, B, G, δ, h, st, p⟩ := x
  refine ⟨ha, G0, B, G, δ, h, st, post_imp (post_fl st p) fun y h1 G1 H1 af1 p1 w dw => ?_⟩
  have st1 := st.to af1
  refine ⟨ha, G0, B, G1, δ, h1, st1, post_imp (post_fl st1 p1) fun _ h2 G2 H2 af2 p2 v e1 => ?_⟩
  have st2 := st1.to af2
  refine ⟨ha, G0, B, G2, δ, h2, st2, post_imp (post_fl st2 p2) fun z h3 G3 H3 af3 p3 iv di => ?_⟩
  have st3 := st2.to af3
  split at p3
  · rename_i i ds
    split at p3
    · rename_i j ej
      cases di
      cases id st3.hd with
      | hand e2 g hl da =>
        rw [e1] at e2
        cases e2
        exact ⟨_, _, i, j, rfl, rfl, hl, by rw [dqAll_len da]; exact ej, p3 σ G3 _ (st3.handed e1 (.hand e1 g upd_same (dqAll_set (dq_mono (af2.gg.trans af3.gg) dw) j da))) (Same.refl _)⟩
    · exact p3.elim
  · exact p3.elim
theorem ds_stM {o : Nat} {tpos : Pos} (he : PE X e (rd c W f)) (hk : PE X a (rm c W (eM o))) (hb : PE X b (rd c W fb))
    (hs : swapsWithSole [.Subscript a b tpos] e pos.line X.env = pure false := by rfl) (hw : swappedStores [.Subscript a b tpos] e X.env = pure none := by rfl)
    (h1 : (assignEach [.Subscript a b tpos] X.env).map (·.2) = [assign (.Subscript a b tpos) X.env] := by rfl)
    (ha : ∀ v, assign (.Subscript a b tpos) X.env v = (do
      let ov ← holding [v] (eval a X.env)
      let iv ← holding [v, ov] (eval b X.env)
      standAt tpos
      holding [v, ov, iv] (setItem ov iv v)
      release [v, ov, iv] []) := by intro _; rfl) : PS X (.Assign [.Subscript a b tpos] e pos) (rs c W nw (sStM o fb f)) := ps_to (ps_asg he (pg_sub hk hb set_list ha) hs hw h1) rs_stM
def putD (f : Str) (v : D) : List (Str × D) → List (Str × D)
  | [] => [(f, v)]
  | (g, x) :: r => if g = f then (g, v) :: r else (g, x) :: putD f v r
theorem dqF_put {ha : Option Addr} {G : Hp} {C : Addr} {f : Str} {v : V} {d : D} (na : NoAttr c.K C f) (dv : Dq c ha G v d) : ∀ {xs : List (Str × V)} {fs : List (Str × D)}, DqF c ha G C xs fs → DqF c ha G C (putF f v xs) (putD f d fs)
  | _, _, .nil => .cons na dv .nil
  | _, _, .cons (n := m) h0 h t => by
    unfold putF putD
    by_cases e : m = f
    · rw [if_pos e, if_pos e]
      exact .cons h0 dv t
    · rw [if_neg e, if_neg e]
      exact .cons h0 h (dqF_put na dv t)
/-- self.f = e, self of the class n -/
def sAt (n : Str) (o : Nat) (m : Str) (f : EF D) : SF := fun δ h => (f δ h).fl δ fun y h1 => (eM o δ h1).fl δ fun _ h2 => match h2 with
  | .ins n' fs => if n' = n then (if szOk fs.length then (if fs.length < 900 then .nx δ (.ins n' (putD m y fs)) else .bad) else .bad) else .bad
  | _ => .bad
theorem ds_at {o : Nat} {n m : Str} {pos' : Pos} (na : ∀ C, c.mg n = some (.ref C) → NoAttr c.K C m) (ha : PE X a (rm c W (eM o))) (he : PE X e (rd c W f)) (hK : X.K = c.K := by rfl) (hs : swapsWith e (some (.Attribute a m pos')) pos.line X.env = pure false := by rfl) :
    PS X (.Assign [.Attribute a m pos'] e pos) (rs c W nw (sAt n o m f)) := ps_to (ps_fld ha he hs) fun Dn σ H x => by
  rw [hK]
  obtain ⟨ha, G0, B, G, δ, h, st, p⟩ := x
  refine ⟨ha, G0, B, G, δ, h, st, post_imp (post_fl st p) fun y h1 G1 H1 af1 p1 w dw => ?_⟩
  have st1 := st.to af1
  refine ⟨ha, G0, B, G1, δ, h1, st1, post_imp (post_fl st1 p1) fun _ h2 G2 H2 af2 p2 v e1 => ?_⟩
  have st2 := st1.to af2
  split at p2
  · rename_i n' fs
    by_cases hn : n' = n
    · rw [if_pos hn] at p2
      subst hn
      by_cases hz : szOk fs.length = true
      · rw [if_pos hz] at p2
        by_cases hl : fs.length < 900
        · rw [if_pos hl] at p2
          cases id st2.hd with
          | self e2 g k1 k2 k3 k4 =>
            rw [e1] at e2
            cases e2
            exact ⟨_, _, _, _, rfl, k3, k2.cl, na _ k1, by rw [dqF_len k4]; omega, p2 σ G2 _ (st2.handed e1 (.self e1 g k1 k2 upd_same (dqF_put (na _ k1) (dq_mono af2.gg dw) k4))) (Same.refl _)⟩
        · rw [if_neg hl] at p2
          exact p2.elim
      · rw [if_neg hz] at p2
        exact p2.elim
    · rw [if_neg hn] at p2
      exact p2.elim
  · exact p2.elim
end
end Fw
namespace Fw
open PySem PySem.Spec PyProof.Rows L2 Dz Vz
/-- what is handed to a def: things at rest, and the handed thing -/
inductive DmAll (c : Cn) (ha : Option Addr) (G : Hp) : List V → List D → Prop
  | nil : DmAll c ha G [] []
  | cons {v : V} {d : D} {xs : List V} {ds : List D} : Dq c ha G v d → DmAll c ha G xs ds → DmAll c ha G (v :: xs) (d :: ds)
  | me {a : Addr} {xs : List V} {ds : List D} : ha = some a → DmAll c ha G xs ds → DmAll c ha G (.ref a :: xs) (.me :: ds)
theorem dm_of {c : Cn} {ha : Option Addr} {G : Hp} : ∀ {xs : List V} {ds : List D}, DqAll c ha G xs ds → DmAll c ha G xs ds
  | _, _, .nil => .nil
  | _, _, .cons h t => .cons h (dm_of t)
theorem dm_len {c : Cn} {ha : Option Addr} {G : Hp} : ∀ {xs : List V} {ds : List D}, DmAll c ha G xs ds → xs.length = ds.length
  | _, _, .nil => rfl
  | _, _, .cons _ t => congrArg Nat.succ (dm_len t)
  | _, _, .me _ t => congrArg Nat.succ (dm_len t)
theorem dm_app {c : Cn} {ha : Option Addr} {G : Hp} {ys : List V} {es : List D} (k : DqAll c ha G ys es) : ∀ {xs : List V} {ds : List D}, DmAll c ha G xs ds → DmAll c ha G (xs ++ ys) (ds ++ es)
  | _, _, .nil => dm_of k
  | _, _, .cons h t => .cons h (dm_app k t)
  | _, _, .me h t => .me h (dm_app k t)
theorem dm_start {c : Cn} {ha : Option Addr} {G H : Hp} (m : Nat) : ∀ {xs : List V} {ds : List D}, DmAll c ha G xs ds → OwnS c ha G H (xs.map some ++ List.replicate m none) (ds.map some ++ List.replicate m none) []
  | _, _, .nil => by
    show OwnS c ha G H (List.replicate m none) (List.replicate m none) []
    induction m with
    | zero => exact .nil
    | succ m ih => exact .non none ih
  | _, _, .cons h t => OwnS.some (f := []) (fp := []) (.frz h) (dm_start m t)
  | _, _, .me h t => .me h (dm_start m t)
abbrev Fn := List D → D → Ex D
def EndF (nw : Bool) (c : Cn) (ha : Option Addr) (G H : Hp) (r : Ex D) (Q : VK) (E : XK) : Prop := match r with
  | .ok d h' => ∀ v G' H', Af c ha G H G' H' h' → Res nw c ha H G' H' v d → Q v H'
  | .exc n fs h' => ∀ C dd G' H', Af c ha G H G' H' h' → c.mg n = some (.ref C) → XR c ha G' H H' C dd fs → E (.ref C) dd H'
  | .bad => False
/-- a def's promise: on n things it does as F -/
def spD (c : Cn) (nw : Bool) (n : Nat) (F : Fn) : Sp := fun vs H Q E => ∃ ha G ds h, ds.length = n ∧ Same G H ∧ Hok c ha G H h ∧ DmAll c ha G vs ds ∧ EndF nw c ha G H (F ds h) Q E
/-- what a body makes of a def -/
def runF (N : Nat) (body : SF) : Fn := fun ds h => match body (ds.map some ++ List.replicate (N - ds.length) none) h with
  | .ret d h' => .ok d h'
  | .nx _ h' => .ok .non h'
  | .exc n fs _ h' => .exc n fs h'
  | _ => .bad
section
variable {P : Program} {w : World} {c : Cn} {base : Heap} {nw : Bool} {x qual : Str} {params : Arguments} {body : List Stmt} {scope : Scope} {dvs : List V} {kws : List (Str × V)} {f : Addr} {fd : FuncData} {N ps : List Str} {k : Nat} {u : SF}
theorem ok_def (F : FunD c.K x qual params body scope dvs kws f fd) (S : FnScope N ps scope)
    (hb : ∀ (cdv : Value) (A : Around) (outer : List Env) (s : Shared) (H : Hp) (E : XK), Room k (A.deeper (envOfC qual scope s.heap.objs.size f cdv)) → PSs (cxOf (L2.CX P w) P w c.K c.mg base N qual scope f cdv A outer s H E) body (rs c (fun cls dd _ H' => E cls dd H') nw u)) (hnw : nw = true → ∀ δ h δ' h', u δ h ≠ .nx δ' h' := by intro z; cases z) :
    FnOk P w c.K c.mg base (L2.CX P w) (k + 1) f fd ps (spD c nw ps.length (runF N.length u)) := by
  refine F.ok S (fun vs H Q E h => ?_) (fun cdv A outer s H vs Q E hr h => ?_)
  · obtain ⟨ha, G, ds, hh, hl, _, _, dv, _⟩ := h
    rw [dm_len dv, hl]
  · obtain ⟨ha, G, ds, hh, hl, s1, ok, dv, fin⟩ := h
    refine ⟨_, hb cdv A outer s H E hr, ha, G, H, G, _, hh, ⟨⟨[], by unfold L2.start; rw [dm_len dv]; exact dm_start (N.length - ds.length) dv, by simp, fun a z => nomatch z⟩, Mv.refl s1, fun _ _ _ e => e, ok, fun a e => ?_⟩, ?_⟩
    · subst e
      exact (hok_at ok).2
    · unfold runF at fin
      cases e : u (ds.map some ++ List.replicate (N.length - ds.length) none) hh with
      | ret d h' => rw [e] at fin; exact fin
      | nx δ' h' =>
        rw [e] at fin
        cases nw with
        | false => exact fun σ' G' H' st _ => fin .non G' H' st.af .non
        | true => exact absurd e (hnw rfl _ _ _ _)
      | exc n fs δ' h' => rw [e] at fin; exact fun σ' C dd G1 H1 h1 G' H' st _ af m xr => fin C dd G' H' (st.af.trans af) m (xr.from fun _ e => st.old e)
      | brk δ' h' => rw [e] at fin; exact fin.elim
      | ct δ' h' => rw [e] at fin; exact fin.elim
      | bad => rw [e] at fin; exact fin.elim
end
section
variable {X : Cx} {W : WX} {c : Cn} {nw : Bool} {e a b o : Expr} {es : List Expr} {pos : Pos} {te : TE} {f fa fb fo : EF D} {fs : EF (List D)}
def rg (c : Cn) (W : WX) (f : EF (List D)) : TA := fun σ H Q => ∃ ha G0 B G δ h, Sta c ha G0 B G H σ δ h ∧ Post c ha W σ G H (f δ h) fun ds _ G' H' => ∀ vs, DmAll c ha G' vs ds → Q vs H'
theorem pg_to {t : TA} (p : PA X es t) (i : ∀ σ H Q, rg c W fs σ H Q → t σ H Q) : PA X es (rg c W fs) := ⟨fun ps pins s σ H Q I h => p.run ps pins s σ H Q I (i σ H Q h)⟩
theorem dg_nil : PA X [] (rg c W eNil) := pg_to pa_nil fun σ H Q x => by
  obtain ⟨ha, G0, B, G, δ, h, st, p⟩ := x
  exact post_ok p st.gh st.hd [] .nil
theorem dg_cons (he : PE X e (rd c W f)) (hs : PA X es (rg c W fs)) (hst : starEach (e :: es) X.env = (false, eval e X.env) :: starEach es X.env := by rfl) : PA X (e :: es) (rg c W (eCons f fs)) := pg_to (pa_cons he hs hst) fun σ H Q x => by
  obtain ⟨ha, G0, B, G, δ, h, st, p⟩ := x
  refine ⟨ha, G0, B, G, δ, h, st, post_imp (post_bind p) fun d h1 G1 H1 af1 p1 v dv => ?_⟩
  refine ⟨ha, G0, B, G1, δ, h1, st.to af1, post_imp (post_bind p1) fun ds h2 G2 H2 af2 p2 vs dvs => ?_⟩
  exact post_ok p2 af2.gh af2.hd _ (.cons (dq_mono af2.gg dv) dvs)
/-- a name, which may hold the handed thing -/
def eVm (i : Nat) : EF D := fun δ h => match δ[i]? with
  | some (some .me) => .ok .me h
  | some (some d) => if d.fr then .ok d h else .bad
  | _ => .bad
theorem dg_v {i : Nat} {x : Str} {p : Pos} (hN : X.N[i]? = some x) (hv : Vis X.env.scope x) (hs : PA X es (rg c W fs)) (hd : (x == ("__debug__" : Str)) = false := by decide) (hcd : (x == ("__classdict__" : Str)) = false := by decide) (hst : starEach (.Name x p :: es) X.env = (false, eval (.Name x p) X.env) :: starEach es X.env := by rfl) : PA X (.Name x p :: es) (rg c W (eCons (eVm i) fs)) := pg_to (pa_cons (pe_var hN hv hd hcd) hs hst) fun σ H Q x => by
  obtain ⟨ha, G0, B, G, δ, h, st, p⟩ := x
  obtain ⟨fp, o, n, k⟩ := st.sl
  unfold eCons eVm at p
  split at p
  · rename_i e
    obtain ⟨a, h1, h2⟩ := ownS_me o e
    refine ⟨_, h1, ha, G0, B, G, δ, h, st, post_imp (post_bind p) fun ds h2' G2 H2 af2 p2 vs dvs => ?_⟩
    exact post_ok p2 af2.gh af2.hd _ (.me h2 dvs)
  · rename_i d nm e
    by_cases hf : d.fr = true
    · rw [if_pos hf] at p
      obtain ⟨v, f1, f, f2, h1, _, h3, _⟩ := ownS_slot o e (fr_nm hf)
      refine ⟨v, h1, ha, G0, B, G, δ, h, st, post_imp (post_bind p) fun ds h2 G2 H2 af2 p2 vs dvs => ?_⟩
      exact post_ok p2 af2.gh af2.hd _ (.cons (dq_mono af2.gg (own_fr h3 hf).1) dvs)
    · rw [if_neg hf] at p
      exact p.elim
  · exact p.elim
theorem run_fnD {CX : CXT} {k : Nat} {f : Addr} {fd : FuncData} {ps : List Str} {sp : Sp} {ds : List Value} {dvs : List V} {E : XK} {pins : List (Addr × Obj)} {σ : L2.St} {H : Hp} {s : Shared} {Q : VK} {us : List Value} {vs : List V} (F : FnOk X.prog X.w X.K X.mg X.base CX k f fd ps sp) (hr : Room k X.A) (hb : L2.Binds X.K fd ps ds) (hd : Vals dvs ds) (hx : PassesAt CX X σ E)
    (I : Inv X pins σ H s) (r : Vals vs us) (h : sp (vs ++ dvs) H Q E) : wpAny (model X.prog X.w) X.A (call (.ref f) us) (EP X pins σ Q) X.xe s := by
  have r2 : Vals (vs ++ dvs) (us ++ ds) := r.append hd
  have hl : (us ++ ds).length = ps.length := by rw [← r2.length]; exact F.len _ _ _ _ h
  refine wpAny_call (codeAny_mono (F.run X.A X.stack s H ⟨us, []⟩ (us ++ ds) (vs ++ dvs) Q E hr I.env0 (hb s us I.kIn hl) r2 h) fun r s' hq => ?_)
  cases r with
  | error e => exact hx pins H s e s' I hq
  | ok fl =>
    cases fl with
    | ret u => exact I.after hq
    | next => exact False.elim hq
    | brk => exact False.elim hq
    | cont => exact False.elim hq
def tCallD (sp : Sp) (dvs : List V) (E : L2.St → XK) (t : TA) : TE := fun σ H Q => t σ H fun vs H1 => sp (vs ++ dvs) H1 Q (E σ)
section
variable {CX : CXT} {k : Nat} {g C : Addr} {fd : FuncData} {ps : List Str} {sp : Sp} {ds : List Value} {dvs : List V} {E : L2.St → XK} {x m : Str} {p apos : Pos} {t : TA}
theorem pe_callD (F : FnOk X.prog X.w X.K X.mg X.base CX k g fd ps sp) (hr : Room k X.A) (hg : Gl X x) (hm : X.mg x = some (.ref g)) (hk : PySem.W.keepIn X.K (.ref g) = true) (hb : L2.Binds X.K fd ps ds) (hd : Vals dvs ds) (hx : ∀ σ, PassesAt CX X σ (E σ))
    (ha : PA X (e :: es) t) (hdb : (x == ("__debug__" : Str)) = false := by decide) (he : starEach (e :: es) X.env = (false, eval e X.env) :: starEach es X.env := by rfl) (hpl : (backTo pos (starEach es X.env)).any (·.1) = false := by rfl) :
    PE X (.Call (.Name x p) (e :: es) [] pos) (tCallD sp dvs E t) := by
  refine ⟨fun pins s σ H Q I h => ?_⟩
  refine wpAny_Call_Name_kw (ld_glob I hg hm ?_ hdb)
  refine PySem.W.callWith_K (h₀ := X.base) I.ok.mod.kin hk (thn (ha.run pos pins s σ H _ I h) fun us s1 ⟨vs, H1, I1, r, q⟩ => ⟨I1.kIn, ?_⟩) he hpl
  exact run_fnD F hr hb hd (hx σ) I1 r q
def tMethD (C : Addr) (m : Str) (sp : Sp) (dvs : List V) (E : L2.St → XK) (ta : TE) (t : TA) : TE := fun σ H Q => ta σ H fun x H1 => ∃ a dx fs, x = .ref a ∧ H1 a = some (.ins C dx fs) ∧ fs.lookup m = none ∧ t σ H1 fun vs H2 => sp (x :: (vs ++ dvs)) H2 Q (E σ)
theorem pe_methD {pl : Sem Bool} {to : TE} (he : PE X o to) (c : Cls X.K C) (hm : Meth X.K C m g) (F : FnOk X.prog X.w X.K X.mg X.base CX k g fd ps sp) (hr : Room k X.A) (hb : L2.Binds X.K fd ps ds) (hd : Vals dvs ds) (hx : ∀ σ, PassesAt CX X σ (E σ)) (ha : PA X (e :: es) t)
    (hst : starEach (e :: es) X.env = (false, eval e X.env) :: starEach es X.env := by rfl) (hpl : (backTo pos (starEach es X.env)).any (·.1) = false := by rfl)
    (ht : eval (.Call (.Attribute o m apos) (e :: es) [] pos) X.env = (do
      let ov ← eval o X.env
      standAt apos.atName
      let (f, first) ← holding [ov] (getMethod ov m pl)
      callWith pos f first (backTo pos (starEach (e :: es) X.env)) (backToKw pos (keywordEach [] X.env))) := by rfl) :
    PE X (.Call (.Attribute o m apos) (e :: es) [] pos) (tMethD C m sp dvs E to t) := by
  refine ⟨fun pins s σ H Q I h => ?_⟩
  refine PySem.W.methodCall_KW (pl := pl) (thn (he.run pins s σ H _ I h) fun u s1 ⟨x, H1, I1, rx, a, dx, fs, ex, ea, l, q⟩ => ?_) ht
  subst ex
  obtain rfl : u = Value.ref a := rx
  refine getmeth_ok I1 ea c hm l ?_
  refine PySem.W.callWith_K (first := [.ref a]) (h₀ := X.base) I.ok.mod.kin hm.kp (thn (ha.run pos pins s1 σ H1 _ I1 q) fun us s2 ⟨vs, H2, I2, r, q2⟩ => ⟨I2.kIn, ?_⟩) hst hpl
  exact run_fnD (us := .ref a :: us) (vs := .ref a :: vs) F hr hb hd (hx σ) I2 (.cons rfl r) q2
def tMakeD (C : Addr) (sp : Sp) (dvs : List V) (E : L2.St → XK) (t : TA) : TE := fun σ H Q => t σ H fun vs H1 => ∀ x dx, H1 x = none → H1 dx = none → dx ≠ x →
  sp (.ref x :: (vs ++ dvs)) (upd (upd H1 dx (.own x)) x (.ins C dx [])) (fun v H2 => v = .non ∧ Q (.ref x) H2) (E σ)
theorem run_makeD {pins : List (Addr × Obj)} {σ : L2.St} {H : Hp} {s : Shared} {Q : VK} {us : List Value} {vs : List V} {E : XK} (M : Mk X.K C g) (F : FnOk X.prog X.w X.K X.mg X.base CX k g fd ps sp) (hr : Room (k + 1) X.A) (hb : L2.Binds X.K fd ps ds) (hd : Vals dvs ds)
    (hx : PassesAt CX X σ E) (I : Inv X pins σ H s) (r : Vals vs us)
    (h : ∀ x dx, H x = none → H dx = none → dx ≠ x → sp (.ref x :: (vs ++ dvs)) (upd (upd H dx (.own x)) x (.ins C dx [])) (fun v H2 => v = .non ∧ Q (.ref x) H2) E) :
    wpAny (model X.prog X.w) X.A (call (.ref C) us) (EP X pins σ Q) X.xe s := by
  have hq := h (s.heap.objs.size + 1) s.heap.objs.size (I.hok.fresh (Nat.le_succ _)) (I.hok.fresh (Nat.le_refl _)) (Nat.ne_of_lt (Nat.lt_succ_self _))
  have I2 := Inv.made (C := C) I
  have r2 : Vals (V.ref (s.heap.objs.size + 1) :: (vs ++ dvs)) (Value.ref (s.heap.objs.size + 1) :: (us ++ ds)) := .cons rfl (r.append hd)
  have hl : (Value.ref (s.heap.objs.size + 1) :: us ++ ds).length = ps.length := by
    have e := r2.length
    rw [F.len _ _ _ _ hq] at e
    exact e.symm
  refine wpAny_call (make_map (f := g) I.kIn M.makes M.init (beq_iff_eq.mp M.fn) (codeAny_mono (F.run _ X.stack _ _ ⟨Value.ref (s.heap.objs.size + 1) :: us, []⟩ (Value.ref (s.heap.objs.size + 1) :: (us ++ ds)) _ _ E (hr.make C us [])
    (I2.env0.make C us []) (hb _ (Value.ref (s.heap.objs.size + 1) :: us) I2.kIn hl) r2 hq) fun r s' hq' => ?_))
  cases r with
  | error e => exact hx pins _ _ e s' I2 hq'
  | ok fl =>
    cases fl with
    | ret u =>
      obtain ⟨v, H', I3, rv, ev, q3⟩ := I2.after hq'
      subst ev
      exact ⟨rv, ⟨V.ref (s.heap.objs.size + 1), H', I3, rfl, q3⟩⟩
    | next => exact False.elim hq'
    | brk => exact False.elim hq'
    | cont => exact False.elim hq'
theorem pe_makeD (M : Mk X.K C g) (F : FnOk X.prog X.w X.K X.mg X.base CX k g fd ps sp) (hr : Room (k + 1) X.A) (hg : Gl X x) (hm : X.mg x = some (.ref C)) (hb : L2.Binds X.K fd ps ds) (hd : Vals dvs ds) (hx : ∀ σ, PassesAt CX X σ (E σ))
    (ha : PA X (e :: es) t) (hdb : (x == ("__debug__" : Str)) = false := by decide) (he : starEach (e :: es) X.env = (false, eval e X.env) :: starEach es X.env := by rfl) (hpl : (backTo pos (starEach es X.env)).any (·.1) = false := by rfl) :
    PE X (.Call (.Name x p) (e :: es) [] pos) (tMakeD C sp dvs E t) := by
  refine ⟨fun pins s σ H Q I h => ?_⟩
  refine wpAny_Call_Name_kw (ld_glob I hg hm ?_ hdb)
  refine PySem.W.callWith_K (h₀ := X.base) I.ok.mod.kin M.kp (thn (ha.run pos pins s σ H _ I h) fun us s1 ⟨vs, H1, I1, r, q⟩ => ⟨I1.kIn, ?_⟩) he hpl
  exact run_makeD M F hr hb hd (hx σ) I1 r q
end
/-- what a call's end gives -/
theorem endF_of {ha : Option Addr} {σ : L2.St} {G H : Hp} {r : Ex D} {Q : VK} (p : Post c ha W σ G H r fun d _ G' H' => ∀ v, Dq c ha G' v d → Q v H') : EndF false c ha G H r Q (WE W σ) := by
  cases r with
  | ok d h' => exact fun v G' H' af res => p G' H' af v res
  | exc n fs h' => exact fun C dd G' H' af m x => p C dd G' H' af m x
  | bad => exact p
/-- a call: n things in all -/
def eCall (n : Nat) (F : Fn) (dd : List D) (fs : EF (List D)) : EF D := fun δ h => (fs δ h).bind fun ds h1 => if (ds ++ dd).length = n then F (ds ++ dd) h1 else .bad
theorem Post.arg {α β : Type} {ha : Option Addr} {σ : L2.St} {G H : Hp} {r : Ex α} {g : α → D → Ex β} {k : β → D → Hp → Hp → Prop} (p : Post c ha W σ G H (r.bind g) k) : Post c ha W σ G H r fun a h1 G1 H1 => Same G1 H1 ∧ Hok c ha G1 H1 h1 ∧ Post c ha W σ G1 H1 (g a h1) k := post_imp (post_bind p) fun a h1 G1 H1 af q => ⟨af.gh, af.hd, q⟩
section
variable {k n : Nat} {g C : Addr} {fd : FuncData} {ps : List Str} {F : Fn} {ds : List Value} {dvs : List V} {dd : List D} {x m : Str} {p apos : Pos}
theorem if_post {α : Type} {ha : Option Addr} {σ : L2.St} {G H : Hp} {p : Prop} [Decidable p] {r : Ex α} {K : α → D → Hp → Hp → Prop} (q : Post c ha W σ G H (if p then r else .bad) K) : p ∧ Post c ha W σ G H r K := by
  by_cases hp : p
  · rw [if_pos hp] at q
    exact ⟨hp, q⟩
  · rw [if_neg hp] at q
    exact q.elim
theorem rd_call (hd : ∀ ha G, DqAll c ha G dvs dd) (σ : L2.St) (H : Hp) (Q : VK) (x : rd c W (eCall n F dd fs) σ H Q) : tCallD (spD c false n F) dvs (WE W) (rg c W fs) σ H Q := by
  obtain ⟨ha, G0, B, G, δ, h, st, p⟩ := x
  refine ⟨ha, G0, B, G, δ, h, st, post_imp (Post.arg p) fun ds h1 G1 H1 af ⟨s1, o1, p1⟩ vs dv => ?_⟩
  obtain ⟨hl, p2⟩ := if_post p1
  exact ⟨ha, G1, ds ++ dd, h1, hl, s1, o1, dm_app (hd ha G1) dv, endF_of p2⟩
theorem dx_call (G : FnOk X.prog X.w X.K X.mg X.base (L2.CX X.prog X.w) k g fd ps (spD c false n F)) (hr : Room k X.A) (hg : Gl X x) (hm : X.mg x = some (.ref g)) (hk : PySem.W.keepIn X.K (.ref g) = true) (hb : L2.Binds X.K fd ps ds) (hv : Vals dvs ds) (hd : ∀ ha G, DqAll c ha G dvs dd) (hx : ∀ σ, PassesAt (L2.CX X.prog X.w) X σ (WE W σ))
    (ha : PA X (e :: es) (rg c W fs)) (hdb : (x == ("__debug__" : Str)) = false := by decide) (he : starEach (e :: es) X.env = (false, eval e X.env) :: starEach es X.env := by rfl) (hpl : (backTo pos (starEach es X.env)).any (·.1) = false := by rfl) :
    PE X (.Call (.Name x p) (e :: es) [] pos) (rd c W (eCall n F dd fs)) := pe_to (pe_callD G hr hg hm hk hb hv hx ha hdb he hpl) (rd_call hd)
/-- o.m(..), o of the class nm -/
def eMeth (nm m : Str) (n : Nat) (F : Fn) (dd : List D) (fo : EF D) (fs : EF (List D)) : EF D := fun δ h => (fo δ h).bind fun d h1 => match d with
  | .ins n' xs => if n' = nm ∧ xs.lookup m = none then (fs δ h1).bind fun ds h2 => if (d :: (ds ++ dd)).length = n then F (d :: (ds ++ dd)) h2 else .bad else .bad
  | _ => .bad
theorem rd_meth {nm : Str} (mC : c.mg nm = some (.ref C)) (hd : ∀ ha G, DqAll c ha G dvs dd) (σ : L2.St) (H : Hp) (Q : VK) (x : rd c W (eMeth nm m n F dd fo fs) σ H Q) : tMethD C m (spD c false n F) dvs (WE W) (rd c W fo) (rg c W fs) σ H Q := by
  obtain ⟨ha, G0, B, G, δ, h, st, p⟩ := x
  refine ⟨ha, G0, B, G, δ, h, st, post_imp (post_bind p) fun d h1 G1 H1 af p1 v dv => ?_⟩
  cases dv with
  | ins k1 k2 k3 k4 =>
    obtain ⟨⟨rfl, hno⟩, p2⟩ := if_post p1
    rw [k1] at mC
    cases mC
    refine ⟨_, _, _, rfl, af.gh _ _ k2, dqF_no k4 hno, ha, G0, B, G1, δ, h1, st.to af, post_imp (Post.arg p2) fun ds h2 G2 H2 af2 ⟨s2, o2, p3⟩ vs dvs' => ?_⟩
    obtain ⟨hl, p4⟩ := if_post p3
    exact ⟨ha, G2, _, h2, hl, s2, o2, .cons (.ins k1 (af2.gg _ _ k2) k3 (dqF_mono af2.gg k4)) (dm_app (hd ha G2) dvs'), endF_of p4⟩
  | _ => exact p1.elim
theorem dx_meth {nm : Str} {pl : Sem Bool} (mC : c.mg nm = some (.ref C)) (he : PE X o (rd c W fo)) (cl : Cls X.K C) (hm : Meth X.K C m g) (G : FnOk X.prog X.w X.K X.mg X.base (L2.CX X.prog X.w) k g fd ps (spD c false n F)) (hr : Room k X.A) (hb : L2.Binds X.K fd ps ds) (hv : Vals dvs ds) (hd : ∀ ha G, DqAll c ha G dvs dd) (hx : ∀ σ, PassesAt (L2.CX X.prog X.w) X σ (WE W σ)) (ha : PA X (e :: es) (rg c W fs))
    (hst : starEach (e :: es) X.env = (false, eval e X.env) :: starEach es X.env := by rfl) (hpl : (backTo pos (starEach es X.env)).any (·.1) = false := by rfl)
    (ht : eval (.Call (.Attribute o m apos) (e :: es) [] pos) X.env = (do
      let ov ← eval o X.env
      standAt apos.atName
      let (f, first) ← holding [ov] (getMethod ov m pl)
      callWith pos f first (backTo pos (starEach (e :: es) X.env)) (backToKw pos (keywordEach [] X.env))) := by rfl) :
    PE X (.Call (.Attribute o m apos) (e :: es) [] pos) (rd c W (eMeth nm m n F dd fo fs)) := pe_to (pe_methD he cl hm G hr hb hv hx ha hst hpl ht) (rd_meth mC hd)
/-- C(..), C the class nm -/
def eMake (nm : Str) (n : Nat) (F : Fn) (dd : List D) (fs : EF (List D)) : EF D := fun δ h => (fs δ h).bind fun ds h1 => if (D.me :: (ds ++ dd)).length = n then
  match F (.me :: (ds ++ dd)) (.ins nm []) with
  | .ok .non (.ins n' xs) => if n' = nm then .ok (.ins n' xs) h1 else .bad
  | .exc n' xs _ => .exc n' xs h1
  | _ => .bad
  else .bad
theorem dqAll_ha {ha hb : Option Addr} {G : Hp} : ∀ {xs : List V} {ds : List D}, DqAll c ha G xs ds → DqAll c hb G xs ds
  | _, _, .nil => .nil
  | _, _, .cons h t => .cons (dq_ha h) (dqAll_ha t)
theorem XR.ha {ha hb : Option Addr} {G H0 H : Hp} {C : Addr} {dd : Option Addr} {fs : List (Str × D)} (x : XR c ha G H0 H C dd fs) : XR c hb G H0 H C dd fs := by
  rcases x with x | ⟨d, xs, h1, h2, h3, h4, h5⟩
  · exact .inl x
  · exact .inr ⟨d, xs, h1, h2, h3, h4, dqF_ha h5⟩
theorem rd_make {nm : Str} (mC : c.mg nm = some (.ref C)) (co : COk c.K C) (hd : ∀ ha G, DqAll c ha G dvs dd) (σ : L2.St) (H : Hp) (Q : VK) (x : rd c W (eMake nm n F dd fs) σ H Q) : tMakeD C (spD c false n F) dvs (WE W) (ra c W fs) σ H Q := by
  obtain ⟨ha, G0, B, G, δ, h, st, p⟩ := x
  refine ⟨ha, G0, B, G, δ, h, st, post_imp (post_bind p) fun ds h1 G1 H1 af p1 vs dv => fun x dx hx hdx hne => ?_⟩
  obtain ⟨hl, p2⟩ := if_post p1
  have gx : G1 x = none := old_none af.gh hx
  have gdx : G1 dx = none := old_none af.gh hdx
  have hk : ∀ a, ha = some a → H1 a ≠ none := fun a e => by
    subst e
    exact (hok_at af.hd).2
  -- the heap in which the new thing stands bare
  have hx2 : (upd H1 dx (.own x)) x = none := by rw [upd_ne hne.symm]; exact hx
  have m0 : Mv G1 H1 G1 (upd (upd H1 dx (.own x)) x (.ins C dx [])) := (Mv.hid af.gh hdx).trans (Mv.hid ((Mv.hid (o := .own x) af.gh hdx).gh) hx2)
  have s0 : Same H1 (upd (upd H1 dx (.own x)) x (.ins C dx [])) := (same_new hdx).trans (same_new hx2)
  refine ⟨some x, G1, .me :: (ds ++ dd), .ins nm [], hl, m0.gh, .self rfl gx mC co upd_same .nil, .me rfl (dm_of (dqAll_app (dqAll_ha dv) (hd _ G1))), ?_⟩
  have back : ∀ {G2 H2 : Hp} {h2 : D}, Af c (some x) G1 (upd (upd H1 dx (.own x)) x (.ins C dx [])) G2 H2 h2 → Same H1 H2 := fun {G2 H2 h2} a b o e => a.bt b o (fun z => by cases z; rw [hx] at e; cases e) (s0 b o e)
  have view : ∀ {G2 H2 : Hp} {h2 : D}, Af c (some x) G1 (upd (upd H1 dx (.own x)) x (.ins C dx [])) G2 H2 h2 → Af c ha G1 H1 G2 H2 h1 := fun {G2 H2 h2} a => .of af.gh af.hd (m0.trans a.mv) (back a)
  generalize eF : F (.me :: (ds ++ dd)) (.ins nm []) = r at p2
  cases r with
  | bad => exact p2.elim
  | exc n' xs h2 => exact fun C' dd' G2 H2 a m xr => p2 C' dd' G2 H2 (view a) m (xr.ha.from fun d e => by
    cases z : H1 d with
    | none => rfl
    | some o => rw [s0 d o z] at e; cases e)
  | ok d h2 =>
    cases d <;> first | (exact p2.elim) | skip
    cases h2 <;> first | (exact p2.elim) | skip
    rename_i n' xs
    obtain ⟨rfl, p3⟩ := if_post p2
    intro v G2 H2 a res
    cases (show Dq c (some x) G2 v .non from res)
    refine ⟨rfl, ?_⟩
    have af2 := view a
    cases a.hd with
    | @self a0 C0 dx0 n0 xs0 fs0 e1 g2 k1 k2 k3 k4 =>
      cases e1
      have sh : Same G2 (upd G2 x (.ins C0 dx0 xs0)) := same_new g2
      refine p3 (upd G2 x (.ins C0 dx0 xs0)) H2 ⟨Mv.shut af2.mv hx g2 k3, af2.bt, hok_keep af2.hd sh fun b eb => ⟨?_, rfl⟩⟩ _ (.ins k1 upd_same k2 (dqF_mono sh (dqF_ha k4)))
      rw [upd_ne fun z => hk b eb (by rw [z]; exact hx)]
      subst eb
      exact (hok_at af2.hd).1
theorem dx_make {nm : Str} (mC : c.mg nm = some (.ref C)) (co : COk c.K C) (M : Mk X.K C g) (G : FnOk X.prog X.w X.K X.mg X.base (L2.CX X.prog X.w) k g fd ps (spD c false n F)) (hr : Room (k + 1) X.A) (hg : Gl X nm) (hm : X.mg nm = some (.ref C)) (hb : L2.Binds X.K fd ps ds) (hv : Vals dvs ds) (hd : ∀ ha G, DqAll c ha G dvs dd) (hx : ∀ σ, PassesAt (L2.CX X.prog X.w) X σ (WE W σ))
    (ha : PA X (e :: es) (ra c W fs)) (hdb : (nm == ("__debug__" : Str)) = false := by decide) (he : starEach (e :: es) X.env = (false, eval e X.env) :: starEach es X.env := by rfl) (hpl : (backTo pos (starEach es X.env)).any (·.1) = false := by rfl) :
    PE X (.Call (.Name nm p) (e :: es) [] pos) (rd c W (eMake nm n F dd fs)) := pe_to (pe_makeD M G hr hg hm hb hv hx ha hdb he hpl) (rd_make mC co hd)
end
def No (c : Cn) (ha : Option Addr) (H G' H' : Hp) (v : V) (d : D) : Prop := ∃ fp, Own c ha G' H' v d fp ∧ fp.Nodup ∧ ∀ a ∈ fp, H a = none
def rw' (c : Cn) (W : WX) (f : EF D) : TE := fun σ H Q => ∃ ha G0 B G δ h, Sta c ha G0 B G H σ δ h ∧ Post c ha W σ G H (f δ h) fun d _ G' H' => ∀ v, No c ha H G' H' v d → Q v H'
theorem pw_to' (p : PE X e te) (i : ∀ σ H Q, rw' c W f σ H Q → te σ H Q) : PE X e (rw' c W f) := ⟨fun pins s σ H Q I h => p.run pins s σ H Q I (i σ H Q h)⟩
theorem no_from {ha : Option Addr} {G H G1 H1 G2 H2 : Hp} {h1 : D} {v : V} {d : D} (af : Af c ha G H G1 H1 h1) (n : No c ha H1 G2 H2 v d) : No c ha H G2 H2 v d := by
  obtain ⟨fp, o, n, k⟩ := n
  exact ⟨fp, o, n, fun a hx => af_old af (k a hx)⟩
theorem endW_of {ha : Option Addr} {σ : L2.St} {G H : Hp} {r : Ex D} {Q : VK} (p : Post c ha W σ G H r fun d _ G' H' => ∀ v, No c ha H G' H' v d → Q v H') : EndF true c ha G H r Q (WE W σ) := by
  cases r with
  | ok d h' => exact fun v G' H' af ⟨fp, o, n, k⟩ => p G' H' af v ⟨fp, o, n, fun a hx => (k a hx).1⟩
  | exc n fs h' => exact fun C dd G' H' af m x => p C dd G' H' af m x
  | bad => exact p
section
variable {k n : Nat} {g C : Addr} {fd : FuncData} {ps : List Str} {F : Fn} {ds : List Value} {dvs : List V} {dd : List D} {x m : Str} {p apos : Pos}
theorem rw_call (hd : ∀ ha G, DqAll c ha G dvs dd) (σ : L2.St) (H : Hp) (Q : VK) (x : rw' c W (eCall n F dd fs) σ H Q) : tCallD (spD c true n F) dvs (WE W) (rg c W fs) σ H Q := by
  obtain ⟨ha, G0, B, G, δ, h, st, p⟩ := x
  refine ⟨ha, G0, B, G, δ, h, st, post_imp (post_bind p) fun ds h1 G1 H1 af p1 vs dv => ?_⟩
  obtain ⟨hl, p2⟩ := if_post p1
  exact ⟨ha, G1, ds ++ dd, h1, hl, af.gh, af.hd, dm_app (hd ha G1) dv, endW_of (post_imp p2 fun d h2 G2 H2 af2 q v n => q v (no_from af n))⟩
theorem dw_call (G : FnOk X.prog X.w X.K X.mg X.base (L2.CX X.prog X.w) k g fd ps (spD c true n F)) (hr : Room k X.A) (hg : Gl X x) (hm : X.mg x = some (.ref g)) (hk : PySem.W.keepIn X.K (.ref g) = true) (hb : L2.Binds X.K fd ps ds) (hv : Vals dvs ds) (hd : ∀ ha G, DqAll c ha G dvs dd) (hx : ∀ σ, PassesAt (L2.CX X.prog X.w) X σ (WE W σ))
    (ha : PA X (e :: es) (rg c W fs)) (hdb : (x == ("__debug__" : Str)) = false := by decide) (he : starEach (e :: es) X.env = (false, eval e X.env) :: starEach es X.env := by rfl) (hpl : (backTo pos (starEach es X.env)).any (·.1) = false := by rfl) :
    PE X (.Call (.Name x p) (e :: es) [] pos) (rw' c W (eCall n F dd fs)) := pw_to' (pe_callD G hr hg hm hk hb hv hx ha hdb he hpl) (rw_call hd)
end
/-- all let rest -/
def eFw (f : EF D) : EF D := fun δ h => (f δ h).bind fun d h1 => .ok (frz d) h1
theorem dw_of (p : PE X e (rn c W f)) : PE X e (rw' c W f) := pw_to' p fun σ H Q x => by
  obtain ⟨ha, G0, B, G, δ, h, st, p⟩ := x
  exact ⟨ha, G0, B, G, δ, h, st, post_imp p fun d h1 G1 H1 af q v n => q v (nw_own n)⟩
theorem ds_setW {i : Nat} {x : Str} {pos' : Pos} (hN : X.N.Nodup) (hi : X.N[i]? = some x) (hx : Loc X.env.scope x) (he : PE X e (rw' c W f)) (hs : swapsWith e (some (.Name x pos')) pos.line X.env = pure false := by rfl) (hf : X.fn x = true ∨ X.env.scope.names.lookup x = some .local := by first | exact .inl rfl | exact .inr rfl | assumption) :
    PS X (.Assign [.Name x pos'] e pos) (rs c W nw (sSet i f)) := ps_to (ps_set hN hi hx he hs hf) fun Dn σ H x => by
  obtain ⟨ha, G0, B, G, δ, h, st, p⟩ := x
  exact ⟨ha, G0, B, G, δ, h, st, post_imp (post_fl st p) fun d h1 G1 H1 af q v ⟨f, o, n1, n2⟩ => q _ G1 H1 (st.setO af i o n1 n2) (Same.refl _)⟩
theorem ds_retWW (he : PE X e (rw' c W f)) : PS X (.Return (some e) pos) (rs c W true (sRet f)) := ps_to (ps_ret he) fun Dn σ H x => by
  obtain ⟨ha, G0, B, G, δ, h, st, p⟩ := x
  exact ⟨ha, G0, B, G, δ, h, st, post_imp (post_fl st p) fun d h1 G1 H1 af q v ⟨fp, o, n1, n2⟩ => q v G1 H1 (st.to af).af ⟨fp, o, n1, fun a hx => ⟨st.old (n2 a hx), st.ne_ha (n2 a hx)⟩⟩⟩
end
end Fw
namespace Wy
open PySem PySem.Spec PyProof.Rows L2
/-- a clause: its class, the slot of its name, what its suite does -/
structure Cl where
  c : Value
  i : Option Nat
  ts : Addr → Value → Option Addr → TS
/-- what the clauses ask, one behind the other -/
def wCl (K : PySem.W.Frag) (Wo : WX) (D : Ends) : List Cl → WX
  | [] => Wo
  | ⟨c, some i, ts⟩ :: r => wAs K c i ts (wCl K Wo D r) D
  | ⟨c, none, ts⟩ :: r => wOnly K c ts (wCl K Wo D r) D
inductive ClOk (X : Cx) : List ExceptHandler → List Cl → Prop
  | nil : ClOk X [] []
  | cons {x n : Str} {c : Value} {i : Nat} {ts : Addr → Value → Option Addr → TS} {b : Stmt} {bs : List Stmt} {p1 p2 : Pos} {hs : List ExceptHandler} {r : List Cl} (hn : X.N[i]? = some n) (hk : X.env.kindOf n = some .local) (nm : Names X x c)
      (su : ∀ (e : Addr) (ob : Obj) (k : Value) (dd : Option Addr) (ps : List (Addr × Obj)), Zc k dd ob → (∃ us, ob.data = .fields us) → PSs (X.suite e ((e, ob) :: ps)) (b :: bs) (ts e k dd)) (rest : ClOk X hs r) :
      ClOk X (.ExceptHandler (some (.Name x p1)) (some n) (b :: bs) p2 :: hs) (⟨c, some i, ts⟩ :: r)
  | bare {x : Str} {c : Value} {ts : Addr → Value → Option Addr → TS} {b : Stmt} {bs : List Stmt} {p1 p2 : Pos} {hs : List ExceptHandler} {r : List Cl} (nm : Names X x c)
      (su : ∀ (e : Addr) (ob : Obj) (k : Value) (dd : Option Addr) (ps : List (Addr × Obj)), Zc k dd ob → (∃ us, ob.data = .fields us) → PSs (X.suite e ((e, ob) :: ps)) (b :: bs) (ts e k dd)) (rest : ClOk X hs r) :
      ClOk X (.ExceptHandler (some (.Name x p1)) none (b :: bs) p2 :: hs) (⟨c, none, ts⟩ :: r)
section
variable {X : Cx} {body : List Stmt} {h0 : ExceptHandler} {hr : List ExceptHandler} {l : List Cl} {pos : Pos} {tb : WX → TS} {Wo : WX}
/-- the clauses, asked from left to right, of an exception that has landed -/
theorem asked {ps : List (Addr × Obj)} {B : Heap} {sI s0 s' : Shared} {σ σ0 : L2.St} {H H0 : Hp} {D : Ends} {e : Addr} {k : Value} {dd : Option Addr} {hp : Heap} (I0 : Inv X ps σ0 H0 s0)
    (st : X.stack = X.env :: X.outer) (fr : X.env.frame = some X.env.locals) (nd : X.N.Nodup) (tko : Takes X Wo)
    (J : Inv X ps σ H sI) (nb : ∀ c u, sI.heap.get? c = some u → c ∉ frs X.stack → B.get? c = some u) (up : sI.heap.UpToSlots hp) (fly : HandSPX.FlyingZ B (X.env :: X.outer) e (Zc k dd) hp) (na : H e = none) (os : s'.os = sI.os) (ag : AllBare s'.gens) :
    ∀ {hs : List ExceptHandler} {l : List Cl}, ClOk X hs l → wCl X.K Wo D l k dd σ H → wpAny (model X.prog X.w) X.A (handleBy (.ref e) X.env hs) (SP X ps D) X.xe { s' with heap := hp } := by
  have okI := I0.ok
  obtain ⟨ob, us, gob, zob, dob⟩ := fly.there
  have away : ∀ {h : Heap} {o : Obj} {ws : Array Value}, h.FunFrames B (X.env :: X.outer) → h.get? e = some o → o.data = .fields ws → e ∉ frs (X.env :: X.outer) := by
    intro h o ws ff eo ed hm
    obtain ⟨_, o2, eo2, hne⟩ := ff.mem hm
    rw [eo] at eo2
    cases eo2
    exact hne _ ed
  have out := away fly.2.2.1 gob dob
  have neL : e ≠ X.env.locals := fun z => out (List.mem_filterMap.mpr ⟨X.env, List.mem_cons_self, by rw [fr, z]⟩)
  have neF : e ∉ X.fs := by
    intro hm
    obtain ⟨v, hv, q⟩ := List.mem_filterMap.mp hm
    exact out (List.mem_filterMap.mpr ⟨v, List.mem_cons_of_mem _ hv, q⟩)
  have JL : Inv X ps σ H { s' with heap := hp } := J.landed nb fly.1 up os ag
  have JS := JL.suite gob dob na neL neF
  have Lk : PySem.W.Looks (model X.prog X.w) hp (typeOf (.ref e)) k := by
    intro A Q E s keeps q
    exact wpAny_typeOf_ref (keeps _ _ gob) (by rw [zob.1]; exact q)
  intro hs l hok
  induction hok with
  | nil =>
    intro wish
    refine wpAny_handleBy_nil ?_
    obtain ⟨_, _, _, ob1, us1, T, oT, ts1, g1, _, d1, a1, _⟩ := id fly
    unfold PySem.passOn
    refine wpAny_bind (wpAny_field g1 d1 a1 ?_)
    rw [if_neg (by simp : ¬ ((Value.ref T == Value.none) = true))]
    have leave : wpAny (model X.prog X.w) X.A (setFlight (.ref e) X.env.frame) (fun _ s4 => wpAny (model X.prog X.w) X.A (throw (.ref e) : Sem Flow) (SP X ps D) X.xe s4) X.xe { s' with heap := hp } := by
      rw [fr]
      refine HandSPX.setFlight_upZ fly fun hq held upq => wpAny_throw (tko _ _ ?_)
      exact ⟨e, B, sI, ps, σ, H, k, dd, rfl, J, nb, up.trans upq, .inr (.inr (by rw [st]; exact held)), na, os, ag, wish⟩
    first
      | exact wpAny_bind (wpAny_pure (wpAny_bind leave))
      | exact wpAny_bind leave
  | @cons x n qc qi qts b bs p1 p2 hs2 r hn hk nm su rest ih =>
    rintro ⟨t, et, yes, no⟩
    refine wpAny_handleBy_cons (codeAny_handlers_test ?_) (fun z => by cases z)
    have mt := PySem.W.exm_one (M := model X.prog X.w) JL.kIn Lk et
    have nameIs : ∀ {Q : Value → Shared → Prop} {E : Value → Shared → Prop}, Q qc { s' with heap := hp } → wpAny (model X.prog X.w) (X.A.mark (some (.ref e))) (eval (.Name x p1) X.env) Q E { s' with heap := hp } := by
      intro Q E ask
      obtain ⟨hg, hdb, hm | ⟨hm, hv, hnn⟩⟩ := nm
      · exact ld_glob (X := X.suite e ((e, ob) :: (X.pn ++ ps))) JS hg hm ask hdb
      · exact ld_blt (X := X.suite e ((e, ob) :: (X.pn ++ ps))) JS hg hm hv ask hnn hdb
    refine nameIs (mt.here ?_)
    cases t with
    | false => exact ih (no rfl)
    | true =>
      refine codeAny_handlers_suite_as (HandSPX.lands_againZ fly fun h4 fl4 up4 => ?_)
      have JN : Inv X ps σ H { s' with heap := h4 } := J.landed nb fl4.1 (up.trans up4) os ag
      obtain ⟨ob4, us4, gob4, zob4, dob4⟩ := fl4.there
      have SN := JN.suite gob4 dob4 na neL neF
      refine store_ok (X := X.suite e ((e, ob4) :: (X.pn ++ ps))) (v := .ref e) SN nd hn (Or.inl hk) rfl (fun s5 S5 => ?_) (.inr hk)
      refine wpAny_mono ((su e ob4 k dd (X.pn ++ ps) zob4 ⟨_, dob4⟩).run [] s5 _ H _ S5 (yes rfl e na)) (fun f s6 hf => ?_) (fun _ _ z => z.elim)
      have done : ∀ {σ6 : L2.St} {H6 : Hp} {Q : Shared → Prop}, Inv (X.suite e ((e, ob4) :: (X.pn ++ ps))) [] σ6 H6 s6 → (∀ s7, Inv X ps (σ6.set qi none) H6 s7 → Q s7) →
          wpAny (model X.prog X.w) X.A (do bindName X.env n .none; unbindBehindTheSuite X.env n p2) (fun _ s7 => Q s7) X.xe s6 := by
        intro σ6 H6 Q S6 ask
        exact gone_ok (S6.unsuite okI) nd hn hk ask
      cases f with
      | ret u =>
        obtain ⟨v, σ6, H6, S6, rv, fin⟩ := hf
        exact done S6 fun s7 J7 => ⟨v, _, _, J7, rv, fin⟩
      | next =>
        obtain ⟨σ6, H6, S6, fin⟩ := hf
        exact done S6 fun s7 J7 => ⟨_, _, J7, fin⟩
      | brk =>
        obtain ⟨σ6, H6, S6, fin⟩ := hf
        exact done S6 fun s7 J7 => ⟨_, _, J7, fin⟩
      | cont =>
        obtain ⟨σ6, H6, S6, fin⟩ := hf
        exact done S6 fun s7 J7 => ⟨_, _, J7, fin⟩
  | @bare x qc qts b bs p1 p2 hs2 r nm su rest ih =>
    rintro ⟨t, et, yes, no⟩
    refine wpAny_handleBy_cons (codeAny_handlers_test ?_) (fun z => by cases z)
    have mt := PySem.W.exm_one (M := model X.prog X.w) JL.kIn Lk et
    have nameIs : ∀ {Q : Value → Shared → Prop} {E : Value → Shared → Prop}, Q qc { s' with heap := hp } → wpAny (model X.prog X.w) (X.A.mark (some (.ref e))) (eval (.Name x p1) X.env) Q E { s' with heap := hp } := by
      intro Q E ask
      obtain ⟨hg, hdb, hm | ⟨hm, hv, hnn⟩⟩ := nm
      · exact ld_glob (X := X.suite e ((e, ob) :: (X.pn ++ ps))) JS hg hm ask hdb
      · exact ld_blt (X := X.suite e ((e, ob) :: (X.pn ++ ps))) JS hg hm hv ask hnn hdb
    refine nameIs (mt.here ?_)
    cases t with
    | false => exact ih (no rfl)
    | true =>
      refine codeAny_handlers_suite (HandSPX.lands_againZ fly fun h4 fl4 up4 => ?_)
      have JN : Inv X ps σ H { s' with heap := h4 } := J.landed nb fl4.1 (up.trans up4) os ag
      obtain ⟨ob4, us4, gob4, zob4, dob4⟩ := fl4.there
      have SN := JN.suite gob4 dob4 na neL neF
      refine wpAny_mono ((su e ob4 k dd (X.pn ++ ps) zob4 ⟨_, dob4⟩).run [] _ _ H _ SN (yes rfl e na)) (fun f s6 hf => ?_) (fun _ _ z => z.elim)
      cases f with
      | ret u =>
        obtain ⟨v, σ6, H6, S6, rv, fin⟩ := hf
        exact ⟨v, _, _, S6.unsuite okI, rv, fin⟩
      | next =>
        obtain ⟨σ6, H6, S6, fin⟩ := hf
        exact ⟨_, _, S6.unsuite okI, fin⟩
      | brk =>
        obtain ⟨σ6, H6, S6, fin⟩ := hf
        exact ⟨_, _, S6.unsuite okI, fin⟩
      | cont =>
        obtain ⟨σ6, H6, S6, fin⟩ := hf
        exact ⟨_, _, S6.unsuite okI, fin⟩
/-- try: body / except A as n: .. / except B as m: .. -/
theorem ps_try_named (st : X.stack = X.env :: X.outer) (fr : X.env.frame = some X.env.locals) (nd : X.N.Nodup) (tko : Takes X Wo)
    (bd : ∀ (W : WX) (ps : List (Addr × Obj)) (xs : Value → Shared → Prop), Takes (X.tr ps xs) W → PassesOwn (model X.prog X.w) X.A X.env xs → PSs (X.tr ps xs) body (tb W))
    (cl : ClOk X (h0 :: hr) l) : PS X (.Try body (h0 :: hr) [] [] pos) (fun D σ H => tb (wCl X.K Wo D l) D σ H) := by
  refine ⟨fun ps s σ H D I ask => ?_⟩
  have okI := I.ok
  have frames : X.A.frames = some (X.env :: X.outer) := by rw [okI.frames, st]
  refine wpAny_Try_except ?_
  have catch_ : ∀ u s', XE (X.tr (X.pn ++ ps) (fun z s₁ => wpAny (model X.prog X.w) X.A (noteFrame z X.env) (fun _ s₂ => wpAny (model X.prog X.w) X.A (setFlight z none) (fun _ s₃ => wpAny (model X.prog X.w) X.A (handleBy z X.env (h0 :: hr)) (SP X ps D) X.xe s₃) X.xe s₂) X.xe s₁)) (wCl X.K Wo D l) u s' →
      wpAny (model X.prog X.w) X.A (noteFrame u X.env) (fun _ s₂ => wpAny (model X.prog X.w) X.A (setFlight u none) (fun _ s₃ => wpAny (model X.prog X.w) X.A (handleBy u X.env (h0 :: hr)) (SP X ps D) X.xe s₃) X.xe s₂) X.xe s' := by
    rintro u s' ⟨e, B, sI, ps', σ', H', k, dd, rfl, J', nb, up, sky, na, os, ag, wish⟩
    have J : Inv X ps σ' H' sI := J'.ofTry okI
    have sky1 : Sky B (X.env :: X.outer) e (Zc k dd) X.env.locals s'.heap := by rw [← st]; exact sky
    refine Sky.land Zc.steady frames fr sky1 fun hp fly uq => ?_
    exact asked I st fr nd tko J nb (up.trans uq) fly na os ag cl wish
  refine wpAny_mono ((bd (wCl X.K Wo D l) (X.pn ++ ps) _ catch_ PassesOwn.looking).run [] s σ H D (I.toTry _) ask) (fun f s1 hf => ?_) (fun z s1 hz => hz)
  cases f with
  | ret u =>
    obtain ⟨v, σ', H', J', rv, fin⟩ := hf
    exact ⟨v, σ', H', J'.ofTry okI, rv, fin⟩
  | next =>
    obtain ⟨σ', H', J', fin⟩ := hf
    exact wpAny_execs_nil ⟨σ', H', J'.ofTry okI, fin⟩
  | brk =>
    obtain ⟨σ', H', J', fin⟩ := hf
    exact ⟨σ', H', J'.ofTry okI, fin⟩
  | cont =>
    obtain ⟨σ', H', J', fin⟩ := hf
    exact ⟨σ', H', J'.ofTry okI, fin⟩
end
end Wy
namespace Kx
open PySem PySem.Spec PyProof.Rows L2
/-- what is asked of an error class at C, a child of the class at P -/
structure Er (K : PySem.W.Frag) (P C : Addr) : Prop where
  ox : OexC K C
  mro : ∃ cd, PySem.W.clsIn K C = some cd ∧ cd.mro = .ref C :: .ref P :: PySem.HandSPX.veTail
  ga : PySem.W.findIn K (.ref C) "__getattribute__" = some (some (.builtin "BaseException.__getattribute__"))
  gg : PySem.W.findIn K (.ref C) "__getattr__" = some none
  hd : PySem.W.hasDictIn K C = true
  ca : PySem.W.findIn K (.ref C) "__class__" = some (some (.builtin "object.__class__"))
/-- what is asked of object.__class__ -/
structure Gt (K : PySem.W.Frag) : Prop where
  hn : PySem.W.specialIn K (.builtin "object.__class__") "__get__" = some (some (.builtin "getset_descriptor.__get__"))
  ht : PySem.W.takesIn K (.builtin "object.__class__") = some true
section
variable {K : PySem.W.Frag} {P C D : Addr}
theorem Er.mroIn (e : Er K P C) (b : Value) : PySem.W.mroIn K C b = some ((Value.ref C :: .ref P :: PySem.HandSPX.veTail).contains b) := by
  obtain ⟨cd, h1, h2⟩ := e.mro
  unfold PySem.W.mroIn
  rw [h1, Option.bind_some, h2]
  rfl
theorem Er.kit (e : Er K P C) (g : Gt K) {x : Addr} {ox : Obj} {od : Option Obj} : PySem.W.KitX K (.ref x) (.ref C) (fun h => PySem.W.InstAt h x ox C od) :=
  PySem.W.kitx_exc (by obtain ⟨cd, h1, _⟩ := e.mro; rw [h1]; rfl) e.ga e.gg e.ox.exC e.ca g.hn g.ht (by rw [e.mroIn]; rfl)
/-- isinstance of an instance of C against the class at D -/
theorem Er.one (e : Er K P C) (d : Er K P D) (hP : D ≠ P) : PySem.W.kitOne K (.ref C) (.ref D) = some (decide (C = D)) := by
  unfold PySem.W.kitOne
  by_cases h : C = D
  · subst h
    rw [if_pos (beq_self_eq_true _), decide_eq_true rfl]
  · have hb : (Value.ref C == Value.ref D) = false := beq_eq_false_iff_ne.mpr fun z => h (Value.ref.inj z)
    rw [if_neg (by rw [hb]; exact Bool.false_ne_true), decide_eq_false h]
    unfold PySem.W.kitCls
    obtain ⟨cd, h1, _⟩ := d.mro
    have z : ((PySem.W.clsIn K D).isSome && PySem.W.typeIn K (.ref D) == some (.type "type")) = true := by rw [h1, d.ox.tyC]; rfl
    show (if ((PySem.W.clsIn K D).isSome && PySem.W.typeIn K (.ref D) == some (.type "type")) = true then PySem.W.subIn K (.ref C) (.ref D) else none) = some false
    rw [if_pos z]
    show PySem.W.mroIn K C (.ref D) = some false
    rw [e.mroIn]
    have h2 : (Value.ref D == Value.ref C) = false := beq_eq_false_iff_ne.mpr fun z => h (Value.ref.inj z).symm
    have h3 : (Value.ref D == Value.ref P) = false := beq_eq_false_iff_ne.mpr fun z => hP (Value.ref.inj z)
    rw [List.contains_cons, List.contains_cons, h2, h3]
    rfl
/-- .. against their parent -/
theorem Er.up (e : Er K P C) (hP : (PySem.W.clsIn K P).isSome = true ∧ PySem.W.typeIn K (.ref P) = some (.type "type")) (h : C ≠ P) : PySem.W.kitOne K (.ref C) (.ref P) = some true := by
  unfold PySem.W.kitOne
  have hb : (Value.ref C == Value.ref P) = false := beq_eq_false_iff_ne.mpr fun z => h (Value.ref.inj z)
  rw [if_neg (by rw [hb]; exact Bool.false_ne_true)]
  have z : ((PySem.W.clsIn K P).isSome && PySem.W.typeIn K (.ref P) == some (.type "type")) = true := by rw [hP.1, hP.2]; rfl
  show (if ((PySem.W.clsIn K P).isSome && PySem.W.typeIn K (.ref P) == some (.type "type")) = true then PySem.W.subIn K (.ref C) (.ref P) else none) = some true
  rw [if_pos z]
  show PySem.W.mroIn K C (.ref P) = some true
  rw [e.mroIn, List.contains_cons, List.contains_cons, beq_self_eq_true, Bool.true_or, Bool.or_true]
end
end Kx
namespace Ky
open PySem PySem.Spec PyProof.Rows L2 Kx
/-- __init__ of the class at C keeps what it is handed, under names fl gives -/
def spIn (C : Addr) (n : Nat) (fl : List V → List (Str × V)) : Sp := fun vs H Q _ => ∃ (a : Addr) (xs : List V), vs = .ref a :: xs ∧ xs.length = n ∧ H a = some (exo a C none) ∧
  ∀ (d : Addr) (H' : Hp), H d = none → (∀ b o, b ≠ a → H b = some o → H' b = some o) → H' a = some (exo a C (some d)) → H' d = some (exd d (fl xs)) → Q .non H'
def fl1 (f : Str) : List V → List (Str × V)
  | [x] => [(f, x)]
  | _ => []
def fl2 (f g : Str) : List V → List (Str × V)
  | [x, y] => [(g, y), (f, x)]
  | _ => []
section
variable {X : Cx} {K : PySem.W.Frag} {P C : Addr}
/-- the reading of: self.f = (slot 1) -/
theorem rd1 {f : Str} {Q : VK} {E : XK} {vs : List V} {H : Hp} {N : List Str} (hN : N.length = 2) (er : Er K P C) (n1 : PySem.W.findIn K (.ref C) f = some none) (h : spIn C 1 (fl1 f) vs H Q E) :
    tOst K f (tVar 0) (tVar 1) { nx := fun _ H' => Q .non H', rt := Q } (start N vs) H := by
  obtain ⟨a, xs, rfl, hl, ha, k⟩ := h
  match xs, hl, k with
  | [x], _, k =>
    refine ⟨x, rfl, .ref a, rfl, a, C, rfl, er.ox, n1, .inl ⟨ha, fun d hd hne => ?_⟩⟩
    refine k d _ hd (fun b o hb e => ?_) upd_same ?_
    · rw [upd_ne hb, upd_ne (ne_of_none e hd)]
      exact e
    · rw [upd_ne hne, upd_same]
      rfl
/-- .. self.f = (slot 1); self.g = (slot 2) -/
theorem rd2 {f g : Str} {Q : VK} {E : XK} {vs : List V} {H : Hp} {N : List Str} (hN : N.length = 3) (er : Er K P C) (n1 : PySem.W.findIn K (.ref C) f = some none) (n2 : PySem.W.findIn K (.ref C) g = some none) (h : spIn C 2 (fl2 f g) vs H Q E) :
    tSeq (tOst K f (tVar 0) (tVar 1)) (tOst K g (tVar 0) (tVar 2)) { nx := fun _ H' => Q .non H', rt := Q } (start N vs) H := by
  obtain ⟨a, xs, rfl, hl, ha, k⟩ := h
  match xs, hl, k with
  | [x, y], _, k =>
    refine ⟨x, rfl, .ref a, rfl, a, C, rfl, er.ox, n1, .inl ⟨ha, fun d hd hne => ?_⟩⟩
    refine ⟨y, rfl, .ref a, rfl, a, C, rfl, er.ox, n2, .inr ⟨d, [(f, x)], upd_same, by rw [upd_ne hne, upd_same], by show 1 ≤ 900; decide, ?_⟩⟩
    refine k d _ hd (fun b o hb e => ?_) ?_ upd_same
    · rw [upd_ne (ne_of_none e hd), upd_ne hb, upd_ne (ne_of_none e hd)]
      exact e
    · rw [upd_ne hne.symm, upd_same]
end
end Ky
namespace Re
open PySem PySem.Spec PyProof.Rows L2 Kx Ky
section
variable {X : Cx} {C : Addr}
theorem pmk_bare {x : Str} {p pos : Pos} (q : PySem.W.excIn X.K C PySem.HandSPX.veTail "ValueError.__new__" = true) (gC : X.mg x = some (.ref C)) (kC : PySem.W.keepIn X.K (.ref C) = true) (r : Raises X (.ref C)) (hg : Gl X x) (hdb : (x == ("__debug__" : Str)) = false := by decide) :
    PMk X (.Call (.Name x p) [] [] pos) (fun _ H Q => Q (.ref C) none H) := by
  intro pins s σ H Q I h
  refine wpAny_Call_Name_kw (ld_glob I hg gC (PySem.W.callWith_K0 I.kIn kC ?_) hdb)
  show wpAny _ _ (call (.ref C) []) _ _ _
  obtain ⟨bm, N, nm, qn, bs, hdct, sn, sub, ab, col, dd, k0, k1, k2, k3, k5, mN, hC, hN, hni, T⟩ := exc_obj I.kIn q
  exact wpAny_call_exc_subT PySem.F.excBase_ValueError T hC hN hni (fun h' e hm => mk_of I hm r h (I.hok.gone hm.new)) (Nat.zero_le _)
end
end Re
namespace Re
open PySem PySem.Spec PyProof.Rows L2 Kx Ky
theorem same_in {H H' : Hp} {a : Addr} {o : HO} (h : H a = none) (k : ∀ b u, b ≠ a → (upd H a o) b = some u → H' b = some u) : Same H H' := fun b u e =>
  k b u (ne_of_none e h) (by rw [upd_ne (ne_of_none e h)]; exact e)
theorem same_gone {H H' : Hp} {a d : Addr} {o o2 : HO} (ha : H a = none) (hd : H d = none) (k : ∀ b u, b ≠ a → (upd H a o) b = some u → H' b = some u) : Same H (upd (del H' a) d o2) := fun b u e => by
  rw [upd_ne (ne_of_none e hd), del_ne (ne_of_none e ha)]
  exact same_in ha k b u e
end Re
namespace Fw
open PySem PySem.Spec PyProof.Rows L2 Dz Vz
abbrev Cn.at (c : Cn) (x : Option (Addr × Value × Option Addr)) : Cn := ⟨c.K, c.mg, x⟩
section
variable {c c' : Cn} {ha : Option Addr} {G G' H H' G0 B : Hp}
theorem dq_c (hK : c'.K = c.K) (hm : c'.mg = c.mg) {v : V} {d : D} (h : Dq c ha G v d) : Dq c' ha G v d := by
  refine Dq.rec (motive_1 := fun v d _ => Dq c' ha G v d) (motive_2 := fun xs ds _ => DqAll c' ha G xs ds) (motive_3 := fun C xs fs _ => DqF c' ha G C xs fs) ?_ ?_ ?_ ?_ ?_ ?_ ?_ ?_ ?_ ?_ ?_ h
  · exact .non
  · exact fun b => .bl b
  · exact fun i => .int i
  · exact fun x => .str x
  · exact fun h1 _ h2 => .tup (by rw [hK]; exact h1) h2
  · exact fun h1 _ h2 => .lst h1 h2
  · exact fun h1 h2 h3 _ h4 => .ins (by rw [hm]; exact h1) h2 (by rw [hK]; exact h3) h4
  · exact .nil
  · exact fun _ _ h1 h2 => .cons h1 h2
  · exact .nil
  · exact fun h0 _ _ h1 h2 => .cons (by rw [hK]; exact h0) h1 h2
theorem dqAll_c (hK : c'.K = c.K) (hm : c'.mg = c.mg) : ∀ {xs : List V} {ds : List D}, DqAll c ha G xs ds → DqAll c' ha G xs ds
  | _, _, .nil => .nil
  | _, _, .cons h t => .cons (dq_c hK hm h) (dqAll_c hK hm t)
theorem dqF_c (hK : c'.K = c.K) (hm : c'.mg = c.mg) {C : Addr} : ∀ {xs : List (Str × V)} {fs : List (Str × D)}, DqF c ha G C xs fs → DqF c' ha G C xs fs
  | _, _, .nil => .nil
  | _, _, .cons h0 h t => .cons (by rw [hK]; exact h0) (dq_c hK hm h) (dqF_c hK hm t)
theorem own_c (hK : c'.K = c.K) (hm : c'.mg = c.mg) {v : V} {d : D} {fp : List Addr} (h : Own c ha G H v d fp) : Own c' ha G H v d fp := by
  refine Own.rec (motive_1 := fun v d fp _ => Own c' ha G H v d fp) (motive_2 := fun xs ds fp _ => OwnAll c' ha G H xs ds fp) ?_ ?_ ?_ ?_ h
  · exact fun h => .frz (dq_c hK hm h)
  · exact fun h1 h2 _ ih => .hl h1 h2 ih
  · exact .nil
  · exact fun _ _ i1 i2 => .cons i1 i2
/-- into a suite: no slot holds an error yet -/
theorem ownS_in (hK : c'.K = c.K) (hm : c'.mg = c.mg) (hx : c.xa = none) : ∀ {σ : L2.St} {δ : DE} {fp : List Addr}, OwnS c ha G H σ δ fp → OwnS c' ha G H σ δ fp
  | _, _, _, .nil => .nil
  | _, _, _, .non o t => .non o (ownS_in hK hm hx t)
  | _, _, _, .me e t => .me e (ownS_in hK hm hx t)
  | _, _, _, .ex e _ _ _ => by rw [hx] at e; cases e
  | _, _, _, .some h t => .some (own_c hK hm h) (ownS_in hK hm hx t)
def dropX : Option D → Option D
  | some (.ex _ _) => none
  | o => o
theorem dropX_own {v : V} {d : D} {fp : List Addr} (h : Own c ha G H v d fp) : dropX (some d) = some d := by
  cases h with
  | frz h => cases h <;> rfl
  | hl _ _ _ => rfl
/-- out of a suite: the held error is forgotten -/
theorem ownS_out (hK : c'.K = c.K) (hm : c'.mg = c.mg) : ∀ {σ : L2.St} {δ : DE} {fp : List Addr}, OwnS c ha G H σ δ fp → ∃ fp', OwnS c' ha G H σ (δ.map dropX) fp' ∧ fp'.Sublist fp
  | _, _, _, .nil => ⟨[], .nil, List.Sublist.refl _⟩
  | _, _, _, .non o t => by
    obtain ⟨fp', h1, h2⟩ := ownS_out hK hm t
    exact ⟨fp', .non o h1, h2⟩
  | _, _, _, .me e t => by
    obtain ⟨fp', h1, h2⟩ := ownS_out hK hm t
    exact ⟨fp', .me e h1, h2⟩
  | _, _, _, .ex _ _ _ t => by
    obtain ⟨fp', h1, h2⟩ := ownS_out hK hm t
    exact ⟨fp', .non _ h1, h2.trans (List.sublist_append_right ..)⟩
  | _, _, _, .some h t => by
    obtain ⟨fp', h1, h2⟩ := ownS_out hK hm t
    refine ⟨_, ?_, List.Sublist.append (List.Sublist.refl _) h2⟩
    rw [List.map_cons, dropX_own h]
    exact .some (own_c hK hm h) h1
theorem hok_c (hK : c'.K = c.K) (hm : c'.mg = c.mg) {h : D} (x : Hok c ha G H h) : Hok c' ha G H h := by
  cases x with
  | non e => exact .non e
  | hand e g h d => exact .hand e g h (dqAll_c hK hm d)
  | self e g m cl h d => exact .self e g (by rw [hm]; exact m) (by rw [hK]; exact cl) h (dqF_c hK hm d)
/-- an empty slot takes the held error -/
theorem ownS_fill {a C : Addr} {dd : Option Addr} {n : Str} {fs : List (Str × D)} {fx : List Addr} (e1 : c.xa = some (a, .ref C, dd)) (e2 : c.mg n = some (.ref C)) (x : ExH c ha G H dd C fs fx) : ∀ {i : Nat} {σ : L2.St} {δ : DE} {fp : List Addr}, OwnS c ha G H σ δ fp → δ[i]? = some none →
    ∃ f1 f2, fp = f1 ++ f2 ∧ OwnS c ha G H (σ.set i (some (.ref a))) (δ.set i (some (.ex n fs))) (f1 ++ (fx ++ f2))
  | i, _, _, _, .nil, e => by simp at e
  | 0, _, _, _, .non o t, e => ⟨[], _, rfl, by rw [List.nil_append]; exact OwnS.ex e1 e2 x t⟩
  | 0, _, _, _, .me _ t, e => by simp at e
  | 0, _, _, _, .ex _ _ _ t, e => by simp at e
  | 0, _, _, _, .some _ t, e => by simp at e
  | i + 1, _, _, _, .non o t, e => by
    obtain ⟨f1, f2, h1, h2⟩ := ownS_fill e1 e2 x (i := i) t e
    exact ⟨f1, f2, h1, .non o h2⟩
  | i + 1, _, _, _, .me o t, e => by
    obtain ⟨f1, f2, h1, h2⟩ := ownS_fill e1 e2 x (i := i) t e
    exact ⟨f1, f2, h1, .me o h2⟩
  | i + 1, _, _, _, .ex (fx := g) o m y t, e => by
    obtain ⟨f1, f2, rfl, h2⟩ := ownS_fill e1 e2 x (i := i) t e
    refine ⟨g ++ f1, f2, by rw [List.append_assoc], ?_⟩
    rw [List.append_assoc]
    exact .ex o m y h2
  | i + 1, _, _, _, .some (f := g) h t, e => by
    obtain ⟨f1, f2, rfl, h2⟩ := ownS_fill e1 e2 x (i := i) t e
    refine ⟨g ++ f1, f2, by rw [List.append_assoc], ?_⟩
    rw [List.append_assoc]
    exact .some h h2
end
section
variable {X : Cx} {W : WX} {c : Cn} {nw : Bool} {e a b o : Expr} {es : List Expr} {pos : Pos} {te : TE} {f fa fb fo : EF D} {fs : EF (List D)} {u : SF} {ss : List Stmt}
/-- the fields as they lie behind an __init__ that keeps what it is handed -/
def flD1 (f : Str) : List D → Option (List (Str × D))
  | [x] => some [(f, x)]
  | _ => none
def flD2 (f g : Str) : List D → Option (List (Str × D))
  | [x, y] => some [(g, y), (f, x)]
  | _ => none
def sRaise (n : Str) (fl : List D → Option (List (Str × D))) (fs : EF (List D)) : SF := fun δ h => (fs δ h).fl δ fun ds h1 => match fl ds with
  | some fx => .exc n fx δ h1
  | none => .bad
def sRaise0 (n : Str) : SF := fun δ h => .exc n [] δ h
/-- what is asked of an error class that keeps its fields -/
structure Er1 (P : Program) (w : World) (c : Cn) (base : Heap) (gP : Addr) (x f : Str) (C fI : Addr) (fd : FuncData) : Prop where
  er : Kx.Er c.K gP C
  m : c.mg x = some (.ref C)
  na : NoAttr c.K C f
  iC : PySem.W.findIn c.K (.ref C) "__init__" = some (some (.ref fI))
  tI : PySem.W.typeIn c.K (.ref fI) = some (.type "function")
  G : FnOk P w c.K c.mg base CX0 1 fI fd ["self", f] (Ky.spIn C 1 (Ky.fl1 f))
  b : L2.Binds c.K fd ["self", f] []
structure Er2 (P : Program) (w : World) (c : Cn) (base : Heap) (gP : Addr) (x f g : Str) (C fI : Addr) (fd : FuncData) : Prop where
  er : Kx.Er c.K gP C
  m : c.mg x = some (.ref C)
  na : NoAttr c.K C f
  na2 : NoAttr c.K C g
  iC : PySem.W.findIn c.K (.ref C) "__init__" = some (some (.ref fI))
  tI : PySem.W.typeIn c.K (.ref fI) = some (.type "function")
  G : FnOk P w c.K c.mg base CX0 1 fI fd ["self", f, g] (Ky.spIn C 2 (Ky.fl2 f g))
  b : L2.Binds c.K fd ["self", f, g] []
theorem rd_mkN {C : Addr} {n : Nat} {fl : List V → List (Str × V)} {vs : List V} {H : Hp} {Q : XK} (hl : vs.length = n) (hn : n ≤ 1000) (k : ∀ d H', H d = none → Same H H' → H' d = some (.xd (fl vs)) → Q (.ref C) (some d) H') :
    vs.length ≤ 1000 ∧ ∀ a, H a = none → Ky.spIn C n fl (.ref a :: (vs ++ [])) (upd H a (exo a C none))
      (fun v' H2 => v' = .non ∧ ∃ (d : Addr) (fs : List (Str × V)), H2 a = some (exo a C (some d)) ∧ H2 d = some (exd d fs) ∧ H d = none ∧ Q (.ref C) (some d) (upd (del H2 a) d (.xd fs))) (fun _ _ _ => False) := by
  refine ⟨by omega, fun a ha => ⟨a, vs, by rw [List.append_nil], hl, upd_same, fun q H1 hq kq e1 e2 => ?_⟩⟩
  have hqa : q ≠ a := fun z => by
    rw [z, upd_same] at hq
    cases hq
  rw [upd_ne hqa] at hq
  exact ⟨rfl, q, _, e1, e2, hq, k q _ hq (Re.same_gone ha hq kq) upd_same⟩
theorem posts_exc {ha : Option Addr} {G0 B G1 H1 : Hp} {σ : L2.St} {δ : DE} {h1 : D} {n : Str} {fx : List (Str × D)} {Dn : Ends} {C : Addr} {xs : List (Str × V)} (st : Sta c ha G0 B G1 H1 σ δ h1) (m : c.mg n = some (.ref C)) (p : PostS c ha W nw G0 B G1 (.exc n fx δ h1) Dn) (df : DqF c ha G1 C xs fx) :
    ∀ d H', H1 d = none → Same H1 H' → H' d = some (.xd xs) → W (.ref C) (some d) σ H' := fun d H' hd s hx =>
  p σ C (some d) G1 H1 h1 G1 H' st (Same.refl _) (.of st.gh st.hd (Mv.of st.gh s) s) m (.inr ⟨d, xs, rfl, hx, old_none st.gh hd, hd, df⟩)
theorem rs_raise1 {x f : Str} {C : Addr} (m : c.mg x = some (.ref C)) (na : NoAttr c.K C f) (Dn : Ends) (σ : L2.St) (H : Hp) (z : rs c W nw (sRaise x (flD1 f) fs) Dn σ H) : tMkO C (Ky.spIn C 1 (Ky.fl1 f)) [] (ra c W fs) σ H fun cls d H' => W cls d σ H' := by
  obtain ⟨ha, G0, B, G, δ, h, st, p⟩ := z
  refine ⟨ha, G0, B, G, δ, h, st, post_imp (post_fl st p) fun ds h1 G1 H1 af q vs dv => ?_⟩
  split at q
  · rename_i fx e
    unfold flD1 at e
    split at e
    · cases e
      obtain ⟨v, rfl, dv1⟩ := one_of dv
      exact rd_mkN (n := 1) (C := C) (Q := fun cls d H' => W cls d σ H') (fl := Ky.fl1 f) (vs := [v]) rfl (by decide) (posts_exc (st.to af) m q (.cons na dv1 .nil))
    · cases e
  · exact q.elim
theorem rs_raise2 {x f g : Str} {C : Addr} (m : c.mg x = some (.ref C)) (na : NoAttr c.K C f) (na2 : NoAttr c.K C g) (Dn : Ends) (σ : L2.St) (H : Hp) (z : rs c W nw (sRaise x (flD2 f g) fs) Dn σ H) : tMkO C (Ky.spIn C 2 (Ky.fl2 f g)) [] (ra c W fs) σ H fun cls d H' => W cls d σ H' := by
  obtain ⟨ha, G0, B, G, δ, h, st, p⟩ := z
  refine ⟨ha, G0, B, G, δ, h, st, post_imp (post_fl st p) fun ds h1 G1 H1 af q vs dv => ?_⟩
  split at q
  · rename_i fx e
    unfold flD2 at e
    split at e
    · cases e
      obtain ⟨v, w, rfl, dv1, dw⟩ := two_of dv
      exact rd_mkN (n := 2) (C := C) (Q := fun cls d H' => W cls d σ H') (fl := Ky.fl2 f g) (vs := [v, w]) rfl (by decide) (posts_exc (st.to af) m q (.cons na2 dw (.cons na dv1 .nil)))
    · cases e
  · exact q.elim
section
variable {x n g : Str} {C fI gP : Addr} {fd : FuncData} {p : Pos}
theorem ds_raise1 (E : Er1 X.prog X.w c X.base gP x n C fI fd) (hc : X.calm = true) (tk : Takes X W) (hr : Room 2 X.A) (hg : Gl X x) (ha : PA X (e :: es) (ra c W fs)) (hK : X.K = c.K := by rfl) (hM : X.mg = c.mg := by rfl)
    (hdb : (x == ("__debug__" : Str)) = false := by decide) (he : starEach (e :: es) X.env = (false, eval e X.env) :: starEach es X.env := by rfl) {pos2 : Pos} (hpl : (backTo pos (starEach es X.env)).any (·.1) = false := by rfl) : PS X (.Raise (some (.Call (.Name x p) (e :: es) [] pos)) none pos2) (rs c W nw (sRaise x (flD1 n) fs)) := by
  obtain ⟨er, m, na, iC, tI, G, b⟩ := E
  rw [← hK] at er iC tI b
  have G' : FnOk X.prog X.w X.K X.mg X.base CX0 1 fI fd ["self", n] (Ky.spIn C 1 (Ky.fl1 n)) := by rw [hK, hM]; exact G
  exact ps_to (ps_raise hc tk (pmk_oex er.ox iC tI G' hr b .nil pass0 hg (by rw [hM]; exact m) ha hdb he hpl)) fun Dn σ H z => rs_raise1 m na Dn σ H z
theorem ds_raise2 (E : Er2 X.prog X.w c X.base gP x n g C fI fd) (hc : X.calm = true) (tk : Takes X W) (hr : Room 2 X.A) (hg : Gl X x) (ha : PA X (e :: es) (ra c W fs)) (hK : X.K = c.K := by rfl) (hM : X.mg = c.mg := by rfl)
    (hdb : (x == ("__debug__" : Str)) = false := by decide) (he : starEach (e :: es) X.env = (false, eval e X.env) :: starEach es X.env := by rfl) {pos2 : Pos} (hpl : (backTo pos (starEach es X.env)).any (·.1) = false := by rfl) : PS X (.Raise (some (.Call (.Name x p) (e :: es) [] pos)) none pos2) (rs c W nw (sRaise x (flD2 n g) fs)) := by
  obtain ⟨er, m, na, na2, iC, tI, G, b⟩ := E
  rw [← hK] at er iC tI b
  have G' : FnOk X.prog X.w X.K X.mg X.base CX0 1 fI fd ["self", n, g] (Ky.spIn C 2 (Ky.fl2 n g)) := by rw [hK, hM]; exact G
  exact ps_to (ps_raise hc tk (pmk_oex er.ox iC tI G' hr b .nil pass0 hg (by rw [hM]; exact m) ha hdb he hpl)) fun Dn σ H z => rs_raise2 m na na2 Dn σ H z
/-- an error class without fields -/
structure Er0 (c : Cn) (gP : Addr) (x : Str) (C : Addr) : Prop where
  er : Kx.Er c.K gP C
  m : c.mg x = some (.ref C)
  q : PySem.W.excIn c.K C PySem.HandSPX.veTail "ValueError.__new__" = true
  kC : PySem.W.keepIn c.K (.ref C) = true
theorem ds_raise0 (E : Er0 c gP x C) (hc : X.calm = true) (tk : Takes X W) (hg : Gl X x) (hK : X.K = c.K := by rfl) (hM : X.mg = c.mg := by rfl)
    (hdb : (x == ("__debug__" : Str)) = false := by decide) {pos2 : Pos} : PS X (.Raise (some (.Call (.Name x p) [] [] pos)) none pos2) (rs c W nw (sRaise0 x)) := by
  obtain ⟨er, m, q, kC⟩ := E
  rw [← hK] at er q kC
  refine ps_to (ps_raise hc tk (Re.pmk_bare q (by rw [hM]; exact m) kC (raises_own er.ox.exC er.ox.tyC) hg hdb)) fun Dn σ H z => ?_
  obtain ⟨ha, G0, B, G, δ, h, st, p⟩ := z
  exact p σ C none G H h G H st (Same.refl _) st.here m (.inl ⟨rfl, rfl⟩)
end
structure Cz where
  ms : Str → Option Bool
  i : Option Nat
  u : SF
def dropFl (i : Option Nat) (r : Fl) : Fl := match i, r with
  | some i, .nx δ h => .nx ((δ.map dropX).set i none) h
  | some i, .brk δ h => .brk ((δ.map dropX).set i none) h
  | some i, .ct δ h => .ct ((δ.map dropX).set i none) h
  | _, .exc _ _ _ _ => .bad
  | _, r => r
def exIn (i : Option Nat) (n : Str) (fs : List (Str × D)) (δ : DE) : DE := match i with
  | some i => δ.set i (some (.ex n fs))
  | none => δ
def Cz.here (z : Cz) (δ : DE) : Bool := match z.i with
  | some i => decide (i < δ.length)
  | none => true
def hdGo : List Cz → Str → List (Str × D) → SF
  | [], n, fs, δ, h => .exc n fs δ h
  | z :: r, n, fs, δ, h => match z.ms n with
    | some true => if z.here δ then dropFl z.i (z.u (exIn z.i n fs δ) h) else .bad
    | some false => hdGo r n fs δ h
    | none => .bad
def sTry (u : SF) (cs : List Cz) : SF := fun δ h => match u δ h with
  | .exc n fs δ' h' => hdGo cs n fs δ' h'
  | r => r
/-- the clauses, each with its suite's reading -/
inductive CzOk (X : Cx) (c : Cn) (nw : Bool) : List ExceptHandler → List Cz → List Wy.Cl → Prop
  | nil : CzOk X c nw [] [] []
  | cons {x n : Str} {Cc : Addr} {i : Nat} {ms : Str → Option Bool} {u : SF} {b : Stmt} {bs : List Stmt} {p1 p2 : Pos} {hs : List ExceptHandler} {r : List Cz} {l : List Wy.Cl} (hn : X.N[i]? = some n) (hk : X.env.kindOf n = some .local) (nm : Names X x (.ref Cc))
      (hm : ∀ n b C, ms n = some b → c.mg n = some (.ref C) → PySem.W.exmOne c.K (.ref C) (.ref Cc) = some b)
      (su : ∀ (e : Addr) (ob : Obj) (k : Value) (dd : Option Addr) (ps : List (Addr × Obj)), Zc k dd ob → (∃ us, ob.data = .fields us) → PSs (X.suite e ((e, ob) :: ps)) (b :: bs) (rs (c.at (some (e, k, dd))) WF nw u)) (rest : CzOk X c nw hs r l) :
      CzOk X c nw (.ExceptHandler (some (.Name x p1)) (some n) (b :: bs) p2 :: hs) (⟨ms, some i, u⟩ :: r) (⟨.ref Cc, some i, fun e k dd => rs (c.at (some (e, k, dd))) WF nw u⟩ :: l)
  | bare {x : Str} {Cc : Addr} {ms : Str → Option Bool} {u : SF} {b : Stmt} {bs : List Stmt} {p1 p2 : Pos} {hs : List ExceptHandler} {r : List Cz} {l : List Wy.Cl} (nm : Names X x (.ref Cc))
      (hm : ∀ n b C, ms n = some b → c.mg n = some (.ref C) → PySem.W.exmOne c.K (.ref C) (.ref Cc) = some b)
      (su : ∀ (e : Addr) (ob : Obj) (k : Value) (dd : Option Addr) (ps : List (Addr × Obj)), Zc k dd ob → (∃ us, ob.data = .fields us) → PSs (X.suite e ((e, ob) :: ps)) (b :: bs) (rs c WF nw u)) (rest : CzOk X c nw hs r l) :
      CzOk X c nw (.ExceptHandler (some (.Name x p1)) none (b :: bs) p2 :: hs) (⟨ms, none, u⟩ :: r) (⟨.ref Cc, none, fun e k dd => rs c WF nw u⟩ :: l)
theorem CzOk.cl {X : Cx} {c : Cn} {nw : Bool} {hs : List ExceptHandler} {cs : List Cz} {l : List Wy.Cl} (k : CzOk X c nw hs cs l) : Wy.ClOk X hs l := by
  induction k with
  | nil => exact .nil
  | cons hn hk nm hm su _ ih => exact .cons hn hk nm su ih
  | bare nm hm su _ ih => exact .bare nm su ih
theorem Sta.out {ha : Option Addr} {G0 B G H : Hp} {σ : L2.St} {δ : DE} {h : D} {x : Option (Addr × Value × Option Addr)} (st : Sta (c.at x) ha G0 B G H σ δ h) (i : Nat) : Sta c ha G0 B G H (σ.set i none) ((δ.map dropX).set i none) h := by
  obtain ⟨fp, os, n, k⟩ := st.sl
  obtain ⟨fp', o', sb⟩ := ownS_out (c := c.at x) (c' := c) rfl rfl os
  have st2 : Sta c ha G0 B G H σ (δ.map dropX) h := ⟨⟨fp', o', n.sublist sb, fun a hx => k a (sb.subset hx)⟩, st.mv, st.bt, hok_c (c := c.at x) (c' := c) rfl rfl st.hd, st.hb⟩
  exact st2.wipe1 i none
theorem res_c {ha : Option Addr} {B G' H' : Hp} {v : V} {d : D} {x : Option (Addr × Value × Option Addr)} (r : Res nw (c.at x) ha B G' H' v d) : Res nw c ha B G' H' v d := by
  cases nw with
  | false => exact dq_c (c := c.at x) (c' := c) rfl rfl (show Dq (c.at x) ha G' v d from r)
  | true =>
    obtain ⟨fp, o, n, k⟩ := r
    exact ⟨fp, own_c (c := c.at x) (c' := c) rfl rfl o, n, k⟩
theorem af_c {ha : Option Addr} {G H G' H' : Hp} {h' : D} {x : Option (Addr × Value × Option Addr)} (a : Af (c.at x) ha G H G' H' h') : Af c ha G H G' H' h' := ⟨a.mv, a.bt, hok_c (c := c.at x) (c' := c) rfl rfl a.hd⟩
/-- the held error comes into its slot -/
theorem Sta.exin {ha : Option Addr} {G0 B G1 H1 G' H' : Hp} {σ : L2.St} {δ : DE} {h1 h' : D} {C a : Addr} {dd : Option Addr} {n : Str} {fs : List (Str × D)} {i : Nat} (hx : c.xa = none) (st : Sta c ha G0 B G1 H1 σ δ h1) (af : Af c ha G1 H1 G' H' h') (m : c.mg n = some (.ref C)) (xr : XR c ha G' H1 H' C dd fs) (hi : i < δ.length) :
    Sta (c.at (some (a, .ref C, dd))) ha G0 B G' H' (σ.set i (some (.ref a))) (δ.set i (some (.ex n fs))) h' := by
  obtain ⟨fp, os, nn, k⟩ := st.sl
  have st2 := st.to af
  have os1 : OwnS c ha G' H' σ δ fp := Sta.keep (B := B) af os k
  obtain ⟨fp1, os2, sb⟩ := ownS_wipe (i := i) none os1
  have os3 := ownS_in (c := c) (c' := c.at (some (a, .ref C, dd))) rfl rfl hx os2
  have hs : (δ.set i none)[i]? = some none := by rw [List.getElem?_set_self hi]
  have key : ∀ fx, ExH (c.at (some (a, .ref C, dd))) ha G' H' dd C fs fx → (∀ d ∈ fx, H1 d = none) → fx.Nodup → Sta (c.at (some (a, .ref C, dd))) ha G0 B G' H' (σ.set i (some (.ref a))) (δ.set i (some (.ex n fs))) h' := by
    intro fx x kx nx
    obtain ⟨f1, f2, rfl, o4⟩ := ownS_fill (c := c.at (some (a, .ref C, dd))) (a := a) rfl m x os3 hs
    rw [List.set_set, List.set_set] at o4
    refine ⟨⟨_, o4, nodup_ins (nn.sublist sb) nx fun d hd hm => ?_, fun b hb => ?_⟩, st2.mv, st2.bt, hok_c (c := c) (c' := c.at (some (a, .ref C, dd))) rfl rfl st2.hd, st2.hb⟩
    · exact (ownS_at os d (sb.subset hm)).2 (kx d hd)
    · have hb2 : b ∈ fx ∨ b ∈ f1 ++ f2 := by
        rcases List.mem_append.mp hb with z | z
        · exact .inr (List.mem_append_left _ z)
        · exact (List.mem_append.mp z).imp id fun q => List.mem_append_right _ q
      rcases hb2 with z | z
      · exact ⟨st.old (kx b z), st.ne_ha (kx b z)⟩
      · exact k b (sb.subset z)
  rcases xr with ⟨rfl, rfl⟩ | ⟨d, xs, rfl, h2, h3, h4, h5⟩
  · exact key [] .none (fun d z => nomatch z) (by simp)
  · exact key [d] (.some h2 h3 (dqF_c (c := c) (c' := c.at (some (a, .ref C, some d))) rfl rfl h5)) (fun b z => by rw [List.mem_singleton.mp z]; exact h4) (by simp)
theorem try_ask {ha : Option Addr} {G0 B G : Hp} {Dn : Ends} {n : Str} {fs : List (Str × D)} {δ : DE} {h : D} (hx : c.xa = none) (hK : X.K = c.K) : ∀ {hs : List ExceptHandler} {cs : List Cz} {l : List Wy.Cl}, CzOk X c nw hs cs l → PostS c ha W nw G0 B G (hdGo cs n fs δ h) Dn →
    ∀ σ C dd G1 H1 h1 G' H', Sta c ha G0 B G1 H1 σ δ h1 → Same G G1 → Af c ha G1 H1 G' H' h → c.mg n = some (.ref C) → XR c ha G' H1 H' C dd fs → Wy.wCl X.K W Dn l (.ref C) dd σ H' := by
  intro hs cs l k
  induction k with
  | nil => exact fun p => p
  | @cons x nm0 Cc i ms u b bs p1 p2 hs r l hn hk nm hm su rest ih =>
    intro p σ C dd G1 H1 h1 G' H' st sg af m xr
    unfold hdGo at p
    cases e : ms n with
    | none => simp only [e] at p; exact p.elim
    | some t =>
      simp only [e] at p
      refine ⟨t, by rw [hK]; exact hm n t C e m, fun et a hna => ?_, fun et => ?_⟩
      · subst et
        have p0 : PostS c ha W nw G0 B G (if decide (i < δ.length) = true then dropFl (some i) (u (δ.set i (some (.ex n fs))) h) else .bad) Dn := p
        by_cases hi0 : decide (i < δ.length) = true
        case neg => rw [if_neg hi0] at p0; exact p0.elim
        rw [if_pos hi0] at p0
        have hi : i < δ.length := of_decide_eq_true hi0
        refine ⟨ha, G0, B, G', δ.set i (some (.ex n fs)), h, st.exin hx af m xr hi, ?_⟩
        have p2 := p0
        generalize u (δ.set i (some (.ex n fs))) h = r at p2
        have gg : Same G G' := sg.trans af.gg
        cases r with
        | nx δ' h' => exact fun σ' G2 H2 st2 s2 => p2 _ G2 H2 (st2.out i) (gg.trans s2)
        | brk δ' h' => exact fun σ' G2 H2 st2 s2 => p2 _ G2 H2 (st2.out i) (gg.trans s2)
        | ct δ' h' => exact fun σ' G2 H2 st2 s2 => p2 _ G2 H2 (st2.out i) (gg.trans s2)
        | ret d h' => exact fun v G2 H2 a2 r2 => p2 v G2 H2 (af_c a2) (res_c r2)
        | exc _ _ _ _ => exact p2.elim
        | bad => exact p2.elim
      · subst et
        exact ih p σ C dd G1 H1 h1 G' H' st sg af m xr
  | @bare x Cc ms u b bs p1 p2 hs r l nm hm su rest ih =>
    intro p σ C dd G1 H1 h1 G' H' st sg af m xr
    unfold hdGo at p
    cases e : ms n with
    | none => simp only [e] at p; exact p.elim
    | some t =>
      simp only [e] at p
      refine ⟨t, by rw [hK]; exact hm n t C e m, fun et a hna => ?_, fun et => ?_⟩
      · subst et
        refine ⟨ha, G0, B, G', δ, h, st.to af, ?_⟩
        have p2 : PostS c ha W nw G0 B G (dropFl none (u δ h)) Dn := p
        generalize u δ h = r at p2
        have gg : Same G G' := sg.trans af.gg
        cases r with
        | nx δ' h' => exact fun σ' G2 H2 st2 s2 => p2 _ G2 H2 st2 (gg.trans s2)
        | brk δ' h' => exact fun σ' G2 H2 st2 s2 => p2 _ G2 H2 st2 (gg.trans s2)
        | ct δ' h' => exact fun σ' G2 H2 st2 s2 => p2 _ G2 H2 st2 (gg.trans s2)
        | ret d h' => exact fun v G2 H2 a2 r2 => p2 v G2 H2 a2 r2
        | exc _ _ _ _ => exact p2.elim
        | bad => exact p2.elim
      · subst et
        exact ih p σ C dd G1 H1 h1 G' H' st sg af m xr
theorem ds_try {body : List Stmt} {h0 : ExceptHandler} {hr : List ExceptHandler} {cs : List Cz} {l : List Wy.Cl} (hx : c.xa = none) (st : X.stack = X.env :: X.outer) (fr : X.env.frame = some X.env.locals) (nd : X.N.Nodup) (tko : Takes X W)
    (bd : ∀ (W' : WX) (ps : List (Addr × Obj)) (xs : Value → Shared → Prop), Takes (X.tr ps xs) W' → PassesOwn (model X.prog X.w) X.A X.env xs → PSs (X.tr ps xs) body (rs c W' nw u))
    (cl : CzOk X c nw (h0 :: hr) cs l) (hK : X.K = c.K := by rfl) : PS X (.Try body (h0 :: hr) [] [] pos) (rs c W nw (sTry u cs)) := by
  refine ⟨fun pins s σ H Dn I z => (Wy.ps_try_named (tb := fun W' => rs c W' nw u) st fr nd tko bd cl.cl).run pins s σ H Dn I ?_⟩
  obtain ⟨ha, G0, B, G, δ, h, st', p⟩ := z
  refine ⟨ha, G0, B, G, δ, h, st', ?_⟩
  unfold sTry at p
  cases e : u δ h with
  | exc n fs δ' h' =>
    rw [e] at p
    intro σ' C dd G1 H1 h1 G' H' st1 sg af m xr
    exact try_ask hx hK cl p σ' C dd G1 H1 h1 G' H' st1 sg af m xr
  | nx δ' h' => rw [e] at p; exact p
  | brk δ' h' => rw [e] at p; exact p
  | ct δ' h' => rw [e] at p; exact p
  | ret d h' => rw [e] at p; exact p
  | bad => rw [e] at p; exact p
def eXf (ns : List Str) (i : Nat) (f : Str) : EF D := fun δ h => Ex.of (match δ[i]? with
  | some (some (.ex n fs)) => if ns.contains n then fs.lookup f else none
  | _ => none) h
/-- isinstance(e, C) -/
def eXi (ms : Str → Option Bool) (i : Nat) : EF D := fun δ h => Ex.of (match δ[i]? with
  | some (some (.ex n _)) => (ms n).map .bl
  | _ => none) h
end
end Fw
namespace Wi
open PySem PySem.Spec PyProof.Rows L2 ItX
/-- a longer heap with the same objects: the new places stand empty -/
theorem pad_heap (B : Heap) {n : Nat} (h : B.objs.size ≤ n) : ∃ G : Heap, (∀ b, G.get? b = B.get? b) ∧ G.objs.size = n := by
  refine ⟨⟨B.objs ++ Array.replicate (n - B.objs.size) ⟨.none, none, .freed, #[]⟩, B.life⟩, fun b => ?_, ?_⟩
  · by_cases hb : b < B.objs.size
    · have e : (B.objs ++ Array.replicate (n - B.objs.size) (⟨.none, none, .freed, #[]⟩ : Obj))[b]? = B.objs[b]? := Array.getElem?_append_left hb
      unfold Heap.get?
      rw [e]
    · have e1 : B.objs[b]? = none := Array.getElem?_eq_none (Nat.le_of_not_lt hb)
      have e2 : B.get? b = none := by
        unfold Heap.get?
        rw [e1]
      rw [e2]
      unfold Heap.get?
      rw [show (B.objs ++ Array.replicate (n - B.objs.size) (⟨.none, none, .freed, #[]⟩ : Obj))[b]? = (Array.replicate (n - B.objs.size) (⟨.none, none, .freed, #[]⟩ : Obj))[b - B.objs.size]? from Array.getElem?_append_right (Nat.le_of_not_lt hb), Array.getElem?_replicate]
      by_cases h2 : b - B.objs.size < n - B.objs.size
      · rw [if_pos h2]
      · rw [if_neg h2]
  · show (B.objs ++ Array.replicate (n - B.objs.size) (⟨.none, none, .freed, #[]⟩ : Obj)).size = n
    rw [Array.size_append, Array.size_replicate]
    omega
def tItObj (t : Addr) : Obj := { cls := .type "tuple_iterator", data := .fields #[.ref t, .int 0 0] }
/-- at it an iterator over the tuple at t, at its start -/
def ItT (t it : Addr) : HO := .ext fun h => h.get? it = some (tItObj t)
section
variable {X : Cx} {pins : List (Addr × Obj)} {σ : L2.St} {H : Hp} {s : Shared} {t it : Addr}
theorem itT_ok {P : Program} {w : World} {H : Hp} {h : Heap} (e : h.get? it = some (tItObj t)) : ObjOk P w H h it (ItT t it) := ⟨e, ⟨_, e⟩, fun h1 h2 q k => k _ q⟩
theorem itT_get (I : Inv X pins σ H s) (e : H it = some (ItT t it)) : s.heap.get? it = some (tItObj t) := (I.hok it _ e).1
/-- iter(t), t a tuple; n: the base's size -/
def rIterT (K : PySem.W.Frag) (n : Nat) : List V → Hp → VK → Prop := fun xs H Q => ∃ (l : Addr) (zs : List V), xs = [.ref l] ∧ SqT K H l zs ∧ ∀ it, H it = Option.none → n ≤ it → Q (.ref it) (upd H it (ItT l it))
theorem iter_tup {prog : Program} {w : World} {A : Around} {E : Value → Shared → Prop} {s : Shared} {l : Addr} {items : Array Value} {Q : Value → Shared → Prop} (hl : s.heap.IsTuple l items) (h : Q (.ref s.heap.objs.size) { s with heap := s.heap.push (tItObj l) }) :
    wpAny (model prog w) A (call (.builtin "iter") [.ref l]) Q E s := by
  refine Calls.call_function_entry (by decide +kernel) (by decide +kernel) PySem.W.kdk_entry_iter (PySem.W.kdk_args_iter _) ?_
  unfold Builtin.«iter»
  refine wpAny_bind (m := someArgs "iter" 1 2 _) (wpAny_of_eq (a := [Value.ref l]) (by first | rfl | kernel_rfl!) ?_)
  show wpAny _ _ (pyIter (.ref l) >>= _) _ _ _
  refine wpAny_bind (wpAny_pyIter_tuple hl ?_)
  exact wpAny_pure ⟨_, rfl, h⟩
theorem call_iterT : CallR X (.builtin "iter") (rIterT X.K X.base.objs.size) := by
  intro pins s σ H xs us Q I r h
  obtain ⟨l, zs, rfl, hq, q⟩ := h
  obtain ⟨u, rfl, ru⟩ := vals1 r
  cases ru
  obtain ⟨its, rv, pl, hz⟩ := I.tuple hq
  refine iter_tup (show s.heap.IsTuple l its.toArray from pl) ?_
  exact ⟨.ref s.heap.objs.size, _, I.laid (t' := s.toks) (fun b u e => Heap.get?_push_of_some _ e) (Nat.le_refl _) (itT_ok (Heap.get?_push_size _ rfl)), rfl, q _ (I.hok.fresh (Nat.le_refl _)) (Nat.le_trans I.ok.bsz I.sz)⟩
end
/-- what is asked of the class: __iter__ is the def at fi -/
structure It1 (K : PySem.W.Frag) (C fi : Addr) : Prop where
  it : PySem.W.findIn K (.ref C) "__iter__" = some (some (.ref fi))
  itF : PySem.W.isFn K (.ref fi) = true
section
variable {X : Cx} {tg e : Expr} {te : TE} {C fi : Addr} {fdI : FuncData} {psI : List Str} {k : Nat} {sp : Nat → Sp}
theorem env_pad {P : Program} {w : World} {K : PySem.W.Frag} {mg : Str → Option Value} {base G : Heap} {A : Around} {outer : List Env} {s : Shared} {H : Hp} (e : Env0 P w K mg base A outer s H) (g1 : ∀ b, G.get? b = base.get? b) (g2 : G.objs.size ≤ s.heap.objs.size) : Env0 P w K mg G A outer s H where
  frames := e.frames
  mod := by
    have k : ∀ b o, base.get? b = some o → G.get? b = some o := fun b o q => (g1 b).trans q
    obtain ⟨mb, q1, q2⟩ := e.mod.blt
    exact ⟨e.mod.kin.keeps k, e.mod.glob.keeps k, ⟨mb, q1.keeps k, q2⟩, e.mod.nolimit.keeps k⟩
  bs := fun b o q => e.bs b o ((g1 b).symm.trans q)
  bsz := g2
  funs := funFrames_none e.funs fun L hL => by
    rw [g1]
    exact (e.funs.mem hL).1
  frf := e.frf
  hok := e.hok
  bare := e.bare
/-- len(o), o of a class whose __len__ is the def at fl -/
structure Ln1 (K : PySem.W.Frag) (C fl : Addr) : Prop where
  ln : PySem.W.findIn K (.ref C) "__len__" = some (some (.ref fl))
  lnF : PySem.W.isFn K (.ref fl) = true
def rLenO (C : Addr) (sp : Sp) : List V → Hp → VK → Prop := fun xs H Q => ∃ a dx fs, xs = [.ref a] ∧ H a = some (.ins C dx fs) ∧ sp [.ref a] H (fun v H2 => ∃ n : Nat, v = .int n ∧ n < 2 ^ 62 ∧ Q (.int n) H2) fun _ _ _ => False
theorem call_lenO {sp : Sp} (hc : Ln1 X.K C fi) (FI : FnOk X.prog X.w X.K X.mg X.base CX0 k fi fdI psI sp) (bI : Binds X.K fdI psI []) (hr : Room (k + 1) X.A) : CallR X (.builtin "len") (rLenO C sp) := by
  intro pins s σ H xs us Q I r h
  obtain ⟨a, dx, fs, rfl, ha, hsp⟩ := h
  obtain ⟨u, rfl, ru⟩ := vals1 r
  cases ru
  obtain ⟨mA, J, _⟩ := ins_get I.hok ha
  obtain ⟨od, J, _⟩ := J.look
  obtain ⟨m0, hF⟩ := I.fr
  refine PySem.W.len_K hF I.ok.mod.kin J hc.ln hc.lnF ?_
  have e1 : Env0 X.prog X.w X.K X.mg X.base X.A.in1 X.stack s H := I.env0.in1
  have hlen := FI.len _ _ _ _ hsp
  have r2 : Vals [V.ref a] [Value.ref a] := .cons rfl .nil
  have sb : Sub X k X.A.in1 := Sub.in1 (⟨hr, rfl⟩ : Sub X (k + 1) X.A)
  refine wpAny_call (codeAny_mono (FI.run X.A.in1 X.stack s H ⟨[.ref a], []⟩ [.ref a] [.ref a] _ _ sb.room e1 (by
    have := bI s [.ref a] I.kIn (by simpa using hlen)
    simpa using this) r2 hsp) fun r s' hq' => ?_)
  cases r with
  | error e => exact False.elim hq'
  | ok fl =>
    cases fl with
    | next => exact False.elim hq'
    | brk => exact False.elim hq'
    | cont => exact False.elim hq'
    | ret u =>
      obtain ⟨v, H', I', rv, n, rfl, hn, q⟩ := I.after hq'
      obtain ⟨t, rfl⟩ := rv
      refine ⟨⟨by omega, by omega⟩, ?_⟩
      exact ⟨.int n, H', I'.tok _, ⟨_, rfl⟩, q⟩
end
end Wi
namespace Wn
open PySem PySem.Spec PyProof.Rows L2
section
variable {prog : Program} {w : World} {A : Around} {E : Value → Shared → Prop} {s : Shared} {K : PySem.W.Frag} {x y C L f : Addr} {h₀ : Heap} {m : Str → Option Value} {ox oy : Obj} {od od' : Option Obj}
theorem ne_slot (self : Value) : bindSpecial (.builtin "object.__ne__") self = pure (.builtin "object.__ne__", [self]) :=
  (Slot.of (T := "object") (name := "__ne__") (owner := "object") (n := "__ne__") (by rw [typeLookup_type, builtinLookup_eq_fast]; kernel_rfl) (by decide +kernel) (by decide +kernel) (by decide +kernel)
    (.inl (by decide +kernel)) (by rw [isSubtype_type]; kernel_rfl)).bind self
theorem obj_ne {h1 : Heap} {g : Array GenState} {d : Drawn} {t : Nat} {os : OsState} (X : K.In h1) (I : PySem.W.InstAt h1 x ox C od) (he : PySem.W.findIn K (.ref C) "__eq__" = some (some (.ref f))) (hf : PySem.W.isFn K (.ref f) = true) (hu : A.units < cLine) {Q : Fin → Shared → Prop}
    (hcall : wpAny (model prog w) A (call (.ref f) [.ref x, .ref y]) (fun v s' => ∃ b, v = .bool b ∧ Q (.done (.ret (.bool (!b)))) s') E ⟨h1, g, d, t, os⟩) :
    wpAny (model prog w) A (Builtin.«object.__ne__» ⟨[.ref x, .ref y], []⟩) Q E ⟨h1, g, d, t, os⟩ := by
  unfold Builtin.«object.__ne__»
  repeat (first
    | with_reducible refine wpAny_cRoomFor hu ?_
    | (refine wpAny_bind (m := callSpecialIfBound? (.ref x) (Str.ofString "__eq__") [.ref y])
        (PySem.W.ifBound_K X I he hf (wpAny_mono hcall (fun r s' hr => by
          obtain ⟨b, rfl, hq⟩ := hr
          repeat (first | exact hq | exact wpAny_pure hq | exact wpAny_truthy_bool hq | (refine wpAny_bind (m := truthy (.bool _)) (wpAny_truthy_bool ?_)) | wp_step)) fun _ _ e => e)))
    | wp_step)
theorem ne_K {Q : Value → Shared → Prop} (hu : A.units + 1 < cLine) (F : Fr h₀ L s.heap m) (X₀ : K.In h₀) (I : PySem.W.InstAt s.heap x ox C od) (J : PySem.W.InstAt s.heap y oy C od') (hne : PySem.W.findIn K (.ref C) "__ne__" = some (some (.builtin "object.__ne__")))
    (he : PySem.W.findIn K (.ref C) "__eq__" = some (some (.ref f))) (hf : PySem.W.isFn K (.ref f) = true) (hm : PySem.W.mroIn K C (.type "object") = some true)
    (h : wpAny (model prog w) A.in1 (call (.ref f) [.ref x, .ref y]) (fun v s' => ∃ b, v = .bool b ∧ Q (.bool (!b)) s') E s) : wpAny (model prog w) A (richCompare .NotEq (.ref x) (.ref y)) Q E s := by
  have X := X₀.keeps F.keep
  obtain ⟨h1, g, d, t, os⟩ := s
  have fin : wpAny (model prog w) A (call (.builtin "object.__ne__") [.ref x, .ref y]) (fun v s' => ∃ b, v = .bool (!b) ∧ Q (.bool (!b)) s') E ⟨h1, g, d, t, os⟩ := by
    refine wpAny_call (codeAny_call_builtin (by decide +kernel) PySem.F.cmpEntry_ne (PySem.W.check_slot PySem.F.cmpKind_ne PySem.F.cmpSplit_ne ?_ (PySem.F.cmpArgs_ne _ _) ?_))
    · exact (I.type).andThen (PySem.W.looks_mroIn X hm)
    · refine obj_ne (A := A.in1) X I he hf hu (wpAny_mono h (fun v s' hv => ?_) fun _ _ e => e)
      obtain ⟨b, rfl, hq⟩ := hv
      exact ⟨b, rfl, b, rfl, hq⟩
  have one : wpAny (model prog w) A (tryCompare (.ref x) "__ne__" (.ref y)) (fun r s' => ∃ v, r = some v ∧ Q v s') E ⟨h1, g, d, t, os⟩ := by
    unfold tryCompare
    have bd : wpAny (model prog w) A (callSpecialIfBound? (.ref x) "__ne__" [.ref y]) (fun r s' => ∃ b, r = some (.bool (!b)) ∧ Q (.bool (!b)) s') E ⟨h1, g, d, t, os⟩ := by
      simp only [callSpecialIfBound?, bindSpecialIfBound?]
      refine wpAny_holding (wpAny_bind (wpAny_bind (wpAny_bind (I.type.here ((PySem.W.looks_findIn X hne).here ?_)))))
      simp only [ne_slot]
      refine wpAny_bind (wpAny_askSetting (wpAny_ite ?_))
      have fin2 : wpAny (model prog w) A (call (.builtin "object.__ne__") ([.ref x] ++ [.ref y]) >>= fun v => pure (some v)) (fun r s' => ∃ b, r = some (.bool (!b)) ∧ Q (.bool (!b)) s') E ⟨h1, g, d, t, os⟩ :=
        wpAny_bind (wpAny_mono fin (fun v s' h' => by obtain ⟨b, rfl, hq⟩ := h'; exact wpAny_pure ⟨b, rfl, hq⟩) fun _ _ h' => h')
      split
      · exact wpAny_bind (wpAny_pure (wpAny_pure (by exact fin2)))
      · exact wpAny_tryCatch (wpAny_bind (wpAny_pure (wpAny_pure (by exact fin2))))
    refine wpAny_bind (wpAny_mono bd (fun r s' hr => ?_) fun _ _ e => e)
    obtain ⟨b, rfl, hq⟩ := hr
    exact wpAny_pure ⟨_, rfl, hq⟩
  have nf : PySem.W.notFirst K C (.ref C) = true := by
    unfold PySem.W.notFirst
    simp
  unfold richCompare
  simp only [oneThing_ref]
  refine wpAny_holding (wpAny_bind (wpAny_cRoomFor (Nat.lt_of_succ_lt hu) ?_))
  refine wpAny_bind (I.type.here (wpAny_bind (J.type.here ?_)))
  rw [show (Value.ref C != Value.ref C) = false from by simp]
  simp only [Bool.false_eq_true, if_false]
  refine wpAny_bind (wpAny_pure ?_)
  simp only [Bool.false_eq_true, if_false]
  refine wpAny_bind (wpAny_mono one (fun r s' z => ?_) fun _ _ e => e)
  obtain ⟨v, rfl, hq⟩ := z
  exact wpAny_pure hq
end
section
variable {X : Cx} {n k : Nat} {C g : Addr} {sp : Sp} {fd : FuncData} {ps : List Str}
def rNeI (C : Addr) (sp : Sp) : R2 := fun x y H Q =>
  ∃ a b dx dy fs gs, x = .ref a ∧ y = .ref b ∧ H a = some (.ins C dx fs) ∧ H b = some (.ins C dy gs) ∧ sp [.ref a, .ref b] H (fun v H' => ∃ r, v = .bl r ∧ Q (.bl (!r)) H') L2.E0
theorem op_neI (fne : PySem.W.findIn X.K (.ref C) "__ne__" = some (some (.builtin "object.__ne__"))) (find : PySem.W.findIn X.K (.ref C) "__eq__" = some (some (.ref g))) (isf : PySem.W.isFn X.K (.ref g) = true) (hm : PySem.W.mroIn X.K C (.type "object") = some true)
    (F : FnOk X.prog X.w X.K X.mg X.base CX0 n g fd ps sp) (bI : Binds X.K fd ps []) (room : Room (n + 1) X.A) : OpR X (compareOp .NotEq) (rNeI C sp) := by
  intro pins s σ H x y v u Q I rx ry h
  obtain ⟨a, b, dx, dy, fs, gs, ex, ey, ha, hb, hsp⟩ := h
  subst ex ey
  cases (show v = Value.ref a from rx)
  cases (show u = Value.ref b from ry)
  obtain ⟨mA, J0, _⟩ := ins_get I.hok ha
  obtain ⟨mB, J1, _⟩ := ins_get I.hok hb
  obtain ⟨od, J, _⟩ := J0.look
  obtain ⟨od', J', _⟩ := J1.look
  obtain ⟨m, hF⟩ := I.fr
  show wpAny (model X.prog X.w) X.A (richCompare .NotEq (.ref a) (.ref b)) (EP X pins σ Q) X.xe s
  refine ne_K (by have := room.units; omega) hF I.ok.mod.kin J J' fne find isf hm ?_
  have e1 : Env0 X.prog X.w X.K X.mg X.base X.A.in1 X.stack s H := I.env0.in1
  have hlen := F.len _ _ _ _ hsp
  have r2 : Vals [V.ref a, V.ref b] [Value.ref a, Value.ref b] := .cons rfl (.cons rfl .nil)
  have sb : Sub X n X.A.in1 := Sub.in1 (⟨room, rfl⟩ : Sub X (n + 1) X.A)
  refine wpAny_call (codeAny_mono (F.run X.A.in1 X.stack s H ⟨[.ref a, .ref b], []⟩ [.ref a, .ref b] [.ref a, .ref b] _ _ sb.room e1 (by
    have := bI s [.ref a, .ref b] I.kIn (by simpa using hlen)
    simpa using this) r2 hsp) fun r s' hq' => ?_)
  cases r with
  | error e => exact False.elim hq'
  | ok fl =>
    cases fl with
    | next => exact False.elim hq'
    | brk => exact False.elim hq'
    | cont => exact False.elim hq'
    | ret u =>
      obtain ⟨v, H', I', rv, r, rfl, q⟩ := I.after hq'
      have eu : u = .bool r := rv
      subst eu
      exact ⟨r, rfl, .bl (!r), H', I', rfl, q⟩
end
end Wn
namespace Fw
open PySem PySem.Spec PyProof.Rows L2 Dz Vz
/-- a def that may be called; dd: what lacks -/
structure Cal (P : Program) (w : World) (c : Cn) (base : Heap) (nw : Bool) (k : Nat) (g : Addr) (n : Nat) (F : Fn) (dd : List D) : Prop where
  ex : ∃ (fd : FuncData) (ps : List Str) (ds : List Value) (dvs : List V), FnOk P w c.K c.mg base (L2.CX P w) k g fd ps (spD c nw n F) ∧ L2.Binds c.K fd ps ds ∧ Vals dvs ds ∧ ∀ ha G, DqAll c ha G dvs dd
  kp : PySem.W.keepIn c.K (.ref g) = true
theorem passF {X : Cx} : ∀ σ, PassesAt (L2.CX X.prog X.w) X σ (WE WF σ) := fun σ pins H s e s' I h => by
  obtain ⟨a, B, H', cls, d, _, _, _, _, _, _, _, q⟩ := h
  exact q.elim
section
variable {P : Program} {w : World} {c : Cn} {base : Heap} {nw : Bool} {k n : Nat} {g : Addr} {F : Fn} {fd : FuncData} {ps : List Str} {x qual : Str} {params : Arguments} {body : List Stmt} {scope : Scope} {dvs : List V} {kws : List (Str × V)}
theorem cal_of (D : FunD c.K x qual params body scope dvs kws g fd) (G : FnOk P w c.K c.mg base (L2.CX P w) k g fd ps (spD c nw n F)) (b : L2.Binds c.K fd ps []) : Cal P w c base nw k g n F [] :=
  ⟨⟨fd, ps, [], [], G, b, .nil, fun _ _ => .nil⟩, D.kp⟩
theorem cal_of1 {dv : List V} {dd : List D} (D : FunD c.K x qual params body scope dvs kws g fd) (G : FnOk P w c.K c.mg base (L2.CX P w) k g fd ps (spD c nw n F)) (b : ∃ ds, Vals dv ds ∧ L2.Binds c.K fd ps ds) (hd : ∀ ha G, DqAll c ha G dv dd) : Cal P w c base nw k g n F dd := by
  obtain ⟨ds, v, b⟩ := b
  exact ⟨⟨fd, ps, ds, dv, G, b, v, hd⟩, D.kp⟩
end
section
variable {X : Cx} {W : WX} {c : Cn} {nw : Bool} {e a b o : Expr} {es : List Expr} {pos : Pos} {te : TE} {f fa fb fo : EF D} {fs : EF (List D)} {k n : Nat} {g C : Addr} {F : Fn} {dd : List D} {x m : Str} {p apos : Pos}
theorem cc_call (G : Cal X.prog X.w c X.base false k g n F dd) (hr : Room k X.A) (hm : c.mg x = some (.ref g)) (hx : ∀ σ, PassesAt (L2.CX X.prog X.w) X σ (WE W σ)) (ha : PA X (e :: es) (rg c W fs)) (hg : Gl X x := by rfl) (hK : X.K = c.K := by rfl) (hM : X.mg = c.mg := by rfl)
    (hdb : (x == ("__debug__" : Str)) = false := by decide) (he : starEach (e :: es) X.env = (false, eval e X.env) :: starEach es X.env := by rfl) (hpl : (backTo pos (starEach es X.env)).any (·.1) = false := by rfl) :
    PE X (.Call (.Name x p) (e :: es) [] pos) (rd c W (eCall n F dd fs)) := by
  obtain ⟨K, mg, xa⟩ := c
  cases hK
  cases hM
  obtain ⟨fd, ps, ds, dvs, F1, b1, v1, d1⟩ := G.ex
  exact dx_call F1 hr hg hm G.kp b1 v1 d1 hx ha hdb he hpl
theorem cw_call (G : Cal X.prog X.w c X.base true k g n F dd) (hr : Room k X.A) (hm : c.mg x = some (.ref g)) (hx : ∀ σ, PassesAt (L2.CX X.prog X.w) X σ (WE W σ)) (ha : PA X (e :: es) (rg c W fs)) (hg : Gl X x := by rfl) (hK : X.K = c.K := by rfl) (hM : X.mg = c.mg := by rfl)
    (hdb : (x == ("__debug__" : Str)) = false := by decide) (he : starEach (e :: es) X.env = (false, eval e X.env) :: starEach es X.env := by rfl) (hpl : (backTo pos (starEach es X.env)).any (·.1) = false := by rfl) :
    PE X (.Call (.Name x p) (e :: es) [] pos) (rw' c W (eCall n F dd fs)) := by
  obtain ⟨K, mg, xa⟩ := c
  cases hK
  cases hM
  obtain ⟨fd, ps, ds, dvs, F1, b1, v1, d1⟩ := G.ex
  exact dw_call F1 hr hg hm G.kp b1 v1 d1 hx ha hdb he hpl
theorem cc_meth {nm : Str} {pl : Sem Bool} (mC : c.mg nm = some (.ref C)) (he : PE X o (rd c W fo)) (cl : Cls c.K C) (hm : Meth c.K C m g) (G : Cal X.prog X.w c X.base false k g n F dd) (hr : Room k X.A) (hx : ∀ σ, PassesAt (L2.CX X.prog X.w) X σ (WE W σ)) (ha : PA X (e :: es) (rg c W fs)) (hK : X.K = c.K := by rfl) (hM : X.mg = c.mg := by rfl)
    (hst : starEach (e :: es) X.env = (false, eval e X.env) :: starEach es X.env := by rfl) (hpl : (backTo pos (starEach es X.env)).any (·.1) = false := by rfl)
    (ht : eval (.Call (.Attribute o m apos) (e :: es) [] pos) X.env = (do
      let ov ← eval o X.env
      standAt apos.atName
      let (f, first) ← holding [ov] (getMethod ov m pl)
      callWith pos f first (backTo pos (starEach (e :: es) X.env)) (backToKw pos (keywordEach [] X.env))) := by rfl) :
    PE X (.Call (.Attribute o m apos) (e :: es) [] pos) (rd c W (eMeth nm m n F dd fo fs)) := by
  obtain ⟨K, mg, xa⟩ := c
  cases hK
  cases hM
  obtain ⟨fd, ps, ds, dvs, F1, b1, v1, d1⟩ := G.ex
  exact dx_meth mC he cl hm F1 hr b1 v1 d1 hx ha hst hpl ht
theorem cc_make {nm : Str} (mC : c.mg nm = some (.ref C)) (co : COk c.K C) (M : Mk c.K C g) (G : Cal X.prog X.w c X.base false k g n F dd) (hr : Room (k + 1) X.A) (hx : ∀ σ, PassesAt (L2.CX X.prog X.w) X σ (WE W σ))
    (ha : PA X (e :: es) (ra c W fs)) (hg : Gl X nm := by rfl) (hK : X.K = c.K := by rfl) (hM : X.mg = c.mg := by rfl) (hdb : (nm == ("__debug__" : Str)) = false := by decide) (he : starEach (e :: es) X.env = (false, eval e X.env) :: starEach es X.env := by rfl) (hpl : (backTo pos (starEach es X.env)).any (·.1) = false := by rfl) :
    PE X (.Call (.Name nm p) (e :: es) [] pos) (rd c W (eMake nm n F dd fs)) := by
  obtain ⟨K, mg, xa⟩ := c
  cases hK
  cases hM
  obtain ⟨fd, ps, ds, dvs, F1, b1, v1, d1⟩ := G.ex
  exact dx_make mC co M F1 hr hg mC b1 v1 d1 hx ha hdb he hpl
end
theorem fn_calm {P : Program} {w : World} {K : PySem.W.Frag} {mg : Str → Option Value} {base : Heap} {k : Nat} {f : Addr} {fd : FuncData} {ps : List Str} {sp : Sp} (F : FnOk P w K mg base (L2.CX P w) k f fd ps sp) : FnOk P w K mg base CX0 k f fd ps (fun vs H Q _ => sp vs H Q fun _ _ _ => False) := by
  refine ⟨fun vs H Q E h => F.len vs H Q _ h, fun A outer s H args us vs Q E r e b v h => codeAny_mono (F.run A outer s H args us vs Q _ r e b v h) fun z s' q => ?_⟩
  cases z with
  | error u =>
    obtain ⟨a, B, H', cls, d, _, _, _, _, _, _, _, q⟩ := q
    exact q.elim
  | ok fl => cases fl <;> exact q
end Fw
namespace Fw
open PySem PySem.Spec PyProof.Rows L2 Dz Vz
section
variable {X : Cx} {W : WX} {c : Cn} {nw : Bool} {e a b o : Expr} {es : List Expr} {pos : Pos} {te : TE} {f fa fb fo : EF D} {fs : EF (List D)} {k n : Nat} {g C : Addr} {F : Fn} {dd : List D} {x m : Str} {p apos : Pos}
def eLenI (nm : Str) (F : Fn) (f : EF D) : EF D := fun δ h => (f δ h).bind fun d h1 => match d with
  | .ins n' fs => if n' = nm then (F [.ins n' fs] h1).nox.bind fun y h2 => match y with
    | .int i => if 0 ≤ i ∧ i < 1000000 then .ok (.int i) h2 else .bad
    | _ => .bad
    else .bad
  | _ => .bad
theorem nox_end {nw : Bool} {ha : Option Addr} {σ : L2.St} {G H : Hp} {r : Ex D} {Q : VK} (p : Post c ha W σ G H r.nox fun d _ G' H' => ∀ v, Res nw c ha H G' H' v d → Q v H') : EndF nw c ha G H r Q fun _ _ _ => False := by
  cases r with
  | ok d h' => exact fun v G' H' af res => p G' H' af v res
  | exc n fs h' => exact p.elim
  | bad => exact p
theorem cc_lenI {nm : Str} (hc : Wi.Ln1 c.K C g) (mC : c.mg nm = some (.ref C)) (G : Cal X.prog X.w c X.base false k g 1 F []) (hr : Room (k + 1) X.A) (he : PE X a (rd c W f)) (hm : X.mg "len" = none) (hg : Gl X "len" := by rfl) (hK : X.K = c.K := by rfl) (hM : X.mg = c.mg := by rfl)
    (s1 : starEach (a :: []) X.env = (false, eval a X.env) :: starEach [] X.env := by rfl) (hpl : (backTo pos (starEach [] X.env)).any (·.1) = false := by rfl) : PE X (.Call (.Name "len" p) [a] [] pos) (rd c W (eLenI nm F f)) := by
  obtain ⟨K, mg, xa⟩ := c
  cases hK
  cases hM
  obtain ⟨fd, ps, ds, dvs, F1, b1, v1, d1⟩ := G.ex
  have dn : dvs = [] := by cases dvs with
    | nil => rfl
    | cons v vs => cases d1 none fun _ => none
  subst dn
  cases v1
  refine pe_to (pe_callB (Wi.call_lenO hc (fn_calm F1) b1 hr) hg hm PySem.boot_len (pa_cons he pa_nil s1) (by decide) (by decide) s1 hpl) fun σ H Q x => ?_
  obtain ⟨ha, G0, B, G, δ, h, st, p⟩ := x
  refine ⟨ha, G0, B, G, δ, h, st, post_imp (Post.arg p) fun d h1 G1 H1 af ⟨sm, ok, p1⟩ v dv => ?_⟩
  cases dv with
  | ins k1 k2 k3 k4 =>
    obtain ⟨rfl, p2⟩ := if_post p1
    rw [k1] at mC
    cases mC
    refine ⟨_, _, _, rfl, sm _ _ k2, ha, G1, [.ins _ _], h1, rfl, sm, ok, .cons (.ins k1 k2 k3 k4) .nil, nox_end (W := W) (σ := σ) (post_imp (post_bind p2) fun y h2 G2 H2 af2 q v dv => ?_)⟩
    cases (show Dq _ ha G2 v y from dv) with
    | int i =>
      obtain ⟨hi, q2⟩ := if_post q
      refine ⟨i.toNat, by rw [Int.toNat_of_nonneg hi.1], by omega, ?_⟩
      rw [Int.toNat_of_nonneg hi.1]
      exact post_ok q2 af2.gh af2.hd _ (.int i)
    | _ => exact q.elim
  | _ => exact p1.elim
def spIt (K : PySem.W.Frag) (C : Addr) (fld : Str) (n : Nat) : Sp := fun vs H Q _ => ∃ a dx fs l xs, vs = [.ref a] ∧ H a = some (.ins C dx fs) ∧ Cls K C ∧ NoAttr K C fld ∧ fs.lookup fld = some (.ref l) ∧ SqT K H l xs ∧ ∀ it, H it = none → n ≤ it → Q (.ref it) (upd H it (Wi.ItT l it))
def iOwnI (nm fld : Str) (f : EF D) : EF (List D) := fun δ h => (f δ h).bind fun d h1 => Ex.of (match d with
  | .ins n' fs => if n' = nm then match fs.lookup fld with
    | some (.tup ds) => some ds
    | _ => none
    else none
  | _ => none) h1
def eNeI (nm : Str) (F : Fn) (fa fb : EF D) : EF D := fun δ h => (fa δ h).bind fun x h1 => (fb δ h1).bind fun y h2 => match x, y with
  | .ins n1 f1, .ins n2 f2 => if n1 = nm ∧ n2 = nm then (F [.ins n1 f1, .ins n2 f2] h2).nox.bind fun z h3 => match z with
    | .bl r => .ok (.bl (!r)) h3
    | _ => .bad
    else .bad
  | _, _ => .bad
theorem ct_neI {nm : Str} (fne : PySem.W.findIn c.K (.ref C) "__ne__" = some (some (.builtin "object.__ne__"))) (find : PySem.W.findIn c.K (.ref C) "__eq__" = some (some (.ref g))) (isf : PySem.W.isFn c.K (.ref g) = true) (hmo : PySem.W.mroIn c.K C (.type "object") = some true)
    (mC : c.mg nm = some (.ref C)) (G : Cal X.prog X.w c X.base false k g 2 F []) (room : Room (k + 1) X.A) (ha : PE X a (rd c W fa)) (hb : PE X b (rd c W fb)) (hK : X.K = c.K := by rfl) (hM : X.mg = c.mg := by rfl) (hm : behindInMarks .NotEq b = false := by rfl) : PT X (.Compare a [.NotEq] [b] pos) (rt c W (eT (eNeI nm F fa fb))) := by
  obtain ⟨K, mg, xa⟩ := c
  cases hK
  cases hM
  obtain ⟨fd, ps, ds, dvs, F1, b1, v1, d1⟩ := G.ex
  have dn : dvs = [] := by cases dvs with
    | nil => rfl
    | cons v vs => cases d1 none fun _ => none
  subst dn
  cases v1
  refine pt_to (pt_cmpR (Wn.op_neI fne find isf hmo (fn_calm F1) b1 room) ha hb hm) fun σ H Q x => ?_
  obtain ⟨ha, G0, B, G, δ, h, st, p⟩ := rt_T σ H Q x
  refine ⟨ha, G0, B, G, δ, h, st, post_imp (post_bind p) fun d h1 G1 H1 af p1 v dv => ?_⟩
  refine ⟨ha, G0, B, G1, δ, h1, st.to af, post_imp (Post.arg p1) fun d2 h2 G2 H2 af2 ⟨sm, ok, p2⟩ v2 dv2 => ?_⟩
  cases dv with
  | ins k1 k2 k3 k4 =>
    cases dv2 with
    | ins l1 l2 l3 l4 =>
      obtain ⟨⟨rfl, e2⟩, p3⟩ := if_post p2
      subst e2
      rw [k1] at mC
      cases mC
      rw [k1] at l1
      cases l1
      refine ⟨_, _, _, _, _, _, rfl, rfl, sm _ _ (af2.gg _ _ k2), sm _ _ l2, ha, G2, [.ins _ _, .ins _ _], h2, rfl, sm, ok, .cons (.ins k1 (af2.gg _ _ k2) k3 (dqF_mono af2.gg k4)) (.cons (.ins k1 l2 l3 l4) .nil), nox_end (W := W) (σ := σ) (post_imp (post_bind p3) fun y h3 G3 H3 af3 q v dv => ?_)⟩
      cases (show Dq _ ha G3 v y from dv) with
      | bl r => exact ⟨r, rfl, post_ok q af3.gh af3.hd _ (.bl _)⟩
      | _ => exact q.elim
    | _ => exact p2.elim
  | _ => exact p2.elim
end
end Fw
namespace Fw
open PySem PySem.Spec PyProof.Rows L2 Dz Vz
section
variable {X : Cx} {W : WX} {c : Cn} {nw : Bool} {e a b o : Expr} {es : List Expr} {pos : Pos} {te : TE} {f fa fb fo elt : EF D} {ga gb : EF Bool} {fs fs1 : EF (List D)}
structure LcJ (c : Cn) (ha : Option Addr) (bind : D → DE → Option DE) (test : EF Bool) (elt : EF D) (δw : DE) (items all : List D) (hE : D) (G1 H1 : Hp) (Da : Addr) (i : Nat) (H : Hp) : Prop where
  ex : ∃ G h acc ds ys fp, Af c ha G1 H1 G H h ∧ H Da = some (.lst acc) ∧ G Da = none ∧ OwnAll c ha G H acc ds fp ∧ fp.Nodup ∧ (∀ a ∈ fp, H1 a = none ∧ a ≠ Da) ∧ ds.length ≤ i ∧ lcGo bind test elt δw (items.drop i) h = .ok ys hE ∧ ds ++ ys = all
theorem lcw_run {ha : Option Addr} {bind : D → DE → Option DE} {g : TG} {vs : List Nat} {J : It} {items all : List D} {hE h1 : D} {G0 B G1 H1 : Hp} {σ : L2.St} {δ : DE} {Da : Addr} {Qd : Hp → Prop} (st : Sta c ha G0 B G1 H1 σ δ h1) (w : WalkD c ha G1 J items) (bd : BindD c vs g bind) (sz : szOk items.length = true)
    (hD : H1 Da = none) (go : lcGo bind ga f (wipeD δ vs) items h1 = .ok all hE)
    (fin : ∀ G H acc fp, Af c ha G1 H1 G H hE → H Da = some (.lst acc) → G Da = none → OwnAll c ha G H acc all fp → fp.Nodup → (∀ a ∈ fp, H1 a = none ∧ a ≠ Da) → Qd H) : LcW J g (rt c WF ga) (rw' c WF f) vs σ H1 Da Qd := by
  have hk := st.hne
  refine ⟨fun i m H => m = items.length - i ∧ i ≤ items.length ∧ LcJ c ha bind ga f (wipeD δ vs) items all hE G1 H1 Da i H, ⟨_, rfl, Nat.zero_le _, ⟨G1, h1, [], [], all, [], ?_⟩⟩, ?_⟩
  · have a0 : Af c ha G1 H1 G1 (upd H1 Da (.lst [])) h1 := .of st.gh st.hd (Mv.hid st.gh hD) (same_new hD)
    exact ⟨a0, upd_same, old_none st.gh hD, .nil, by simp, (fun a z => nomatch z), Nat.zero_le _, go, rfl⟩
  · rintro i m H ⟨rfl, hi, ⟨G, h, acc, ds, ys, fp, af, hDa, gD, da, nf, kf, hl, go, ea⟩⟩
    by_cases hlt : i < items.length
    · refine .inr ⟨w.go i G H af.gg af.gh hlt, fun H' => i + 1 ≤ items.length ∧ LcJ c ha bind ga f (wipeD δ vs) items all hE G1 H1 Da (i + 1) H', fun H' hn => ⟨_, by omega, rfl, hn⟩, fun x H' y => ?_⟩
      have ei : items[i]? = some items[i] := List.getElem?_eq_getElem hlt
      obtain ⟨G2, m2, s2, dx⟩ := w.yld i G H x H' _ af.gg af.gh ei y
      have af2 : Af c ha G H G2 H' h := .of af.gh af.hd m2 s2
      have st2 := ((st.wipe vs).to af).to af2
      have ed : items.drop i = items[i] :: items.drop (i + 1) := (List.drop_eq_getElem_cons hlt)
      rw [ed] at go
      unfold lcGo at go
      have keep : ∀ {G3 H3 : Hp} {h3 : D}, Af c ha G H G3 H3 h3 → OwnAll c ha G3 H3 acc ds fp := fun {G3 H3 h3} a3 => ownAll_keep a3.gg da fun b hb => by
        obtain ⟨g, hne⟩ := ownAll_at da b hb
        obtain ⟨u, e⟩ := ne_some hne
        exact ⟨by rw [e]; exact a3.bt b u (fun z => hk b z (kf b hb).1) e, (a3.mv.nw b hne).trans g⟩
      cases qb : bind items[i] (wipeD δ vs) with
      | none => rw [qb] at go; cases go
      | some δ2 =>
        simp only [qb] at go
        obtain ⟨b, h2, e1, go2⟩ := bind_ok go
        have e1' := nox_ok e1
        refine bd st2 dx qb fun σ2 st3 we => ⟨we.trans (by rw [wipe_wipe]), ha, G0, B, G2, δ2, h, st3, ?_⟩
        rw [e1']
        intro G3 H3 af3
        have d03 := (af.trans af2).trans af3
        have hD3 : H3 Da = some (.lst acc) := af3.bt _ _ (fun z => hk Da z hD) (s2 _ _ hDa)
        have gD3 : G3 Da = none := (af3.mv.nw Da (some_ne (s2 _ _ hDa))).trans ((m2.nw Da (some_ne hDa)).trans gD)
        cases b with
        | false =>
          have go3 : lcGo bind ga f (wipeD δ vs) (items.drop (i + 1)) h2 = .ok ys hE := go2
          exact ⟨hlt, ⟨G3, h2, acc, ds, ys, fp, d03, hD3, gD3, keep (af2.trans af3), nf, kf, by omega, go3, ea⟩⟩
        | true =>
          have go3 : ((f δ2 h2).nox.bind fun y h3 => (lcGo bind ga f (wipeD δ vs) (items.drop (i + 1)) h3).bind fun ys h4 => .ok (y :: ys) h4) = Ex.ok ys hE := go2
          obtain ⟨y1, h3, e3, go4⟩ := bind_ok go3
          obtain ⟨ys1, h4, e4, go5⟩ := bind_ok go4
          cases go5
          have e3' := nox_ok e3
          refine ⟨ha, G0, B, G3, δ2, h2, st3.to af3, ?_⟩
          rw [e3']
          intro G4 H4 af4 v ⟨fv, ov, nv, kv⟩
          have hD4 : H4 Da = some (.lst acc) := af4.bt _ _ (fun z => hk Da z hD) hD3
          have gD4 : G4 Da = none := (af4.mv.nw Da (some_ne hD3)).trans gD3
          have o3 := keep (af2.trans af3)
          have o4 := keep ((af2.trans af3).trans af4)
          have nDv : Da ∉ fv := fun z => by rw [kv Da z] at hD3; cases hD3
          refine ⟨acc, hD4, ?_, hlt, ⟨G4, h3, acc ++ [v], ds ++ [y1], ys1, fp ++ (fv ++ []), af_put (d03.trans af4) hD gD4 hk (some_ne hD4), upd_same, gD4, ownAll_app (ownAll_keep (Same.refl _) o4 fun b hb => ⟨upd_ne (kf b hb).2, (ownAll_at o4 b hb).1⟩) (.cons (own_upd ov nDv) .nil), ?_, fun b hb => ?_, ?_, e4, by rw [List.append_assoc]; exact ea⟩⟩
          · rw [ownAll_len da, sizeLine_eq]
            have := of_decide_eq_true sz
            omega
          · rw [List.append_nil]
            refine List.nodup_append.mpr ⟨nf, nv, fun x hx y hy => ?_⟩
            rintro rfl
            exact (ownAll_at o3 x hx).2 (kv x hy)
          · rw [List.append_nil] at hb
            rcases List.mem_append.mp hb with z | z
            · exact kf b z
            · exact ⟨af_old ((af.trans af2).trans af3) (kv b z), fun e => nDv (by rw [← e]; exact z)⟩
          · rw [List.length_append, List.length_singleton]
            omega
    · have hi2 : i = items.length := by omega
      subst hi2
      rw [List.drop_length] at go
      cases go
      rw [List.append_nil] at ea
      subst ea
      exact .inl ⟨w.stop G H af.gg af.gh, fin G H acc fp af hDa gD da nf kf⟩
theorem rw_lc {vs : List Nat} {bind : D → DE → Option DE} {g : TG} (bd : BindD c vs g bind) (σ : L2.St) (H : Hp) (Q : VK) (x : rw' c W (eLc vs fs bind ga f) σ H Q) : tLc (ri c W fs) g (rt c WF ga) (rw' c WF f) vs σ H Q := by
  obtain ⟨ha, G0, B, G, δ, h, st, p⟩ := x
  unfold eLc eLcL at p
  rw [bind_assoc] at p
  refine ⟨ha, G0, B, G, δ, h, st, post_imp (post_bind p) fun ds h1 G1 H1 af p1 J w Da hD => ?_⟩
  obtain ⟨hz, ys, h2, go, p2⟩ := post_lcL p1
  refine lcw_run (st.to af) w bd hz hD go fun G2 H2 acc fp af2 hDa gD da nf kf => ?_
  refine p2 G2 H2 af2 _ ⟨Da :: fp, .hl hDa gD da, List.nodup_cons.mpr ⟨fun z => (kf Da z).2 rfl, nf⟩, fun b hb => ?_⟩
  rcases List.mem_cons.mp hb with z | z
  · rw [z]; exact af_old af hD
  · exact af_old af (kf b z).1
theorem dw_lc {elt tg iter : Expr} {ifs : List Expr} {scope : Scope} {own : List (Str × Nat)} {bind : D → DE → Option DE} {g : TG} (hc : X.calm = true) (hN : X.N.Nodup) (hi : PI X tg iter (ri c W fs)) (ok : BlkOk X.N X.env.scope scope own) (bd : BindD c (own.map (·.2)) g bind)
    (hg : ∀ (s : Shared) (H : Hp) (C : Addr) (cl : List (Str × Addr)) (fp : List Addr), PG (X.blk s H scope (compEnvC scope cl C X.env) fp) tg g) (ht : ∀ (s : Shared) (H : Hp) (C : Addr) (cl : List (Str × Addr)) (fp : List Addr), PTs (X.blk s H scope (compEnvC scope cl C X.env) fp) ifs (rt c WF ga))
    (he : ∀ (s : Shared) (H : Hp) (C : Addr) (cl : List (Str × Addr)) (fp : List Addr), PE (X.blk s H scope (compEnvC scope cl C X.env) fp) elt (rw' c WF f)) (hs : ∀ x, foldedSetIterable iter X.env x = pure x := by intro _; rfl) :
    PE X (.ListComp elt [⟨tg, iter, ifs, 0⟩] scope pos) (rw' c W (eLc (own.map (·.2)) fs bind ga f)) := pw_to' (pe_lc hc hN hi ok hg ht he hs) (rw_lc bd)
end
end Fw
namespace Fw
open PySem PySem.Spec PyProof.Rows L2 Dz Vz
/-- no slot holds a list of its own -/
def slF (δ : DE) : Bool := δ.all fun o => match o with
  | some .me => true
  | some d => d.fr
  | none => true
def eInn (g : EF (List D)) : EF (List D) := fun δ h => if slF δ then g δ h else .bad
end Fw
namespace Kf
open PySem PySem.Spec PyProof.Rows L2 Kx
def erB (K : PySem.W.Frag) (P C : Addr) : Bool :=
  (match K.lookup C with
    | some ⟨.type t, _, .cls cd, sl⟩ => (match sl.toList with
      | [_, _, _, _, some (.builtin n), _] => t == "type" && (cd.mro == (Value.ref C :: .ref P :: PySem.HandSPX.veTail) && (n == "ValueError.__new__" && (!cd.hasDel && cd.hasDict)))
      | _ => false)
    | _ => false) &&
  (He.eqO (PySem.W.findIn K (.ref C) "__setattr__") (some (some (.builtin "object.__setattr__"))) &&
  (He.eqO (PySem.W.findIn K (.ref C) "__getattribute__") (some (some (.builtin "BaseException.__getattribute__"))) &&
  (He.eqO (PySem.W.findIn K (.ref C) "__getattr__") (some none) &&
  (He.eqO (PySem.W.findIn K (.ref C) "__class__") (some (some (.builtin "object.__class__"))) &&
  (decide (PySem.W.typeIn K (.ref C) = some (.type "type")) && PySem.W.keepIn K (.ref C))))))
theorem erB_ok {K : PySem.W.Frag} {P C : Addr} (h : erB K P C = true) : Er K P C := by
  obtain ⟨h1, h⟩ := He.ba h
  obtain ⟨h2, h⟩ := He.ba h
  obtain ⟨h3, h⟩ := He.ba h
  obtain ⟨h4, h⟩ := He.ba h
  obtain ⟨h5, h⟩ := He.ba h
  obtain ⟨h6, h7⟩ := He.ba h
  cases e : K.lookup C with
  | none =>
    rw [e] at h1
    cases h1
  | some o =>
    obtain ⟨oc, od, dt, sl⟩ := o
    rw [e] at h1
    cases oc with
    | type t =>
      cases dt with
      | cls cd =>
        obtain ⟨sl⟩ := sl
        match sl, h1, e with
        | [k0, k1, k2, k3, some (.builtin n), k5], h1, e =>
          obtain ⟨g1, g⟩ := He.ba (show (t == "type" && (cd.mro == (Value.ref C :: .ref P :: PySem.HandSPX.veTail) && (n == "ValueError.__new__" && (!cd.hasDel && cd.hasDict)))) = true from h1)
          obtain ⟨g2, g⟩ := He.ba g
          obtain ⟨g3, g⟩ := He.ba g
          obtain ⟨g4, g5⟩ := He.ba g
          obtain ⟨nm, bs, mro, ns, qn, hd, sn, sub, ab, col, del⟩ := cd
          have e1 : t = "type" := eq_of_beq g1
          have e2 : mro = Value.ref C :: .ref P :: PySem.HandSPX.veTail := beq_iff_eq.mp g2
          have e3 : n = "ValueError.__new__" := eq_of_beq g3
          have e4 : del = false := by
            cases del with
            | false => rfl
            | true => cases g4
          have e5 : hd = true := g5
          subst e1 e2 e3 e4 e5
          have hcl : PySem.W.clsIn K C = some { name := nm, bases := bs, mro := Value.ref C :: .ref P :: PySem.HandSPX.veTail, ns := ns, qualname := qn, hasDict := true, slotNames := sn, subclasses := sub, abstract := ab, collection := col, hasDel := false } := by
            unfold PySem.W.clsIn
            rw [e] <;> rfl
          have hsub : PySem.W.subIn K (.ref C) (.type "BaseException") = some true := by
            show PySem.W.mroIn K C (.type "BaseException") = some true
            unfold PySem.W.mroIn
            rw [hcl]
            rfl
          exact ⟨⟨⟨nm, qn, ns, bs, .ref P :: PySem.HandSPX.veTail, sn, sub, ab, col, od, k0, k1, k2, k3, k5, e, rfl⟩, He.eqO_ok h2, hsub, of_decide_eq_true h6, h7⟩, ⟨_, hcl, rfl⟩, He.eqO_ok h3, He.eqO_ok h4, by unfold PySem.W.hasDictIn; rw [hcl]; rfl, He.eqO_ok h5⟩
      | _ => cases h1
    | _ => cases dt <;> cases h1
end Kf
namespace Fw
open PySem PySem.Spec PyProof.Rows L2 Dz Vz
section
variable {X : Cx} {W : WX} {c : Cn} {nw : Bool} {e a b o : Expr} {es : List Expr} {pos : Pos} {f fa fb fo : EF D} {fs : EF (List D)}
theorem xv (i : Nat) {x : Str} (hN : X.N[i]? = some x := by rfl) (hv : Vis X.env.scope x := by first | exact Or.inl rfl | exact Or.inr (Or.inl rfl) | exact Or.inr (Or.inr rfl)) (hd : (x == ("__debug__" : Str)) = false := by decide) (hcd : (x == ("__classdict__" : Str)) = false := by decide) : PE X (.Name x pos) (rd c W (eV i)) := dx_v hN hv hd hcd
theorem xM (i : Nat) {x : Str} (hN : X.N[i]? = some x := by rfl) (hv : Vis X.env.scope x := by first | exact Or.inl rfl | exact Or.inr (Or.inl rfl) | exact Or.inr (Or.inr rfl)) (hd : (x == ("__debug__" : Str)) = false := by decide) (hcd : (x == ("__classdict__" : Str)) = false := by decide) : PE X (.Name x pos) (rm c W (eM i)) := dm_v hN hv hd hcd
theorem xP (i : Nat) {x : Str} (hN : X.N[i]? = some x := by rfl) (hv : Vis X.env.scope x := by first | exact Or.inl rfl | exact Or.inr (Or.inl rfl) | exact Or.inr (Or.inr rfl)) (hd : (x == ("__debug__" : Str)) = false := by decide) (hcd : (x == ("__classdict__" : Str)) = false := by decide) : PE X (.Name x pos) (rp c W (pV i)) := dp_v hN hv hd hcd
theorem xA (i : Nat) {x n : Str} {p : Pos} (hN : X.N[i]? = some x := by rfl) (hv : Vis X.env.scope x := by first | exact Or.inl rfl | exact Or.inr (Or.inl rfl) | exact Or.inr (Or.inr rfl)) (hd : (x == ("__debug__" : Str)) = false := by decide) (hcd : (x == ("__classdict__" : Str)) = false := by decide) (hb : attributeBase (.Name x p) n X.env (eval (.Name x p) X.env) = eval (.Name x p) X.env := by rfl) (hK : X.K = c.K := by rfl) : PE X (.Attribute (.Name x p) n pos) (rd c W (eAtV i n)) := dx_atV hN hv hd hcd hb hK
theorem xG (i : Nat) {x : Str} {p : Pos} (hs : PA X es (rg c W fs)) (hN : X.N[i]? = some x := by rfl) (hv : Vis X.env.scope x := by first | exact Or.inl rfl | exact Or.inr (Or.inl rfl) | exact Or.inr (Or.inr rfl)) (hd : (x == ("__debug__" : Str)) = false := by decide) (hcd : (x == ("__classdict__" : Str)) = false := by decide) (hst : starEach (.Name x p :: es) X.env = (false, eval (.Name x p) X.env) :: starEach es X.env := by rfl) : PA X (.Name x p :: es) (rg c W (eCons (eVm i) fs)) := dg_v hN hv hs hd hcd hst
/-- a module's int, string, tuple of flat things -/
theorem xgI {x : Str} {i : Int} (hm : ∃ t, c.mg x = some (.int i t)) (hg : Gl X x := by rfl) (hM : X.mg = c.mg := by rfl) (hdb : (x == ("__debug__" : Str)) = false := by decide) : PE X (.Name x pos) (rd c W (eC (.int i))) := by
  obtain ⟨t, e⟩ := hm
  exact dx_c (pe_glob (v := .int i) hg (by rw [hM]; exact e) ⟨_, rfl⟩ hdb) fun _ _ => .int i
theorem xgT {x : Str} {ds : List D} {g : Addr} (hm : c.mg x = some (.ref g) ∧ ∀ ha G, Dq c ha G (.ref g) (.tup ds)) (hg : Gl X x := by rfl) (hM : X.mg = c.mg := by rfl) (hdb : (x == ("__debug__" : Str)) = false := by decide) : PE X (.Name x pos) (rd c W (eC (.tup ds))) :=
  dx_c (pe_glob (v := .ref g) hg (by rw [hM]; exact hm.1) rfl hdb) hm.2
end
structure CT where
  x : Str
  as : List Str
  ms : List Str
structure Tb where
  fn : List He.DefD
  gl : List Str
  frs : List Str
  nI : List (Str × Int)
  nS : List (Str × Str)
  nT : List (Str × List He.Dv)
  cls : List CT
  bas : Str
  errs : List Str
  bare : List Str
  ini : List (Str × List Str)
  exm : List (Str × Str × Bool)
  kit : List (Str × Str × Bool)
  /-- class and special method -/
  spc : List (Str × Str)
  nes : List Str
  vcl : List Str
abbrev nb6 : List String := ["int", "bool", "str", "list", "tuple", "dict"]
abbrev six : List String := ["NoneType", "bool", "int", "str", "list", "tuple"]
def gtB (K : PySem.W.Frag) : Bool := He.eqO (PySem.W.specialIn K (.builtin "object.__class__") "__get__") (some (some (.builtin "getset_descriptor.__get__"))) && decide (PySem.W.takesIn K (.builtin "object.__class__") = some true)
def clsB (K : PySem.W.Frag) (t : CT) : Bool := (He.Fa.cls t.x).ok K && (t.as.all (fun f => (He.Fa.noat t.x f).ok K) && ((He.Fa.mkr t.x).ok K && (t.ms.all (fun m => (He.Fa.meth t.x m).ok K) && (He.eqO (PySem.W.findIn K (.ref (He.ga K t.x)) "__class__") (some (some (.builtin "object.__class__"))) && (decide (PySem.W.mroIn K (He.ga K t.x) (.type "object") = some true) && nb6.all (fun n => decide (PySem.W.kitOne K (.ref (He.ga K t.x)) (.type n) = some false)))))))
def iniB (K : PySem.W.Frag) (p : Str × List Str) : Bool := He.eqO (PySem.W.findIn K (.ref (He.ga K p.1)) "__init__") (some (some (.ref (He.ma K (He.ga K p.1) "__init__")))) && (decide (PySem.W.typeIn K (.ref (He.ma K (He.ga K p.1) "__init__")) = some (.type "function")) && p.2.all (fun f => He.eqO (PySem.W.findIn K (.ref (He.ga K p.1)) f) (some none)))
def spcB (K : PySem.W.Frag) (p : Str × Str) : Bool := He.eqO (PySem.W.findIn K (.ref (He.ga K p.1)) p.2) (some (some (.ref (He.ma K (He.ga K p.1) p.2)))) && PySem.W.isFn K (.ref (He.ma K (He.ga K p.1) p.2))
def gcdB (K : PySem.W.Frag) : Bool := He.eqO (PySem.W.nsIn K mainGlobals "gcd") (some (some (.builtin "math.gcd")))
def Tb.ck (t : Tb) (K : PySem.W.Frag) : Bool := t.gl.all (fun x => (He.Fa.glo x).ok K) && (t.frs.all (fun x => (He.Fa.free x).ok K) && (t.nI.all (fun p => (He.Fa.int p.1 p.2).ok K) && (t.nS.all (fun p => (He.Fa.str p.1 p.2).ok K) && (t.nT.all (fun p => He.tupB K p.1 p.2) && (t.cls.all (clsB K) && (t.errs.all (fun x => Kf.erB K (He.ga K t.bas) (He.ga K x)) && (t.bare.all (fun x => PySem.W.excIn K (He.ga K x) PySem.HandSPX.veTail "ValueError.__new__") && (t.ini.all (iniB K) &&
  (t.exm.all (fun p => decide (PySem.W.exmOne K (.ref (He.ga K p.1)) (.ref (He.ga K p.2.1)) = some p.2.2)) && (t.kit.all (fun p => decide (PySem.W.kitOne K (.ref (He.ga K p.1)) (.ref (He.ga K p.2.1)) = some p.2.2)) && (t.spc.all (spcB K) && (t.nes.all (fun x => He.eqO (PySem.W.findIn K (.ref (He.ga K x)) "__ne__") (some (some (.builtin "object.__ne__")))) && (t.vcl.all (fun x => six.all fun n => decide (PySem.W.kitOne K (.type n) (.ref (He.ga K x)) = some false)) && (gtB K && gcdB K))))))))))))))
structure Fs (t : Tb) (K : PySem.W.Frag) (mg : Str → Option Value) : Prop where
  says : He.SaysD [] t.fn K
  gl : ∀ (i : Nat) (x : Str), t.gl[i]? = some x → mg x = some (.ref (He.ga K x))
  fr : ∀ (i : Nat) (x : Str), t.frs[i]? = some x → mg x = none
  int : ∀ (i : Nat) (p : Str × Int), t.nI[i]? = some p → ∃ k, mg p.1 = some (.int p.2 k)
  str : ∀ (i : Nat) (p : Str × Str), t.nS[i]? = some p → ∃ k, mg p.1 = some (.str p.2 k)
  tup : ∀ (i : Nat) (p : Str × List He.Dv), t.nT[i]? = some p → ∀ H, SqT K H (He.ga K p.1) (p.2.map (He.Dv.v K))
  cls : ∀ (i : Nat) (p : CT), t.cls[i]? = some p → COk K (He.ga K p.x) ∧ Mk K (He.ga K p.x) (He.ma K (He.ga K p.x) "__init__")
  noat : ∀ (i : Nat) (p : CT), t.cls[i]? = some p → ∀ m ∈ p.as, NoAttr K (He.ga K p.x) m
  meth : ∀ (i : Nat) (p : CT), t.cls[i]? = some p → ∀ m ∈ p.ms, Meth K (He.ga K p.x) m (He.ma K (He.ga K p.x) m)
  er : ∀ (i : Nat) (x : Str), t.errs[i]? = some x → Kx.Er K (He.ga K t.bas) (He.ga K x)
  bare : ∀ (i : Nat) (x : Str), t.bare[i]? = some x → PySem.W.excIn K (He.ga K x) PySem.HandSPX.veTail "ValueError.__new__" = true
  ini : ∀ (i : Nat) (p : Str × List Str), t.ini[i]? = some p → iniB K p = true
  exm : ∀ p ∈ t.exm, PySem.W.exmOne K (.ref (He.ga K p.1)) (.ref (He.ga K p.2.1)) = some p.2.2
  kit : ∀ p ∈ t.kit, PySem.W.kitOne K (.ref (He.ga K p.1)) (.ref (He.ga K p.2.1)) = some p.2.2
  spc : ∀ (i : Nat) (p : Str × Str), t.spc[i]? = some p → PySem.W.findIn K (.ref (He.ga K p.1)) p.2 = some (some (.ref (He.ma K (He.ga K p.1) p.2))) ∧ PySem.W.isFn K (.ref (He.ma K (He.ga K p.1) p.2)) = true
  ne : ∀ (i : Nat) (x : Str), t.nes[i]? = some x → PySem.W.findIn K (.ref (He.ga K x)) "__ne__" = some (some (.builtin "object.__ne__"))
  vcl : ∀ x ∈ t.vcl, ∀ n ∈ six, PySem.W.kitOne K (.type n) (.ref (He.ga K x)) = some false
  gt : GtK K
  gcd : mg "gcd" = some (.builtin "math.gcd")
theorem Fs.of {t : Tb} {K : PySem.W.Frag} {h : Heap} {mg : Str → Option Value} (X : K.In h) (G : h.Ns mainGlobals mg) (k : t.ck K = true) (c : He.SaysD [] t.fn K) : Fs t K mg := by
  obtain ⟨k1, k⟩ := He.ba k
  obtain ⟨k2, k⟩ := He.ba k
  obtain ⟨k3, k⟩ := He.ba k
  obtain ⟨k4, k⟩ := He.ba k
  obtain ⟨k5, k⟩ := He.ba k
  obtain ⟨k6, k⟩ := He.ba k
  obtain ⟨k7, k⟩ := He.ba k
  obtain ⟨k8, k⟩ := He.ba k
  obtain ⟨k9, k⟩ := He.ba k
  obtain ⟨k10, k⟩ := He.ba k
  obtain ⟨k11, k⟩ := He.ba k
  obtain ⟨k12, k⟩ := He.ba k
  obtain ⟨k13, k⟩ := He.ba k
  obtain ⟨kv, k⟩ := He.ba k
  obtain ⟨k14, k15⟩ := He.ba k
  obtain ⟨g1, g2⟩ := He.ba k14
  have cc : ∀ (i : Nat) (p : CT), t.cls[i]? = some p → clsB K p = true := fun i p e => List.all_eq_true.mp k6 p (List.mem_of_getElem? e)
  refine ⟨c, fun i x e => He.glo_ok X G (List.all_eq_true.mp k1 x (List.mem_of_getElem? e)), fun i x e => He.free_ok X G (List.all_eq_true.mp k2 x (List.mem_of_getElem? e)), fun i p e => He.int_ok X G (List.all_eq_true.mp k3 p (List.mem_of_getElem? e)), fun i p e => He.str_ok X G (List.all_eq_true.mp k4 p (List.mem_of_getElem? e)),
    fun i p e H => He.tupB_ok (List.all_eq_true.mp k5 p (List.mem_of_getElem? e)) H, fun i p e => ?_, fun i p e m hm => ?_, fun i p e m hm => ?_, fun i x e => Kf.erB_ok (List.all_eq_true.mp k7 x (List.mem_of_getElem? e)), fun i x e => List.all_eq_true.mp k8 x (List.mem_of_getElem? e), fun i p e => List.all_eq_true.mp k9 p (List.mem_of_getElem? e),
    fun p hp => of_decide_eq_true (List.all_eq_true.mp k10 p hp), fun p hp => of_decide_eq_true (List.all_eq_true.mp k11 p hp), fun i p e => ?_, fun i x e => He.eqO_ok (List.all_eq_true.mp k13 x (List.mem_of_getElem? e)), fun x hx n hn => of_decide_eq_true (List.all_eq_true.mp (List.all_eq_true.mp kv x hx) n hn), ⟨He.eqO_ok g1, of_decide_eq_true g2⟩, PySem.W.mg_of X G (He.eqO_ok k15)⟩
  · obtain ⟨c1, z⟩ := He.ba (cc i p e)
    obtain ⟨c2, z⟩ := He.ba z
    obtain ⟨c3, z⟩ := He.ba z
    obtain ⟨c4, z⟩ := He.ba z
    obtain ⟨c5, z⟩ := He.ba z
    obtain ⟨c6, c7⟩ := He.ba z
    exact ⟨⟨He.cls_ok c1, He.eqO_ok c5, of_decide_eq_true c6, fun n hn => of_decide_eq_true (List.all_eq_true.mp c7 n hn)⟩, He.mkr_ok c3⟩
  · obtain ⟨c1, z⟩ := He.ba (cc i p e)
    obtain ⟨c2, z⟩ := He.ba z
    exact He.noat_ok (List.all_eq_true.mp c2 m hm)
  · obtain ⟨c1, z⟩ := He.ba (cc i p e)
    obtain ⟨c2, z⟩ := He.ba z
    obtain ⟨c3, z⟩ := He.ba z
    obtain ⟨c4, z⟩ := He.ba z
    exact He.meth_ok (List.all_eq_true.mp c4 m hm)
  · obtain ⟨c1, c2⟩ := He.ba (List.all_eq_true.mp k12 p (List.mem_of_getElem? e))
    exact ⟨He.eqO_ok c1, c2⟩
def msOf (l : List (Str × Bool)) : Str → Option Bool := fun n => l.lookup n
theorem lookup_mem {α : Type} : ∀ {l : List (Str × α)} {n : Str} {b : α}, l.lookup n = some b → (n, b) ∈ l
  | [], n, b, h => nomatch h
  | (m, x) :: l, n, b, h => by
    rw [List.lookup_cons] at h
    cases q : n == m with
    | true =>
      rw [q] at h
      cases h
      rw [eq_of_beq q]
      exact List.mem_cons_self
    | false =>
      rw [q] at h
      exact List.mem_cons_of_mem _ (lookup_mem h)
theorem ms_ok {t : Tb} {c : Cn} (T : Fs t c.K c.mg) {l : List (Str × Bool)} {y : Str} (h : l.all (fun p => t.gl.contains p.1 && t.exm.any (fun q => decide (q = (p.1, y, p.2)))) = true) (n : Str) (b : Bool) (C : Addr) (e : msOf l n = some b) (m : c.mg n = some (.ref C)) : PySem.W.exmOne c.K (.ref C) (.ref (He.ga c.K y)) = some b := by
  obtain ⟨h1, h2⟩ := He.ba (List.all_eq_true.mp h _ (lookup_mem e))
  obtain ⟨q, hq, eq⟩ := List.any_eq_true.mp h2
  have eq := of_decide_eq_true eq
  subst eq
  obtain ⟨i, hi⟩ := List.getElem?_of_mem (List.contains_iff_mem.mp h1)
  rw [T.gl i n hi] at m
  cases m
  exact T.exm _ hq
structure EA1 (P : Program) (w : World) (c : Cn) (base : Heap) (x f : Str) : Prop where
  ex : ∃ gP C fI fd, Er1 P w c base gP x f C fI fd
structure EA2 (P : Program) (w : World) (c : Cn) (base : Heap) (x f g : Str) : Prop where
  ex : ∃ gP C fI fd, Er2 P w c base gP x f g C fI fd
structure EA0 (c : Cn) (x : Str) : Prop where
  ex : ∃ gP C, Er0 c gP x C
section
variable {P : Program} {w : World} {K : PySem.W.Frag} {mg : Str → Option Value} {base : Heap} {t : Tb} {fd : FuncData} {x n n2 : Str} {params : Arguments} {body : List Stmt} {scope : Scope} {qual nm : Str} {kws : List (Str × V)}
theorem lenN {C : Addr} {n : Nat} {fl : List V → List (Str × V)} {vs : List V} {H : Hp} {Q : VK} {E : XK} (h : Ky.spIn C n fl vs H Q E) : vs.length = n + 1 := by
  obtain ⟨a, xs, rfl, hl, _⟩ := h
  rw [List.length_cons, hl]
theorem ea1 (T : Fs t K mg) (i j k : Nat) (h1 : t.errs[i]? = some x) (h2 : t.ini[j]? = some (x, [n])) (h3 : t.gl[k]? = some x) (G : FnOk P w K mg base CX0 1 (He.ma K (He.ga K x) "__init__") fd ["self", n] (Ky.spIn (He.ga K x) 1 (Ky.fl1 n))) (b : L2.Binds K fd ["self", n] []) : EA1 P w ⟨K, mg, none⟩ base x n := by
  obtain ⟨c1, c⟩ := He.ba (T.ini j _ h2)
  obtain ⟨c2, c3⟩ := He.ba c
  have c4 := He.eqO_ok (List.all_eq_true.mp c3 n List.mem_cons_self)
  exact ⟨_, _, _, fd, ⟨T.er i x h1, T.gl k x h3, c4, He.eqO_ok c1, of_decide_eq_true c2, G, b⟩⟩
theorem ea2 (T : Fs t K mg) (i j k : Nat) (h1 : t.errs[i]? = some x) (h2 : t.ini[j]? = some (x, [n, n2])) (h3 : t.gl[k]? = some x) (G : FnOk P w K mg base CX0 1 (He.ma K (He.ga K x) "__init__") fd ["self", n, n2] (Ky.spIn (He.ga K x) 2 (Ky.fl2 n n2))) (b : L2.Binds K fd ["self", n, n2] []) : EA2 P w ⟨K, mg, none⟩ base x n n2 := by
  obtain ⟨c1, c⟩ := He.ba (T.ini j _ h2)
  obtain ⟨c2, c3⟩ := He.ba c
  have c4 := He.eqO_ok (List.all_eq_true.mp c3 n List.mem_cons_self)
  have c5 := He.eqO_ok (List.all_eq_true.mp c3 n2 (List.mem_cons_of_mem _ List.mem_cons_self))
  exact ⟨_, _, _, fd, ⟨T.er i x h1, T.gl k x h3, c4, c5, He.eqO_ok c1, of_decide_eq_true c2, G, b⟩⟩
theorem ea0 (T : Fs t K mg) (i j k : Nat) (h1 : t.errs[i]? = some x) (h2 : t.bare[j]? = some x) (h3 : t.gl[k]? = some x) : EA0 ⟨K, mg, none⟩ x := ⟨_, _, ⟨T.er i x h1, T.gl k x h3, T.bare j x h2, (T.er i x h1).ox.kC⟩⟩
theorem noatI (T : Fs t K mg) (j : Nat) {l : List Str} (h2 : t.ini[j]? = some (x, l)) (hn : n ∈ l) : PySem.W.findIn K (.ref (He.ga K x)) n = some none := by
  obtain ⟨c1, c⟩ := He.ba (T.ini j _ h2)
  obtain ⟨c2, c3⟩ := He.ba c
  exact He.eqO_ok (List.all_eq_true.mp c3 n hn)
end
section
variable {X : Cx} {W : WX} {c : Cn} {nw : Bool} {e : Expr} {es : List Expr} {pos : Pos} {fs : EF (List D)} {x n g : Str} {p : Pos}
theorem xr1 (E : EA1 X.prog X.w c X.base x n) (tk : Takes X W) (hr : Room 2 X.A) (ha : PA X (e :: es) (ra c W fs)) (hc : X.calm = true := by rfl) (hg : Gl X x := by rfl) (hK : X.K = c.K := by rfl) (hM : X.mg = c.mg := by rfl)
    (hdb : (x == ("__debug__" : Str)) = false := by decide) (he : starEach (e :: es) X.env = (false, eval e X.env) :: starEach es X.env := by rfl) {pos2 : Pos} (hpl : (backTo pos (starEach es X.env)).any (·.1) = false := by rfl) : PS X (.Raise (some (.Call (.Name x p) (e :: es) [] pos)) none pos2) (rs c W nw (sRaise x (flD1 n) fs)) := by
  obtain ⟨gP, C, fI, fd, E⟩ := E.ex
  exact ds_raise1 E hc tk hr hg ha hK hM hdb he hpl
theorem xr2 (E : EA2 X.prog X.w c X.base x n g) (tk : Takes X W) (hr : Room 2 X.A) (ha : PA X (e :: es) (ra c W fs)) (hc : X.calm = true := by rfl) (hg : Gl X x := by rfl) (hK : X.K = c.K := by rfl) (hM : X.mg = c.mg := by rfl)
    (hdb : (x == ("__debug__" : Str)) = false := by decide) (he : starEach (e :: es) X.env = (false, eval e X.env) :: starEach es X.env := by rfl) {pos2 : Pos} (hpl : (backTo pos (starEach es X.env)).any (·.1) = false := by rfl) : PS X (.Raise (some (.Call (.Name x p) (e :: es) [] pos)) none pos2) (rs c W nw (sRaise x (flD2 n g) fs)) := by
  obtain ⟨gP, C, fI, fd, E⟩ := E.ex
  exact ds_raise2 E hc tk hr hg ha hK hM hdb he hpl
theorem xr0 (E : EA0 c x) (tk : Takes X W) (hc : X.calm = true := by rfl) (hg : Gl X x := by rfl) (hK : X.K = c.K := by rfl) (hM : X.mg = c.mg := by rfl)
    (hdb : (x == ("__debug__" : Str)) = false := by decide) {pos2 : Pos} : PS X (.Raise (some (.Call (.Name x p) [] [] pos)) none pos2) (rs c W nw (sRaise0 x)) := by
  obtain ⟨gP, C, E⟩ := E.ex
  exact ds_raise0 E hc tk hg hK hM hdb
end
end Fw
namespace Fw
open PySem PySem.Spec PyProof.Rows L2 Dz Vz
section
variable {X : Cx} {W : WX} {c : Cn} {nw : Bool} {e a b o iter elt tg : Expr} {es ifs : List Expr} {pos p : Pos} {f fa fb fo : EF D} {fs : EF (List D)} {ga : EF Bool} {s : Stmt} {u : SF} {ss : List Stmt}
/-- isinstance(e, C) for things at rest; ms: what is known of instances; bf: plain things are none -/
def eIsC (ms : Str → Option Bool) (bf : Bool) (f : EF D) : EF D := fun δ h => (f δ h).bind fun d h1 => Ex.of (match d with
  | .ins n _ => (ms n).map .bl
  | d => match tyS d with
    | some _ => if bf then some (.bl false) else none
    | none => none) h1
theorem dx_isC {t : Tb} {y : Str} {ms : List (Str × Bool)} {bf : Bool} {p1 : Pos} (T : Fs t c.K c.mg) (iy : Nat) (hy : t.gl[iy]? = some y) (hms : ms.all (fun p => t.gl.contains p.1 && t.kit.any (fun q => decide (q = (p.1, y, p.2)))) = true) (hbf : (!bf || t.vcl.contains y) = true) (hm : X.mg "isinstance" = none) (ha : PE X a (rd c W f)) (hg : Gl X "isinstance" := by rfl) (hgy : Gl X y := by rfl) (hK : X.K = c.K := by rfl) (hM : X.mg = c.mg := by rfl) (hdy : (y == ("__debug__" : Str)) = false := by decide)
    (s1 : starEach (a :: [.Name y p1]) X.env = (false, eval a X.env) :: starEach [.Name y p1] X.env := by rfl) (s2 : starEach (.Name y p1 :: []) X.env = (false, eval (.Name y p1) X.env) :: starEach [] X.env := by rfl) (hpl : (backTo pos (starEach [.Name y p1] X.env)).any (·.1) = false := by rfl) : PE X (.Call (.Name "isinstance" p) [a, .Name y p1] [] pos) (rd c W (eIsC (msOf ms) bf f)) :=
  pe_to (pe_callB call_isi hg hm PyProof.Rows.boot_isinstance (pa_cons ha (pa_cons (pe_glob (v := .ref (He.ga c.K y)) hgy (by rw [hM]; exact T.gl iy y hy) rfl hdy) pa_nil s2) s1) (by decide) (by decide) s1 hpl) fun σ H Q x => by
    obtain ⟨ha, G0, B, G, δ, h, st, p⟩ := x
    refine ⟨ha, G0, B, G, δ, h, st, post_imp (post_bind p) fun d h1 G1 H1 af p1 v dv => ?_⟩
    obtain ⟨z, e, q⟩ := post_of p1
    have key : ∀ b tt, z = .bl b → TyX c.K H1 v tt → PySem.W.kitOne c.K tt (.ref (He.ga c.K y)) = some b → rIsi X.K [v, .ref (He.ga c.K y)] H1 Q := fun b tt ez ty k => by
      subst ez
      rw [hK]
      exact ⟨v, _, tt, _, b, rfl, .own _, ty, k, q _ _ (.refl af.gh af.hd) _ (.bl b)⟩
    have plain : ∀ t0, tyS d = some t0 → (if bf then some (D.bl false) else none) = some z → rIsi X.K [v, .ref (He.ga c.K y)] H1 Q := fun t0 e0 e1 => by
      obtain ⟨hb, rfl⟩ := if_get e1
      obtain ⟨ty, hin⟩ := ty_dq (H := H1) af.gh dv e0
      rw [hb] at hbf
      exact key false _ rfl ty (T.vcl y (List.contains_iff_mem.mp (by simpa using hbf)) _ hin)
    cases dv with
    | ins k1 k2 k3 k4 =>
      obtain ⟨b, e1, rfl⟩ := map_get e
      obtain ⟨h1, h2⟩ := He.ba (List.all_eq_true.mp hms _ (lookup_mem e1))
      obtain ⟨r, hr, er⟩ := List.any_eq_true.mp h2
      have er := of_decide_eq_true er
      subst er
      obtain ⟨i, hi⟩ := List.getElem?_of_mem (List.contains_iff_mem.mp h1)
      have g := T.gl i _ hi
      rw [k1] at g
      cases g
      exact key b _ rfl (.base (.ins (af.gh _ _ k2) k3.cl k3.ca T.gt.hn T.gt.ht k3.mo)) (T.kit _ hr)
    | non => exact plain _ rfl e
    | bl b => exact plain _ rfl e
    | int i => exact plain _ rfl e
    | str x => exact plain _ rfl e
    | tup h1 h2 => exact plain _ rfl e
    | lst h1 h2 => exact plain _ rfl e
def kMin3 : List D → Option D
  | [.int i, .int j, .int k] => some (.int (let m := if j < i then j else i; if k < m then k else m))
  | _ => none
theorem three_of {ha : Option Addr} {G : Hp} {vs : List V} {d1 d2 d3 : D} (h : DqAll c ha G vs [d1, d2, d3]) : ∃ u v w, vs = [u, v, w] ∧ Dq c ha G u d1 ∧ Dq c ha G v d2 ∧ Dq c ha G w d3 := by
  cases h with
  | cons h t =>
    obtain ⟨v, w, rfl, h2, h3⟩ := two_of t
    exact ⟨_, v, w, rfl, h, h2, h3⟩
theorem nu_min2 (i j : Int) : nuMin2 (.int i) (.int j) = some (.int (if j < i then j else i)) := by
  show (some (decide (j < i))).map (fun c => if c = true then V.int j else V.int i) = _
  by_cases h : j < i
  · simp [h]
  · simp [h]
theorem k_min3 : CaD c (rNuC3 nuMin3) kMin3 := by
  intro ha G H ds d vs Q s dv e fin
  unfold kMin3 at e
  split at e <;> cases e
  obtain ⟨u, v, w, rfl, d1, d2, d3⟩ := three_of dv
  cases d1
  cases d2
  cases d3
  refine ⟨_, _, _, _, rfl, ?_, fin _ G H (Mv.refl s) (Same.refl _) (.int _)⟩
  unfold nuMin3
  rw [nu_min2, Option.bind_some, nu_min2]
section
variable {x y : Str} {pos' py : Pos} {scope : Scope} {own : List (Str × Nat)} {bind : D → DE → Option DE} {g : TG}
theorem sS (i : Nat) (hN : X.N.Nodup) (he : PE X e (rd c W f)) (hi : X.N[i]? = some x := by rfl) (hx : Loc X.env.scope x := by first | exact Or.inl rfl | exact Or.inr rfl) (hs : swapsWith e (some (.Name x pos')) pos.line X.env = pure false := by rfl) (hf : X.fn x = true ∨ X.env.scope.names.lookup x = some .local := by first | exact .inr rfl | exact .inl rfl | assumption) : PS X (.Assign [.Name x pos'] e pos) (rs c W nw (sSet i f)) := ds_set hN hi hx he hs hf
theorem sSN (i : Nat) (hN : X.N.Nodup) (he : PE X e (rn c W f)) (hi : X.N[i]? = some x := by rfl) (hx : Loc X.env.scope x := by first | exact Or.inl rfl | exact Or.inr rfl) (hs : swapsWith e (some (.Name x pos')) pos.line X.env = pure false := by rfl) (hf : X.fn x = true ∨ X.env.scope.names.lookup x = some .local := by first | exact .inr rfl | exact .inl rfl | assumption) : PS X (.Assign [.Name x pos'] e pos) (rs c W nw (sSet i f)) := ds_setN hN hi hx he hs hf
theorem sSW (i : Nat) (hN : X.N.Nodup) (he : PE X e (rw' c W f)) (hi : X.N[i]? = some x := by rfl) (hx : Loc X.env.scope x := by first | exact Or.inl rfl | exact Or.inr rfl) (hs : swapsWith e (some (.Name x pos')) pos.line X.env = pure false := by rfl) (hf : X.fn x = true ∨ X.env.scope.names.lookup x = some .local := by first | exact .inr rfl | exact .inl rfl | assumption) : PS X (.Assign [.Name x pos'] e pos) (rs c W nw (sSet i f)) := ds_setW hN hi hx he hs hf
theorem sA (i : Nat) {op : Operator} {ti : TIp} {k : D → D → Option D} (hr : OpD c ti k) (ho : PIp X op ti) (hN : X.N.Nodup) (he : PE X e (rd c W f)) (hi : X.N[i]? = some x := by rfl) (hx : Loc X.env.scope x := by first | exact Or.inl rfl | exact Or.inr rfl) (hf : X.fn x = true ∨ X.env.scope.names.lookup x = some .local := by first | exact .inr rfl | exact .inl rfl | assumption) :
    PS X (.AugAssign (.Name x pos') op e pos) (rs c W nw (sAug i k f)) := ds_aug hr hN hi hx he ho hf
/-- a loop's or a clause's own name -/
theorem gN (i : Nat) (hN : X.N.Nodup) (hi : X.N[i]? = some x := by rfl) (hx : Loc X.env.scope x := by first | exact Or.inl rfl | exact Or.inr rfl) (hf : X.fn x = true ∨ X.env.scope.names.lookup x = some .local := by first | exact .inr rfl | exact .inl rfl | assumption) : PG X (.Name x pos) (gName i) := pg_name hN hi hx hf
end
end
end Fw
namespace Fw
open PySem PySem.Spec PyProof.Rows L2 Dz Vz
theorem noat_of {t : Tb} {K : PySem.W.Frag} {mg : Str → Option Value} (T : Fs t K mg) (i : Nat) {p : CT} (hp : t.cls[i]? = some p) (hg : mg p.x = some (.ref (He.ga K p.x))) {m : Str} (hm : m ∈ p.as) {C : Addr} (e : mg p.x = some (.ref C)) : NoAttr K C m := by
  rw [hg] at e
  cases e
  exact T.noat i p hp m hm
abbrev NoNx (u : SF) : Prop := ∀ δ h δ' h', u δ h ≠ .nx δ' h'
theorem nx_seq {u v : SF} (k : NoNx v) : NoNx (sSeq u v) := fun δ h δ' h' e => by
  unfold sSeq at e
  cases q : u δ h with
  | nx δ1 h1 => rw [q] at e; exact k _ _ _ _ e
  | _ => rw [q] at e; cases e
theorem nx_ret {f : EF D} : NoNx (sRet f) := fun δ h δ' h' e => by
  unfold sRet at e
  cases q : f δ h <;> (rw [q] at e; cases e)
theorem nx_retV {i : Nat} : NoNx (sRetV i) := fun δ h δ' h' e => by
  unfold sRetV at e
  split at e <;> cases e
theorem nx_frz {i : Nat} {u : SF} (k : NoNx u) : NoNx (sFrz i u) := fun δ h δ' h' e => k _ _ _ _ e
theorem nx_if {g : EF Bool} {u v : SF} (k1 : NoNx u) (k2 : NoNx v) : NoNx (sIf g u v) := fun δ h δ' h' e => by
  unfold sIf at e
  cases q : g δ h with
  | ok b h1 =>
    rw [q] at e
    cases b with
    | true => exact k1 _ _ _ _ e
    | false => exact k2 _ _ _ _ e
  | _ => rw [q] at e; cases e
section
variable {P : Program} {w : World} {c : Cn} {base : Heap} {nw : Bool} {x qual : Str} {params : Arguments} {body : List Stmt} {scope : Scope} {dvs : List V} {kws : List (Str × V)} {f : Addr} {fd : FuncData} {N ps : List Str} {k n : Nat}
/-- a def of which nothing is known -/
theorem bad_def (F : FunD c.K x qual params body scope dvs kws f fd) (S : FnScope N ps scope) (hn : ps.length = n := by rfl) : FnOk P w c.K c.mg base (L2.CX P w) k f fd ps (spD c nw n fun _ _ => .bad) := by
  refine ⟨fun vs H Q E h => ?_, fun A outer s H args us vs Q E r e b v h => ?_⟩
  · obtain ⟨ha, G, ds, hh, hl, _, _, dv, _⟩ := h
    rw [dm_len dv, hl, hn]
  · obtain ⟨ha, G, ds, hh, hl, _, _, dv, fin⟩ := h
    exact fin.elim
end
structure ItA (P : Program) (w : World) (K : PySem.W.Frag) (mg : Str → Option Value) (C g : Addr) (fld : Str) : Prop where
  ex : ∃ fd ps, (∀ B : Heap, FnOk P w K mg B CX0 1 g fd ps (spIt K C fld B.objs.size)) ∧ Binds K fd ps []
section
variable {X : Cx} {W : WX} {c : Cn} {tg e : Expr} {f : EF D} {C g : Addr} {nm fld : Str}
theorem rd_iter {K : PySem.W.Frag} {n : Nat} {N : List Str} {vs : List V} {H : Hp} {Q : VK} {E : XK} (hN : N.length = 1) (h : spIt K C fld n vs H Q E) : tFld K (tVar 0) fld (start N vs) H fun v H1 => Wi.rIterT K n [v] H1 Q := by
  obtain ⟨a, dx, fs, l, xs, rfl, h1, h2, h3, h4, h5, h6⟩ := h
  exact ⟨.ref a, rfl, a, C, dx, fs, .ref l, rfl, h1, h2, h3, h4, l, xs, rfl, h5, h6⟩
theorem len_it {K : PySem.W.Frag} {n : Nat} {vs : List V} {H : Hp} {Q : VK} {E : XK} (h : spIt K C fld n vs H Q E) : vs.length = 1 := by
  obtain ⟨a, dx, fs, l, xs, rfl, _⟩ := h
  rfl
end
end Fw
namespace Fw
open PySem PySem.Spec PyProof.Rows L2 Dz Vz
end Fw
namespace Fw
open PySem PySem.Spec PyProof.Rows L2 Dz Vz
/-- a hand at a: its cells at c -/
structure HandAt (H : Hp) (a c : Addr) (cs : List Int) (p g t : Int) : Prop where
  l : H a = some (.lst [.ref c, .int p, .int g, .int t])
  c : H c = some (.lst (cs.map V.int))
  n : ∀ z ∈ cs, 0 ≤ z
  le : cs.length ≤ 63
  t0 : 0 ≤ t
  t1 : t < 2147483648
theorem HandAt.ne {H : Hp} {a c : Addr} {cs : List Int} {p g t : Int} (h : HandAt H a c cs p g t) : c ≠ a := fun z => by
  have e := h.l
  rw [← z, h.c] at e
  have e2 := HO.lst.inj (Option.some.inj e)
  cases cs with
  | nil => cases e2
  | cons y ys => cases e2
def spHand (K : PySem.W.Frag) : Sp := fun vs H Q _ => ∃ (s : Addr) (ns : List Int), vs = [.ref s] ∧ SqL K H s (ns.map V.int) ∧ ns.length ≤ 63 ∧
  ∀ (a c : Addr) (cs : List Int) (t : Int) (H' : Hp), Same H H' → HandAt H' a c cs 0 0 t → Q (.ref a) H'
structure HandOk (P : Program) (w : World) (K : PySem.W.Frag) (mg : Str → Option Value) (base : Heap) (g : Addr) : Prop where
  ex : ∃ fd, FnOk P w K mg base CX0 1 g fd ["_law_script"] (spHand K) ∧ Binds K fd ["_law_script"] []
  kp : PySem.W.keepIn K (.ref g) = true
/-- what a hand is at the start -/
def hand0 (cs : List Int) (t : Int) : D := .hl [.lst (cs.map D.int), .int 0, .int 0, .int t]
/-- the law's body, behind its hand, ends in True -/
def LawB (N : Nat) (u : SF) : Prop := ∀ (cs : List Int) (t : Int), (∀ z ∈ cs, 0 ≤ z) → cs.length ≤ 63 → 0 ≤ t → t < 2147483648 → ∃ h', u (none :: some .me :: List.replicate N none) (hand0 cs t) = .ret (.bl true) h'
def spLaw (K : PySem.W.Frag) : Sp := fun vs H Q _ => ∃ (s : Addr) (ns : List Int), vs = [.ref s] ∧ SqL K H s (ns.map V.int) ∧ ns.length ≤ 63 ∧ ∀ H', Q (.bl true) H'
theorem ownS_none {c : Cn} {ha : Option Addr} {G H : Hp} : ∀ (σ : L2.St), OwnS c ha G H σ (List.replicate σ.length none) []
  | [] => .nil
  | o :: σ => .non o (ownS_none σ)
theorem ints_dq {c : Cn} {ha : Option Addr} {G : Hp} : ∀ (cs : List Int), DqAll c ha G (cs.map V.int) (cs.map D.int)
  | [] => .nil
  | i :: cs => .cons (.int i) (ints_dq cs)
theorem law_read {c : Cn} {N : Nat} {u : SF} {W : WX} {E : XK} {vs : List V} {H : Hp} {Q : VK} {names : List Str} {CXE : XK} (hN : names.length = N + 2) (hu : LawB N u) (h : spLaw c.K vs H Q E) :
    tSeq (tAsg (tCall (spHand c.K) [] CXE (tCons (tVar 0) tNil)) (gName 1)) (rs c W false u) { nx := fun _ H' => Q .non H', rt := Q } (start names vs) H := by
  obtain ⟨s, ns, rfl, hS, hl, q⟩ := h
  refine ⟨.ref s, rfl, s, ns, rfl, hS, hl, fun a cc cs t H' sm hd => ?_⟩
  obtain ⟨h', e⟩ := hu cs t hd.n hd.le hd.t0 hd.t1
  have hG : Same (fun b => if b = a then none else H' b) H' := fun b o e => by
    replace e : (if b = a then none else H' b) = some o := e
    by_cases hb : b = a
    · rw [if_pos hb] at e; cases e
    · rw [if_neg hb] at e; exact e
  have hst : (start names [.ref s]).set 1 (some (.ref a)) = some (.ref s) :: some (.ref a) :: List.replicate N none := by
    unfold L2.start
    rw [hN]
    rfl
  show rs c W false u _ ((start names [.ref s]).set 1 (some (.ref a))) H'
  rw [hst]
  refine ⟨some a, fun b => if b = a then none else H' b, H', fun b => if b = a then none else H' b, none :: some .me :: List.replicate N none, hand0 cs t, ⟨⟨[], ?_, by simp, fun a z => nomatch z⟩, Mv.refl hG, fun _ _ _ e => e, .hand rfl (if_pos rfl) hd.l ?_, fun b e => by cases e; rw [hd.l]; exact fun z => nomatch z⟩, ?_⟩
  · refine .non _ (.me rfl ?_)
    have z := ownS_none (c := c) (ha := some a) (G := fun b => if b = a then none else H' b) (H := H') (List.replicate N none)
    rw [List.length_replicate] at z
    exact z
  · exact .cons (.lst (by show (if cc = a then none else H' cc) = _; rw [if_neg hd.ne]; exact hd.c) (ints_dq cs)) (.cons (.int _) (.cons (.int _) (.cons (.int _) .nil)))
  · rw [e]
    intro v G' H2 af res
    cases (show Dq c (some a) G' v (.bl true) from res)
    exact q H2
theorem len_law {K : PySem.W.Frag} {vs : List V} {H : Hp} {Q : VK} {E : XK} (h : spLaw K vs H Q E) : vs.length = 1 := by
  obtain ⟨s, ns, rfl, _⟩ := h
  rfl
end Fw
namespace Fw
open PySem PySem.Spec PyProof.Rows L2
theorem fn_calm0 {P : Program} {w : World} {K : PySem.W.Frag} {mg : Str → Option Value} {base : Heap} {k : Nat} {f : Addr} {fd : FuncData} {ps : List Str} (F : FnOk P w K mg base (L2.CX P w) k f fd ps (spLaw K)) : FnOk P w K mg base CX0 k f fd ps (spLaw K) := by
  have z := fn_calm F
  exact ⟨fun vs H Q E h => z.len vs H Q E h, fun A outer s H args us vs Q E r e b v h => z.run A outer s H args us vs Q E r e b v h⟩
end Fw
namespace Fw
open PySem PySem.Spec PyProof.Rows L2 Dz Vz
def seqP : PyData → Option (List PyData)
  | .list ds => some ds
  | .tuple ds => some ds
  | _ => none
def inP (x y : D) : Option Bool := match toPy x, toPy y with
  | some d, some p => match seqP p with
    | some ds => if SeqAt.shaped d && SeqAt.shaped p then some (ds.any fun z => PyData.eqv z d) else none
    | none => none
  | _, _ => none
def oInP (x y : D) : Option D := (inP x y).map .bl
def oNinP (x y : D) : Option D := (inP x y).map fun b => .bl (!b)
def rInP (K : PySem.W.Frag) (n : Bool) : R2 := fun x y H Q => ∃ d p ds, Dp K H x d ∧ Dp K H y p ∧ seqP p = some ds ∧ SeqAt.shaped d = true ∧ SeqAt.shaped p = true ∧ Q (.bl (n ^^ (ds.any fun z => PyData.eqv z d))) H
theorem room_in_shapedT {d : PyData} {ds : List PyData} {u : Nat} (sd : SeqAt.shaped d = true) (hu : u + 65 < cLine) : u + 1 + min (PyData.depthAll ds) d.depth < cLine := by
  unfold SeqAt.shaped at sd
  rw [Bool.and_eq_true, decide_eq_true_eq] at sd
  have := sd.2
  omega
section
variable {X : Cx}
theorem op_ninP (hu : X.A.units + 65 < cLine) : OpR X (compareOp .NotIn) (rInP X.K true) := by
  intro pins s σ H x y v u Q I rx ry h
  obtain ⟨d, p, ds, hd, he, es, sd, se, q⟩ := h
  rw [Bool.true_xor] at q
  obtain ⟨as, r1⟩ := Dp.reads I d x v hd rx
  obtain ⟨bs, r2⟩ := Dp.reads I p y u he ry
  cases p <;> cases es
  · exact SeqAt.notIn_list_reads r2 r1 (SeqAt.canLay_of_shaped se) (SeqAt.canLay_of_shaped sd) (room_in_shapedT sd hu) ⟨.bl _, H, I, rfl, q⟩
  · exact SeqAt.notIn_tuple_reads r2 r1 (SeqAt.canLay_of_shaped se) (SeqAt.canLay_of_shaped sd) (room_in_shapedT sd hu) ⟨.bl _, H, I, rfl, q⟩
end
theorem inP_get {x y : D} {b : Bool} (h : inP x y = some b) : ∃ d p ds, toPy x = some d ∧ toPy y = some p ∧ seqP p = some ds ∧ SeqAt.shaped d = true ∧ SeqAt.shaped p = true ∧ (ds.any fun z => PyData.eqv z d) = b := by
  unfold inP at h
  split at h
  · rename_i d p e1 e2
    split at h
    · rename_i ds e3
      split at h
      · rename_i s
        rw [Bool.and_eq_true] at s
        cases h
        exact ⟨d, p, ds, e1, e2, e3, s.1, s.2, rfl⟩
      · cases h
    · cases h
  · cases h
section
variable {X : Cx} {c : Cn}
theorem d_ninP : OpD c (rInP c.K true) oNinP := by
  intro ha G H x y d v w Q s dx dy q fin
  unfold oNinP at q
  cases e : inP x y with
  | none => rw [e] at q; cases q
  | some b =>
    rw [e] at q
    cases q
    obtain ⟨p1, p2, ds, e1, e2, e3, s1, s2, rfl⟩ := inP_get e
    refine ⟨p1, p2, ds, dp_of (dq_mono s dx) p1 e1, dp_of (dq_mono s dy) p2 e2, e3, s1, s2, ?_⟩
    rw [Bool.true_xor]
    exact fin _ G H (Mv.refl s) (Same.refl _) (.bl _)
theorem c_ninP (hu : X.A.units + 65 < cLine) (hK : X.K = c.K) : OpR X (compareOp .NotIn) (rInP c.K true) := by rw [← hK]; exact op_ninP hu
end
def rgB (a b : Int) : Bool := rgOk a && rgOk b
def eRg1 (mk : List D → D) (f : EF D) : EF D := fun δ h => (f δ h).bind fun y h1 => Ex.of (match y with
  | .int j => if rgB 0 j then some (mk (rgD 0 j.toNat)) else none
  | _ => none) h1
theorem rgB_ok {a b : Int} (h : rgB a b = true) : RgOk a b := by
  unfold rgB at h
  rw [Bool.and_eq_true] at h
  obtain ⟨x1, x2⟩ := rgOk_get h.1
  obtain ⟨x3, x4⟩ := rgOk_get h.2
  exact ⟨by omega, by omega, by omega, by omega, by omega⟩
end Fw
namespace L2
open PySem PySem.Spec
theorem Room.units65 {k : Nat} {A : Around} (r : Room k A) : A.units + 65 < cLine := by have := r.un; omega
end L2
namespace Fw
open PySem PySem.Spec PyProof.Rows L2 Dz Vz
def stGo (k : EF Pl) (fi : EF D) (y : D) : SF := fun δ h => (k δ h).fl δ fun p h2 => (fi δ h2).fl δ fun z h3 => match plD δ p, z with
  | some (.hl ds), .int i => match ixN ds.length i with
    | some j => .nx (plS δ p (.hl (ds.set j y))) h3
    | none => .bad
  | _, _ => .bad
section
variable {X : Cx} {W : WX} {c : Cn} {nw : Bool} {e a b a1 b1 a2 b2 e1 e2 : Expr} {es : List Expr} {pos : Pos} {te : TE} {f fa fb fc f1 f2 : EF D} {k k1 k2 : EF Pl} {u : SF} {fs : EF (List D)}
def sSwap (k1 : EF Pl) (f1 : EF D) (k2 : EF Pl) (f2 : EF D) (fs : EF (List D)) : SF := fun δ h => (fs δ h).fl δ fun ds h1 => match ds with
  | [x, y] => (stGo k1 f1 x δ h1).bind (stGo k2 f2 y)
  | _ => .bad
end
end Fw
namespace Fw
open PySem PySem.Spec PyProof.Rows L2 Dz Vz
def flatD : D → Bool
  | .non => true
  | .bl _ => true
  | .int _ => true
  | .str _ => true
  | _ => false
def forgetO : Option D → Option D
  | some d => if d.fr then some d else none
  | none => none
def lendS (is : List Nat) (δ : DE) : DE := (is.foldr frzS δ).map forgetO
def eLend (is : List Nat) (f : EF D) : EF D := fun δ h => match f (lendS is δ) .non with
  | .ok d _ => if flatD d then .ok d h else .bad
  | _ => .bad
section
variable {X : Cx} {W : WX} {c : Cn} {e : Expr} {f : EF D} {ha hb : Option Addr} {G G0 B H G' H' : Hp} {σ : L2.St} {δ : DE} {h : D}
theorem ownS_forget : ∀ {σ : L2.St} {δ : DE} {fp : List Addr}, OwnS c ha G H σ δ fp → OwnS c none G H σ (δ.map forgetO) []
  | _, _, _, .nil => .nil
  | _, _, _, .non o t => .non o (ownS_forget t)
  | _, _, _, .me e t => .non _ (ownS_forget t)
  | _, _, _, .ex e m x t => .non _ (ownS_forget t)
  | _, _, _, .some (d := d) ho t => by
    rw [List.map_cons]
    unfold forgetO
    by_cases k : d.fr = true
    · simp only [k, if_true]
      exact .some (f := []) (fp := []) (.frz (dq_ha (own_fr ho k).1)) (ownS_forget t)
    · simp only [k, if_false]
      exact .non _ (ownS_forget t)
theorem Sta.frzs : ∀ (is : List Nat), Sta c ha G0 B G H σ δ h → ∃ G', Sta c ha G0 B G' H σ (is.foldr frzS δ) h ∧ Same G G'
  | [], st => ⟨G, st, Same.refl _⟩
  | i :: is, st => by
    obtain ⟨G1, st1, s1⟩ := Sta.frzs is st
    obtain ⟨G2, st2, s2⟩ := st1.frz i
    exact ⟨G2, st2, s1.trans s2⟩
end
end Fw
namespace Pd
open PySem PySem.Spec Fw
def tup_OFFERED : List D := [.int 0, .int 2, .int 3, .int 5, .int 7, .int 11, .int 13]
def F_is_whole : Fn := runF 3 (sSeq (sIf (eOr (eNot (eTru (eIs "int" (eV 0)))) (eTru (eIs "bool" (eV 0)))) (sRet (eC (.bl false))) sNil)
    (sRet (eB (eAnd (eT (eB (eOr (eT (eOp oIsN (eV 1) (eC .non))) (eT (eOp oGe (eV 0) (eV 1)))))) (eT (eB (eOr (eT (eOp oIsN (eV 2) (eC .non))) (eT (eOp oLe (eV 0) (eV 2))))))))))
def F_is_sequence : Fn := runF 1 (sRet (eIs2 "list" "tuple" (eV 0)))
def F_is_ratio : Fn := runF 3 (sSeq (sIf (eOr (eNot (eTru (eIs "tuple" (eV 0)))) (eT (eOp oNe (eBi kLen (eCons (eV 0) eNil)) (eC (.int 2))))) (sRet (eC (.bl false))) sNil)
    (sSeq (sAsg (bTp [(bNm 1), (bNm 2)]) (eV 0))
    (sRet (eB (eAnd (eT (eCall 3 F_is_whole [.non, .non] (eCons (eVm 1) eNil))) (eAnd (eT (eCall 3 F_is_whole [.non] (eCons (eVm 2) (eCons (eC (.int 1)) eNil)))) (eT (eOp oEq (eBi kGcd (eCons (eV 1) (eCons (eV 2) eNil))) (eC (.int 1))))))))))
def F_in_lowest_terms : Fn := runF 3 (sSeq (sSet 2 (eBi kGcd (eCons (eV 0) (eCons (eV 1) eNil))))
    (sSeq (sIf (eT (eOp oLt (eV 1) (eC (.int 0)))) (sSet 2 (eUn oNeg (eV 2))) sNil)
    (sRet (eTup (eCons (eOp oDiv (eV 0) (eV 2)) (eCons (eOp oDiv (eV 1) (eV 2)) eNil))))))
def F_ratio_times : Fn := runF 2 (sRet (eCall 2 F_in_lowest_terms [] (eCons (eOp oMul (eOp oIx (eV 0) (eC (.int 0))) (eOp oIx (eV 1) (eC (.int 0)))) (eCons (eOp oMul (eOp oIx (eV 0) (eC (.int 1))) (eOp oIx (eV 1) (eC (.int 1)))) eNil))))
def F_ratio_over : Fn := runF 2 (sSeq (sIf (eT (eOp oEq (eOp oIx (eV 1) (eC (.int 0))) (eC (.int 0)))) (sRaise0 "DividedByNought") sNil)
    (sRet (eCall 2 F_in_lowest_terms [] (eCons (eOp oMul (eOp oIx (eV 0) (eC (.int 0))) (eOp oIx (eV 1) (eC (.int 1)))) (eCons (eOp oMul (eOp oIx (eV 0) (eC (.int 1))) (eOp oIx (eV 1) (eC (.int 0)))) eNil)))))
def F_undone_rest : Fn := runF 3 (sSeq (sFor (iRg rg2 (eCons (eC (.int 1)) (eCons (eV 1) eNil))) (bNm 2) (sIf (eT (eOp oEq (eOp oMod (eOp oMul (eV 0) (eV 2)) (eV 1)) (eC (.int 1)))) (sRet (eV 2)) sNil))
    (sRaise0 "DividedByNought"))
def F_Figures_over : Fn := runF 3 (sSeq (sIf (eT (eOp oEq (eAtV 0 "prime") (eC (.int 0)))) (sRet (eCall 2 F_ratio_over [] (eCons (eVm 1) (eCons (eVm 2) eNil)))) sNil)
    (sRet (eOp oMod (eOp oMul (eV 1) (eCall 2 F_undone_rest [] (eCons (eVm 2) (eCons (eAtV 0 "prime") eNil)))) (eAtV 0 "prime"))))
def F_Figures_times : Fn := runF 3 (sSeq (sIf (eT (eOp oEq (eAtV 0 "prime") (eC (.int 0)))) (sRet (eCall 2 F_ratio_times [] (eCons (eVm 1) (eCons (eVm 2) eNil)))) sNil)
    (sRet (eOp oMod (eOp oMul (eV 1) (eV 2)) (eAtV 0 "prime"))))
def F_Figures_is_number : Fn := runF 2 (sSeq (sIf (eT (eOp oEq (eAtV 0 "prime") (eC (.int 0)))) (sRet (eCall 1 F_is_ratio [] (eCons (eVm 1) eNil))) sNil)
    (sRet (eCall 3 F_is_whole [] (eCons (eVm 1) (eCons (eC (.int 0)) (eCons (eOp oSub (eAtV 0 "prime") (eC (.int 1))) eNil))))))
def F_is_point : Fn := runF 2 (sRet (eB (eOr (eT (eMeth "Figures" "is_number" 2 F_Figures_is_number [] (eV 0) (eCons (eVm 1) eNil))) (eT (eOp oEq (eV 1) (eC (.str "last")))))))
def F_check_points : Fn := runF 6 (sSeq (sIf (eOr (eNot (eTru (eCall 1 F_is_sequence [] (eCons (eVm 1) eNil)))) (eT (eOp oNe (eBi kLen (eCons (eV 1) eNil)) (eV 2)))) (sRaise "BadPoints" (flD1 "index") (eCons (eC (.int 0)) eNil)) sNil)
    (sSeq (sFor (iRg kEnum (eCons (eV 1) eNil)) (bTp [(bNm 4), (bNm 5)]) (sSeq (sIf (eOr (eNot (eTru (eCall 2 F_is_point [] (eCons (eVm 0) (eCons (eVm 5) eNil))))) (eT (eOp oInP (eV 5) (eFz (eSl (eV 1) eNo (eOpt (eV 4))))))) (sRaise "BadPoints" (flD1 "index") (eCons (eV 4) eNil)) sNil)
    (sIf (eAnd (eT (eOp oEq (eV 5) (eC (.str "last")))) (eNot (eTru (eV 3)))) (sRaise "BadPoints" (flD1 "index") (eCons (eV 4) eNil)) sNil)))
    (sRet (eBi kTup (eCons (eV 1) eNil)))))
def F_Figures___init__ : Fn := runF 2 (sSeq (sIf (eOr (eNot (eTru (eCall 3 F_is_whole [.non, .non] (eCons (eVm 1) eNil)))) (eT (eOp oNinP (eV 1) (eC (.tup tup_OFFERED))))) (sRaise "BadFigures" (flD1 "prime") (eCons (eV 1) eNil)) sNil)
    (sSeq (sAt "Figures" 0 "prime" (eV 1))
    (sSeq (sAt "Figures" 0 "zero" (eIf (eT (eOp oEq (eV 1) (eC (.int 0)))) (eTup (eCons (eC (.int 0)) (eCons (eC (.int 1)) eNil))) (eC (.int 0))))
    (sAt "Figures" 0 "one" (eIf (eT (eOp oEq (eV 1) (eC (.int 0)))) (eTup (eCons (eC (.int 1)) (eCons (eC (.int 1)) eNil))) (eC (.int 1)))))))
def F__law_mixed : Fn := runF 4 (sSeq (sSet 2 (eOp oMod (eBi kInt (eCons (eOp oAdd (eOp oAdd (eOp oMul (eV 0) (eC (.int 39373))) (eOp oMul (eV 1) (eC (.int 6151)))) (eC (.int 50021))) eNil)) (eC (.int 2147483399))))
    (sSeq (sSet 3 (eOp oMod (eBi kInt (eCons (eOp oAdd (eOp oAdd (eOp oMul (eV 2) (eV 2)) (eOp oMul (eV 1) (eC (.int 81071)))) (eOp oDiv (eV 2) (eC (.int 137)))) eNil)) (eC (.int 2147483629))))
    (sRet (eOp oDiv (eBi kInt (eCons (eOp oMod (eBi kInt (eCons (eOp oAdd (eOp oMul (eV 3) (eC (.int 62089))) (eOp oDiv (eV 2) (eC (.int 11)))) eNil)) (eC (.int 2147483587))) eNil)) (eC (.int 64))))))
def F__law_take : Fn := runF 4 (sSeq (sIf (eAnd (eT (eOp oEq (eIxM 0 (eC (.int 2))) (eC (.int 0)))) (eT (eOp oLt (eIxM 0 (eC (.int 1))) (eBi kLen (eCons (eIxM 0 (eC (.int 0))) eNil))))) (sSeq (sSet 2 (eOp oIx (eIxM 0 (eC (.int 0))) (eIxM 0 (eC (.int 1)))))
    (sSeq (sStM 0 (eC (.int 1)) (eOp oAdd (eIxM 0 (eC (.int 1))) (eC (.int 1))))
    (sSeq (sIf (eT (eOp oLt (eV 2) (eOp oPow (eC (.int 10)) (eC (.int 18))))) (sRet (eOp oMod (eBi kInt (eCons (eCall 2 F__law_mixed [] (eCons (eOp oMod (eBi kInt (eCons (eV 2) eNil)) (eC (.int 2147483399))) (eCons (eIxM 0 (eC (.int 1))) eNil))) eNil)) (eV 1))) sNil)
    (sStM 0 (eC (.int 2)) (eV 2))))) sNil)
    (sSeq (sIf (eT (eOp oGt (eIxM 0 (eC (.int 2))) (eC (.int 0)))) (sSeq (sSet 3 (eIxM 0 (eC (.int 2))))
    (sSeq (sStM 0 (eC (.int 2)) (eOp oDiv (eBi kInt (eCons (eV 3) eNil)) (eV 1)))
    (sRet (eOp oMod (eBi kInt (eCons (eV 3) eNil)) (eV 1))))) sNil)
    (sSeq (sStM 0 (eC (.int 3)) (eOp oMod (eBi kInt (eCons (eOp oAdd (eIxM 0 (eC (.int 3))) (eC (.int 1))) eNil)) (eC (.int 2147483549))))
    (sRet (eOp oMod (eBi kInt (eCons (eCall 2 F__law_mixed [] (eCons (eIxM 0 (eC (.int 3))) (eCons (eIxM 0 (eC (.int 1))) eNil))) eNil)) (eV 1))))))
def F__law_gcd : Fn := runF 6 (sSeq (sSet 2 (eBi kAbs (eCons (eV 0) eNil)))
    (sSeq (sSet 3 (eBi kAbs (eCons (eV 1) eNil)))
    (sSeq (sFor (iRg rg1 (eCons (eC (.int 60000)) eNil)) (bNm 4) (sSeq (sIf (eT (eOp oEq (eV 3) (eC (.int 0)))) (sRet (eV 2)) sNil)
    (sSeq (sSet 5 (eOp oMod (eBi kInt (eCons (eV 2) eNil)) (eV 3)))
    (sSeq (sSet 2 (eV 3))
    (sSet 3 (eV 5))))))
    (sRet (eC (.int 1))))))
def F__law_ratio : Fn := runF 3 (sSeq (sSet 2 (eCall 2 F__law_gcd [] (eCons (eVm 0) (eCons (eVm 1) eNil))))
    (sSeq (sIf (eT (eOp oLt (eV 1) (eC (.int 0)))) (sSet 2 (eUn oNeg (eV 2))) sNil)
    (sRet (eTup (eCons (eOp oDiv (eV 0) (eV 2)) (eCons (eOp oDiv (eV 1) (eV 2)) eNil))))))
def F__law_num : Fn := runF 2 (sSeq (sIf (eT (eOp oEq (eV 0) (eC (.int 0)))) (sRet (eTup (eCons (eV 1) (eCons (eC (.int 1)) eNil)))) sNil)
    (sRet (eOp oMod (eBi kInt (eCons (eV 1) eNil)) (eV 0))))
def F__law_plus : Fn := runF 3 (sSeq (sIf (eT (eOp oEq (eV 0) (eC (.int 0)))) (sSeq (sIf (eAnd (eT (eOp oEq (eOp oIx (eV 1) (eC (.int 1))) (eC (.int 1)))) (eT (eOp oEq (eOp oIx (eV 2) (eC (.int 1))) (eC (.int 1))))) (sRet (eTup (eCons (eOp oAdd (eOp oIx (eV 1) (eC (.int 0))) (eOp oIx (eV 2) (eC (.int 0)))) (eCons (eC (.int 1)) eNil)))) sNil)
    (sRet (eCall 2 F__law_ratio [] (eCons (eOp oAdd (eOp oMul (eOp oIx (eV 1) (eC (.int 0))) (eOp oIx (eV 2) (eC (.int 1)))) (eOp oMul (eOp oIx (eV 2) (eC (.int 0))) (eOp oIx (eV 1) (eC (.int 1))))) (eCons (eOp oMul (eOp oIx (eV 1) (eC (.int 1))) (eOp oIx (eV 2) (eC (.int 1)))) eNil))))) sNil)
    (sRet (eOp oMod (eBi kInt (eCons (eOp oAdd (eV 1) (eV 2)) eNil)) (eV 0))))
def F__law_times : Fn := runF 3 (sSeq (sIf (eT (eOp oEq (eV 0) (eC (.int 0)))) (sSeq (sIf (eAnd (eT (eOp oEq (eOp oIx (eV 1) (eC (.int 1))) (eC (.int 1)))) (eT (eOp oEq (eOp oIx (eV 2) (eC (.int 1))) (eC (.int 1))))) (sRet (eTup (eCons (eOp oMul (eOp oIx (eV 1) (eC (.int 0))) (eOp oIx (eV 2) (eC (.int 0)))) (eCons (eC (.int 1)) eNil)))) sNil)
    (sRet (eCall 2 F__law_ratio [] (eCons (eOp oMul (eOp oIx (eV 1) (eC (.int 0))) (eOp oIx (eV 2) (eC (.int 0)))) (eCons (eOp oMul (eOp oIx (eV 1) (eC (.int 1))) (eOp oIx (eV 2) (eC (.int 1)))) eNil))))) sNil)
    (sRet (eOp oMod (eBi kInt (eCons (eOp oMul (eV 1) (eV 2)) eNil)) (eV 0))))
def F__law_less : Fn := runF 3 (sSeq (sIf (eT (eOp oEq (eV 0) (eC (.int 0)))) (sRet (eCall 3 F__law_plus [] (eCons (eVm 0) (eCons (eVm 1) (eCons (eTup (eCons (eUn oNeg (eOp oIx (eV 2) (eC (.int 0)))) (eCons (eOp oIx (eV 2) (eC (.int 1))) eNil))) eNil))))) sNil)
    (sRet (eOp oMod (eBi kInt (eCons (eOp oSub (eV 1) (eV 2)) eNil)) (eV 0))))
def F__law_over : Fn := runF 5 (sSeq (sIf (eT (eOp oEq (eV 0) (eC (.int 0)))) (sRet (eCall 2 F__law_ratio [] (eCons (eOp oMul (eOp oIx (eV 1) (eC (.int 0))) (eOp oIx (eV 2) (eC (.int 1)))) (eCons (eOp oMul (eOp oIx (eV 1) (eC (.int 1))) (eOp oIx (eV 2) (eC (.int 0)))) eNil)))) sNil)
    (sSeq (sSet 3 (eV 1))
    (sSeq (sFor (iRg rg1 (eCons (eOp oSub (eV 0) (eC (.int 2))) eNil)) (bNm 4) (sSet 3 (eOp oMod (eBi kInt (eCons (eOp oMul (eV 3) (eV 2)) eNil)) (eV 0))))
    (sRet (eV 3)))))
def F__law_figures : Fn := runF 1 (sRet (eOp oIx (eTup (eCons (eC (.int 0)) (eCons (eC (.int 5)) (eCons (eC (.int 3)) (eCons (eC (.int 7)) (eCons (eC (.int 0)) (eCons (eC (.int 5)) (eCons (eC (.int 2)) (eCons (eC (.int 13)) (eCons (eC (.int 5)) (eCons (eC (.int 3)) (eCons (eC (.int 0)) (eCons (eC (.int 11)) eNil))))))))))))) (eCall 2 F__law_take [] (eCons (eVm 0) (eCons (eC (.int 12)) eNil)))))
def F__law_numbers : Fn := runF 4 (sSeq (sIf (eOr (eNot (eTru (eIs "tuple" (eV 1)))) (eT (eOp oNe (eBi kLen (eCons (eV 1) eNil)) (eV 2)))) (sRet (eC (.bl false))) sNil)
    (sSeq (sFor (iSeq (eV 1)) (bNm 3) (sIf (eT (eOp oGt (eV 0) (eC (.int 0)))) (sIf (eOr (eNot (eTru (eIs "int" (eV 3)))) (eOr (eTru (eIs "bool" (eV 3))) (eNot (eT (eCh oLe oLt (eC (.int 0)) (eV 3) (eV 0)))))) (sRet (eC (.bl false))) sNil) (sIf (eOr (eNot (eTru (eIs "tuple" (eV 3)))) (eT (eOp oNe (eBi kLen (eCons (eV 3) eNil)) (eC (.int 2))))) (sRet (eC (.bl false))) (sIf (eOr (eNot (eTru (eIs "int" (eOp oIx (eV 3) (eC (.int 0)))))) (eOr (eNot (eTru (eIs "int" (eOp oIx (eV 3) (eC (.int 1)))))) (eT (eOp oLt (eOp oIx (eV 3) (eC (.int 1))) (eC (.int 1)))))) (sRet (eC (.bl false))) (sIf (eOr (eTru (eIs "bool" (eOp oIx (eV 3) (eC (.int 0))))) (eOr (eTru (eIs "bool" (eOp oIx (eV 3) (eC (.int 1))))) (eT (eOp oNe (eCall 2 F__law_gcd [] (eCons (eOp oIx (eV 3) (eC (.int 0))) (eCons (eOp oIx (eV 3) (eC (.int 1))) eNil))) (eC (.int 1)))))) (sRet (eC (.bl false))) sNil)))))
    (sRet (eC (.bl true)))))
end Pd
namespace En
open PySem PySem.Spec PyProof.Rows L2 ItX
open Sem (wp)
open AutoSeq1 (wpAny_loadPart')
theorem new_enumO {prog : Program} {w : World} (x : Addr) :
    MeetsIn prog w (Builtin.«enumerate.__new__» ⟨[.type "enumerate", .ref x], []⟩) fun A R s =>
      wpAny (model prog w) A.in1 (pyIter (.ref x)) (fun v s1 => R (.ok (.ret (.ref s1.heap.objs.size))) { s1 with heap := s1.heap.push { cls := .type "enumerate", data := .fields #[.none, .bool false, v, rawInt 0, .none, .none] } }) (fun e s1 => R (.error e) s1) s :=
  .of_wp fun A R s h => by
    obtain ⟨hp, g, d, tk, os⟩ := s
    have sub := sub_enumerate
    have key : ∀ {Q : Value → Shared → Prop} {E : Value → Shared → Prop}, (∀ v s1, R (.ok (.ret (.ref s1.heap.objs.size))) { s1 with heap := s1.heap.push { cls := .type "enumerate", data := .fields #[.none, .bool false, v, rawInt 0, .none, .none] } } → Q v s1) → (∀ e s1, R (.error e) s1 → E e s1) → wpAny (model prog w) A.in1 (pyIter (.ref x)) Q E ⟨hp, g, d, tk, os⟩ := fun hq he => wpAny_mono h hq he
    wp_walk using key
    refine wpAny_stack_any fun st => wpAny_pure ?_
    split
    · rename_i c _ _ _ _ _
      cases (c == Value.type "enumerate")
      all_goals
        wp_walk using key
        all_goals first
          | exact fun e s1 he => he
          | (intro v s1 hv
             obtain ⟨hp1, g1, d1, tk1, os1⟩ := s1
             wp_walk
             exact ⟨_, rfl, hv⟩)
    · wp_walk using key
      all_goals first
        | exact fun e s1 he => he
        | (intro v s1 hv
           obtain ⟨hp1, g1, d1, tk1, os1⟩ := s1
           wp_walk
           exact ⟨_, rfl, hv⟩)
/-- enumerate(x), x with an iterator of its own: what its iterator is, is asked first -/
theorem call_enumO {prog : Program} {w : World} {A : Around} {E : Value → Shared → Prop} {s : Shared} {x : Addr} {Q : Value → Shared → Prop}
    (h : wpAny (model prog w) A.in1.in1 (pyIter (.ref x)) (fun v s1 => Q (.ref s1.heap.objs.size) { s1 with heap := s1.heap.push { cls := .type "enumerate", data := .fields #[.none, .bool false, v, rawInt 0, .none, .none] } }) E s) :
    wpAny (model prog w) A (call (.type "enumerate") [.ref x]) Q E s := by
  refine callType_newIn F.called_enumerate (by decide) (F.typeCall_enumerate_1 _) (F.newCall_enumerate_1 _) (fun obj => F.args_object_init_2 obj _) F.entry_enumerate_new (new_enumO x) ?_
  exact wpAny_mono h (fun v s1 hv => ⟨⟨_, Heap.get?_push_size _ rfl, rfl⟩, hv⟩) fun e s1 he => he
/-- for (i, x) in enumerate(an instance): its own iterator over a tuple -/
def iEnumO (K : PySem.W.Frag) (C : Addr) (sp : Nat → Sp) (ta : TA) : TI := fun σ H R => ta σ H fun vs H1 => ∃ a dx fs l, vs = [.ref a] ∧ H1 a = some (.ins C dx fs) ∧ (∃ xs, SqT K H1 l xs) ∧
  (∀ n, sp n [.ref a] H1 (fun v H2 => ∃ it, v = .ref it ∧ H1 it = none ∧ n ≤ it ∧ H2 = upd H1 it (Wi.ItT l it)) fun _ _ _ => False) ∧ R (Gn.IteT K l) H1
theorem pi_enumO {X : Cx} {e : Expr} {ta : TA} {C fi : Addr} {fdI : FuncData} {psI : List Str} {k : Nat} {sp : Nat → Sp} {p pos tpos : Pos} {elts : List Expr} {kk : Nat} (hc : Wi.It1 X.K C fi) (FI : ∀ B : Heap, FnOk X.prog X.w X.K X.mg B CX0 k fi fdI psI (sp B.objs.size)) (bI : Binds X.K fdI psI []) (hr : Room (k + 2) X.A) (hg : Gl X "enumerate") (hm : X.mg "enumerate" = none) (ha : PA X [e] ta) (hs : starEach [e] X.env = [(false, eval e X.env)] := by rfl) :
    PI X (.Tuple elts kk tpos) (.Call (.Name "enumerate" p) [e] [] pos) (iEnumO X.K C sp ta) := by
  constructor
  intro pins s σ H R I h
  refine Call_ (ld_blt I hg hm boot_enumerate (PyProof.Rows.callWith_type1 (thn (ha.run pos pins s σ H _ I h) ?_) hs rfl))
  rintro us s1 ⟨vs, H1, I1, r1, a, dx, fs, l, rfl, hA, ⟨xs, hl⟩, hsp, q⟩
  obtain ⟨u, rfl, ru⟩ : ∃ u, us = [u] ∧ RelV (.ref a) u := by
    cases r1 with
    | cons r rr =>
      cases rr
      exact ⟨_, rfl, r⟩
  cases (show u = Value.ref a from ru)
  refine call_enumO ?_
  obtain ⟨mA, J, _⟩ := ins_get I1.hok hA
  obtain ⟨od, J, _⟩ := J.look
  obtain ⟨m0, hF⟩ := I1.fr
  refine PySem.W.owit_iter hF I1.ok.mod.kin J hc.it hc.itF ?_
  obtain ⟨G, g1, g2⟩ := Wi.pad_heap X.base (n := s1.heap.objs.size) (Nat.le_trans I1.ok.bsz I1.sz)
  have e1 : Env0 X.prog X.w X.K X.mg X.base X.A.in1.in1 X.stack s1 H1 := I1.env0.in1.in1
  have e0 := Wi.env_pad e1 g1 (Nat.le_of_eq g2)
  have hspG := hsp G.objs.size
  have hlen := (FI G).len _ _ _ _ hspG
  have r2 : Vals [V.ref a] [Value.ref a] := .cons rfl .nil
  have sb : Sub X k X.A.in1.in1 := Sub.in1 (Sub.in1 (⟨hr, rfl⟩ : Sub X (k + 2) X.A))
  refine wpAny_call (codeAny_mono ((FI G).run X.A.in1.in1 X.stack s1 H1 ⟨[.ref a], []⟩ [.ref a] [.ref a] _ _ sb.room e0 (by
    have := bI s1 [.ref a] I1.kIn (by simpa using hlen)
    simpa using this) r2 hspG) fun r s' hq' => ?_)
  cases r with
  | error e => exact False.elim hq'
  | ok fl =>
    cases fl with
    | next => exact False.elim hq'
    | brk => exact False.elim hq'
    | cont => exact False.elim hq'
    | ret u =>
      obtain ⟨v, H', I', rv, it, rfl, hn, hge, rfl⟩ := I1.after hq'
      cases rv
      have hi : (upd H1 it (Wi.ItT l it)) it = some (Wi.ItT l it) := upd_same
      have eo := Wi.itT_get I' hi
      have st : s'.heap.IsTupleIter it l 0 := ⟨_, eo, rfl, rfl⟩
      unfold PySem.W.OwitIt
      show wpAny _ _ (specialOf (.ref it) (Str.ofString "__next__")) _ _ _
      refine wpAny_specialOf st.typeIs F.slot_tuple_iterator_next.lookup ?_
      have hi' := hi
      unfold Wi.ItT at hi'
      have ed : dropH (upd H1 it (Wi.ItT l it)) it = H1 := dropH_upd hn
      have I2 := inv_drop I' hi'
      have fp := inv_fp I' hi' (Nat.le_trans I1.sz (by rw [g2] at hge; exact hge))
      rw [show dropH (upd H1 it (Wi.ItT l it)) it = H1 from ed] at fp
      have I3 : Inv X pins σ H1 s' := by
        have z : dropH (upd H1 it (.ext fun h => h.get? it = some (Wi.tItObj l))) it = H1 := ed
        rw [← z]
        exact I2
      have it_lt : it < s'.heap.objs.size := Heap.lt_size eo
      obtain ⟨its, rw_, p', _⟩ := I1.tuple hl
      have l_lt : l < s1.heap.objs.size := by
        obtain ⟨o, ho, _⟩ := id p'
        exact Heap.lt_size ho
      have l_it : l < it := Nat.lt_of_lt_of_le l_lt (by rw [g2] at hge; exact hge)
      have he : IsEnum (s'.heap.push { cls := .type "enumerate", data := .fields #[.none, .bool false, .ref it, rawInt 0, .none, .none] }) s'.heap.objs.size it 0 .none := Heap.get?_push_size _ rfl
      refine wpAny_pyIter_enum he ?_
      have hk : ∀ b o, s'.heap.get? b = some o → (s'.heap.push { cls := .type "enumerate", data := .fields #[.none, .bool false, .ref it, rawInt 0, .none, .none] }).get? b = some o := fun b o z => Heap.get?_push_of_some _ z
      refine ⟨s'.heap.objs.size, [s'.heap.objs.size, it], _, _, H1, rfl, I3.kept (t' := s'.toks) hk, Gn.turn_enumT l s'.heap.objs.size it, ⟨⟨.none, he⟩, ⟨_, hk _ _ eo, rfl, rfl⟩, Nat.ne_of_gt it_lt, Nat.ne_of_gt (Nat.lt_trans l_it it_lt), Nat.ne_of_lt l_it⟩, fun b hb => ?_, q⟩
      rcases (show b = s'.heap.objs.size ∨ b = it by simpa using hb) with rfl | rfl
      · exact I3.fpOk (Nat.le_refl _) (I3.hok.fresh (Nat.le_refl _))
      · exact fp
end En
namespace Fw
open PySem PySem.Spec PyProof.Rows L2 Dz Vz
def ownD (nm fld : Str) (d : D) : Option (List D) := match d with
  | .ins n' fs => if n' = nm then match fs.lookup fld with
    | some (.tup ds) => some ds
    | _ => none
    else none
  | _ => none
def iEnumI (nm fld : Str) (f : EF D) : EF (List D) := fun δ h => (f δ h).bind fun d h1 => Ex.of ((ownD nm fld d).map (enD 0)) h1
theorem iEnumI_a (nm fld : Str) (f : EF D) (δ : DE) (h : D) : iEnumI nm fld f δ h = (f δ h).bind fun d h1 => Ex.of ((ownD nm fld d).map (enD 0)) h1 := (rfl)
section
variable {X : Cx} {W : WX} {c : Cn} {f : EF D} {C g : Addr} {nm fld : Str} {e : Expr}
theorem di_enumO {nm fld : Str} {fd : FuncData} {ps : List Str} {k : Nat} {p pos tpos : Pos} {elts : List Expr} {kk : Nat} (hc : Wi.It1 c.K C g) (mC : c.mg nm = some (.ref C)) (FI : ∀ B : Heap, FnOk X.prog X.w c.K c.mg B CX0 k g fd ps (spIt c.K C fld B.objs.size)) (bI : Binds c.K fd ps []) (hr : Room (k + 2) X.A) (hg : Gl X "enumerate") (hm : X.mg "enumerate" = none) (he : PE X e (rd c W f)) (hK : X.K = c.K := by rfl) (hM : X.mg = c.mg := by rfl)
    (hs : starEach [e] X.env = [(false, eval e X.env)] := by rfl) : PI X (.Tuple elts kk tpos) (.Call (.Name "enumerate" p) [e] [] pos) (ri c W (iEnumI nm fld f)) := by
  obtain ⟨K, mg, xa⟩ := c
  cases hK
  cases hM
  refine pi_to (En.pi_enumO hc FI bI hr hg hm (da_cons he da_nil hs) hs) fun σ H R x => ?_
  obtain ⟨ha, G0, B, G, δ, h, st, p⟩ := x
  refine ⟨ha, G0, B, G, δ, h, st, ?_⟩
  have e : eCons f eNil δ h = (f δ h).bind fun d h1 => .ok [d] h1 := rfl
  rw [e]
  replace p : Post ⟨X.K, X.mg, xa⟩ ha W σ G H ((f δ h).bind fun d h1 => Ex.of ((ownD nm fld d).map (enD 0)) h1) fun ds _ G' H' => ∀ J, WalkD ⟨X.K, X.mg, xa⟩ ha G' J ds → R J H' := p
  cases q : f δ h with
  | exc n fs h' => rw [q] at p; exact p
  | bad => rw [q] at p; exact p
  | ok d h1 =>
    rw [q] at p
    intro G1 H1 af vs dvs
    obtain ⟨v, rfl, dv⟩ := one_of dvs
    obtain ⟨es, e1, k1⟩ := post_of (p : Post ⟨X.K, X.mg, xa⟩ ha W σ G H (Ex.of ((ownD nm fld d).map (enD 0)) h1) _)
    have k1 := k1 G1 H1 af
    cases dv with
    | ins q1 q2 q3 q4 =>
      rename_i a C' dx n' xs fs'
      replace e1 : Option.map (enD 0) (if n' = nm then match List.lookup fld fs' with | some (D.tup ds) => some ds | _ => none else none) = some es := e1
      by_cases hn : n' = nm
      · rw [if_pos hn] at e1
        subst hn
        rw [q1] at mC
        cases mC
        split at e1
        · rename_i ds2 e2
          cases e1
          obtain ⟨na, w, g1, g2⟩ := dqF_look q4 e2
          cases g2 with
          | tup t1 t2 =>
            refine ⟨_, _, _, _, rfl, af.gh _ _ q2, ⟨_, Evl.ex_t af.gh t1⟩, fun n => ?_, k1 _ (wd_enT t1 t2)⟩
            exact ⟨_, _, _, _, _, rfl, af.gh _ _ q2, q3.cl, na, g1, Evl.ex_t af.gh t1, fun it h1 h2 => ⟨it, rfl, h1, h2, rfl⟩⟩
        · cases e1
      · rw [if_neg hn] at e1
        cases e1
    | _ => cases e1
theorem di_enumP {p pos tpos : Pos} {elts : List Expr} {kk : Nat} (hc : Wi.It1 c.K C g) (mC : c.mg nm = some (.ref C)) (I : ItA X.prog X.w c.K c.mg C g fld) (hr : Room 3 X.A) (hg : Gl X "enumerate") (hm : X.mg "enumerate" = none) (he : PE X e (rd c W f)) (hK : X.K = c.K := by rfl) (hM : X.mg = c.mg := by rfl)
    (hs : starEach [e] X.env = [(false, eval e X.env)] := by rfl) : PI X (.Tuple elts kk tpos) (.Call (.Name "enumerate" p) [e] [] pos) (ri c W (iEnumI nm fld f)) := by
  obtain ⟨fd, ps, F, b⟩ := I.ex
  exact di_enumO hc mC F b hr hg hm he hK hM hs
end
end Fw
namespace Pd
open PySem PySem.Spec Fw
def F_ratio_plus : Fn := runF 2 (sRet (eCall 2 F_in_lowest_terms [] (eCons (eOp oAdd (eOp oMul (eOp oIx (eV 0) (eC (.int 0))) (eOp oIx (eV 1) (eC (.int 1)))) (eOp oMul (eOp oIx (eV 1) (eC (.int 0))) (eOp oIx (eV 0) (eC (.int 1))))) (eCons (eOp oMul (eOp oIx (eV 0) (eC (.int 1))) (eOp oIx (eV 1) (eC (.int 1)))) eNil))))
def F_Figures_plus : Fn := runF 3 (sSeq (sIf (eT (eOp oEq (eAtV 0 "prime") (eC (.int 0)))) (sRet (eCall 2 F_ratio_plus [] (eCons (eVm 1) (eCons (eVm 2) eNil)))) sNil)
    (sRet (eOp oMod (eOp oAdd (eV 1) (eV 2)) (eAtV 0 "prime"))))
def F_row_sum : Fn := runF 5 (sRet (eBi kTup (eCons (eFz (eLc [3, 4] (iRg kZip (eCons (eV 1) (eCons (eV 2) eNil))) (bTp [(bNm 3), (bNm 4)]) tYesD (eMeth "Figures" "plus" 3 F_Figures_plus [] (eV 0) (eCons (eVm 3) (eCons (eVm 4) eNil))))) eNil)))
def F_row_scaled : Fn := runF 4 (sRet (eBi kTup (eCons (eFz (eLc [3] (iSeq (eV 2)) (bNm 3) tYesD (eMeth "Figures" "times" 3 F_Figures_times [] (eV 0) (eCons (eVm 1) (eCons (eVm 3) eNil))))) eNil)))
def F_all_are_numbers : Fn := runF 3 (sRet (eBi kAll (eCons (eFz (eLc [2] (iSeq (eV 1)) (bNm 2) tYesD (eMeth "Figures" "is_number" 2 F_Figures_is_number [] (eV 0) (eCons (eVm 2) eNil)))) eNil)))
def F_is_side : Fn := runF 2 (sRet (eB (eAnd (eT (eCall 3 F_is_whole [] (eCons (eVm 1) (eCons (eC (.int 1)) (eCons (eC (.int 5)) eNil))))) (eT (eB (eOr (eT (eOp oEq (eAtV 0 "prime") (eC (.int 0)))) (eT (eOp oLe (eV 1) (eAtV 0 "prime")))))))))
def F_is_number_row : Fn := runF 3 (sRet (eB (eAnd (eT (eCall 1 F_is_sequence [] (eCons (eVm 1) eNil))) (eAnd (eT (eOp oEq (eBi kLen (eCons (eV 1) eNil)) (eV 2))) (eT (eCall 2 F_all_are_numbers [] (eCons (eVm 0) (eCons (eVm 1) eNil))))))))
def F_check_product : Fn := runF 8 (sSeq (sSet 3 (eAtV 0 "figures"))
    (sSeq (sIf (eOr (eNot (eTru (eCall 1 F_is_sequence [] (eCons (eVm 1) eNil)))) (eT (eOp oNe (eBi kLen (eCons (eV 1) eNil)) (eC (.int 4))))) (sRaise "BadProgram" (flD2 "index" "what") (eCons (eV 2) (eCons (eC (.str "product")) eNil))) sNil)
    (sSeq (sAsg (bTp [(bNm 4), (bNm 5), (bNm 6), (bNm 7)]) (eV 1))
    (sSeq (sIf (eNot (eTru (eCall 3 F_is_number_row [] (eCons (eVm 3) (eCons (eVm 4) (eCons (eAtV 0 "rows") eNil)))))) (sRaise "BadProgram" (flD2 "index" "what") (eCons (eV 2) (eCons (eC (.str "left")) eNil))) sNil)
    (sSeq (sIf (eNot (eTru (eCall 3 F_is_number_row [] (eCons (eVm 3) (eCons (eVm 5) (eCons (eAtV 0 "columns") eNil)))))) (sRaise "BadProgram" (flD2 "index" "what") (eCons (eV 2) (eCons (eC (.str "right")) eNil))) sNil)
    (sSeq (sIf (eOr (eNot (eTru (eMeth "Figures" "is_number" 2 F_Figures_is_number [] (eV 3) (eCons (eVm 6) eNil)))) (eNot (eTru (eMeth "Figures" "is_number" 2 F_Figures_is_number [] (eV 3) (eCons (eVm 7) eNil))))) (sRaise "BadProgram" (flD2 "index" "what") (eCons (eV 2) (eCons (eC (.str "number")) eNil))) sNil)
    (sRet (eTup (eCons (eBi kTup (eCons (eV 4) eNil)) (eCons (eBi kTup (eCons (eV 5) eNil)) (eCons (eV 6) (eCons (eV 7) eNil))))))))))))
def F_Program___init__ : Fn := runF 7 (sSeq (sIf (eNot (eTru (eCall 2 F_is_side [] (eCons (eVm 1) (eCons (eVm 2) eNil))))) (sRaise "BadProgram" (flD2 "index" "what") (eCons (eC (.int 0)) (eCons (eC (.str "rows")) eNil))) sNil)
    (sSeq (sIf (eNot (eTru (eCall 2 F_is_side [] (eCons (eVm 1) (eCons (eVm 3) eNil))))) (sRaise "BadProgram" (flD2 "index" "what") (eCons (eC (.int 0)) (eCons (eC (.str "columns")) eNil))) sNil)
    (sSeq (sIf (eOr (eNot (eTru (eCall 1 F_is_sequence [] (eCons (eVm 4) eNil)))) (eT (eOp oGt (eBi kLen (eCons (eV 4) eNil)) (eC (.int 30))))) (sRaise "BadProgram" (flD2 "index" "what") (eCons (eC (.int 0)) (eCons (eC (.str "many")) eNil))) sNil)
    (sSeq (sAt "Program" 0 "figures" (eV 1))
    (sSeq (sAt "Program" 0 "rows" (eV 2))
    (sSeq (sAt "Program" 0 "columns" (eV 3))
    (sAt "Program" 0 "products" (eBi kTup (eCons (eFz (eLc [5, 6] (iRg kEnum (eCons (eV 4) eNil)) (bTp [(bNm 5), (bNm 6)]) tYesD (eCall 3 F_check_product [] (eCons (eVm 0) (eCons (eVm 6) (eCons (eVm 5) eNil)))))) eNil)))))))))
def F_Program___len__ : Fn := runF 1 (sRet (eBi kLen (eCons (eAtV 0 "products") eNil)))
def F__law_blank : Fn := runF 4 (sRet (eLc [3] (iRg rg1 (eCons (eV 1) eNil)) (bNm 3) tYesD (eOn oTimes (eFz (eLst (eCons (eCall 2 F__law_num [] (eCons (eVm 0) (eCons (eC (.int 0)) eNil))) eNil))) (eV 2))))
def F__law_summed : Fn := runF 10 (sSeq (sSet 5 (eCall 3 F__law_blank [] (eCons (eVm 0) (eCons (eVm 1) (eCons (eVm 2) eNil)))))
    (sSeq (sFor (iSeq (eV 3)) (bNm 6) (sFor (iRg rg1 (eCons (eV 1) eNil)) (bNm 7) (sSeq (sSet 8 (eCall 3 F__law_times [] (eCons (eVm 0) (eCons (eOp oIx (eV 6) (eV 4)) (eCons (eOp oIx (eOp oIx (eV 6) (eC (.int 0))) (eV 7)) eNil)))))
    (sFor (iRg rg1 (eCons (eV 2) eNil)) (bNm 9) (sSt (pIx (pV 5) (eV 7)) (eV 9) (eCall 3 F__law_plus [] (eCons (eVm 0) (eCons (ePl (pIx (pIx (pV 5) (eV 7)) (eV 9))) (eCons (eCall 3 F__law_times [] (eCons (eVm 0) (eCons (eVm 8) (eCons (eOp oIx (eOp oIx (eV 6) (eC (.int 1))) (eV 9)) eNil)))) eNil)))))))))
    (sFrz 5 (sRet (eV 5)))))
def F__law_number : Fn := runF 3 (sSeq (sIf (eT (eOp oGt (eV 1) (eC (.int 0)))) (sRet (eCall 2 F__law_take [] (eCons (eVm 0) (eCons (eVm 1) eNil)))) sNil)
    (sSeq (sSet 2 (eOp oSub (eCall 2 F__law_take [] (eCons (eVm 0) (eCons (eC (.int 7)) eNil))) (eC (.int 3))))
    (sSeq (sIf (eT (eOp oEq (eCall 2 F__law_take [] (eCons (eVm 0) (eCons (eC (.int 4)) eNil))) (eC (.int 0)))) (sRet (eCall 2 F__law_ratio [] (eCons (eVm 2) (eCons (eOp oAdd (eC (.int 2)) (eCall 2 F__law_take [] (eCons (eVm 0) (eCons (eC (.int 2)) eNil)))) eNil)))) sNil)
    (sRet (eTup (eCons (eV 2) (eCons (eC (.int 1)) eNil)))))))
end Pd
namespace Pd
open PySem PySem.Spec Fw
end Pd
namespace Fw
open PySem PySem.Spec PyProof.Rows L2 Dz Vz
end Fw
namespace Fw
open PySem PySem.Spec PyProof.Rows L2 Dz Vz
end Fw
namespace Pd
open PySem PySem.Spec Fw
def F_ratio_minus : Fn := runF 2 (sRet (eCall 2 F_in_lowest_terms [] (eCons (eOp oSub (eOp oMul (eOp oIx (eV 0) (eC (.int 0))) (eOp oIx (eV 1) (eC (.int 1)))) (eOp oMul (eOp oIx (eV 1) (eC (.int 0))) (eOp oIx (eV 0) (eC (.int 1))))) (eCons (eOp oMul (eOp oIx (eV 0) (eC (.int 1))) (eOp oIx (eV 1) (eC (.int 1)))) eNil))))
def F_Figures_minus : Fn := runF 3 (sSeq (sIf (eT (eOp oEq (eAtV 0 "prime") (eC (.int 0)))) (sRet (eCall 2 F_ratio_minus [] (eCons (eVm 1) (eCons (eVm 2) eNil)))) sNil)
    (sRet (eOp oMod (eOp oSub (eV 1) (eV 2)) (eAtV 0 "prime"))))
def F__law_zero : Fn := runF 2 (sRet (eOp oEq (eV 1) (eCall 2 F__law_num [] (eCons (eVm 0) (eCons (eC (.int 0)) eNil)))))
def F__law_unlike : Fn := runF 3 (sSeq (sIf (eT (eOp oGt (eV 1) (eC (.int 0)))) (sRet (eIf (eT (eOp oGt (eV 1) (eC (.int 2)))) (eOp oAdd (eC (.int 1)) (eCall 2 F__law_take [] (eCons (eVm 0) (eCons (eOp oSub (eV 1) (eC (.int 1))) eNil)))) (eC (.int 1)))) sNil)
    (sSeq (sSet 2 (eOp oAdd (eC (.int 1)) (eCall 2 F__law_take [] (eCons (eVm 0) (eCons (eC (.int 3)) eNil)))))
    (sSeq (sIf (eT (eOp oEq (eCall 2 F__law_take [] (eCons (eVm 0) (eCons (eC (.int 2)) eNil))) (eC (.int 0)))) (sSet 2 (eUn oNeg (eV 2))) sNil)
    (sRet (eCall 2 F__law_ratio [] (eCons (eVm 2) (eCons (eOp oAdd (eC (.int 1)) (eBi kInt (eCons (eOp oEq (eCall 2 F__law_take [] (eCons (eVm 0) (eCons (eC (.int 4)) eNil))) (eC (.int 0))) eNil))) eNil)))))))
end Pd
namespace Fw
open PySem PySem.Spec PyProof.Rows L2 Dz Vz
end Fw
namespace Fw
open PySem PySem.Spec PyProof.Rows L2 Dz Vz
end Fw
namespace Fw
open PySem PySem.Spec PyProof.Rows L2 Dz Vz
end Fw
namespace Pd
open PySem PySem.Spec Fw
def F__law_size : Fn := runF 4 (sSeq (sSet 3 (eIf (eT (eOp oGt (eV 1) (eC (.int 0)))) (eBi kMin3 (eCons (eV 2) (eCons (eC (.int 5)) (eCons (eV 1) eNil)))) (eBi kMin2 (eCons (eV 2) (eCons (eC (.int 5)) eNil)))))
    (sSeq (sIf (eT (eOp oEq (eCall 2 F__law_take [] (eCons (eVm 0) (eCons (eC (.int 8)) eNil))) (eC (.int 0)))) (sRet (eV 3)) sNil)
    (sRet (eOp oAdd (eC (.int 1)) (eCall 2 F__law_take [] (eCons (eVm 0) (eCons (eBi kMin2 (eCons (eV 3) (eCons (eC (.int 3)) eNil))) eNil)))))))
end Pd
namespace Fw
open PySem PySem.Spec PyProof.Rows L2 Dz Vz
section
variable {X : Cx} {c : Cn} {W : WX} {e a b s : Expr} {f : EF D} {k : EF Pl} {fs : EF (List D)} {pos : Pos}
def eTruP (k : EF Pl) : EF Bool := fun δ h => (k δ h).bind fun p h1 => Ex.of (match plD δ p with
  | some (.hl ds) => some (!ds.isEmpty)
  | _ => none) h1
theorem ownE {n m : Nat} {xs : List V} {ds : List D} (e : xs.length = ds.length) : (!xs.isEmpty) = !ds.isEmpty := by
  cases xs <;> cases ds <;> first | rfl | (simp at e)
theorem dt_truP (hK : X.K = c.K) (hk : PE X a (rp c W k)) (he : ∀ whole, isTrue a X.env whole = (do let v ← whole; standAt a.pos; holding [v] (truthy v)) := by intro _; rfl) : PT X a (rt c W (eTruP k)) := pt_to (pt_truth hk he) fun σ H Q x => by
  obtain ⟨ha, G0, B, G, δ, h, st, p⟩ := x
  refine ⟨ha, G0, B, G, δ, h, st, post_imp (post_bind p) fun pl h1 G1 H1 af1 p1 v pv => ?_⟩
  obtain ⟨d, e, q⟩ := post_of p1
  split at e
  · rename_i ds e0
    cases e
    obtain ⟨v', f1, fo, f2, k1, o, n, kk, _⟩ := (st.to af1).place e0
    have ev := pv.inj k1
    subst ev
    rw [hK]
    cases o with
    | frz hq => cases hq
    | hl g1 g2 g3 => exact ⟨_, .inl ⟨_, SqL.of g1, (ownE (n := 0) (m := 0) (ownAll_len g3)).symm⟩, q _ _ (.refl af1.gh af1.hd)⟩
  · cases e
end
end Fw
namespace Pd
open PySem PySem.Spec Fw
end Pd
namespace Fw
open PySem PySem.Spec PyProof.Rows L2 Dz Vz
end Fw
namespace L2
open PySem PySem.Spec PyProof.Rows
end L2
namespace Fw
open PySem PySem.Spec PyProof.Rows L2 Dz Vz
end Fw
namespace Pd
open PySem PySem.Spec Fw
end Pd
namespace Fw
open PySem PySem.Spec PyProof.Rows L2 Dz Vz
section
variable {c : Cn} {ha : Option Addr} {G H : Hp}
theorem ownAll_cut : ∀ {xs : List V} {ds : List D} {fp : List Addr} (n : Nat), OwnAll c ha G H xs ds fp → ∃ f g, fp = f ++ g ∧ OwnAll c ha G H (xs.take n) (ds.take n) f ∧ OwnAll c ha G H (xs.drop n) (ds.drop n) g
  | _, _, _, 0, o => ⟨[], _, rfl, .nil, o⟩
  | _, _, _, _ + 1, .nil => ⟨[], [], rfl, .nil, .nil⟩
  | _, _, _, n + 1, .cons h t => by
    obtain ⟨f, g, e, a, b⟩ := ownAll_cut n t
    subst e
    exact ⟨_, g, (List.append_assoc ..).symm, .cons h a, b⟩
end
theorem ixN_b {n : Nat} {i : Int} {j : Nat} (e : ixN n i = some j) : -(n : Int) ≤ i ∧ i < n := by
  unfold ixN at e
  repeat' split at e
  all_goals first | omega | (cases e; done)
section
variable {X : Cx} {c : Cn} {W : WX} {nw : Bool} {a b e : Expr} {pos : Pos} {k : EF Pl} {fi f : EF D}
def sIns (k : EF Pl) (fi f : EF D) : SF := fun δ h => (k δ h).fl δ fun p h1 => match plD δ p with
  | some (.hl ds) => (fi δ h1).fl δ fun z h2 => (f δ h2).fl δ fun y h3 => match z with
    | .int i => if szOk ds.length && decide (0 ≤ i) && decide (i ≤ ds.length) then .nx (plS δ p (.hl (ds.take i.toNat ++ [y] ++ ds.drop i.toNat))) h3 else .bad
    | _ => .bad
  | _ => .bad
def rIns : V → List V → Hp → VK → Prop := fun x vs H Q => ∃ (l : Addr) (xs : List V) (i : Int) (y : V), x = .ref l ∧ vs = [.int i, y] ∧ H l = some (.lst xs) ∧ xs.length < sizeLine ∧ 0 ≤ i ∧ i < 2 ^ 63 ∧
    Q .non (upd H l (.lst (xs.take i.toNat ++ [y] ++ xs.drop i.toNat)))
theorem rs_ins (Dn : Ends) (σ : L2.St) (H : Hp) (x : rs c W nw (sIns k fi f) Dn σ H) : tDrop (tBM c.K "list" rIns (rp c W k) (tCons (rd c W fi) (tCons (rd c W f) tNil))) Dn σ H := by
  obtain ⟨ha, G0, B, G, δ, h, st, p⟩ := x
  refine ⟨ha, G0, B, G, δ, h, st, post_imp (post_fl st p) fun pl h1 G1 H1 af1 p1 v pv => ?_⟩
  have st1 := st.to af1
  split at p1
  · rename_i ds e0
    obtain ⟨a, xs, f1, fd, f2, rfl, hl, oa, n, kk, ch⟩ := st1.change e0 pv
    refine ⟨.inl ⟨rfl, xs, SqL.of hl⟩, ha, G0, B, G1, δ, h1, st1, post_imp (post_fl st1 p1) fun z h2 G2 H2 af2 p2 iv di => ?_⟩
    have st2 := st1.to af2
    refine ⟨ha, G0, B, G2, δ, h2, st2, post_imp (post_fl st2 p2) fun y h3 G3 H3 af3 q w dw => ?_⟩
    have af := af2.trans af3
    split at q
    · rename_i i
      cases di
      by_cases hz : (szOk ds.length && decide (0 ≤ i) && decide (i ≤ (ds.length : Int))) = true
      · rw [if_pos hz] at q
        rw [Bool.and_eq_true, Bool.and_eq_true] at hz
        have z1 := of_decide_eq_true hz.1.1
        have z2 := of_decide_eq_true hz.1.2
        have z3 := of_decide_eq_true hz.2
        have ka := kk a (List.mem_append_right _ (List.mem_append_left _ List.mem_cons_self))
        have hl2 : H3 a = some (.lst xs) := af.bt a _ ka.2.1 hl
        have nb := List.nodup_append.mp (List.nodup_append.mp n).2.1
        have o3 : OwnAll c ha G3 (upd H3 a (.lst (xs.take i.toNat ++ [w] ++ xs.drop i.toNat))) xs ds fd := ownAll_af af oa fun b hb => by
          have kb := kk b (List.mem_append_right _ (List.mem_append_left _ (List.mem_cons_of_mem _ hb)))
          refine ⟨kb.2.1, kb.2.2.1, kb.2.2.2, ?_⟩
          rintro rfl
          exact (List.nodup_cons.mp nb.1).1 hb
        obtain ⟨ff, g, ef, o4, o5⟩ := ownAll_cut i.toNat o3
        have ll := ownAll_len oa
        refine ⟨a, xs, i, w, rfl, rfl, hl2, ?_, z2, ?_, q σ G3 _ (ch (es := ds.take i.toNat ++ [y] ++ ds.drop i.toNat) (fe := fd) af ?_ n fun b hb => ?_) (Same.refl _)⟩
        · rw [ll, sizeLine_eq]
          omega
        · have : (ds.length : Int) < 2 ^ 63 := by omega
          omega
        · have o6 := ownAll_app (ownAll_app o4 (.cons (.frz (dq_mono (Same.refl _) dw)) .nil)) o5
          rw [ef]
          simpa using o6
        · have kb := kk b (List.mem_append_right _ (List.mem_append_left _ (List.mem_cons_of_mem _ hb)))
          exact ⟨kb.1, kb.2.1⟩
      · rw [if_neg hz] at q
        exact q.elim
    · exact q.elim
  · exact p1.elim
theorem ds_ins {apos pos2 : Pos} (hk : PE X a (rp c W k)) (hi : PE X b (rd c W fi)) (he : PE X e (rd c W f)) (hK : X.K = c.K := by rfl) (hbase : attributeBase a "insert" X.env (eval a X.env) = eval a X.env := by rfl)
    (hfew : ((backTo pos (starEach [b, e] X.env)).all (fun x => !x.1) && (backToKw pos (keywordEach [] X.env)).all (fun x => x.1.isSome)
      && decide ([b, e].length + ([] : List Keyword).length + (if ([] : List Keyword).isEmpty then 0 else 1) < 30)) = true := by rfl)
    (hline : (apos.endLine == pos.line) = true := by rfl) (s1 : starEach [b, e] X.env = (false, eval b X.env) :: starEach [e] X.env := by rfl) (s2 : starEach [e] X.env = (false, eval e X.env) :: starEach [] X.env := by rfl) (hplain : (backTo pos (starEach [e] X.env)).any (·.1) = false := by rfl)
    (hs : swapsWith (.Call (.Attribute a "insert" apos) [b, e] [] pos) none pos2.line X.env = pure false := by rfl) : PS X (.Expr (.Call (.Attribute a "insert" apos) [b, e] [] pos) pos2) (rs c W nw (sIns k fi f)) :=
  ps_to (ps_expr (pe_bm PySem.F.plainAttrs_list PySem.F.slot_list_insert PySem.F.type_list_insert mt_insert hk (pa_cons hi (pa_cons he pa_nil s2) s1) hbase hfew hline s1 hplain) hs) (by rw [hK]; exact rs_ins)
def sPop (bind : D → DE → Option DE) (k : EF Pl) (fi : EF D) : SF := fun δ h => (k δ h).fl δ fun p h1 => match plD δ p with
  | some (.hl ds) => (fi δ h1).fl δ fun z h2 => match z with
    | .int i => match ixN ds.length i with
      | some j => match ds[j]? with
        | some y => if szOk ds.length && y.fr then (match bind y (plS δ p (.hl (ds.eraseIdx j))) with
          | some δ2 => .nx δ2 h2
          | none => .bad) else .bad
        | none => .bad
      | none => .bad
    | _ => .bad
  | _ => .bad
theorem rs_pop {gg : TG} {vs : List Nat} {bind : D → DE → Option DE} (bd : BindD c vs gg bind) (Dn : Ends) (σ : L2.St) (H : Hp) (x : rs c W nw (sPop bind k fi) Dn σ H) : tAsg (tBM c.K "list" rPopAt (rp c W k) (tCons (rd c W fi) tNil)) gg Dn σ H := by
  obtain ⟨ha, G0, B, G, δ, h, st, p⟩ := x
  refine ⟨ha, G0, B, G, δ, h, st, post_imp (post_fl st p) fun pl h1 G1 H1 af1 p1 v pv => ?_⟩
  have st1 := st.to af1
  split at p1
  · rename_i ds e0
    obtain ⟨a, xs, f1, fd, f2, rfl, hl, oa, n, kk, ch⟩ := st1.change e0 pv
    refine ⟨.inl ⟨rfl, xs, SqL.of hl⟩, ha, G0, B, G1, δ, h1, st1, post_imp (post_fl st1 p1) fun z h2 G2 H2 af q iv di => ?_⟩
    have st2 := st1.to af
    split at q
    · rename_i i
      cases di
      split at q
      · rename_i j ej
        split at q
        · rename_i y ey
          by_cases hz : (szOk ds.length && y.fr) = true
          · rw [if_pos hz] at q
            rw [Bool.and_eq_true] at hz
            have z1 := of_decide_eq_true hz.1
            cases eb : bind y (plS δ pl (.hl (ds.eraseIdx j))) with
            | none => rw [eb] at q; exact q.elim
            | some δ2 =>
              rw [eb] at q
              have ka := kk a (List.mem_append_right _ (List.mem_append_left _ List.mem_cons_self))
              have hl2 : H2 a = some (.lst xs) := af.bt a _ ka.2.1 hl
              have nb := List.nodup_append.mp (List.nodup_append.mp n).2.1
              have ll := ownAll_len oa
              obtain ⟨sq, hj, _, _⟩ := ixN_seq ej
              have o3 : OwnAll c ha G2 (upd H2 a (.lst (xs.eraseIdx j))) xs ds fd := ownAll_af af oa fun b hb => by
                have kb := kk b (List.mem_append_right _ (List.mem_append_left _ (List.mem_cons_of_mem _ hb)))
                refine ⟨kb.2.1, kb.2.2.1, kb.2.2.2, ?_⟩
                rintro rfl
                exact (List.nodup_cons.mp nb.1).1 hb
              obtain ⟨ff, g, ef, o4, o5⟩ := ownAll_cut j o3
              have ed : ds.drop j = y :: ds.drop (j + 1) := by
                rw [List.drop_eq_getElem_cons hj]
                rw [List.getElem?_eq_getElem hj] at ey
                rw [Option.some.inj ey]
              rw [ed] at o5
              cases ex : xs.drop j with
              | nil => rw [ex] at o5; cases o5
              | cons w ws =>
                rw [ex] at o5
                have ews : xs.drop (j + 1) = ws := by
                  have : xs.drop (j + 1) = (xs.drop j).drop 1 := by rw [List.drop_drop]
                  rw [this, ex]
                  rfl
                cases o5 with
                | @cons _ _ fy _ _ ft oy ot =>
                  obtain ⟨dq, efy⟩ := own_fr oy hz.2
                  subst efy
                  have ey2 : xs[j]? = some w := by
                    have := List.getElem?_drop (xs := xs) (i := j) (j := 0)
                    rw [ex, Nat.add_zero] at this
                    exact this.symm
                  refine ⟨a, xs, i, j, w, rfl, rfl, hl2, ?_, ?_, by rw [ll]; exact sq, ey2, ?_⟩
                  · have := ixN_b ej
                    omega
                  · have := ixN_b ej
                    omega
                  · have st3 := ch (es := ds.eraseIdx j) (ys := xs.eraseIdx j) (fe := fd) af (by
                      rw [List.eraseIdx_eq_take_drop_succ, List.eraseIdx_eq_take_drop_succ, ews, ef, List.nil_append]
                      rw [List.eraseIdx_eq_take_drop_succ, ews] at o4 ot
                      exact ownAll_app o4 ot) n fun b hb => by
                      have kb := kk b (List.mem_append_right _ (List.mem_append_left _ (List.mem_cons_of_mem _ hb)))
                      exact ⟨kb.1, kb.2.1⟩
                    exact bd st3 dq eb fun σ2 st4 _ => q σ2 G2 _ st4 (Same.refl _)
          · rw [if_neg hz] at q
            exact q.elim
        · exact q.elim
      · exact q.elim
    · exact q.elim
  · exact p1.elim
theorem ds_pop {tg : Expr} {gg : TG} {vs : List Nat} {bind : D → DE → Option DE} {apos pos2 : Pos} (bd : BindD c vs gg bind) (hk : PE X a (rp c W k)) (hi : PE X b (rd c W fi)) (hg : PG X tg gg) (hK : X.K = c.K := by rfl) (hbase : attributeBase a "pop" X.env (eval a X.env) = eval a X.env := by rfl)
    (hfew : ((backTo pos (starEach [b] X.env)).all (fun x => !x.1) && (backToKw pos (keywordEach [] X.env)).all (fun x => x.1.isSome)
      && decide ([b].length + ([] : List Keyword).length + (if ([] : List Keyword).isEmpty then 0 else 1) < 30)) = true := by rfl)
    (hline : (apos.endLine == pos.line) = true := by rfl) (s1 : starEach [b] X.env = (false, eval b X.env) :: starEach [] X.env := by rfl) (hplain : (backTo pos (starEach [] X.env)).any (·.1) = false := by rfl)
    (hs : swapsWithSole [tg] (.Call (.Attribute a "pop" apos) [b] [] pos) pos2.line X.env = pure false := by rfl) (hw : swappedStores [tg] (.Call (.Attribute a "pop" apos) [b] [] pos) X.env = pure none := by rfl)
    (h1 : (assignEach [tg] X.env).map (·.2) = [assign tg X.env] := by rfl) : PS X (.Assign [tg] (.Call (.Attribute a "pop" apos) [b] [] pos) pos2) (rs c W nw (sPop bind k fi)) :=
  ps_to (ps_asg (pe_bm PySem.F.plainAttrs_list PySem.F.slot_list_pop PySem.F.type_list_pop mt_popAt hk (pa_cons hi pa_nil s1) hbase hfew hline s1 hplain) hg hs hw h1) (by rw [hK]; exact rs_pop bd)
end
def eLendT (is : List Nat) (g : EF Bool) : EF Bool := fun δ h => match g (lendS is δ) .non with
  | .ok b _ => .ok b h
  | _ => .bad
section
variable {X : Cx} {W : WX} {c : Cn} {e : Expr} {g : EF Bool}
theorem dt_lend (is : List Nat) (he : PT X e (rt c W g)) : PT X e (rt c W (eLendT is g)) := pt_to he fun σ H Q x => by
  obtain ⟨ha, G0, B, G, δ, h, st, p⟩ := x
  obtain ⟨G1, st1, s1⟩ := st.frzs is
  obtain ⟨fp, os, _, _⟩ := st1.sl
  refine ⟨none, G1, H, G1, lendS is δ, .non, ⟨⟨[], ownS_forget os, by simp, fun a z => nomatch z⟩, Mv.refl st1.gh, fun _ _ _ e => e, .non rfl, fun a z => nomatch z⟩, ?_⟩
  unfold eLendT at p
  cases r : g (lendS is δ) .non with
  | ok b h2 =>
    rw [r] at p
    intro G2 H2 af
    refine p G H2 ⟨⟨Same.refl _, s1.trans (af.mv.gg.trans af.mv.gh), fun _ _ => rfl, af.mv.dm⟩, fun b o _ eb => af.bt b o (fun z => nomatch z) eb, ?_⟩
    have kb : ∀ b o, H b = some o → H2 b = some o := fun b o eb => af.bt b o (fun z => nomatch z) eb
    cases st.hd with
    | non e => exact .non e
    | hand e g hl dq => exact .hand e g (kb _ _ hl) dq
    | self e g m co hl dq => exact .self e g m co (kb _ _ hl) dq
  | exc n xs h2 => rw [r] at p; exact p.elim
  | bad => rw [r] at p; exact p.elim
end
end Fw
namespace Pd
open PySem PySem.Spec Fw
def tup_SIDES : List D := [.str "left", .str "right", .str "numbers"]
def F_first_not_zero : Fn := runF 3 (sSeq (sFor (iSeq (eV 1)) (bNm 2) (sIf (eT (eOp oNe (eV 2) (eAtV 0 "zero"))) (sRet (eV 2)) sNil))
    (sRet (eC .non)))
def F_does_something : Fn := runF 8 (sSeq (sAsg (bTp [(bNm 2), (bNm 3), (bNm 4), (bNm 5)]) (eV 1))
    (sSeq (sSet 6 (eTup (eCons (eV 2) (eCons (eV 3) (eCons (eTup (eCons (eV 4) (eCons (eV 5) eNil))) eNil)))))
    (sRet (eBi kAll (eCons (eFz (eLc [7] (iSeq (eV 6)) (bNm 7) tYesD (eOp oNotN (eCall 2 F_first_not_zero [] (eCons (eVm 0) (eCons (eVm 7) eNil))) (eC .non)))) eNil)))))
def F_Match___init__ : Fn := runF 5 (sSeq (sAt "Match" 0 "product" (eV 1))
    (sSeq (sAt "Match" 0 "other" (eV 2))
    (sSeq (sAt "Match" 0 "left" (eV 3))
    (sAt "Match" 0 "right" (eV 4)))))
def F_Shared___init__ : Fn := runF 4 (sSeq (sAt "Shared" 0 "first" (eV 1))
    (sSeq (sAt "Shared" 0 "second" (eV 2))
    (sAt "Shared" 0 "side" (eV 3))))
def F_size_between : Fn := runF 5 (sSeq (sSet 3 (eC (.int 0)))
    (sSeq (sWh 100 (eT (eOp oEq (eOp oIx (eV 1) (eV 3)) (eAtV 0 "zero"))) (sAug 3 oAdd (eC (.int 1))))
    (sSeq (sSet 4 (eMeth "Figures" "over" 3 F_Figures_over [] (eV 0) (eCons (eOp oIx (eV 2) (eV 3)) (eCons (eOp oIx (eV 1) (eV 3)) eNil))))
    (sRet (eIf (eT (eOp oEq (eCall 3 F_row_scaled [] (eCons (eVm 0) (eCons (eVm 4) (eCons (eVm 1) eNil)))) (eV 2))) (eV 4) (eC .non))))))
def F_side_of : Fn := runF 6 (sSeq (sAsg (bTp [(bNm 2), (bNm 3), (bNm 4), (bNm 5)]) (eV 0))
    (sSeq (sIf (eT (eOp oEq (eV 1) (eC (.str "left")))) (sRet (eV 2)) sNil)
    (sRet (eIf (eT (eOp oEq (eV 1) (eC (.str "right")))) (eV 3) (eTup (eCons (eV 4) (eCons (eV 5) eNil)))))))
def F_sizes_if_alike : Fn := runF 6 (sSeq (sSet 3 (eCall 3 F_size_between [] (eCons (eVm 0) (eCons (eOp oIx (eV 1) (eC (.int 0))) (eCons (eOp oIx (eV 2) (eC (.int 0))) eNil)))))
    (sSeq (sSet 4 (eCall 3 F_size_between [] (eCons (eVm 0) (eCons (eOp oIx (eV 1) (eC (.int 1))) (eCons (eOp oIx (eV 2) (eC (.int 1))) eNil)))))
    (sSeq (sSet 5 (eCall 3 F_size_between [] (eCons (eVm 0) (eCons (eFz (eSl (eV 2) (eOpt (eC (.int 2))) eNo)) (eCons (eFz (eSl (eV 1) (eOpt (eC (.int 2))) eNo)) eNil)))))
    (sSeq (sIf (eOr (eT (eOp oIsN (eV 3) (eC .non))) (eOr (eT (eOp oIsN (eV 4) (eC .non))) (eOr (eT (eOp oIsN (eV 5) (eC .non))) (eT (eOp oNe (eV 5) (eMeth "Figures" "times" 3 F_Figures_times [] (eV 0) (eCons (eVm 3) (eCons (eVm 4) eNil)))))))) (sRet (eC .non)) sNil)
    (sRet (eTup (eCons (eV 3) (eCons (eV 4) eNil))))))))
def F_doing_places : Fn := runF 3 (sRet (eFz (eLc [1, 2] (iEnumI "Program" "products" (eV 0)) (bTp [(bNm 1), (bNm 2)]) (eTru (eCall 2 F_does_something [] (eCons (eAtV 0 "figures") (eCons (eVm 2) eNil)))) (eV 1))))
def F_first_match : Fn := runF 6 (sSeq (sFor (iSeq (eV 3)) (bNm 4) (sSeq (sSet 5 (eCall 3 F_sizes_if_alike [] (eCons (eAtV 0 "figures") (eCons (eOp oIx (eAtV 0 "products") (eV 1)) (eCons (eOp oIx (eAtV 2 "products") (eV 4)) eNil)))))
    (sIf (eT (eOp oNotN (eV 5) (eC .non))) (sRet (eMake "Match" 5 F_Match___init__ [] (eCons (eV 1) (eCons (eV 4) (eCons (eOp oIx (eV 5) (eC (.int 0))) (eCons (eOp oIx (eV 5) (eC (.int 1))) eNil)))))) sNil)))
    (sRet (eC .non)))
def F_Figures___eq___31 : Fn := runF 2 (sRet (eB (eAnd (eT (eIsC (msOf [("Pair", false), ("Program", false), ("Match", false), ("Shared", false), ("Figures", true)]) false (eV 1))) (eT (eOp oEq (eAtV 0 "prime") (eAtV 1 "prime"))))))
def F_alike_programs : Fn := runF 7 (sSeq (sIf (eT (eNeI "Figures" F_Figures___eq___31 (eAtV 0 "figures") (eAtV 1 "figures"))) (sRaise0 "Unlike") sNil)
    (sSeq (sIf (eOr (eT (eOp oNe (eAtV 0 "rows") (eAtV 1 "rows"))) (eT (eOp oNe (eAtV 0 "columns") (eAtV 1 "columns")))) (sRet (eC .non)) sNil)
    (sSeq (sSet 2 (eCall 1 F_doing_places [] (eCons (eVm 1) eNil)))
    (sSeq (sSet 3 (eLst eNil))
    (sSeq (sFor (iSeq (eCall 1 F_doing_places [] (eCons (eVm 0) eNil))) (bNm 4) (sSeq (sSet 5 (eCall 4 F_first_match [] (eCons (eVm 0) (eCons (eVm 4) (eCons (eVm 1) (eCons (eVm 2) eNil))))))
    (sSeq (sIf (eT (eOp oIsN (eV 5) (eC .non))) (sRet (eC .non)) sNil)
    (sSeq (sSet 2 (eFz (eLc [6] (iSeq (eV 2)) (bNm 6) (eT (eOp oNe (eV 6) (eAtV 5 "other"))) (eV 6))))
    (sApp (pV 3) (eV 5))))))
    (sFrz 3 (sRet (eIf (eT (eOp oEq (eBi kLen (eCons (eV 2) eNil)) (eC (.int 0)))) (eBi kTup (eCons (eV 3) eNil)) (eC .non)))))))))
def F_side_size : Fn := runF 4 (sRet (eCall 3 F_size_between [] (eCons (eVm 0) (eCons (eCall 2 F_side_of [] (eCons (eVm 1) (eCons (eVm 3) eNil))) (eCons (eCall 2 F_side_of [] (eCons (eVm 2) (eCons (eVm 3) eNil))) eNil)))))
def F_shared_of_two : Fn := runF 4 (sSeq (sFor (iSeq (eC (.tup tup_SIDES))) (bNm 3) (sIf (eT (eOp oNotN (eCall 4 F_side_size [] (eCons (eAtV 0 "figures") (eCons (eOp oIx (eAtV 0 "products") (eV 1)) (eCons (eOp oIx (eAtV 0 "products") (eV 2)) (eCons (eVm 3) eNil))))) (eC .non))) (sRet (eMake "Shared" 4 F_Shared___init__ [] (eCons (eV 1) (eCons (eV 2) (eCons (eV 3) eNil))))) sNil))
    (sRet (eC .non)))
def F_shared_side : Fn := runF 6 (sSeq (sSet 1 (eCall 1 F_doing_places [] (eCons (eVm 0) eNil)))
    (sSeq (sFor (iRg kEnum (eCons (eV 1) eNil)) (bTp [(bNm 2), (bNm 3)]) (sFor (iSeq (eFz (eSl (eV 1) (eOpt (eOp oAdd (eV 2) (eC (.int 1)))) eNo))) (bNm 4) (sSeq (sSet 5 (eCall 3 F_shared_of_two [] (eCons (eVm 0) (eCons (eVm 3) (eCons (eVm 4) eNil)))))
    (sIf (eT (eOp oNotN (eV 5) (eC .non))) (sRet (eV 5)) sNil))))
    (sRet (eC .non))))
def F_check_shared : Fn := runF 8 (sSeq (sSet 4 (eOp oSub (eLenI "Program" F_Program___len__ (eV 0)) (eC (.int 1))))
    (sSeq (sIf (eOr (eNot (eTru (eCall 3 F_is_whole [] (eCons (eVm 1) (eCons (eC (.int 0)) (eCons (eVm 4) eNil)))))) (eOr (eNot (eTru (eCall 3 F_is_whole [] (eCons (eVm 2) (eCons (eC (.int 0)) (eCons (eVm 4) eNil)))))) (eT (eOp oEq (eV 1) (eV 2))))) (sRaise0 "NotShared") sNil)
    (sSeq (sSet 5 (eOp oIx (eAtV 0 "products") (eV 1)))
    (sSeq (sSet 6 (eOp oIx (eAtV 0 "products") (eV 2)))
    (sSeq (sIf (eOr (eNot (eTru (eCall 2 F_does_something [] (eCons (eAtV 0 "figures") (eCons (eVm 5) eNil))))) (eNot (eTru (eCall 2 F_does_something [] (eCons (eAtV 0 "figures") (eCons (eVm 6) eNil)))))) (sRaise0 "NotShared") sNil)
    (sSeq (sIf (eT (eOp oNinP (eV 3) (eC (.tup tup_SIDES)))) (sRaise0 "NotShared") sNil)
    (sSeq (sSet 7 (eCall 4 F_side_size [] (eCons (eAtV 0 "figures") (eCons (eVm 5) (eCons (eVm 6) (eCons (eVm 3) eNil))))))
    (sSeq (sIf (eT (eOp oIsN (eV 7) (eC .non))) (sRaise0 "NotShared") sNil)
    (sRet (eV 7))))))))))
def F_row_less : Fn := runF 5 (sRet (eBi kTup (eCons (eFz (eLc [3, 4] (iRg kZip (eCons (eV 1) (eCons (eV 2) eNil))) (bTp [(bNm 3), (bNm 4)]) tYesD (eMeth "Figures" "minus" 3 F_Figures_minus [] (eV 0) (eCons (eVm 3) (eCons (eVm 4) eNil))))) eNil)))
def F_exchanged_products : Fn := runF 13 (sSeq (sAsg (bTp [(bNm 5), (bNm 6), (bNm 7), (bNm 8)]) (eV 1))
    (sSeq (sSet 9 (eTup (eCons (eV 7) (eCons (eV 8) eNil))))
    (sSeq (sSet 10 (eCall 3 F_row_sum [] (eCons (eVm 0) (eCons (eVm 9) (eCons (eFz (eSl (eV 2) (eOpt (eC (.int 2))) eNo)) eNil)))))
    (sSeq (sIf (eT (eOp oEq (eV 3) (eC (.str "left")))) (sSeq (sSet 11 (eCall 3 F_row_scaled [] (eCons (eVm 0) (eCons (eVm 4) (eCons (eOp oIx (eV 2) (eC (.int 1))) eNil)))))
    (sRet (eTup (eCons (eFz (eOn oPlus (eTup (eCons (eV 5) (eCons (eCall 3 F_row_less [] (eCons (eVm 0) (eCons (eVm 6) (eCons (eVm 11) eNil)))) eNil))) (eV 9))) (eCons (eFz (eOn oPlus (eTup (eCons (eV 5) (eCons (eV 11) eNil))) (eV 10))) eNil))))) sNil)
    (sSeq (sSet 11 (eCall 3 F_row_scaled [] (eCons (eVm 0) (eCons (eVm 4) (eCons (eOp oIx (eV 2) (eC (.int 0))) eNil)))))
    (sSeq (sSet 12 (eCall 3 F_row_less [] (eCons (eVm 0) (eCons (eVm 5) (eCons (eVm 11) eNil)))))
    (sSeq (sIf (eT (eOp oEq (eV 3) (eC (.str "right")))) (sRet (eTup (eCons (eFz (eOn oPlus (eTup (eCons (eV 12) (eCons (eV 6) eNil))) (eV 9))) (eCons (eFz (eOn oPlus (eTup (eCons (eV 11) (eCons (eV 6) eNil))) (eV 10))) eNil)))) sNil)
    (sRet (eTup (eCons (eFz (eOn oPlus (eTup (eCons (eV 12) (eCons (eV 6) eNil))) (eV 9))) (eCons (eFz (eOn oPlus (eTup (eCons (eV 11) (eCons (eCall 3 F_row_sum [] (eCons (eVm 0) (eCons (eVm 6) (eCons (eOp oIx (eV 2) (eC (.int 1))) eNil)))) eNil))) (eV 9))) eNil)))))))))))
def F_exchanged_program : Fn := runF 7 (sSeq (sSet 4 (eCall 4 F_check_shared [] (eCons (eVm 0) (eCons (eVm 1) (eCons (eVm 2) (eCons (eVm 3) eNil))))))
    (sSeq (sSet 5 (eBi kList (eCons (eAtV 0 "products") eNil)))
    (sSeq (sSet 6 (eCall 5 F_exchanged_products [] (eCons (eAtV 0 "figures") (eCons (ePl (pIx (pV 5) (eV 1))) (eCons (ePl (pIx (pV 5) (eV 2))) (eCons (eVm 3) (eCons (eVm 4) eNil)))))))
    (sSeq (sSt (pV 5) (eV 1) (eOp oIx (eV 6) (eC (.int 0))))
    (sSeq (sSt (pV 5) (eV 2) (eOp oIx (eV 6) (eC (.int 1))))
    (sFrz 5 (sRet (eMake "Program" 5 F_Program___init__ [] (eCons (eAtV 0 "figures") (eCons (eAtV 0 "rows") (eCons (eAtV 0 "columns") (eCons (eV 5) eNil))))))))))))
def F__law_exact_31 : Nat → Fn
  | 0 => fun _ _ => .bad
  | fu + 1 => runF 3 (sSeq (sIf (eTru (eIs2 "tuple" "list" (eV 1))) (sSeq (sIf (eOr (eNot (eTru (eIs "tuple" (eV 0)))) (eT (eOp oNe (eBi kLen (eCons (eV 0) eNil)) (eBi kLen (eCons (eV 1) eNil))))) (sRet (eC (.bl false))) sNil)
    (sRet (eBi kAll (eCons (eFz (eLc [2] (iRg rg1 (eCons (eBi kLen (eCons (eV 1) eNil)) eNil)) (bNm 2) tYesD (eCall 2 (F__law_exact_31 fu) [] (eCons (eOp oIx (eV 0) (eV 2)) (eCons (eOp oIx (eV 1) (eV 2)) eNil))))) eNil)))) sNil)
    (sSeq (sIf (eT (eOp oIsN (eV 1) (eC .non))) (sRet (eOp oIsN (eV 0) (eC .non))) sNil)
    (sSeq (sIf (eTru (eIs "bool" (eV 1))) (sRet (eB (eAnd (eT (eIs "bool" (eV 0))) (eT (eOp oEq (eV 0) (eV 1)))))) sNil)
    (sSeq (sIf (eTru (eIs "int" (eV 1))) (sRet (eB (eAnd (eT (eIs "int" (eV 0))) (eAnd (eT (eB (eNot (eT (eIs "bool" (eV 0)))))) (eT (eOp oEq (eV 0) (eV 1))))))) sNil)
    (sRet (eB (eAnd (eT (eIs "str" (eV 0))) (eT (eOp oEq (eV 0) (eV 1))))))))))
def F__law_lead : Fn := runF 3 (sSeq (sFor (iSeq (eV 1)) (bNm 2) (sIf (eNot (eTru (eCall 2 F__law_zero [] (eCons (eVm 0) (eCons (eVm 2) eNil))))) (sRet (eV 2)) sNil))
    (sRet (eCall 2 F__law_num [] (eCons (eVm 0) (eCons (eC (.int 0)) eNil)))))
def F__law_scaled : Fn := runF 4 (sRet (eBi kTup (eCons (eFz (eLc [3] (iSeq (eV 2)) (bNm 3) tYesD (eCall 3 F__law_times [] (eCons (eVm 0) (eCons (eVm 1) (eCons (eVm 3) eNil)))))) eNil)))
def F__law_plain : Fn := runF 7 (sSeq (sSet 2 (eCall 2 F__law_lead [] (eCons (eVm 0) (eCons (eOp oIx (eV 1) (eC (.int 0))) eNil))))
    (sSeq (sSet 3 (eCall 2 F__law_lead [] (eCons (eVm 0) (eCons (eOp oIx (eV 1) (eC (.int 1))) eNil))))
    (sSeq (sIf (eOr (eTru (eCall 2 F__law_zero [] (eCons (eVm 0) (eCons (eVm 2) eNil)))) (eOr (eTru (eCall 2 F__law_zero [] (eCons (eVm 0) (eCons (eVm 3) eNil)))) (eAnd (eTru (eCall 2 F__law_zero [] (eCons (eVm 0) (eCons (eOp oIx (eV 1) (eC (.int 2))) eNil)))) (eTru (eCall 2 F__law_zero [] (eCons (eVm 0) (eCons (eOp oIx (eV 1) (eC (.int 3))) eNil))))))) (sRet (eC .non)) sNil)
    (sSeq (sSet 4 (eCall 2 F__law_num [] (eCons (eVm 0) (eCons (eC (.int 1)) eNil))))
    (sSeq (sSet 5 (eCall 3 F__law_times [] (eCons (eVm 0) (eCons (eVm 2) (eCons (eVm 3) eNil)))))
    (sSeq (sSet 6 (eCall 3 F__law_scaled [] (eCons (eVm 0) (eCons (eVm 5) (eCons (eTup (eCons (eOp oIx (eV 1) (eC (.int 2))) (eCons (eOp oIx (eV 1) (eC (.int 3))) eNil))) eNil)))))
    (sRet (eTup (eCons (eCall 3 F__law_scaled [] (eCons (eVm 0) (eCons (eCall 3 F__law_over [] (eCons (eVm 0) (eCons (eVm 4) (eCons (eVm 2) eNil)))) (eCons (eOp oIx (eV 1) (eC (.int 0))) eNil)))) (eCons (eCall 3 F__law_scaled [] (eCons (eVm 0) (eCons (eCall 3 F__law_over [] (eCons (eVm 0) (eCons (eVm 4) (eCons (eVm 3) eNil)))) (eCons (eOp oIx (eV 1) (eC (.int 1))) eNil)))) (eCons (eV 6) eNil)))))))))))
def F__law_made : Fn := runF 4 (sRet (eFz (eLst (eCons (eCall 5 F__law_summed [] (eCons (eVm 0) (eCons (eVm 1) (eCons (eVm 2) (eCons (eVm 3) (eCons (eC (.int 2)) eNil)))))) (eCons (eCall 5 F__law_summed [] (eCons (eVm 0) (eCons (eVm 1) (eCons (eVm 2) (eCons (eVm 3) (eCons (eC (.int 3)) eNil)))))) eNil)))))
def F__law_numbers_31 : Fn := runF 4 (sRet (eBi kTup (eCons (eFz (eLc [3] (iRg rg1 (eCons (eV 2) eNil)) (bNm 3) tYesD (eCall 2 F__law_number [] (eCons (eVm 0) (eCons (eVm 1) eNil))))) eNil)))
def F__law_drawn_product : Fn := runF 9 (sSeq (sSet 4 (eCall 3 F__law_numbers_31 [] (eCons (eVm 0) (eCons (eVm 1) (eCons (eVm 2) eNil)))))
    (sSeq (sSet 5 (eCall 3 F__law_numbers_31 [] (eCons (eVm 0) (eCons (eVm 1) (eCons (eVm 3) eNil)))))
    (sSeq (sSet 6 (eCall 3 F__law_numbers_31 [] (eCons (eVm 0) (eCons (eVm 1) (eCons (eC (.int 2)) eNil)))))
    (sSeq (sSet 7 (eCall 2 F__law_take [] (eCons (eVm 0) (eCons (eC (.int 18)) eNil))))
    (sSeq (sSet 8 (eCall 2 F__law_num [] (eCons (eVm 1) (eCons (eC (.int 0)) eNil))))
    (sSeq (sIf (eT (eOp oEq (eV 7) (eC (.int 0)))) (sSet 4 (eFz (eOn oTimes (eTup (eCons (eV 8) eNil)) (eV 2)))) sNil)
    (sSeq (sIf (eT (eOp oEq (eV 7) (eC (.int 1)))) (sSet 5 (eFz (eOn oTimes (eTup (eCons (eV 8) eNil)) (eV 3)))) sNil)
    (sSeq (sIf (eT (eOp oEq (eV 7) (eC (.int 2)))) (sSet 6 (eTup (eCons (eV 8) (eCons (eV 8) eNil)))) sNil)
    (sRet (eTup (eCons (eV 4) (eCons (eV 5) (eCons (eOp oIx (eV 6) (eC (.int 0))) (eCons (eOp oIx (eV 6) (eC (.int 1))) eNil))))))))))))))
def F__law_products_31 : Fn := runF 13 (sSeq (sSet 4 (eLst eNil))
    (sSeq (sFor (iRg rg1 (eCons (eCall 2 F__law_take [] (eCons (eVm 0) (eCons (eC (.int 6)) eNil))) eNil)) (bNm 5) (sSeq (sAsg (bTp [(bNm 6), (bNm 7), (bNm 8), (bNm 9)]) (eCall 4 F__law_drawn_product [] (eCons (eVm 0) (eCons (eVm 1) (eCons (eVm 2) (eCons (eVm 3) eNil))))))
    (sSeq (sSet 10 (eCall 2 F__law_take [] (eCons (eVm 0) (eCons (eC (.int 6)) eNil))))
    (sSeq (sIf (eAnd (eTruP (pV 4)) (eT (eOp oLt (eV 10) (eC (.int 3))))) (sSeq (sSet 11 (eCall 2 F__law_unlike [] (eCons (eVm 0) (eCons (eVm 1) eNil))))
    (sSeq (sSet 12 (ePl (pIx (pV 4) (eUn oNeg (eC (.int 1))))))
    (sIf (eT (eOp oEq (eV 10) (eC (.int 0)))) (sSet 6 (eCall 3 F__law_scaled [] (eCons (eVm 1) (eCons (eVm 11) (eCons (eOp oIx (eV 12) (eC (.int 0))) eNil))))) (sIf (eT (eOp oEq (eV 10) (eC (.int 1)))) (sSet 7 (eCall 3 F__law_scaled [] (eCons (eVm 1) (eCons (eVm 11) (eCons (eOp oIx (eV 12) (eC (.int 1))) eNil))))) (sSeq (sSet 8 (eCall 3 F__law_times [] (eCons (eVm 1) (eCons (eVm 11) (eCons (eOp oIx (eV 12) (eC (.int 2))) eNil)))))
    (sSet 9 (eCall 3 F__law_times [] (eCons (eVm 1) (eCons (eVm 11) (eCons (eOp oIx (eV 12) (eC (.int 3))) eNil)))))))))) sNil)
    (sApp (pV 4) (eTup (eCons (eV 6) (eCons (eV 7) (eCons (eV 8) (eCons (eV 9) eNil))))))))))
    (sFrz 4 (sRet (eV 4)))))
def F__law_resized : Fn := runF 7 (sSeq (sSet 3 (eCall 2 F__law_unlike [] (eCons (eVm 0) (eCons (eVm 1) eNil))))
    (sSeq (sSet 4 (eCall 2 F__law_unlike [] (eCons (eVm 0) (eCons (eVm 1) eNil))))
    (sSeq (sSet 5 (eCall 3 F__law_times [] (eCons (eVm 1) (eCons (eVm 3) (eCons (eVm 4) eNil)))))
    (sSeq (sSet 6 (eFz (eLst (eCons (eCall 3 F__law_over [] (eCons (eVm 1) (eCons (eOp oIx (eV 2) (eC (.int 2))) (eCons (eVm 5) eNil)))) (eCons (eCall 3 F__law_over [] (eCons (eVm 1) (eCons (eOp oIx (eV 2) (eC (.int 3))) (eCons (eVm 5) eNil)))) eNil)))))
    (sRet (eTup (eCons (eCall 3 F__law_scaled [] (eCons (eVm 1) (eCons (eVm 3) (eCons (eOp oIx (eV 2) (eC (.int 0))) eNil)))) (eCons (eCall 3 F__law_scaled [] (eCons (eVm 1) (eCons (eVm 4) (eCons (eOp oIx (eV 2) (eC (.int 1))) eNil)))) (eCons (eOp oIx (eV 6) (eC (.int 0))) (eCons (eOp oIx (eV 6) (eC (.int 1))) eNil))))))))))
def F__law_others : Fn := runF 16 (sSeq (sSet 5 (eLst eNil))
    (sSeq (sFor (iSeq (eV 2)) (bNm 6) (sIns (pV 5) (eCall 2 F__law_take [] (eCons (eVm 0) (eCons (eOp oAdd (eLenP (pV 5)) (eC (.int 1))) eNil))) (eCall 3 F__law_resized [] (eCons (eVm 0) (eCons (eVm 1) (eCons (eVm 6) eNil))))))
    (sSeq (sFor (iRg rg1 (eCons (eCall 2 F__law_take [] (eCons (eVm 0) (eCons (eC (.int 3)) eNil))) eNil)) (bNm 7) (sSeq (sSet 8 (eFz (eOn oTimes (eTup (eCons (eCall 2 F__law_num [] (eCons (eVm 1) (eCons (eC (.int 0)) eNil))) eNil)) (eV 3))))
    (sSeq (sSet 9 (eTup (eCons (eV 8) (eCons (eCall 3 F__law_numbers_31 [] (eCons (eVm 0) (eCons (eVm 1) (eCons (eVm 4) eNil)))) (eCons (eCall 2 F__law_num [] (eCons (eVm 1) (eCons (eC (.int 1)) eNil))) (eCons (eCall 2 F__law_number [] (eCons (eVm 0) (eCons (eVm 1) eNil))) eNil))))))
    (sIns (pV 5) (eCall 2 F__law_take [] (eCons (eVm 0) (eCons (eOp oAdd (eLenP (pV 5)) (eC (.int 1))) eNil))) (eV 9)))))
    (sSeq (sSet 10 (eCall 2 F__law_take [] (eCons (eVm 0) (eCons (eC (.int 6)) eNil))))
    (sSeq (sIf (eAnd (eTruP (pV 5)) (eT (eOp oLt (eV 10) (eC (.int 2))))) (sSeq (sSet 11 (eCall 2 F__law_take [] (eCons (eVm 0) (eCons (eLenP (pV 5)) eNil))))
    (sSeq (sPop (bTp [(bNm 12), (bNm 13), (bNm 14), (bNm 15)]) (pV 5) (eV 11))
    (sIf (eT (eOp oEq (eV 10) (eC (.int 0)))) (sIns (pV 5) (eV 11) (eTup (eCons (eV 12) (eCons (eV 13) (eCons (eV 14) (eCons (eCall 3 F__law_plus [] (eCons (eVm 1) (eCons (eVm 15) (eCons (eCall 2 F__law_num [] (eCons (eVm 1) (eCons (eC (.int 1)) eNil))) eNil)))) eNil)))))) sNil))) sNil)
    (sFrz 5 (sRet (eV 5))))))))
def F__law_matches : Fn := runF 13 (sSeq (sSet 3 (eFz (eLc [4] (iSeq (eV 2)) (bNm 4) tYesD (eCall 2 F__law_plain [] (eCons (eVm 0) (eCons (eVm 4) eNil))))))
    (sSeq (sSet 5 (eLc [6] (iRg rg1 (eCons (eBi kLen (eCons (eV 2) eNil)) eNil)) (bNm 6) (eT (eOp oIsN (eOp oIx (eV 3) (eV 6)) (eC .non))) (eV 6)))
    (sSeq (sSet 7 (eLst eNil))
    (sSeq (sFor (iRg rg1 (eCons (eBi kLen (eCons (eV 1) eNil)) eNil)) (bNm 6) (sSeq (sSet 8 (eCall 2 F__law_plain [] (eCons (eVm 0) (eCons (eOp oIx (eV 1) (eV 6)) eNil))))
    (sSeq (sIf (eT (eOp oIsN (eV 8) (eC .non))) sCt sNil)
    (sSeq (sSet 9 (eFz (eLc [10] (iRg rg1 (eCons (eBi kLen (eCons (eV 2) eNil)) eNil)) (bNm 10) (eAnd (eLendT [5] (eT (eOp oNinP (eV 10) (eV 5)))) (eT (eOp oEq (eOp oIx (eV 3) (eV 10)) (eV 8)))) (eV 10))))
    (sSeq (sIf (eT (eOp oEq (eV 9) (eFz (eLst eNil)))) (sRet (eC .non)) sNil)
    (sSeq (sSet 10 (eOp oIx (eV 9) (eC (.int 0))))
    (sSeq (sApp (pV 5) (eV 10))
    (sSeq (sSet 11 (eCall 3 F__law_over [] (eCons (eVm 0) (eCons (eCall 2 F__law_lead [] (eCons (eVm 0) (eCons (eOp oIx (eOp oIx (eV 2) (eV 10)) (eC (.int 0))) eNil))) (eCons (eCall 2 F__law_lead [] (eCons (eVm 0) (eCons (eOp oIx (eOp oIx (eV 1) (eV 6)) (eC (.int 0))) eNil))) eNil)))))
    (sSeq (sSet 12 (eCall 3 F__law_over [] (eCons (eVm 0) (eCons (eCall 2 F__law_lead [] (eCons (eVm 0) (eCons (eOp oIx (eOp oIx (eV 2) (eV 10)) (eC (.int 1))) eNil))) (eCons (eCall 2 F__law_lead [] (eCons (eVm 0) (eCons (eOp oIx (eOp oIx (eV 1) (eV 6)) (eC (.int 1))) eNil))) eNil)))))
    (sApp (pV 7) (eLst (eCons (eV 6) (eCons (eV 10) (eCons (eV 11) (eCons (eV 12) eNil)))))))))))))))
    (sFrz 7 (sRet (eIf (eT (eOp oEq (eLenP (pV 5)) (eBi kLen (eCons (eV 2) eNil)))) (eV 7) (eC .non))))))))
def F__law_matched : Fn := runF 4 (sSeq (sIf (eT (eOp oIsN (eV 1) (eC .non))) (sRet (eOp oIsN (eV 0) (eC .non))) sNil)
    (sSeq (sIf (eOr (eNot (eTru (eIs "tuple" (eV 0)))) (eT (eOp oNe (eBi kLen (eCons (eV 0) eNil)) (eBi kLen (eCons (eV 1) eNil))))) (sRet (eC (.bl false))) sNil)
    (sSeq (sFor (iRg rg1 (eCons (eBi kLen (eCons (eV 1) eNil)) eNil)) (bNm 2) (sSeq (sSet 3 (eOp oIx (eV 0) (eV 2)))
    (sSeq (sIf (eNot (eTru (eIsC (msOf [("Pair", false), ("Program", false), ("Match", true), ("Shared", false), ("Figures", false)]) false (eV 3)))) (sRet (eC (.bl false))) sNil)
    (sIf (eNot (eTru (eCall 2 (F__law_exact_31 6) [] (eCons (eTup (eCons (eAtV 3 "product") (eCons (eAtV 3 "other") (eCons (eAtV 3 "left") (eCons (eAtV 3 "right") eNil))))) (eCons (eOp oIx (eV 1) (eV 2)) eNil))))) (sRet (eC (.bl false))) sNil))))
    (sRet (eC (.bl true))))))
def F__law_shares : Fn := runF 7 (sSeq (sIf (eOr (eT (eOp oIsN (eCall 2 F__law_plain [] (eCons (eVm 0) (eCons (eVm 1) eNil))) (eC .non))) (eT (eOp oIsN (eCall 2 F__law_plain [] (eCons (eVm 0) (eCons (eVm 2) eNil))) (eC .non)))) (sRet (eC .non)) sNil)
    (sSeq (sSet 4 (eIf (eT (eOp oEq (eV 3) (eC (.str "numbers")))) (eTup (eCons (eOp oIx (eV 1) (eC (.int 2))) (eCons (eOp oIx (eV 1) (eC (.int 3))) eNil))) (eOp oIx (eV 1) (eBi kInt (eCons (eOp oEq (eV 3) (eC (.str "right"))) eNil)))))
    (sSeq (sSet 5 (eIf (eT (eOp oEq (eV 3) (eC (.str "numbers")))) (eTup (eCons (eOp oIx (eV 2) (eC (.int 2))) (eCons (eOp oIx (eV 2) (eC (.int 3))) eNil))) (eOp oIx (eV 2) (eBi kInt (eCons (eOp oEq (eV 3) (eC (.str "right"))) eNil)))))
    (sSeq (sSet 6 (eCall 3 F__law_over [] (eCons (eVm 0) (eCons (eCall 2 F__law_lead [] (eCons (eVm 0) (eCons (eVm 5) eNil))) (eCons (eCall 2 F__law_lead [] (eCons (eVm 0) (eCons (eVm 4) eNil))) eNil)))))
    (sRet (eIf (eT (eOp oEq (eCall 3 F__law_scaled [] (eCons (eVm 0) (eCons (eVm 6) (eCons (eVm 4) eNil)))) (eBi kTup (eCons (eV 5) eNil)))) (eV 6) (eC .non)))))))
def F__law_exchanged : Fn := runF 11 (sSeq (sIf (eT (eOp oEq (eV 3) (eC (.str "left")))) (sSeq (sSet 5 (eCall 3 F__law_scaled [] (eCons (eVm 0) (eCons (eVm 4) (eCons (eOp oIx (eV 2) (eC (.int 1))) eNil)))))
    (sSeq (sSet 6 (eBi kTup (eCons (eFz (eLc [7] (iRg rg1 (eCons (eBi kLen (eCons (eV 5) eNil)) eNil)) (bNm 7) tYesD (eCall 3 F__law_less [] (eCons (eVm 0) (eCons (eOp oIx (eOp oIx (eV 1) (eC (.int 1))) (eV 7)) (eCons (eOp oIx (eV 5) (eV 7)) eNil)))))) eNil)))
    (sSeq (sSet 8 (eTup (eCons (eCall 3 F__law_plus [] (eCons (eVm 0) (eCons (eOp oIx (eV 1) (eC (.int 2))) (eCons (eOp oIx (eV 2) (eC (.int 2))) eNil)))) (eCons (eCall 3 F__law_plus [] (eCons (eVm 0) (eCons (eOp oIx (eV 1) (eC (.int 3))) (eCons (eOp oIx (eV 2) (eC (.int 3))) eNil)))) eNil))))
    (sRet (eFz (eLst (eCons (eTup (eCons (eOp oIx (eV 1) (eC (.int 0))) (eCons (eV 6) (eCons (eOp oIx (eV 1) (eC (.int 2))) (eCons (eOp oIx (eV 1) (eC (.int 3))) eNil))))) (eCons (eFz (eOn oPlus (eTup (eCons (eOp oIx (eV 1) (eC (.int 0))) (eCons (eV 5) eNil))) (eV 8))) eNil)))))))) sNil)
    (sSeq (sSet 5 (eCall 3 F__law_scaled [] (eCons (eVm 0) (eCons (eVm 4) (eCons (eOp oIx (eV 2) (eC (.int 0))) eNil)))))
    (sSeq (sSet 6 (eBi kTup (eCons (eFz (eLc [7] (iRg rg1 (eCons (eBi kLen (eCons (eV 5) eNil)) eNil)) (bNm 7) tYesD (eCall 3 F__law_less [] (eCons (eVm 0) (eCons (eOp oIx (eOp oIx (eV 1) (eC (.int 0))) (eV 7)) (eCons (eOp oIx (eV 5) (eV 7)) eNil)))))) eNil)))
    (sSeq (sSet 9 (eTup (eCons (eV 6) (eCons (eOp oIx (eV 1) (eC (.int 1))) (eCons (eOp oIx (eV 1) (eC (.int 2))) (eCons (eOp oIx (eV 1) (eC (.int 3))) eNil))))))
    (sSeq (sIf (eT (eOp oEq (eV 3) (eC (.str "right")))) (sRet (eFz (eLst (eCons (eV 9) (eCons (eTup (eCons (eV 5) (eCons (eOp oIx (eV 1) (eC (.int 1))) (eCons (eCall 3 F__law_plus [] (eCons (eVm 0) (eCons (eOp oIx (eV 1) (eC (.int 2))) (eCons (eOp oIx (eV 2) (eC (.int 2))) eNil)))) (eCons (eCall 3 F__law_plus [] (eCons (eVm 0) (eCons (eOp oIx (eV 1) (eC (.int 3))) (eCons (eOp oIx (eV 2) (eC (.int 3))) eNil)))) eNil))))) eNil))))) sNil)
    (sSeq (sSet 10 (eBi kTup (eCons (eFz (eLc [7] (iRg rg1 (eCons (eBi kLen (eCons (eOp oIx (eV 1) (eC (.int 1))) eNil)) eNil)) (bNm 7) tYesD (eCall 3 F__law_plus [] (eCons (eVm 0) (eCons (eOp oIx (eOp oIx (eV 1) (eC (.int 1))) (eV 7)) (eCons (eOp oIx (eOp oIx (eV 2) (eC (.int 1))) (eV 7)) eNil)))))) eNil)))
    (sRet (eFz (eLst (eCons (eV 9) (eCons (eTup (eCons (eV 5) (eCons (eV 10) (eCons (eOp oIx (eV 1) (eC (.int 2))) (eCons (eOp oIx (eV 1) (eC (.int 3))) eNil))))) eNil)))))))))))
def F__law_told : Fn := runF 4 (sTry (sRet (eCall 4 F_exchanged_program [] (eCons (eVm 0) (eCons (eVm 1) (eCons (eVm 2) (eCons (eVm 3) eNil)))))) [⟨(msOf [("DividedByNought", false), ("BadFigures", false), ("BadTable", false), ("BadLetters", false), ("BadPair", false), ("Unlike", false), ("BadProgram", false), ("NotShared", true)]), none, (sRet (eC .non))⟩])
def F__law_couple_holds : Fn := runF 12 (sSeq (sSet 5 (eAtV 1 "products"))
    (sSeq (sSet 6 (eCall 4 F__law_shares [] (eCons (eVm 0) (eCons (eOp oIx (eV 5) (eV 2)) (eCons (eOp oIx (eV 5) (eV 3)) (eCons (eVm 4) eNil))))))
    (sSeq (sSet 7 (eCall 4 F__law_told [] (eCons (eVm 1) (eCons (eVm 2) (eCons (eVm 3) (eCons (eVm 4) eNil))))))
    (sSeq (sIf (eT (eOp oIsN (eV 6) (eC .non))) (sRet (eOp oIsN (eV 7) (eC .non))) sNil)
    (sSeq (sIf (eOr (eNot (eTru (eIsC (msOf [("Pair", false), ("Program", true), ("Match", false), ("Shared", false), ("Figures", false)]) false (eV 7)))) (eT (eOp oNe (eAt (eAtV 7 "figures") "prime") (eV 0)))) (sRet (eC (.bl false))) sNil)
    (sSeq (sSet 8 (eCall 5 F__law_exchanged [] (eCons (eVm 0) (eCons (eOp oIx (eV 5) (eV 2)) (eCons (eOp oIx (eV 5) (eV 3)) (eCons (eVm 4) (eCons (eVm 6) eNil)))))))
    (sSeq (sSet 9 (eBi kList (eCons (eV 5) eNil)))
    (sSeq (sSt (pV 9) (eV 2) (eOp oIx (eV 8) (eC (.int 0))))
    (sSeq (sSt (pV 9) (eV 3) (eOp oIx (eV 8) (eC (.int 1))))
    (sSeq (sFrz 9 (sIf (eNot (eTru (eCall 2 (F__law_exact_31 6) [] (eCons (eAtV 7 "products") (eCons (eVm 9) eNil))))) (sRet (eC (.bl false))) sNil))
    (sSeq (sSet 10 (eAtV 1 "rows"))
    (sSeq (sSet 11 (eAtV 1 "columns"))
    (sRet (eOp oEq (eCall 4 F__law_made [] (eCons (eVm 0) (eCons (eVm 10) (eCons (eVm 11) (eCons (eAtV 7 "products") eNil))))) (eCall 4 F__law_made [] (eCons (eVm 0) (eCons (eVm 10) (eCons (eVm 11) (eCons (eVm 5) eNil)))))))))))))))))))
def F__law_all_couples : Fn := runF 11 (sSeq (sSet 3 (eCall 2 F__law_take [] (eCons (eVm 0) (eCons (eC (.int 2)) eNil))))
    (sSeq (sSet 4 (eC .non))
    (sSeq (sSet 5 (eBi kLen (eCons (eAtV 2 "products") eNil)))
    (sSeq (sFor (iRg rg1 (eCons (eV 5) eNil)) (bNm 6) (sFor (iRg rg2 (eCons (eOp oAdd (eV 6) (eC (.int 1))) (eCons (eV 5) eNil))) (bNm 7) (sFor (iSeq (eTup (eCons (eC (.str "left")) (eCons (eC (.str "right")) (eCons (eC (.str "numbers")) eNil))))) (bNm 8) (sSeq (sIf (eAnd (eT (eOp oIsN (eV 4) (eC .non))) (eT (eOp oNotN (eCall 4 F__law_shares [] (eCons (eVm 1) (eCons (eOp oIx (eAtV 2 "products") (eV 6)) (eCons (eOp oIx (eAtV 2 "products") (eV 7)) (eCons (eVm 8) eNil))))) (eC .non)))) (sSet 4 (eFz (eLst (eCons (eV 6) (eCons (eV 7) (eCons (eV 8) eNil)))))) sNil)
    (sSeq (sSet 9 (eIf (eT (eOp oEq (eV 3) (eC (.int 0)))) (eTup (eCons (eV 6) (eCons (eV 7) eNil))) (eTup (eCons (eV 7) (eCons (eV 6) eNil)))))
    (sIf (eNot (eTru (eCall 5 F__law_couple_holds [] (eCons (eVm 1) (eCons (eVm 2) (eCons (eOp oIx (eV 9) (eC (.int 0))) (eCons (eOp oIx (eV 9) (eC (.int 1))) (eCons (eVm 8) eNil)))))))) (sRet (eC (.bl false))) sNil))))))
    (sSeq (sSet 10 (eCall 1 F_shared_side [] (eCons (eVm 2) eNil)))
    (sSeq (sIf (eT (eOp oIsN (eV 4) (eC .non))) (sRet (eOp oIsN (eV 10) (eC .non))) sNil)
    (sRet (eB (eAnd (eT (eIsC (msOf [("Pair", false), ("Program", false), ("Match", false), ("Shared", true), ("Figures", false)]) false (eV 10))) (eT (eCall 2 (F__law_exact_31 6) [] (eCons (eTup (eCons (eAtV 10 "first") (eCons (eAtV 10 "second") (eCons (eAtV 10 "side") eNil)))) (eCons (eVm 4) eNil)))))))))))))
end Pd
namespace N31
open PySem PySem.Spec Fw Pd
def B_law : SF := (sSeq (sSet 2 (eCall 1 F__law_figures [] (eCons (eVm 1) eNil)))
    (sSeq (sSet 3 (eCall 3 F__law_size [] (eCons (eVm 1) (eCons (eVm 2) (eCons (eC (.int 5)) eNil)))))
    (sSeq (sSet 4 (eCall 3 F__law_size [] (eCons (eVm 1) (eCons (eVm 2) (eCons (eC (.int 5)) eNil)))))
    (sSeq (sSet 5 (eCall 4 F__law_products_31 [] (eCons (eVm 1) (eCons (eVm 2) (eCons (eVm 3) (eCons (eVm 4) eNil))))))
    (sSeq (sSet 6 (eCall 5 F__law_others [] (eCons (eVm 1) (eCons (eVm 2) (eCons (eVm 5) (eCons (eVm 3) (eCons (eVm 4) eNil)))))))
    (sSeq (sSet 7 (eMake "Program" 5 F_Program___init__ [] (eCons (eMake "Figures" 2 F_Figures___init__ [] (eCons (eV 2) eNil)) (eCons (eV 3) (eCons (eV 4) (eCons (eFz (eBi kList (eCons (eV 5) eNil))) eNil))))))
    (sSeq (sSet 8 (eMake "Program" 5 F_Program___init__ [] (eCons (eMake "Figures" 2 F_Figures___init__ [] (eCons (eV 2) eNil)) (eCons (eV 3) (eCons (eV 4) (eCons (eBi kTup (eCons (eV 6) eNil)) eNil))))))
    (sSeq (sIf (eNot (eTru (eCall 2 F__law_matched [] (eCons (eCall 2 F_alike_programs [] (eCons (eVm 7) (eCons (eVm 8) eNil))) (eCons (eCall 3 F__law_matches [] (eCons (eVm 2) (eCons (eVm 5) (eCons (eVm 6) eNil)))) eNil))))) (sRet (eC (.bl false))) sNil)
    (sSeq (sIf (eNot (eTru (eCall 2 F__law_matched [] (eCons (eCall 2 F_alike_programs [] (eCons (eVm 8) (eCons (eVm 7) eNil))) (eCons (eCall 3 F__law_matches [] (eCons (eVm 2) (eCons (eVm 6) (eCons (eVm 5) eNil)))) eNil))))) (sRet (eC (.bl false))) sNil)
    (sSeq (sIf (eAnd (eT (eOp oNe (eV 3) (eV 4))) (eT (eOp oNotN (eCall 2 F_alike_programs [] (eCons (eVm 7) (eCons (eMake "Program" 5 F_Program___init__ [] (eCons (eMake "Figures" 2 F_Figures___init__ [] (eCons (eV 2) eNil)) (eCons (eV 4) (eCons (eV 3) (eCons (eTup eNil) eNil))))) eNil))) (eC .non)))) (sRet (eC (.bl false))) sNil)
    (sSeq (sIf (eNot (eTru (eCall 3 F__law_all_couples [] (eCons (eVm 1) (eCons (eVm 2) (eCons (eVm 7) eNil)))))) (sRet (eC (.bl false))) sNil)
    (sRet (eB (eAnd (eT (eCall 2 (F__law_exact_31 6) [] (eCons (eAtV 7 "products") (eCons (eVm 5) eNil)))) (eT (eCall 2 (F__law_exact_31 6) [] (eCons (eAtV 8 "products") (eCons (eVm 6) eNil))))))))))))))))))
end N31
namespace N31
open PySem PySem.Spec PyProof.Rows L2 Fw Pd
def top (i : Nat) : Stmt := PySem.Challenge.pw_sparedproducts_k31_whole_programs_alike.main.body.getD i (.Pass ⟨0, 0, 0, 0⟩)
def fn0 : List He.DefD := [⟨("is_whole", none), "is_whole", "is_whole", defArgs (top 13), defBody (top 13), defScope (top 13), [.non, .non], []⟩,
  ⟨("is_sequence", none), "is_sequence", "is_sequence", defArgs (top 14), defBody (top 14), defScope (top 14), [], []⟩,
  ⟨("is_ratio", none), "is_ratio", "is_ratio", defArgs (top 15), defBody (top 15), defScope (top 15), [], []⟩,
  ⟨("in_lowest_terms", none), "in_lowest_terms", "in_lowest_terms", defArgs (top 16), defBody (top 16), defScope (top 16), [], []⟩,
  ⟨("ratio_plus", none), "ratio_plus", "ratio_plus", defArgs (top 17), defBody (top 17), defScope (top 17), [], []⟩,
  ⟨("ratio_minus", none), "ratio_minus", "ratio_minus", defArgs (top 18), defBody (top 18), defScope (top 18), [], []⟩,
  ⟨("ratio_times", none), "ratio_times", "ratio_times", defArgs (top 19), defBody (top 19), defScope (top 19), [], []⟩,
  ⟨("ratio_over", none), "ratio_over", "ratio_over", defArgs (top 20), defBody (top 20), defScope (top 20), [], []⟩,
  ⟨("over_one_bottom", none), "over_one_bottom", "over_one_bottom", defArgs (top 22), defBody (top 22), defScope (top 22), [], []⟩,
  ⟨("summed_wholes", none), "summed_wholes", "summed_wholes", defArgs (top 23), defBody (top 23), defScope (top 23), [], []⟩,
  ⟨("zero_row", none), "zero_row", "zero_row", defArgs (top 25), defBody (top 25), defScope (top 25), [], []⟩,
  ⟨("Figures", some "plus"), "plus", "Figures.plus", defArgs (inClass (top 73) 2), defBody (inClass (top 73) 2), defScope (inClass (top 73) 2), [], []⟩,
  ⟨("row_sum", none), "row_sum", "row_sum", defArgs (top 26), defBody (top 26), defScope (top 26), [], []⟩,
  ⟨("Figures", some "times"), "times", "Figures.times", defArgs (inClass (top 73) 4), defBody (inClass (top 73) 4), defScope (inClass (top 73) 4), [], []⟩,
  ⟨("row_scaled", none), "row_scaled", "row_scaled", defArgs (top 27), defBody (top 27), defScope (top 27), [], []⟩]
def fn1 : List He.DefD := [⟨("summed_lines", none), "summed_lines", "summed_lines", defArgs (top 30), defBody (top 30), defScope (top 30), [], []⟩,
  ⟨("whole_line", none), "whole_line", "whole_line", defArgs (top 29), defBody (top 29), defScope (top 29), [], []⟩,
  ⟨("summed_products", none), "summed_products", "summed_products", defArgs (top 28), defBody (top 28), defScope (top 28), [], []⟩,
  ⟨("column_led", none), "column_led", "column_led", defArgs (top 31), defBody (top 31), defScope (top 31), [], []⟩,
  ⟨("flipped_table", none), "flipped_table", "flipped_table", defArgs (top 34), defBody (top 34), defScope (top 34), [], []⟩,
  ⟨("row_times", none), "row_times", "row_times", defArgs (top 33), defBody (top 33), defScope (top 33), [], []⟩,
  ⟨("table_times", none), "table_times", "table_times", defArgs (top 32), defBody (top 32), defScope (top 32), [], []⟩,
  ⟨("fits_count", none), "fits_count", "fits_count", defArgs (top 37), defBody (top 37), defScope (top 37), [], []⟩,
  ⟨("Figures", some "is_number"), "is_number", "Figures.is_number", defArgs (inClass (top 73) 10), defBody (inClass (top 73) 10), defScope (inClass (top 73) 10), [], []⟩,
  ⟨("all_are_numbers", none), "all_are_numbers", "all_are_numbers", defArgs (top 39), defBody (top 39), defScope (top 39), [], []⟩,
  ⟨("check_table", none), "check_table", "check_table", defArgs (top 38), defBody (top 38), defScope (top 38), [.non, .non], []⟩,
  ⟨("check_letters", none), "check_letters", "check_letters", defArgs (top 40), defBody (top 40), defScope (top 40), [], []⟩,
  ⟨("check_width", none), "check_width", "check_width", defArgs (top 42), defBody (top 42), defScope (top 42), [], []⟩,
  ⟨("Pair", some "__init__"), "__init__", "Pair.__init__", defArgs (inClass (top 43) 0), defBody (inClass (top 43) 0), defScope (inClass (top 43) 0), [], []⟩,
  ⟨("is_side", none), "is_side", "is_side", defArgs (top 46), defBody (top 46), defScope (top 46), [], []⟩]
def fn2 : List He.DefD := [⟨("is_number_row", none), "is_number_row", "is_number_row", defArgs (top 47), defBody (top 47), defScope (top 47), [], []⟩,
  ⟨("check_product", none), "check_product", "check_product", defArgs (top 48), defBody (top 48), defScope (top 48), [], []⟩,
  ⟨("Program", some "__init__"), "__init__", "Program.__init__", defArgs (inClass (top 49) 0), defBody (inClass (top 49) 0), defScope (inClass (top 49) 0), [], []⟩,
  ⟨("Program", some "__len__"), "__len__", "Program.__len__", defArgs (inClass (top 49) 2), defBody (inClass (top 49) 2), defScope (inClass (top 49) 2), [], []⟩,
  ⟨("Program", some "__iter__"), "__iter__", "Program.__iter__", defArgs (inClass (top 49) 3), defBody (inClass (top 49) 3), defScope (inClass (top 49) 3), [], []⟩,
  ⟨("first_not_zero", none), "first_not_zero", "first_not_zero", defArgs (top 51), defBody (top 51), defScope (top 51), [], []⟩,
  ⟨("does_something", none), "does_something", "does_something", defArgs (top 52), defBody (top 52), defScope (top 52), [], []⟩,
  ⟨("Match", some "__init__"), "__init__", "Match.__init__", defArgs (inClass (top 55) 0), defBody (inClass (top 55) 0), defScope (inClass (top 55) 0), [], []⟩,
  ⟨("Shared", some "__init__"), "__init__", "Shared.__init__", defArgs (inClass (top 56) 0), defBody (inClass (top 56) 0), defScope (inClass (top 56) 0), [], []⟩,
  ⟨("undone_rest", none), "undone_rest", "undone_rest", defArgs (top 72), defBody (top 72), defScope (top 72), [], []⟩,
  ⟨("Figures", some "over"), "over", "Figures.over", defArgs (inClass (top 73) 5), defBody (inClass (top 73) 5), defScope (inClass (top 73) 5), [], []⟩,
  ⟨("size_between", none), "size_between", "size_between", defArgs (top 57), defBody (top 57), defScope (top 57), [], []⟩,
  ⟨("side_of", none), "side_of", "side_of", defArgs (top 58), defBody (top 58), defScope (top 58), [], []⟩,
  ⟨("sizes_if_alike", none), "sizes_if_alike", "sizes_if_alike", defArgs (top 59), defBody (top 59), defScope (top 59), [], []⟩,
  ⟨("doing_places", none), "doing_places", "doing_places", defArgs (top 60), defBody (top 60), defScope (top 60), [], []⟩]
def fn3 : List He.DefD := [⟨("first_match", none), "first_match", "first_match", defArgs (top 61), defBody (top 61), defScope (top 61), [], []⟩,
  ⟨("Figures", some "__eq__"), "__eq__", "Figures.__eq__", defArgs (inClass (top 73) 1), defBody (inClass (top 73) 1), defScope (inClass (top 73) 1), [], []⟩,
  ⟨("alike_programs", none), "alike_programs", "alike_programs", defArgs (top 62), defBody (top 62), defScope (top 62), [], []⟩,
  ⟨("side_size", none), "side_size", "side_size", defArgs (top 63), defBody (top 63), defScope (top 63), [], []⟩,
  ⟨("shared_of_two", none), "shared_of_two", "shared_of_two", defArgs (top 64), defBody (top 64), defScope (top 64), [], []⟩,
  ⟨("shared_side", none), "shared_side", "shared_side", defArgs (top 65), defBody (top 65), defScope (top 65), [], []⟩,
  ⟨("check_shared", none), "check_shared", "check_shared", defArgs (top 66), defBody (top 66), defScope (top 66), [], []⟩,
  ⟨("Figures", some "minus"), "minus", "Figures.minus", defArgs (inClass (top 73) 3), defBody (inClass (top 73) 3), defScope (inClass (top 73) 3), [], []⟩,
  ⟨("row_less", none), "row_less", "row_less", defArgs (top 67), defBody (top 67), defScope (top 67), [], []⟩,
  ⟨("exchanged_products", none), "exchanged_products", "exchanged_products", defArgs (top 68), defBody (top 68), defScope (top 68), [], []⟩,
  ⟨("exchanged_program", none), "exchanged_program", "exchanged_program", defArgs (top 69), defBody (top 69), defScope (top 69), [], []⟩,
  ⟨("Figures", some "__init__"), "__init__", "Figures.__init__", defArgs (inClass (top 73) 0), defBody (inClass (top 73) 0), defScope (inClass (top 73) 0), [], []⟩,
  ⟨("_law_hand", none), "_law_hand", "_law_hand", defArgs (top 75), defBody (top 75), defScope (top 75), [], []⟩,
  ⟨("_law_mixed", none), "_law_mixed", "_law_mixed", defArgs (top 76), defBody (top 76), defScope (top 76), [], []⟩,
  ⟨("_law_take", none), "_law_take", "_law_take", defArgs (top 77), defBody (top 77), defScope (top 77), [], []⟩]
def fn4 : List He.DefD := [⟨("_law_gcd", none), "_law_gcd", "_law_gcd", defArgs (top 78), defBody (top 78), defScope (top 78), [], []⟩,
  ⟨("_law_ratio", none), "_law_ratio", "_law_ratio", defArgs (top 79), defBody (top 79), defScope (top 79), [], []⟩,
  ⟨("_law_num", none), "_law_num", "_law_num", defArgs (top 80), defBody (top 80), defScope (top 80), [], []⟩,
  ⟨("_law_plus", none), "_law_plus", "_law_plus", defArgs (top 81), defBody (top 81), defScope (top 81), [], []⟩,
  ⟨("_law_times", none), "_law_times", "_law_times", defArgs (top 82), defBody (top 82), defScope (top 82), [], []⟩,
  ⟨("_law_less", none), "_law_less", "_law_less", defArgs (top 83), defBody (top 83), defScope (top 83), [], []⟩,
  ⟨("_law_over", none), "_law_over", "_law_over", defArgs (top 84), defBody (top 84), defScope (top 84), [], []⟩,
  ⟨("_law_zero", none), "_law_zero", "_law_zero", defArgs (top 85), defBody (top 85), defScope (top 85), [], []⟩,
  ⟨("_law_blank", none), "_law_blank", "_law_blank", defArgs (top 86), defBody (top 86), defScope (top 86), [], []⟩,
  ⟨("_law_summed", none), "_law_summed", "_law_summed", defArgs (top 87), defBody (top 87), defScope (top 87), [], []⟩,
  ⟨("_law_figures", none), "_law_figures", "_law_figures", defArgs (top 88), defBody (top 88), defScope (top 88), [], []⟩,
  ⟨("_law_number", none), "_law_number", "_law_number", defArgs (top 89), defBody (top 89), defScope (top 89), [], []⟩,
  ⟨("_law_unlike", none), "_law_unlike", "_law_unlike", defArgs (top 90), defBody (top 90), defScope (top 90), [], []⟩,
  ⟨("_law_size", none), "_law_size", "_law_size", defArgs (top 91), defBody (top 91), defScope (top 91), [], []⟩,
  ⟨("_law_exact", none), "_law_exact", "_law_exact", defArgs (top 92), defBody (top 92), defScope (top 92), [], []⟩]
def fn5 : List He.DefD := [⟨("_law_lead", none), "_law_lead", "_law_lead", defArgs (top 93), defBody (top 93), defScope (top 93), [], []⟩,
  ⟨("_law_scaled", none), "_law_scaled", "_law_scaled", defArgs (top 94), defBody (top 94), defScope (top 94), [], []⟩,
  ⟨("_law_plain", none), "_law_plain", "_law_plain", defArgs (top 95), defBody (top 95), defScope (top 95), [], []⟩,
  ⟨("_law_made", none), "_law_made", "_law_made", defArgs (top 96), defBody (top 96), defScope (top 96), [], []⟩,
  ⟨("_law_numbers", none), "_law_numbers", "_law_numbers", defArgs (top 97), defBody (top 97), defScope (top 97), [], []⟩,
  ⟨("_law_drawn_product", none), "_law_drawn_product", "_law_drawn_product", defArgs (top 98), defBody (top 98), defScope (top 98), [], []⟩,
  ⟨("_law_products", none), "_law_products", "_law_products", defArgs (top 99), defBody (top 99), defScope (top 99), [], []⟩,
  ⟨("_law_resized", none), "_law_resized", "_law_resized", defArgs (top 100), defBody (top 100), defScope (top 100), [], []⟩,
  ⟨("_law_others", none), "_law_others", "_law_others", defArgs (top 101), defBody (top 101), defScope (top 101), [], []⟩,
  ⟨("_law_matches", none), "_law_matches", "_law_matches", defArgs (top 102), defBody (top 102), defScope (top 102), [], []⟩,
  ⟨("_law_matched", none), "_law_matched", "_law_matched", defArgs (top 103), defBody (top 103), defScope (top 103), [], []⟩,
  ⟨("_law_shares", none), "_law_shares", "_law_shares", defArgs (top 104), defBody (top 104), defScope (top 104), [], []⟩,
  ⟨("_law_exchanged", none), "_law_exchanged", "_law_exchanged", defArgs (top 105), defBody (top 105), defScope (top 105), [], []⟩,
  ⟨("_law_told", none), "_law_told", "_law_told", defArgs (top 106), defBody (top 106), defScope (top 106), [], []⟩,
  ⟨("_law_couple_holds", none), "_law_couple_holds", "_law_couple_holds", defArgs (top 107), defBody (top 107), defScope (top 107), [], []⟩]
def fn6 : List He.DefD := [⟨("_law_all_couples", none), "_law_all_couples", "_law_all_couples", defArgs (top 108), defBody (top 108), defScope (top 108), [], []⟩,
  ⟨("law", none), "law", "law", defArgs (top 109), defBody (top 109), defScope (top 109), [], []⟩,
  ⟨("BadFigures", some "__init__"), "__init__", "BadFigures.__init__", defArgs (inClass (top 5) 0), defBody (inClass (top 5) 0), defScope (inClass (top 5) 0), [], []⟩,
  ⟨("BadTable", some "__init__"), "__init__", "BadTable.__init__", defArgs (inClass (top 6) 0), defBody (inClass (top 6) 0), defScope (inClass (top 6) 0), [], []⟩,
  ⟨("BadLetters", some "__init__"), "__init__", "BadLetters.__init__", defArgs (inClass (top 7) 0), defBody (inClass (top 7) 0), defScope (inClass (top 7) 0), [], []⟩,
  ⟨("BadPair", some "__init__"), "__init__", "BadPair.__init__", defArgs (inClass (top 8) 0), defBody (inClass (top 8) 0), defScope (inClass (top 8) 0), [], []⟩,
  ⟨("BadProgram", some "__init__"), "__init__", "BadProgram.__init__", defArgs (inClass (top 10) 0), defBody (inClass (top 10) 0), defScope (inClass (top 10) 0), [], []⟩]
def fns : List He.DefD := fn0 ++ fn1 ++ fn2 ++ fn3 ++ fn4 ++ fn5 ++ fn6
def gls : List Str := (["is_whole", "is_sequence", "is_ratio", "in_lowest_terms", "ratio_plus", "ratio_minus", "ratio_times", "ratio_over", "over_one_bottom", "summed_wholes", "zero_row", "row_sum", "row_scaled", "summed_products", "whole_line", "summed_lines", "column_led", "table_times", "row_times", "flipped_table", "fits_count", "check_table", "all_are_numbers", "check_letters", "check_width"] : List Str) ++ (["is_side", "is_number_row", "check_product", "answer_table", "first_not_zero", "does_something", "size_between", "side_of", "sizes_if_alike", "doing_places", "first_match", "alike_programs", "side_size", "shared_of_two", "shared_side", "check_shared", "row_less", "exchanged_products", "exchanged_program", "undone_rest", "_law_hand", "_law_mixed", "_law_take", "_law_gcd", "_law_ratio"] : List Str) ++ (["_law_num", "_law_plus", "_law_times", "_law_less", "_law_over", "_law_zero", "_law_blank", "_law_summed", "_law_figures", "_law_number", "_law_unlike", "_law_size", "_law_exact", "_law_lead", "_law_scaled", "_law_plain", "_law_made", "_law_numbers", "_law_drawn_product", "_law_products", "_law_resized", "_law_others", "_law_matches", "_law_matched", "_law_shares"] : List Str) ++ (["_law_exchanged", "_law_told", "_law_couple_holds", "_law_all_couples", "law", "SIDES", "OFFERED", "PairError", "DividedByNought", "BadFigures", "BadTable", "BadLetters", "BadPair", "Unlike", "BadProgram", "NotShared", "Pair", "Program", "Match", "Shared", "Figures"] : List Str)
def tb : Tb where
  fn := fns
  gl := gls
  frs := (["abs", "all", "bool", "enumerate", "int", "isinstance", "iter", "len", "list", "max", "min", "range", "str", "sum", "tuple", "zip"] : List Str)
  nI := [("MOST_ROWS", 5), ("MOST_PRODUCTS", 30)]
  nS := []
  nT := [("SIDES", [.str "left", .str "right", .str "numbers"]), ("OFFERED", [.int 0, .int 2, .int 3, .int 5, .int 7, .int 11, .int 13])]
  cls := [⟨"Pair", ["figures", "first", "second", "rows", "columns"], ["answers"]⟩, ⟨"Program", ["figures", "rows", "columns", "products"], ["pair"]⟩, ⟨"Match", ["product", "other", "left", "right"], []⟩, ⟨"Shared", ["first", "second", "side"], []⟩, ⟨"Figures", ["prime", "zero", "one"], ["plus", "minus", "times", "over", "is_number"]⟩]
  bas := "PairError"
  errs := ["DividedByNought", "BadFigures", "BadTable", "BadLetters", "BadPair", "Unlike", "BadProgram", "NotShared"]
  bare := ["DividedByNought", "Unlike", "NotShared"]
  ini := [("BadFigures", ["prime"]), ("BadTable", ["index", "what"]), ("BadLetters", ["what", "index"]), ("BadPair", ["what"]), ("BadProgram", ["index", "what"])]
  exm := [("DividedByNought", "NotShared", false), ("BadFigures", "NotShared", false), ("BadTable", "NotShared", false), ("BadLetters", "NotShared", false), ("BadPair", "NotShared", false), ("Unlike", "NotShared", false), ("BadProgram", "NotShared", false), ("NotShared", "NotShared", true)]
  kit := [("Pair", "Figures", false), ("Program", "Figures", false), ("Match", "Figures", false), ("Shared", "Figures", false), ("Figures", "Figures", true), ("Pair", "Match", false), ("Program", "Match", false), ("Match", "Match", true), ("Shared", "Match", false), ("Figures", "Match", false), ("Pair", "Program", false), ("Program", "Program", true), ("Match", "Program", false), ("Shared", "Program", false), ("Figures", "Program", false), ("Pair", "Shared", false), ("Program", "Shared", false), ("Match", "Shared", false), ("Shared", "Shared", true), ("Figures", "Shared", false)]
  spc := [("Program", "__len__"), ("Program", "__iter__"), ("Figures", "__eq__")]
  nes := ["Figures"]
  vcl := []
section
variable {P : Program} {w : World} {K : PySem.W.Frag} {mg : Str → Option Value} {base : Heap}
theorem tupOk_SIDES (T : Fs tb K mg) : mg "SIDES" = some (.ref (He.ga K "SIDES")) ∧ ∀ ha G, Dq ⟨K, mg, none⟩ ha G (.ref (He.ga K "SIDES")) (.tup tup_SIDES) := ⟨T.gl 80 "SIDES" rfl, fun ha G => .tup (T.tup 0 _ rfl G) (.cons (.str _) (.cons (.str _) (.cons (.str _) .nil)))⟩
theorem tupOk_OFFERED (T : Fs tb K mg) : mg "OFFERED" = some (.ref (He.ga K "OFFERED")) ∧ ∀ ha G, Dq ⟨K, mg, none⟩ ha G (.ref (He.ga K "OFFERED")) (.tup tup_OFFERED) := ⟨T.gl 81 "OFFERED" rfl, fun ha G => .tup (T.tup 1 _ rfl G) (.cons (.int _) (.cons (.int _) (.cons (.int _) (.cons (.int _) (.cons (.int _) (.cons (.int _) (.cons (.int _) .nil)))))))⟩
theorem er_DividedByNought (T : Fs tb K mg) : EA0 ⟨K, mg, none⟩ "DividedByNought" := ea0 T 0 0 83 rfl rfl rfl
theorem er_BadFigures (T : Fs tb K mg) : EA1 P w ⟨K, mg, none⟩ base "BadFigures" "prime" := by
  obtain ⟨fd, D⟩ : ∃ fd, FunD K "__init__" "BadFigures.__init__" (defArgs (inClass (top 5) 0)) (defBody (inClass (top 5) 0)) (defScope (inClass (top 5) 0)) [] [] (He.ma K (He.ga K "BadFigures") "__init__") fd := T.says.def_ 92 rfl
  exact ea1 T 1 0 84 rfl rfl rfl (FunD.ok D (N := ["self", "prime"]) ⟨rfl, rfl, rfl, by decide +kernel, rfl, by decide +kernel, by decide +kernel⟩ (fun vs H Q E h => lenN h) (fun cdv A outer s H vs Q E hr h => ⟨_, PSs.nox (pss_one (ps_ost (pv 0) (pv 1))), Ky.rd1 rfl (T.er 1 _ rfl) (noatI T 0 rfl (by decide)) h⟩)) (FunD.bindsN D (fun _ _ _ _ _ _ us hl => match us, hl with | [_, _], _ => rfl))
theorem er_Unlike (T : Fs tb K mg) : EA0 ⟨K, mg, none⟩ "Unlike" := ea0 T 5 1 88 rfl rfl rfl
theorem er_BadProgram (T : Fs tb K mg) : EA2 P w ⟨K, mg, none⟩ base "BadProgram" "index" "what" := by
  obtain ⟨fd, D⟩ : ∃ fd, FunD K "__init__" "BadProgram.__init__" (defArgs (inClass (top 10) 0)) (defBody (inClass (top 10) 0)) (defScope (inClass (top 10) 0)) [] [] (He.ma K (He.ga K "BadProgram") "__init__") fd := T.says.def_ 96 rfl
  exact ea2 T 6 4 89 rfl rfl rfl (FunD.ok D (N := ["self", "index", "what"]) ⟨rfl, rfl, rfl, by decide +kernel, rfl, by decide +kernel, by decide +kernel⟩ (fun vs H Q E h => lenN h) (fun cdv A outer s H vs Q E hr h => ⟨_, PSs.nox (pss_cons (ps_ost (pv 0) (pv 1)) (pss_one (ps_ost (pv 0) (pv 2)))), Ky.rd2 rfl (T.er 6 _ rfl) (noatI T 4 rfl (by decide)) (noatI T 4 rfl (by decide)) h⟩)) (FunD.bindsN D (fun _ _ _ _ _ _ us hl => match us, hl with | [_, _, _], _ => rfl))
theorem er_NotShared (T : Fs tb K mg) : EA0 ⟨K, mg, none⟩ "NotShared" := ea0 T 7 2 90 rfl rfl rfl
theorem it_Program (T : Fs tb K mg) : ItA P w K mg (He.ga K "Program") (He.ma K (He.ga K "Program") "__iter__") "products" := by
  obtain ⟨fd, D⟩ : ∃ fd, FunD K "__iter__" "Program.__iter__" (defArgs (inClass (top 49) 3)) (defBody (inClass (top 49) 3)) (defScope (inClass (top 49) 3)) [] [] (He.ma K (He.ga K "Program") "__iter__") fd := T.says.def_ 34 rfl
  exact ⟨⟨fd, ["self"], fun B => FunD.ok D (N := ["self"]) ⟨rfl, rfl, rfl, by decide +kernel, rfl, by decide +kernel, by decide +kernel⟩ (fun vs H Q E h => len_it (Q := Q) (E := E) h) (fun cdv A outer s H vs Q E hr h => ⟨_, PSs.nox (pss_one (ps_ret (pe_callB Wi.call_iterT (by rfl) (T.fr 6 "iter" rfl) (by decide +kernel) (pa_cons (pe_fld (pv 0) rfl) pa_nil)))), rd_iter (N := ["self"]) (E := E) rfl h⟩), FunD.bindsN D (fun _ _ _ _ _ _ us hl => match us, hl with | [_], _ => rfl)⟩⟩
theorem scH : FnScope ["_law_script", "_law_total", "_law_cells", "_law_cell"] ["_law_script"] (defScope (top 75)) := ⟨rfl, rfl, rfl, by decide +kernel, rfl, by decide +kernel, by decide +kernel⟩
theorem ok_hand {fd : FuncData} {f : Addr} (T : Fs tb K mg) (F : FunD K "_law_hand" "_law_hand" (defArgs (top 75)) (defBody (top 75)) (defScope (top 75)) [] [] f fd) : FnOk P w K mg base CX0 1 f fd ["_law_script"] (spHand K) := by
  refine F.ok scH (fun vs H Q E h => ?_) (fun cdv A outer s H vs Q E hr h => ?_)
  · obtain ⟨a, ns, rfl, _⟩ := h
    rfl
  · obtain ⟨a, ns, rfl, hS, hlen, k⟩ := h
    refine ⟨_, PSs.nox (pss_cons (ps_set (i := 1) scH.nd rfl (Or.inl rfl) (pe_op op_add (pe_callB call_len (by rfl) (T.fr 7 "len" rfl) PySem.boot_len (pa_cons (pv 0) pa_nil)) pe_int))
      (pss_cons (ps_set (i := 2) scH.nd rfl (Or.inl rfl) (pe_lst pa_nil))
      (pss_cons (ps_for PassesOwn.never rfl (pi_list (pv 0)) (pg_name (i := 3) scH.nd rfl (Or.inl rfl))
        (pss_cons (ps_set (i := 1) scH.nd rfl (Or.inl rfl) (pe_op op_mod (pe_callTy call_int1 (by rfl) (T.fr 4 "int" rfl) PyProof.Rows.boot_int (pa_cons (pe_op op_add (pe_op op_mul (pv 1) pe_int) (pe_callTy call_int1 (by rfl) (T.fr 4 "int" rfl) PyProof.Rows.boot_int (pa_cons (pv 3) pa_nil))) pa_nil)) pe_int))
        (pss_one (ps_expr (pe_bm PySem.F.plainAttrs_list PySem.F.slot_list_append PySem.F.type_list_append mt_append (pv 2) (pa_cons (pe_callB call_abs (by rfl) (T.fr 0 "abs" rfl) (by decide +kernel) (pa_cons (pe_callTy call_int1 (by rfl) (T.fr 4 "int" rfl) PyProof.Rows.boot_int (pa_cons (pv 3) pa_nil)) pa_nil)) pa_nil))))))
      (pss_one (ps_ret (pe_lst (pa_cons (pv 2) (pa_cons pe_int (pa_cons pe_int (pa_cons (pv 1) pa_nil)))))))))), ?_⟩
    have hn2 : (ns.map V.int).length ≤ 63 := by rw [List.length_map]; exact hlen
    refine ⟨_, rfl, _, _, rfl, Or.inl ⟨_, hS, rfl⟩, _, _, rfl, rfl, Nat.zero_le _, fun c hc => ?_⟩
    have s0 : Same H (upd H c (.lst [])) := fun b o e => by
      rw [upd_ne (ne_of_none e hc)]
      exact e
    refine ⟨_, rfl, a, rfl, ⟨_, s0.seq hS⟩, for_list (K := K) (a := a) (xs := ns.map V.int) (fun i σ H2 => ∃ (cs : List Int) (t : Int) (v : Option V), σ = [some (.ref a), some (.int t), some (.ref c), v] ∧ Same H H2 ∧ H2 c = some (.lst (cs.map V.int)) ∧ (∀ z ∈ cs, 0 ≤ z) ∧ cs.length = i ∧ 0 ≤ t ∧ t < 2147483648)
      ⟨[], _, none, rfl, s0, upd_same, (fun z hz => nomatch hz), rfl, by omega, by omega⟩ (fun i σ H2 _ ⟨_, _, _, _, s2, _⟩ => s2.seq hS) ?_ ?_⟩
    · rintro i y σ H2 hi ⟨cs, t, v, rfl, s2, h2, hz, hk, t0, t1⟩
      obtain ⟨z, rfl⟩ : ∃ z, y = V.int z := by
        rw [List.getElem?_map] at hi
        cases e : ns[i]? with
        | none =>
          rw [e] at hi
          cases hi
        | some z =>
          rw [e] at hi
          exact ⟨z, (Option.some.inj hi).symm⟩
      have hil : i < (ns.map V.int).length := (List.getElem?_eq_some_iff.mp hi).1
      refine ⟨_, rfl, _, _, rfl, rfl, .inr ⟨by decide, by decide⟩, _, rfl, .inl ⟨_, rfl, _, _, rfl, rfl, .inl ⟨_, rfl, _, _, rfl, rfl, (by show (0 : Int) < 2147483563; decide), ?_⟩⟩⟩
      refine ⟨_, rfl, .inl ⟨rfl, _, SqL.of h2⟩, _, rfl, .inl ⟨_, rfl, _, rfl, c, _, _, rfl, rfl, h2, ?_, ?_⟩⟩
      · rw [List.length_map]
        exact small1000 (by omega)
      · refine ⟨cs ++ [if z < 0 then -z else z], _, _, rfl, ?_, ?_, ?_, ?_, ?_, ?_⟩
        · intro b o e
          by_cases hb : b = c
          · rw [hb, hc] at e
            cases e
          · rw [upd_ne hb]
            exact s2 b o e
        · rw [upd_same, List.map_append]
          rfl
        · intro x hx
          rcases List.mem_append.mp hx with hx | hx
          · exact hz x hx
          · rw [List.mem_singleton.mp hx]
            split <;> omega
        · rw [List.length_append, hk]
          rfl
        · exact Int.emod_nonneg _ (by decide)
        · exact Int.lt_trans (Int.emod_lt_of_pos _ (by decide)) (by decide)
    · rintro σ H2 ⟨cs, t, v, rfl, s2, h2, hz, hk, t0, t1⟩
      refine ⟨_, rfl, _, rfl, (by show 4 ≤ sizeLine; decide), fun p hp => ?_⟩
      have hcp : c ≠ p := ne_of_none h2 hp
      refine k p c cs t _ (fun b o e => ?_) ⟨upd_same, by rw [upd_ne hcp]; exact h2, hz, by omega, t0, t1⟩
      rw [upd_ne (ne_of_none (s2 b o e) hp)]
      exact s2 b o e
theorem hand_ok (T : Fs tb K mg) : HandOk P w K mg base (He.ga K "_law_hand") := by
  obtain ⟨fd, D⟩ : ∃ fd, FunD K "_law_hand" "_law_hand" (defArgs (top 75)) (defBody (top 75)) (defScope (top 75)) [] [] (He.ga K "_law_hand") fd := T.says.def_ 57 rfl
  exact ⟨⟨fd, ok_hand T D, FunD.bindsN D (fun _ _ _ _ _ _ us hl => match us, hl with | [_], _ => rfl)⟩, D.kp⟩
end
end N31
namespace Kf
open PySem PySem.Spec PyProof.Rows L2 Kx
def hookL (as : List Addr) (ck : PySem.W.Frag → Bool) (fn : List He.DefD) : PySem.W.Hook where
  α := Bool × He.AlD
  obs := fun s => (ck (He.frG s.heap.get? as), He.obsD [] fn (He.frG s.heap.get? as))
  val := fun _ => (true, He.valD fn)
  says := fun _ h => ∃ K : PySem.W.Frag, K.In h ∧ ck K = true ∧ He.SaysD [] fn K
  of := fun _ _ e => ⟨_, He.frG_in, (Prod.mk.inj e).1, (Prod.mk.inj e).2⟩
  keeps := fun _ _ _ ⟨K, hK, c⟩ k => ⟨K, PySem.W.Frag.In.keeps hK k, c⟩
def obL (as : List Addr) (ck : PySem.W.Frag → Bool) (fn : List He.DefD) (g : Addr → Option Obj) : Bool × He.AlD := (ck (He.frG g as), He.obsD [] fn (He.frG g as))
theorem obL_eq {as : List Addr} {ck : PySem.W.Frag → Bool} {fn : List He.DefD} {g : Addr → Option Obj} {s : Shared} (h : ∀ a, g a = s.heap.get? a) : obL as ck fn g = (hookL as ck fn).obs s := by
  have e : g = s.heap.get? := funext h
  rw [e] <;> rfl
end Kf
namespace X31
open PySem PySem.Spec PyProof.Rows L2 Fw Kf
def loose : List Str := (["_wall", "PairError", "DividedByNought", "BadFigures", "BadTable", "BadLetters", "BadPair", "Unlike", "BadProgram", "NotShared", "is_whole", "is_sequence", "is_ratio", "in_lowest_terms", "ratio_plus", "ratio_minus", "ratio_times", "ratio_over", "over_one_bottom", "summed_wholes", "zero_row", "row_sum", "row_scaled", "summed_products", "whole_line", "summed_lines", "column_led", "table_times", "row_times", "flipped_table"] : List Str) ++ (["fits_count", "check_table", "all_are_numbers", "check_letters", "check_width", "Pair", "is_side", "is_number_row", "check_product", "Program", "answer_table", "first_not_zero", "does_something", "Match", "Shared", "size_between", "side_of", "sizes_if_alike", "doing_places", "first_match", "alike_programs", "side_size", "shared_of_two", "shared_side", "check_shared", "row_less", "exchanged_products", "exchanged_program", "undone_rest", "Figures"] : List Str) ++ (["_law_hand", "_law_mixed", "_law_take", "_law_gcd", "_law_ratio", "_law_num", "_law_plus", "_law_times", "_law_less", "_law_over", "_law_zero", "_law_blank", "_law_summed", "_law_figures", "_law_number", "_law_unlike", "_law_size", "_law_exact", "_law_lead", "_law_scaled", "_law_plain", "_law_made", "_law_numbers", "_law_drawn_product", "_law_products", "_law_resized", "_law_others", "_law_matches", "_law_matched", "_law_shares"] : List Str) ++ (["_law_exchanged", "_law_told", "_law_couple_holds", "_law_all_couples", "SIDES", "OFFERED", "MOST_ROWS", "MOST_PRODUCTS", "gcd"] : List Str)
abbrev R : PySem.W.OpenRow := PySem.W.OpenLaw.row PySem.Challenge.rw_sparedproducts_k31_whole_programs_alike
def as : List Addr := ([3,  59,  72,  91,  110,  129,  148,  160,  179,  191,  201,  208,  215,  222,  229,  236,  243,  250,  255,  260,  267,  272,  277,  284,  291,  298,  303,  308,  313,  318,  325,  333,  338,  345,  352,  425,  436,  443,  450,  528,  544,  549,  550,  567,  588,  599,  606,  613,  618,  625,  630,  637,  644,  651,  658,  663,  670,  677,  678,  685,  779,  790,  797,  804,  811,  818,  825,  832,  839,  846,  853,  860,  865,  872,  879,  886,  893,  900,  905,  912,  917,  924,  931,  936,  943,  950,  957,  964,  969,  976,  983,  988,  995,  1002,  1009,  1016,  58,  71,  90,  109,  128,  147,  159,  178,  190,  200,  194,  207,  214,  221,  228,  235,  242,  249,  254,  259,  266,  271,  276,  283,  290,  297,  302,  307,  312,  317,  324,  332,  326,  337,  344,  351,  424,  435,  442,  449,  527,  543,  548,  566,  587,  598,  605,  612,  617,  624,  629,  636,  643,  650,  657,  662,  669,  676,  684,  778,  789,  796,  803,  810,  817,  824,  831,  838,  845,  852,  859,  864,  871,  878,  885,  892,  899,  904,  911,  916,  923,  930,  935,  942,  949,  956,  963,  968,  975,  982,  987,  994,  1001,  1008,  1015,  88,  107,  126,  145,  176,  366,  422,  462,  476,  483,  497,  564,  585,  699,  706,  713,  720,  727,  734,  769,  87,  106,  125,  144,  175,  365,  461,  475,  482,  563,  584,  698,  705,  712,  719,  726,  733,  768] : List Nat)
abbrev hk : PySem.W.Hook := hookL as N31.tb.ck N31.fns
def ob (s : PySem.W.SharedT) : Bool × He.AlD := obL as N31.tb.ck N31.fns (HandSHeadRun.getT s)
theorem ob_eq (s : PySem.W.SharedT) : ob s = hk.obs s.abs := obL_eq (HandSHeadRun.getT_eq s)
noncomputable def whl (w : World) := HandSHeadRun.wholeF (fun p => HandSHeadRun.stepQ (HandSHeadRun.denQ HandSHeadRun.tabQ) p w) HandSHeadRun.fenceQ 20000 R.prog
theorem map2 {α β γ : Type} {o : Option α} {f : α → β} {g : α → γ} {a : β} {b : γ} (h1 : o.map f = some a) (h2 : o.map g = some b) : o.map (fun x => (f x, g x)) = some (a, b) := by
  cases o with
  | none => cases h1
  | some x =>
    have e1 : f x = a := Option.some.inj h1
    have e2 : g x = b := Option.some.inj h2
    show some (f x, g x) = some (a, b)
    rw [e1, e2]
open HandSHeadRun PySem.W PySem.Calls PyProof.Rows in
theorem run1a (w : World) : (whl w).map (fun x => looksF R.prog x.1.heap x.2.abs) = some true := by
  kernel_rfl
open HandSHeadRun PySem.W PySem.Calls PyProof.Rows in
theorem run1b (w : World) : (whl w).map (fun x => seenQ (PySem.W.view R.prog [109]) loose (importedModules R.prog.main.body) (fun s => PySem.W.xlAt (PySem.W.view R.prog [109]) [] s && PySem.W.recOk R.toRowW.records s) x.2.abs) = some (PySem.W.openGood (PySem.W.view R.prog [109]) loose) := by
  kernel_rfl
open HandSHeadRun PySem.W PySem.Calls PyProof.Rows in
theorem run1 (w : World) : (whl w).map (fun x => (looksF R.prog x.1.heap x.2.abs, seenQ (PySem.W.view R.prog [109]) loose (importedModules R.prog.main.body) (fun s => PySem.W.xlAt (PySem.W.view R.prog [109]) [] s && PySem.W.recOk R.toRowW.records s) x.2.abs)) = some (true, PySem.W.openGood (PySem.W.view R.prog [109]) loose) := map2 (run1a w) (run1b w)
theorem run2 (w : World) : (whl w).map (fun x => N31.tb.ck (He.frG (HandSHeadRun.getT x.2) as)) = some true := by
  kernel_rfl
theorem run3a (w : World) : (whl w).map (fun x => (N31.fns.take 49).all fun d => He.DefD.ok (He.frG (HandSHeadRun.getT x.2) as) d) = some true := by
  kernel_rfl
theorem run3b (w : World) : (whl w).map (fun x => (N31.fns.drop 49).all fun d => He.DefD.ok (He.frG (HandSHeadRun.getT x.2) as) d) = some true := by
  kernel_rfl
theorem all_halves {β : Type} (l : List β) (n : Nat) (p : β → Bool) (h1 : (l.take n).all p = true) (h2 : (l.drop n).all p = true) : l.all p = true := by
  rw [← List.take_append_drop n l, List.all_append, h1, h2]
  rfl
theorem run3 (w : World) : (whl w).map (fun x => N31.fns.all fun d => He.DefD.ok (He.frG (HandSHeadRun.getT x.2) as) d) = some true := by
  have h1 := run3a w
  have h2 := run3b w
  generalize whl w = o at h1 h2 ⊢
  cases o with
  | none => cases h1
  | some x => exact congrArg some (all_halves N31.fns 49 _ (Option.some.inj h1) (Option.some.inj h2))
theorem run4 (w : World) : (whl w).map (fun x => List.map (fun d => He.fnW (He.frG (HandSHeadRun.getT x.2) as) (He.DefD.at_ d)) N31.fns) = some (List.map He.DefD.val N31.fns) := by
  kernel_rfl
theorem obsD_eq {fn : List He.DefD} {K : PySem.W.Frag} {b : Bool} {c : List He.FnW} (h1 : (fn.all fun d => He.DefD.ok K d) = b) (h2 : List.map (fun d => He.fnW K (He.DefD.at_ d)) fn = c) : He.obsD [] fn K = (b, c) := by
  subst h1 h2
  rfl
theorem map34 {α : Type} {o : Option α} {fn : List He.DefD} {F : α → PySem.W.Frag} {b : Bool} {c : List He.FnW} (h1 : o.map (fun x => fn.all fun d => He.DefD.ok (F x) d) = some b) (h2 : o.map (fun x => List.map (fun d => He.fnW (F x) (He.DefD.at_ d)) fn) = some c) : o.map (fun x => He.obsD [] fn (F x)) = some (b, c) := by
  cases o with
  | none => cases h1
  | some x => exact congrArg some (obsD_eq (Option.some.inj h1) (Option.some.inj h2))
theorem run5 (w : World) : (whl w).map (fun x => ob x.2) = some (hk.val w) := map2 (run2 w) (map34 (run3 w) (run4 w))
theorem both3 {α β γ δ : Type} {o : Option α} {f : α → β} {g : α → γ} {k : α → δ} {a : β} {b : γ} {c : δ} (h1 : o.map (fun x => (f x, g x)) = some (a, b)) (h2 : o.map k = some c) : o.map (fun x => (f x, g x, k x)) = some (a, b, c) := by
  cases o with
  | none => cases h1
  | some x =>
    have e1 : (f x, g x) = (a, b) := Option.some.inj h1
    have e2 : k x = c := Option.some.inj h2
    show some (f x, g x, k x) = some (a, b, c)
    rw [(Prod.mk.inj e1).1, (Prod.mk.inj e1).2, e2]
theorem run (w : World) : HandSHeadRun.RunEqI R (PySem.W.view R.prog [109]) hk ob 20000 loose w := by
  unfold HandSHeadRun.RunEqI
  exact both3 (run1 w) (run5 w)
end X31
namespace N31
open PySem PySem.Spec PyProof.Rows L2 Fw Pd
section
variable {P : Program} {w : World} {K : PySem.W.Frag} {mg : Str → Option Value} {base : Heap}
theorem sc_is_whole : FnScope ["thing", "low", "high"] ["thing", "low", "high"] (defScope (top 13)) := ⟨rfl, rfl, rfl, by decide +kernel, rfl, by decide +kernel, by decide +kernel⟩
theorem fok_is_whole {fd : FuncData} (T : Fs tb K mg) (D : FunD K "is_whole" "is_whole" (defArgs (top 13)) (defBody (top 13)) (defScope (top 13)) [.non, .non] [] (He.ga K "is_whole") fd) : FnOk P w K mg base (L2.CX P w) 1 (He.ga K "is_whole") fd ["thing", "low", "high"] (spD ⟨K, mg, none⟩ false 3 F_is_whole) :=
  (ok_def (N := ["thing", "low", "high"]) (ps := ["thing", "low", "high"]) (k := 0) (c := ⟨K, mg, none⟩) D sc_is_whole (fun cdv A outer s H E hr => (ds_cons (ds_if (PW.pt (dw_or (dt_not (dt_tru rfl (dx_is T.gt (by decide) (by rfl) (T.fr 5 "isinstance" rfl) (xv 0) (pe_bltn (v := .ty "int") (by rfl) (T.fr 4 "int" rfl) (by decide +kernel) rfl)))) (dw_or1 (dt_tru rfl (dx_is T.gt (by decide) (by rfl) (T.fr 5 "isinstance" rfl) (xv 0) (pe_bltn (v := .ty "bool") (by rfl) (T.fr 2 "bool" rfl) (by decide +kernel) rfl)))))) (ds_one (ds_ret dx_b)) ds_nil)
      (ds_one (ds_ret (dx_and (dx_or (dx_cmp op_isN d_isN (xv 1) dx_n) (dx_one (dx_cmp op_ge d_ge (xv 0) (xv 1)))) (dx_one (dx_or (dx_cmp op_isN d_isN (xv 2) dx_n) (dx_one (dx_cmp op_le d_le (xv 0) (xv 2)))))))))))
theorem cal_is_whole_0 (T : Fs tb K mg) : Cal P w ⟨K, mg, none⟩ base false 1 (He.ga K "is_whole") 3 F_is_whole [] := by
  obtain ⟨fd, D⟩ : ∃ fd, FunD K "is_whole" "is_whole" (defArgs (top 13)) (defBody (top 13)) (defScope (top 13)) [.non, .non] [] (He.ga K "is_whole") fd := T.says.def_ 0 rfl
  exact cal_of1 D (fok_is_whole T D) (FunD.binds1 D 3 2 (by simp) rfl fun T kV doc pm an cdv ct us its h1 h2 => by
    match us, its, h1, h2 with
    | [_, _, _], [_, _], _, _ => exact ⟨_, rfl, by first | rfl | kernel_rfl⟩) fun _ _ => .nil
theorem cal_is_whole_1 (T : Fs tb K mg) : Cal P w ⟨K, mg, none⟩ base false 1 (He.ga K "is_whole") 3 F_is_whole [.non] := by
  obtain ⟨fd, D⟩ : ∃ fd, FunD K "is_whole" "is_whole" (defArgs (top 13)) (defBody (top 13)) (defScope (top 13)) [.non, .non] [] (He.ga K "is_whole") fd := T.says.def_ 0 rfl
  exact cal_of1 D (fok_is_whole T D) (FunD.binds1 D 2 1 (by simp) rfl fun T kV doc pm an cdv ct us its h1 h2 => by
    match us, its, h1, h2 with
    | [_, _], [_, _], _, _ => exact ⟨_, rfl, by first | rfl | kernel_rfl⟩) fun _ _ => (.cons .non .nil)
theorem cal_is_whole_2 (T : Fs tb K mg) : Cal P w ⟨K, mg, none⟩ base false 1 (He.ga K "is_whole") 3 F_is_whole [.non, .non] := by
  obtain ⟨fd, D⟩ : ∃ fd, FunD K "is_whole" "is_whole" (defArgs (top 13)) (defBody (top 13)) (defScope (top 13)) [.non, .non] [] (He.ga K "is_whole") fd := T.says.def_ 0 rfl
  exact cal_of1 D (fok_is_whole T D) (FunD.binds1 D 1 0 (by simp) rfl fun T kV doc pm an cdv ct us its h1 h2 => by
    match us, its, h1, h2 with
    | [_], [_, _], _, _ => exact ⟨_, rfl, by first | rfl | kernel_rfl⟩) fun _ _ => (.cons .non (.cons .non .nil))
theorem sc_is_sequence : FnScope ["thing"] ["thing"] (defScope (top 14)) := ⟨rfl, rfl, rfl, by decide +kernel, rfl, by decide +kernel, by decide +kernel⟩
theorem cal_is_sequence (T : Fs tb K mg) : Cal P w ⟨K, mg, none⟩ base false 1 (He.ga K "is_sequence") 1 F_is_sequence [] := by
  obtain ⟨fd, D⟩ : ∃ fd, FunD K "is_sequence" "is_sequence" (defArgs (top 14)) (defBody (top 14)) (defScope (top 14)) [] [] (He.ga K "is_sequence") fd := T.says.def_ 1 rfl
  exact cal_of D (ok_def (N := ["thing"]) (ps := ["thing"]) (k := 0) (c := ⟨K, mg, none⟩) D sc_is_sequence (fun cdv A outer s H E hr => (ds_one (ds_ret (dx_is2 T.gt (by decide) (by decide) (by rfl) (T.fr 5 "isinstance" rfl) (xv 0) (pe_bltn (v := .ty "list") (by rfl) (T.fr 8 "list" rfl) (by decide +kernel) rfl) (pe_bltn (v := .ty "tuple") (by rfl) (T.fr 14 "tuple" rfl) (by decide +kernel) rfl)))))) (FunD.bindsN D (fun _ _ _ _ _ _ us hl => match us, hl with | [_], _ => rfl))
theorem sc_is_ratio : FnScope ["thing", "top", "bottom"] ["thing"] (defScope (top 15)) := ⟨rfl, rfl, rfl, by decide +kernel, rfl, by decide +kernel, by decide +kernel⟩
theorem cal_is_ratio (T : Fs tb K mg) : Cal P w ⟨K, mg, none⟩ base false 2 (He.ga K "is_ratio") 1 F_is_ratio [] := by
  obtain ⟨fd, D⟩ : ∃ fd, FunD K "is_ratio" "is_ratio" (defArgs (top 15)) (defBody (top 15)) (defScope (top 15)) [] [] (He.ga K "is_ratio") fd := T.says.def_ 2 rfl
  exact cal_of D (ok_def (N := ["thing", "top", "bottom"]) (ps := ["thing"]) (k := 1) (c := ⟨K, mg, none⟩) D sc_is_ratio (fun cdv A outer s H E hr => (ds_cons (ds_if (PW.pt (dw_or (dt_not (dt_tru rfl (dx_is T.gt (by decide) (by rfl) (T.fr 5 "isinstance" rfl) (xv 0) (pe_bltn (v := .ty "tuple") (by rfl) (T.fr 14 "tuple" rfl) (by decide +kernel) rfl)))) (dw_or1 (dt_cmp (c_neD hr.units rfl) d_ne (dx_bi (c_len rfl) k_len (by rfl) (T.fr 7 "len" rfl) PySem.boot_len (da_cons (xv 0) da_nil)) dx_i)))) (ds_one (ds_ret dx_b)) ds_nil)
      (ds_cons (ds_asg (vs := [1, 2]) (gg := (gTup K 2 (gCons (gName 1) (gCons (gName 2) gNil)))) (bind := (bTp [(bNm 1), (bNm 2)])) (bd_tp rfl (ba_cons (bd_nm (by decide)) (ba_cons (bd_nm (by decide)) ba_nil))) (xv 0) (pg_tup rfl (pgs_cons (gN 1 sc_is_ratio.nd) (pgs_cons (gN 2 sc_is_ratio.nd) pgs_nil))))
      (ds_one (ds_ret (dx_and (cc_call (cal_is_whole_2 T) (hr.mono (by decide)) (T.gl 0 "is_whole" rfl) (fun σ => passAt (takes_of rfl rfl rfl rfl) σ) (xG 1 dg_nil)) (dx_and (cc_call (cal_is_whole_1 T) (hr.mono (by decide)) (T.gl 0 "is_whole" rfl) (fun σ => passAt (takes_of rfl rfl rfl rfl) σ) (xG 2 (dg_cons dx_i dg_nil))) (dx_one (dx_cmp (c_eqD hr.units rfl) d_eq (dx_fun cr_gcd k_gcd (by rfl) T.gcd (da_cons (xv 1) (da_cons (xv 2) da_nil))) dx_i)))))))))) (FunD.bindsN D (fun _ _ _ _ _ _ us hl => match us, hl with | [_], _ => rfl))
theorem sc_in_lowest_terms : FnScope ["top", "bottom", "divisor"] ["top", "bottom"] (defScope (top 16)) := ⟨rfl, rfl, rfl, by decide +kernel, rfl, by decide +kernel, by decide +kernel⟩
theorem cal_in_lowest_terms (T : Fs tb K mg) : Cal P w ⟨K, mg, none⟩ base false 1 (He.ga K "in_lowest_terms") 2 F_in_lowest_terms [] := by
  obtain ⟨fd, D⟩ : ∃ fd, FunD K "in_lowest_terms" "in_lowest_terms" (defArgs (top 16)) (defBody (top 16)) (defScope (top 16)) [] [] (He.ga K "in_lowest_terms") fd := T.says.def_ 3 rfl
  exact cal_of D (ok_def (N := ["top", "bottom", "divisor"]) (ps := ["top", "bottom"]) (k := 0) (c := ⟨K, mg, none⟩) D sc_in_lowest_terms (fun cdv A outer s H E hr => (ds_cons (sS 2 sc_in_lowest_terms.nd (dx_fun cr_gcd k_gcd (by rfl) T.gcd (da_cons (xv 0) (da_cons (xv 1) da_nil))))
      (ds_cons (ds_if (dt_cmp op_lt d_lt (xv 1) dx_i) (ds_one (sS 2 sc_in_lowest_terms.nd (dx_neg (xv 2)))) ds_nil)
      (ds_one (ds_ret (dx_tup (da_cons (dx_op op_fdivG d_div (xv 0) (xv 2)) (da_cons (dx_op op_fdivG d_div (xv 1) (xv 2)) da_nil))))))))) (FunD.bindsN D (fun _ _ _ _ _ _ us hl => match us, hl with | [_, _], _ => rfl))
theorem sc_ratio_plus : FnScope ["one", "other"] ["one", "other"] (defScope (top 17)) := ⟨rfl, rfl, rfl, by decide +kernel, rfl, by decide +kernel, by decide +kernel⟩
theorem cal_ratio_plus (T : Fs tb K mg) : Cal P w ⟨K, mg, none⟩ base false 2 (He.ga K "ratio_plus") 2 F_ratio_plus [] := by
  obtain ⟨fd, D⟩ : ∃ fd, FunD K "ratio_plus" "ratio_plus" (defArgs (top 17)) (defBody (top 17)) (defScope (top 17)) [] [] (He.ga K "ratio_plus") fd := T.says.def_ 4 rfl
  exact cal_of D (ok_def (N := ["one", "other"]) (ps := ["one", "other"]) (k := 1) (c := ⟨K, mg, none⟩) D sc_ratio_plus (fun cdv A outer s H E hr => (ds_one (ds_ret (cc_call (cal_in_lowest_terms T) (hr.mono (by decide)) (T.gl 3 "in_lowest_terms" rfl) (fun σ => passAt (takes_of rfl rfl rfl rfl) σ) (dg_cons (dx_op op_add d_add (dx_op op_mulW d_mul (dx_ix (xv 0) dx_i) (dx_ix (xv 1) dx_i)) (dx_op op_mulW d_mul (dx_ix (xv 1) dx_i) (dx_ix (xv 0) dx_i))) (dg_cons (dx_op op_mulW d_mul (dx_ix (xv 0) dx_i) (dx_ix (xv 1) dx_i)) dg_nil))))))) (FunD.bindsN D (fun _ _ _ _ _ _ us hl => match us, hl with | [_, _], _ => rfl))
theorem sc_ratio_minus : FnScope ["one", "other"] ["one", "other"] (defScope (top 18)) := ⟨rfl, rfl, rfl, by decide +kernel, rfl, by decide +kernel, by decide +kernel⟩
theorem cal_ratio_minus (T : Fs tb K mg) : Cal P w ⟨K, mg, none⟩ base false 2 (He.ga K "ratio_minus") 2 F_ratio_minus [] := by
  obtain ⟨fd, D⟩ : ∃ fd, FunD K "ratio_minus" "ratio_minus" (defArgs (top 18)) (defBody (top 18)) (defScope (top 18)) [] [] (He.ga K "ratio_minus") fd := T.says.def_ 5 rfl
  exact cal_of D (ok_def (N := ["one", "other"]) (ps := ["one", "other"]) (k := 1) (c := ⟨K, mg, none⟩) D sc_ratio_minus (fun cdv A outer s H E hr => (ds_one (ds_ret (cc_call (cal_in_lowest_terms T) (hr.mono (by decide)) (T.gl 3 "in_lowest_terms" rfl) (fun σ => passAt (takes_of rfl rfl rfl rfl) σ) (dg_cons (dx_op op_sub d_sub (dx_op op_mulW d_mul (dx_ix (xv 0) dx_i) (dx_ix (xv 1) dx_i)) (dx_op op_mulW d_mul (dx_ix (xv 1) dx_i) (dx_ix (xv 0) dx_i))) (dg_cons (dx_op op_mulW d_mul (dx_ix (xv 0) dx_i) (dx_ix (xv 1) dx_i)) dg_nil))))))) (FunD.bindsN D (fun _ _ _ _ _ _ us hl => match us, hl with | [_, _], _ => rfl))
theorem sc_ratio_times : FnScope ["one", "other"] ["one", "other"] (defScope (top 19)) := ⟨rfl, rfl, rfl, by decide +kernel, rfl, by decide +kernel, by decide +kernel⟩
theorem cal_ratio_times (T : Fs tb K mg) : Cal P w ⟨K, mg, none⟩ base false 2 (He.ga K "ratio_times") 2 F_ratio_times [] := by
  obtain ⟨fd, D⟩ : ∃ fd, FunD K "ratio_times" "ratio_times" (defArgs (top 19)) (defBody (top 19)) (defScope (top 19)) [] [] (He.ga K "ratio_times") fd := T.says.def_ 6 rfl
  exact cal_of D (ok_def (N := ["one", "other"]) (ps := ["one", "other"]) (k := 1) (c := ⟨K, mg, none⟩) D sc_ratio_times (fun cdv A outer s H E hr => (ds_one (ds_ret (cc_call (cal_in_lowest_terms T) (hr.mono (by decide)) (T.gl 3 "in_lowest_terms" rfl) (fun σ => passAt (takes_of rfl rfl rfl rfl) σ) (dg_cons (dx_op op_mulW d_mul (dx_ix (xv 0) dx_i) (dx_ix (xv 1) dx_i)) (dg_cons (dx_op op_mulW d_mul (dx_ix (xv 0) dx_i) (dx_ix (xv 1) dx_i)) dg_nil))))))) (FunD.bindsN D (fun _ _ _ _ _ _ us hl => match us, hl with | [_, _], _ => rfl))
theorem sc_ratio_over : FnScope ["one", "other"] ["one", "other"] (defScope (top 20)) := ⟨rfl, rfl, rfl, by decide +kernel, rfl, by decide +kernel, by decide +kernel⟩
theorem cal_ratio_over (T : Fs tb K mg) : Cal P w ⟨K, mg, none⟩ base false 3 (He.ga K "ratio_over") 2 F_ratio_over [] := by
  obtain ⟨fd, D⟩ : ∃ fd, FunD K "ratio_over" "ratio_over" (defArgs (top 20)) (defBody (top 20)) (defScope (top 20)) [] [] (He.ga K "ratio_over") fd := T.says.def_ 7 rfl
  exact cal_of D (ok_def (N := ["one", "other"]) (ps := ["one", "other"]) (k := 2) (c := ⟨K, mg, none⟩) D sc_ratio_over (fun cdv A outer s H E hr => (ds_cons (ds_if (dt_cmp (c_eqD hr.units rfl) d_eq (dx_ix (xv 1) dx_i) dx_i) (ds_one (xr0 (er_DividedByNought T) (takes_of rfl rfl rfl rfl))) ds_nil)
      (ds_one (ds_ret (cc_call (cal_in_lowest_terms T) (hr.mono (by decide)) (T.gl 3 "in_lowest_terms" rfl) (fun σ => passAt (takes_of rfl rfl rfl rfl) σ) (dg_cons (dx_op op_mulW d_mul (dx_ix (xv 0) dx_i) (dx_ix (xv 1) dx_i)) (dg_cons (dx_op op_mulW d_mul (dx_ix (xv 0) dx_i) (dx_ix (xv 1) dx_i)) dg_nil)))))))) (FunD.bindsN D (fun _ _ _ _ _ _ us hl => match us, hl with | [_, _], _ => rfl))
theorem sc_Figures_plus : FnScope ["self", "one", "other"] ["self", "one", "other"] (defScope (inClass (top 73) 2)) := ⟨rfl, rfl, rfl, by decide +kernel, rfl, by decide +kernel, by decide +kernel⟩
theorem cal_Figures_plus (T : Fs tb K mg) : Cal P w ⟨K, mg, none⟩ base false 3 (He.ma K (He.ga K "Figures") "plus") 3 F_Figures_plus [] := by
  obtain ⟨fd, D⟩ : ∃ fd, FunD K "plus" "Figures.plus" (defArgs (inClass (top 73) 2)) (defBody (inClass (top 73) 2)) (defScope (inClass (top 73) 2)) [] [] (He.ma K (He.ga K "Figures") "plus") fd := T.says.def_ 11 rfl
  exact cal_of D (ok_def (N := ["self", "one", "other"]) (ps := ["self", "one", "other"]) (k := 2) (c := ⟨K, mg, none⟩) D sc_Figures_plus (fun cdv A outer s H E hr => (ds_cons (ds_if (dt_cmp (c_eqD hr.units rfl) d_eq (xA 0) dx_i) (ds_one (ds_ret (cc_call (cal_ratio_plus T) (hr.mono (by decide)) (T.gl 4 "ratio_plus" rfl) (fun σ => passAt (takes_of rfl rfl rfl rfl) σ) (xG 1 (xG 2 dg_nil))))) ds_nil)
      (ds_one (ds_ret (dx_op op_modN d_mod (dx_op op_add d_add (xv 1) (xv 2)) (xA 0))))))) (FunD.bindsN D (fun _ _ _ _ _ _ us hl => match us, hl with | [_, _, _], _ => rfl))
theorem sc_row_sum : FnScope ["figures", "one", "other", "left", "right"] ["figures", "one", "other"] (defScope (top 26)) := ⟨rfl, rfl, rfl, by decide +kernel, rfl, by decide +kernel, by decide +kernel⟩
theorem cal_row_sum (T : Fs tb K mg) : Cal P w ⟨K, mg, none⟩ base false 4 (He.ga K "row_sum") 3 F_row_sum [] := by
  obtain ⟨fd, D⟩ : ∃ fd, FunD K "row_sum" "row_sum" (defArgs (top 26)) (defBody (top 26)) (defScope (top 26)) [] [] (He.ga K "row_sum") fd := T.says.def_ 12 rfl
  exact cal_of D (ok_def (N := ["figures", "one", "other", "left", "right"]) (ps := ["figures", "one", "other"]) (k := 3) (c := ⟨K, mg, none⟩) D sc_row_sum (fun cdv A outer s H E hr => (ds_one (ds_ret (dx_ty (c_tup rfl) k_tup (by rfl) (T.fr 14 "tuple" rfl) PyProof.Rows.boot_tuple (da_cons (dx_fz (dn_lc (own := [("left", 3), ("right", 4)]) (g := (gTup K 2 (gCons (gName 3) (gCons (gName 4) gNil)))) (bind := (bTp [(bNm 3), (bNm 4)])) rfl sc_row_sum.nd (di_zip (by rfl) (T.fr 15 "zip" rfl) (da_cons (xv 1) (da_cons (xv 2) da_nil))) (blkOk_by (own := [("left", 3), ("right", 4)]) (N := ["figures", "one", "other", "left", "right"]) (sc := defScope (top 26)) (by decide +kernel)) (bd_tp rfl (ba_cons (bd_nm (by decide)) (ba_cons (bd_nm (by decide)) ba_nil))) (fun _ _ _ _ _ => (pg_tup rfl (pgs_cons (gN 3 sc_row_sum.nd) (pgs_cons (gN 4 sc_row_sum.nd) pgs_nil)))) (fun _ _ _ _ _ => pts_no) (fun _ _ _ _ _ => (cc_meth (T.gl 95 "Figures" rfl) (xv 0) (T.cls 4 _ rfl).1.cl (T.meth 4 _ rfl "plus" (by decide)) (cal_Figures_plus T) (hr.mono (by decide)) passF (xG 3 (xG 4 dg_nil)))))) da_nil)))))) (FunD.bindsN D (fun _ _ _ _ _ _ us hl => match us, hl with | [_, _, _], _ => rfl))
theorem sc_Figures_times : FnScope ["self", "one", "other"] ["self", "one", "other"] (defScope (inClass (top 73) 4)) := ⟨rfl, rfl, rfl, by decide +kernel, rfl, by decide +kernel, by decide +kernel⟩
theorem cal_Figures_times (T : Fs tb K mg) : Cal P w ⟨K, mg, none⟩ base false 3 (He.ma K (He.ga K "Figures") "times") 3 F_Figures_times [] := by
  obtain ⟨fd, D⟩ : ∃ fd, FunD K "times" "Figures.times" (defArgs (inClass (top 73) 4)) (defBody (inClass (top 73) 4)) (defScope (inClass (top 73) 4)) [] [] (He.ma K (He.ga K "Figures") "times") fd := T.says.def_ 13 rfl
  exact cal_of D (ok_def (N := ["self", "one", "other"]) (ps := ["self", "one", "other"]) (k := 2) (c := ⟨K, mg, none⟩) D sc_Figures_times (fun cdv A outer s H E hr => (ds_cons (ds_if (dt_cmp (c_eqD hr.units rfl) d_eq (xA 0) dx_i) (ds_one (ds_ret (cc_call (cal_ratio_times T) (hr.mono (by decide)) (T.gl 6 "ratio_times" rfl) (fun σ => passAt (takes_of rfl rfl rfl rfl) σ) (xG 1 (xG 2 dg_nil))))) ds_nil)
      (ds_one (ds_ret (dx_op op_modN d_mod (dx_op op_mulW d_mul (xv 1) (xv 2)) (xA 0))))))) (FunD.bindsN D (fun _ _ _ _ _ _ us hl => match us, hl with | [_, _, _], _ => rfl))
theorem sc_row_scaled : FnScope ["figures", "number", "row", "entry"] ["figures", "number", "row"] (defScope (top 27)) := ⟨rfl, rfl, rfl, by decide +kernel, rfl, by decide +kernel, by decide +kernel⟩
theorem cal_row_scaled (T : Fs tb K mg) : Cal P w ⟨K, mg, none⟩ base false 4 (He.ga K "row_scaled") 3 F_row_scaled [] := by
  obtain ⟨fd, D⟩ : ∃ fd, FunD K "row_scaled" "row_scaled" (defArgs (top 27)) (defBody (top 27)) (defScope (top 27)) [] [] (He.ga K "row_scaled") fd := T.says.def_ 14 rfl
  exact cal_of D (ok_def (N := ["figures", "number", "row", "entry"]) (ps := ["figures", "number", "row"]) (k := 3) (c := ⟨K, mg, none⟩) D sc_row_scaled (fun cdv A outer s H E hr => (ds_one (ds_ret (dx_ty (c_tup rfl) k_tup (by rfl) (T.fr 14 "tuple" rfl) PyProof.Rows.boot_tuple (da_cons (dx_fz (dn_lc (own := [("entry", 3)]) (g := (gName 3)) (bind := (bNm 3)) rfl sc_row_scaled.nd (di_seq (xv 2)) (blkOk_by (own := [("entry", 3)]) (N := ["figures", "number", "row", "entry"]) (sc := defScope (top 27)) (by decide +kernel)) (bd_nm (by decide)) (fun _ _ _ _ _ => (gN 3 sc_row_scaled.nd)) (fun _ _ _ _ _ => pts_no) (fun _ _ _ _ _ => (cc_meth (T.gl 95 "Figures" rfl) (xv 0) (T.cls 4 _ rfl).1.cl (T.meth 4 _ rfl "times" (by decide)) (cal_Figures_times T) (hr.mono (by decide)) passF (xG 1 (xG 3 dg_nil)))))) da_nil)))))) (FunD.bindsN D (fun _ _ _ _ _ _ us hl => match us, hl with | [_, _, _], _ => rfl))
end
end N31
namespace N31
open PySem PySem.Spec PyProof.Rows L2 Fw Pd
section
variable {P : Program} {w : World} {K : PySem.W.Frag} {mg : Str → Option Value} {base : Heap}
theorem sc_Figures_is_number : FnScope ["self", "thing"] ["self", "thing"] (defScope (inClass (top 73) 10)) := ⟨rfl, rfl, rfl, by decide +kernel, rfl, by decide +kernel, by decide +kernel⟩
theorem cal_Figures_is_number (T : Fs tb K mg) : Cal P w ⟨K, mg, none⟩ base false 3 (He.ma K (He.ga K "Figures") "is_number") 2 F_Figures_is_number [] := by
  obtain ⟨fd, D⟩ : ∃ fd, FunD K "is_number" "Figures.is_number" (defArgs (inClass (top 73) 10)) (defBody (inClass (top 73) 10)) (defScope (inClass (top 73) 10)) [] [] (He.ma K (He.ga K "Figures") "is_number") fd := T.says.def_ 23 rfl
  exact cal_of D (ok_def (N := ["self", "thing"]) (ps := ["self", "thing"]) (k := 2) (c := ⟨K, mg, none⟩) D sc_Figures_is_number (fun cdv A outer s H E hr => (ds_cons (ds_if (dt_cmp (c_eqD hr.units rfl) d_eq (xA 0) dx_i) (ds_one (ds_ret (cc_call (cal_is_ratio T) (hr.mono (by decide)) (T.gl 2 "is_ratio" rfl) (fun σ => passAt (takes_of rfl rfl rfl rfl) σ) (xG 1 dg_nil)))) ds_nil)
      (ds_one (ds_ret (cc_call (cal_is_whole_0 T) (hr.mono (by decide)) (T.gl 0 "is_whole" rfl) (fun σ => passAt (takes_of rfl rfl rfl rfl) σ) (xG 1 (dg_cons dx_i (dg_cons (dx_op op_sub d_sub (xA 0) dx_i) dg_nil))))))))) (FunD.bindsN D (fun _ _ _ _ _ _ us hl => match us, hl with | [_, _], _ => rfl))
theorem sc_all_are_numbers : FnScope ["figures", "row", "entry"] ["figures", "row"] (defScope (top 39)) := ⟨rfl, rfl, rfl, by decide +kernel, rfl, by decide +kernel, by decide +kernel⟩
theorem cal_all_are_numbers (T : Fs tb K mg) : Cal P w ⟨K, mg, none⟩ base false 4 (He.ga K "all_are_numbers") 2 F_all_are_numbers [] := by
  obtain ⟨fd, D⟩ : ∃ fd, FunD K "all_are_numbers" "all_are_numbers" (defArgs (top 39)) (defBody (top 39)) (defScope (top 39)) [] [] (He.ga K "all_are_numbers") fd := T.says.def_ 24 rfl
  exact cal_of D (ok_def (N := ["figures", "row", "entry"]) (ps := ["figures", "row"]) (k := 3) (c := ⟨K, mg, none⟩) D sc_all_are_numbers (fun cdv A outer s H E hr => (ds_one (ds_ret (dx_bi (c_all rfl rfl) k_all (by rfl) (T.fr 1 "all" rfl) (by decide +kernel) (da_cons (dx_fz (dn_lc (own := [("entry", 2)]) (g := (gName 2)) (bind := (bNm 2)) rfl sc_all_are_numbers.nd (di_seq (xv 1)) (blkOk_by (own := [("entry", 2)]) (N := ["figures", "row", "entry"]) (sc := defScope (top 39)) (by decide +kernel)) (bd_nm (by decide)) (fun _ _ _ _ _ => (gN 2 sc_all_are_numbers.nd)) (fun _ _ _ _ _ => pts_no) (fun _ _ _ _ _ => (cc_meth (T.gl 95 "Figures" rfl) (xv 0) (T.cls 4 _ rfl).1.cl (T.meth 4 _ rfl "is_number" (by decide)) (cal_Figures_is_number T) (hr.mono (by decide)) passF (xG 2 dg_nil))))) da_nil)))))) (FunD.bindsN D (fun _ _ _ _ _ _ us hl => match us, hl with | [_, _], _ => rfl))
theorem sc_is_side : FnScope ["figures", "many"] ["figures", "many"] (defScope (top 46)) := ⟨rfl, rfl, rfl, by decide +kernel, rfl, by decide +kernel, by decide +kernel⟩
theorem cal_is_side (T : Fs tb K mg) : Cal P w ⟨K, mg, none⟩ base false 2 (He.ga K "is_side") 2 F_is_side [] := by
  obtain ⟨fd, D⟩ : ∃ fd, FunD K "is_side" "is_side" (defArgs (top 46)) (defBody (top 46)) (defScope (top 46)) [] [] (He.ga K "is_side") fd := T.says.def_ 29 rfl
  exact cal_of D (ok_def (N := ["figures", "many"]) (ps := ["figures", "many"]) (k := 1) (c := ⟨K, mg, none⟩) D sc_is_side (fun cdv A outer s H E hr => (ds_one (ds_ret (dx_and (cc_call (cal_is_whole_0 T) (hr.mono (by decide)) (T.gl 0 "is_whole" rfl) (fun σ => passAt (takes_of rfl rfl rfl rfl) σ) (xG 1 (dg_cons dx_i (dg_cons (xgI (T.int 0 _ rfl)) dg_nil)))) (dx_one (dx_or (dx_cmp (c_eqD hr.units rfl) d_eq (xA 0) dx_i) (dx_one (dx_cmp op_le d_le (xv 1) (xA 0)))))))))) (FunD.bindsN D (fun _ _ _ _ _ _ us hl => match us, hl with | [_, _], _ => rfl))
theorem sc_is_number_row : FnScope ["figures", "thing", "many"] ["figures", "thing", "many"] (defScope (top 47)) := ⟨rfl, rfl, rfl, by decide +kernel, rfl, by decide +kernel, by decide +kernel⟩
theorem cal_is_number_row (T : Fs tb K mg) : Cal P w ⟨K, mg, none⟩ base false 5 (He.ga K "is_number_row") 3 F_is_number_row [] := by
  obtain ⟨fd, D⟩ : ∃ fd, FunD K "is_number_row" "is_number_row" (defArgs (top 47)) (defBody (top 47)) (defScope (top 47)) [] [] (He.ga K "is_number_row") fd := T.says.def_ 30 rfl
  exact cal_of D (ok_def (N := ["figures", "thing", "many"]) (ps := ["figures", "thing", "many"]) (k := 4) (c := ⟨K, mg, none⟩) D sc_is_number_row (fun cdv A outer s H E hr => (ds_one (ds_ret (dx_and (cc_call (cal_is_sequence T) (hr.mono (by decide)) (T.gl 1 "is_sequence" rfl) (fun σ => passAt (takes_of rfl rfl rfl rfl) σ) (xG 1 dg_nil)) (dx_and (dx_cmp (c_eqD hr.units rfl) d_eq (dx_bi (c_len rfl) k_len (by rfl) (T.fr 7 "len" rfl) PySem.boot_len (da_cons (xv 1) da_nil)) (xv 2)) (dx_one (cc_call (cal_all_are_numbers T) (hr.mono (by decide)) (T.gl 22 "all_are_numbers" rfl) (fun σ => passAt (takes_of rfl rfl rfl rfl) σ) (xG 0 (xG 1 dg_nil)))))))))) (FunD.bindsN D (fun _ _ _ _ _ _ us hl => match us, hl with | [_, _, _], _ => rfl))
theorem sc_check_product : FnScope ["program", "entry", "index", "figures", "left", "right", "first", "second"] ["program", "entry", "index"] (defScope (top 48)) := ⟨rfl, rfl, rfl, by decide +kernel, rfl, by decide +kernel, by decide +kernel⟩
theorem cal_check_product (T : Fs tb K mg) : Cal P w ⟨K, mg, none⟩ base false 6 (He.ga K "check_product") 3 F_check_product [] := by
  obtain ⟨fd, D⟩ : ∃ fd, FunD K "check_product" "check_product" (defArgs (top 48)) (defBody (top 48)) (defScope (top 48)) [] [] (He.ga K "check_product") fd := T.says.def_ 31 rfl
  exact cal_of D (ok_def (N := ["program", "entry", "index", "figures", "left", "right", "first", "second"]) (ps := ["program", "entry", "index"]) (k := 5) (c := ⟨K, mg, none⟩) D sc_check_product (fun cdv A outer s H E hr => (ds_cons (sS 3 sc_check_product.nd (xA 0))
      (ds_cons (ds_if (PW.pt (dw_or (dt_not (dt_tru rfl (cc_call (cal_is_sequence T) (hr.mono (by decide)) (T.gl 1 "is_sequence" rfl) (fun σ => passAt (takes_of rfl rfl rfl rfl) σ) (xG 1 dg_nil)))) (dw_or1 (dt_cmp (c_neD hr.units rfl) d_ne (dx_bi (c_len rfl) k_len (by rfl) (T.fr 7 "len" rfl) PySem.boot_len (da_cons (xv 1) da_nil)) dx_i)))) (ds_one (xr2 (er_BadProgram T) (takes_of rfl rfl rfl rfl) (hr.mono (by decide)) (da_cons (xv 2) (da_cons dx_s da_nil)))) ds_nil)
      (ds_cons (ds_asg (vs := [4, 5, 6, 7]) (gg := (gTup K 4 (gCons (gName 4) (gCons (gName 5) (gCons (gName 6) (gCons (gName 7) gNil)))))) (bind := (bTp [(bNm 4), (bNm 5), (bNm 6), (bNm 7)])) (bd_tp rfl (ba_cons (bd_nm (by decide)) (ba_cons (bd_nm (by decide)) (ba_cons (bd_nm (by decide)) (ba_cons (bd_nm (by decide)) ba_nil))))) (xv 1) (pg_tup rfl (pgs_cons (gN 4 sc_check_product.nd) (pgs_cons (gN 5 sc_check_product.nd) (pgs_cons (gN 6 sc_check_product.nd) (pgs_cons (gN 7 sc_check_product.nd) pgs_nil))))))
      (ds_cons (ds_if (dt_not (dt_tru rfl (cc_call (cal_is_number_row T) (hr.mono (by decide)) (T.gl 26 "is_number_row" rfl) (fun σ => passAt (takes_of rfl rfl rfl rfl) σ) (xG 3 (xG 4 (dg_cons (xA 0) dg_nil)))))) (ds_one (xr2 (er_BadProgram T) (takes_of rfl rfl rfl rfl) (hr.mono (by decide)) (da_cons (xv 2) (da_cons dx_s da_nil)))) ds_nil)
      (ds_cons (ds_if (dt_not (dt_tru rfl (cc_call (cal_is_number_row T) (hr.mono (by decide)) (T.gl 26 "is_number_row" rfl) (fun σ => passAt (takes_of rfl rfl rfl rfl) σ) (xG 3 (xG 5 (dg_cons (xA 0) dg_nil)))))) (ds_one (xr2 (er_BadProgram T) (takes_of rfl rfl rfl rfl) (hr.mono (by decide)) (da_cons (xv 2) (da_cons dx_s da_nil)))) ds_nil)
      (ds_cons (ds_if (PW.pt (dw_or (dt_not (dt_tru rfl (cc_meth (T.gl 95 "Figures" rfl) (xv 3) (T.cls 4 _ rfl).1.cl (T.meth 4 _ rfl "is_number" (by decide)) (cal_Figures_is_number T) (hr.mono (by decide)) (fun σ => passAt (takes_of rfl rfl rfl rfl) σ) (xG 6 dg_nil)))) (dw_or1 (dt_not (dt_tru rfl (cc_meth (T.gl 95 "Figures" rfl) (xv 3) (T.cls 4 _ rfl).1.cl (T.meth 4 _ rfl "is_number" (by decide)) (cal_Figures_is_number T) (hr.mono (by decide)) (fun σ => passAt (takes_of rfl rfl rfl rfl) σ) (xG 7 dg_nil))))))) (ds_one (xr2 (er_BadProgram T) (takes_of rfl rfl rfl rfl) (hr.mono (by decide)) (da_cons (xv 2) (da_cons dx_s da_nil)))) ds_nil)
      (ds_one (ds_ret (dx_tup (da_cons (dx_ty (c_tup rfl) k_tup (by rfl) (T.fr 14 "tuple" rfl) PyProof.Rows.boot_tuple (da_cons (xv 4) da_nil)) (da_cons (dx_ty (c_tup rfl) k_tup (by rfl) (T.fr 14 "tuple" rfl) PyProof.Rows.boot_tuple (da_cons (xv 5) da_nil)) (da_cons (xv 6) (da_cons (xv 7) da_nil))))))))))))))) (FunD.bindsN D (fun _ _ _ _ _ _ us hl => match us, hl with | [_, _, _], _ => rfl))
theorem sc_Program___init__ : FnScope ["self", "figures", "rows", "columns", "products", "index", "entry"] ["self", "figures", "rows", "columns", "products"] (defScope (inClass (top 49) 0)) := ⟨rfl, rfl, rfl, by decide +kernel, rfl, by decide +kernel, by decide +kernel⟩
theorem cal_Program___init__ (T : Fs tb K mg) : Cal P w ⟨K, mg, none⟩ base false 7 (He.ma K (He.ga K "Program") "__init__") 5 F_Program___init__ [] := by
  obtain ⟨fd, D⟩ : ∃ fd, FunD K "__init__" "Program.__init__" (defArgs (inClass (top 49) 0)) (defBody (inClass (top 49) 0)) (defScope (inClass (top 49) 0)) [] [] (He.ma K (He.ga K "Program") "__init__") fd := T.says.def_ 32 rfl
  exact cal_of D (ok_def (N := ["self", "figures", "rows", "columns", "products", "index", "entry"]) (ps := ["self", "figures", "rows", "columns", "products"]) (k := 6) (c := ⟨K, mg, none⟩) D sc_Program___init__ (fun cdv A outer s H E hr => (ds_cons (ds_if (dt_not (dt_tru rfl (cc_call (cal_is_side T) (hr.mono (by decide)) (T.gl 25 "is_side" rfl) (fun σ => passAt (takes_of rfl rfl rfl rfl) σ) (xG 1 (xG 2 dg_nil))))) (ds_one (xr2 (er_BadProgram T) (takes_of rfl rfl rfl rfl) (hr.mono (by decide)) (da_cons dx_i (da_cons dx_s da_nil)))) ds_nil)
      (ds_cons (ds_if (dt_not (dt_tru rfl (cc_call (cal_is_side T) (hr.mono (by decide)) (T.gl 25 "is_side" rfl) (fun σ => passAt (takes_of rfl rfl rfl rfl) σ) (xG 1 (xG 3 dg_nil))))) (ds_one (xr2 (er_BadProgram T) (takes_of rfl rfl rfl rfl) (hr.mono (by decide)) (da_cons dx_i (da_cons dx_s da_nil)))) ds_nil)
      (ds_cons (ds_if (PW.pt (dw_or (dt_not (dt_tru rfl (cc_call (cal_is_sequence T) (hr.mono (by decide)) (T.gl 1 "is_sequence" rfl) (fun σ => passAt (takes_of rfl rfl rfl rfl) σ) (xG 4 dg_nil)))) (dw_or1 (dt_cmp op_gt d_gt (dx_bi (c_len rfl) k_len (by rfl) (T.fr 7 "len" rfl) PySem.boot_len (da_cons (xv 4) da_nil)) (xgI (T.int 1 _ rfl)))))) (ds_one (xr2 (er_BadProgram T) (takes_of rfl rfl rfl rfl) (hr.mono (by decide)) (da_cons dx_i (da_cons dx_s da_nil)))) ds_nil)
      (ds_cons (ds_at (fun C e => noat_of T 1 rfl (T.gl 92 "Program" rfl) (by decide) e) (xM 0) (xv 1))
      (ds_cons (ds_at (fun C e => noat_of T 1 rfl (T.gl 92 "Program" rfl) (by decide) e) (xM 0) (xv 2))
      (ds_cons (ds_at (fun C e => noat_of T 1 rfl (T.gl 92 "Program" rfl) (by decide) e) (xM 0) (xv 3))
      (ds_one (ds_at (fun C e => noat_of T 1 rfl (T.gl 92 "Program" rfl) (by decide) e) (xM 0) (dx_ty (c_tup rfl) k_tup (by rfl) (T.fr 14 "tuple" rfl) PyProof.Rows.boot_tuple (da_cons (dx_fz (dn_lc (own := [("index", 5), ("entry", 6)]) (g := (gTup K 2 (gCons (gName 5) (gCons (gName 6) gNil)))) (bind := (bTp [(bNm 5), (bNm 6)])) rfl sc_Program___init__.nd (di_enum (by rfl) (T.fr 3 "enumerate" rfl) (da_cons (xv 4) da_nil)) (blkOk_by (own := [("index", 5), ("entry", 6)]) (N := ["self", "figures", "rows", "columns", "products", "index", "entry"]) (sc := defScope (inClass (top 49) 0)) (by decide +kernel)) (bd_tp rfl (ba_cons (bd_nm (by decide)) (ba_cons (bd_nm (by decide)) ba_nil))) (fun _ _ _ _ _ => (pg_tup rfl (pgs_cons (gN 5 sc_Program___init__.nd) (pgs_cons (gN 6 sc_Program___init__.nd) pgs_nil)))) (fun _ _ _ _ _ => pts_no) (fun _ _ _ _ _ => (cc_call (cal_check_product T) (hr.mono (by decide)) (T.gl 27 "check_product" rfl) passF (xG 0 (xG 6 (xG 5 dg_nil))))))) da_nil)))))))))))) (FunD.bindsN D (fun _ _ _ _ _ _ us hl => match us, hl with | [_, _, _, _, _], _ => rfl))
theorem sc_Program___len__ : FnScope ["self"] ["self"] (defScope (inClass (top 49) 2)) := ⟨rfl, rfl, rfl, by decide +kernel, rfl, by decide +kernel, by decide +kernel⟩
theorem cal_Program___len__ (T : Fs tb K mg) : Cal P w ⟨K, mg, none⟩ base false 1 (He.ma K (He.ga K "Program") "__len__") 1 F_Program___len__ [] := by
  obtain ⟨fd, D⟩ : ∃ fd, FunD K "__len__" "Program.__len__" (defArgs (inClass (top 49) 2)) (defBody (inClass (top 49) 2)) (defScope (inClass (top 49) 2)) [] [] (He.ma K (He.ga K "Program") "__len__") fd := T.says.def_ 33 rfl
  exact cal_of D (ok_def (N := ["self"]) (ps := ["self"]) (k := 0) (c := ⟨K, mg, none⟩) D sc_Program___len__ (fun cdv A outer s H E hr => (ds_one (ds_ret (dx_bi (c_len rfl) k_len (by rfl) (T.fr 7 "len" rfl) PySem.boot_len (da_cons (xA 0) da_nil)))))) (FunD.bindsN D (fun _ _ _ _ _ _ us hl => match us, hl with | [_], _ => rfl))
theorem sc_first_not_zero : FnScope ["figures", "row", "number"] ["figures", "row"] (defScope (top 51)) := ⟨rfl, rfl, rfl, by decide +kernel, rfl, by decide +kernel, by decide +kernel⟩
theorem cal_first_not_zero (T : Fs tb K mg) : Cal P w ⟨K, mg, none⟩ base false 1 (He.ga K "first_not_zero") 2 F_first_not_zero [] := by
  obtain ⟨fd, D⟩ : ∃ fd, FunD K "first_not_zero" "first_not_zero" (defArgs (top 51)) (defBody (top 51)) (defScope (top 51)) [] [] (He.ga K "first_not_zero") fd := T.says.def_ 35 rfl
  exact cal_of D (ok_def (N := ["figures", "row", "number"]) (ps := ["figures", "row"]) (k := 0) (c := ⟨K, mg, none⟩) D sc_first_not_zero (fun cdv A outer s H E hr => (ds_cons (ds_for (vs := [2]) (gg := (gName 2)) (bind := (bNm 2)) (passes_of rfl) rfl (bd_nm (by decide)) (di_seq (xv 1)) (gN 2 sc_first_not_zero.nd) (ds_one (ds_if (dt_cmp (c_neD hr.units rfl) d_ne (xv 2) (xA 0)) (ds_one (ds_ret (xv 2))) ds_nil)))
      (ds_one (ds_ret dx_n))))) (FunD.bindsN D (fun _ _ _ _ _ _ us hl => match us, hl with | [_, _], _ => rfl))
theorem sc_does_something : FnScope ["figures", "entry", "left", "right", "first", "second", "sums", "row"] ["figures", "entry"] (defScope (top 52)) := ⟨rfl, rfl, rfl, by decide +kernel, rfl, by decide +kernel, by decide +kernel⟩
theorem cal_does_something (T : Fs tb K mg) : Cal P w ⟨K, mg, none⟩ base false 2 (He.ga K "does_something") 2 F_does_something [] := by
  obtain ⟨fd, D⟩ : ∃ fd, FunD K "does_something" "does_something" (defArgs (top 52)) (defBody (top 52)) (defScope (top 52)) [] [] (He.ga K "does_something") fd := T.says.def_ 36 rfl
  exact cal_of D (ok_def (N := ["figures", "entry", "left", "right", "first", "second", "sums", "row"]) (ps := ["figures", "entry"]) (k := 1) (c := ⟨K, mg, none⟩) D sc_does_something (fun cdv A outer s H E hr => (ds_cons (ds_asg (vs := [2, 3, 4, 5]) (gg := (gTup K 4 (gCons (gName 2) (gCons (gName 3) (gCons (gName 4) (gCons (gName 5) gNil)))))) (bind := (bTp [(bNm 2), (bNm 3), (bNm 4), (bNm 5)])) (bd_tp rfl (ba_cons (bd_nm (by decide)) (ba_cons (bd_nm (by decide)) (ba_cons (bd_nm (by decide)) (ba_cons (bd_nm (by decide)) ba_nil))))) (xv 1) (pg_tup rfl (pgs_cons (gN 2 sc_does_something.nd) (pgs_cons (gN 3 sc_does_something.nd) (pgs_cons (gN 4 sc_does_something.nd) (pgs_cons (gN 5 sc_does_something.nd) pgs_nil))))))
      (ds_cons (sS 6 sc_does_something.nd (dx_tup (da_cons (xv 2) (da_cons (xv 3) (da_cons (dx_tup (da_cons (xv 4) (da_cons (xv 5) da_nil))) da_nil)))))
      (ds_one (ds_ret (dx_bi (c_all rfl rfl) k_all (by rfl) (T.fr 1 "all" rfl) (by decide +kernel) (da_cons (dx_fz (dn_lc (own := [("row", 7)]) (g := (gName 7)) (bind := (bNm 7)) rfl sc_does_something.nd (di_seq (xv 6)) (blkOk_by (own := [("row", 7)]) (N := ["figures", "entry", "left", "right", "first", "second", "sums", "row"]) (sc := defScope (top 52)) (by decide +kernel)) (bd_nm (by decide)) (fun _ _ _ _ _ => (gN 7 sc_does_something.nd)) (fun _ _ _ _ _ => pts_no) (fun _ _ _ _ _ => (dx_cmp op_notN d_notN (cc_call (cal_first_not_zero T) (hr.mono (by decide)) (T.gl 29 "first_not_zero" rfl) passF (xG 0 (xG 7 dg_nil))) dx_n)))) da_nil)))))))) (FunD.bindsN D (fun _ _ _ _ _ _ us hl => match us, hl with | [_, _], _ => rfl))
theorem sc_Match___init__ : FnScope ["self", "product", "other", "left", "right"] ["self", "product", "other", "left", "right"] (defScope (inClass (top 55) 0)) := ⟨rfl, rfl, rfl, by decide +kernel, rfl, by decide +kernel, by decide +kernel⟩
theorem cal_Match___init__ (T : Fs tb K mg) : Cal P w ⟨K, mg, none⟩ base false 1 (He.ma K (He.ga K "Match") "__init__") 5 F_Match___init__ [] := by
  obtain ⟨fd, D⟩ : ∃ fd, FunD K "__init__" "Match.__init__" (defArgs (inClass (top 55) 0)) (defBody (inClass (top 55) 0)) (defScope (inClass (top 55) 0)) [] [] (He.ma K (He.ga K "Match") "__init__") fd := T.says.def_ 37 rfl
  exact cal_of D (ok_def (N := ["self", "product", "other", "left", "right"]) (ps := ["self", "product", "other", "left", "right"]) (k := 0) (c := ⟨K, mg, none⟩) D sc_Match___init__ (fun cdv A outer s H E hr => (ds_cons (ds_at (fun C e => noat_of T 2 rfl (T.gl 93 "Match" rfl) (by decide) e) (xM 0) (xv 1))
      (ds_cons (ds_at (fun C e => noat_of T 2 rfl (T.gl 93 "Match" rfl) (by decide) e) (xM 0) (xv 2))
      (ds_cons (ds_at (fun C e => noat_of T 2 rfl (T.gl 93 "Match" rfl) (by decide) e) (xM 0) (xv 3))
      (ds_one (ds_at (fun C e => noat_of T 2 rfl (T.gl 93 "Match" rfl) (by decide) e) (xM 0) (xv 4)))))))) (FunD.bindsN D (fun _ _ _ _ _ _ us hl => match us, hl with | [_, _, _, _, _], _ => rfl))
theorem sc_Shared___init__ : FnScope ["self", "first", "second", "side"] ["self", "first", "second", "side"] (defScope (inClass (top 56) 0)) := ⟨rfl, rfl, rfl, by decide +kernel, rfl, by decide +kernel, by decide +kernel⟩
theorem cal_Shared___init__ (T : Fs tb K mg) : Cal P w ⟨K, mg, none⟩ base false 1 (He.ma K (He.ga K "Shared") "__init__") 4 F_Shared___init__ [] := by
  obtain ⟨fd, D⟩ : ∃ fd, FunD K "__init__" "Shared.__init__" (defArgs (inClass (top 56) 0)) (defBody (inClass (top 56) 0)) (defScope (inClass (top 56) 0)) [] [] (He.ma K (He.ga K "Shared") "__init__") fd := T.says.def_ 38 rfl
  exact cal_of D (ok_def (N := ["self", "first", "second", "side"]) (ps := ["self", "first", "second", "side"]) (k := 0) (c := ⟨K, mg, none⟩) D sc_Shared___init__ (fun cdv A outer s H E hr => (ds_cons (ds_at (fun C e => noat_of T 3 rfl (T.gl 94 "Shared" rfl) (by decide) e) (xM 0) (xv 1))
      (ds_cons (ds_at (fun C e => noat_of T 3 rfl (T.gl 94 "Shared" rfl) (by decide) e) (xM 0) (xv 2))
      (ds_one (ds_at (fun C e => noat_of T 3 rfl (T.gl 94 "Shared" rfl) (by decide) e) (xM 0) (xv 3))))))) (FunD.bindsN D (fun _ _ _ _ _ _ us hl => match us, hl with | [_, _, _, _], _ => rfl))
theorem sc_undone_rest : FnScope ["number", "prime", "rest"] ["number", "prime"] (defScope (top 72)) := ⟨rfl, rfl, rfl, by decide +kernel, rfl, by decide +kernel, by decide +kernel⟩
theorem cal_undone_rest (T : Fs tb K mg) : Cal P w ⟨K, mg, none⟩ base false 3 (He.ga K "undone_rest") 2 F_undone_rest [] := by
  obtain ⟨fd, D⟩ : ∃ fd, FunD K "undone_rest" "undone_rest" (defArgs (top 72)) (defBody (top 72)) (defScope (top 72)) [] [] (He.ga K "undone_rest") fd := T.says.def_ 39 rfl
  exact cal_of D (ok_def (N := ["number", "prime", "rest"]) (ps := ["number", "prime"]) (k := 2) (c := ⟨K, mg, none⟩) D sc_undone_rest (fun cdv A outer s H E hr => (ds_cons (ds_for (vs := [2]) (gg := (gName 2)) (bind := (bNm 2)) (passes_of rfl) rfl (bd_nm (by decide)) (di_rg2 (by rfl) (T.fr 11 "range" rfl) (da_cons dx_i (da_cons (xv 1) da_nil))) (gN 2 sc_undone_rest.nd) (ds_one (ds_if (dt_cmp (c_eqD hr.units rfl) d_eq (dx_op op_modN d_mod (dx_op op_mulW d_mul (xv 0) (xv 2)) (xv 1)) dx_i) (ds_one (ds_ret (xv 2))) ds_nil)))
      (ds_one (xr0 (er_DividedByNought T) (takes_of rfl rfl rfl rfl)))))) (FunD.bindsN D (fun _ _ _ _ _ _ us hl => match us, hl with | [_, _], _ => rfl))
theorem sc_Figures_over : FnScope ["self", "one", "other"] ["self", "one", "other"] (defScope (inClass (top 73) 5)) := ⟨rfl, rfl, rfl, by decide +kernel, rfl, by decide +kernel, by decide +kernel⟩
theorem cal_Figures_over (T : Fs tb K mg) : Cal P w ⟨K, mg, none⟩ base false 4 (He.ma K (He.ga K "Figures") "over") 3 F_Figures_over [] := by
  obtain ⟨fd, D⟩ : ∃ fd, FunD K "over" "Figures.over" (defArgs (inClass (top 73) 5)) (defBody (inClass (top 73) 5)) (defScope (inClass (top 73) 5)) [] [] (He.ma K (He.ga K "Figures") "over") fd := T.says.def_ 40 rfl
  exact cal_of D (ok_def (N := ["self", "one", "other"]) (ps := ["self", "one", "other"]) (k := 3) (c := ⟨K, mg, none⟩) D sc_Figures_over (fun cdv A outer s H E hr => (ds_cons (ds_if (dt_cmp (c_eqD hr.units rfl) d_eq (xA 0) dx_i) (ds_one (ds_ret (cc_call (cal_ratio_over T) (hr.mono (by decide)) (T.gl 7 "ratio_over" rfl) (fun σ => passAt (takes_of rfl rfl rfl rfl) σ) (xG 1 (xG 2 dg_nil))))) ds_nil)
      (ds_one (ds_ret (dx_op op_modN d_mod (dx_op op_mulW d_mul (xv 1) (cc_call (cal_undone_rest T) (hr.mono (by decide)) (T.gl 44 "undone_rest" rfl) (fun σ => passAt (takes_of rfl rfl rfl rfl) σ) (xG 2 (dg_cons (xA 0) dg_nil)))) (xA 0))))))) (FunD.bindsN D (fun _ _ _ _ _ _ us hl => match us, hl with | [_, _, _], _ => rfl))
end
end N31
namespace N31
open PySem PySem.Spec PyProof.Rows L2 Fw Pd
section
variable {P : Program} {w : World} {K : PySem.W.Frag} {mg : Str → Option Value} {base : Heap}
theorem sc_size_between : FnScope ["figures", "one", "other", "place", "size"] ["figures", "one", "other"] (defScope (top 57)) := ⟨rfl, rfl, rfl, by decide +kernel, rfl, by decide +kernel, by decide +kernel⟩
theorem cal_size_between (T : Fs tb K mg) : Cal P w ⟨K, mg, none⟩ base false 5 (He.ga K "size_between") 3 F_size_between [] := by
  obtain ⟨fd, D⟩ : ∃ fd, FunD K "size_between" "size_between" (defArgs (top 57)) (defBody (top 57)) (defScope (top 57)) [] [] (He.ga K "size_between") fd := T.says.def_ 41 rfl
  exact cal_of D (ok_def (N := ["figures", "one", "other", "place", "size"]) (ps := ["figures", "one", "other"]) (k := 4) (c := ⟨K, mg, none⟩) D sc_size_between (fun cdv A outer s H E hr => (ds_cons (sS 3 sc_size_between.nd dx_i)
      (ds_cons (ds_wh (n := 100) (passes_of rfl) (dt_cmp (c_eqD hr.units rfl) d_eq (dx_ix (xv 1) (xv 3)) (xA 0)) (ds_one (sA 3 d_add ip_add sc_size_between.nd dx_i)))
      (ds_cons (sS 4 sc_size_between.nd (cc_meth (T.gl 95 "Figures" rfl) (xv 0) (T.cls 4 _ rfl).1.cl (T.meth 4 _ rfl "over" (by decide)) (cal_Figures_over T) (hr.mono (by decide)) (fun σ => passAt (takes_of rfl rfl rfl rfl) σ) (dg_cons (dx_ix (xv 2) (xv 3)) (dg_cons (dx_ix (xv 1) (xv 3)) dg_nil))))
      (ds_one (ds_ret (dx_if (dt_cmp (c_eqD hr.units rfl) d_eq (cc_call (cal_row_scaled T) (hr.mono (by decide)) (T.gl 12 "row_scaled" rfl) (fun σ => passAt (takes_of rfl rfl rfl rfl) σ) (xG 0 (xG 4 (xG 1 dg_nil)))) (xv 2)) (xv 4) dx_n)))))))) (FunD.bindsN D (fun _ _ _ _ _ _ us hl => match us, hl with | [_, _, _], _ => rfl))
theorem sc_side_of : FnScope ["entry", "side", "left", "right", "first", "second"] ["entry", "side"] (defScope (top 58)) := ⟨rfl, rfl, rfl, by decide +kernel, rfl, by decide +kernel, by decide +kernel⟩
theorem cal_side_of (T : Fs tb K mg) : Cal P w ⟨K, mg, none⟩ base false 1 (He.ga K "side_of") 2 F_side_of [] := by
  obtain ⟨fd, D⟩ : ∃ fd, FunD K "side_of" "side_of" (defArgs (top 58)) (defBody (top 58)) (defScope (top 58)) [] [] (He.ga K "side_of") fd := T.says.def_ 42 rfl
  exact cal_of D (ok_def (N := ["entry", "side", "left", "right", "first", "second"]) (ps := ["entry", "side"]) (k := 0) (c := ⟨K, mg, none⟩) D sc_side_of (fun cdv A outer s H E hr => (ds_cons (ds_asg (vs := [2, 3, 4, 5]) (gg := (gTup K 4 (gCons (gName 2) (gCons (gName 3) (gCons (gName 4) (gCons (gName 5) gNil)))))) (bind := (bTp [(bNm 2), (bNm 3), (bNm 4), (bNm 5)])) (bd_tp rfl (ba_cons (bd_nm (by decide)) (ba_cons (bd_nm (by decide)) (ba_cons (bd_nm (by decide)) (ba_cons (bd_nm (by decide)) ba_nil))))) (xv 0) (pg_tup rfl (pgs_cons (gN 2 sc_side_of.nd) (pgs_cons (gN 3 sc_side_of.nd) (pgs_cons (gN 4 sc_side_of.nd) (pgs_cons (gN 5 sc_side_of.nd) pgs_nil))))))
      (ds_cons (ds_if (dt_cmp (c_eqD hr.units rfl) d_eq (xv 1) dx_s) (ds_one (ds_ret (xv 2))) ds_nil)
      (ds_one (ds_ret (dx_if (dt_cmp (c_eqD hr.units rfl) d_eq (xv 1) dx_s) (xv 3) (dx_tup (da_cons (xv 4) (da_cons (xv 5) da_nil)))))))))) (FunD.bindsN D (fun _ _ _ _ _ _ us hl => match us, hl with | [_, _], _ => rfl))
theorem sc_sizes_if_alike : FnScope ["figures", "entry", "other", "left", "right", "both"] ["figures", "entry", "other"] (defScope (top 59)) := ⟨rfl, rfl, rfl, by decide +kernel, rfl, by decide +kernel, by decide +kernel⟩
theorem cal_sizes_if_alike (T : Fs tb K mg) : Cal P w ⟨K, mg, none⟩ base false 6 (He.ga K "sizes_if_alike") 3 F_sizes_if_alike [] := by
  obtain ⟨fd, D⟩ : ∃ fd, FunD K "sizes_if_alike" "sizes_if_alike" (defArgs (top 59)) (defBody (top 59)) (defScope (top 59)) [] [] (He.ga K "sizes_if_alike") fd := T.says.def_ 43 rfl
  exact cal_of D (ok_def (N := ["figures", "entry", "other", "left", "right", "both"]) (ps := ["figures", "entry", "other"]) (k := 5) (c := ⟨K, mg, none⟩) D sc_sizes_if_alike (fun cdv A outer s H E hr => (ds_cons (sS 3 sc_sizes_if_alike.nd (cc_call (cal_size_between T) (hr.mono (by decide)) (T.gl 31 "size_between" rfl) (fun σ => passAt (takes_of rfl rfl rfl rfl) σ) (xG 0 (dg_cons (dx_ix (xv 1) dx_i) (dg_cons (dx_ix (xv 2) dx_i) dg_nil)))))
      (ds_cons (sS 4 sc_sizes_if_alike.nd (cc_call (cal_size_between T) (hr.mono (by decide)) (T.gl 31 "size_between" rfl) (fun σ => passAt (takes_of rfl rfl rfl rfl) σ) (xG 0 (dg_cons (dx_ix (xv 1) dx_i) (dg_cons (dx_ix (xv 2) dx_i) dg_nil)))))
      (ds_cons (sS 5 sc_sizes_if_alike.nd (cc_call (cal_size_between T) (hr.mono (by decide)) (T.gl 31 "size_between" rfl) (fun σ => passAt (takes_of rfl rfl rfl rfl) σ) (xG 0 (dg_cons (dx_fz (dn_sl (xv 2) (do_e dx_i) do_no)) (dg_cons (dx_fz (dn_sl (xv 1) (do_e dx_i) do_no)) dg_nil)))))
      (ds_cons (ds_if (PW.pt (dw_or (dt_cmp op_isN d_isN (xv 3) dx_n) (dw_or (dt_cmp op_isN d_isN (xv 4) dx_n) (dw_or (dt_cmp op_isN d_isN (xv 5) dx_n) (dw_or1 (dt_cmp (c_neD hr.units rfl) d_ne (xv 5) (cc_meth (T.gl 95 "Figures" rfl) (xv 0) (T.cls 4 _ rfl).1.cl (T.meth 4 _ rfl "times" (by decide)) (cal_Figures_times T) (hr.mono (by decide)) (fun σ => passAt (takes_of rfl rfl rfl rfl) σ) (xG 3 (xG 4 dg_nil))))))))) (ds_one (ds_ret dx_n)) ds_nil)
      (ds_one (ds_ret (dx_tup (da_cons (xv 3) (da_cons (xv 4) da_nil))))))))))) (FunD.bindsN D (fun _ _ _ _ _ _ us hl => match us, hl with | [_, _, _], _ => rfl))
theorem sc_doing_places : FnScope ["program", "place", "entry"] ["program"] (defScope (top 60)) := ⟨rfl, rfl, rfl, by decide +kernel, rfl, by decide +kernel, by decide +kernel⟩
theorem cal_doing_places (T : Fs tb K mg) : Cal P w ⟨K, mg, none⟩ base false 4 (He.ga K "doing_places") 1 F_doing_places [] := by
  obtain ⟨fd, D⟩ : ∃ fd, FunD K "doing_places" "doing_places" (defArgs (top 60)) (defBody (top 60)) (defScope (top 60)) [] [] (He.ga K "doing_places") fd := T.says.def_ 44 rfl
  exact cal_of D (ok_def (N := ["program", "place", "entry"]) (ps := ["program"]) (k := 3) (c := ⟨K, mg, none⟩) D sc_doing_places (fun cdv A outer s H E hr => (ds_one (ds_ret (dx_fz (dn_lc (own := [("place", 1), ("entry", 2)]) (g := (gTup K 2 (gCons (gName 1) (gCons (gName 2) gNil)))) (bind := (bTp [(bNm 1), (bNm 2)])) rfl sc_doing_places.nd (di_enumP ⟨(T.spc 1 _ rfl).1, (T.spc 1 _ rfl).2⟩ (T.gl 92 "Program" rfl) (it_Program T) (hr.mono (by decide)) (by rfl) (T.fr 3 "enumerate" rfl) (xv 0)) (blkOk_by (own := [("place", 1), ("entry", 2)]) (N := ["program", "place", "entry"]) (sc := defScope (top 60)) (by decide +kernel)) (bd_tp rfl (ba_cons (bd_nm (by decide)) (ba_cons (bd_nm (by decide)) ba_nil))) (fun _ _ _ _ _ => (pg_tup rfl (pgs_cons (gN 1 sc_doing_places.nd) (pgs_cons (gN 2 sc_doing_places.nd) pgs_nil)))) (fun _ _ _ _ _ => (pts_if (dt_tru rfl (cc_call (cal_does_something T) (hr.mono (by decide)) (T.gl 30 "does_something" rfl) passF (dg_cons (xA 0) (xG 2 dg_nil)))))) (fun _ _ _ _ _ => (xv 1)))))))) (FunD.bindsN D (fun _ _ _ _ _ _ us hl => match us, hl with | [_], _ => rfl))
theorem sc_first_match : FnScope ["program", "place", "other", "places", "at", "sizes"] ["program", "place", "other", "places"] (defScope (top 61)) := ⟨rfl, rfl, rfl, by decide +kernel, rfl, by decide +kernel, by decide +kernel⟩
theorem cal_first_match (T : Fs tb K mg) : Cal P w ⟨K, mg, none⟩ base false 7 (He.ga K "first_match") 4 F_first_match [] := by
  obtain ⟨fd, D⟩ : ∃ fd, FunD K "first_match" "first_match" (defArgs (top 61)) (defBody (top 61)) (defScope (top 61)) [] [] (He.ga K "first_match") fd := T.says.def_ 45 rfl
  exact cal_of D (ok_def (N := ["program", "place", "other", "places", "at", "sizes"]) (ps := ["program", "place", "other", "places"]) (k := 6) (c := ⟨K, mg, none⟩) D sc_first_match (fun cdv A outer s H E hr => (ds_cons (ds_for (vs := [4]) (gg := (gName 4)) (bind := (bNm 4)) (passes_of rfl) rfl (bd_nm (by decide)) (di_seq (xv 3)) (gN 4 sc_first_match.nd) (ds_cons (sS 5 sc_first_match.nd (cc_call (cal_sizes_if_alike T) (hr.mono (by decide)) (T.gl 33 "sizes_if_alike" rfl) (fun σ => passAt (takes_of rfl rfl rfl rfl) σ) (dg_cons (xA 0) (dg_cons (dx_ix (xA 0) (xv 1)) (dg_cons (dx_ix (xA 2) (xv 4)) dg_nil)))))
      (ds_one (ds_if (dt_cmp op_notN d_notN (xv 5) dx_n) (ds_one (ds_ret (cc_make (T.gl 93 "Match" rfl) (T.cls 2 _ rfl).1 (T.cls 2 _ rfl).2 (cal_Match___init__ T) (hr.mono (by decide)) (fun σ => passAt (takes_of rfl rfl rfl rfl) σ) (da_cons (xv 1) (da_cons (xv 4) (da_cons (dx_ix (xv 5) dx_i) (da_cons (dx_ix (xv 5) dx_i) da_nil))))))) ds_nil))))
      (ds_one (ds_ret dx_n))))) (FunD.bindsN D (fun _ _ _ _ _ _ us hl => match us, hl with | [_, _, _, _], _ => rfl))
theorem sc_Figures___eq__ : FnScope ["self", "other"] ["self", "other"] (defScope (inClass (top 73) 1)) := ⟨rfl, rfl, rfl, by decide +kernel, rfl, by decide +kernel, by decide +kernel⟩
theorem cal_Figures___eq__ (T : Fs tb K mg) : Cal P w ⟨K, mg, none⟩ base false 1 (He.ma K (He.ga K "Figures") "__eq__") 2 F_Figures___eq___31 [] := by
  obtain ⟨fd, D⟩ : ∃ fd, FunD K "__eq__" "Figures.__eq__" (defArgs (inClass (top 73) 1)) (defBody (inClass (top 73) 1)) (defScope (inClass (top 73) 1)) [] [] (He.ma K (He.ga K "Figures") "__eq__") fd := T.says.def_ 46 rfl
  exact cal_of D (ok_def (N := ["self", "other"]) (ps := ["self", "other"]) (k := 0) (c := ⟨K, mg, none⟩) D sc_Figures___eq__ (fun cdv A outer s H E hr => (ds_one (ds_ret (dx_and (dx_isC (ms := [("Pair", false), ("Program", false), ("Match", false), ("Shared", false), ("Figures", true)]) (bf := false) T 95 rfl (by decide +kernel) (by decide +kernel) (T.fr 5 "isinstance" rfl) (xv 1)) (dx_one (dx_cmp (c_eqD hr.units rfl) d_eq (xA 0) (xA 1)))))))) (FunD.bindsN D (fun _ _ _ _ _ _ us hl => match us, hl with | [_, _], _ => rfl))
theorem sc_alike_programs : FnScope ["program", "other", "free", "matches", "place", "found", "at"] ["program", "other"] (defScope (top 62)) := ⟨rfl, rfl, rfl, by decide +kernel, rfl, by decide +kernel, by decide +kernel⟩
theorem cal_alike_programs (T : Fs tb K mg) : Cal P w ⟨K, mg, none⟩ base false 8 (He.ga K "alike_programs") 2 F_alike_programs [] := by
  obtain ⟨fd, D⟩ : ∃ fd, FunD K "alike_programs" "alike_programs" (defArgs (top 62)) (defBody (top 62)) (defScope (top 62)) [] [] (He.ga K "alike_programs") fd := T.says.def_ 47 rfl
  exact cal_of D (ok_def (N := ["program", "other", "free", "matches", "place", "found", "at"]) (ps := ["program", "other"]) (k := 7) (c := ⟨K, mg, none⟩) D sc_alike_programs (fun cdv A outer s H E hr => (ds_cons (ds_if (ct_neI (T.ne 0 _ rfl) (T.spc 2 _ rfl).1 (T.spc 2 _ rfl).2 (T.cls 4 _ rfl).1.mo (T.gl 95 "Figures" rfl) (cal_Figures___eq__ T) (hr.mono (by decide)) (xA 0) (xA 1)) (ds_one (xr0 (er_Unlike T) (takes_of rfl rfl rfl rfl))) ds_nil)
      (ds_cons (ds_if (PW.pt (dw_or (dt_cmp (c_neD hr.units rfl) d_ne (xA 0) (xA 1)) (dw_or1 (dt_cmp (c_neD hr.units rfl) d_ne (xA 0) (xA 1))))) (ds_one (ds_ret dx_n)) ds_nil)
      (ds_cons (sS 2 sc_alike_programs.nd (cc_call (cal_doing_places T) (hr.mono (by decide)) (T.gl 34 "doing_places" rfl) (fun σ => passAt (takes_of rfl rfl rfl rfl) σ) (xG 1 dg_nil)))
      (ds_cons (sSN 3 sc_alike_programs.nd (dn_lst da_nil))
      (ds_cons (ds_for (vs := [4]) (gg := (gName 4)) (bind := (bNm 4)) (passes_of rfl) rfl (bd_nm (by decide)) (di_seq (cc_call (cal_doing_places T) (hr.mono (by decide)) (T.gl 34 "doing_places" rfl) (fun σ => passAt (takes_of rfl rfl rfl rfl) σ) (xG 0 dg_nil))) (gN 4 sc_alike_programs.nd) (ds_cons (sS 5 sc_alike_programs.nd (cc_call (cal_first_match T) (hr.mono (by decide)) (T.gl 35 "first_match" rfl) (fun σ => passAt (takes_of rfl rfl rfl rfl) σ) (xG 0 (xG 4 (xG 1 (xG 2 dg_nil))))))
      (ds_cons (ds_if (dt_cmp op_isN d_isN (xv 5) dx_n) (ds_one (ds_ret dx_n)) ds_nil)
      (ds_cons (ds_setLcF (i := 2) (own := [("at", 6)]) (g := (gName 6)) (bind := (bNm 6)) rfl sc_alike_programs.nd rfl rfl (sw_true rfl rfl rfl (by decide +kernel)) (di_seq (xv 2)) (blkOk_by (own := [("at", 6)]) (N := ["program", "other", "free", "matches", "place", "found", "at"]) (sc := defScope (top 62)) (by decide +kernel)) (bd_nm (by decide)) (fun _ _ _ _ _ => (gN 6 sc_alike_programs.nd)) (fun _ _ _ _ _ => (pts_if (dt_cmp (c_neD hr.units rfl) d_ne (xv 6) (xA 5)))) (fun _ _ _ _ _ => (xv 6)))
      (ds_one (ds_app (xP 3) (dn_of (xv 5))))))))
      (ds_one (ds_frz 3 (ds_ret (dx_if (dt_cmp (c_eqD hr.units rfl) d_eq (dx_bi (c_len rfl) k_len (by rfl) (T.fr 7 "len" rfl) PySem.boot_len (da_cons (xv 2) da_nil)) dx_i) (dx_ty (c_tup rfl) k_tup (by rfl) (T.fr 14 "tuple" rfl) PyProof.Rows.boot_tuple (da_cons (xv 3) da_nil)) dx_n))))))))))) (FunD.bindsN D (fun _ _ _ _ _ _ us hl => match us, hl with | [_, _], _ => rfl))
theorem sc_side_size : FnScope ["figures", "entry", "other", "side"] ["figures", "entry", "other", "side"] (defScope (top 63)) := ⟨rfl, rfl, rfl, by decide +kernel, rfl, by decide +kernel, by decide +kernel⟩
theorem cal_side_size (T : Fs tb K mg) : Cal P w ⟨K, mg, none⟩ base false 6 (He.ga K "side_size") 4 F_side_size [] := by
  obtain ⟨fd, D⟩ : ∃ fd, FunD K "side_size" "side_size" (defArgs (top 63)) (defBody (top 63)) (defScope (top 63)) [] [] (He.ga K "side_size") fd := T.says.def_ 48 rfl
  exact cal_of D (ok_def (N := ["figures", "entry", "other", "side"]) (ps := ["figures", "entry", "other", "side"]) (k := 5) (c := ⟨K, mg, none⟩) D sc_side_size (fun cdv A outer s H E hr => (ds_one (ds_ret (cc_call (cal_size_between T) (hr.mono (by decide)) (T.gl 31 "size_between" rfl) (fun σ => passAt (takes_of rfl rfl rfl rfl) σ) (xG 0 (dg_cons (cc_call (cal_side_of T) (hr.mono (by decide)) (T.gl 32 "side_of" rfl) (fun σ => passAt (takes_of rfl rfl rfl rfl) σ) (xG 1 (xG 3 dg_nil))) (dg_cons (cc_call (cal_side_of T) (hr.mono (by decide)) (T.gl 32 "side_of" rfl) (fun σ => passAt (takes_of rfl rfl rfl rfl) σ) (xG 2 (xG 3 dg_nil))) dg_nil)))))))) (FunD.bindsN D (fun _ _ _ _ _ _ us hl => match us, hl with | [_, _, _, _], _ => rfl))
theorem sc_shared_of_two : FnScope ["program", "first", "second", "side"] ["program", "first", "second"] (defScope (top 64)) := ⟨rfl, rfl, rfl, by decide +kernel, rfl, by decide +kernel, by decide +kernel⟩
theorem cal_shared_of_two (T : Fs tb K mg) : Cal P w ⟨K, mg, none⟩ base false 7 (He.ga K "shared_of_two") 3 F_shared_of_two [] := by
  obtain ⟨fd, D⟩ : ∃ fd, FunD K "shared_of_two" "shared_of_two" (defArgs (top 64)) (defBody (top 64)) (defScope (top 64)) [] [] (He.ga K "shared_of_two") fd := T.says.def_ 49 rfl
  exact cal_of D (ok_def (N := ["program", "first", "second", "side"]) (ps := ["program", "first", "second"]) (k := 6) (c := ⟨K, mg, none⟩) D sc_shared_of_two (fun cdv A outer s H E hr => (ds_cons (ds_for (vs := [3]) (gg := (gName 3)) (bind := (bNm 3)) (passes_of rfl) rfl (bd_nm (by decide)) (di_seq (xgT (tupOk_SIDES T))) (gN 3 sc_shared_of_two.nd) (ds_one (ds_if (dt_cmp op_notN d_notN (cc_call (cal_side_size T) (hr.mono (by decide)) (T.gl 37 "side_size" rfl) (fun σ => passAt (takes_of rfl rfl rfl rfl) σ) (dg_cons (xA 0) (dg_cons (dx_ix (xA 0) (xv 1)) (dg_cons (dx_ix (xA 0) (xv 2)) (xG 3 dg_nil))))) dx_n) (ds_one (ds_ret (cc_make (T.gl 94 "Shared" rfl) (T.cls 3 _ rfl).1 (T.cls 3 _ rfl).2 (cal_Shared___init__ T) (hr.mono (by decide)) (fun σ => passAt (takes_of rfl rfl rfl rfl) σ) (da_cons (xv 1) (da_cons (xv 2) (da_cons (xv 3) da_nil)))))) ds_nil)))
      (ds_one (ds_ret dx_n))))) (FunD.bindsN D (fun _ _ _ _ _ _ us hl => match us, hl with | [_, _, _], _ => rfl))
theorem sc_shared_side : FnScope ["program", "places", "at", "first", "second", "shared"] ["program"] (defScope (top 65)) := ⟨rfl, rfl, rfl, by decide +kernel, rfl, by decide +kernel, by decide +kernel⟩
theorem cal_shared_side (T : Fs tb K mg) : Cal P w ⟨K, mg, none⟩ base false 8 (He.ga K "shared_side") 1 F_shared_side [] := by
  obtain ⟨fd, D⟩ : ∃ fd, FunD K "shared_side" "shared_side" (defArgs (top 65)) (defBody (top 65)) (defScope (top 65)) [] [] (He.ga K "shared_side") fd := T.says.def_ 50 rfl
  exact cal_of D (ok_def (N := ["program", "places", "at", "first", "second", "shared"]) (ps := ["program"]) (k := 7) (c := ⟨K, mg, none⟩) D sc_shared_side (fun cdv A outer s H E hr => (ds_cons (sS 1 sc_shared_side.nd (cc_call (cal_doing_places T) (hr.mono (by decide)) (T.gl 34 "doing_places" rfl) (fun σ => passAt (takes_of rfl rfl rfl rfl) σ) (xG 0 dg_nil)))
      (ds_cons (ds_for (vs := [2, 3]) (gg := (gTup K 2 (gCons (gName 2) (gCons (gName 3) gNil)))) (bind := (bTp [(bNm 2), (bNm 3)])) (passes_of rfl) rfl (bd_tp rfl (ba_cons (bd_nm (by decide)) (ba_cons (bd_nm (by decide)) ba_nil))) (di_enum (by rfl) (T.fr 3 "enumerate" rfl) (da_cons (xv 1) da_nil)) (pg_tup rfl (pgs_cons (gN 2 sc_shared_side.nd) (pgs_cons (gN 3 sc_shared_side.nd) pgs_nil))) (ds_one (ds_for (vs := [4]) (gg := (gName 4)) (bind := (bNm 4)) (passes_of rfl) rfl (bd_nm (by decide)) (di_seq (dx_fz (dn_sl (xv 1) (do_e (dx_op op_add d_add (xv 2) dx_i)) do_no))) (gN 4 sc_shared_side.nd) (ds_cons (sS 5 sc_shared_side.nd (cc_call (cal_shared_of_two T) (hr.mono (by decide)) (T.gl 38 "shared_of_two" rfl) (fun σ => passAt (takes_of rfl rfl rfl rfl) σ) (xG 0 (xG 3 (xG 4 dg_nil)))))
      (ds_one (ds_if (dt_cmp op_notN d_notN (xv 5) dx_n) (ds_one (ds_ret (xv 5))) ds_nil))))))
      (ds_one (ds_ret dx_n)))))) (FunD.bindsN D (fun _ _ _ _ _ _ us hl => match us, hl with | [_], _ => rfl))
theorem sc_check_shared : FnScope ["program", "first", "second", "side", "most", "entry", "other", "size"] ["program", "first", "second", "side"] (defScope (top 66)) := ⟨rfl, rfl, rfl, by decide +kernel, rfl, by decide +kernel, by decide +kernel⟩
theorem cal_check_shared (T : Fs tb K mg) : Cal P w ⟨K, mg, none⟩ base false 7 (He.ga K "check_shared") 4 F_check_shared [] := by
  obtain ⟨fd, D⟩ : ∃ fd, FunD K "check_shared" "check_shared" (defArgs (top 66)) (defBody (top 66)) (defScope (top 66)) [] [] (He.ga K "check_shared") fd := T.says.def_ 51 rfl
  exact cal_of D (ok_def (N := ["program", "first", "second", "side", "most", "entry", "other", "size"]) (ps := ["program", "first", "second", "side"]) (k := 6) (c := ⟨K, mg, none⟩) D sc_check_shared (fun cdv A outer s H E hr => (ds_cons (sS 4 sc_check_shared.nd (dx_op op_sub d_sub (cc_lenI ⟨(T.spc 0 _ rfl).1, (T.spc 0 _ rfl).2⟩ (T.gl 92 "Program" rfl) (cal_Program___len__ T) (hr.mono (by decide)) (xv 0) (T.fr 7 "len" rfl)) dx_i))
      (ds_cons (ds_if (PW.pt (dw_or (dt_not (dt_tru rfl (cc_call (cal_is_whole_0 T) (hr.mono (by decide)) (T.gl 0 "is_whole" rfl) (fun σ => passAt (takes_of rfl rfl rfl rfl) σ) (xG 1 (dg_cons dx_i (xG 4 dg_nil)))))) (dw_or (dt_not (dt_tru rfl (cc_call (cal_is_whole_0 T) (hr.mono (by decide)) (T.gl 0 "is_whole" rfl) (fun σ => passAt (takes_of rfl rfl rfl rfl) σ) (xG 2 (dg_cons dx_i (xG 4 dg_nil)))))) (dw_or1 (dt_cmp (c_eqD hr.units rfl) d_eq (xv 1) (xv 2)))))) (ds_one (xr0 (er_NotShared T) (takes_of rfl rfl rfl rfl))) ds_nil)
      (ds_cons (sS 5 sc_check_shared.nd (dx_ix (xA 0) (xv 1)))
      (ds_cons (sS 6 sc_check_shared.nd (dx_ix (xA 0) (xv 2)))
      (ds_cons (ds_if (PW.pt (dw_or (dt_not (dt_tru rfl (cc_call (cal_does_something T) (hr.mono (by decide)) (T.gl 30 "does_something" rfl) (fun σ => passAt (takes_of rfl rfl rfl rfl) σ) (dg_cons (xA 0) (xG 5 dg_nil))))) (dw_or1 (dt_not (dt_tru rfl (cc_call (cal_does_something T) (hr.mono (by decide)) (T.gl 30 "does_something" rfl) (fun σ => passAt (takes_of rfl rfl rfl rfl) σ) (dg_cons (xA 0) (xG 6 dg_nil)))))))) (ds_one (xr0 (er_NotShared T) (takes_of rfl rfl rfl rfl))) ds_nil)
      (ds_cons (ds_if (dt_cmp (c_ninP hr.units65 rfl) d_ninP (xv 3) (xgT (tupOk_SIDES T))) (ds_one (xr0 (er_NotShared T) (takes_of rfl rfl rfl rfl))) ds_nil)
      (ds_cons (sS 7 sc_check_shared.nd (cc_call (cal_side_size T) (hr.mono (by decide)) (T.gl 37 "side_size" rfl) (fun σ => passAt (takes_of rfl rfl rfl rfl) σ) (dg_cons (xA 0) (xG 5 (xG 6 (xG 3 dg_nil))))))
      (ds_cons (ds_if (dt_cmp op_isN d_isN (xv 7) dx_n) (ds_one (xr0 (er_NotShared T) (takes_of rfl rfl rfl rfl))) ds_nil)
      (ds_one (ds_ret (xv 7))))))))))))) (FunD.bindsN D (fun _ _ _ _ _ _ us hl => match us, hl with | [_, _, _, _], _ => rfl))
theorem sc_Figures_minus : FnScope ["self", "one", "other"] ["self", "one", "other"] (defScope (inClass (top 73) 3)) := ⟨rfl, rfl, rfl, by decide +kernel, rfl, by decide +kernel, by decide +kernel⟩
theorem cal_Figures_minus (T : Fs tb K mg) : Cal P w ⟨K, mg, none⟩ base false 3 (He.ma K (He.ga K "Figures") "minus") 3 F_Figures_minus [] := by
  obtain ⟨fd, D⟩ : ∃ fd, FunD K "minus" "Figures.minus" (defArgs (inClass (top 73) 3)) (defBody (inClass (top 73) 3)) (defScope (inClass (top 73) 3)) [] [] (He.ma K (He.ga K "Figures") "minus") fd := T.says.def_ 52 rfl
  exact cal_of D (ok_def (N := ["self", "one", "other"]) (ps := ["self", "one", "other"]) (k := 2) (c := ⟨K, mg, none⟩) D sc_Figures_minus (fun cdv A outer s H E hr => (ds_cons (ds_if (dt_cmp (c_eqD hr.units rfl) d_eq (xA 0) dx_i) (ds_one (ds_ret (cc_call (cal_ratio_minus T) (hr.mono (by decide)) (T.gl 5 "ratio_minus" rfl) (fun σ => passAt (takes_of rfl rfl rfl rfl) σ) (xG 1 (xG 2 dg_nil))))) ds_nil)
      (ds_one (ds_ret (dx_op op_modN d_mod (dx_op op_sub d_sub (xv 1) (xv 2)) (xA 0))))))) (FunD.bindsN D (fun _ _ _ _ _ _ us hl => match us, hl with | [_, _, _], _ => rfl))
theorem sc_row_less : FnScope ["figures", "one", "other", "left", "right"] ["figures", "one", "other"] (defScope (top 67)) := ⟨rfl, rfl, rfl, by decide +kernel, rfl, by decide +kernel, by decide +kernel⟩
theorem cal_row_less (T : Fs tb K mg) : Cal P w ⟨K, mg, none⟩ base false 4 (He.ga K "row_less") 3 F_row_less [] := by
  obtain ⟨fd, D⟩ : ∃ fd, FunD K "row_less" "row_less" (defArgs (top 67)) (defBody (top 67)) (defScope (top 67)) [] [] (He.ga K "row_less") fd := T.says.def_ 53 rfl
  exact cal_of D (ok_def (N := ["figures", "one", "other", "left", "right"]) (ps := ["figures", "one", "other"]) (k := 3) (c := ⟨K, mg, none⟩) D sc_row_less (fun cdv A outer s H E hr => (ds_one (ds_ret (dx_ty (c_tup rfl) k_tup (by rfl) (T.fr 14 "tuple" rfl) PyProof.Rows.boot_tuple (da_cons (dx_fz (dn_lc (own := [("left", 3), ("right", 4)]) (g := (gTup K 2 (gCons (gName 3) (gCons (gName 4) gNil)))) (bind := (bTp [(bNm 3), (bNm 4)])) rfl sc_row_less.nd (di_zip (by rfl) (T.fr 15 "zip" rfl) (da_cons (xv 1) (da_cons (xv 2) da_nil))) (blkOk_by (own := [("left", 3), ("right", 4)]) (N := ["figures", "one", "other", "left", "right"]) (sc := defScope (top 67)) (by decide +kernel)) (bd_tp rfl (ba_cons (bd_nm (by decide)) (ba_cons (bd_nm (by decide)) ba_nil))) (fun _ _ _ _ _ => (pg_tup rfl (pgs_cons (gN 3 sc_row_less.nd) (pgs_cons (gN 4 sc_row_less.nd) pgs_nil)))) (fun _ _ _ _ _ => pts_no) (fun _ _ _ _ _ => (cc_meth (T.gl 95 "Figures" rfl) (xv 0) (T.cls 4 _ rfl).1.cl (T.meth 4 _ rfl "minus" (by decide)) (cal_Figures_minus T) (hr.mono (by decide)) passF (xG 3 (xG 4 dg_nil)))))) da_nil)))))) (FunD.bindsN D (fun _ _ _ _ _ _ us hl => match us, hl with | [_, _, _], _ => rfl))
theorem sc_exchanged_products : FnScope ["figures", "entry", "other", "side", "size", "left", "right", "first", "second", "numbers", "total", "part", "less"] ["figures", "entry", "other", "side", "size"] (defScope (top 68)) := ⟨rfl, rfl, rfl, by decide +kernel, rfl, by decide +kernel, by decide +kernel⟩
theorem cal_exchanged_products (T : Fs tb K mg) : Cal P w ⟨K, mg, none⟩ base false 5 (He.ga K "exchanged_products") 5 F_exchanged_products [] := by
  obtain ⟨fd, D⟩ : ∃ fd, FunD K "exchanged_products" "exchanged_products" (defArgs (top 68)) (defBody (top 68)) (defScope (top 68)) [] [] (He.ga K "exchanged_products") fd := T.says.def_ 54 rfl
  exact cal_of D (ok_def (N := ["figures", "entry", "other", "side", "size", "left", "right", "first", "second", "numbers", "total", "part", "less"]) (ps := ["figures", "entry", "other", "side", "size"]) (k := 4) (c := ⟨K, mg, none⟩) D sc_exchanged_products (fun cdv A outer s H E hr => (ds_cons (ds_asg (vs := [5, 6, 7, 8]) (gg := (gTup K 4 (gCons (gName 5) (gCons (gName 6) (gCons (gName 7) (gCons (gName 8) gNil)))))) (bind := (bTp [(bNm 5), (bNm 6), (bNm 7), (bNm 8)])) (bd_tp rfl (ba_cons (bd_nm (by decide)) (ba_cons (bd_nm (by decide)) (ba_cons (bd_nm (by decide)) (ba_cons (bd_nm (by decide)) ba_nil))))) (xv 1) (pg_tup rfl (pgs_cons (gN 5 sc_exchanged_products.nd) (pgs_cons (gN 6 sc_exchanged_products.nd) (pgs_cons (gN 7 sc_exchanged_products.nd) (pgs_cons (gN 8 sc_exchanged_products.nd) pgs_nil))))))
      (ds_cons (sS 9 sc_exchanged_products.nd (dx_tup (da_cons (xv 7) (da_cons (xv 8) da_nil))))
      (ds_cons (sS 10 sc_exchanged_products.nd (cc_call (cal_row_sum T) (hr.mono (by decide)) (T.gl 11 "row_sum" rfl) (fun σ => passAt (takes_of rfl rfl rfl rfl) σ) (xG 0 (xG 9 (dg_cons (dx_fz (dn_sl (xv 2) (do_e dx_i) do_no)) dg_nil)))))
      (ds_cons (ds_if (dt_cmp (c_eqD hr.units rfl) d_eq (xv 3) dx_s) (ds_cons (sS 11 sc_exchanged_products.nd (cc_call (cal_row_scaled T) (hr.mono (by decide)) (T.gl 12 "row_scaled" rfl) (fun σ => passAt (takes_of rfl rfl rfl rfl) σ) (xG 0 (xG 4 (dg_cons (dx_ix (xv 2) dx_i) dg_nil)))))
      (ds_one (ds_ret (dx_tup (da_cons (dx_fz (dn_plus (dx_tup (da_cons (xv 5) (da_cons (cc_call (cal_row_less T) (hr.mono (by decide)) (T.gl 41 "row_less" rfl) (fun σ => passAt (takes_of rfl rfl rfl rfl) σ) (xG 0 (xG 6 (xG 11 dg_nil)))) da_nil))) (xv 9))) (da_cons (dx_fz (dn_plus (dx_tup (da_cons (xv 5) (da_cons (xv 11) da_nil))) (xv 10))) da_nil)))))) ds_nil)
      (ds_cons (sS 11 sc_exchanged_products.nd (cc_call (cal_row_scaled T) (hr.mono (by decide)) (T.gl 12 "row_scaled" rfl) (fun σ => passAt (takes_of rfl rfl rfl rfl) σ) (xG 0 (xG 4 (dg_cons (dx_ix (xv 2) dx_i) dg_nil)))))
      (ds_cons (sS 12 sc_exchanged_products.nd (cc_call (cal_row_less T) (hr.mono (by decide)) (T.gl 41 "row_less" rfl) (fun σ => passAt (takes_of rfl rfl rfl rfl) σ) (xG 0 (xG 5 (xG 11 dg_nil)))))
      (ds_cons (ds_if (dt_cmp (c_eqD hr.units rfl) d_eq (xv 3) dx_s) (ds_one (ds_ret (dx_tup (da_cons (dx_fz (dn_plus (dx_tup (da_cons (xv 12) (da_cons (xv 6) da_nil))) (xv 9))) (da_cons (dx_fz (dn_plus (dx_tup (da_cons (xv 11) (da_cons (xv 6) da_nil))) (xv 10))) da_nil))))) ds_nil)
      (ds_one (ds_ret (dx_tup (da_cons (dx_fz (dn_plus (dx_tup (da_cons (xv 12) (da_cons (xv 6) da_nil))) (xv 9))) (da_cons (dx_fz (dn_plus (dx_tup (da_cons (xv 11) (da_cons (cc_call (cal_row_sum T) (hr.mono (by decide)) (T.gl 11 "row_sum" rfl) (fun σ => passAt (takes_of rfl rfl rfl rfl) σ) (xG 0 (xG 6 (dg_cons (dx_ix (xv 2) dx_i) dg_nil)))) da_nil))) (xv 9))) da_nil)))))))))))))) (FunD.bindsN D (fun _ _ _ _ _ _ us hl => match us, hl with | [_, _, _, _, _], _ => rfl))
theorem sc_exchanged_program : FnScope ["program", "first", "second", "side", "size", "products", "made"] ["program", "first", "second", "side"] (defScope (top 69)) := ⟨rfl, rfl, rfl, by decide +kernel, rfl, by decide +kernel, by decide +kernel⟩
theorem cal_exchanged_program (T : Fs tb K mg) : Cal P w ⟨K, mg, none⟩ base false 9 (He.ga K "exchanged_program") 4 F_exchanged_program [] := by
  obtain ⟨fd, D⟩ : ∃ fd, FunD K "exchanged_program" "exchanged_program" (defArgs (top 69)) (defBody (top 69)) (defScope (top 69)) [] [] (He.ga K "exchanged_program") fd := T.says.def_ 55 rfl
  exact cal_of D (ok_def (N := ["program", "first", "second", "side", "size", "products", "made"]) (ps := ["program", "first", "second", "side"]) (k := 8) (c := ⟨K, mg, none⟩) D sc_exchanged_program (fun cdv A outer s H E hr => (ds_cons (sS 4 sc_exchanged_program.nd (cc_call (cal_check_shared T) (hr.mono (by decide)) (T.gl 40 "check_shared" rfl) (fun σ => passAt (takes_of rfl rfl rfl rfl) σ) (xG 0 (xG 1 (xG 2 (xG 3 dg_nil))))))
      (ds_cons (sSN 5 sc_exchanged_program.nd (dn_ty (c_list rfl) k_list (by rfl) (T.fr 8 "list" rfl) (by decide +kernel) (da_cons (xA 0) da_nil)))
      (ds_cons (sS 6 sc_exchanged_program.nd (cc_call (cal_exchanged_products T) (hr.mono (by decide)) (T.gl 42 "exchanged_products" rfl) (fun σ => passAt (takes_of rfl rfl rfl rfl) σ) (dg_cons (xA 0) (dg_cons (dx_pl (dp_ix (xP 5) (xv 1))) (dg_cons (dx_pl (dp_ix (xP 5) (xv 2))) (xG 3 (xG 4 dg_nil)))))))
      (ds_cons (ds_st (dx_ix (xv 6) dx_i) (xP 5) (xv 1))
      (ds_cons (ds_st (dx_ix (xv 6) dx_i) (xP 5) (xv 2))
      (ds_one (ds_frz 5 (ds_ret (cc_make (T.gl 92 "Program" rfl) (T.cls 1 _ rfl).1 (T.cls 1 _ rfl).2 (cal_Program___init__ T) (hr.mono (by decide)) (fun σ => passAt (takes_of rfl rfl rfl rfl) σ) (da_cons (xA 0) (da_cons (xA 0) (da_cons (xA 0) (da_cons (xv 5) da_nil))))))))))))))) (FunD.bindsN D (fun _ _ _ _ _ _ us hl => match us, hl with | [_, _, _, _], _ => rfl))
theorem sc_Figures___init__ : FnScope ["self", "prime"] ["self", "prime"] (defScope (inClass (top 73) 0)) := ⟨rfl, rfl, rfl, by decide +kernel, rfl, by decide +kernel, by decide +kernel⟩
theorem cal_Figures___init__ (T : Fs tb K mg) : Cal P w ⟨K, mg, none⟩ base false 3 (He.ma K (He.ga K "Figures") "__init__") 2 F_Figures___init__ [] := by
  obtain ⟨fd, D⟩ : ∃ fd, FunD K "__init__" "Figures.__init__" (defArgs (inClass (top 73) 0)) (defBody (inClass (top 73) 0)) (defScope (inClass (top 73) 0)) [] [] (He.ma K (He.ga K "Figures") "__init__") fd := T.says.def_ 56 rfl
  exact cal_of D (ok_def (N := ["self", "prime"]) (ps := ["self", "prime"]) (k := 2) (c := ⟨K, mg, none⟩) D sc_Figures___init__ (fun cdv A outer s H E hr => (ds_cons (ds_if (PW.pt (dw_or (dt_not (dt_tru rfl (cc_call (cal_is_whole_2 T) (hr.mono (by decide)) (T.gl 0 "is_whole" rfl) (fun σ => passAt (takes_of rfl rfl rfl rfl) σ) (xG 1 dg_nil)))) (dw_or1 (dt_cmp (c_ninP hr.units65 rfl) d_ninP (xv 1) (xgT (tupOk_OFFERED T)))))) (ds_one (xr1 (er_BadFigures T) (takes_of rfl rfl rfl rfl) (hr.mono (by decide)) (da_cons (xv 1) da_nil))) ds_nil)
      (ds_cons (ds_at (fun C e => noat_of T 4 rfl (T.gl 95 "Figures" rfl) (by decide) e) (xM 0) (xv 1))
      (ds_cons (ds_at (fun C e => noat_of T 4 rfl (T.gl 95 "Figures" rfl) (by decide) e) (xM 0) (dx_if (dt_cmp (c_eqD hr.units rfl) d_eq (xv 1) dx_i) (dx_tup (da_cons dx_i (da_cons dx_i da_nil))) dx_i))
      (ds_one (ds_at (fun C e => noat_of T 4 rfl (T.gl 95 "Figures" rfl) (by decide) e) (xM 0) (dx_if (dt_cmp (c_eqD hr.units rfl) d_eq (xv 1) dx_i) (dx_tup (da_cons dx_i (da_cons dx_i da_nil))) dx_i)))))))) (FunD.bindsN D (fun _ _ _ _ _ _ us hl => match us, hl with | [_, _], _ => rfl))
theorem sc__law_mixed : FnScope ["_law_number_here", "_law_turn", "_law_once", "_law_twice"] ["_law_number_here", "_law_turn"] (defScope (top 76)) := ⟨rfl, rfl, rfl, by decide +kernel, rfl, by decide +kernel, by decide +kernel⟩
theorem cal__law_mixed (T : Fs tb K mg) : Cal P w ⟨K, mg, none⟩ base false 1 (He.ga K "_law_mixed") 2 F__law_mixed [] := by
  obtain ⟨fd, D⟩ : ∃ fd, FunD K "_law_mixed" "_law_mixed" (defArgs (top 76)) (defBody (top 76)) (defScope (top 76)) [] [] (He.ga K "_law_mixed") fd := T.says.def_ 58 rfl
  exact cal_of D (ok_def (N := ["_law_number_here", "_law_turn", "_law_once", "_law_twice"]) (ps := ["_law_number_here", "_law_turn"]) (k := 0) (c := ⟨K, mg, none⟩) D sc__law_mixed (fun cdv A outer s H E hr => (ds_cons (sS 2 sc__law_mixed.nd (dx_op op_modN d_mod (dx_ty call_int1 k_int (by rfl) (T.fr 4 "int" rfl) PyProof.Rows.boot_int (da_cons (dx_op op_add d_add (dx_op op_add d_add (dx_op op_mulW d_mul (xv 0) dx_i) (dx_op op_mulW d_mul (xv 1) dx_i)) dx_i) da_nil)) dx_i))
      (ds_cons (sS 3 sc__law_mixed.nd (dx_op op_modN d_mod (dx_ty call_int1 k_int (by rfl) (T.fr 4 "int" rfl) PyProof.Rows.boot_int (da_cons (dx_op op_add d_add (dx_op op_add d_add (dx_op op_mulW d_mul (xv 2) (xv 2)) (dx_op op_mulW d_mul (xv 1) dx_i)) (dx_op op_fdivG d_div (xv 2) dx_i)) da_nil)) dx_i))
      (ds_one (ds_ret (dx_op op_fdivG d_div (dx_ty call_int1 k_int (by rfl) (T.fr 4 "int" rfl) PyProof.Rows.boot_int (da_cons (dx_op op_modN d_mod (dx_ty call_int1 k_int (by rfl) (T.fr 4 "int" rfl) PyProof.Rows.boot_int (da_cons (dx_op op_add d_add (dx_op op_mulW d_mul (xv 3) dx_i) (dx_op op_fdivG d_div (xv 2) dx_i)) da_nil)) dx_i) da_nil)) dx_i))))))) (FunD.bindsN D (fun _ _ _ _ _ _ us hl => match us, hl with | [_, _], _ => rfl))
theorem sc__law_take : FnScope ["_law_hand_here", "_law_many", "_law_cell", "_law_rest"] ["_law_hand_here", "_law_many"] (defScope (top 77)) := ⟨rfl, rfl, rfl, by decide +kernel, rfl, by decide +kernel, by decide +kernel⟩
theorem cal__law_take (T : Fs tb K mg) : Cal P w ⟨K, mg, none⟩ base false 2 (He.ga K "_law_take") 2 F__law_take [] := by
  obtain ⟨fd, D⟩ : ∃ fd, FunD K "_law_take" "_law_take" (defArgs (top 77)) (defBody (top 77)) (defScope (top 77)) [] [] (He.ga K "_law_take") fd := T.says.def_ 59 rfl
  exact cal_of D (ok_def (N := ["_law_hand_here", "_law_many", "_law_cell", "_law_rest"]) (ps := ["_law_hand_here", "_law_many"]) (k := 1) (c := ⟨K, mg, none⟩) D sc__law_take (fun cdv A outer s H E hr => (ds_cons (ds_if (PW.pt (dw_and (dt_cmp (c_eqD hr.units rfl) d_eq (dx_ixM (xM 0) dx_i) dx_i) (dw_and1 (dt_cmp op_lt d_lt (dx_ixM (xM 0) dx_i) (dx_bi (c_len rfl) k_len (by rfl) (T.fr 7 "len" rfl) PySem.boot_len (da_cons (dx_ixM (xM 0) dx_i) da_nil)))))) (ds_cons (sS 2 sc__law_take.nd (dx_ix (dx_ixM (xM 0) dx_i) (dx_ixM (xM 0) dx_i)))
      (ds_cons (ds_stM (dx_op op_add d_add (dx_ixM (xM 0) dx_i) dx_i) (xM 0) dx_i)
      (ds_cons (ds_if (dt_cmp op_lt d_lt (xv 2) (dx_op op_pow d_pow dx_i dx_i)) (ds_one (ds_ret (dx_op op_modN d_mod (dx_ty call_int1 k_int (by rfl) (T.fr 4 "int" rfl) PyProof.Rows.boot_int (da_cons (cc_call (cal__law_mixed T) (hr.mono (by decide)) (T.gl 46 "_law_mixed" rfl) (fun σ => passAt (takes_of rfl rfl rfl rfl) σ) (dg_cons (dx_op op_modN d_mod (dx_ty call_int1 k_int (by rfl) (T.fr 4 "int" rfl) PyProof.Rows.boot_int (da_cons (xv 2) da_nil)) dx_i) (dg_cons (dx_ixM (xM 0) dx_i) dg_nil))) da_nil)) (xv 1)))) ds_nil)
      (ds_one (ds_stM (xv 2) (xM 0) dx_i))))) ds_nil)
      (ds_cons (ds_if (dt_cmp op_gt d_gt (dx_ixM (xM 0) dx_i) dx_i) (ds_cons (sS 3 sc__law_take.nd (dx_ixM (xM 0) dx_i))
      (ds_cons (ds_stM (dx_op op_fdivG d_div (dx_ty call_int1 k_int (by rfl) (T.fr 4 "int" rfl) PyProof.Rows.boot_int (da_cons (xv 3) da_nil)) (xv 1)) (xM 0) dx_i)
      (ds_one (ds_ret (dx_op op_modN d_mod (dx_ty call_int1 k_int (by rfl) (T.fr 4 "int" rfl) PyProof.Rows.boot_int (da_cons (xv 3) da_nil)) (xv 1)))))) ds_nil)
      (ds_cons (ds_stM (dx_op op_modN d_mod (dx_ty call_int1 k_int (by rfl) (T.fr 4 "int" rfl) PyProof.Rows.boot_int (da_cons (dx_op op_add d_add (dx_ixM (xM 0) dx_i) dx_i) da_nil)) dx_i) (xM 0) dx_i)
      (ds_one (ds_ret (dx_op op_modN d_mod (dx_ty call_int1 k_int (by rfl) (T.fr 4 "int" rfl) PyProof.Rows.boot_int (da_cons (cc_call (cal__law_mixed T) (hr.mono (by decide)) (T.gl 46 "_law_mixed" rfl) (fun σ => passAt (takes_of rfl rfl rfl rfl) σ) (dg_cons (dx_ixM (xM 0) dx_i) (dg_cons (dx_ixM (xM 0) dx_i) dg_nil))) da_nil)) (xv 1))))))))) (FunD.bindsN D (fun _ _ _ _ _ _ us hl => match us, hl with | [_, _], _ => rfl))
theorem sc__law_gcd : FnScope ["_law_one", "_law_other", "_law_a", "_law_b", "_law_k", "_law_rest"] ["_law_one", "_law_other"] (defScope (top 78)) := ⟨rfl, rfl, rfl, by decide +kernel, rfl, by decide +kernel, by decide +kernel⟩
theorem cal__law_gcd (T : Fs tb K mg) : Cal P w ⟨K, mg, none⟩ base false 1 (He.ga K "_law_gcd") 2 F__law_gcd [] := by
  obtain ⟨fd, D⟩ : ∃ fd, FunD K "_law_gcd" "_law_gcd" (defArgs (top 78)) (defBody (top 78)) (defScope (top 78)) [] [] (He.ga K "_law_gcd") fd := T.says.def_ 60 rfl
  exact cal_of D (ok_def (N := ["_law_one", "_law_other", "_law_a", "_law_b", "_law_k", "_law_rest"]) (ps := ["_law_one", "_law_other"]) (k := 0) (c := ⟨K, mg, none⟩) D sc__law_gcd (fun cdv A outer s H E hr => (ds_cons (sS 2 sc__law_gcd.nd (dx_bi call_abs k_abs (by rfl) (T.fr 0 "abs" rfl) (by decide +kernel) (da_cons (xv 0) da_nil)))
      (ds_cons (sS 3 sc__law_gcd.nd (dx_bi call_abs k_abs (by rfl) (T.fr 0 "abs" rfl) (by decide +kernel) (da_cons (xv 1) da_nil)))
      (ds_cons (ds_for (vs := [4]) (gg := (gName 4)) (bind := (bNm 4)) (passes_of rfl) rfl (bd_nm (by decide)) (di_rg1 (by rfl) (T.fr 11 "range" rfl) (da_cons dx_i da_nil)) (gN 4 sc__law_gcd.nd) (ds_cons (ds_if (dt_cmp (c_eqD hr.units rfl) d_eq (xv 3) dx_i) (ds_one (ds_ret (xv 2))) ds_nil)
      (ds_cons (sS 5 sc__law_gcd.nd (dx_op op_modN d_mod (dx_ty call_int1 k_int (by rfl) (T.fr 4 "int" rfl) PyProof.Rows.boot_int (da_cons (xv 2) da_nil)) (xv 3)))
      (ds_cons (sS 2 sc__law_gcd.nd (xv 3))
      (ds_one (sS 3 sc__law_gcd.nd (xv 5)))))))
      (ds_one (ds_ret dx_i))))))) (FunD.bindsN D (fun _ _ _ _ _ _ us hl => match us, hl with | [_, _], _ => rfl))
theorem sc__law_ratio : FnScope ["_law_top", "_law_bottom", "_law_common"] ["_law_top", "_law_bottom"] (defScope (top 79)) := ⟨rfl, rfl, rfl, by decide +kernel, rfl, by decide +kernel, by decide +kernel⟩
theorem cal__law_ratio (T : Fs tb K mg) : Cal P w ⟨K, mg, none⟩ base false 2 (He.ga K "_law_ratio") 2 F__law_ratio [] := by
  obtain ⟨fd, D⟩ : ∃ fd, FunD K "_law_ratio" "_law_ratio" (defArgs (top 79)) (defBody (top 79)) (defScope (top 79)) [] [] (He.ga K "_law_ratio") fd := T.says.def_ 61 rfl
  exact cal_of D (ok_def (N := ["_law_top", "_law_bottom", "_law_common"]) (ps := ["_law_top", "_law_bottom"]) (k := 1) (c := ⟨K, mg, none⟩) D sc__law_ratio (fun cdv A outer s H E hr => (ds_cons (sS 2 sc__law_ratio.nd (cc_call (cal__law_gcd T) (hr.mono (by decide)) (T.gl 48 "_law_gcd" rfl) (fun σ => passAt (takes_of rfl rfl rfl rfl) σ) (xG 0 (xG 1 dg_nil))))
      (ds_cons (ds_if (dt_cmp op_lt d_lt (xv 1) dx_i) (ds_one (sS 2 sc__law_ratio.nd (dx_neg (xv 2)))) ds_nil)
      (ds_one (ds_ret (dx_tup (da_cons (dx_op op_fdivG d_div (xv 0) (xv 2)) (da_cons (dx_op op_fdivG d_div (xv 1) (xv 2)) da_nil))))))))) (FunD.bindsN D (fun _ _ _ _ _ _ us hl => match us, hl with | [_, _], _ => rfl))
end
end N31
namespace N31
open PySem PySem.Spec PyProof.Rows L2 Fw Pd
section
variable {P : Program} {w : World} {K : PySem.W.Frag} {mg : Str → Option Value} {base : Heap}
theorem sc__law_num : FnScope ["_law_p", "_law_many"] ["_law_p", "_law_many"] (defScope (top 80)) := ⟨rfl, rfl, rfl, by decide +kernel, rfl, by decide +kernel, by decide +kernel⟩
theorem cal__law_num (T : Fs tb K mg) : Cal P w ⟨K, mg, none⟩ base false 1 (He.ga K "_law_num") 2 F__law_num [] := by
  obtain ⟨fd, D⟩ : ∃ fd, FunD K "_law_num" "_law_num" (defArgs (top 80)) (defBody (top 80)) (defScope (top 80)) [] [] (He.ga K "_law_num") fd := T.says.def_ 62 rfl
  exact cal_of D (ok_def (N := ["_law_p", "_law_many"]) (ps := ["_law_p", "_law_many"]) (k := 0) (c := ⟨K, mg, none⟩) D sc__law_num (fun cdv A outer s H E hr => (ds_cons (ds_if (dt_cmp (c_eqD hr.units rfl) d_eq (xv 0) dx_i) (ds_one (ds_ret (dx_tup (da_cons (xv 1) (da_cons dx_i da_nil))))) ds_nil)
      (ds_one (ds_ret (dx_op op_modN d_mod (dx_ty call_int1 k_int (by rfl) (T.fr 4 "int" rfl) PyProof.Rows.boot_int (da_cons (xv 1) da_nil)) (xv 0))))))) (FunD.bindsN D (fun _ _ _ _ _ _ us hl => match us, hl with | [_, _], _ => rfl))
theorem sc__law_plus : FnScope ["_law_p", "_law_one", "_law_other"] ["_law_p", "_law_one", "_law_other"] (defScope (top 81)) := ⟨rfl, rfl, rfl, by decide +kernel, rfl, by decide +kernel, by decide +kernel⟩
theorem cal__law_plus (T : Fs tb K mg) : Cal P w ⟨K, mg, none⟩ base false 3 (He.ga K "_law_plus") 3 F__law_plus [] := by
  obtain ⟨fd, D⟩ : ∃ fd, FunD K "_law_plus" "_law_plus" (defArgs (top 81)) (defBody (top 81)) (defScope (top 81)) [] [] (He.ga K "_law_plus") fd := T.says.def_ 63 rfl
  exact cal_of D (ok_def (N := ["_law_p", "_law_one", "_law_other"]) (ps := ["_law_p", "_law_one", "_law_other"]) (k := 2) (c := ⟨K, mg, none⟩) D sc__law_plus (fun cdv A outer s H E hr => (ds_cons (ds_if (dt_cmp (c_eqD hr.units rfl) d_eq (xv 0) dx_i) (ds_cons (ds_if (PW.pt (dw_and (dt_cmp (c_eqD hr.units rfl) d_eq (dx_ix (xv 1) dx_i) dx_i) (dw_and1 (dt_cmp (c_eqD hr.units rfl) d_eq (dx_ix (xv 2) dx_i) dx_i)))) (ds_one (ds_ret (dx_tup (da_cons (dx_op op_add d_add (dx_ix (xv 1) dx_i) (dx_ix (xv 2) dx_i)) (da_cons dx_i da_nil))))) ds_nil)
      (ds_one (ds_ret (cc_call (cal__law_ratio T) (hr.mono (by decide)) (T.gl 49 "_law_ratio" rfl) (fun σ => passAt (takes_of rfl rfl rfl rfl) σ) (dg_cons (dx_op op_add d_add (dx_op op_mulW d_mul (dx_ix (xv 1) dx_i) (dx_ix (xv 2) dx_i)) (dx_op op_mulW d_mul (dx_ix (xv 2) dx_i) (dx_ix (xv 1) dx_i))) (dg_cons (dx_op op_mulW d_mul (dx_ix (xv 1) dx_i) (dx_ix (xv 2) dx_i)) dg_nil)))))) ds_nil)
      (ds_one (ds_ret (dx_op op_modN d_mod (dx_ty call_int1 k_int (by rfl) (T.fr 4 "int" rfl) PyProof.Rows.boot_int (da_cons (dx_op op_add d_add (xv 1) (xv 2)) da_nil)) (xv 0))))))) (FunD.bindsN D (fun _ _ _ _ _ _ us hl => match us, hl with | [_, _, _], _ => rfl))
theorem sc__law_times : FnScope ["_law_p", "_law_one", "_law_other"] ["_law_p", "_law_one", "_law_other"] (defScope (top 82)) := ⟨rfl, rfl, rfl, by decide +kernel, rfl, by decide +kernel, by decide +kernel⟩
theorem cal__law_times (T : Fs tb K mg) : Cal P w ⟨K, mg, none⟩ base false 3 (He.ga K "_law_times") 3 F__law_times [] := by
  obtain ⟨fd, D⟩ : ∃ fd, FunD K "_law_times" "_law_times" (defArgs (top 82)) (defBody (top 82)) (defScope (top 82)) [] [] (He.ga K "_law_times") fd := T.says.def_ 64 rfl
  exact cal_of D (ok_def (N := ["_law_p", "_law_one", "_law_other"]) (ps := ["_law_p", "_law_one", "_law_other"]) (k := 2) (c := ⟨K, mg, none⟩) D sc__law_times (fun cdv A outer s H E hr => (ds_cons (ds_if (dt_cmp (c_eqD hr.units rfl) d_eq (xv 0) dx_i) (ds_cons (ds_if (PW.pt (dw_and (dt_cmp (c_eqD hr.units rfl) d_eq (dx_ix (xv 1) dx_i) dx_i) (dw_and1 (dt_cmp (c_eqD hr.units rfl) d_eq (dx_ix (xv 2) dx_i) dx_i)))) (ds_one (ds_ret (dx_tup (da_cons (dx_op op_mulW d_mul (dx_ix (xv 1) dx_i) (dx_ix (xv 2) dx_i)) (da_cons dx_i da_nil))))) ds_nil)
      (ds_one (ds_ret (cc_call (cal__law_ratio T) (hr.mono (by decide)) (T.gl 49 "_law_ratio" rfl) (fun σ => passAt (takes_of rfl rfl rfl rfl) σ) (dg_cons (dx_op op_mulW d_mul (dx_ix (xv 1) dx_i) (dx_ix (xv 2) dx_i)) (dg_cons (dx_op op_mulW d_mul (dx_ix (xv 1) dx_i) (dx_ix (xv 2) dx_i)) dg_nil)))))) ds_nil)
      (ds_one (ds_ret (dx_op op_modN d_mod (dx_ty call_int1 k_int (by rfl) (T.fr 4 "int" rfl) PyProof.Rows.boot_int (da_cons (dx_op op_mulW d_mul (xv 1) (xv 2)) da_nil)) (xv 0))))))) (FunD.bindsN D (fun _ _ _ _ _ _ us hl => match us, hl with | [_, _, _], _ => rfl))
theorem sc__law_less : FnScope ["_law_p", "_law_one", "_law_other"] ["_law_p", "_law_one", "_law_other"] (defScope (top 83)) := ⟨rfl, rfl, rfl, by decide +kernel, rfl, by decide +kernel, by decide +kernel⟩
theorem cal__law_less (T : Fs tb K mg) : Cal P w ⟨K, mg, none⟩ base false 4 (He.ga K "_law_less") 3 F__law_less [] := by
  obtain ⟨fd, D⟩ : ∃ fd, FunD K "_law_less" "_law_less" (defArgs (top 83)) (defBody (top 83)) (defScope (top 83)) [] [] (He.ga K "_law_less") fd := T.says.def_ 65 rfl
  exact cal_of D (ok_def (N := ["_law_p", "_law_one", "_law_other"]) (ps := ["_law_p", "_law_one", "_law_other"]) (k := 3) (c := ⟨K, mg, none⟩) D sc__law_less (fun cdv A outer s H E hr => (ds_cons (ds_if (dt_cmp (c_eqD hr.units rfl) d_eq (xv 0) dx_i) (ds_one (ds_ret (cc_call (cal__law_plus T) (hr.mono (by decide)) (T.gl 51 "_law_plus" rfl) (fun σ => passAt (takes_of rfl rfl rfl rfl) σ) (xG 0 (xG 1 (dg_cons (dx_tup (da_cons (dx_neg (dx_ix (xv 2) dx_i)) (da_cons (dx_ix (xv 2) dx_i) da_nil))) dg_nil)))))) ds_nil)
      (ds_one (ds_ret (dx_op op_modN d_mod (dx_ty call_int1 k_int (by rfl) (T.fr 4 "int" rfl) PyProof.Rows.boot_int (da_cons (dx_op op_sub d_sub (xv 1) (xv 2)) da_nil)) (xv 0))))))) (FunD.bindsN D (fun _ _ _ _ _ _ us hl => match us, hl with | [_, _, _], _ => rfl))
theorem sc__law_over : FnScope ["_law_p", "_law_one", "_law_other", "_law_told_here", "_law_k"] ["_law_p", "_law_one", "_law_other"] (defScope (top 84)) := ⟨rfl, rfl, rfl, by decide +kernel, rfl, by decide +kernel, by decide +kernel⟩
theorem cal__law_over (T : Fs tb K mg) : Cal P w ⟨K, mg, none⟩ base false 3 (He.ga K "_law_over") 3 F__law_over [] := by
  obtain ⟨fd, D⟩ : ∃ fd, FunD K "_law_over" "_law_over" (defArgs (top 84)) (defBody (top 84)) (defScope (top 84)) [] [] (He.ga K "_law_over") fd := T.says.def_ 66 rfl
  exact cal_of D (ok_def (N := ["_law_p", "_law_one", "_law_other", "_law_told_here", "_law_k"]) (ps := ["_law_p", "_law_one", "_law_other"]) (k := 2) (c := ⟨K, mg, none⟩) D sc__law_over (fun cdv A outer s H E hr => (ds_cons (ds_if (dt_cmp (c_eqD hr.units rfl) d_eq (xv 0) dx_i) (ds_one (ds_ret (cc_call (cal__law_ratio T) (hr.mono (by decide)) (T.gl 49 "_law_ratio" rfl) (fun σ => passAt (takes_of rfl rfl rfl rfl) σ) (dg_cons (dx_op op_mulW d_mul (dx_ix (xv 1) dx_i) (dx_ix (xv 2) dx_i)) (dg_cons (dx_op op_mulW d_mul (dx_ix (xv 1) dx_i) (dx_ix (xv 2) dx_i)) dg_nil))))) ds_nil)
      (ds_cons (sS 3 sc__law_over.nd (xv 1))
      (ds_cons (ds_for (vs := [4]) (gg := (gName 4)) (bind := (bNm 4)) (passes_of rfl) rfl (bd_nm (by decide)) (di_rg1 (by rfl) (T.fr 11 "range" rfl) (da_cons (dx_op op_sub d_sub (xv 0) dx_i) da_nil)) (gN 4 sc__law_over.nd) (ds_one (sS 3 sc__law_over.nd (dx_op op_modN d_mod (dx_ty call_int1 k_int (by rfl) (T.fr 4 "int" rfl) PyProof.Rows.boot_int (da_cons (dx_op op_mulW d_mul (xv 3) (xv 2)) da_nil)) (xv 0)))))
      (ds_one (ds_ret (xv 3)))))))) (FunD.bindsN D (fun _ _ _ _ _ _ us hl => match us, hl with | [_, _, _], _ => rfl))
theorem sc__law_zero : FnScope ["_law_p", "_law_one"] ["_law_p", "_law_one"] (defScope (top 85)) := ⟨rfl, rfl, rfl, by decide +kernel, rfl, by decide +kernel, by decide +kernel⟩
theorem cal__law_zero (T : Fs tb K mg) : Cal P w ⟨K, mg, none⟩ base false 2 (He.ga K "_law_zero") 2 F__law_zero [] := by
  obtain ⟨fd, D⟩ : ∃ fd, FunD K "_law_zero" "_law_zero" (defArgs (top 85)) (defBody (top 85)) (defScope (top 85)) [] [] (He.ga K "_law_zero") fd := T.says.def_ 67 rfl
  exact cal_of D (ok_def (N := ["_law_p", "_law_one"]) (ps := ["_law_p", "_law_one"]) (k := 1) (c := ⟨K, mg, none⟩) D sc__law_zero (fun cdv A outer s H E hr => (ds_one (ds_ret (dx_cmp (c_eqD hr.units rfl) d_eq (xv 1) (cc_call (cal__law_num T) (hr.mono (by decide)) (T.gl 50 "_law_num" rfl) (fun σ => passAt (takes_of rfl rfl rfl rfl) σ) (xG 0 (dg_cons dx_i dg_nil)))))))) (FunD.bindsN D (fun _ _ _ _ _ _ us hl => match us, hl with | [_, _], _ => rfl))
theorem sc__law_blank : FnScope ["_law_p", "_law_rows", "_law_columns", "_law_i"] ["_law_p", "_law_rows", "_law_columns"] (defScope (top 86)) := ⟨rfl, rfl, rfl, by decide +kernel, rfl, by decide +kernel, by decide +kernel⟩
theorem cal__law_blank (T : Fs tb K mg) : Cal P w ⟨K, mg, none⟩ base true 2 (He.ga K "_law_blank") 3 F__law_blank [] := by
  obtain ⟨fd, D⟩ : ∃ fd, FunD K "_law_blank" "_law_blank" (defArgs (top 86)) (defBody (top 86)) (defScope (top 86)) [] [] (He.ga K "_law_blank") fd := T.says.def_ 68 rfl
  exact cal_of D (ok_def (N := ["_law_p", "_law_rows", "_law_columns", "_law_i"]) (ps := ["_law_p", "_law_rows", "_law_columns"]) (k := 1) (c := ⟨K, mg, none⟩) D sc__law_blank (fun cdv A outer s H E hr => (ds_one (ds_retWW (dw_lc (own := [("_law_i", 3)]) (g := (gName 3)) (bind := (bNm 3)) rfl sc__law_blank.nd (di_rg1 (by rfl) (T.fr 11 "range" rfl) (da_cons (xv 1) da_nil)) (blkOk_by (own := [("_law_i", 3)]) (N := ["_law_p", "_law_rows", "_law_columns", "_law_i"]) (sc := defScope (top 86)) (by decide +kernel)) (bd_nm (by decide)) (fun _ _ _ _ _ => (gN 3 sc__law_blank.nd)) (fun _ _ _ _ _ => pts_no) (fun _ _ _ _ _ => (dw_of (dn_times (dx_fz (dn_lst (da_cons (cc_call (cal__law_num T) (hr.mono (by decide)) (T.gl 50 "_law_num" rfl) passF (xG 0 (dg_cons dx_i dg_nil))) da_nil))) (xv 2)))))))) (fun _ => by repeat (first | exact nx_ret | exact nx_retV | apply nx_seq | apply nx_frz | apply nx_if))) (FunD.bindsN D (fun _ _ _ _ _ _ us hl => match us, hl with | [_, _, _], _ => rfl))
theorem sc__law_summed : FnScope ["_law_p", "_law_rows", "_law_columns", "_law_products_here", "_law_at", "_law_told_here", "_law_product", "_law_i", "_law_share", "_law_j"] ["_law_p", "_law_rows", "_law_columns", "_law_products_here", "_law_at"] (defScope (top 87)) := ⟨rfl, rfl, rfl, by decide +kernel, rfl, by decide +kernel, by decide +kernel⟩
theorem cal__law_summed (T : Fs tb K mg) : Cal P w ⟨K, mg, none⟩ base false 4 (He.ga K "_law_summed") 5 F__law_summed [] := by
  obtain ⟨fd, D⟩ : ∃ fd, FunD K "_law_summed" "_law_summed" (defArgs (top 87)) (defBody (top 87)) (defScope (top 87)) [] [] (He.ga K "_law_summed") fd := T.says.def_ 69 rfl
  exact cal_of D (ok_def (N := ["_law_p", "_law_rows", "_law_columns", "_law_products_here", "_law_at", "_law_told_here", "_law_product", "_law_i", "_law_share", "_law_j"]) (ps := ["_law_p", "_law_rows", "_law_columns", "_law_products_here", "_law_at"]) (k := 3) (c := ⟨K, mg, none⟩) D sc__law_summed (fun cdv A outer s H E hr => (ds_cons (sSW 5 sc__law_summed.nd (cw_call (cal__law_blank T) (hr.mono (by decide)) (T.gl 56 "_law_blank" rfl) (fun σ => passAt (takes_of rfl rfl rfl rfl) σ) (xG 0 (xG 1 (xG 2 dg_nil)))))
      (ds_cons (ds_for (vs := [6]) (gg := (gName 6)) (bind := (bNm 6)) (passes_of rfl) rfl (bd_nm (by decide)) (di_seq (xv 3)) (gN 6 sc__law_summed.nd) (ds_one (ds_for (vs := [7]) (gg := (gName 7)) (bind := (bNm 7)) (passes_of rfl) rfl (bd_nm (by decide)) (di_rg1 (by rfl) (T.fr 11 "range" rfl) (da_cons (xv 1) da_nil)) (gN 7 sc__law_summed.nd) (ds_cons (sS 8 sc__law_summed.nd (cc_call (cal__law_times T) (hr.mono (by decide)) (T.gl 52 "_law_times" rfl) (fun σ => passAt (takes_of rfl rfl rfl rfl) σ) (xG 0 (dg_cons (dx_ix (xv 6) (xv 4)) (dg_cons (dx_ix (dx_ix (xv 6) dx_i) (xv 7)) dg_nil)))))
      (ds_one (ds_for (vs := [9]) (gg := (gName 9)) (bind := (bNm 9)) (passes_of rfl) rfl (bd_nm (by decide)) (di_rg1 (by rfl) (T.fr 11 "range" rfl) (da_cons (xv 2) da_nil)) (gN 9 sc__law_summed.nd) (ds_one (ds_st (cc_call (cal__law_plus T) (hr.mono (by decide)) (T.gl 51 "_law_plus" rfl) (fun σ => passAt (takes_of rfl rfl rfl rfl) σ) (xG 0 (dg_cons (dx_pl (dp_ix (dp_ix (xP 5) (xv 7)) (xv 9))) (dg_cons (cc_call (cal__law_times T) (hr.mono (by decide)) (T.gl 52 "_law_times" rfl) (fun σ => passAt (takes_of rfl rfl rfl rfl) σ) (xG 0 (xG 8 (dg_cons (dx_ix (dx_ix (xv 6) dx_i) (xv 9)) dg_nil)))) dg_nil)))) (dp_ix (xP 5) (xv 7)) (xv 9)))))))))
      (ds_one (ds_frz 5 (ds_ret (xv 5)))))))) (FunD.bindsN D (fun _ _ _ _ _ _ us hl => match us, hl with | [_, _, _, _, _], _ => rfl))
theorem sc__law_figures : FnScope ["_law_hand_here"] ["_law_hand_here"] (defScope (top 88)) := ⟨rfl, rfl, rfl, by decide +kernel, rfl, by decide +kernel, by decide +kernel⟩
theorem cal__law_figures (T : Fs tb K mg) : Cal P w ⟨K, mg, none⟩ base false 3 (He.ga K "_law_figures") 1 F__law_figures [] := by
  obtain ⟨fd, D⟩ : ∃ fd, FunD K "_law_figures" "_law_figures" (defArgs (top 88)) (defBody (top 88)) (defScope (top 88)) [] [] (He.ga K "_law_figures") fd := T.says.def_ 70 rfl
  exact cal_of D (ok_def (N := ["_law_hand_here"]) (ps := ["_law_hand_here"]) (k := 2) (c := ⟨K, mg, none⟩) D sc__law_figures (fun cdv A outer s H E hr => (ds_one (ds_ret (dx_ix (dx_tup (da_cons dx_i (da_cons dx_i (da_cons dx_i (da_cons dx_i (da_cons dx_i (da_cons dx_i (da_cons dx_i (da_cons dx_i (da_cons dx_i (da_cons dx_i (da_cons dx_i (da_cons dx_i da_nil))))))))))))) (cc_call (cal__law_take T) (hr.mono (by decide)) (T.gl 47 "_law_take" rfl) (fun σ => passAt (takes_of rfl rfl rfl rfl) σ) (xG 0 (dg_cons dx_i dg_nil)))))))) (FunD.bindsN D (fun _ _ _ _ _ _ us hl => match us, hl with | [_], _ => rfl))
theorem sc__law_number : FnScope ["_law_hand_here", "_law_p", "_law_top"] ["_law_hand_here", "_law_p"] (defScope (top 89)) := ⟨rfl, rfl, rfl, by decide +kernel, rfl, by decide +kernel, by decide +kernel⟩
theorem cal__law_number (T : Fs tb K mg) : Cal P w ⟨K, mg, none⟩ base false 3 (He.ga K "_law_number") 2 F__law_number [] := by
  obtain ⟨fd, D⟩ : ∃ fd, FunD K "_law_number" "_law_number" (defArgs (top 89)) (defBody (top 89)) (defScope (top 89)) [] [] (He.ga K "_law_number") fd := T.says.def_ 71 rfl
  exact cal_of D (ok_def (N := ["_law_hand_here", "_law_p", "_law_top"]) (ps := ["_law_hand_here", "_law_p"]) (k := 2) (c := ⟨K, mg, none⟩) D sc__law_number (fun cdv A outer s H E hr => (ds_cons (ds_if (dt_cmp op_gt d_gt (xv 1) dx_i) (ds_one (ds_ret (cc_call (cal__law_take T) (hr.mono (by decide)) (T.gl 47 "_law_take" rfl) (fun σ => passAt (takes_of rfl rfl rfl rfl) σ) (xG 0 (xG 1 dg_nil))))) ds_nil)
      (ds_cons (sS 2 sc__law_number.nd (dx_op op_sub d_sub (cc_call (cal__law_take T) (hr.mono (by decide)) (T.gl 47 "_law_take" rfl) (fun σ => passAt (takes_of rfl rfl rfl rfl) σ) (xG 0 (dg_cons dx_i dg_nil))) dx_i))
      (ds_cons (ds_if (dt_cmp (c_eqD hr.units rfl) d_eq (cc_call (cal__law_take T) (hr.mono (by decide)) (T.gl 47 "_law_take" rfl) (fun σ => passAt (takes_of rfl rfl rfl rfl) σ) (xG 0 (dg_cons dx_i dg_nil))) dx_i) (ds_one (ds_ret (cc_call (cal__law_ratio T) (hr.mono (by decide)) (T.gl 49 "_law_ratio" rfl) (fun σ => passAt (takes_of rfl rfl rfl rfl) σ) (xG 2 (dg_cons (dx_op op_add d_add dx_i (cc_call (cal__law_take T) (hr.mono (by decide)) (T.gl 47 "_law_take" rfl) (fun σ => passAt (takes_of rfl rfl rfl rfl) σ) (xG 0 (dg_cons dx_i dg_nil)))) dg_nil))))) ds_nil)
      (ds_one (ds_ret (dx_tup (da_cons (xv 2) (da_cons dx_i da_nil)))))))))) (FunD.bindsN D (fun _ _ _ _ _ _ us hl => match us, hl with | [_, _], _ => rfl))
theorem sc__law_unlike : FnScope ["_law_hand_here", "_law_p", "_law_top"] ["_law_hand_here", "_law_p"] (defScope (top 90)) := ⟨rfl, rfl, rfl, by decide +kernel, rfl, by decide +kernel, by decide +kernel⟩
theorem cal__law_unlike (T : Fs tb K mg) : Cal P w ⟨K, mg, none⟩ base false 3 (He.ga K "_law_unlike") 2 F__law_unlike [] := by
  obtain ⟨fd, D⟩ : ∃ fd, FunD K "_law_unlike" "_law_unlike" (defArgs (top 90)) (defBody (top 90)) (defScope (top 90)) [] [] (He.ga K "_law_unlike") fd := T.says.def_ 72 rfl
  exact cal_of D (ok_def (N := ["_law_hand_here", "_law_p", "_law_top"]) (ps := ["_law_hand_here", "_law_p"]) (k := 2) (c := ⟨K, mg, none⟩) D sc__law_unlike (fun cdv A outer s H E hr => (ds_cons (ds_if (dt_cmp op_gt d_gt (xv 1) dx_i) (ds_one (ds_ret (dx_if (dt_cmp op_gt d_gt (xv 1) dx_i) (dx_op op_add d_add dx_i (cc_call (cal__law_take T) (hr.mono (by decide)) (T.gl 47 "_law_take" rfl) (fun σ => passAt (takes_of rfl rfl rfl rfl) σ) (xG 0 (dg_cons (dx_op op_sub d_sub (xv 1) dx_i) dg_nil)))) dx_i))) ds_nil)
      (ds_cons (sS 2 sc__law_unlike.nd (dx_op op_add d_add dx_i (cc_call (cal__law_take T) (hr.mono (by decide)) (T.gl 47 "_law_take" rfl) (fun σ => passAt (takes_of rfl rfl rfl rfl) σ) (xG 0 (dg_cons dx_i dg_nil)))))
      (ds_cons (ds_if (dt_cmp (c_eqD hr.units rfl) d_eq (cc_call (cal__law_take T) (hr.mono (by decide)) (T.gl 47 "_law_take" rfl) (fun σ => passAt (takes_of rfl rfl rfl rfl) σ) (xG 0 (dg_cons dx_i dg_nil))) dx_i) (ds_one (sS 2 sc__law_unlike.nd (dx_neg (xv 2)))) ds_nil)
      (ds_one (ds_ret (cc_call (cal__law_ratio T) (hr.mono (by decide)) (T.gl 49 "_law_ratio" rfl) (fun σ => passAt (takes_of rfl rfl rfl rfl) σ) (xG 2 (dg_cons (dx_op op_add d_add dx_i (dx_ty call_int1 k_int (by rfl) (T.fr 4 "int" rfl) PyProof.Rows.boot_int (da_cons (dx_cmp (c_eqD hr.units rfl) d_eq (cc_call (cal__law_take T) (hr.mono (by decide)) (T.gl 47 "_law_take" rfl) (fun σ => passAt (takes_of rfl rfl rfl rfl) σ) (xG 0 (dg_cons dx_i dg_nil))) dx_i) da_nil))) dg_nil)))))))))) (FunD.bindsN D (fun _ _ _ _ _ _ us hl => match us, hl with | [_, _], _ => rfl))
theorem sc__law_size : FnScope ["_law_hand_here", "_law_p", "_law_most", "_law_great"] ["_law_hand_here", "_law_p", "_law_most"] (defScope (top 91)) := ⟨rfl, rfl, rfl, by decide +kernel, rfl, by decide +kernel, by decide +kernel⟩
theorem cal__law_size (T : Fs tb K mg) : Cal P w ⟨K, mg, none⟩ base false 3 (He.ga K "_law_size") 3 F__law_size [] := by
  obtain ⟨fd, D⟩ : ∃ fd, FunD K "_law_size" "_law_size" (defArgs (top 91)) (defBody (top 91)) (defScope (top 91)) [] [] (He.ga K "_law_size") fd := T.says.def_ 73 rfl
  exact cal_of D (ok_def (N := ["_law_hand_here", "_law_p", "_law_most", "_law_great"]) (ps := ["_law_hand_here", "_law_p", "_law_most"]) (k := 2) (c := ⟨K, mg, none⟩) D sc__law_size (fun cdv A outer s H E hr => (ds_cons (sS 3 sc__law_size.nd (dx_if (dt_cmp op_gt d_gt (xv 1) dx_i) (dx_bi (call_min3Nu rfl) k_min3 (by rfl) (T.fr 10 "min" rfl) (by decide +kernel) (da_cons (xv 2) (da_cons dx_i (da_cons (xv 1) da_nil)))) (dx_bi (call_min2 rfl) k_min2 (by rfl) (T.fr 10 "min" rfl) (by decide +kernel) (da_cons (xv 2) (da_cons dx_i da_nil)))))
      (ds_cons (ds_if (dt_cmp (c_eqD hr.units rfl) d_eq (cc_call (cal__law_take T) (hr.mono (by decide)) (T.gl 47 "_law_take" rfl) (fun σ => passAt (takes_of rfl rfl rfl rfl) σ) (xG 0 (dg_cons dx_i dg_nil))) dx_i) (ds_one (ds_ret (xv 3))) ds_nil)
      (ds_one (ds_ret (dx_op op_add d_add dx_i (cc_call (cal__law_take T) (hr.mono (by decide)) (T.gl 47 "_law_take" rfl) (fun σ => passAt (takes_of rfl rfl rfl rfl) σ) (xG 0 (dg_cons (dx_bi (call_min2 rfl) k_min2 (by rfl) (T.fr 10 "min" rfl) (by decide +kernel) (da_cons (xv 3) (da_cons dx_i da_nil))) dg_nil)))))))))) (FunD.bindsN D (fun _ _ _ _ _ _ us hl => match us, hl with | [_, _, _], _ => rfl))
theorem sc__law_exact : FnScope ["_law_told_here", "_law_due", "_law_k"] ["_law_told_here", "_law_due"] (defScope (top 92)) := ⟨rfl, rfl, rfl, by decide +kernel, rfl, by decide +kernel, by decide +kernel⟩
theorem cal__law_exact (T : Fs tb K mg) : ∀ fu : Nat, Cal P w ⟨K, mg, none⟩ base false (1 + fu) (He.ga K "_law_exact") 2 (F__law_exact_31 fu) [] := by
  obtain ⟨fd, D⟩ : ∃ fd, FunD K "_law_exact" "_law_exact" (defArgs (top 92)) (defBody (top 92)) (defScope (top 92)) [] [] (He.ga K "_law_exact") fd := T.says.def_ 74 rfl
  have bd : L2.Binds K fd ["_law_told_here", "_law_due"] [] := (FunD.bindsN D (fun _ _ _ _ _ _ us hl => match us, hl with | [_, _], _ => rfl))
  intro fu
  induction fu with
  | zero => exact cal_of D (bad_def (c := ⟨K, mg, none⟩) D sc__law_exact) bd
  | succ fu ih => exact cal_of D (ok_def (N := ["_law_told_here", "_law_due", "_law_k"]) (ps := ["_law_told_here", "_law_due"]) (k := 1 + fu) (c := ⟨K, mg, none⟩) D sc__law_exact (fun cdv A outer s H E hr => (ds_cons (ds_if (dt_tru rfl (dx_is2 T.gt (by decide) (by decide) (by rfl) (T.fr 5 "isinstance" rfl) (xv 1) (pe_bltn (v := .ty "tuple") (by rfl) (T.fr 14 "tuple" rfl) (by decide +kernel) rfl) (pe_bltn (v := .ty "list") (by rfl) (T.fr 8 "list" rfl) (by decide +kernel) rfl))) (ds_cons (ds_if (PW.pt (dw_or (dt_not (dt_tru rfl (dx_is T.gt (by decide) (by rfl) (T.fr 5 "isinstance" rfl) (xv 0) (pe_bltn (v := .ty "tuple") (by rfl) (T.fr 14 "tuple" rfl) (by decide +kernel) rfl)))) (dw_or1 (dt_cmp (c_neD hr.units rfl) d_ne (dx_bi (c_len rfl) k_len (by rfl) (T.fr 7 "len" rfl) PySem.boot_len (da_cons (xv 0) da_nil)) (dx_bi (c_len rfl) k_len (by rfl) (T.fr 7 "len" rfl) PySem.boot_len (da_cons (xv 1) da_nil)))))) (ds_one (ds_ret dx_b)) ds_nil)
      (ds_one (ds_ret (dx_bi (c_all rfl rfl) k_all (by rfl) (T.fr 1 "all" rfl) (by decide +kernel) (da_cons (dx_fz (dn_lc (own := [("_law_k", 2)]) (g := (gName 2)) (bind := (bNm 2)) rfl sc__law_exact.nd (di_rg1 (by rfl) (T.fr 11 "range" rfl) (da_cons (dx_bi (c_len rfl) k_len (by rfl) (T.fr 7 "len" rfl) PySem.boot_len (da_cons (xv 1) da_nil)) da_nil)) (blkOk_by (own := [("_law_k", 2)]) (N := ["_law_told_here", "_law_due", "_law_k"]) (sc := defScope (top 92)) (by decide +kernel)) (bd_nm (by decide)) (fun _ _ _ _ _ => (gN 2 sc__law_exact.nd)) (fun _ _ _ _ _ => pts_no) (fun _ _ _ _ _ => (cc_call ih (hr.mono (by omega)) (T.gl 62 "_law_exact" rfl) passF (dg_cons (dx_ix (xv 0) (xv 2)) (dg_cons (dx_ix (xv 1) (xv 2)) dg_nil)))))) da_nil))))) ds_nil)
      (ds_cons (ds_if (dt_cmp op_isN d_isN (xv 1) dx_n) (ds_one (ds_ret (dx_cmp op_isN d_isN (xv 0) dx_n))) ds_nil)
      (ds_cons (ds_if (dt_tru rfl (dx_is T.gt (by decide) (by rfl) (T.fr 5 "isinstance" rfl) (xv 1) (pe_bltn (v := .ty "bool") (by rfl) (T.fr 2 "bool" rfl) (by decide +kernel) rfl))) (ds_one (ds_ret (dx_and (dx_is T.gt (by decide) (by rfl) (T.fr 5 "isinstance" rfl) (xv 0) (pe_bltn (v := .ty "bool") (by rfl) (T.fr 2 "bool" rfl) (by decide +kernel) rfl)) (dx_one (dx_cmp (c_eqD hr.units rfl) d_eq (xv 0) (xv 1)))))) ds_nil)
      (ds_cons (ds_if (dt_tru rfl (dx_is T.gt (by decide) (by rfl) (T.fr 5 "isinstance" rfl) (xv 1) (pe_bltn (v := .ty "int") (by rfl) (T.fr 4 "int" rfl) (by decide +kernel) rfl))) (ds_one (ds_ret (dx_and (dx_is T.gt (by decide) (by rfl) (T.fr 5 "isinstance" rfl) (xv 0) (pe_bltn (v := .ty "int") (by rfl) (T.fr 4 "int" rfl) (by decide +kernel) rfl)) (dx_and (dx_not (dx_is T.gt (by decide) (by rfl) (T.fr 5 "isinstance" rfl) (xv 0) (pe_bltn (v := .ty "bool") (by rfl) (T.fr 2 "bool" rfl) (by decide +kernel) rfl))) (dx_one (dx_cmp (c_eqD hr.units rfl) d_eq (xv 0) (xv 1))))))) ds_nil)
      (ds_one (ds_ret (dx_and (dx_is T.gt (by decide) (by rfl) (T.fr 5 "isinstance" rfl) (xv 0) (pe_bltn (v := .ty "str") (by rfl) (T.fr 12 "str" rfl) (by decide +kernel) rfl)) (dx_one (dx_cmp (c_eqD hr.units rfl) d_eq (xv 0) (xv 1)))))))))))) bd
theorem sc__law_lead : FnScope ["_law_p", "_law_row", "_law_one"] ["_law_p", "_law_row"] (defScope (top 93)) := ⟨rfl, rfl, rfl, by decide +kernel, rfl, by decide +kernel, by decide +kernel⟩
theorem cal__law_lead (T : Fs tb K mg) : Cal P w ⟨K, mg, none⟩ base false 3 (He.ga K "_law_lead") 2 F__law_lead [] := by
  obtain ⟨fd, D⟩ : ∃ fd, FunD K "_law_lead" "_law_lead" (defArgs (top 93)) (defBody (top 93)) (defScope (top 93)) [] [] (He.ga K "_law_lead") fd := T.says.def_ 75 rfl
  exact cal_of D (ok_def (N := ["_law_p", "_law_row", "_law_one"]) (ps := ["_law_p", "_law_row"]) (k := 2) (c := ⟨K, mg, none⟩) D sc__law_lead (fun cdv A outer s H E hr => (ds_cons (ds_for (vs := [2]) (gg := (gName 2)) (bind := (bNm 2)) (passes_of rfl) rfl (bd_nm (by decide)) (di_seq (xv 1)) (gN 2 sc__law_lead.nd) (ds_one (ds_if (dt_not (dt_tru rfl (cc_call (cal__law_zero T) (hr.mono (by decide)) (T.gl 55 "_law_zero" rfl) (fun σ => passAt (takes_of rfl rfl rfl rfl) σ) (xG 0 (xG 2 dg_nil))))) (ds_one (ds_ret (xv 2))) ds_nil)))
      (ds_one (ds_ret (cc_call (cal__law_num T) (hr.mono (by decide)) (T.gl 50 "_law_num" rfl) (fun σ => passAt (takes_of rfl rfl rfl rfl) σ) (xG 0 (dg_cons dx_i dg_nil)))))))) (FunD.bindsN D (fun _ _ _ _ _ _ us hl => match us, hl with | [_, _], _ => rfl))
theorem sc__law_scaled : FnScope ["_law_p", "_law_number_here", "_law_row", "_law_one"] ["_law_p", "_law_number_here", "_law_row"] (defScope (top 94)) := ⟨rfl, rfl, rfl, by decide +kernel, rfl, by decide +kernel, by decide +kernel⟩
theorem cal__law_scaled (T : Fs tb K mg) : Cal P w ⟨K, mg, none⟩ base false 4 (He.ga K "_law_scaled") 3 F__law_scaled [] := by
  obtain ⟨fd, D⟩ : ∃ fd, FunD K "_law_scaled" "_law_scaled" (defArgs (top 94)) (defBody (top 94)) (defScope (top 94)) [] [] (He.ga K "_law_scaled") fd := T.says.def_ 76 rfl
  exact cal_of D (ok_def (N := ["_law_p", "_law_number_here", "_law_row", "_law_one"]) (ps := ["_law_p", "_law_number_here", "_law_row"]) (k := 3) (c := ⟨K, mg, none⟩) D sc__law_scaled (fun cdv A outer s H E hr => (ds_one (ds_ret (dx_ty (c_tup rfl) k_tup (by rfl) (T.fr 14 "tuple" rfl) PyProof.Rows.boot_tuple (da_cons (dx_fz (dn_lc (own := [("_law_one", 3)]) (g := (gName 3)) (bind := (bNm 3)) rfl sc__law_scaled.nd (di_seq (xv 2)) (blkOk_by (own := [("_law_one", 3)]) (N := ["_law_p", "_law_number_here", "_law_row", "_law_one"]) (sc := defScope (top 94)) (by decide +kernel)) (bd_nm (by decide)) (fun _ _ _ _ _ => (gN 3 sc__law_scaled.nd)) (fun _ _ _ _ _ => pts_no) (fun _ _ _ _ _ => (cc_call (cal__law_times T) (hr.mono (by decide)) (T.gl 52 "_law_times" rfl) passF (xG 0 (xG 1 (xG 3 dg_nil))))))) da_nil)))))) (FunD.bindsN D (fun _ _ _ _ _ _ us hl => match us, hl with | [_, _, _], _ => rfl))
theorem sc__law_plain : FnScope ["_law_p", "_law_product", "_law_left", "_law_right", "_law_one", "_law_both", "_law_couple"] ["_law_p", "_law_product"] (defScope (top 95)) := ⟨rfl, rfl, rfl, by decide +kernel, rfl, by decide +kernel, by decide +kernel⟩
theorem cal__law_plain (T : Fs tb K mg) : Cal P w ⟨K, mg, none⟩ base false 5 (He.ga K "_law_plain") 2 F__law_plain [] := by
  obtain ⟨fd, D⟩ : ∃ fd, FunD K "_law_plain" "_law_plain" (defArgs (top 95)) (defBody (top 95)) (defScope (top 95)) [] [] (He.ga K "_law_plain") fd := T.says.def_ 77 rfl
  exact cal_of D (ok_def (N := ["_law_p", "_law_product", "_law_left", "_law_right", "_law_one", "_law_both", "_law_couple"]) (ps := ["_law_p", "_law_product"]) (k := 4) (c := ⟨K, mg, none⟩) D sc__law_plain (fun cdv A outer s H E hr => (ds_cons (sS 2 sc__law_plain.nd (cc_call (cal__law_lead T) (hr.mono (by decide)) (T.gl 63 "_law_lead" rfl) (fun σ => passAt (takes_of rfl rfl rfl rfl) σ) (xG 0 (dg_cons (dx_ix (xv 1) dx_i) dg_nil))))
      (ds_cons (sS 3 sc__law_plain.nd (cc_call (cal__law_lead T) (hr.mono (by decide)) (T.gl 63 "_law_lead" rfl) (fun σ => passAt (takes_of rfl rfl rfl rfl) σ) (xG 0 (dg_cons (dx_ix (xv 1) dx_i) dg_nil))))
      (ds_cons (ds_if (PW.pt (dw_or (dt_tru rfl (cc_call (cal__law_zero T) (hr.mono (by decide)) (T.gl 55 "_law_zero" rfl) (fun σ => passAt (takes_of rfl rfl rfl rfl) σ) (xG 0 (xG 2 dg_nil)))) (dw_or (dt_tru rfl (cc_call (cal__law_zero T) (hr.mono (by decide)) (T.gl 55 "_law_zero" rfl) (fun σ => passAt (takes_of rfl rfl rfl rfl) σ) (xG 0 (xG 3 dg_nil)))) (dw_or1 (PW.pt (dw_and (dt_tru rfl (cc_call (cal__law_zero T) (hr.mono (by decide)) (T.gl 55 "_law_zero" rfl) (fun σ => passAt (takes_of rfl rfl rfl rfl) σ) (xG 0 (dg_cons (dx_ix (xv 1) dx_i) dg_nil)))) (dw_and1 (dt_tru rfl (cc_call (cal__law_zero T) (hr.mono (by decide)) (T.gl 55 "_law_zero" rfl) (fun σ => passAt (takes_of rfl rfl rfl rfl) σ) (xG 0 (dg_cons (dx_ix (xv 1) dx_i) dg_nil))))))))))) (ds_one (ds_ret dx_n)) ds_nil)
      (ds_cons (sS 4 sc__law_plain.nd (cc_call (cal__law_num T) (hr.mono (by decide)) (T.gl 50 "_law_num" rfl) (fun σ => passAt (takes_of rfl rfl rfl rfl) σ) (xG 0 (dg_cons dx_i dg_nil))))
      (ds_cons (sS 5 sc__law_plain.nd (cc_call (cal__law_times T) (hr.mono (by decide)) (T.gl 52 "_law_times" rfl) (fun σ => passAt (takes_of rfl rfl rfl rfl) σ) (xG 0 (xG 2 (xG 3 dg_nil)))))
      (ds_cons (sS 6 sc__law_plain.nd (cc_call (cal__law_scaled T) (hr.mono (by decide)) (T.gl 64 "_law_scaled" rfl) (fun σ => passAt (takes_of rfl rfl rfl rfl) σ) (xG 0 (xG 5 (dg_cons (dx_tup (da_cons (dx_ix (xv 1) dx_i) (da_cons (dx_ix (xv 1) dx_i) da_nil))) dg_nil)))))
      (ds_one (ds_ret (dx_tup (da_cons (cc_call (cal__law_scaled T) (hr.mono (by decide)) (T.gl 64 "_law_scaled" rfl) (fun σ => passAt (takes_of rfl rfl rfl rfl) σ) (xG 0 (dg_cons (cc_call (cal__law_over T) (hr.mono (by decide)) (T.gl 54 "_law_over" rfl) (fun σ => passAt (takes_of rfl rfl rfl rfl) σ) (xG 0 (xG 4 (xG 2 dg_nil)))) (dg_cons (dx_ix (xv 1) dx_i) dg_nil)))) (da_cons (cc_call (cal__law_scaled T) (hr.mono (by decide)) (T.gl 64 "_law_scaled" rfl) (fun σ => passAt (takes_of rfl rfl rfl rfl) σ) (xG 0 (dg_cons (cc_call (cal__law_over T) (hr.mono (by decide)) (T.gl 54 "_law_over" rfl) (fun σ => passAt (takes_of rfl rfl rfl rfl) σ) (xG 0 (xG 4 (xG 3 dg_nil)))) (dg_cons (dx_ix (xv 1) dx_i) dg_nil)))) (da_cons (xv 6) da_nil)))))))))))))) (FunD.bindsN D (fun _ _ _ _ _ _ us hl => match us, hl with | [_, _], _ => rfl))
theorem sc__law_made : FnScope ["_law_p", "_law_rows", "_law_columns", "_law_products_here"] ["_law_p", "_law_rows", "_law_columns", "_law_products_here"] (defScope (top 96)) := ⟨rfl, rfl, rfl, by decide +kernel, rfl, by decide +kernel, by decide +kernel⟩
theorem cal__law_made (T : Fs tb K mg) : Cal P w ⟨K, mg, none⟩ base false 5 (He.ga K "_law_made") 4 F__law_made [] := by
  obtain ⟨fd, D⟩ : ∃ fd, FunD K "_law_made" "_law_made" (defArgs (top 96)) (defBody (top 96)) (defScope (top 96)) [] [] (He.ga K "_law_made") fd := T.says.def_ 78 rfl
  exact cal_of D (ok_def (N := ["_law_p", "_law_rows", "_law_columns", "_law_products_here"]) (ps := ["_law_p", "_law_rows", "_law_columns", "_law_products_here"]) (k := 4) (c := ⟨K, mg, none⟩) D sc__law_made (fun cdv A outer s H E hr => (ds_one (ds_ret (dx_fz (dn_lst (da_cons (cc_call (cal__law_summed T) (hr.mono (by decide)) (T.gl 57 "_law_summed" rfl) (fun σ => passAt (takes_of rfl rfl rfl rfl) σ) (xG 0 (xG 1 (xG 2 (xG 3 (dg_cons dx_i dg_nil)))))) (da_cons (cc_call (cal__law_summed T) (hr.mono (by decide)) (T.gl 57 "_law_summed" rfl) (fun σ => passAt (takes_of rfl rfl rfl rfl) σ) (xG 0 (xG 1 (xG 2 (xG 3 (dg_cons dx_i dg_nil)))))) da_nil)))))))) (FunD.bindsN D (fun _ _ _ _ _ _ us hl => match us, hl with | [_, _, _, _], _ => rfl))
theorem sc__law_numbers : FnScope ["_law_hand_here", "_law_p", "_law_many", "_law_k"] ["_law_hand_here", "_law_p", "_law_many"] (defScope (top 97)) := ⟨rfl, rfl, rfl, by decide +kernel, rfl, by decide +kernel, by decide +kernel⟩
theorem cal__law_numbers (T : Fs tb K mg) : Cal P w ⟨K, mg, none⟩ base false 4 (He.ga K "_law_numbers") 3 F__law_numbers_31 [] := by
  obtain ⟨fd, D⟩ : ∃ fd, FunD K "_law_numbers" "_law_numbers" (defArgs (top 97)) (defBody (top 97)) (defScope (top 97)) [] [] (He.ga K "_law_numbers") fd := T.says.def_ 79 rfl
  exact cal_of D (ok_def (N := ["_law_hand_here", "_law_p", "_law_many", "_law_k"]) (ps := ["_law_hand_here", "_law_p", "_law_many"]) (k := 3) (c := ⟨K, mg, none⟩) D sc__law_numbers (fun cdv A outer s H E hr => (ds_one (ds_ret (dx_ty (c_tup rfl) k_tup (by rfl) (T.fr 14 "tuple" rfl) PyProof.Rows.boot_tuple (da_cons (dx_fz (dn_lc (own := [("_law_k", 3)]) (g := (gName 3)) (bind := (bNm 3)) rfl sc__law_numbers.nd (di_rg1 (by rfl) (T.fr 11 "range" rfl) (da_cons (xv 2) da_nil)) (blkOk_by (own := [("_law_k", 3)]) (N := ["_law_hand_here", "_law_p", "_law_many", "_law_k"]) (sc := defScope (top 97)) (by decide +kernel)) (bd_nm (by decide)) (fun _ _ _ _ _ => (gN 3 sc__law_numbers.nd)) (fun _ _ _ _ _ => pts_no) (fun _ _ _ _ _ => (cc_call (cal__law_number T) (hr.mono (by decide)) (T.gl 59 "_law_number" rfl) passF (xG 0 (xG 1 dg_nil)))))) da_nil)))))) (FunD.bindsN D (fun _ _ _ _ _ _ us hl => match us, hl with | [_, _, _], _ => rfl))
theorem sc__law_drawn_product : FnScope ["_law_hand_here", "_law_p", "_law_rows", "_law_columns", "_law_left", "_law_right", "_law_couple", "_law_which", "_law_zero_here"] ["_law_hand_here", "_law_p", "_law_rows", "_law_columns"] (defScope (top 98)) := ⟨rfl, rfl, rfl, by decide +kernel, rfl, by decide +kernel, by decide +kernel⟩
theorem cal__law_drawn_product (T : Fs tb K mg) : Cal P w ⟨K, mg, none⟩ base false 5 (He.ga K "_law_drawn_product") 4 F__law_drawn_product [] := by
  obtain ⟨fd, D⟩ : ∃ fd, FunD K "_law_drawn_product" "_law_drawn_product" (defArgs (top 98)) (defBody (top 98)) (defScope (top 98)) [] [] (He.ga K "_law_drawn_product") fd := T.says.def_ 80 rfl
  exact cal_of D (ok_def (N := ["_law_hand_here", "_law_p", "_law_rows", "_law_columns", "_law_left", "_law_right", "_law_couple", "_law_which", "_law_zero_here"]) (ps := ["_law_hand_here", "_law_p", "_law_rows", "_law_columns"]) (k := 4) (c := ⟨K, mg, none⟩) D sc__law_drawn_product (fun cdv A outer s H E hr => (ds_cons (sS 4 sc__law_drawn_product.nd (cc_call (cal__law_numbers T) (hr.mono (by decide)) (T.gl 67 "_law_numbers" rfl) (fun σ => passAt (takes_of rfl rfl rfl rfl) σ) (xG 0 (xG 1 (xG 2 dg_nil)))))
      (ds_cons (sS 5 sc__law_drawn_product.nd (cc_call (cal__law_numbers T) (hr.mono (by decide)) (T.gl 67 "_law_numbers" rfl) (fun σ => passAt (takes_of rfl rfl rfl rfl) σ) (xG 0 (xG 1 (xG 3 dg_nil)))))
      (ds_cons (sS 6 sc__law_drawn_product.nd (cc_call (cal__law_numbers T) (hr.mono (by decide)) (T.gl 67 "_law_numbers" rfl) (fun σ => passAt (takes_of rfl rfl rfl rfl) σ) (xG 0 (xG 1 (dg_cons dx_i dg_nil)))))
      (ds_cons (sS 7 sc__law_drawn_product.nd (cc_call (cal__law_take T) (hr.mono (by decide)) (T.gl 47 "_law_take" rfl) (fun σ => passAt (takes_of rfl rfl rfl rfl) σ) (xG 0 (dg_cons dx_i dg_nil))))
      (ds_cons (sS 8 sc__law_drawn_product.nd (cc_call (cal__law_num T) (hr.mono (by decide)) (T.gl 50 "_law_num" rfl) (fun σ => passAt (takes_of rfl rfl rfl rfl) σ) (xG 1 (dg_cons dx_i dg_nil))))
      (ds_cons (ds_if (dt_cmp (c_eqD hr.units rfl) d_eq (xv 7) dx_i) (ds_one (sS 4 sc__law_drawn_product.nd (dx_fz (dn_times (dx_tup (da_cons (xv 8) da_nil)) (xv 2))))) ds_nil)
      (ds_cons (ds_if (dt_cmp (c_eqD hr.units rfl) d_eq (xv 7) dx_i) (ds_one (sS 5 sc__law_drawn_product.nd (dx_fz (dn_times (dx_tup (da_cons (xv 8) da_nil)) (xv 3))))) ds_nil)
      (ds_cons (ds_if (dt_cmp (c_eqD hr.units rfl) d_eq (xv 7) dx_i) (ds_one (sS 6 sc__law_drawn_product.nd (dx_tup (da_cons (xv 8) (da_cons (xv 8) da_nil))))) ds_nil)
      (ds_one (ds_ret (dx_tup (da_cons (xv 4) (da_cons (xv 5) (da_cons (dx_ix (xv 6) dx_i) (da_cons (dx_ix (xv 6) dx_i) da_nil))))))))))))))))) (FunD.bindsN D (fun _ _ _ _ _ _ us hl => match us, hl with | [_, _, _, _], _ => rfl))
theorem sc__law_products : FnScope ["_law_hand_here", "_law_p", "_law_rows", "_law_columns", "_law_told_here", "_law_k", "_law_left", "_law_right", "_law_one", "_law_other", "_law_which", "_law_size_here", "_law_last"] ["_law_hand_here", "_law_p", "_law_rows", "_law_columns"] (defScope (top 99)) := ⟨rfl, rfl, rfl, by decide +kernel, rfl, by decide +kernel, by decide +kernel⟩
theorem cal__law_products (T : Fs tb K mg) : Cal P w ⟨K, mg, none⟩ base false 6 (He.ga K "_law_products") 4 F__law_products_31 [] := by
  obtain ⟨fd, D⟩ : ∃ fd, FunD K "_law_products" "_law_products" (defArgs (top 99)) (defBody (top 99)) (defScope (top 99)) [] [] (He.ga K "_law_products") fd := T.says.def_ 81 rfl
  exact cal_of D (ok_def (N := ["_law_hand_here", "_law_p", "_law_rows", "_law_columns", "_law_told_here", "_law_k", "_law_left", "_law_right", "_law_one", "_law_other", "_law_which", "_law_size_here", "_law_last"]) (ps := ["_law_hand_here", "_law_p", "_law_rows", "_law_columns"]) (k := 5) (c := ⟨K, mg, none⟩) D sc__law_products (fun cdv A outer s H E hr => (ds_cons (sSN 4 sc__law_products.nd (dn_lst da_nil))
      (ds_cons (ds_for (vs := [5]) (gg := (gName 5)) (bind := (bNm 5)) (passes_of rfl) rfl (bd_nm (by decide)) (di_rg1 (by rfl) (T.fr 11 "range" rfl) (da_cons (cc_call (cal__law_take T) (hr.mono (by decide)) (T.gl 47 "_law_take" rfl) (fun σ => passAt (takes_of rfl rfl rfl rfl) σ) (xG 0 (dg_cons dx_i dg_nil))) da_nil)) (gN 5 sc__law_products.nd) (ds_cons (ds_asg (vs := [6, 7, 8, 9]) (gg := (gTup K 4 (gCons (gName 6) (gCons (gName 7) (gCons (gName 8) (gCons (gName 9) gNil)))))) (bind := (bTp [(bNm 6), (bNm 7), (bNm 8), (bNm 9)])) (bd_tp rfl (ba_cons (bd_nm (by decide)) (ba_cons (bd_nm (by decide)) (ba_cons (bd_nm (by decide)) (ba_cons (bd_nm (by decide)) ba_nil))))) (cc_call (cal__law_drawn_product T) (hr.mono (by decide)) (T.gl 68 "_law_drawn_product" rfl) (fun σ => passAt (takes_of rfl rfl rfl rfl) σ) (xG 0 (xG 1 (xG 2 (xG 3 dg_nil))))) (pg_tup rfl (pgs_cons (gN 6 sc__law_products.nd) (pgs_cons (gN 7 sc__law_products.nd) (pgs_cons (gN 8 sc__law_products.nd) (pgs_cons (gN 9 sc__law_products.nd) pgs_nil))))))
      (ds_cons (sS 10 sc__law_products.nd (cc_call (cal__law_take T) (hr.mono (by decide)) (T.gl 47 "_law_take" rfl) (fun σ => passAt (takes_of rfl rfl rfl rfl) σ) (xG 0 (dg_cons dx_i dg_nil))))
      (ds_cons (ds_if (PW.pt (dw_and (dt_truP rfl (xP 4)) (dw_and1 (dt_cmp op_lt d_lt (xv 10) dx_i)))) (ds_cons (sS 11 sc__law_products.nd (cc_call (cal__law_unlike T) (hr.mono (by decide)) (T.gl 60 "_law_unlike" rfl) (fun σ => passAt (takes_of rfl rfl rfl rfl) σ) (xG 0 (xG 1 dg_nil))))
      (ds_cons (sS 12 sc__law_products.nd (dx_pl (dp_ix (xP 4) (dx_neg dx_i))))
      (ds_one (ds_if (dt_cmp (c_eqD hr.units rfl) d_eq (xv 10) dx_i) (ds_one (sS 6 sc__law_products.nd (cc_call (cal__law_scaled T) (hr.mono (by decide)) (T.gl 64 "_law_scaled" rfl) (fun σ => passAt (takes_of rfl rfl rfl rfl) σ) (xG 1 (xG 11 (dg_cons (dx_ix (xv 12) dx_i) dg_nil)))))) (ds_one (ds_if (dt_cmp (c_eqD hr.units rfl) d_eq (xv 10) dx_i) (ds_one (sS 7 sc__law_products.nd (cc_call (cal__law_scaled T) (hr.mono (by decide)) (T.gl 64 "_law_scaled" rfl) (fun σ => passAt (takes_of rfl rfl rfl rfl) σ) (xG 1 (xG 11 (dg_cons (dx_ix (xv 12) dx_i) dg_nil)))))) (ds_cons (sS 8 sc__law_products.nd (cc_call (cal__law_times T) (hr.mono (by decide)) (T.gl 52 "_law_times" rfl) (fun σ => passAt (takes_of rfl rfl rfl rfl) σ) (xG 1 (xG 11 (dg_cons (dx_ix (xv 12) dx_i) dg_nil)))))
      (ds_one (sS 9 sc__law_products.nd (cc_call (cal__law_times T) (hr.mono (by decide)) (T.gl 52 "_law_times" rfl) (fun σ => passAt (takes_of rfl rfl rfl rfl) σ) (xG 1 (xG 11 (dg_cons (dx_ix (xv 12) dx_i) dg_nil))))))))))))) ds_nil)
      (ds_one (ds_app (xP 4) (dn_of (dx_tup (da_cons (xv 6) (da_cons (xv 7) (da_cons (xv 8) (da_cons (xv 9) da_nil))))))))))))
      (ds_one (ds_frz 4 (ds_ret (xv 4)))))))) (FunD.bindsN D (fun _ _ _ _ _ _ us hl => match us, hl with | [_, _, _, _], _ => rfl))
end
end N31
namespace N31
open PySem PySem.Spec PyProof.Rows L2 Fw Pd
section
variable {P : Program} {w : World} {K : PySem.W.Frag} {mg : Str → Option Value} {base : Heap}
theorem sc__law_resized : FnScope ["_law_hand_here", "_law_p", "_law_product", "_law_left", "_law_right", "_law_both", "_law_couple"] ["_law_hand_here", "_law_p", "_law_product"] (defScope (top 100)) := ⟨rfl, rfl, rfl, by decide +kernel, rfl, by decide +kernel, by decide +kernel⟩
theorem cal__law_resized (T : Fs tb K mg) : Cal P w ⟨K, mg, none⟩ base false 5 (He.ga K "_law_resized") 3 F__law_resized [] := by
  obtain ⟨fd, D⟩ : ∃ fd, FunD K "_law_resized" "_law_resized" (defArgs (top 100)) (defBody (top 100)) (defScope (top 100)) [] [] (He.ga K "_law_resized") fd := T.says.def_ 82 rfl
  exact cal_of D (ok_def (N := ["_law_hand_here", "_law_p", "_law_product", "_law_left", "_law_right", "_law_both", "_law_couple"]) (ps := ["_law_hand_here", "_law_p", "_law_product"]) (k := 4) (c := ⟨K, mg, none⟩) D sc__law_resized (fun cdv A outer s H E hr => (ds_cons (sS 3 sc__law_resized.nd (cc_call (cal__law_unlike T) (hr.mono (by decide)) (T.gl 60 "_law_unlike" rfl) (fun σ => passAt (takes_of rfl rfl rfl rfl) σ) (xG 0 (xG 1 dg_nil))))
      (ds_cons (sS 4 sc__law_resized.nd (cc_call (cal__law_unlike T) (hr.mono (by decide)) (T.gl 60 "_law_unlike" rfl) (fun σ => passAt (takes_of rfl rfl rfl rfl) σ) (xG 0 (xG 1 dg_nil))))
      (ds_cons (sS 5 sc__law_resized.nd (cc_call (cal__law_times T) (hr.mono (by decide)) (T.gl 52 "_law_times" rfl) (fun σ => passAt (takes_of rfl rfl rfl rfl) σ) (xG 1 (xG 3 (xG 4 dg_nil)))))
      (ds_cons (sS 6 sc__law_resized.nd (dx_fz (dn_lst (da_cons (cc_call (cal__law_over T) (hr.mono (by decide)) (T.gl 54 "_law_over" rfl) (fun σ => passAt (takes_of rfl rfl rfl rfl) σ) (xG 1 (dg_cons (dx_ix (xv 2) dx_i) (xG 5 dg_nil)))) (da_cons (cc_call (cal__law_over T) (hr.mono (by decide)) (T.gl 54 "_law_over" rfl) (fun σ => passAt (takes_of rfl rfl rfl rfl) σ) (xG 1 (dg_cons (dx_ix (xv 2) dx_i) (xG 5 dg_nil)))) da_nil)))))
      (ds_one (ds_ret (dx_tup (da_cons (cc_call (cal__law_scaled T) (hr.mono (by decide)) (T.gl 64 "_law_scaled" rfl) (fun σ => passAt (takes_of rfl rfl rfl rfl) σ) (xG 1 (xG 3 (dg_cons (dx_ix (xv 2) dx_i) dg_nil)))) (da_cons (cc_call (cal__law_scaled T) (hr.mono (by decide)) (T.gl 64 "_law_scaled" rfl) (fun σ => passAt (takes_of rfl rfl rfl rfl) σ) (xG 1 (xG 4 (dg_cons (dx_ix (xv 2) dx_i) dg_nil)))) (da_cons (dx_ix (xv 6) dx_i) (da_cons (dx_ix (xv 6) dx_i) da_nil))))))))))))) (FunD.bindsN D (fun _ _ _ _ _ _ us hl => match us, hl with | [_, _, _], _ => rfl))
theorem sc__law_others : FnScope ["_law_hand_here", "_law_p", "_law_products_here", "_law_rows", "_law_columns", "_law_told_here", "_law_product", "_law_k", "_law_zeros", "_law_idle", "_law_which", "_law_at", "_law_left", "_law_right", "_law_one", "_law_other"] ["_law_hand_here", "_law_p", "_law_products_here", "_law_rows", "_law_columns"] (defScope (top 101)) := ⟨rfl, rfl, rfl, by decide +kernel, rfl, by decide +kernel, by decide +kernel⟩
theorem cal__law_others (T : Fs tb K mg) : Cal P w ⟨K, mg, none⟩ base false 6 (He.ga K "_law_others") 5 F__law_others [] := by
  obtain ⟨fd, D⟩ : ∃ fd, FunD K "_law_others" "_law_others" (defArgs (top 101)) (defBody (top 101)) (defScope (top 101)) [] [] (He.ga K "_law_others") fd := T.says.def_ 83 rfl
  exact cal_of D (ok_def (N := ["_law_hand_here", "_law_p", "_law_products_here", "_law_rows", "_law_columns", "_law_told_here", "_law_product", "_law_k", "_law_zeros", "_law_idle", "_law_which", "_law_at", "_law_left", "_law_right", "_law_one", "_law_other"]) (ps := ["_law_hand_here", "_law_p", "_law_products_here", "_law_rows", "_law_columns"]) (k := 5) (c := ⟨K, mg, none⟩) D sc__law_others (fun cdv A outer s H E hr => (ds_cons (sSN 5 sc__law_others.nd (dn_lst da_nil))
      (ds_cons (ds_for (vs := [6]) (gg := (gName 6)) (bind := (bNm 6)) (passes_of rfl) rfl (bd_nm (by decide)) (di_seq (xv 2)) (gN 6 sc__law_others.nd) (ds_one (ds_ins (xP 5) (cc_call (cal__law_take T) (hr.mono (by decide)) (T.gl 47 "_law_take" rfl) (fun σ => passAt (takes_of rfl rfl rfl rfl) σ) (xG 0 (dg_cons (dx_op op_add d_add (dx_lenP (by rfl) (T.fr 7 "len" rfl) (xP 5)) dx_i) dg_nil))) (cc_call (cal__law_resized T) (hr.mono (by decide)) (T.gl 70 "_law_resized" rfl) (fun σ => passAt (takes_of rfl rfl rfl rfl) σ) (xG 0 (xG 1 (xG 6 dg_nil)))))))
      (ds_cons (ds_for (vs := [7]) (gg := (gName 7)) (bind := (bNm 7)) (passes_of rfl) rfl (bd_nm (by decide)) (di_rg1 (by rfl) (T.fr 11 "range" rfl) (da_cons (cc_call (cal__law_take T) (hr.mono (by decide)) (T.gl 47 "_law_take" rfl) (fun σ => passAt (takes_of rfl rfl rfl rfl) σ) (xG 0 (dg_cons dx_i dg_nil))) da_nil)) (gN 7 sc__law_others.nd) (ds_cons (sS 8 sc__law_others.nd (dx_fz (dn_times (dx_tup (da_cons (cc_call (cal__law_num T) (hr.mono (by decide)) (T.gl 50 "_law_num" rfl) (fun σ => passAt (takes_of rfl rfl rfl rfl) σ) (xG 1 (dg_cons dx_i dg_nil))) da_nil)) (xv 3))))
      (ds_cons (sS 9 sc__law_others.nd (dx_tup (da_cons (xv 8) (da_cons (cc_call (cal__law_numbers T) (hr.mono (by decide)) (T.gl 67 "_law_numbers" rfl) (fun σ => passAt (takes_of rfl rfl rfl rfl) σ) (xG 0 (xG 1 (xG 4 dg_nil)))) (da_cons (cc_call (cal__law_num T) (hr.mono (by decide)) (T.gl 50 "_law_num" rfl) (fun σ => passAt (takes_of rfl rfl rfl rfl) σ) (xG 1 (dg_cons dx_i dg_nil))) (da_cons (cc_call (cal__law_number T) (hr.mono (by decide)) (T.gl 59 "_law_number" rfl) (fun σ => passAt (takes_of rfl rfl rfl rfl) σ) (xG 0 (xG 1 dg_nil))) da_nil))))))
      (ds_one (ds_ins (xP 5) (cc_call (cal__law_take T) (hr.mono (by decide)) (T.gl 47 "_law_take" rfl) (fun σ => passAt (takes_of rfl rfl rfl rfl) σ) (xG 0 (dg_cons (dx_op op_add d_add (dx_lenP (by rfl) (T.fr 7 "len" rfl) (xP 5)) dx_i) dg_nil))) (xv 9))))))
      (ds_cons (sS 10 sc__law_others.nd (cc_call (cal__law_take T) (hr.mono (by decide)) (T.gl 47 "_law_take" rfl) (fun σ => passAt (takes_of rfl rfl rfl rfl) σ) (xG 0 (dg_cons dx_i dg_nil))))
      (ds_cons (ds_if (PW.pt (dw_and (dt_truP rfl (xP 5)) (dw_and1 (dt_cmp op_lt d_lt (xv 10) dx_i)))) (ds_cons (sS 11 sc__law_others.nd (cc_call (cal__law_take T) (hr.mono (by decide)) (T.gl 47 "_law_take" rfl) (fun σ => passAt (takes_of rfl rfl rfl rfl) σ) (xG 0 (dg_cons (dx_lenP (by rfl) (T.fr 7 "len" rfl) (xP 5)) dg_nil))))
      (ds_cons (ds_pop (vs := [12, 13, 14, 15]) (gg := (gTup K 4 (gCons (gName 12) (gCons (gName 13) (gCons (gName 14) (gCons (gName 15) gNil)))))) (bind := (bTp [(bNm 12), (bNm 13), (bNm 14), (bNm 15)])) (bd_tp rfl (ba_cons (bd_nm (by decide)) (ba_cons (bd_nm (by decide)) (ba_cons (bd_nm (by decide)) (ba_cons (bd_nm (by decide)) ba_nil))))) (xP 5) (xv 11) (pg_tup rfl (pgs_cons (gN 12 sc__law_others.nd) (pgs_cons (gN 13 sc__law_others.nd) (pgs_cons (gN 14 sc__law_others.nd) (pgs_cons (gN 15 sc__law_others.nd) pgs_nil))))))
      (ds_one (ds_if (dt_cmp (c_eqD hr.units rfl) d_eq (xv 10) dx_i) (ds_one (ds_ins (xP 5) (xv 11) (dx_tup (da_cons (xv 12) (da_cons (xv 13) (da_cons (xv 14) (da_cons (cc_call (cal__law_plus T) (hr.mono (by decide)) (T.gl 51 "_law_plus" rfl) (fun σ => passAt (takes_of rfl rfl rfl rfl) σ) (xG 1 (xG 15 (dg_cons (cc_call (cal__law_num T) (hr.mono (by decide)) (T.gl 50 "_law_num" rfl) (fun σ => passAt (takes_of rfl rfl rfl rfl) σ) (xG 1 (dg_cons dx_i dg_nil))) dg_nil)))) da_nil))))))) ds_nil)))) ds_nil)
      (ds_one (ds_frz 5 (ds_ret (xv 5))))))))))) (FunD.bindsN D (fun _ _ _ _ _ _ us hl => match us, hl with | [_, _, _, _, _], _ => rfl))
theorem sc__law_matches : FnScope ["_law_p", "_law_products_here", "_law_others_here", "_law_plain_here", "_law_other", "_law_taken", "_law_k", "_law_told_here", "_law_mine", "_law_places", "_law_j", "_law_left", "_law_right"] ["_law_p", "_law_products_here", "_law_others_here"] (defScope (top 102)) := ⟨rfl, rfl, rfl, by decide +kernel, rfl, by decide +kernel, by decide +kernel⟩
theorem cal__law_matches (T : Fs tb K mg) : Cal P w ⟨K, mg, none⟩ base false 6 (He.ga K "_law_matches") 3 F__law_matches [] := by
  obtain ⟨fd, D⟩ : ∃ fd, FunD K "_law_matches" "_law_matches" (defArgs (top 102)) (defBody (top 102)) (defScope (top 102)) [] [] (He.ga K "_law_matches") fd := T.says.def_ 84 rfl
  exact cal_of D (ok_def (N := ["_law_p", "_law_products_here", "_law_others_here", "_law_plain_here", "_law_other", "_law_taken", "_law_k", "_law_told_here", "_law_mine", "_law_places", "_law_j", "_law_left", "_law_right"]) (ps := ["_law_p", "_law_products_here", "_law_others_here"]) (k := 5) (c := ⟨K, mg, none⟩) D sc__law_matches (fun cdv A outer s H E hr => (ds_cons (sS 3 sc__law_matches.nd (dx_fz (dn_lc (own := [("_law_other", 4)]) (g := (gName 4)) (bind := (bNm 4)) rfl sc__law_matches.nd (di_seq (xv 2)) (blkOk_by (own := [("_law_other", 4)]) (N := ["_law_p", "_law_products_here", "_law_others_here", "_law_plain_here", "_law_other", "_law_taken", "_law_k", "_law_told_here", "_law_mine", "_law_places", "_law_j", "_law_left", "_law_right"]) (sc := defScope (top 102)) (by decide +kernel)) (bd_nm (by decide)) (fun _ _ _ _ _ => (gN 4 sc__law_matches.nd)) (fun _ _ _ _ _ => pts_no) (fun _ _ _ _ _ => (cc_call (cal__law_plain T) (hr.mono (by decide)) (T.gl 65 "_law_plain" rfl) passF (xG 0 (xG 4 dg_nil)))))))
      (ds_cons (sSN 5 sc__law_matches.nd (dn_lc (own := [("_law_k", 6)]) (g := (gName 6)) (bind := (bNm 6)) rfl sc__law_matches.nd (di_rg1 (by rfl) (T.fr 11 "range" rfl) (da_cons (dx_bi (c_len rfl) k_len (by rfl) (T.fr 7 "len" rfl) PySem.boot_len (da_cons (xv 2) da_nil)) da_nil)) (blkOk_by (own := [("_law_k", 6)]) (N := ["_law_p", "_law_products_here", "_law_others_here", "_law_plain_here", "_law_other", "_law_taken", "_law_k", "_law_told_here", "_law_mine", "_law_places", "_law_j", "_law_left", "_law_right"]) (sc := defScope (top 102)) (by decide +kernel)) (bd_nm (by decide)) (fun _ _ _ _ _ => (gN 6 sc__law_matches.nd)) (fun _ _ _ _ _ => (pts_if (dt_cmp op_isN d_isN (dx_ix (xv 3) (xv 6)) dx_n))) (fun _ _ _ _ _ => (xv 6))))
      (ds_cons (sSN 7 sc__law_matches.nd (dn_lst da_nil))
      (ds_cons (ds_for (vs := [6]) (gg := (gName 6)) (bind := (bNm 6)) (passes_of rfl) rfl (bd_nm (by decide)) (di_rg1 (by rfl) (T.fr 11 "range" rfl) (da_cons (dx_bi (c_len rfl) k_len (by rfl) (T.fr 7 "len" rfl) PySem.boot_len (da_cons (xv 1) da_nil)) da_nil)) (gN 6 sc__law_matches.nd) (ds_cons (sS 8 sc__law_matches.nd (cc_call (cal__law_plain T) (hr.mono (by decide)) (T.gl 65 "_law_plain" rfl) (fun σ => passAt (takes_of rfl rfl rfl rfl) σ) (xG 0 (dg_cons (dx_ix (xv 1) (xv 6)) dg_nil))))
      (ds_cons (ds_if (dt_cmp op_isN d_isN (xv 8) dx_n) (ds_one ds_ct) ds_nil)
      (ds_cons (ds_setLcF (i := 9) (own := [("_law_j", 10)]) (g := (gName 10)) (bind := (bNm 10)) rfl sc__law_matches.nd rfl rfl (sw_true rfl rfl rfl (by decide +kernel)) (di_rg1 (by rfl) (T.fr 11 "range" rfl) (da_cons (dx_bi (c_len rfl) k_len (by rfl) (T.fr 7 "len" rfl) PySem.boot_len (da_cons (xv 2) da_nil)) da_nil)) (blkOk_by (own := [("_law_j", 10)]) (N := ["_law_p", "_law_products_here", "_law_others_here", "_law_plain_here", "_law_other", "_law_taken", "_law_k", "_law_told_here", "_law_mine", "_law_places", "_law_j", "_law_left", "_law_right"]) (sc := defScope (top 102)) (by decide +kernel)) (bd_nm (by decide)) (fun _ _ _ _ _ => (gN 10 sc__law_matches.nd)) (fun _ _ _ _ _ => (pts_if (PW.pt (dw_and (dt_lend [5] (dt_cmp (c_ninP hr.units65 rfl) d_ninP (xv 10) (xv 5))) (dw_and1 (dt_cmp (c_eqD hr.units rfl) d_eq (dx_ix (xv 3) (xv 10)) (xv 8))))))) (fun _ _ _ _ _ => (xv 10)))
      (ds_cons (ds_if (dt_cmp (c_eqD hr.units rfl) d_eq (xv 9) (dx_fz (dn_lst da_nil))) (ds_one (ds_ret dx_n)) ds_nil)
      (ds_cons (sS 10 sc__law_matches.nd (dx_ix (xv 9) dx_i))
      (ds_cons (ds_app (xP 5) (dn_of (xv 10)))
      (ds_cons (sS 11 sc__law_matches.nd (cc_call (cal__law_over T) (hr.mono (by decide)) (T.gl 54 "_law_over" rfl) (fun σ => passAt (takes_of rfl rfl rfl rfl) σ) (xG 0 (dg_cons (cc_call (cal__law_lead T) (hr.mono (by decide)) (T.gl 63 "_law_lead" rfl) (fun σ => passAt (takes_of rfl rfl rfl rfl) σ) (xG 0 (dg_cons (dx_ix (dx_ix (xv 2) (xv 10)) dx_i) dg_nil))) (dg_cons (cc_call (cal__law_lead T) (hr.mono (by decide)) (T.gl 63 "_law_lead" rfl) (fun σ => passAt (takes_of rfl rfl rfl rfl) σ) (xG 0 (dg_cons (dx_ix (dx_ix (xv 1) (xv 6)) dx_i) dg_nil))) dg_nil)))))
      (ds_cons (sS 12 sc__law_matches.nd (cc_call (cal__law_over T) (hr.mono (by decide)) (T.gl 54 "_law_over" rfl) (fun σ => passAt (takes_of rfl rfl rfl rfl) σ) (xG 0 (dg_cons (cc_call (cal__law_lead T) (hr.mono (by decide)) (T.gl 63 "_law_lead" rfl) (fun σ => passAt (takes_of rfl rfl rfl rfl) σ) (xG 0 (dg_cons (dx_ix (dx_ix (xv 2) (xv 10)) dx_i) dg_nil))) (dg_cons (cc_call (cal__law_lead T) (hr.mono (by decide)) (T.gl 63 "_law_lead" rfl) (fun σ => passAt (takes_of rfl rfl rfl rfl) σ) (xG 0 (dg_cons (dx_ix (dx_ix (xv 1) (xv 6)) dx_i) dg_nil))) dg_nil)))))
      (ds_one (ds_app (xP 7) (dn_lst (da_cons (xv 6) (da_cons (xv 10) (da_cons (xv 11) (da_cons (xv 12) da_nil))))))))))))))))
      (ds_one (ds_frz 7 (ds_ret (dx_if (dt_cmp (c_eqD hr.units rfl) d_eq (dx_lenP (by rfl) (T.fr 7 "len" rfl) (xP 5)) (dx_bi (c_len rfl) k_len (by rfl) (T.fr 7 "len" rfl) PySem.boot_len (da_cons (xv 2) da_nil))) (xv 7) dx_n)))))))))) (FunD.bindsN D (fun _ _ _ _ _ _ us hl => match us, hl with | [_, _, _], _ => rfl))
theorem sc__law_matched : FnScope ["_law_told_here", "_law_due", "_law_k", "_law_one"] ["_law_told_here", "_law_due"] (defScope (top 103)) := ⟨rfl, rfl, rfl, by decide +kernel, rfl, by decide +kernel, by decide +kernel⟩
theorem cal__law_matched (T : Fs tb K mg) : Cal P w ⟨K, mg, none⟩ base false 8 (He.ga K "_law_matched") 2 F__law_matched [] := by
  obtain ⟨fd, D⟩ : ∃ fd, FunD K "_law_matched" "_law_matched" (defArgs (top 103)) (defBody (top 103)) (defScope (top 103)) [] [] (He.ga K "_law_matched") fd := T.says.def_ 85 rfl
  exact cal_of D (ok_def (N := ["_law_told_here", "_law_due", "_law_k", "_law_one"]) (ps := ["_law_told_here", "_law_due"]) (k := 7) (c := ⟨K, mg, none⟩) D sc__law_matched (fun cdv A outer s H E hr => (ds_cons (ds_if (dt_cmp op_isN d_isN (xv 1) dx_n) (ds_one (ds_ret (dx_cmp op_isN d_isN (xv 0) dx_n))) ds_nil)
      (ds_cons (ds_if (PW.pt (dw_or (dt_not (dt_tru rfl (dx_is T.gt (by decide) (by rfl) (T.fr 5 "isinstance" rfl) (xv 0) (pe_bltn (v := .ty "tuple") (by rfl) (T.fr 14 "tuple" rfl) (by decide +kernel) rfl)))) (dw_or1 (dt_cmp (c_neD hr.units rfl) d_ne (dx_bi (c_len rfl) k_len (by rfl) (T.fr 7 "len" rfl) PySem.boot_len (da_cons (xv 0) da_nil)) (dx_bi (c_len rfl) k_len (by rfl) (T.fr 7 "len" rfl) PySem.boot_len (da_cons (xv 1) da_nil)))))) (ds_one (ds_ret dx_b)) ds_nil)
      (ds_cons (ds_for (vs := [2]) (gg := (gName 2)) (bind := (bNm 2)) (passes_of rfl) rfl (bd_nm (by decide)) (di_rg1 (by rfl) (T.fr 11 "range" rfl) (da_cons (dx_bi (c_len rfl) k_len (by rfl) (T.fr 7 "len" rfl) PySem.boot_len (da_cons (xv 1) da_nil)) da_nil)) (gN 2 sc__law_matched.nd) (ds_cons (sS 3 sc__law_matched.nd (dx_ix (xv 0) (xv 2)))
      (ds_cons (ds_if (dt_not (dt_tru rfl (dx_isC (ms := [("Pair", false), ("Program", false), ("Match", true), ("Shared", false), ("Figures", false)]) (bf := false) T 93 rfl (by decide +kernel) (by decide +kernel) (T.fr 5 "isinstance" rfl) (xv 3)))) (ds_one (ds_ret dx_b)) ds_nil)
      (ds_one (ds_if (dt_not (dt_tru rfl (cc_call (cal__law_exact T 6) (hr.mono (by decide)) (T.gl 62 "_law_exact" rfl) (fun σ => passAt (takes_of rfl rfl rfl rfl) σ) (dg_cons (dx_tup (da_cons (xA 3) (da_cons (xA 3) (da_cons (xA 3) (da_cons (xA 3) da_nil))))) (dg_cons (dx_ix (xv 1) (xv 2)) dg_nil))))) (ds_one (ds_ret dx_b)) ds_nil)))))
      (ds_one (ds_ret dx_b))))))) (FunD.bindsN D (fun _ _ _ _ _ _ us hl => match us, hl with | [_, _], _ => rfl))
theorem sc__law_shares : FnScope ["_law_p", "_law_one", "_law_other", "_law_side", "_law_here", "_law_there", "_law_size_here"] ["_law_p", "_law_one", "_law_other", "_law_side"] (defScope (top 104)) := ⟨rfl, rfl, rfl, by decide +kernel, rfl, by decide +kernel, by decide +kernel⟩
theorem cal__law_shares (T : Fs tb K mg) : Cal P w ⟨K, mg, none⟩ base false 6 (He.ga K "_law_shares") 4 F__law_shares [] := by
  obtain ⟨fd, D⟩ : ∃ fd, FunD K "_law_shares" "_law_shares" (defArgs (top 104)) (defBody (top 104)) (defScope (top 104)) [] [] (He.ga K "_law_shares") fd := T.says.def_ 86 rfl
  exact cal_of D (ok_def (N := ["_law_p", "_law_one", "_law_other", "_law_side", "_law_here", "_law_there", "_law_size_here"]) (ps := ["_law_p", "_law_one", "_law_other", "_law_side"]) (k := 5) (c := ⟨K, mg, none⟩) D sc__law_shares (fun cdv A outer s H E hr => (ds_cons (ds_if (PW.pt (dw_or (dt_cmp op_isN d_isN (cc_call (cal__law_plain T) (hr.mono (by decide)) (T.gl 65 "_law_plain" rfl) (fun σ => passAt (takes_of rfl rfl rfl rfl) σ) (xG 0 (xG 1 dg_nil))) dx_n) (dw_or1 (dt_cmp op_isN d_isN (cc_call (cal__law_plain T) (hr.mono (by decide)) (T.gl 65 "_law_plain" rfl) (fun σ => passAt (takes_of rfl rfl rfl rfl) σ) (xG 0 (xG 2 dg_nil))) dx_n)))) (ds_one (ds_ret dx_n)) ds_nil)
      (ds_cons (sS 4 sc__law_shares.nd (dx_if (dt_cmp (c_eqD hr.units rfl) d_eq (xv 3) dx_s) (dx_tup (da_cons (dx_ix (xv 1) dx_i) (da_cons (dx_ix (xv 1) dx_i) da_nil))) (dx_ix (xv 1) (dx_ty call_int1 k_int (by rfl) (T.fr 4 "int" rfl) PyProof.Rows.boot_int (da_cons (dx_cmp (c_eqD hr.units rfl) d_eq (xv 3) dx_s) da_nil)))))
      (ds_cons (sS 5 sc__law_shares.nd (dx_if (dt_cmp (c_eqD hr.units rfl) d_eq (xv 3) dx_s) (dx_tup (da_cons (dx_ix (xv 2) dx_i) (da_cons (dx_ix (xv 2) dx_i) da_nil))) (dx_ix (xv 2) (dx_ty call_int1 k_int (by rfl) (T.fr 4 "int" rfl) PyProof.Rows.boot_int (da_cons (dx_cmp (c_eqD hr.units rfl) d_eq (xv 3) dx_s) da_nil)))))
      (ds_cons (sS 6 sc__law_shares.nd (cc_call (cal__law_over T) (hr.mono (by decide)) (T.gl 54 "_law_over" rfl) (fun σ => passAt (takes_of rfl rfl rfl rfl) σ) (xG 0 (dg_cons (cc_call (cal__law_lead T) (hr.mono (by decide)) (T.gl 63 "_law_lead" rfl) (fun σ => passAt (takes_of rfl rfl rfl rfl) σ) (xG 0 (xG 5 dg_nil))) (dg_cons (cc_call (cal__law_lead T) (hr.mono (by decide)) (T.gl 63 "_law_lead" rfl) (fun σ => passAt (takes_of rfl rfl rfl rfl) σ) (xG 0 (xG 4 dg_nil))) dg_nil)))))
      (ds_one (ds_ret (dx_if (dt_cmp (c_eqD hr.units rfl) d_eq (cc_call (cal__law_scaled T) (hr.mono (by decide)) (T.gl 64 "_law_scaled" rfl) (fun σ => passAt (takes_of rfl rfl rfl rfl) σ) (xG 0 (xG 6 (xG 4 dg_nil)))) (dx_ty (c_tup rfl) k_tup (by rfl) (T.fr 14 "tuple" rfl) PyProof.Rows.boot_tuple (da_cons (xv 5) da_nil))) (xv 6) dx_n))))))))) (FunD.bindsN D (fun _ _ _ _ _ _ us hl => match us, hl with | [_, _, _, _], _ => rfl))
theorem sc__law_exchanged : FnScope ["_law_p", "_law_one", "_law_other", "_law_side", "_law_size_here", "_law_moved", "_law_rest", "_law_k", "_law_sums", "_law_mine", "_law_right"] ["_law_p", "_law_one", "_law_other", "_law_side", "_law_size_here"] (defScope (top 105)) := ⟨rfl, rfl, rfl, by decide +kernel, rfl, by decide +kernel, by decide +kernel⟩
theorem cal__law_exchanged (T : Fs tb K mg) : Cal P w ⟨K, mg, none⟩ base false 5 (He.ga K "_law_exchanged") 5 F__law_exchanged [] := by
  obtain ⟨fd, D⟩ : ∃ fd, FunD K "_law_exchanged" "_law_exchanged" (defArgs (top 105)) (defBody (top 105)) (defScope (top 105)) [] [] (He.ga K "_law_exchanged") fd := T.says.def_ 87 rfl
  exact cal_of D (ok_def (N := ["_law_p", "_law_one", "_law_other", "_law_side", "_law_size_here", "_law_moved", "_law_rest", "_law_k", "_law_sums", "_law_mine", "_law_right"]) (ps := ["_law_p", "_law_one", "_law_other", "_law_side", "_law_size_here"]) (k := 4) (c := ⟨K, mg, none⟩) D sc__law_exchanged (fun cdv A outer s H E hr => (ds_cons (ds_if (dt_cmp (c_eqD hr.units rfl) d_eq (xv 3) dx_s) (ds_cons (sS 5 sc__law_exchanged.nd (cc_call (cal__law_scaled T) (hr.mono (by decide)) (T.gl 64 "_law_scaled" rfl) (fun σ => passAt (takes_of rfl rfl rfl rfl) σ) (xG 0 (xG 4 (dg_cons (dx_ix (xv 2) dx_i) dg_nil)))))
      (ds_cons (sS 6 sc__law_exchanged.nd (dx_ty (c_tup rfl) k_tup (by rfl) (T.fr 14 "tuple" rfl) PyProof.Rows.boot_tuple (da_cons (dx_fz (dn_lc (own := [("_law_k", 7)]) (g := (gName 7)) (bind := (bNm 7)) rfl sc__law_exchanged.nd (di_rg1 (by rfl) (T.fr 11 "range" rfl) (da_cons (dx_bi (c_len rfl) k_len (by rfl) (T.fr 7 "len" rfl) PySem.boot_len (da_cons (xv 5) da_nil)) da_nil)) (blkOk_by (own := [("_law_k", 7)]) (N := ["_law_p", "_law_one", "_law_other", "_law_side", "_law_size_here", "_law_moved", "_law_rest", "_law_k", "_law_sums", "_law_mine", "_law_right"]) (sc := defScope (top 105)) (by decide +kernel)) (bd_nm (by decide)) (fun _ _ _ _ _ => (gN 7 sc__law_exchanged.nd)) (fun _ _ _ _ _ => pts_no) (fun _ _ _ _ _ => (cc_call (cal__law_less T) (hr.mono (by decide)) (T.gl 53 "_law_less" rfl) passF (xG 0 (dg_cons (dx_ix (dx_ix (xv 1) dx_i) (xv 7)) (dg_cons (dx_ix (xv 5) (xv 7)) dg_nil))))))) da_nil)))
      (ds_cons (sS 8 sc__law_exchanged.nd (dx_tup (da_cons (cc_call (cal__law_plus T) (hr.mono (by decide)) (T.gl 51 "_law_plus" rfl) (fun σ => passAt (takes_of rfl rfl rfl rfl) σ) (xG 0 (dg_cons (dx_ix (xv 1) dx_i) (dg_cons (dx_ix (xv 2) dx_i) dg_nil)))) (da_cons (cc_call (cal__law_plus T) (hr.mono (by decide)) (T.gl 51 "_law_plus" rfl) (fun σ => passAt (takes_of rfl rfl rfl rfl) σ) (xG 0 (dg_cons (dx_ix (xv 1) dx_i) (dg_cons (dx_ix (xv 2) dx_i) dg_nil)))) da_nil))))
      (ds_one (ds_ret (dx_fz (dn_lst (da_cons (dx_tup (da_cons (dx_ix (xv 1) dx_i) (da_cons (xv 6) (da_cons (dx_ix (xv 1) dx_i) (da_cons (dx_ix (xv 1) dx_i) da_nil))))) (da_cons (dx_fz (dn_plus (dx_tup (da_cons (dx_ix (xv 1) dx_i) (da_cons (xv 5) da_nil))) (xv 8))) da_nil))))))))) ds_nil)
      (ds_cons (sS 5 sc__law_exchanged.nd (cc_call (cal__law_scaled T) (hr.mono (by decide)) (T.gl 64 "_law_scaled" rfl) (fun σ => passAt (takes_of rfl rfl rfl rfl) σ) (xG 0 (xG 4 (dg_cons (dx_ix (xv 2) dx_i) dg_nil)))))
      (ds_cons (sS 6 sc__law_exchanged.nd (dx_ty (c_tup rfl) k_tup (by rfl) (T.fr 14 "tuple" rfl) PyProof.Rows.boot_tuple (da_cons (dx_fz (dn_lc (own := [("_law_k", 7)]) (g := (gName 7)) (bind := (bNm 7)) rfl sc__law_exchanged.nd (di_rg1 (by rfl) (T.fr 11 "range" rfl) (da_cons (dx_bi (c_len rfl) k_len (by rfl) (T.fr 7 "len" rfl) PySem.boot_len (da_cons (xv 5) da_nil)) da_nil)) (blkOk_by (own := [("_law_k", 7)]) (N := ["_law_p", "_law_one", "_law_other", "_law_side", "_law_size_here", "_law_moved", "_law_rest", "_law_k", "_law_sums", "_law_mine", "_law_right"]) (sc := defScope (top 105)) (by decide +kernel)) (bd_nm (by decide)) (fun _ _ _ _ _ => (gN 7 sc__law_exchanged.nd)) (fun _ _ _ _ _ => pts_no) (fun _ _ _ _ _ => (cc_call (cal__law_less T) (hr.mono (by decide)) (T.gl 53 "_law_less" rfl) passF (xG 0 (dg_cons (dx_ix (dx_ix (xv 1) dx_i) (xv 7)) (dg_cons (dx_ix (xv 5) (xv 7)) dg_nil))))))) da_nil)))
      (ds_cons (sS 9 sc__law_exchanged.nd (dx_tup (da_cons (xv 6) (da_cons (dx_ix (xv 1) dx_i) (da_cons (dx_ix (xv 1) dx_i) (da_cons (dx_ix (xv 1) dx_i) da_nil))))))
      (ds_cons (ds_if (dt_cmp (c_eqD hr.units rfl) d_eq (xv 3) dx_s) (ds_one (ds_ret (dx_fz (dn_lst (da_cons (xv 9) (da_cons (dx_tup (da_cons (xv 5) (da_cons (dx_ix (xv 1) dx_i) (da_cons (cc_call (cal__law_plus T) (hr.mono (by decide)) (T.gl 51 "_law_plus" rfl) (fun σ => passAt (takes_of rfl rfl rfl rfl) σ) (xG 0 (dg_cons (dx_ix (xv 1) dx_i) (dg_cons (dx_ix (xv 2) dx_i) dg_nil)))) (da_cons (cc_call (cal__law_plus T) (hr.mono (by decide)) (T.gl 51 "_law_plus" rfl) (fun σ => passAt (takes_of rfl rfl rfl rfl) σ) (xG 0 (dg_cons (dx_ix (xv 1) dx_i) (dg_cons (dx_ix (xv 2) dx_i) dg_nil)))) da_nil))))) da_nil)))))) ds_nil)
      (ds_cons (sS 10 sc__law_exchanged.nd (dx_ty (c_tup rfl) k_tup (by rfl) (T.fr 14 "tuple" rfl) PyProof.Rows.boot_tuple (da_cons (dx_fz (dn_lc (own := [("_law_k", 7)]) (g := (gName 7)) (bind := (bNm 7)) rfl sc__law_exchanged.nd (di_rg1 (by rfl) (T.fr 11 "range" rfl) (da_cons (dx_bi (c_len rfl) k_len (by rfl) (T.fr 7 "len" rfl) PySem.boot_len (da_cons (dx_ix (xv 1) dx_i) da_nil)) da_nil)) (blkOk_by (own := [("_law_k", 7)]) (N := ["_law_p", "_law_one", "_law_other", "_law_side", "_law_size_here", "_law_moved", "_law_rest", "_law_k", "_law_sums", "_law_mine", "_law_right"]) (sc := defScope (top 105)) (by decide +kernel)) (bd_nm (by decide)) (fun _ _ _ _ _ => (gN 7 sc__law_exchanged.nd)) (fun _ _ _ _ _ => pts_no) (fun _ _ _ _ _ => (cc_call (cal__law_plus T) (hr.mono (by decide)) (T.gl 51 "_law_plus" rfl) passF (xG 0 (dg_cons (dx_ix (dx_ix (xv 1) dx_i) (xv 7)) (dg_cons (dx_ix (dx_ix (xv 2) dx_i) (xv 7)) dg_nil))))))) da_nil)))
      (ds_one (ds_ret (dx_fz (dn_lst (da_cons (xv 9) (da_cons (dx_tup (da_cons (xv 5) (da_cons (xv 10) (da_cons (dx_ix (xv 1) dx_i) (da_cons (dx_ix (xv 1) dx_i) da_nil))))) da_nil)))))))))))))) (FunD.bindsN D (fun _ _ _ _ _ _ us hl => match us, hl with | [_, _, _, _, _], _ => rfl))
theorem sc__law_told : FnScope ["_law_program", "_law_first", "_law_second", "_law_side"] ["_law_program", "_law_first", "_law_second", "_law_side"] (defScope (top 106)) := ⟨rfl, rfl, rfl, by decide +kernel, rfl, by decide +kernel, by decide +kernel⟩
theorem cal__law_told (T : Fs tb K mg) : Cal P w ⟨K, mg, none⟩ base false 10 (He.ga K "_law_told") 4 F__law_told [] := by
  obtain ⟨fd, D⟩ : ∃ fd, FunD K "_law_told" "_law_told" (defArgs (top 106)) (defBody (top 106)) (defScope (top 106)) [] [] (He.ga K "_law_told") fd := T.says.def_ 88 rfl
  exact cal_of D (ok_def (N := ["_law_program", "_law_first", "_law_second", "_law_side"]) (ps := ["_law_program", "_law_first", "_law_second", "_law_side"]) (k := 9) (c := ⟨K, mg, none⟩) D sc__law_told (fun cdv A outer s H E hr => (ds_one (ds_try rfl rfl rfl sc__law_told.nd (takes_of rfl rfl rfl rfl) (fun W pn xe tk po => (ds_one (ds_ret (cc_call (cal_exchanged_program T) (hr.mono (by decide)) (T.gl 43 "exchanged_program" rfl) (fun σ => passAt tk σ) (xG 0 (xG 1 (xG 2 (xG 3 dg_nil)))))))) (.bare (ms := (msOf [("DividedByNought", false), ("BadFigures", false), ("BadTable", false), ("BadLetters", false), ("BadPair", false), ("Unlike", false), ("BadProgram", false), ("NotShared", true)])) (u := (sRet (eC .non))) ⟨by rfl, by decide, Or.inl (T.gl 90 "NotShared" rfl)⟩ (ms_ok (y := "NotShared") T (by decide +kernel)) (fun a oe k dd pn hz hf => (ds_one (ds_ret dx_n))) .nil))))) (FunD.bindsN D (fun _ _ _ _ _ _ us hl => match us, hl with | [_, _, _, _], _ => rfl))
theorem sc__law_couple_holds : FnScope ["_law_p", "_law_program", "_law_first", "_law_second", "_law_side", "_law_products_here", "_law_size_here", "_law_told_here", "_law_couple", "_law_due", "_law_rows", "_law_columns"] ["_law_p", "_law_program", "_law_first", "_law_second", "_law_side"] (defScope (top 107)) := ⟨rfl, rfl, rfl, by decide +kernel, rfl, by decide +kernel, by decide +kernel⟩
theorem cal__law_couple_holds (T : Fs tb K mg) : Cal P w ⟨K, mg, none⟩ base false 11 (He.ga K "_law_couple_holds") 5 F__law_couple_holds [] := by
  obtain ⟨fd, D⟩ : ∃ fd, FunD K "_law_couple_holds" "_law_couple_holds" (defArgs (top 107)) (defBody (top 107)) (defScope (top 107)) [] [] (He.ga K "_law_couple_holds") fd := T.says.def_ 89 rfl
  exact cal_of D (ok_def (N := ["_law_p", "_law_program", "_law_first", "_law_second", "_law_side", "_law_products_here", "_law_size_here", "_law_told_here", "_law_couple", "_law_due", "_law_rows", "_law_columns"]) (ps := ["_law_p", "_law_program", "_law_first", "_law_second", "_law_side"]) (k := 10) (c := ⟨K, mg, none⟩) D sc__law_couple_holds (fun cdv A outer s H E hr => (ds_cons (sS 5 sc__law_couple_holds.nd (xA 1))
      (ds_cons (sS 6 sc__law_couple_holds.nd (cc_call (cal__law_shares T) (hr.mono (by decide)) (T.gl 74 "_law_shares" rfl) (fun σ => passAt (takes_of rfl rfl rfl rfl) σ) (xG 0 (dg_cons (dx_ix (xv 5) (xv 2)) (dg_cons (dx_ix (xv 5) (xv 3)) (xG 4 dg_nil))))))
      (ds_cons (sS 7 sc__law_couple_holds.nd (cc_call (cal__law_told T) (hr.mono (by decide)) (T.gl 76 "_law_told" rfl) (fun σ => passAt (takes_of rfl rfl rfl rfl) σ) (xG 1 (xG 2 (xG 3 (xG 4 dg_nil))))))
      (ds_cons (ds_if (dt_cmp op_isN d_isN (xv 6) dx_n) (ds_one (ds_ret (dx_cmp op_isN d_isN (xv 7) dx_n))) ds_nil)
      (ds_cons (ds_if (PW.pt (dw_or (dt_not (dt_tru rfl (dx_isC (ms := [("Pair", false), ("Program", true), ("Match", false), ("Shared", false), ("Figures", false)]) (bf := false) T 92 rfl (by decide +kernel) (by decide +kernel) (T.fr 5 "isinstance" rfl) (xv 7)))) (dw_or1 (dt_cmp (c_neD hr.units rfl) d_ne (dx_at (xA 7)) (xv 0))))) (ds_one (ds_ret dx_b)) ds_nil)
      (ds_cons (sS 8 sc__law_couple_holds.nd (cc_call (cal__law_exchanged T) (hr.mono (by decide)) (T.gl 75 "_law_exchanged" rfl) (fun σ => passAt (takes_of rfl rfl rfl rfl) σ) (xG 0 (dg_cons (dx_ix (xv 5) (xv 2)) (dg_cons (dx_ix (xv 5) (xv 3)) (xG 4 (xG 6 dg_nil)))))))
      (ds_cons (sSN 9 sc__law_couple_holds.nd (dn_ty (c_list rfl) k_list (by rfl) (T.fr 8 "list" rfl) (by decide +kernel) (da_cons (xv 5) da_nil)))
      (ds_cons (ds_st (dx_ix (xv 8) dx_i) (xP 9) (xv 2))
      (ds_cons (ds_st (dx_ix (xv 8) dx_i) (xP 9) (xv 3))
      (ds_cons (ds_frz 9 (ds_if (dt_not (dt_tru rfl (cc_call (cal__law_exact T 6) (hr.mono (by decide)) (T.gl 62 "_law_exact" rfl) (fun σ => passAt (takes_of rfl rfl rfl rfl) σ) (dg_cons (xA 7) (xG 9 dg_nil))))) (ds_one (ds_ret dx_b)) ds_nil))
      (ds_cons (sS 10 sc__law_couple_holds.nd (xA 1))
      (ds_cons (sS 11 sc__law_couple_holds.nd (xA 1))
      (ds_one (ds_ret (dx_cmp (c_eqD hr.units rfl) d_eq (cc_call (cal__law_made T) (hr.mono (by decide)) (T.gl 66 "_law_made" rfl) (fun σ => passAt (takes_of rfl rfl rfl rfl) σ) (xG 0 (xG 10 (xG 11 (dg_cons (xA 7) dg_nil))))) (cc_call (cal__law_made T) (hr.mono (by decide)) (T.gl 66 "_law_made" rfl) (fun σ => passAt (takes_of rfl rfl rfl rfl) σ) (xG 0 (xG 10 (xG 11 (xG 5 dg_nil)))))))))))))))))))))) (FunD.bindsN D (fun _ _ _ _ _ _ us hl => match us, hl with | [_, _, _, _, _], _ => rfl))
theorem sc__law_all_couples : FnScope ["_law_hand_here", "_law_p", "_law_program", "_law_turn", "_law_found", "_law_many", "_law_first", "_law_second", "_law_side", "_law_couple", "_law_told_here"] ["_law_hand_here", "_law_p", "_law_program"] (defScope (top 108)) := ⟨rfl, rfl, rfl, by decide +kernel, rfl, by decide +kernel, by decide +kernel⟩
theorem cal__law_all_couples (T : Fs tb K mg) : Cal P w ⟨K, mg, none⟩ base false 12 (He.ga K "_law_all_couples") 3 F__law_all_couples [] := by
  obtain ⟨fd, D⟩ : ∃ fd, FunD K "_law_all_couples" "_law_all_couples" (defArgs (top 108)) (defBody (top 108)) (defScope (top 108)) [] [] (He.ga K "_law_all_couples") fd := T.says.def_ 90 rfl
  exact cal_of D (ok_def (N := ["_law_hand_here", "_law_p", "_law_program", "_law_turn", "_law_found", "_law_many", "_law_first", "_law_second", "_law_side", "_law_couple", "_law_told_here"]) (ps := ["_law_hand_here", "_law_p", "_law_program"]) (k := 11) (c := ⟨K, mg, none⟩) D sc__law_all_couples (fun cdv A outer s H E hr => (ds_cons (sS 3 sc__law_all_couples.nd (cc_call (cal__law_take T) (hr.mono (by decide)) (T.gl 47 "_law_take" rfl) (fun σ => passAt (takes_of rfl rfl rfl rfl) σ) (xG 0 (dg_cons dx_i dg_nil))))
      (ds_cons (sS 4 sc__law_all_couples.nd dx_n)
      (ds_cons (sS 5 sc__law_all_couples.nd (dx_bi (c_len rfl) k_len (by rfl) (T.fr 7 "len" rfl) PySem.boot_len (da_cons (xA 2) da_nil)))
      (ds_cons (ds_for (vs := [6]) (gg := (gName 6)) (bind := (bNm 6)) (passes_of rfl) rfl (bd_nm (by decide)) (di_rg1 (by rfl) (T.fr 11 "range" rfl) (da_cons (xv 5) da_nil)) (gN 6 sc__law_all_couples.nd) (ds_one (ds_for (vs := [7]) (gg := (gName 7)) (bind := (bNm 7)) (passes_of rfl) rfl (bd_nm (by decide)) (di_rg2 (by rfl) (T.fr 11 "range" rfl) (da_cons (dx_op op_add d_add (xv 6) dx_i) (da_cons (xv 5) da_nil))) (gN 7 sc__law_all_couples.nd) (ds_one (ds_for (vs := [8]) (gg := (gName 8)) (bind := (bNm 8)) (passes_of rfl) rfl (bd_nm (by decide)) (di_seq (dx_tup (da_cons dx_s (da_cons dx_s (da_cons dx_s da_nil))))) (gN 8 sc__law_all_couples.nd) (ds_cons (ds_if (PW.pt (dw_and (dt_cmp op_isN d_isN (xv 4) dx_n) (dw_and1 (dt_cmp op_notN d_notN (cc_call (cal__law_shares T) (hr.mono (by decide)) (T.gl 74 "_law_shares" rfl) (fun σ => passAt (takes_of rfl rfl rfl rfl) σ) (xG 1 (dg_cons (dx_ix (xA 2) (xv 6)) (dg_cons (dx_ix (xA 2) (xv 7)) (xG 8 dg_nil))))) dx_n)))) (ds_one (sS 4 sc__law_all_couples.nd (dx_fz (dn_lst (da_cons (xv 6) (da_cons (xv 7) (da_cons (xv 8) da_nil))))))) ds_nil)
      (ds_cons (sS 9 sc__law_all_couples.nd (dx_if (dt_cmp (c_eqD hr.units rfl) d_eq (xv 3) dx_i) (dx_tup (da_cons (xv 6) (da_cons (xv 7) da_nil))) (dx_tup (da_cons (xv 7) (da_cons (xv 6) da_nil)))))
      (ds_one (ds_if (dt_not (dt_tru rfl (cc_call (cal__law_couple_holds T) (hr.mono (by decide)) (T.gl 77 "_law_couple_holds" rfl) (fun σ => passAt (takes_of rfl rfl rfl rfl) σ) (xG 1 (xG 2 (dg_cons (dx_ix (xv 9) dx_i) (dg_cons (dx_ix (xv 9) dx_i) (xG 8 dg_nil)))))))) (ds_one (ds_ret dx_b)) ds_nil)))))))))
      (ds_cons (sS 10 sc__law_all_couples.nd (cc_call (cal_shared_side T) (hr.mono (by decide)) (T.gl 39 "shared_side" rfl) (fun σ => passAt (takes_of rfl rfl rfl rfl) σ) (xG 2 dg_nil)))
      (ds_cons (ds_if (dt_cmp op_isN d_isN (xv 4) dx_n) (ds_one (ds_ret (dx_cmp op_isN d_isN (xv 10) dx_n))) ds_nil)
      (ds_one (ds_ret (dx_and (dx_isC (ms := [("Pair", false), ("Program", false), ("Match", false), ("Shared", true), ("Figures", false)]) (bf := false) T 94 rfl (by decide +kernel) (by decide +kernel) (T.fr 5 "isinstance" rfl) (xv 10)) (dx_one (cc_call (cal__law_exact T 6) (hr.mono (by decide)) (T.gl 62 "_law_exact" rfl) (fun σ => passAt (takes_of rfl rfl rfl rfl) σ) (dg_cons (dx_tup (da_cons (xA 10) (da_cons (xA 10) (da_cons (xA 10) da_nil)))) (xG 4 dg_nil))))))))))))))) (FunD.bindsN D (fun _ _ _ _ _ _ us hl => match us, hl with | [_, _, _], _ => rfl))
theorem sc_law : FnScope ["_law_script", "_law_hand_here", "_law_p", "_law_rows", "_law_columns", "_law_products_here", "_law_others_here", "_law_program", "_law_other"] ["_law_script"] (defScope (top 109)) := ⟨rfl, rfl, rfl, by decide +kernel, rfl, by decide +kernel, by decide +kernel⟩
theorem law_ok (T : Fs tb K mg) (hu : LawB 7 B_law) : ∃ fd : FuncData, (∀ (s : Shared) (v : Value), BindsTo s fd ⟨[v], []⟩ [("_law_script", v)]) ∧ ∀ base : Heap, FnOk P w K mg base CX0 13 (He.ga K "law") fd ["_law_script"] (spLaw K) := by
  obtain ⟨fd, D⟩ : ∃ fd, FunD K "law" "law" (defArgs (top 109)) (defBody (top 109)) (defScope (top 109)) [] [] (He.ga K "law") fd := T.says.def_ 91 rfl
  have bW := FunD.bindsA (ps := ["_law_script"]) D fun _ _ _ _ _ _ us hl => match us, hl with | [_], _ => rfl
  refine ⟨fd, fun s v => bW s [v] rfl, fun base => ?_⟩
  obtain ⟨⟨fh, GH, bH⟩, kH⟩ := hand_ok (P := P) (w := w) (base := base) T
  refine fn_calm0 (FunD.ok (CX := L2.CX P w) (k := 12) D sc_law (fun vs H Q E h => len_law (Q := Q) (E := E) h) (fun cdv A outer s H vs Q E hr h => ⟨_, pss_cons (ps_set (i := 1) sc_law.nd rfl (by first | exact Or.inl rfl | exact Or.inr rfl) (pe_call GH (hr.mono (by decide)) (by rfl) (T.gl 45 "_law_hand" rfl) kH bH .nil pass0 (pa_cons (pv 0) pa_nil))) (ds_cons (sS 2 sc_law.nd (cc_call (cal__law_figures T) (hr.mono (by decide)) (T.gl 58 "_law_figures" rfl) (fun σ => passAt (takes_of rfl rfl rfl rfl) σ) (xG 1 dg_nil)))
      (ds_cons (sS 3 sc_law.nd (cc_call (cal__law_size T) (hr.mono (by decide)) (T.gl 61 "_law_size" rfl) (fun σ => passAt (takes_of rfl rfl rfl rfl) σ) (xG 1 (xG 2 (dg_cons dx_i dg_nil)))))
      (ds_cons (sS 4 sc_law.nd (cc_call (cal__law_size T) (hr.mono (by decide)) (T.gl 61 "_law_size" rfl) (fun σ => passAt (takes_of rfl rfl rfl rfl) σ) (xG 1 (xG 2 (dg_cons dx_i dg_nil)))))
      (ds_cons (sS 5 sc_law.nd (cc_call (cal__law_products T) (hr.mono (by decide)) (T.gl 69 "_law_products" rfl) (fun σ => passAt (takes_of rfl rfl rfl rfl) σ) (xG 1 (xG 2 (xG 3 (xG 4 dg_nil))))))
      (ds_cons (sS 6 sc_law.nd (cc_call (cal__law_others T) (hr.mono (by decide)) (T.gl 71 "_law_others" rfl) (fun σ => passAt (takes_of rfl rfl rfl rfl) σ) (xG 1 (xG 2 (xG 5 (xG 3 (xG 4 dg_nil)))))))
      (ds_cons (sS 7 sc_law.nd (cc_make (T.gl 92 "Program" rfl) (T.cls 1 _ rfl).1 (T.cls 1 _ rfl).2 (cal_Program___init__ T) (hr.mono (by decide)) (fun σ => passAt (takes_of rfl rfl rfl rfl) σ) (da_cons (cc_make (T.gl 95 "Figures" rfl) (T.cls 4 _ rfl).1 (T.cls 4 _ rfl).2 (cal_Figures___init__ T) (hr.mono (by decide)) (fun σ => passAt (takes_of rfl rfl rfl rfl) σ) (da_cons (xv 2) da_nil)) (da_cons (xv 3) (da_cons (xv 4) (da_cons (dx_fz (dn_ty (c_list rfl) k_list (by rfl) (T.fr 8 "list" rfl) (by decide +kernel) (da_cons (xv 5) da_nil))) da_nil))))))
      (ds_cons (sS 8 sc_law.nd (cc_make (T.gl 92 "Program" rfl) (T.cls 1 _ rfl).1 (T.cls 1 _ rfl).2 (cal_Program___init__ T) (hr.mono (by decide)) (fun σ => passAt (takes_of rfl rfl rfl rfl) σ) (da_cons (cc_make (T.gl 95 "Figures" rfl) (T.cls 4 _ rfl).1 (T.cls 4 _ rfl).2 (cal_Figures___init__ T) (hr.mono (by decide)) (fun σ => passAt (takes_of rfl rfl rfl rfl) σ) (da_cons (xv 2) da_nil)) (da_cons (xv 3) (da_cons (xv 4) (da_cons (dx_ty (c_tup rfl) k_tup (by rfl) (T.fr 14 "tuple" rfl) PyProof.Rows.boot_tuple (da_cons (xv 6) da_nil)) da_nil))))))
      (ds_cons (ds_if (dt_not (dt_tru rfl (cc_call (cal__law_matched T) (hr.mono (by decide)) (T.gl 73 "_law_matched" rfl) (fun σ => passAt (takes_of rfl rfl rfl rfl) σ) (dg_cons (cc_call (cal_alike_programs T) (hr.mono (by decide)) (T.gl 36 "alike_programs" rfl) (fun σ => passAt (takes_of rfl rfl rfl rfl) σ) (xG 7 (xG 8 dg_nil))) (dg_cons (cc_call (cal__law_matches T) (hr.mono (by decide)) (T.gl 72 "_law_matches" rfl) (fun σ => passAt (takes_of rfl rfl rfl rfl) σ) (xG 2 (xG 5 (xG 6 dg_nil)))) dg_nil))))) (ds_one (ds_ret dx_b)) ds_nil)
      (ds_cons (ds_if (dt_not (dt_tru rfl (cc_call (cal__law_matched T) (hr.mono (by decide)) (T.gl 73 "_law_matched" rfl) (fun σ => passAt (takes_of rfl rfl rfl rfl) σ) (dg_cons (cc_call (cal_alike_programs T) (hr.mono (by decide)) (T.gl 36 "alike_programs" rfl) (fun σ => passAt (takes_of rfl rfl rfl rfl) σ) (xG 8 (xG 7 dg_nil))) (dg_cons (cc_call (cal__law_matches T) (hr.mono (by decide)) (T.gl 72 "_law_matches" rfl) (fun σ => passAt (takes_of rfl rfl rfl rfl) σ) (xG 2 (xG 6 (xG 5 dg_nil)))) dg_nil))))) (ds_one (ds_ret dx_b)) ds_nil)
      (ds_cons (ds_if (PW.pt (dw_and (dt_cmp (c_neD hr.units rfl) d_ne (xv 3) (xv 4)) (dw_and1 (dt_cmp op_notN d_notN (cc_call (cal_alike_programs T) (hr.mono (by decide)) (T.gl 36 "alike_programs" rfl) (fun σ => passAt (takes_of rfl rfl rfl rfl) σ) (xG 7 (dg_cons (cc_make (T.gl 92 "Program" rfl) (T.cls 1 _ rfl).1 (T.cls 1 _ rfl).2 (cal_Program___init__ T) (hr.mono (by decide)) (fun σ => passAt (takes_of rfl rfl rfl rfl) σ) (da_cons (cc_make (T.gl 95 "Figures" rfl) (T.cls 4 _ rfl).1 (T.cls 4 _ rfl).2 (cal_Figures___init__ T) (hr.mono (by decide)) (fun σ => passAt (takes_of rfl rfl rfl rfl) σ) (da_cons (xv 2) da_nil)) (da_cons (xv 4) (da_cons (xv 3) (da_cons (dx_tup da_nil) da_nil))))) dg_nil))) dx_n)))) (ds_one (ds_ret dx_b)) ds_nil)
      (ds_cons (ds_if (dt_not (dt_tru rfl (cc_call (cal__law_all_couples T) (hr.mono (by decide)) (T.gl 78 "_law_all_couples" rfl) (fun σ => passAt (takes_of rfl rfl rfl rfl) σ) (xG 1 (xG 2 (xG 7 dg_nil)))))) (ds_one (ds_ret dx_b)) ds_nil)
      (ds_one (ds_ret (dx_and (cc_call (cal__law_exact T 6) (hr.mono (by decide)) (T.gl 62 "_law_exact" rfl) (fun σ => passAt (takes_of rfl rfl rfl rfl) σ) (dg_cons (xA 7) (xG 5 dg_nil))) (dx_one (cc_call (cal__law_exact T 6) (hr.mono (by decide)) (T.gl 62 "_law_exact" rfl) (fun σ => passAt (takes_of rfl rfl rfl rfl) σ) (dg_cons (xA 8) (xG 6 dg_nil)))))))))))))))))), law_read (c := ⟨K, mg, none⟩) (names := ["_law_script", "_law_hand_here", "_law_p", "_law_rows", "_law_columns", "_law_products_here", "_law_others_here", "_law_program", "_law_other"]) (W := fun cls dd _ H' => E cls dd H') rfl hu h⟩))
end
end N31
namespace Fw
open PySem PySem.Spec L2
theorem eC_a (d : D) (δ : DE) (h : D) : eC d δ h = (.ok d h) := (rfl)
theorem eOp_a (f : D → D → Option D) (fa fb : EF D) (δ : DE) (h : D) : eOp f fa fb δ h = ((fa δ h).bind fun x h1 => (fb δ h1).bind fun y h2 => Ex.of (f x y) h2) := (rfl)
theorem eUn_a (f : D → Option D) (fa : EF D) (δ : DE) (h : D) : eUn f fa δ h = ((fa δ h).bind fun x h1 => Ex.of (f x) h1) := (rfl)
theorem eT_a (f : EF D) (δ : DE) (h : D) : eT f δ h = ((f δ h).bind bD) := (rfl)
theorem eTru_a (f : EF D) (δ : DE) (h : D) : eTru f δ h = ((f δ h).bind fun d h1 => Ex.of (truD d) h1) := (rfl)
theorem eAnd_a (g1 g2 : EF Bool) (δ : DE) (h : D) : eAnd g1 g2 δ h = ((g1 δ h).bind fun b h1 => if b then g2 δ h1 else .ok false h1) := (rfl)
theorem eOr_a (g1 g2 : EF Bool) (δ : DE) (h : D) : eOr g1 g2 δ h = ((g1 δ h).bind fun b h1 => if b then .ok true h1 else g2 δ h1) := (rfl)
theorem eNot_a (g : EF Bool) (δ : DE) (h : D) : eNot g δ h = ((g δ h).bind fun b h1 => .ok (!b) h1) := (rfl)
theorem eB_a (g : EF Bool) (δ : DE) (h : D) : eB g δ h = ((g δ h).bind fun b h1 => .ok (.bl b) h1) := (rfl)
theorem eIf_a (g : EF Bool) (fa fb : EF D) (δ : DE) (h : D) : eIf g fa fb δ h = ((g δ h).bind fun b h1 => if b then fa δ h1 else fb δ h1) := (rfl)
theorem eCh_a (k1 k2 : D → D → Option D) (fa fb fc : EF D) (δ : DE) (h : D) : eCh k1 k2 fa fb fc δ h = ((fa δ h).bind fun x h1 => (fb δ h1).bind fun y h2 => (Ex.of (k1 x y) h2).bind fun z h3 => (bD z h3).bind fun b h4 => if b then (fc δ h4).bind fun w h5 => Ex.of (k2 y w) h5 else .ok (.bl false) h4) := (rfl)
theorem eNil_a (δ : DE) (h : D) : eNil δ h = (.ok [] h) := (rfl)
theorem eCons_a (f : EF D) (g : EF (List D)) (δ : DE) (h : D) : eCons f g δ h = ((f δ h).bind fun d h1 => (g δ h1).bind fun ds h2 => .ok (d :: ds) h2) := (rfl)
theorem eTup_a (fs : EF (List D)) (δ : DE) (h : D) : eTup fs δ h = ((fs δ h).bind fun ds h1 => Ex.of (if szOk ds.length then some (.tup ds) else none) h1) := (rfl)
theorem eLst_a (fs : EF (List D)) (δ : DE) (h : D) : eLst fs δ h = ((fs δ h).bind fun ds h1 => Ex.of (if szOk ds.length then some (.hl ds) else none) h1) := (rfl)
theorem eFz_a (f : EF D) (δ : DE) (h : D) : eFz f δ h = ((f δ h).bind fun d h1 => .ok (sfz d) h1) := (rfl)
theorem eM_a (i : Nat) (δ : DE) (h : D) : eM i δ h = (match δ[i]? with
 | some (some .me) => .ok () h
 | _ => .bad) := (rfl)
theorem eIxM_a (i : Nat) (fb : EF D) (δ : DE) (h : D) : eIxM i fb δ h = ((eM i δ h).bind fun _ h1 => (fb δ h1).bind fun y h2 => Ex.of (match y, h2 with
 | .int i, .hl ds => atI ds i
 | _, _ => none) h2) := (rfl)
theorem eNo_a (δ : DE) (h : D) : eNo δ h = (.ok none h) := (rfl)
theorem eSl_a (f : EF D) (lo hi : EF (Option Int)) (δ : DE) (h : D) : eSl f lo hi δ h = ((f δ h).bind fun d h1 => (lo δ h1).bind fun l h2 => (hi δ h2).bind fun u h3 => Ex.of (slD d l u) h3) := (rfl)
theorem eBi_a (k : List D → Option D) (fs : EF (List D)) (δ : DE) (h : D) : eBi k fs δ h = ((fs δ h).bind fun ds h1 => Ex.of (k ds) h1) := (rfl)
theorem eIs_a (n : String) (f : EF D) (δ : DE) (h : D) : eIs n f δ h = ((f δ h).bind fun d h1 => Ex.of ((isS n d).map .bl) h1) := (rfl)
theorem eIs2_a (n m : String) (f : EF D) (δ : DE) (h : D) : eIs2 n m f δ h = ((f δ h).bind fun d h1 => Ex.of (match isS n d, isS m d with
 | some k, some l => some (.bl (k || l))
 | _, _ => none) h1) := (rfl)
theorem iSeq_a (f : EF D) (δ : DE) (h : D) : iSeq f δ h = ((f δ h).bind fun d h1 => Ex.of (itS d) h1) := (rfl)
theorem iRg_a (k : List D → Option (List D)) (fs : EF (List D)) (δ : DE) (h : D) : iRg k fs δ h = ((fs δ h).bind fun ds h1 => Ex.of (k ds) h1) := (rfl)
theorem eLcL_a (vs : List Nat) (it : EF (List D)) (bind : D → DE → Option DE) (test : EF Bool) (elt : EF D) (δ : DE) (h : D) : eLcL vs it bind test elt δ h = ((it δ h).bind fun ds h1 => if szOk ds.length then lcGo bind test elt (wipeD δ vs) ds h1 else .bad) := (rfl)
theorem eLc_a (vs : List Nat) (it : EF (List D)) (bind : D → DE → Option DE) (test : EF Bool) (elt : EF D) (δ : DE) (h : D) : eLc vs it bind test elt δ h = ((eLcL vs it bind test elt δ h).bind fun ys h2 => .ok (.hl ys) h2) := (rfl)
theorem tYesD_a (δ : DE) (h : D) : tYesD δ h = (.ok true h) := (rfl)
theorem sNil_a (δ : DE) (h : D) : sNil δ h = (.nx δ h) := (rfl)
theorem sSeq_a (u v : SF) (δ : DE) (h : D) : sSeq u v δ h = ((u δ h).bind v) := (rfl)
theorem sSet_a (i : Nat) (f : EF D) (δ : DE) (h : D) : sSet i f δ h = ((f δ h).fl δ fun d h1 => .nx (δ.set i (some d)) h1) := (rfl)
theorem sFrz_a (i : Nat) (u : SF) (δ : DE) (h : D) : sFrz i u δ h = (u (frzS i δ) h) := (rfl)
theorem sRet_a (f : EF D) (δ : DE) (h : D) : sRet f δ h = ((f δ h).fl δ fun d h1 => .ret d h1) := (rfl)
theorem sRetV_a (i : Nat) (δ : DE) (h : D) : sRetV i δ h = (match δ[i]? with
 | some (some (.hl ds)) => .ret (.hl ds) h
 | _ => .bad) := (rfl)
theorem sRetN_a (δ : DE) (h : D) : sRetN δ h = (.ret .non h) := (rfl)
theorem sIf_a (g : EF Bool) (u v : SF) (δ : DE) (h : D) : sIf g u v δ h = ((g δ h).fl δ fun b h1 => if b then u δ h1 else v δ h1) := (rfl)
theorem sBrk_a (δ : DE) (h : D) : sBrk δ h = (.brk δ h) := (rfl)
theorem sCt_a (δ : DE) (h : D) : sCt δ h = (.ct δ h) := (rfl)
theorem sDrop_a (f : EF D) (δ : DE) (h : D) : sDrop f δ h = ((f δ h).fl δ fun _ h1 => .nx δ h1) := (rfl)
theorem sAug_a (i : Nat) (k : D → D → Option D) (f : EF D) (δ : DE) (h : D) : sAug i k f δ h = (match δ[i]? with
 | some (some x) => if x.fr then (f δ h).fl δ fun y h1 => match k x y with
  | some z => .nx (δ.set i (some z)) h1
  | none => .bad
  else .bad
 | _ => .bad) := (rfl)
theorem sAsg_a (bind : D → DE → Option DE) (f : EF D) (δ : DE) (h : D) : sAsg bind f δ h = ((f δ h).fl δ fun d h1 => match bind d δ with
 | some δ2 => .nx δ2 h1
 | none => .bad) := (rfl)
theorem sPar_a (i j : Nat) (fs : EF (List D)) (δ : DE) (h : D) : sPar i j fs δ h = ((fs δ h).fl δ fun ds h1 => match ds with
 | [x, y] => .nx ((δ.set i (some x)).set j (some y)) h1
 | _ => .bad) := (rfl)
theorem sPar3_a (i j l : Nat) (fs : EF (List D)) (δ : DE) (h : D) : sPar3 i j l fs δ h = ((fs δ h).fl δ fun ds h1 => match ds with
 | [x, y, z] => .nx (((δ.set i (some x)).set j (some y)).set l (some z)) h1
 | _ => .bad) := (rfl)
theorem sFor_a (it : EF (List D)) (bind : D → DE → Option DE) (body : SF) (δ : DE) (h : D) : sFor it bind body δ h = ((it δ h).fl δ fun ds h1 => forGo bind body ds δ h1) := (rfl)
theorem pV_a (i : Nat) (δ : DE) (h : D) : pV i δ h = (match δ[i]? with
 | some (some d) => if d.nm then .ok (i, []) h else .bad
 | _ => .bad) := (rfl)
theorem pIx_a (k : EF Pl) (f : EF D) (δ : DE) (h : D) : pIx k f δ h = ((k δ h).bind fun p h1 => (f δ h1).bind fun y h2 => Ex.of (match plD δ p, y with
 | some (.hl ds), .int i => (ixN ds.length i).map fun j => (p.1, p.2 ++ [j])
 | _, _ => none) h2) := (rfl)
theorem ePl_a (k : EF Pl) (δ : DE) (h : D) : ePl k δ h = ((k δ h).bind fun p h1 => Ex.of (match plD δ p with
 | some d => if d.fr then some d else none
 | none => none) h1) := (rfl)
theorem eLenP_a (k : EF Pl) (δ : DE) (h : D) : eLenP k δ h = ((k δ h).bind fun p h1 => Ex.of (match plD δ p with
 | some (.hl ds) => some (.int ds.length)
 | _ => none) h1) := (rfl)
theorem sApp_a (k : EF Pl) (f : EF D) (δ : DE) (h : D) : sApp k f δ h = ((k δ h).fl δ fun p h1 => match plD δ p with
 | some (.hl ds) => (f δ h1).fl δ fun y h2 => if szOk ds.length then .nx (plS δ p (.hl (ds ++ [y]))) h2 else .bad
 | _ => .bad) := (rfl)
theorem sSt_a (k : EF Pl) (fi f : EF D) (δ : DE) (h : D) : sSt k fi f δ h = ((f δ h).fl δ fun y h1 => (k δ h1).fl δ fun p h2 => (fi δ h2).fl δ fun z h3 => match plD δ p, z with
 | some (.hl ds), .int i => match ixN ds.length i with
  | some j => .nx (plS δ p (.hl (ds.set j y))) h3
  | none => .bad
 | _, _ => .bad) := (rfl)
theorem sStM_a (o : Nat) (fi f : EF D) (δ : DE) (h : D) : sStM o fi f δ h = ((f δ h).fl δ fun y h1 => (eM o δ h1).fl δ fun _ h2 => (fi δ h2).fl δ fun z h3 => match z, h3 with
 | .int i, .hl ds => match ixN ds.length i with
  | some j => .nx δ (.hl (ds.set j y))
  | none => .bad
 | _, _ => .bad) := (rfl)
theorem sAt_a (n : Str) (o : Nat) (m : Str) (f : EF D) (δ : DE) (h : D) : sAt n o m f δ h = ((f δ h).fl δ fun y h1 => (eM o δ h1).fl δ fun _ h2 => match h2 with
 | .ins n' fs => if n' = n then (if szOk fs.length then (if fs.length < 900 then .nx δ (.ins n' (putD m y fs)) else .bad) else .bad) else .bad
 | _ => .bad) := (rfl)
theorem eCall_a (n : Nat) (F : Fn) (dd : List D) (fs : EF (List D)) (δ : DE) (h : D) : eCall n F dd fs δ h = ((fs δ h).bind fun ds h1 => if (ds ++ dd).length = n then F (ds ++ dd) h1 else .bad) := (rfl)
theorem eMake_a (nm : Str) (n : Nat) (F : Fn) (dd : List D) (fs : EF (List D)) (δ : DE) (h : D) : eMake nm n F dd fs δ h = ((fs δ h).bind fun ds h1 => if (D.me :: (ds ++ dd)).length = n then
 match F (.me :: (ds ++ dd)) (.ins nm []) with
 | .ok .non (.ins n' xs) => if n' = nm then .ok (.ins n' xs) h1 else .bad
 | .exc n' xs _ => .exc n' xs h1
 | _ => .bad
 else .bad) := (rfl)
theorem eFw_a (f : EF D) (δ : DE) (h : D) : eFw f δ h = ((f δ h).bind fun d h1 => .ok (frz d) h1) := (rfl)
theorem sRaise_a (n : Str) (fl : List D → Option (List (Str × D))) (fs : EF (List D)) (δ : DE) (h : D) : sRaise n fl fs δ h = ((fs δ h).fl δ fun ds h1 => match fl ds with
 | some fx => .exc n fx δ h1
 | none => .bad) := (rfl)
theorem sRaise0_a (n : Str) (δ : DE) (h : D) : sRaise0 n δ h = (.exc n [] δ h) := (rfl)
theorem sTry_a (u : SF) (cs : List Cz) (δ : DE) (h : D) : sTry u cs δ h = (match u δ h with
 | .exc n fs δ' h' => hdGo cs n fs δ' h'
 | r => r) := (rfl)
theorem eXf_a (ns : List Str) (i : Nat) (f : Str) (δ : DE) (h : D) : eXf ns i f δ h = (Ex.of (match δ[i]? with
 | some (some (.ex n fs)) => if ns.contains n then fs.lookup f else none
 | _ => none) h) := (rfl)
theorem eXi_a (ms : Str → Option Bool) (i : Nat) (δ : DE) (h : D) : eXi ms i δ h = (Ex.of (match δ[i]? with
 | some (some (.ex n _)) => (ms n).map .bl
 | _ => none) h) := (rfl)
theorem eNeI_a (nm : Str) (F : Fn) (fa fb : EF D) (δ : DE) (h : D) : eNeI nm F fa fb δ h = ((fa δ h).bind fun x h1 => (fb δ h1).bind fun y h2 => match x, y with
 | .ins n1 f1, .ins n2 f2 => if n1 = nm ∧ n2 = nm then (F [.ins n1 f1, .ins n2 f2] h2).nox.bind fun z h3 => match z with
  | .bl r => .ok (.bl (!r)) h3
  | _ => .bad
  else .bad
 | _, _ => .bad) := (rfl)
theorem eInn_a (g : EF (List D)) (δ : DE) (h : D) : eInn g δ h = (if slF δ then g δ h else .bad) := (rfl)
theorem eIsC_a (ms : Str → Option Bool) (bf : Bool) (f : EF D) (δ : DE) (h : D) : eIsC ms bf f δ h = ((f δ h).bind fun d h1 => Ex.of (match d with
 | .ins n _ => (ms n).map .bl
 | d => match tyS d with
  | some _ => if bf then some (.bl false) else none
  | none => none) h1) := (rfl)
def lenID (nm : Str) (F : Fn) (d h : D) : Ex D := match d with
  | .ins n' fs => if n' = nm then (F [.ins n' fs] h).nox.bind fun y h2 => match y with
    | .int i => if 0 ≤ i ∧ i < 1000000 then .ok (.int i) h2 else .bad
    | _ => .bad
    else .bad
  | _ => .bad
theorem eLenI_a (nm : Str) (F : Fn) (f : EF D) (δ : DE) (h : D) : eLenI nm F f δ h = (f δ h).bind fun d h1 => lenID nm F d h1 := (rfl)
theorem lenI_ok {nm : Str} {F : Fn} {fs : List (Str × D)} {h : D} {n : Nat} (e : F [.ins nm fs] h = .ok (.int n) h) (hn : n ≤ 1000) : lenID nm F (.ins nm fs) h = .ok (.int n) h := by
  unfold lenID
  simp only [e, if_true, Ex.nox, Ex.bind]
  exact if_pos ⟨by omega, by omega⟩
def iowD (nm fld : Str) (d h : D) : Ex (List D) := Ex.of (match d with
  | .ins n' fs => if n' = nm then match fs.lookup fld with
    | some (.tup ds) => some ds
    | _ => none
    else none
  | _ => none) h
theorem iOwnI_a (nm fld : Str) (f : EF D) (δ : DE) (h : D) : iOwnI nm fld f δ h = (f δ h).bind fun d h1 => iowD nm fld d h1 := (rfl)
def atvD (o : Option (Option D)) (n : Str) (h : D) : Ex D := Ex.of (match o, h with
  | some (some (.ins _ fs)), _ => fs.lookup n
  | some (some .me), .ins _ fs => fs.lookup n
  | _, _ => none) h
theorem eAtV_a (i : Nat) (n : Str) (δ : DE) (h : D) : eAtV i n δ h = atvD δ[i]? n h := (rfl)
theorem atv_ins {m n : Str} {fs : List (Str × D)} {h : D} : atvD (some (some (.ins m fs))) n h = Ex.of (fs.lookup n) h := (rfl)
theorem atv_me {m n : Str} {fs : List (Str × D)} : atvD (some (some .me)) n (.ins m fs) = Ex.of (fs.lookup n) (.ins m fs) := (rfl)
def attD (d : D) (n : Str) (h : D) : Ex D := Ex.of (match d with
  | .ins _ fs => fs.lookup n
  | _ => none) h
theorem eAt_a (f : EF D) (n : Str) (δ : DE) (h : D) : eAt f n δ h = (f δ h).bind fun d h1 => attD d n h1 := (rfl)
theorem att_ins {m n : Str} {fs : List (Str × D)} {h : D} : attD (.ins m fs) n h = Ex.of (fs.lookup n) h := (rfl)
def vD (o : Option (Option D)) (h : D) : Ex D := match o with
  | some (some d) => if d.fr then .ok d h else .bad
  | _ => .bad
def vmD (o : Option (Option D)) (h : D) : Ex D := match o with
  | some (some .me) => .ok .me h
  | some (some d) => if d.fr then .ok d h else .bad
  | _ => .bad
theorem eV_a (i : Nat) (δ : DE) (h : D) : eV i δ h = vD δ[i]? h := (rfl)
theorem eVm_a (i : Nat) (δ : DE) (h : D) : eVm i δ h = vmD δ[i]? h := (rfl)
theorem vD_fr {d h : D} (e : d.fr = true) : vD (some (some d)) h = .ok d h := if_pos e
theorem vmD_fr {d h : D} (e : d.fr = true) : vmD (some (some d)) h = .ok d h := by
  cases d <;> first | rfl | cases e
theorem vmD_me {h : D} : vmD (some (some .me)) h = .ok .me h := (rfl)
theorem vD_non {h : D} : vD (some (some .non)) h = .ok .non h := (rfl)
theorem vmD_non {h : D} : vmD (some (some .non)) h = .ok .non h := (rfl)
theorem vD_bl {b : Bool} {h : D} : vD (some (some (.bl b))) h = .ok (.bl b) h := (rfl)
theorem vmD_bl {b : Bool} {h : D} : vmD (some (some (.bl b))) h = .ok (.bl b) h := (rfl)
theorem vD_int {i : Int} {h : D} : vD (some (some (.int i))) h = .ok (.int i) h := (rfl)
theorem vmD_int {i : Int} {h : D} : vmD (some (some (.int i))) h = .ok (.int i) h := (rfl)
theorem vD_str {x : Str} {h : D} : vD (some (some (.str x))) h = .ok (.str x) h := (rfl)
theorem vmD_str {x : Str} {h : D} : vmD (some (some (.str x))) h = .ok (.str x) h := (rfl)
theorem vD_tup {ds : List D} {h : D} : vD (some (some (.tup ds))) h = .ok (.tup ds) h := (rfl)
theorem vmD_tup {ds : List D} {h : D} : vmD (some (some (.tup ds))) h = .ok (.tup ds) h := (rfl)
theorem vD_lst {ds : List D} {h : D} : vD (some (some (.lst ds))) h = .ok (.lst ds) h := (rfl)
theorem vmD_lst {ds : List D} {h : D} : vmD (some (some (.lst ds))) h = .ok (.lst ds) h := (rfl)
theorem vD_ins {n : Str} {fs : List (Str × D)} {h : D} : vD (some (some (.ins n fs))) h = .ok (.ins n fs) h := (rfl)
theorem vmD_ins {n : Str} {fs : List (Str × D)} {h : D} : vmD (some (some (.ins n fs))) h = .ok (.ins n fs) h := (rfl)
theorem eOn_a (f : D → D → Option D) (fa fb : EF D) : eOn f fa fb = eOp f fa fb := (rfl)
end Fw
namespace Lw
open PySem PySem.Spec L2 Fw
def gen {α : Type} (n : Nat) (f : Nat → α) : List α := (List.range n).map f
theorem gen_len {α : Type} (n : Nat) (f : Nat → α) : (gen n f).length = n := by unfold gen; rw [List.length_map, List.length_range]
theorem gen_get {α : Type} {n i : Nat} {f : Nat → α} (h : i < n) : (gen n f)[i]? = some (f i) := by
  unfold gen
  rw [List.getElem?_map, List.getElem?_range h]
  rfl
theorem gen_get' {α : Type} {n i : Nat} {f : Nat → α} {x : α} (h : (gen n f)[i]? = some x) : i < n ∧ x = f i := by
  have l := (List.getElem?_eq_some_iff.mp h).1
  rw [gen_len] at l
  rw [gen_get l] at h
  exact ⟨l, (Option.some.inj h).symm⟩
theorem gen_ext {α : Type} {n : Nat} {f : Nat → α} {xs : List α} (hl : xs.length = n) (k : ∀ i, i < n → xs[i]? = some (f i)) : xs = gen n f := by
  refine List.ext_getElem? fun i => ?_
  by_cases h : i < n
  · rw [k i h, gen_get h]
  · rw [List.getElem?_eq_none (by omega), List.getElem?_eq_none (by rw [gen_len]; omega)]
theorem gen_congr {α : Type} {n : Nat} {f g : Nat → α} (k : ∀ i, i < n → f i = g i) : gen n f = gen n g := gen_ext (gen_len n f) fun i h => by rw [gen_get h, k i h]
theorem gen_mem {α : Type} {n : Nat} {f : Nat → α} {x : α} : x ∈ gen n f ↔ ∃ i, i < n ∧ x = f i := by
  unfold gen
  rw [List.mem_map]
  constructor
  · rintro ⟨i, h, e⟩
    exact ⟨i, List.mem_range.mp h, e.symm⟩
  · rintro ⟨i, h, e⟩
    exact ⟨i, List.mem_range.mpr h, e.symm⟩
theorem gen_zero {α : Type} {f : Nat → α} : gen 0 f = [] := rfl
theorem gen_succ {α : Type} {n : Nat} {f : Nat → α} : gen (n + 1) f = f 0 :: gen n fun i => f (i + 1) := by
  unfold gen
  rw [List.range_succ_eq_map, List.map_cons, List.map_map]
  rfl
theorem gen_last {α : Type} {n : Nat} {f : Nat → α} : gen (n + 1) f = gen n f ++ [f n] := by
  unfold gen
  rw [List.range_succ, List.map_append]
  rfl
theorem gen_rep {α : Type} {n : Nat} {z : α} : List.replicate n z = gen n fun _ => z := gen_ext (List.length_replicate) fun i h => by rw [List.getElem?_replicate, if_pos h]
theorem gen_set {α : Type} {n i : Nat} {f : Nat → α} {x : α} : (gen n f).set i x = gen n fun k => if k = i then x else f k := gen_ext (by rw [List.length_set, gen_len]) fun k h => by
  by_cases e : k = i
  · subst e
    rw [List.getElem?_set_self (by rw [gen_len]; exact h), if_pos rfl]
  · rw [List.getElem?_set_ne (fun z => e z.symm), gen_get h, if_neg e]
theorem gen_take {α : Type} {n k : Nat} {f : Nat → α} : (gen n f).take k = gen (min k n) f := gen_ext (by rw [List.length_take, gen_len]) fun i h => by
  rw [List.getElem?_take, if_pos (by omega), gen_get (by omega)]
theorem gen_drop {α : Type} {n k : Nat} {f : Nat → α} : (gen n f).drop k = gen (n - k) fun i => f (k + i) := gen_ext (by rw [List.length_drop, gen_len]) fun i h => by
  rw [List.getElem?_drop, gen_get (by omega)]
theorem rgD_gen {lo : Int} {n : Nat} : rgD lo n = gen n fun i => .int (lo + (i : Int)) := rfl
def mapF (f : Nat → D → Ex D) : Nat → Nat → D → Ex (List D)
  | _, 0, h => .ok [] h
  | s, n + 1, h => (f s h).nox.bind fun y h1 => (mapF f (s + 1) n h1).bind fun ys h2 => .ok (y :: ys) h2
def mapN (n : Nat) (f : Nat → D → Ex D) (h : D) : Ex (List D) := mapF f 0 n h
theorem mapF_congr {f g : Nat → D → Ex D} : ∀ (n s : Nat) (h : D), (∀ i, i < s + n → ∀ h, f i h = g i h) → mapF f s n h = mapF g s n h
  | 0, _, _, _ => rfl
  | n + 1, s, h, k => by
    unfold mapF
    rw [k s (by omega) h]
    congr 1
    funext y h1
    rw [mapF_congr n (s + 1) h1 fun i hi => k i (by omega)]
theorem mapN_congr {n m : Nat} {f g : Nat → D → Ex D} {h h' : D} (e : n = m) (k : ∀ i, i < m → ∀ h, f i h = g i h) (eh : h = h') : mapN n f h = mapN m g h' := by
  subst e eh
  exact mapF_congr n 0 h fun i hi => k i (by omega)
theorem mapF_ok {g : Nat → D} : ∀ (n s : Nat) (h : D), mapF (fun i h => .ok (g i) h) s n h = .ok (gen n fun i => g (s + i)) h
  | 0, _, _ => rfl
  | n + 1, s, h => by
    unfold mapF
    have ih := mapF_ok (g := g) n (s + 1) h
    show (mapF (fun i h => .ok (g i) h) (s + 1) n h).bind _ = _
    rw [ih, gen_succ]
    show Ex.ok _ h = _
    congr 1
    rw [Nat.add_zero]
    congr 1
    exact gen_congr fun i _ => by rw [show s + 1 + i = s + (i + 1) by omega]
theorem mapN_ok {g : Nat → D} {n : Nat} {h : D} : mapN n (fun i h => if i < n then .ok (g i) h else .bad) h = .ok (gen n g) h := by
  have e : mapN n (fun i h => if i < n then .ok (g i) h else .bad) h = mapN n (fun i h => .ok (g i) h) h := mapN_congr rfl (fun i hi h => if_pos hi) rfl
  rw [e]
  unfold mapN
  rw [mapF_ok]
  congr 1
  exact gen_congr fun i _ => by rw [Nat.zero_add]
def bindE (o : Option DE) (elt : EF D) (h : D) : Ex D := match o with
  | some δ => elt δ h
  | none => .bad
theorem bindE_some {δ : DE} {elt : EF D} {h : D} : bindE (some δ) elt h = elt δ h := (rfl)
theorem lc_genF {bind : D → DE → Option DE} {elt : EF D} {δ : DE} {d : Nat → D} : ∀ (n s : Nat) (h : D), lcGo bind tYesD elt δ (gen n fun i => d (s + i)) h = mapF (fun i h => bindE (bind (d i) δ) elt h) s n h
  | 0, _, _ => rfl
  | n + 1, s, h => by
    rw [gen_succ]
    unfold lcGo mapF
    have e : (gen n fun i => d (s + (i + 1))) = gen n fun i => d (s + 1 + i) := gen_congr fun i _ => by rw [show s + (i + 1) = s + 1 + i by omega]
    rw [e, Nat.add_zero]
    cases q : bind (d s) δ with
    | none => rfl
    | some δ2 =>
      show (Ex.ok true h).nox.bind _ = _
      show ((elt δ2 h).nox.bind _) = ((bindE (some δ2) elt h).nox.bind _)
      rw [bindE_some]
      congr 1
      funext y h1
      rw [lc_genF n (s + 1) h1]
theorem lc_gen {bind : D → DE → Option DE} {elt : EF D} {δ : DE} {d : Nat → D} {n : Nat} {h : D} : lcGo bind tYesD elt δ (gen n d) h = mapN n (fun i h => if i < n then bindE (bind (d i) δ) elt h else .bad) h := by
  have := lc_genF (bind := bind) (elt := elt) (δ := δ) (d := d) n 0 h
  have e : mapN n (fun i h => if i < n then bindE (bind (d i) δ) elt h else .bad) h = mapN n (fun i h => bindE (bind (d i) δ) elt h) h := mapN_congr rfl (fun i hi h => if_pos hi) rfl
  rw [e]
  unfold mapN
  rw [← this]
  congr 1
  exact gen_congr fun i _ => by rw [Nat.zero_add]
end Lw
set_option exponentiation.threshold 20000
namespace Lw
open PySem PySem.Spec L2 Fw
theorem sWh_a (n : Nat) (g : EF Bool) (body : SF) : sWh n g body = whGo g body n := (rfl)
theorem eRg1_a (mk : List D → D) (f : EF D) (δ : DE) (h : D) : eRg1 mk f δ h = ((f δ h).bind fun y h1 => Ex.of (match y with
  | .int j => if rgB 0 j then some (mk (rgD 0 j.toNat)) else none
  | _ => none) h1) := (rfl)
theorem eLend_a (is : List Nat) (f : EF D) (δ : DE) (h : D) : eLend is f δ h = match f (lendS is δ) .non with
  | .ok d _ => if flatD d then .ok d h else .bad
  | _ => .bad := (rfl)
theorem sSwap_a (k1 : EF Pl) (f1 : EF D) (k2 : EF Pl) (f2 : EF D) (fs : EF (List D)) (δ : DE) (h : D) : sSwap k1 f1 k2 f2 fs δ h = ((fs δ h).fl δ fun ds h1 => match ds with
  | [x, y] => (stGo k1 f1 x δ h1).bind (stGo k2 f2 y)
  | _ => .bad) := (rfl)
theorem stGo_a (k : EF Pl) (fi : EF D) (y : D) (δ : DE) (h : D) : stGo k fi y δ h = ((k δ h).fl δ fun p h2 => (fi δ h2).fl δ fun z h3 => match plD δ p, z with
  | some (.hl ds), .int i => match ixN ds.length i with
    | some j => .nx (plS δ p (.hl (ds.set j y))) h3
    | none => .bad
  | _, _ => .bad) := (rfl)
theorem bind_okE {α β : Type} (a : α) (h : D) (k : α → D → Ex β) : (Ex.ok a h).bind k = k a h := (rfl)
theorem fl_okE {α : Type} (a : α) (h : D) (δ : DE) (k : α → D → Fl) : (Ex.ok a h).fl δ k = k a h := (rfl)
theorem fl_excE {α : Type} (n : Str) (fs : List (Str × D)) (h : D) (δ : DE) (k : α → D → Fl) : (Ex.exc n fs h : Ex α).fl δ k = .exc n fs δ h := (rfl)
theorem bind_excE {α β : Type} (n : Str) (fs : List (Str × D)) (h : D) (k : α → D → Ex β) : (Ex.exc n fs h : Ex α).bind k = .exc n fs h := (rfl)
theorem seq_nx (δ : DE) (h : D) (k : SF) : (Fl.nx δ h).bind k = k δ h := (rfl)
theorem seq_ret (d h : D) (k : SF) : (Fl.ret d h).bind k = .ret d h := (rfl)
theorem seq_exc (n : Str) (fs : List (Str × D)) (δ : DE) (h : D) (k : SF) : (Fl.exc n fs δ h).bind k = .exc n fs δ h := (rfl)
theorem of_someE {α : Type} (a : α) (h : D) : Ex.of (some a) h = .ok a h := (rfl)
theorem nox_okE {α : Type} (a : α) (h : D) : (Ex.ok a h).nox = .ok a h := (rfl)
theorem eq_int (i j : Int) : eqD (.int i) (.int j) = some (decide (i = j)) := by
  unfold eqD toPy
  rfl
theorem oAdd_i (i j : Int) : oAdd (.int i) (.int j) = (some (.int (i + j)) : Option D) := (rfl)
theorem oSub_i (i j : Int) : oSub (.int i) (.int j) = (some (.int (i - j)) : Option D) := (rfl)
theorem oMul_i (i j : Int) : oMul (.int i) (.int j) = (if cMul i j then some (.int (i * j)) else none : Option D) := (rfl)
theorem oDiv_i (i j : Int) : oDiv (.int i) (.int j) = (if cDiv i j then some (.int (i.fdiv j)) else none : Option D) := (rfl)
theorem oMod_i (i j : Int) : oMod (.int i) (.int j) = (if cMod i j then some (.int (i.fmod j)) else none : Option D) := (rfl)
theorem oPow_i (i j : Int) : oPow (.int i) (.int j) = (if cPow i j then some (.int (i ^ j.toNat)) else none : Option D) := (rfl)
theorem oLt_i (i j : Int) : oLt (.int i) (.int j) = (some (.bl (decide (i < j))) : Option D) := (rfl)
theorem oLe_i (i j : Int) : oLe (.int i) (.int j) = (some (.bl (decide (i ≤ j))) : Option D) := (rfl)
theorem oGt_i (i j : Int) : oGt (.int i) (.int j) = (some (.bl (decide (j < i))) : Option D) := (rfl)
theorem oGe_i (i j : Int) : oGe (.int i) (.int j) = (some (.bl (decide (j ≤ i))) : Option D) := (rfl)
theorem oEq_a (x y : D) : oEq x y = (eqD x y).map .bl := (rfl)
theorem oNe_a (x y : D) : oNe x y = (eqD x y).map fun b => .bl (!b) := (rfl)
theorem oInP_a (x y : D) : oInP x y = (inP x y).map .bl := (rfl)
theorem oNinP_a (x y : D) : oNinP x y = (inP x y).map fun b => .bl (!b) := (rfl)
theorem oNeg_i (i : Int) : oNeg (.int i) = some (.int (-i)) := (rfl)
theorem oIsB_i (a b : Bool) : oIsB (.bl a) (.bl b) = some (.bl (decide (a = b))) := (rfl)
theorem bNm_a (i : Nat) (d : D) (δ : DE) : bNm i d δ = some (δ.set i (some d)) := (rfl)
theorem bTp_a (bs : List (D → DE → Option DE)) (ds : List D) (δ : DE) : bTp bs (.tup ds) δ = bAll bs ds δ := (rfl)
theorem kLen_t (ds : List D) : kLen [.tup ds] = some (.int ds.length) := (rfl)
theorem kLen_l (ds : List D) : kLen [.lst ds] = some (.int ds.length) := (rfl)
theorem kGcd_i (i j : Int) : Fw.kGcd [.int i, .int j] = some (.int ((Nat.gcd i.natAbs j.natAbs : Nat) : Int)) := (rfl)
theorem oIx_t (ds : List D) (i : Int) : oIx (.tup ds) (.int i) = atI ds i := (rfl)
theorem oIx_l (ds : List D) (i : Int) : oIx (.lst ds) (.int i) = atI ds i := (rfl)
theorem kTup_t (ds : List D) : Fw.kTup [.tup ds] = some (.tup ds) := (rfl)
theorem kTup_l (ds : List D) : Fw.kTup [.lst ds] = some (.tup ds) := (rfl)
theorem kList_t (ds : List D) : Fw.kList [.tup ds] = some (.hl ds) := (rfl)
theorem kList_l (ds : List D) : Fw.kList [.lst ds] = some (.hl ds) := (rfl)
theorem kInt_i (i : Int) : Fw.kInt [.int i] = some (.int i) := (rfl)
theorem kInt_b (b : Bool) : Fw.kInt [.bl b] = some (.int (if b then 1 else 0)) := by cases b <;> rfl
theorem lk_hit {α : Type} (n : Str) (v : α) (l : List (Str × α)) : List.lookup n ((n, v) :: l) = some v := by
  rw [List.lookup_cons, beq_self_eq_true]
theorem itS_t (ds : List D) : itS (.tup ds) = some ds := (rfl)
theorem itS_l (ds : List D) : itS (.lst ds) = some ds := (rfl)
theorem nc0 : ((0 : Nat) : Int) = 0 := (rfl)
theorem nc1 : ((1 : Nat) : Int) = 1 := (rfl)
theorem tn0 : (0 : Int).toNat = 0 := (rfl)
theorem tn1 : (1 : Int).toNat = 1 := (rfl)
theorem sz_ok {n : Nat} (h : n ≤ 1000000) : szOk n = true := decide_eq_true h
theorem rgB_ok {a b : Int} (h1 : -1000000 ≤ a) (h2 : a ≤ 1000000) (h3 : -1000000 ≤ b) (h4 : b ≤ 1000000) : rgB a b = true := by
  unfold rgB
  rw [rgOk_of h1 h2, rgOk_of h3 h4]
  rfl
theorem rg1_ok {i : Int} (h1 : -1000000 ≤ i) (h2 : i ≤ 1000000) : rg1 [.int i] = some (gen i.toNat fun k => .int (k : Int)) := by
  show (if rgOk i = true then some (rgD 0 i.toNat) else none) = _
  rw [if_pos (rgOk_of h1 h2), rgD_gen]
  congr 1
  exact gen_congr fun k _ => by rw [Int.zero_add]
theorem rg2_ok {i j : Int} (h1 : -1000000 ≤ i) (h2 : i ≤ 1000000) (h3 : -1000000 ≤ j) (h4 : j ≤ 1000000) : rg2 [.int i, .int j] = some (gen (j - i).toNat fun k => .int (i + (k : Int))) := by
  show (if (rgOk i && rgOk j) = true then some (rgD i (j - i).toNat) else none) = _
  have : (rgOk i && rgOk j) = true := by
    rw [rgOk_of h1 h2, rgOk_of h3 h4]
    rfl
  rw [if_pos this, rgD_gen]
theorem rgD0 {n : Nat} : rgD 0 n = gen n fun k => .int (k : Int) := gen_congr fun k _ => by rw [Int.zero_add]
theorem atI_gen {n : Nat} {f : Nat → D} {i : Int} (h0 : 0 ≤ i) (h1 : i < n) : atI (gen n f) i = some (f i.toNat) := by
  unfold atI ixN
  rw [gen_len, if_pos h0, if_pos h1, Option.bind_some, gen_get (by omega)]
theorem at0 {α : Type} {a : α} {l : List α} : atI (a :: l) 0 = some a := by
  unfold atI ixN
  rw [if_pos (by omega), if_pos (by rw [List.length_cons]; omega)]
  rfl
theorem at1 {α : Type} {a b : α} {l : List α} : atI (a :: b :: l) 1 = some b := by
  unfold atI ixN
  rw [if_pos (by omega), if_pos (by rw [List.length_cons, List.length_cons]; omega)]
  rfl
theorem at2 {α : Type} {a b c : α} {l : List α} : atI (a :: b :: c :: l) 2 = some c := by
  unfold atI ixN
  rw [if_pos (by omega), if_pos (by rw [List.length_cons, List.length_cons, List.length_cons]; omega)]
  rfl
theorem at3 {α : Type} {a b c d : α} {l : List α} : atI (a :: b :: c :: d :: l) 3 = some d := by
  unfold atI ixN
  rw [if_pos (by omega), if_pos (by rw [List.length_cons, List.length_cons, List.length_cons, List.length_cons]; omega)]
  rfl
theorem ixN_ok {n : Nat} {i : Int} (h0 : 0 ≤ i) (h1 : i < n) : ixN n i = some i.toNat := by
  unfold ixN
  rw [if_pos h0, if_pos h1]
theorem mul_sm {i j : Int} (h1 : -18446744073709551616 < i) (h2 : i < 18446744073709551616) (h3 : -18446744073709551616 < j) (h4 : j < 18446744073709551616) : cMul i j = true := by
  have lg : ∀ k : Int, -18446744073709551616 < k → k < 18446744073709551616 → k.natAbs.log2 ≤ 64 := fun k a b => by
    by_cases h0 : k.natAbs = 0
    · rw [h0]; exact Nat.zero_le _
    · have := (Nat.log2_lt (n := k.natAbs) (k := 64) h0).mpr (by omega)
      omega
  have := lg i h1 h2
  have := lg j h3 h4
  exact decide_eq_true (by omega)
theorem div_sm {i j : Int} (h0 : j ≠ 0) (h3 : -18446744073709551616 < j) (h4 : j < 18446744073709551616) : cDiv i j = true := by
  have : j.natAbs.log2 < 64 := (Nat.log2_lt (n := j.natAbs) (k := 64) (by omega)).mpr (by omega)
  unfold cDiv
  rw [decide_eq_true h0, decide_eq_true (by omega : j.natAbs.log2 < 9000)]
  rfl
theorem mod_ok {i j : Int} (h0 : j ≠ 0) : cMod i j = true := decide_eq_true h0
theorem flat_rep {α : Type} (n : Nat) (z : α) : (List.replicate n [z]).flatten = List.replicate n z := by
  induction n with
  | zero => rfl
  | succ m ih => rw [List.replicate_succ, List.flatten_cons, ih, List.replicate_succ]; rfl
theorem times_t {z : D} {n : Int} (h0 : 0 ≤ n) (h : n ≤ 1000) : oTimes (.tup [z]) (.int n) = some (.tup (gen n.toNat fun _ => z)) := by
  show (if (cRep n 1 && !([z] : List D).isEmpty) = true then some (D.tup (List.replicate n.toNat [z]).flatten) else none) = _
  have : cRep n 1 = true := by unfold cRep; rw [decide_eq_true h0, decide_eq_true h]; rfl
  rw [this, flat_rep, gen_rep]
  rfl
theorem times_l {z : D} {n : Int} (h0 : -1000 ≤ n) (h : n ≤ 1000) : oTimes (.lst [z]) (.int n) = some (.hl (gen n.toNat fun _ => z)) := by
  show (if cRepL n 1 = true then some (D.hl (List.replicate n.toNat [z]).flatten) else none) = _
  have : cRepL n 1 = true := by unfold cRepL; rw [decide_eq_true h0, decide_eq_true h]; rfl
  rw [this, flat_rep, gen_rep]
  rfl
theorem plus_t {ds es : List D} (h : ds.length + es.length ≤ 1000000) : oPlus (.tup ds) (.tup es) = some (.tup (ds ++ es)) := by
  show (if szOk (ds.length + es.length) = true then some (D.tup (ds ++ es)) else none) = _
  rw [sz_ok h]
  rfl
theorem plus_l {ds es : List D} (h : ds.length + es.length ≤ 1000000) : oPlus (.lst ds) (.lst es) = some (.hl (ds ++ es)) := by
  show (if szOk (ds.length + es.length) = true then some (D.hl (ds ++ es)) else none) = _
  rw [sz_ok h]
  rfl
theorem slD_t {ds : List D} {l u : Option Int} : slD (.tup ds) l u = some (.tup (cutD ds l u)) := (rfl)
theorem slD_l {ds : List D} {l u : Option Int} : slD (.lst ds) l u = some (.hl (cutD ds l u)) := (rfl)
theorem cut_lo {n : Nat} {f : Nat → D} {i : Int} (h0 : 0 ≤ i) : cutD (gen n f) (some i) none = gen (n - i.toNat) fun k => f (i.toNat + k) := by
  unfold cutD
  have e : HT.sIx (gen n f).length 0 (some i) = min i.toNat n := by
    show (if i < 0 then (i + ((gen n f).length : Int)).toNat else min i.toNat (gen n f).length) = _
    rw [if_neg (by omega), gen_len]
  rw [e, show HT.sIx (gen n f).length (gen n f).length none = (gen n f).length from rfl, gen_len, gen_drop, gen_take]
  refine gen_ext (by rw [gen_len]; omega) fun k hk => ?_
  rw [gen_get (by omega)]
  congr 2
  omega
theorem cut_hi {n : Nat} {f : Nat → D} {i : Int} (h0 : 0 ≤ i) : cutD (gen n f) none (some i) = gen (min i.toNat n) f := by
  unfold cutD
  have e : HT.sIx (gen n f).length (gen n f).length (some i) = min i.toNat n := by
    show (if i < 0 then (i + ((gen n f).length : Int)).toNat else min i.toNat (gen n f).length) = _
    rw [if_neg (by omega), gen_len]
  rw [e, show HT.sIx (gen n f).length 0 none = 0 from rfl, List.drop_zero, gen_take]
  refine gen_ext (by rw [gen_len]; omega) fun k hk => gen_get (by omega)
theorem eOpt_a (f : EF D) (δ : DE) (h : D) : eOpt f δ h = ((f δ h).bind fun d h1 => match d with
  | .int i => .ok (some i) h1
  | _ => .bad) := (rfl)
theorem enD_gen : ∀ (n k : Nat) (f : Nat → D), enD k (gen n f) = gen n fun i => .tup [.int ((k + i : Nat) : Int), f i]
  | 0, _, _ => rfl
  | n + 1, k, f => by
    rw [gen_succ, gen_succ]
    unfold enD
    rw [enD_gen n (k + 1), Nat.add_zero]
    congr 1
    exact gen_congr fun i _ => by rw [show k + 1 + i = k + (i + 1) by omega]
theorem en_t {n : Nat} {f : Nat → D} : kEnum [.tup (gen n f)] = some (gen n fun i => .tup [.int (i : Int), f i]) := by
  show some (enD 0 (gen n f)) = _
  rw [enD_gen]
  congr 1
  exact gen_congr fun i _ => by rw [Nat.zero_add]
theorem en_l {n : Nat} {f : Nat → D} : kEnum [.lst (gen n f)] = some (gen n fun i => .tup [.int (i : Int), f i]) := by
  show some (enD 0 (gen n f)) = _
  rw [enD_gen]
  congr 1
  exact gen_congr fun i _ => by rw [Nat.zero_add]
theorem zipD_gen : ∀ (n m : Nat) (f g : Nat → D), zipD (gen n f) (gen m g) = gen (min n m) fun i => .tup [f i, g i]
  | 0, _, _, _ => by rw [Nat.zero_min]; rfl
  | n + 1, 0, f, g => by rw [Nat.min_zero, gen_succ]; rfl
  | n + 1, m + 1, f, g => by
    rw [gen_succ, gen_succ]
    unfold zipD
    rw [zipD_gen n m, show min (n + 1) (m + 1) = min n m + 1 by omega, gen_succ]
theorem zip_t {n m : Nat} {f g : Nat → D} : kZip [.tup (gen n f), .tup (gen m g)] = some (gen (min n m) fun i => .tup [f i, g i]) := congrArg some (zipD_gen n m f g)
theorem zip_l {n m : Nat} {f g : Nat → D} : kZip [.lst (gen n f), .lst (gen m g)] = some (gen (min n m) fun i => .tup [f i, g i]) := congrArg some (zipD_gen n m f g)
def sumZ : Nat → (Nat → Int) → Int
  | 0, _ => 0
  | n + 1, f => sumZ n f + f n
theorem intL_gen : ∀ (n : Nat) (f : Nat → Int), intL (gen n fun i => .int (f i)) = some (gen n f)
  | 0, _ => rfl
  | n + 1, f => by
    rw [gen_succ, gen_succ]
    show (intL (gen n fun i => .int (f (i + 1)))).map (f 0 :: ·) = _
    rw [intL_gen n fun i => f (i + 1)]
    rfl
theorem sum_gen : ∀ (n : Nat) (f : Nat → Int), (gen n f).sum = sumZ n f
  | 0, _ => rfl
  | n + 1, f => by rw [gen_last, List.sum_append, sum_gen n f]; show sumZ n f + (f n + 0) = _; rw [Int.add_zero]; rfl
theorem kSum_gen {n : Nat} {f : Nat → Int} : kSum [.lst (gen n fun i => .int (f i))] = some (.int (sumZ n f)) := by
  show (intL (gen n fun i => .int (f i))).map (fun ns => D.int ns.sum) = _
  rw [intL_gen, Option.map_some, sum_gen]
theorem bls_gen : ∀ (n : Nat) (f : Nat → Bool), bls (gen n fun i => .bl (f i)) = some (gen n f)
  | 0, _ => rfl
  | n + 1, f => by
    rw [gen_succ, gen_succ]
    show (bls (gen n fun i => .bl (f (i + 1)))).map (f 0 :: ·) = _
    rw [bls_gen n fun i => f (i + 1)]
    rfl
theorem kAll_gen {n : Nat} {f : Nat → Bool} : kAll [.lst (gen n fun i => .bl (f i))] = some (.bl ((gen n f).all id)) := by
  show (bls (gen n fun i => .bl (f i))).map (fun ns => D.bl (ns.all id)) = _
  rw [bls_gen]
  rfl
theorem all_gen {n : Nat} {f : Nat → Bool} : (gen n f).all id = decide (∀ i, i < n → f i = true) := by
  rw [eq_comm]
  by_cases k : ∀ i, i < n → f i = true
  · rw [decide_eq_true k, eq_comm, List.all_eq_true]
    intro b hb
    obtain ⟨i, hi, rfl⟩ := gen_mem.mp hb
    exact k i hi
  · rw [decide_eq_false k, eq_comm, Bool.eq_false_iff]
    intro z
    refine k fun i hi => ?_
    exact List.all_eq_true.mp z (f i) (gen_mem.mpr ⟨i, hi, rfl⟩)
theorem all_true {n : Nat} {f : Nat → Bool} (k : ∀ i, i < n → f i = true) : (gen n f).all id = true := by rw [all_gen]; exact decide_eq_true k
end Lw
local macro_rules | `(tactic| push_cast [$xs,*]) => `(tactic| simp (disch := first | omega | assumption | (simp only [Lw.gen_len, List.length_cons, List.length_nil, List.length_append]; omega)) only [Fw.eV_a, Fw.eC_a, Fw.eOp_a, Fw.eUn_a, Fw.eT_a, Fw.eTru_a, Fw.eAnd_a, Fw.eOr_a, Fw.eNot_a, Fw.eB_a, Fw.eIf_a, Fw.eCh_a, Fw.eNil_a, Fw.eCons_a, Fw.eTup_a, Fw.eLst_a, Fw.eFz_a, Fw.eM_a, Fw.eIxM_a, Fw.eNo_a, Fw.eSl_a, Fw.eAt_a, Fw.eAtV_a, Fw.eBi_a, Fw.eIs_a, Fw.eIs2_a, Fw.iSeq_a, Fw.iRg_a, Fw.eLcL_a, Fw.eLc_a, Fw.tYesD_a, Fw.sNil_a, Fw.sSeq_a, Fw.sSet_a, Fw.sFrz_a, Fw.sRet_a, Fw.sRetV_a, Fw.sRetN_a, Fw.sIf_a, Fw.sBrk_a, Fw.sCt_a, Fw.sDrop_a, Fw.sAug_a, Fw.sAsg_a, Fw.sPar_a, Fw.sPar3_a, Fw.sFor_a, Fw.pV_a, Fw.pIx_a, Fw.ePl_a, Fw.eLenP_a, Fw.sApp_a, Fw.sSt_a, Fw.sStM_a, Fw.sAt_a, Fw.eVm_a, Fw.eCall_a, Fw.eMake_a, Fw.eFw_a, Fw.sRaise_a, Fw.sRaise0_a, Fw.sTry_a, Fw.eXf_a, Fw.eXi_a, Fw.eLenI_a, Fw.iOwnI_a, Fw.eNeI_a, Fw.eInn_a, Fw.eIsC_a, Fw.eOn_a, Fw.runF, Lw.sWh_a, Lw.eRg1_a, Lw.eLend_a, Lw.sSwap_a, Lw.stGo_a, Lw.eOpt_a, Lw.bind_okE, Lw.fl_okE, Lw.fl_excE, Lw.bind_excE, Lw.seq_nx, Lw.seq_ret, Lw.seq_exc, Lw.of_someE, Lw.nox_okE, Fw.bD, Fw.truD, Lw.oAdd_i, Lw.oSub_i, Lw.oMul_i, Lw.oDiv_i, Lw.oMod_i, Lw.oPow_i, Lw.oLt_i, Lw.oLe_i, Lw.oGt_i, Lw.oGe_i, Lw.oEq_a, Lw.oNe_a, Lw.oInP_a, Lw.oNinP_a, Fw.oIsN, Fw.oNotN, Lw.oIsB_i, Lw.oNeg_i, Lw.eq_int, Fw.vmD_me, Fw.atv_ins, Fw.atv_me, Fw.att_ins, Fw.vD_non, Fw.vmD_non, Fw.vD_bl, Fw.vmD_bl, Fw.vD_int, Fw.vmD_int, Fw.vD_str, Fw.vmD_str, Fw.vD_tup, Fw.vmD_tup, Fw.vD_lst, Fw.vmD_lst, Fw.vD_ins, Fw.vmD_ins, Lw.bNm_a, Lw.bTp_a, Fw.bAll, Lw.itS_t, Lw.itS_l, Fw.frzS, Fw.sfz, Fw.tyS, Fw.isS, Fw.wipeD, List.map, List.append, List.length_cons, List.length_nil, List.replicate, List.getElem?_cons_zero, List.getElem?_cons_succ, List.set_cons_zero, List.set_cons_succ, List.cons_append, List.nil_append, List.append_nil, Nat.reduceSub, Nat.reduceAdd, Option.map_some, if_true, if_false, Bool.not_true, Bool.not_false, Bool.false_eq_true, ite_true, ite_false, reduceIte, decide_true, decide_false, eq_self, Lw.nc0, Lw.nc1, Int.cast_ofNat_Int, Lw.tn0, Lw.tn1, Int.toNat_natCast, Int.reduceToNat, Lw.oIx_t, Lw.oIx_l, Lw.kLen_t, Lw.kLen_l, Lw.kGcd_i, Lw.kTup_t, Lw.kTup_l, Lw.kList_t, Lw.kList_l, Lw.kInt_i, Lw.kInt_b, Lw.lk_hit, Lw.sz_ok, Lw.rgB_ok, Lw.rg1_ok, Lw.rg2_ok, Lw.rgD0, Lw.atI_gen, Lw.at0, Lw.at1, Lw.at2, Lw.at3, Lw.ixN_ok, Lw.mul_sm, Lw.div_sm, Lw.mod_ok, Lw.times_t, Lw.times_l, Lw.plus_t, Lw.plus_l, Lw.slD_t, Lw.slD_l, Lw.cut_lo, Lw.cut_hi, Lw.en_t, Lw.en_l, Lw.zip_t, Lw.zip_l, Lw.kSum_gen, Lw.kAll_gen, Lw.gen_len, Lw.lc_gen, Lw.bindE_some, Lw.mapN_ok, if_pos, if_neg, decide_eq_true_eq, decide_eq_true, decide_eq_false, Bool.not_eq_true', decide_eq_false_iff_not, Int.zero_add, Int.add_zero, Int.sub_zero, Nat.min_self, Bool.and_true, Bool.true_and, Bool.or_false, Bool.false_or, Bool.or_true, Bool.true_or, Bool.and_false, Bool.false_and, Fw.plD, Fw.getP, Fw.plS, Fw.setP, Fw.D.nm, true_or, or_true, false_or, or_false, true_and, and_true, false_and, and_false, not_true_eq_false, not_false_eq_true, $xs,*])
namespace Lw
open PySem PySem.Spec L2 Fw
end Lw
set_option exponentiation.threshold 20000
namespace Lw
open PySem PySem.Spec L2 Fw
class Fd (K : Type) extends Lean.Grind.CommRing K where
  inv : K → K
  mul_inv : ∀ a : K, a ≠ 0 → a * inv a = 1
  inv_zero : inv 0 = 0
  z_ne : (0 : K) ≠ 1
  dec : DecidableEq K
instance {K : Type} [f : Fd K] : DecidableEq K := f.dec
inductive Fg where
  | q
  | m (n : Nat) (h : n = 0 ∨ n = 1 ∨ n = 3 ∨ n = 5 ∨ n = 9 ∨ n = 11)
def Fg.p : Fg → Int
  | .q => 0
  | .m n _ => ((n + 2 : Nat) : Int)
@[reducible] def Fg.K : Fg → Type
  | .q => Rat
  | .m n _ => Fin (n + 2)
def finInv {n : Nat} (a : Fin (n + 2)) : Fin (n + 2) := ((List.finRange (n + 2)).find? fun b => a * b == 1).getD 0
theorem fin_inv {n : Nat} (h : n = 0 ∨ n = 1 ∨ n = 3 ∨ n = 5 ∨ n = 9 ∨ n = 11) : ∀ a : Fin (n + 2), a ≠ 0 → a * finInv a = 1 := by
  rcases h with rfl | rfl | rfl | rfl | rfl | rfl <;> decide +kernel
theorem fin_inv0 {n : Nat} : finInv (0 : Fin (n + 2)) = 0 := by
  unfold finInv
  have : (List.finRange (n + 2)).find? (fun b => (0 : Fin (n + 2)) * b == 1) = none := by
    rw [List.find?_eq_none]
    intro b _ z
    have e : (0 : Fin (n + 2)) * b = 1 := eq_of_beq z
    rw [Fin.zero_mul] at e
    have := congrArg Fin.val e
    simp at this
  rw [this]
  rfl
instance instFdRat : Fd Rat where
  inv := fun a => a⁻¹
  mul_inv := fun a h => Rat.mul_inv_cancel a h
  inv_zero := Rat.inv_zero
  z_ne := by decide
  dec := inferInstance
@[reducible] def instFdFin (n : Nat) (h : n = 0 ∨ n = 1 ∨ n = 3 ∨ n = 5 ∨ n = 9 ∨ n = 11) : Fd (Fin (n + 2)) where
  inv := finInv
  mul_inv := fin_inv h
  inv_zero := fin_inv0
  z_ne := by
    intro z
    have := congrArg Fin.val z
    simp at this
  dec := inferInstance
instance instFd (k : Fg) : Fd k.K := match k with
  | .q => instFdRat
  | .m n h => instFdFin n h
def bt (n : Nat) : Nat := if n = 0 then 0 else n.log2 + 1
theorem bt_lt (n : Nat) : n < 2 ^ bt n := by
  unfold bt
  split
  · rename_i h; rw [h]; decide
  · exact Nat.lt_log2_self
theorem bt_le {n b : Nat} (h : n < 2 ^ b) : bt n ≤ b := by
  unfold bt
  split
  · exact Nat.zero_le _
  · rename_i h0
    have := (Nat.log2_lt h0).mpr h
    omega
theorem bt_mono {n m : Nat} (h : n ≤ m) : bt n ≤ bt m := bt_le (Nat.lt_of_le_of_lt h (bt_lt m))
theorem bt_mul (n m : Nat) : bt (n * m) ≤ bt n + bt m := by
  refine bt_le ?_
  rw [Nat.pow_add]
  exact Nat.mul_lt_mul'' (bt_lt n) (bt_lt m)
theorem bt_add (n m : Nat) : bt (n + m) ≤ max (bt n) (bt m) + 1 := by
  refine bt_le ?_
  have h1 := Nat.lt_of_lt_of_le (bt_lt n) (Nat.pow_le_pow_right (by decide : 0 < 2) (Nat.le_max_left (bt n) (bt m)))
  have h2 := Nat.lt_of_lt_of_le (bt_lt m) (Nat.pow_le_pow_right (by decide : 0 < 2) (Nat.le_max_right (bt n) (bt m)))
  rw [Nat.pow_succ]
  omega
theorem bt_log (n : Nat) : n.log2 ≤ bt n := by
  unfold bt
  split
  · rename_i h; rw [h]; decide
  · omega
theorem cMul_b {i j : Int} (h : bt i.natAbs + bt j.natAbs < 1000000) : cMul i j = true := by
  have := bt_log i.natAbs
  have := bt_log j.natAbs
  exact decide_eq_true (by omega)
theorem cDiv_b {i j : Int} (h0 : j ≠ 0) (h : bt j.natAbs ≤ 9000) : cDiv i j = true := by
  have : j.natAbs.log2 < 9000 := by
    unfold bt at h
    split at h
    · omega
    · omega
  unfold cDiv
  rw [decide_eq_true h0, decide_eq_true this]
  rfl
open Rat in
theorem div_num_le (t : Int) {b : Int} (hb : b ≠ 0) : (divInt t b).num.natAbs ≤ t.natAbs := by
  rw [num_divInt, Int.natAbs_ediv_of_dvd, Int.natAbs_mul]
  · have : b.sign.natAbs = 1 := Int.natAbs_sign_of_ne_zero hb
    rw [this, Nat.one_mul]
    exact Nat.div_le_self _ _
  · exact Int.dvd_mul_of_dvd_right (Int.gcd_dvd_right ..)
open Rat in
theorem div_den_le (t : Int) {b : Int} (hb : b ≠ 0) : (divInt t b).den ≤ b.natAbs := by
  rw [den_divInt, if_neg hb]
  exact Nat.div_le_self _ _
def encQ (x : Rat) : D := .tup [.int x.num, .int x.den]
def hq (x : Rat) : Nat := max (bt x.num.natAbs) (bt x.den)
theorem hq_div (t : Int) {b : Int} (hb : b ≠ 0) : hq (Rat.divInt t b) ≤ max (bt t.natAbs) (bt b.natAbs) := by
  unfold hq
  have h1 := bt_mono (div_num_le t hb)
  have h2 := bt_mono (div_den_le t hb)
  omega
theorem den_ne (a : Rat) : (a.den : Int) ≠ 0 := by have := a.den_pos; omega
theorem q_mul (a b : Rat) : a * b = Rat.divInt (a.num * b.num) (a.den * b.den) := by
  rw [← Rat.divInt_mul_divInt, Rat.num_divInt_den, Rat.num_divInt_den]
theorem q_add (a b : Rat) : a + b = Rat.divInt (a.num * b.den + b.num * a.den) (a.den * b.den) := by
  rw [← Rat.divInt_add_divInt _ _ (den_ne a) (den_ne b), Rat.num_divInt_den, Rat.num_divInt_den]
theorem q_inv (a : Rat) : a⁻¹ = Rat.divInt a.den a.num := by
  rw [← Rat.inv_divInt, Rat.num_divInt_den]
theorem num_ne {a : Rat} (h : a ≠ 0) : a.num ≠ 0 := fun z => h (Rat.num_eq_zero.mp z)
theorem q_over (a b : Rat) : a * b⁻¹ = Rat.divInt (a.num * b.den) (a.den * b.num) := by
  rw [q_inv, ← Rat.divInt_mul_divInt, Rat.num_divInt_den]
end Lw
set_option exponentiation.threshold 20000
namespace Lw
open PySem PySem.Spec L2 Fw Pd
theorem fm {a m : Int} (h : 0 < m) : 0 ≤ a.fmod m ∧ a.fmod m < m := by
  rw [Int.fmod_eq_emod_of_nonneg _ (Int.le_of_lt h)]
  exact ⟨Int.emod_nonneg _ (by omega), Int.emod_lt_of_pos _ h⟩
theorem fd {a m : Int} (h : 0 < m) (ha : 0 ≤ a) : 0 ≤ a.fdiv m ∧ a.fdiv m ≤ a := by
  rw [Int.fdiv_eq_ediv_of_nonneg _ (Int.le_of_lt h)]
  exact ⟨Int.ediv_nonneg ha (Int.le_of_lt h), Int.ediv_le_self _ ha⟩
theorem fm_nat {a b : Nat} : (a : Int).fmod (b : Int) = ((a % b : Nat) : Int) := by
  rw [Int.fmod_eq_emod_of_nonneg _ (by omega)]; rfl
def gcdBody : SF := sSeq (sIf (eT (eOp oEq (eV 3) (eC (.int 0)))) (sRet (eV 2)) sNil) (sSeq (sSet 5 (eOp oMod (eBi kInt (eCons (eV 2) eNil)) (eV 3))) (sSeq (sSet 2 (eV 3)) (sSet 3 (eV 5))))
theorem gcd_end {d0 d1 h x : D} {xs : List D} {a : Nat} {o4 o5 : Option D} : forGo (bNm 4) gcdBody (x :: xs) [some d0, some d1, some (.int a), some (.int 0), o4, o5] h = .ret (.int a) h := by
  unfold forGo gcdBody
  push_cast []
theorem gcd_step {d0 d1 h x : D} {xs : List D} {a b : Nat} {o4 o5 : Option D} (hb : b ≠ 0) : forGo (bNm 4) gcdBody (x :: xs) [some d0, some d1, some (.int a), some (.int b), o4, o5] h = forGo (bNm 4) gcdBody xs [some d0, some d1, some (.int b), some (.int (a % b : Nat)), some x, some (.int (a % b : Nat))] h := by
  have hz : ¬ (b : Int) = 0 := by omega
  have hm := mod_ok (i := (a : Int)) hz
  have e := fm_nat (a := a) (b := b)
  rw [forGo]
  conv => lhs; unfold gcdBody
  push_cast [hz, hm, e]
  rfl
theorem gcd_loop {d0 d1 h : D} : ∀ (m : Nat) (l : List D) (a b : Nat) (o4 o5 : Option D), b < 2 ^ m → 2 * m + 1 ≤ l.length →
    forGo (bNm 4) gcdBody l [some d0, some d1, some (.int a), some (.int b), o4, o5] h = .ret (.int (Nat.gcd a b : Nat)) h
  | m, [], a, b, o4, o5, hb, hl => by simp at hl
  | 0, x :: xs, a, b, o4, o5, hb, hl => by
    have : b = 0 := by omega
    subst this
    rw [Nat.gcd_zero_right]
    exact gcd_end
  | m + 1, [x], a, b, o4, o5, hb, hl => by simp at hl
  | m + 1, x :: y :: ys, a, b, o4, o5, hb, hl => by
    by_cases h0 : b = 0
    · subst h0
      rw [Nat.gcd_zero_right]
      exact gcd_end
    · rw [gcd_step h0]
      have e1 : Nat.gcd a b = Nat.gcd b (a % b) := by rw [Nat.gcd_comm a b, Nat.gcd_rec b a, Nat.gcd_comm]
      by_cases h1 : a % b = 0
      · rw [h1] at e1 ⊢
        rw [e1, Nat.gcd_zero_right]
        exact gcd_end
      · rw [gcd_step h1]
        have e2 : Nat.gcd b (a % b) = Nat.gcd (a % b) (b % (a % b)) := by rw [Nat.gcd_comm b (a % b), Nat.gcd_rec (a % b) b, Nat.gcd_comm]
        have r1 : a % b < b := Nat.mod_lt _ (by omega)
        have r2 : b % (a % b) < a % b := Nat.mod_lt _ (by omega)
        have r3 : b % (a % b) + a % b ≤ b := by
          have := Nat.mod_add_div b (a % b)
          have : 1 ≤ b / (a % b) := Nat.div_pos (by omega) (by omega)
          have := Nat.mul_le_mul_left (a % b) this
          omega
        rw [e1, e2]
        refine gcd_loop m ys (a % b) (b % (a % b)) _ _ ?_ ?_
        · rw [Nat.pow_succ] at hb; omega
        · rw [List.length_cons, List.length_cons] at hl; omega
theorem abs_if (x : Int) : (if x < 0 then -x else x) = (x.natAbs : Int) := by split <;> omega
theorem E_gcd (x y : Int) (h : D) (hy : bt y.natAbs ≤ 20000) : F__law_gcd [.int x, .int y] h = .ok (.int (Nat.gcd x.natAbs y.natAbs : Nat)) h := by
  have hb : y.natAbs < 2 ^ 20000 := Nat.lt_of_lt_of_le (bt_lt _) (Nat.pow_le_pow_right (by decide) hy)
  have e := gcd_loop (h := h) (d0 := .int x) (d1 := .int y) 20000 (gen 60000 fun k => .int (k : Int)) x.natAbs y.natAbs none none hb (by rw [gen_len]; omega)
  have rg : rg1 [.int 60000] = some (gen 60000 fun k => .int (k : Int)) := rg1_ok (by omega) (by omega)
  unfold gcdBody at e
  unfold F__law_gcd
  simp only [runF, sSeq_a, sSet_a, eBi_a, eCons_a, eNil_a, eV_a, List.map, List.append, List.length_cons, List.length_nil, List.replicate, List.cons_append, List.nil_append, Nat.reduceSub, Nat.reduceAdd, List.getElem?_cons_zero, List.getElem?_cons_succ, vD_int, bind_okE, kAbs, abs_if, of_someE, fl_okE, seq_nx, List.set_cons_zero, List.set_cons_succ, sFor_a, iRg_a, eC_a, rg]
  rw [e]
  rfl
theorem low_parts (t : Int) {b : Int} (hb : b ≠ 0) : ∃ g : Int, 0 < g ∧ g = (Nat.gcd t.natAbs b.natAbs : Nat) ∧ bt g.natAbs ≤ bt b.natAbs ∧ (0 < b → t.fdiv g = (Rat.divInt t b).num ∧ b.fdiv g = ((Rat.divInt t b).den : Int)) ∧ (b < 0 → t.fdiv (-g) = (Rat.divInt t b).num ∧ b.fdiv (-g) = ((Rat.divInt t b).den : Int)) := by
  have g0 : 0 < Nat.gcd t.natAbs b.natAbs := Nat.gcd_pos_of_pos_right _ (by omega)
  have eg : Int.gcd b t = Nat.gcd t.natAbs b.natAbs := Nat.gcd_comm _ _
  have d1 : ((Nat.gcd t.natAbs b.natAbs : Nat) : Int) ∣ t := Int.ofNat_dvd_left.mpr (Nat.gcd_dvd_left ..)
  have d2 : ((Nat.gcd t.natAbs b.natAbs : Nat) : Int) ∣ b := Int.ofNat_dvd_left.mpr (Nat.gcd_dvd_right ..)
  refine ⟨(Nat.gcd t.natAbs b.natAbs : Nat), by omega, rfl, ?_, fun hp => ⟨?_, ?_⟩, fun hn => ⟨?_, ?_⟩⟩
  · rw [Int.natAbs_natCast]
    exact bt_mono (Nat.le_of_dvd (by omega) (Nat.gcd_dvd_right ..))
  · rw [Int.fdiv_eq_ediv_of_nonneg _ (by omega), Rat.num_divInt, Int.sign_eq_one_of_pos hp, Int.one_mul, eg]
  · rw [Int.fdiv_eq_ediv_of_nonneg _ (by omega), Rat.den_divInt, if_neg hb, eg, Int.natCast_ediv, Int.natAbs_of_nonneg (by omega)]
  · obtain ⟨q, hq⟩ := d1
    rw [Rat.num_divInt, Int.sign_eq_neg_one_of_neg hn, eg]
    have gi : (0 : Int) < ((Nat.gcd t.natAbs b.natAbs : Nat) : Int) := by omega
    generalize ((Nat.gcd t.natAbs b.natAbs : Nat) : Int) = g at *
    rw [hq, show g * q = (-g) * (-q) by rw [Int.neg_mul_neg], Int.mul_fdiv_cancel_left _ (by omega), Int.neg_mul_neg, Int.neg_mul, Int.one_mul, ← Int.mul_neg, Int.mul_ediv_cancel_left _ (by omega)]
  · obtain ⟨q, hq⟩ := d2
    rw [Rat.den_divInt, if_neg hb, eg, Int.natCast_ediv]
    have hn2 : (b.natAbs : Int) = -b := by omega
    rw [hn2]
    have gi : (0 : Int) < ((Nat.gcd t.natAbs b.natAbs : Nat) : Int) := by omega
    generalize ((Nat.gcd t.natAbs b.natAbs : Nat) : Int) = g at *
    rw [hq, show g * q = (-g) * (-q) by rw [Int.neg_mul_neg], Int.mul_fdiv_cancel_left _ (by omega), Int.neg_mul_neg, ← Int.mul_neg, Int.mul_ediv_cancel_left _ (by omega)]
theorem E_low (t b : Int) (h : D) (hb : b ≠ 0) (hs : bt b.natAbs ≤ 9000) : F_in_lowest_terms [.int t, .int b] h = .ok (encQ (Rat.divInt t b)) h := by
  obtain ⟨g, g0, eg, bg, hp, hn⟩ := low_parts t hb
  have d1 : ∀ i, cDiv i g = true := fun i => cDiv_b (by omega) (by omega)
  have d2 : ∀ i, cDiv i (-g) = true := fun i => cDiv_b (by omega) (by rw [Int.natAbs_neg]; omega)
  unfold F_in_lowest_terms encQ
  by_cases h0 : b < 0
  · obtain ⟨e1, e2⟩ := hn h0
    push_cast [h0, ← eg, d2, e1, e2]
  · obtain ⟨e1, e2⟩ := hp (by omega)
    push_cast [h0, ← eg, d1, e1, e2]
theorem E_ratio (t b : Int) (h : D) (hb : b ≠ 0) (hs : bt b.natAbs ≤ 9000) : F__law_ratio [.int t, .int b] h = .ok (encQ (Rat.divInt t b)) h := by
  obtain ⟨g, g0, eg, bg, hp, hn⟩ := low_parts t hb
  have d1 : ∀ i, cDiv i g = true := fun i => cDiv_b (by omega) (by omega)
  have d2 : ∀ i, cDiv i (-g) = true := fun i => cDiv_b (by omega) (by rw [Int.natAbs_neg]; omega)
  have e := E_gcd t b h (by omega)
  rw [← eg] at e
  unfold F__law_ratio encQ
  by_cases h0 : b < 0
  · obtain ⟨e1, e2⟩ := hn h0
    push_cast [h0, e, d2, e1, e2]
  · obtain ⟨e1, e2⟩ := hp (by omega)
    push_cast [h0, e, d1, e1, e2]
end Lw
set_option exponentiation.threshold 20000
namespace Lw
open PySem PySem.Spec L2 Fw Pd
def enc (k : Fg) (x : k.K) : D := match k, x with
  | .q, x => encQ x
  | .m _ _, x => .int (x.val : Int)
def ht (k : Fg) (x : k.K) : Nat := match k, x with
  | .q, x => hq x
  | .m _ _, _ => 0
def fig (k : Fg) : D := .ins "Figures" [("prime", .int k.p), ("zero", enc k 0), ("one", enc k 1)]
theorem enc_fr (k : Fg) (x : k.K) : (enc k x).fr = true := by cases k <;> rfl
theorem enc_vd {k : Fg} {x : k.K} {h : D} : vD (some (some (enc k x))) h = .ok (enc k x) h := by cases k <;> rfl
theorem enc_vm {k : Fg} {x : k.K} {h : D} : vmD (some (some (enc k x))) h = .ok (enc k x) h := by cases k <;> rfl
theorem fig_vd {k : Fg} {h : D} : vD (some (some (fig k))) h = .ok (fig k) h := (rfl)
theorem fig_vm {k : Fg} {h : D} : vmD (some (some (fig k))) h = .ok (fig k) h := (rfl)
theorem fig_p {k : Fg} {h : D} : atvD (some (some (fig k))) "prime" h = .ok (.int k.p) h := (rfl)
theorem fig_z {k : Fg} {h : D} : atvD (some (some (fig k))) "zero" h = .ok (enc k 0) h := (rfl)
theorem fig_tp {k : Fg} {h : D} : attD (fig k) "prime" h = .ok (.int k.p) h := (rfl)
theorem pq : Fg.q.p = 0 := (rfl)
theorem pm {n : Nat} {h} : (Fg.m n h).p = ((n + 2 : Nat) : Int) := (rfl)
theorem encQ_a (x : Rat) : enc .q x = encQ x := (rfl)
theorem encM_a {n : Nat} {h} (x : Fin (n + 2)) : enc (.m n h) x = .int (x.val : Int) := (rfl)
theorem htM_a {n : Nat} {h} (x : Fin (n + 2)) : ht (.m n h) x = 0 := (rfl)
theorem hq_num (a : Rat) : bt a.num.natAbs ≤ hq a := Nat.le_max_left _ _
theorem hq_den (a : Rat) : bt a.den ≤ hq a := Nat.le_max_right _ _
theorem hq_mul (a b : Rat) : hq (a * b) ≤ hq a + hq b := by
  rw [q_mul]
  refine Nat.le_trans (hq_div _ (Int.mul_ne_zero (den_ne a) (den_ne b))) ?_
  rw [Int.natAbs_mul, Int.natAbs_mul, Int.natAbs_natCast, Int.natAbs_natCast]
  have := bt_mul a.num.natAbs b.num.natAbs
  have := bt_mul a.den b.den
  have := hq_num a
  have := hq_num b
  have := hq_den a
  have := hq_den b
  omega
theorem bt_sum (x y : Int) : bt (x + y).natAbs ≤ max (bt x.natAbs) (bt y.natAbs) + 1 := Nat.le_trans (bt_mono (Int.natAbs_add_le x y)) (bt_add _ _)
theorem hq_add (a b : Rat) : hq (a + b) ≤ hq a + hq b + 1 := by
  rw [q_add]
  refine Nat.le_trans (hq_div _ (Int.mul_ne_zero (den_ne a) (den_ne b))) ?_
  have h1 := bt_sum (a.num * b.den) (b.num * a.den)
  rw [Int.natAbs_mul, Int.natAbs_mul, Int.natAbs_natCast, Int.natAbs_natCast] at h1
  rw [Int.natAbs_mul, Int.natAbs_natCast, Int.natAbs_natCast]
  have := bt_mul a.num.natAbs b.den
  have := bt_mul b.num.natAbs a.den
  have := bt_mul a.den b.den
  have := hq_num a
  have := hq_num b
  have := hq_den a
  have := hq_den b
  omega
theorem hq_neg (a : Rat) : hq (-a) = hq a := by
  show max (bt (-a.num).natAbs) (bt a.den) = _
  rw [Int.natAbs_neg]
  rfl
theorem hq_sub (a b : Rat) : hq (a - b) ≤ hq a + hq b + 1 := by
  rw [Rat.sub_eq_add_neg]
  have := hq_add a (-b)
  rw [hq_neg] at this
  exact this
theorem hq_inv (a : Rat) : hq a⁻¹ ≤ hq a + 1 := by
  by_cases h : a = 0
  · subst h; rw [Rat.inv_zero]; decide
  · rw [q_inv]
    refine Nat.le_trans (hq_div _ (num_ne h)) ?_
    rw [Int.natAbs_natCast]
    have := hq_num a
    have := hq_den a
    omega
theorem ht_mul (k : Fg) (a b : k.K) : ht k (a * b) ≤ ht k a + ht k b := by cases k with
  | q => exact hq_mul a b
  | m n h => exact Nat.zero_le _
theorem ht_add (k : Fg) (a b : k.K) : ht k (a + b) ≤ ht k a + ht k b + 1 := by cases k with
  | q => exact hq_add a b
  | m n h => exact Nat.zero_le _
theorem ht_sub (k : Fg) (a b : k.K) : ht k (a - b) ≤ ht k a + ht k b + 1 := by cases k with
  | q => exact hq_sub a b
  | m n h => exact Nat.zero_le _
theorem ht_neg (k : Fg) (a : k.K) : ht k (-a) = ht k a := by cases k with
  | q => exact hq_neg a
  | m n h => rfl
theorem ht_inv (k : Fg) (a : k.K) : ht k (Fd.inv a) ≤ ht k a + 1 := by cases k with
  | q => exact hq_inv a
  | m n h => exact Nat.zero_le _
theorem ht_zero (k : Fg) : ht k 0 ≤ 1 := by cases k with
  | q => exact (by decide : hq 0 ≤ 1)
  | m n h => exact Nat.zero_le _
theorem ht_one (k : Fg) : ht k 1 ≤ 1 := by cases k with
  | q => exact (by decide : hq 1 ≤ 1)
  | m n h => exact Nat.zero_le _
section
variable {n : Nat}
theorem fv_add (a b : Fin (n + 2)) : ((a.val : Int) + b.val).fmod ((n + 2 : Nat) : Int) = ((a + b).val : Int) := by
  rw [show (a.val : Int) + b.val = ((a.val + b.val : Nat) : Int) by omega, fm_nat, Fin.val_add]
theorem fv_mul (a b : Fin (n + 2)) : ((a.val : Int) * b.val).fmod ((n + 2 : Nat) : Int) = ((a * b).val : Int) := by
  rw [show (a.val : Int) * b.val = ((a.val * b.val : Nat) : Int) by rw [Int.natCast_mul], fm_nat, Fin.val_mul]
theorem fv_sub (a b : Fin (n + 2)) : ((a.val : Int) - b.val).fmod ((n + 2 : Nat) : Int) = ((a - b).val : Int) := by
  have hb := b.isLt
  rw [Fin.sub_def]
  show _ = (((n + 2 - b.val + a.val) % (n + 2) : Nat) : Int)
  rw [← fm_nat, Int.fmod_eq_emod_of_nonneg _ (by omega), Int.fmod_eq_emod_of_nonneg _ (by omega)]
  rw [show ((n + 2 - b.val + a.val : Nat) : Int) = ((a.val : Int) - b.val) + ((n + 2 : Nat) : Int) by omega, Int.add_emod_right]
theorem fv_lt (a : Fin (n + 2)) : (a.val : Int) < ((n + 2 : Nat) : Int) := by have := a.isLt; omega
end
theorem pm_le {n : Nat} (h : n = 0 ∨ n = 1 ∨ n = 3 ∨ n = 5 ∨ n = 9 ∨ n = 11) : n + 2 ≤ 13 := by omega
theorem E_plus (k : Fg) (a b : k.K) (h : D) (hs : ht k a + ht k b ≤ 8000) : F__law_plus [.int k.p, enc k a, enc k b] h = .ok (enc k (a + b)) h := by
  cases k with
  | q =>
    have a1 := hq_num a
    have a2 := hq_den a
    have b1 := hq_num b
    have b2 := hq_den b
    replace hs : hq a + hq b ≤ 8000 := hs
    rw [encQ_a, encQ_a, encQ_a, pq]
    by_cases hd : a.den = 1 ∧ b.den = 1
    · obtain ⟨ha, hb⟩ := hd
      have e1 : (a + b).num = a.num + b.num := by
        rw [q_add, ha, hb, Rat.num_divInt]
        simp
      have e2 : (a + b).den = 1 := by
        rw [q_add, ha, hb, Rat.den_divInt]
        simp
      unfold F__law_plus encQ
      push_cast [ha, hb, e1, e2]
    · have m1 : cMul a.num b.den = true := cMul_b (by rw [Int.natAbs_natCast]; omega)
      have m2 : cMul b.num a.den = true := cMul_b (by rw [Int.natAbs_natCast]; omega)
      have m3 : cMul (a.den : Int) b.den = true := cMul_b (by rw [Int.natAbs_natCast, Int.natAbs_natCast]; omega)
      have bm := bt_mul a.den b.den
      have er := E_ratio (a.num * b.den + b.num * a.den) (a.den * b.den) h (Int.mul_ne_zero (den_ne a) (den_ne b)) (by rw [Int.natAbs_mul, Int.natAbs_natCast, Int.natAbs_natCast]; omega)
      rw [← q_add] at er
      have c : ¬ ((a.den : Int) = 1 ∧ (b.den : Int) = 1) := fun z => hd ⟨by omega, by omega⟩
      unfold F__law_plus
      by_cases h1 : (a.den : Int) = 1
      · have h2 : ¬ (b.den : Int) = 1 := fun z => c ⟨h1, z⟩
        have h1n : a.den = 1 := by omega
        unfold encQ at er ⊢
        rw [h1] at m2 m3 er
        push_cast [h1, h2, m1, m2, m3, er]
      · unfold encQ at er ⊢
        push_cast [h1, m1, m2, m3, er]
  | m n hn =>
    have hp := pm_le hn
    have h0 : ¬ ((n + 2 : Nat) : Int) = 0 := by omega
    have e := fv_add a b
    rw [encM_a, encM_a, encM_a, pm]
    unfold F__law_plus
    push_cast [h0, e]
end Lw
set_option exponentiation.threshold 20000
namespace Lw
open PySem PySem.Spec L2 Fw Pd
theorem E_times (k : Fg) (a b : k.K) (h : D) (hs : ht k a + ht k b ≤ 8000) : F__law_times [.int k.p, enc k a, enc k b] h = .ok (enc k (a * b)) h := by
  cases k with
  | q =>
    have a1 := hq_num a
    have a2 := hq_den a
    have b1 := hq_num b
    have b2 := hq_den b
    replace hs : hq a + hq b ≤ 8000 := hs
    rw [encQ_a, encQ_a, encQ_a, pq]
    have m1 : cMul a.num b.num = true := cMul_b (by omega)
    by_cases hd : a.den = 1 ∧ b.den = 1
    · obtain ⟨ha, hb⟩ := hd
      have e1 : (a * b).num = a.num * b.num := by
        rw [q_mul, ha, hb, Rat.num_divInt]
        simp
      have e2 : (a * b).den = 1 := by
        rw [q_mul, ha, hb, Rat.den_divInt]
        simp
      unfold F__law_times encQ
      push_cast [ha, hb, e1, e2, m1]
    · have m3 : cMul (a.den : Int) b.den = true := cMul_b (by rw [Int.natAbs_natCast, Int.natAbs_natCast]; omega)
      have bm := bt_mul a.den b.den
      have er := E_ratio (a.num * b.num) (a.den * b.den) h (Int.mul_ne_zero (den_ne a) (den_ne b)) (by rw [Int.natAbs_mul, Int.natAbs_natCast, Int.natAbs_natCast]; omega)
      rw [← q_mul] at er
      have c : ¬ ((a.den : Int) = 1 ∧ (b.den : Int) = 1) := fun z => hd ⟨by omega, by omega⟩
      unfold F__law_times
      by_cases h1 : (a.den : Int) = 1
      · have h2 : ¬ (b.den : Int) = 1 := fun z => c ⟨h1, z⟩
        unfold encQ at er ⊢
        rw [h1] at m3 er
        push_cast [h1, h2, m1, m3, er]
      · unfold encQ at er ⊢
        push_cast [h1, m1, m3, er]
  | m n hn =>
    have hp := pm_le hn
    have h0 : ¬ ((n + 2 : Nat) : Int) = 0 := by omega
    have e := fv_mul a b
    have := fv_lt a
    have := fv_lt b
    have mm : cMul (a.val : Int) b.val = true := mul_sm (by omega) (by omega) (by omega) (by omega)
    rw [encM_a, encM_a, encM_a, pm]
    unfold F__law_times
    push_cast [h0, e, mm]
theorem E_less (k : Fg) (a b : k.K) (h : D) (hs : ht k a + ht k b ≤ 8000) : F__law_less [.int k.p, enc k a, enc k b] h = .ok (enc k (a - b)) h := by
  cases k with
  | q =>
    have e := E_plus .q a (-b) h (by rw [ht_neg]; exact hs)
    rw [show a + -b = a - b from (Rat.sub_eq_add_neg a b).symm] at e
    rw [encQ_a, encQ_a, encQ_a, pq] at *
    have en : encQ (-b) = .tup [.int (-b.num), .int b.den] := rfl
    rw [en] at e
    unfold F__law_less
    unfold encQ at e ⊢
    push_cast [e]
  | m n hn =>
    have hp := pm_le hn
    have h0 : ¬ ((n + 2 : Nat) : Int) = 0 := by omega
    have e := fv_sub a b
    rw [encM_a, encM_a, encM_a, pm]
    unfold F__law_less
    push_cast [h0, e]
def ic (k : Fg) (i : Int) : k.K := match k with
  | .q => (i : Rat)
  | .m n _ => Fin.ofNat (n + 2) (i.emod ((n + 2 : Nat) : Int)).toNat
theorem ic_val {n : Nat} {h} (i : Int) : ((ic (.m n h) i).val : Int) = i.fmod ((n + 2 : Nat) : Int) := by
  show ((((i.emod ((n + 2 : Nat) : Int)).toNat) % (n + 2) : Nat) : Int) = _
  have h0 := Int.emod_nonneg i (show ((n + 2 : Nat) : Int) ≠ 0 by omega)
  have h1 := Int.emod_lt_of_pos i (show (0 : Int) < ((n + 2 : Nat) : Int) by omega)
  have h0' : 0 ≤ i.emod ((n + 2 : Nat) : Int) := h0
  have h1' : i.emod ((n + 2 : Nat) : Int) < ((n + 2 : Nat) : Int) := h1
  rw [Int.fmod_eq_emod_of_nonneg _ (by omega), Nat.mod_eq_of_lt (by omega), Int.toNat_of_nonneg h0']
  rfl
theorem E_num (k : Fg) (i : Int) (h : D) : F__law_num [.int k.p, .int i] h = .ok (enc k (ic k i)) h := by
  cases k with
  | q =>
    have e1 : (ic .q i : Rat).num = i := Rat.num_intCast i
    have e2 : (ic .q i : Rat).den = 1 := Rat.den_intCast i
    rw [encQ_a, pq]
    unfold F__law_num encQ
    push_cast [e1, e2]
  | m n hn =>
    have h0 : ¬ ((n + 2 : Nat) : Int) = 0 := by omega
    rw [encM_a, ic_val, pm]
    unfold F__law_num
    push_cast [h0]
theorem ic_0 (k : Fg) : ic k 0 = 0 := by cases k with
  | q => rfl
  | m n h => exact Fin.ext (by have := ic_val (h := h) 0; rw [Int.zero_fmod] at this; exact Int.ofNat_inj.mp this)
theorem ic_1 (k : Fg) : ic k 1 = 1 := by cases k with
  | q => rfl
  | m n h =>
    refine Fin.ext (Int.ofNat_inj.mp ?_)
    have := ic_val (h := h) 1
    rw [Int.fmod_eq_emod_of_nonneg _ (by omega), Int.emod_eq_of_lt (by omega) (by omega)] at this
    rw [this]
    show (1 : Int) = ((1 % (n + 2) : Nat) : Int)
    rw [Nat.mod_eq_of_lt (by omega)]
    rfl
theorem E_num0 (k : Fg) (h : D) : F__law_num [.int k.p, .int 0] h = .ok (enc k 0) h := by rw [E_num, ic_0]
theorem E_num1 (k : Fg) (h : D) : F__law_num [.int k.p, .int 1] h = .ok (enc k 1) h := by rw [E_num, ic_1]
theorem fin_pow {n : Nat} (h : n = 0 ∨ n = 1 ∨ n = 3 ∨ n = 5 ∨ n = 9 ∨ n = 11) : ∀ a b : Fin (n + 2), b ≠ 0 → (Nat.repeat (fun x => x * b) n a) = a * finInv b := by
  rcases h with rfl | rfl | rfl | rfl | rfl | rfl <;> decide +kernel
theorem rep_next {α : Type} (f : α → α) : ∀ (m : Nat) (x : α), Nat.repeat f (m + 1) x = Nat.repeat f m (f x)
  | 0, _ => rfl
  | m + 1, x => congrArg f (rep_next f m x)
theorem over_loop {n : Nat} (a b : Fin (n + 2)) (hn : n + 2 ≤ 13) (h d0 : D) : ∀ (m s : Nat) (x : Fin (n + 2)) (o : Option D), ∃ o', forGo (bNm 4) (sSet 3 (eOp oMod (eBi kInt (eCons (eOp oMul (eV 3) (eV 2)) eNil)) (eV 0))) (gen m fun i => .int ((s + i : Nat) : Int)) [some (.int ((n + 2 : Nat) : Int)), some d0, some (.int (b.val : Int)), some (.int (x.val : Int)), o] h = .nx [some (.int ((n + 2 : Nat) : Int)), some d0, some (.int (b.val : Int)), some (.int ((Nat.repeat (fun x => x * b) m x).val : Int)), o'] h
  | 0, s, x, o => ⟨o, rfl⟩
  | m + 1, s, x, o => by
    have e := fv_mul x b
    have := fv_lt x
    have := fv_lt b
    have mm : cMul (x.val : Int) b.val = true := mul_sm (by omega) (by omega) (by omega) (by omega)
    have h0 : ¬ ((n + 2 : Nat) : Int) = 0 := by omega
    obtain ⟨o', ih⟩ := over_loop a b hn h d0 m (s + 1) (x * b) (some (.int ((s + 0 : Nat) : Int)))
    refine ⟨o', ?_⟩
    rw [gen_succ]
    rw [rep_next (fun x => x * b) m x, ← ih, forGo]
    have eg : (gen m fun i => D.int ((s + (i + 1) : Nat) : Int)) = gen m fun i => D.int ((s + 1 + i : Nat) : Int) := gen_congr fun i _ => by rw [show s + (i + 1) = s + 1 + i by omega]
    rw [eg]
    push_cast [h0, mm, e]
theorem E_over (k : Fg) (a b : k.K) (h : D) (hb : b ≠ 0) (hs : ht k a + ht k b ≤ 8000) : F__law_over [.int k.p, enc k a, enc k b] h = .ok (enc k (a * Fd.inv b)) h := by
  cases k with
  | q =>
    have a1 := hq_num a
    have a2 := hq_den a
    have b1 := hq_num b
    have b2 := hq_den b
    replace hs : hq a + hq b ≤ 8000 := hs
    have m1 : cMul a.num b.den = true := cMul_b (by rw [Int.natAbs_natCast]; omega)
    have m3 : cMul (a.den : Int) b.num = true := cMul_b (by rw [Int.natAbs_natCast]; omega)
    have bm := bt_mul a.den b.num.natAbs
    have er := E_ratio (a.num * b.den) (a.den * b.num) h (Int.mul_ne_zero (den_ne a) (num_ne hb)) (by rw [Int.natAbs_mul, Int.natAbs_natCast]; omega)
    rw [← q_over] at er
    rw [encQ_a, encQ_a, encQ_a, pq]
    show _ = Ex.ok (encQ (a * b⁻¹)) h
    unfold F__law_over
    unfold encQ at er ⊢
    push_cast [m1, m3, er]
  | m n hn =>
    have hp := pm_le hn
    have h0 : ¬ ((n + 2 : Nat) : Int) = 0 := by omega
    obtain ⟨o', e⟩ := over_loop a b hp h (.int (a.val : Int)) n 0 a none
    rw [fin_pow hn a b hb] at e
    rw [encM_a, encM_a, encM_a, pm]
    have e2 : (((n + 2 : Nat) : Int) - 2).toNat = n := by omega
    have eg : (gen n fun i => D.int ((0 + i : Nat) : Int)) = gen n fun i => D.int (i : Int) := gen_congr fun i _ => by rw [Nat.zero_add]
    rw [eg] at e
    unfold F__law_over
    push_cast [h0, e2, e]
    rfl
end Lw
set_option exponentiation.threshold 20000
namespace Lw
open PySem PySem.Spec L2 Fw Pd
def methD (nm m : Str) (n : Nat) (F : Fn) (dd : List D) (fs : EF (List D)) (δ : DE) (d h1 : D) : Ex D := match d with
  | .ins n' xs => if n' = nm ∧ xs.lookup m = none then (fs δ h1).bind fun ds h2 => if (d :: (ds ++ dd)).length = n then F (d :: (ds ++ dd)) h2 else .bad else .bad
  | _ => .bad
theorem eMeth_f (nm m : Str) (n : Nat) (F : Fn) (dd : List D) (fo : EF D) (fs : EF (List D)) (δ : DE) (h : D) : eMeth nm m n F dd fo fs δ h = (fo δ h).bind fun d h1 => methD nm m n F dd fs δ d h1 := (rfl)
theorem methD_ok {m : Str} {n : Nat} {F : Fn} {dd : List D} {fs : EF (List D)} {δ : DE} {h1 : D} (k : Fg) (hm : List.lookup m [("prime", D.int k.p), ("zero", enc k 0), ("one", enc k 1)] = none) : methD "Figures" m n F dd fs δ (fig k) h1 = (fs δ h1).bind fun ds h2 => if (fig k :: (ds ++ dd)).length = n then F (fig k :: (ds ++ dd)) h2 else .bad := by
  show (if ("Figures" : Str) = "Figures" ∧ _ then _ else _) = _
  rw [if_pos ⟨rfl, hm⟩]
theorem md_times {n : Nat} {F : Fn} {dd : List D} {fs : EF (List D)} {δ : DE} {h1 : D} {k : Fg} : methD "Figures" "times" n F dd fs δ (fig k) h1 = (fs δ h1).bind fun ds h2 => if (fig k :: (ds ++ dd)).length = n then F (fig k :: (ds ++ dd)) h2 else .bad := methD_ok k (rfl)
theorem md_over {n : Nat} {F : Fn} {dd : List D} {fs : EF (List D)} {δ : DE} {h1 : D} {k : Fg} : methD "Figures" "over" n F dd fs δ (fig k) h1 = (fs δ h1).bind fun ds h2 => if (fig k :: (ds ++ dd)).length = n then F (fig k :: (ds ++ dd)) h2 else .bad := methD_ok k (rfl)
theorem md_plus {n : Nat} {F : Fn} {dd : List D} {fs : EF (List D)} {δ : DE} {h1 : D} {k : Fg} : methD "Figures" "plus" n F dd fs δ (fig k) h1 = (fs δ h1).bind fun ds h2 => if (fig k :: (ds ++ dd)).length = n then F (fig k :: (ds ++ dd)) h2 else .bad := methD_ok k (rfl)
theorem md_minus {n : Nat} {F : Fn} {dd : List D} {fs : EF (List D)} {δ : DE} {h1 : D} {k : Fg} : methD "Figures" "minus" n F dd fs δ (fig k) h1 = (fs δ h1).bind fun ds h2 => if (fig k :: (ds ++ dd)).length = n then F (fig k :: (ds ++ dd)) h2 else .bad := methD_ok k (rfl)
theorem md_is_number {n : Nat} {F : Fn} {dd : List D} {fs : EF (List D)} {δ : DE} {h1 : D} {k : Fg} : methD "Figures" "is_number" n F dd fs δ (fig k) h1 = (fs δ h1).bind fun ds h2 => if (fig k :: (ds ++ dd)).length = n then F (fig k :: (ds ++ dd)) h2 else .bad := methD_ok k (rfl)
theorem eq_enc (k : Fg) (a b : k.K) : eqD (enc k a) (enc k b) = some (decide (a = b)) := by
  cases k with
  | q =>
    show eqD (encQ a) (encQ b) = _
    unfold encQ eqD
    simp only [toPy, toPyL, Option.map_some]
    have sh : ∀ i j : Int, SeqAt.shaped (PyData.tuple [.int i, .int j]) = true := fun i j => by
      unfold SeqAt.shaped
      simp only [PyData.canLay0, PyData.canLayAll0, PyData.depth, PyData.depthAll]
      rfl
    rw [sh, sh]
    simp only [PyData.eqv, PyData.eqvAll, Bool.and_self, Bool.and_true, if_true]
    congr 1
    by_cases h : a = b
    · subst h
      rw [beq_self_eq_true, beq_self_eq_true, decide_eq_true rfl]
      rfl
    · rw [decide_eq_false h, Bool.and_eq_false_iff]
      by_cases hn : a.num = b.num
      · right
        rw [beq_eq_false_iff_ne]
        intro hd
        exact h (Rat.ext hn (by omega))
      · left
        rw [beq_eq_false_iff_ne]
        exact hn
  | m n hn =>
    show eqD (.int (a.val : Int)) (.int (b.val : Int)) = _
    rw [eq_int]
    congr 1
    refine decide_eq_decide.mpr ⟨fun z => Fin.ext (Int.ofNat_inj.mp z), fun z => by rw [z]⟩
theorem E_ftimes (k : Fg) (a b : k.K) (h : D) (hs : ht k a + ht k b ≤ 8000) : F_Figures_times [fig k, enc k a, enc k b] h = .ok (enc k (a * b)) h := by
  cases k with
  | q =>
    have a1 := hq_num a
    have a2 := hq_den a
    have b1 := hq_num b
    have b2 := hq_den b
    replace hs : hq a + hq b ≤ 8000 := hs
    have m1 : cMul a.num b.num = true := cMul_b (by omega)
    have m3 : cMul (a.den : Int) b.den = true := cMul_b (by rw [Int.natAbs_natCast, Int.natAbs_natCast]; omega)
    have bm := bt_mul a.den b.den
    have er := E_low (a.num * b.num) (a.den * b.den) h (Int.mul_ne_zero (den_ne a) (den_ne b)) (by rw [Int.natAbs_mul, Int.natAbs_natCast, Int.natAbs_natCast]; omega)
    rw [← q_mul] at er
    rw [encQ_a, encQ_a, encQ_a]
    unfold F_Figures_times F_ratio_times
    unfold encQ at er ⊢
    push_cast [fig_p, pq, m1, m3, er]
  | m n hn =>
    have hp := pm_le hn
    have h0 : ¬ ((n + 2 : Nat) : Int) = 0 := by omega
    have e := fv_mul a b
    have := fv_lt a
    have := fv_lt b
    have mm : cMul (a.val : Int) b.val = true := mul_sm (by omega) (by omega) (by omega) (by omega)
    rw [encM_a, encM_a, encM_a]
    unfold F_Figures_times
    push_cast [fig_p, pm, h0, e, mm]
theorem rest_loop {n : Nat} (b : Fin (n + 2)) (hn : n + 2 ≤ 13) (h : D) : ∀ (m s : Nat) (o : Option D), (∃ r : Fin (n + 2), s ≤ r.val ∧ r.val < s + m ∧ b * r = 1) → ∃ r : Fin (n + 2), b * r = 1 ∧ forGo (bNm 2) (sIf (eT (eOp oEq (eOp oMod (eOp oMul (eV 0) (eV 2)) (eV 1)) (eC (.int 1)))) (sRet (eV 2)) sNil) (gen m fun i => .int ((s + i : Nat) : Int)) [some (.int (b.val : Int)), some (.int ((n + 2 : Nat) : Int)), o] h = .ret (.int (r.val : Int)) h
  | 0, s, o, ⟨r, h1, h2, _⟩ => by omega
  | m + 1, s, o, ⟨r, h1, h2, h3⟩ => by
    have h0 : ¬ ((n + 2 : Nat) : Int) = 0 := by omega
    have := fv_lt b
    have hs : s < n + 2 := by have := r.isLt; omega
    have mm : cMul (b.val : Int) (s : Int) = true := mul_sm (by omega) (by omega) (by omega) (by omega)
    have e := fv_mul b ⟨s, hs⟩
    have e' : ((b.val : Int) * (s : Int)).fmod ((n + 2 : Nat) : Int) = ((b * ⟨s, hs⟩).val : Int) := e
    rw [gen_succ]
    by_cases hr : b * ⟨s, hs⟩ = 1
    · refine ⟨⟨s, hs⟩, hr, ?_⟩
      have ev : (((b * ⟨s, hs⟩ : Fin (n + 2)).val : Nat) : Int) = 1 := by
        rw [hr]
        show ((1 % (n + 2) : Nat) : Int) = 1
        rw [Nat.mod_eq_of_lt (by omega)]
        rfl
      rw [ev] at e'
      rw [forGo, Nat.add_zero]
      push_cast [h0, mm, e']
    · have ev : ¬ (((b * ⟨s, hs⟩ : Fin (n + 2)).val : Nat) : Int) = 1 := fun z => hr (Fin.ext (by
        show _ = 1 % (n + 2)
        rw [Nat.mod_eq_of_lt (by omega)]
        omega))
      have rs : r.val ≠ s := fun z => hr (by rw [← h3]; congr 1; exact Fin.ext z.symm)
      obtain ⟨r2, g1, g2⟩ := rest_loop b hn h m (s + 1) (some (.int ((s + 0 : Nat) : Int))) ⟨r, by omega, by omega, h3⟩
      refine ⟨r2, g1, ?_⟩
      have eg : (gen m fun i => D.int ((s + (i + 1) : Nat) : Int)) = gen m fun i => D.int ((s + 1 + i : Nat) : Int) := gen_congr fun i _ => by rw [show s + (i + 1) = s + 1 + i by omega]
      rw [← g2, forGo, eg, Nat.add_zero]
      push_cast [h0, mm, e', ev]
theorem fin_unique {n : Nat} (hn : n = 0 ∨ n = 1 ∨ n = 3 ∨ n = 5 ∨ n = 9 ∨ n = 11) (b r : Fin (n + 2)) (hb : b ≠ 0) (e1 : b * r = 1) : r = finInv b := by
  have e0 := fin_inv hn b hb
  have : r * (b * finInv b) = (b * r) * finInv b := by rw [← Fin.mul_assoc, Fin.mul_comm r b]
  rw [e0, e1, Fin.mul_one, Fin.one_mul] at this
  exact this
theorem finInv_ne {n : Nat} (hn : n = 0 ∨ n = 1 ∨ n = 3 ∨ n = 5 ∨ n = 9 ∨ n = 11) (b : Fin (n + 2)) (hb : b ≠ 0) : (finInv b).val ≠ 0 := fun z => by
  have e0 := fin_inv hn b hb
  rw [show finInv b = 0 from Fin.ext z, Fin.mul_zero] at e0
  have := congrArg Fin.val e0
  simp at this
theorem E_rest {n : Nat} (hn : n = 0 ∨ n = 1 ∨ n = 3 ∨ n = 5 ∨ n = 9 ∨ n = 11) (b : Fin (n + 2)) (hb : b ≠ 0) (p : Int) (ep : p = ((n + 2 : Nat) : Int)) (h : D) : F_undone_rest [.int (b.val : Int), .int p] h = .ok (.int ((finInv b).val : Int)) h := by
  have hp := pm_le hn
  have e0 := fin_inv hn b hb
  obtain ⟨r, e1, e2⟩ := rest_loop b hp h (n + 1) 1 none ⟨finInv b, by have := finInv_ne hn b hb; omega, by have := (finInv b).isLt; omega, e0⟩
  rw [fin_unique hn b r hb e1, ← ep] at e2
  have eg : (gen (n + 1) fun i => D.int ((1 + i : Nat) : Int)) = gen (n + 1) fun i => D.int (1 + (i : Int)) := gen_congr fun i _ => by rw [Int.natCast_add]; rfl
  rw [eg] at e2
  have et : (p - 1).toNat = n + 1 := by omega
  unfold F_undone_rest
  push_cast [et, e2]
theorem E_fover (k : Fg) (a b : k.K) (h : D) (hb : b ≠ 0) (hs : ht k a + ht k b ≤ 8000) : F_Figures_over [fig k, enc k a, enc k b] h = .ok (enc k (a * Fd.inv b)) h := by
  cases k with
  | q =>
    have a1 := hq_num a
    have a2 := hq_den a
    have b1 := hq_num b
    have b2 := hq_den b
    replace hs : hq a + hq b ≤ 8000 := hs
    have m1 : cMul a.num b.den = true := cMul_b (by rw [Int.natAbs_natCast]; omega)
    have m3 : cMul (a.den : Int) b.num = true := cMul_b (by rw [Int.natAbs_natCast]; omega)
    have bm := bt_mul a.den b.num.natAbs
    have er := E_low (a.num * b.den) (a.den * b.num) h (Int.mul_ne_zero (den_ne a) (num_ne hb)) (by rw [Int.natAbs_mul, Int.natAbs_natCast]; omega)
    rw [← q_over] at er
    rw [encQ_a, encQ_a, encQ_a]
    show _ = Ex.ok (encQ (a * b⁻¹)) h
    have nb := num_ne hb
    unfold F_Figures_over F_ratio_over
    unfold encQ at er ⊢
    push_cast [fig_p, pq, m1, m3, er, nb]
  | m n hn =>
    have hp := pm_le hn
    obtain ⟨p, ep⟩ : ∃ p, p = ((n + 2 : Nat) : Int) := ⟨_, rfl⟩
    have pmp : (Fg.m n hn).p = p := by rw [pm, ep]
    have h0 : ¬ p = 0 := by omega
    have e := fv_mul a (finInv b)
    rw [← ep] at e
    have er := E_rest hn b hb p ep h
    have := fv_lt a
    have := fv_lt (finInv b)
    have mm : cMul (a.val : Int) (finInv b).val = true := mul_sm (by omega) (by omega) (by omega) (by omega)
    rw [encM_a, encM_a, encM_a]
    unfold F_Figures_over
    push_cast [fig_p, pmp, h0, er, e, mm]
    rfl
end Lw
set_option exponentiation.threshold 20000
namespace Lw
open PySem PySem.Spec L2 Fw Pd
def erow (k : Fg) (c : Nat) (x : Nat → k.K) : D := .tup (gen c fun j => enc k (x j))
def sumN : Nat → (Nat → Nat) → Nat
  | 0, _ => 0
  | n + 1, f => sumN n f + f n
/-- a loop by its states -/
theorem for_gen {bind : D → DE → Option DE} {body : SF} {d : Nat → D} {h : D} (S : Nat → DE) : ∀ (n s : Nat), (∀ i, s ≤ i → i < s + n → ∃ δ2, bind (d i) (S i) = some δ2 ∧ body δ2 h = .nx (S (i + 1)) h) → forGo bind body (gen n fun i => d (s + i)) (S s) h = .nx (S (s + n)) h
  | 0, s, _ => rfl
  | n + 1, s, k => by
    obtain ⟨δ2, e1, e2⟩ := k s (Nat.le_refl _) (by omega)
    have ih := for_gen S n (s + 1) fun i h1 h2 => k i (by omega) (by omega)
    have eg : (gen n fun i => d (s + (i + 1))) = gen n fun i => d (s + 1 + i) := gen_congr fun i _ => by rw [show s + (i + 1) = s + 1 + i by omega]
    rw [gen_succ, forGo, Nat.add_zero, e1]
    simp only [e2]
    rw [eg, ih, show s + 1 + n = s + (n + 1) by omega]
theorem for_gen0 {bind : D → DE → Option DE} {body : SF} {d : Nat → D} {h : D} (S : Nat → DE) {n : Nat} (k : ∀ i, i < n → ∃ δ2, bind (d i) (S i) = some δ2 ∧ body δ2 h = .nx (S (i + 1)) h) : forGo bind body (gen n d) (S 0) h = .nx (S n) h := by
  have := for_gen (bind := bind) (body := body) (d := d) (h := h) S n 0 fun i _ h2 => k i (by omega)
  rw [Nat.zero_add] at this
  rw [← this]
  congr 1
  exact gen_congr fun i _ => by rw [Nat.zero_add]
/-- a loop's name: what it holds at turn i -/
def lv (o : Option D) (d : Nat → D) : Nat → Option D
  | 0 => o
  | i + 1 => some (d i)
theorem lv_0 {o : Option D} {d : Nat → D} : lv o d 0 = o := rfl
end Lw
set_option exponentiation.threshold 20000
namespace Lw
open PySem PySem.Spec L2 Fw Pd
/-- bits of the bottom -/
def hd (k : Fg) (x : k.K) : Nat := match k, x with
  | .q, x => bt x.den
  | .m _ _, _ => 0
end Lw
set_option exponentiation.threshold 20000
namespace Lw
open PySem PySem.Spec L2 Fw Pd
/-- small rows of integers: bits by fractions, rests by a prime -/
def WOk (k : Fg) (B c : Nat) (w : Nat → Int) : Prop := ∀ j, j < c → match k with
  | .q => bt (w j).natAbs ≤ B
  | .m n _ => 0 ≤ w j ∧ w j < ((n + 2 : Nat) : Int)
end Lw
set_option exponentiation.threshold 20000
namespace Lw
open PySem PySem.Spec L2 Fw Pd
end Lw
set_option exponentiation.threshold 20000
namespace Lw
open PySem PySem.Spec L2 Fw Pd
theorem fr_int {i : Int} : (D.int i).fr = true := (rfl)
theorem frzL_gen {n : Nat} {f : Nat → D} (h : ∀ i, (f i).fr = true) : frzL (gen n f) = gen n f := by
  induction n generalizing f with
  | zero => rfl
  | succ n ih =>
    rw [gen_succ]
    unfold frzL
    rw [ih fun i => h (i + 1)]
    congr 1
    have := h 0
    cases q : f 0 <;> rw [q] at this <;> first | rfl | cases this
end Lw
set_option exponentiation.threshold 20000
namespace Lw
open PySem PySem.Spec L2 Fw Pd
theorem erow_vd {k : Fg} {c : Nat} {x : Nat → k.K} {h : D} : vD (some (some (erow k c x))) h = .ok (erow k c x) h := (rfl)
theorem erow_vm {k : Fg} {c : Nat} {x : Nat → k.K} {h : D} : vmD (some (some (erow k c x))) h = .ok (erow k c x) h := (rfl)
theorem erow_ix {k : Fg} {c : Nat} {x : Nat → k.K} {i : Int} (h0 : 0 ≤ i) (h1 : i < c) : oIx (erow k c x) (.int i) = some (enc k (x i.toNat)) := by
  unfold erow
  rw [oIx_t, atI_gen h0 h1]
theorem erow_len {k : Fg} {c : Nat} {x : Nat → k.K} : kLen [erow k c x] = some (.int (c : Int)) := by
  unfold erow
  rw [kLen_t, gen_len]
end Lw
set_option exponentiation.threshold 20000
namespace Lw
open PySem PySem.Spec L2 Fw Pd
section
variable {K : Type} [Fd K]
def Sm : Nat → (Nat → K) → K
  | 0, _ => 0
  | n + 1, f => Sm n f + f n
theorem Sm_congr {f g : Nat → K} : ∀ {n : Nat}, (∀ i, i < n → f i = g i) → Sm n f = Sm n g
  | 0, _ => rfl
  | n + 1, k => by
    show Sm n f + f n = Sm n g + g n
    rw [Sm_congr fun i hi => k i (by omega), k n (by omega)]
theorem Sm_add {f g : Nat → K} : ∀ {n : Nat}, Sm n (fun i => f i + g i) = Sm n f + Sm n g
  | 0 => by show (0 : K) = 0 + 0; grind
  | n + 1 => by
    show Sm n (fun i => f i + g i) + (f n + g n) = Sm n f + f n + (Sm n g + g n)
    rw [Sm_add]; grind
theorem Sm_mul {f : Nat → K} {s : K} : ∀ {n : Nat}, Sm n (fun i => s * f i) = s * Sm n f
  | 0 => by show (0 : K) = s * 0; grind
  | n + 1 => by
    show Sm n (fun i => s * f i) + s * f n = s * (Sm n f + f n)
    rw [Sm_mul]; grind
theorem Sm_lin {f g : Nat → K} {s t : K} {n : Nat} : Sm n (fun i => s * f i - t * g i) = s * Sm n f - t * Sm n g := by
  rw [show (fun i => s * f i - t * g i) = fun i => s * f i + (-t) * g i by funext i; grind, Sm_add, Sm_mul, Sm_mul]; grind
theorem Sm_zero {f : Nat → K} : ∀ {n : Nat}, (∀ i, i < n → f i = 0) → Sm n f = 0
  | 0, _ => rfl
  | n + 1, k => by
    show Sm n f + f n = 0
    rw [Sm_zero fun i hi => k i (by omega), k n (by omega)]; grind
theorem Sm_one {f : Nat → K} {j : Nat} : ∀ {n : Nat}, j < n → (∀ i, i < n → i ≠ j → f i = 0) → Sm n f = f j
  | n + 1, h, k => by
    show Sm n f + f n = f j
    by_cases e : j = n
    · subst e
      rw [Sm_zero fun i hi => k i (by omega) (by omega)]; grind
    · rw [Sm_one (n := n) (by omega) fun i hi hn => k i (by omega) hn, k n (by omega) (fun z => e z.symm)]; grind
theorem mul_ne {a b : K} (ha : a ≠ 0) (hb : b ≠ 0) : a * b ≠ 0 := fun z => by
  have h1 := Fd.mul_inv a ha
  have : b = Fd.inv a * (a * b) := by grind
  rw [z] at this
  exact hb (by rw [this]; grind)
/-- what the rows send to nothing -/
def Ker (r c : Nat) (M : Nat → Nat → K) (v : Nat → K) : Prop := ∀ i, i < r → Sm c (fun j => M i j * v j) = 0
/-- reduced: rank l, leading columns ld -/
structure Rref (r c : Nat) (R : Nat → Nat → K) (l : Nat) (ld : Nat → Nat) : Prop where
  lr : l ≤ r
  lt : ∀ t, t < l → ld t < c
  up : ∀ t u, t < u → u < l → ld t < ld u
  one : ∀ t, t < l → R t (ld t) = 1
  zero : ∀ t, t < l → ∀ i, i < r → i ≠ t → R i (ld t) = 0
  left : ∀ t, t < l → ∀ j, j < ld t → R t j = 0
  rest : ∀ i, l ≤ i → i < r → ∀ j, j < c → R i j = 0
end
end Lw
set_option exponentiation.threshold 20000
namespace Lw
open PySem PySem.Spec L2 Fw Pd
/-- small enough to be told from nothing -/
def Ok1 (k : Fg) (i : Int) : Prop := match k with
  | .q => True
  | .m n _ => 0 ≤ i ∧ i < ((n + 2 : Nat) : Int)
theorem WOk.ok {k : Fg} {B c : Nat} {w : Nat → Int} (h : WOk k B c w) {j : Nat} (hj : j < c) : Ok1 k (w j) := by
  have := h j hj
  cases k with
  | q => trivial
  | m n hn => exact this
theorem WOk.mono {k : Fg} {B C c : Nat} {w : Nat → Int} (h : WOk k B c w) (hb : B ≤ C) : WOk k C c w := fun j hj => by
  have := h j hj
  cases k with
  | q => exact Nat.le_trans this hb
  | m n hn => exact this
end Lw
set_option exponentiation.threshold 20000
namespace Lw
open PySem PySem.Spec L2 Fw Pd
end Lw
set_option exponentiation.threshold 20000
namespace Lw
open PySem PySem.Spec L2 Fw Pd
end Lw
set_option exponentiation.threshold 20000
namespace Lw
section
variable {K : Type} [Fd K]
def del (a b : Nat) : K := if a = b then 1 else 0
theorem del_s (a : Nat) : (del a a : K) = 1 := if_pos rfl
theorem del_n {a b : Nat} (h : a ≠ b) : (del a b : K) = 0 := if_neg h
theorem Sm_del {f : Nat → K} {j n : Nat} (h : j < n) : Sm n (fun i => f i * del i j) = f j := by
  rw [Sm_one h fun i _ hi => by rw [del_n hi]; grind]
  rw [del_s]; grind
theorem Sm_sub {f g : Nat → K} {n : Nat} : Sm n (fun i => f i - g i) = Sm n f - Sm n g := by
  have := Sm_lin (f := f) (g := g) (s := (1 : K)) (t := 1) (n := n)
  rw [show (fun i => (1 : K) * f i - 1 * g i) = fun i => f i - g i by funext i; grind] at this
  rw [this]; grind
theorem Sm_swap {F : Nat → Nat → K} {m : Nat} : ∀ {n : Nat}, Sm n (fun i => Sm m fun j => F i j) = Sm m fun j => Sm n fun i => F i j
  | 0 => (Sm_zero fun j _ => rfl).symm
  | n + 1 => by
    show Sm n (fun i => Sm m fun j => F i j) + Sm m (fun j => F n j) = Sm m fun j => Sm n (fun i => F i j) + F n j
    rw [Sm_add, Sm_swap]
theorem Sm_mulr {f : Nat → K} {s : K} {n : Nat} : Sm n (fun i => f i * s) = Sm n f * s := by
  rw [show (fun i => f i * s) = fun i => s * f i by funext i; grind, Sm_mul]; grind
/-- what goes to nothing, one for each column -/
def kv (R : Nat → Nat → K) (l : Nat) (ld : Nat → Nat) (j : Nat) : Nat → K := fun x => del x j - Sm l fun t => R t j * del x (ld t)
variable {r c l l' : Nat} {R R' : Nat → Nat → K} {ld ld' : Nat → Nat}
theorem Rref.inj (h : Rref r c R l ld) {t u : Nat} (ht : t < l) (hu : u < l) (e : ld t = ld u) : t = u := by
  rcases Nat.lt_trichotomy t u with z | z | z
  · have := h.up t u z hu; omega
  · exact z
  · have := h.up u t z ht; omega
theorem Rref.at (h : Rref r c R l ld) {t : Nat} (ht : t < l) {i : Nat} (hi : i < r) : R i (ld t) = del i t := by
  by_cases e : i = t
  · subst e; rw [del_s]; exact h.one i ht
  · rw [del_n e]; exact h.zero t ht i hi e
end
end Lw
set_option exponentiation.threshold 20000
namespace Lw
open PySem PySem.Spec L2 Fw Pd
end Lw
set_option exponentiation.threshold 20000
namespace Lw
open PySem PySem.Spec L2 Fw Pd
end Lw
set_option exponentiation.threshold 20000
namespace Lw
open PySem PySem.Spec L2 Fw Pd
theorem div_ok {i j : Int} (h0 : j ≠ 0) (hj : j.natAbs < 2 ^ 64) : cDiv i j = true := by
  have : bt j.natAbs ≤ 64 := bt_le hj
  exact cDiv_b h0 (by omega)
theorem mul_ok {i j : Int} (hi : i.natAbs < 2 ^ 64) (hj : j.natAbs < 2 ^ 64) : cMul i j = true := by
  have : bt i.natAbs ≤ 64 := bt_le hi
  have : bt j.natAbs ≤ 64 := bt_le hj
  exact cMul_b (by omega)
theorem atI_n {α : Type} {xs : List α} {i : Nat} {x : α} (h : xs[i]? = some x) : atI xs (i : Int) = some x := by
  have hl : i < xs.length := (List.getElem?_eq_some_iff.mp h).1
  unfold atI ixN
  rw [if_pos (Int.natCast_nonneg i), if_pos (by omega), Option.bind_some, Int.toNat_natCast, h]
theorem ix41 : ixN 4 1 = some 1 := (rfl)
theorem ix42 : ixN 4 2 = some 2 := (rfl)
theorem ix43 : ixN 4 3 = some 3 := (rfl)
theorem na {a : Int} {b : Nat} (h0 : 0 ≤ a) (h1 : a < b) : a.natAbs < b := by omega
theorem sm {i j : Int} (h0 : 0 ≤ i) (h1 : i < 2 ^ 63) (k0 : 0 ≤ j) (k1 : j < 2 ^ 63) : cMul i j = true := mul_ok (by omega) (by omega)
theorem E_mixed (n t : Int) (h : D) (hn : 0 ≤ n) (hn1 : n < 2 ^ 40) (ht : 0 ≤ t) (ht1 : t < 2 ^ 40) : ∃ r, F__law_mixed [.int n, .int t] h = .ok (.int r) h ∧ 0 ≤ r := by
  have m1 := sm hn (by omega) (show (0 : Int) ≤ 39373 by decide) (by decide)
  have m2 := sm ht (by omega) (show (0 : Int) ≤ 6151 by decide) (by decide)
  have m3 := sm ht (by omega) (show (0 : Int) ≤ 81071 by decide) (by decide)
  obtain ⟨A, eA⟩ : ∃ A, A = (n * 39373 + t * 6151 + 50021).fmod 2147483399 := ⟨_, rfl⟩
  obtain ⟨a0, a1⟩ := fm (a := n * 39373 + t * 6151 + 50021) (show (0 : Int) < 2147483399 by decide)
  rw [← eA] at a0 a1
  have m4 := sm a0 (by omega) a0 (by omega)
  obtain ⟨d0, d1⟩ := fd (m := 137) (by decide) a0
  obtain ⟨d2, d3⟩ := fd (m := 11) (by decide) a0
  obtain ⟨B, eB⟩ : ∃ B, B = (A * A + t * 81071 + A.fdiv 137).fmod 2147483629 := ⟨_, rfl⟩
  obtain ⟨b0, b1⟩ := fm (a := A * A + t * 81071 + A.fdiv 137) (show (0 : Int) < 2147483629 by decide)
  rw [← eB] at b0 b1
  have m5 := sm b0 (by omega) (show (0 : Int) ≤ 62089 by decide) (by decide)
  obtain ⟨c0, c1⟩ := fm (a := B * 62089 + A.fdiv 11) (show (0 : Int) < 2147483587 by decide)
  obtain ⟨f0, _⟩ := fd (m := 64) (by decide) c0
  refine ⟨_, ?_, f0⟩
  unfold F__law_mixed
  push_cast [m1, m2, m3, m4, m5, ← eA, ← eB, kInt, mod_ok (show (2147483399 : Int) ≠ 0 by decide), mod_ok (show (2147483629 : Int) ≠ 0 by decide), mod_ok (show (2147483587 : Int) ≠ 0 by decide), div_ok (show (137 : Int) ≠ 0 by decide) (by decide), div_ok (show (11 : Int) ≠ 0 by decide) (by decide), div_ok (show (64 : Int) ≠ 0 by decide) (by decide)]
/-- a hand -/
def HandI (h : D) : Prop := ∃ (cs : List Int) (p g t : Int), h = .hl [.lst (cs.map D.int), .int p, .int g, .int t] ∧ (∀ z ∈ cs, 0 ≤ z) ∧ cs.length ≤ 63 ∧ 0 ≤ p ∧ p ≤ 63 ∧ 0 ≤ g ∧ 0 ≤ t ∧ t < 2147483648
theorem hand_0 (cs : List Int) (t : Int) (h1 : ∀ z ∈ cs, 0 ≤ z) (h2 : cs.length ≤ 63) (h3 : 0 ≤ t) (h4 : t < 2147483648) : HandI (hand0 cs t) := ⟨cs, 0, 0, t, rfl, h1, h2, by omega, by omega, by omega, h3, h4⟩
theorem E_take (m : Int) (h : D) (hh : HandI h) (hm : 0 < m) (hm1 : m < 2 ^ 62) : ∃ r h', F__law_take [.me, .int m] h = .ok (.int r) h' ∧ 0 ≤ r ∧ r < m ∧ HandI h' := by
  obtain ⟨cs, p, g, t, rfl, hc, hl, p0, p1, g0, t0, t1⟩ := hh
  have hm0 : m ≠ 0 := by omega
  have mm := mod_ok (i := 0) hm0
  have md : ∀ i, cMod i m = true := fun i => mod_ok hm0
  have dd : ∀ i, cDiv i m = true := fun i => div_ok hm0 (by omega)
  have k1 : kLen [.lst (cs.map D.int)] = some (.int cs.length) := by
    show some (D.int ((cs.map D.int).length : Nat)) = _
    rw [List.length_map]
  -- the last way
  have last : ∀ p g, 0 ≤ p → p ≤ 63 → 0 ≤ g → ∃ q h', F__law_mixed [.int ((t + 1).fmod 2147483549), .int p] (.hl [.lst (cs.map D.int), .int p, .int g, .int ((t + 1).fmod 2147483549)]) = .ok (.int q) (.hl [.lst (cs.map D.int), .int p, .int g, .int ((t + 1).fmod 2147483549)]) ∧ h' = D.hl [.lst (cs.map D.int), .int p, .int g, .int ((t + 1).fmod 2147483549)] ∧ HandI h' := fun p g p0 p1 g0 => by
    obtain ⟨a0, a1⟩ := fm (a := t + 1) (show (0 : Int) < 2147483549 by decide)
    obtain ⟨q, e, _⟩ := E_mixed ((t + 1).fmod 2147483549) p (.hl [.lst (cs.map D.int), .int p, .int g, .int ((t + 1).fmod 2147483549)]) a0 (by omega) p0 (by omega)
    exact ⟨q, _, e, rfl, cs, p, g, _, rfl, hc, hl, p0, p1, g0, a0, by omega⟩
  have mt := mod_ok (i := t + 1) (show (2147483549 : Int) ≠ 0 by decide)
  by_cases hg : g = 0
  · subst hg
    by_cases hp : p < cs.length
    · obtain ⟨z, hz⟩ : ∃ z, cs[p.toNat]? = some z := ⟨cs[p.toNat], List.getElem?_eq_getElem (by omega)⟩
      have z0 := hc z (List.mem_of_getElem? hz)
      have ez : atI (cs.map D.int) p = some (.int z) := by
        have := atI_n (xs := cs.map D.int) (i := p.toNat) (x := .int z) (by rw [List.getElem?_map, hz]; rfl)
        rw [Int.toNat_of_nonneg p0] at this
        exact this
      by_cases h18 : z < 10 ^ 18
      · obtain ⟨a0, a1⟩ := fm (a := z) (show (0 : Int) < 2147483399 by decide)
        obtain ⟨q, e, _⟩ := E_mixed (z.fmod 2147483399) (p + 1) (.hl [.lst (cs.map D.int), .int (p + 1), .int 0, .int t]) a0 (by omega) (by omega) (by omega)
        refine ⟨q.fmod m, .hl [.lst (cs.map D.int), .int (p + 1), .int 0, .int t], ?_, (fm hm).1, (fm hm).2, cs, p + 1, 0, t, rfl, hc, hl, by omega, by omega, by omega, t0, t1⟩
        unfold F__law_take
        push_cast [eIxM, eM, sStM, at0, at1, at2, at3, ix41, k1, hp, ez, e, kInt, md, oIx, cPow, mod_ok (show (2147483399 : Int) ≠ 0 by decide), decide_true, decide_false]
      · have h18' : (decide (z < 10 ^ (18 : Int).toNat)) = false := decide_eq_false (by exact h18)
        have cp : (decide ((0:Int) ≤ 18) && (decide ((18:Int) ≤ 1000000) && decide ((10:Int).natAbs < 2 ^ 64))) = true := by decide
        have zp : (0 : Int) < z := by omega
        refine ⟨z.fmod m, .hl [.lst (cs.map D.int), .int (p + 1), .int (z.fdiv m), .int t], ?_, (fm hm).1, (fm hm).2, cs, p + 1, z.fdiv m, t, rfl, hc, hl, by omega, by omega, (fd hm z0).1, t0, t1⟩
        unfold F__law_take
        push_cast [eIxM, eM, sStM, at0, at1, at2, at3, ix41, ix42, k1, hp, ez, kInt, md, dd, oIx, cPow, cp, h18', zp, decide_true, decide_false]
    · obtain ⟨q, h', e, rfl, hi⟩ := last p 0 p0 p1 (by omega)
      refine ⟨q.fmod m, _, ?_, (fm hm).1, (fm hm).2, hi⟩
      have hz : ¬ (0 : Int) < 0 := by omega
      unfold F__law_take
      push_cast [eIxM, eM, sStM, at0, at1, at2, at3, ix43, k1, hp, e, kInt, md, mt, hz, decide_true, decide_false]
  · have gp : (0 : Int) < g := by omega
    refine ⟨g.fmod m, .hl [.lst (cs.map D.int), .int p, .int (g.fdiv m), .int t], ?_, (fm hm).1, (fm hm).2, cs, p, g.fdiv m, t, rfl, hc, hl, p0, p1, (fd hm g0).1, t0, t1⟩
    unfold F__law_take
    push_cast [eIxM, eM, sStM, at0, at1, at2, at3, ix42, hg, gp, kInt, md, dd, decide_true, decide_false]
end Lw
set_option exponentiation.threshold 20000
namespace Lw
end Lw
set_option exponentiation.threshold 20000
namespace Lw
open PySem PySem.Spec L2 Fw Pd
def Pl0 (n : Nat) (d : D) : Prop := ∃ q, toPy d = some q ∧ q.canLay0 = true ∧ q.depth ≤ n
theorem Pl0.mono {n m : Nat} {d : D} (h : Pl0 n d) (k : n ≤ m) : Pl0 m d := by
  obtain ⟨q, e1, e2, e3⟩ := h
  exact ⟨q, e1, e2, Nat.le_trans e3 k⟩
theorem pl_int (i : Int) : Pl0 0 (.int i) := ⟨.int i, by unfold toPy; rfl, by simp only [PyData.canLay0], by simp only [PyData.depth]; omega⟩
theorem pl_non : Pl0 0 .non := ⟨.none, by unfold toPy; rfl, by simp only [PyData.canLay0], by simp only [PyData.depth]; omega⟩
theorem pl_str {x : Str} (h : PyData.strOk x = true) : Pl0 0 (.str x) := ⟨.str x, by unfold toPy; rfl, by simp only [PyData.canLay0]; exact h, by simp only [PyData.depth]; omega⟩
theorem pl_all {n : Nat} : ∀ {ds : List D}, (∀ d ∈ ds, Pl0 n d) → ∃ qs, toPyL ds = some qs ∧ PyData.canLayAll0 qs = true ∧ PyData.depthAll qs ≤ n ∧ qs.length = ds.length ∧ ∀ (i : Nat) d q, ds[i]? = some d → qs[i]? = some q → toPy d = some q
  | [], _ => ⟨[], by unfold toPyL; rfl, by simp only [PyData.canLayAll0], by simp only [PyData.depthAll]; omega, rfl, fun i d q h => by simp at h⟩
  | d :: ds, k => by
    obtain ⟨q, e1, e2, e3⟩ := k d List.mem_cons_self
    obtain ⟨qs, f1, f2, f3, f4, f5⟩ := pl_all (ds := ds) fun x hx => k x (List.mem_cons_of_mem _ hx)
    refine ⟨q :: qs, by unfold toPyL; rw [e1, f1], ?_, ?_, by rw [List.length_cons, List.length_cons, f4], fun i x y hx hy => ?_⟩
    · simp only [PyData.canLayAll0, e2, f2, Bool.and_self]
    · simp only [PyData.depthAll]; omega
    · cases i with
      | zero => cases hx; cases hy; exact e1
      | succ i => exact f5 i x y hx hy
theorem pl_tup {n : Nat} {ds : List D} (k : ∀ d ∈ ds, Pl0 n d) : Pl0 (n + 1) (.tup ds) := by
  obtain ⟨qs, f1, f2, f3, _⟩ := pl_all k
  exact ⟨.tuple qs, by unfold toPy; rw [f1]; rfl, by simp only [PyData.canLay0, f2], by simp only [PyData.depth]; omega⟩
theorem pl_lst {n : Nat} {ds : List D} (k : ∀ d ∈ ds, Pl0 n d) : Pl0 (n + 1) (.lst ds) := by
  obtain ⟨qs, f1, f2, f3, _⟩ := pl_all k
  exact ⟨.list qs, by unfold toPy; rw [f1]; rfl, by simp only [PyData.canLay0, f2], by simp only [PyData.depth]; omega⟩
theorem pl_enc (k : Fg) (x : k.K) : Pl0 1 (enc k x) := by
  cases k with
  | q =>
    refine pl_tup fun d hd => ?_
    rcases List.mem_cons.mp hd with rfl | hd
    · exact pl_int _
    · rw [List.mem_singleton.mp hd]; exact pl_int _
  | m n h => exact (pl_int _).mono (by omega)
theorem pl_sh {n : Nat} {d : D} {q : PyData} (h : Pl0 n d) (hn : n ≤ 64) (e : toPy d = some q) : SeqAt.shaped q = true := by
  obtain ⟨q', e1, e2, e3⟩ := h
  rw [e] at e1
  cases e1
  unfold SeqAt.shaped
  rw [e2, decide_eq_true (show q.depth ≤ 64 by omega)]
  rfl
/-- two plain things, compared -/
def eqB (x y : D) : Bool := (eqD x y).getD false
theorem eq_pl {n : Nat} {x y : D} (hx : Pl0 n x) (hy : Pl0 n y) (hn : n ≤ 64) : eqD x y = some (eqB x y) := by
  obtain ⟨p, e1, _⟩ := id hx
  obtain ⟨q, e2, _⟩ := id hy
  unfold eqB eqD
  rw [e1, e2]
  simp only [pl_sh hx hn e1, pl_sh hy hn e2, Bool.and_self, if_true]
  rfl
def inB (ds : List D) (d : D) : Bool := ds.any fun x => eqB x d
theorem in_pl {n : Nat} {ds : List D} {d : D} (hs : ∀ x ∈ ds, Pl0 n x) (hd : Pl0 n d) (hn : n + 1 ≤ 64) : inP d (.tup ds) = some (inB ds d) ∧ inP d (.lst ds) = some (inB ds d) := by
  obtain ⟨p, e1, _⟩ := id hd
  obtain ⟨qs, f1, f2, f3, f4, f5⟩ := pl_all hs
  have t1 : toPy (.tup ds) = some (.tuple qs) := by unfold toPy; rw [f1]; rfl
  have t2 : toPy (.lst ds) = some (.list qs) := by unfold toPy; rw [f1]; rfl
  have s0 := pl_sh hd (by omega) e1
  have s1 := pl_sh (pl_tup hs) hn t1
  have s2 := pl_sh (pl_lst hs) hn t2
  have ea : (qs.any fun z => PyData.eqv z p) = inB ds d := by
    unfold inB
    rw [Bool.eq_iff_iff, List.any_eq_true, List.any_eq_true]
    have one : ∀ (i : Nat) x z, ds[i]? = some x → qs[i]? = some z → eqB x d = PyData.eqv z p := fun i x z hx hz => by
      have ex := f5 i x z hx hz
      have hm := hs x (List.mem_of_getElem? hx)
      unfold eqB eqD
      rw [ex, e1]
      simp only [pl_sh hm (by omega) ex, s0, Bool.and_self, if_true]
      rfl
    constructor
    · rintro ⟨z, hz, ez⟩
      obtain ⟨i, hi, rfl⟩ := List.getElem_of_mem hz
      have hi2 : i < ds.length := by omega
      exact ⟨ds[i], List.getElem_mem hi2, by rw [one i ds[i] qs[i] (List.getElem?_eq_getElem hi2) (List.getElem?_eq_getElem hi)]; exact ez⟩
    · rintro ⟨x, hx, ex⟩
      obtain ⟨i, hi, rfl⟩ := List.getElem_of_mem hx
      have hi2 : i < qs.length := by omega
      exact ⟨qs[i], List.getElem_mem hi2, by rw [← one i ds[i] qs[i] (List.getElem?_eq_getElem hi) (List.getElem?_eq_getElem hi2)]; exact ex⟩
  unfold inP
  rw [e1, t1, t2]
  simp only [seqP, s0, s1, s2, Bool.and_self, if_true, ea, and_self]
def ptD (k : Fg) (o : Option k.K) : D := match o with
  | none => .str "last"
  | some x => enc k x
end Lw
set_option exponentiation.threshold 20000
namespace Lw
open PySem PySem.Spec L2 Fw Pd
theorem ixN_last {n : Nat} : ixN (n + 1) (-1) = some n := by
  unfold ixN
  rw [if_neg (by omega), if_pos (by omega)]
  congr 1
  omega
end Lw
set_option exponentiation.threshold 20000
namespace Lw
open PySem PySem.Spec L2 Fw Pd
section
variable {K : Type} [Fd K]
def rpS (c : Nat → K) (y : K) : Nat → K := fun j => (if j = 0 then 0 else c (j - 1)) - y * c j
def rp (L : List K) : Nat → K := L.foldl rpS fun j => del j 0
theorem Sm_shift {f : Nat → K} : ∀ {n : Nat}, Sm (n + 1) f = f 0 + Sm n fun i => f (i + 1)
  | 0 => by show (0 : K) + f 0 = f 0 + 0; grind
  | n + 1 => by
    show Sm (n + 1) f + f (n + 1) = f 0 + (Sm n (fun i => f (i + 1)) + f (n + 1))
    rw [Sm_shift]; grind
end
end Lw
set_option exponentiation.threshold 20000
namespace Lw
open PySem PySem.Spec L2 Fw Pd
end Lw
set_option exponentiation.threshold 20000
namespace Lw
open PySem PySem.Spec L2 Fw Pd
end Lw
set_option exponentiation.threshold 20000
namespace Lw
open PySem PySem.Spec L2 Fw Pd Dz
theorem isa_ni : isaB "NoneType" "int" = false := by decide +kernel
theorem isa_nb : isaB "NoneType" "bool" = false := by decide +kernel
theorem isa_ns : isaB "NoneType" "str" = false := by decide +kernel
theorem isa_nt : isaB "NoneType" "tuple" = false := by decide +kernel
theorem isa_nl : isaB "NoneType" "list" = false := by decide +kernel
theorem isa_bi : isaB "bool" "int" = true := by decide +kernel
theorem isa_bb : isaB "bool" "bool" = true := by decide +kernel
theorem isa_bs : isaB "bool" "str" = false := by decide +kernel
theorem isa_bt : isaB "bool" "tuple" = false := by decide +kernel
theorem isa_bl : isaB "bool" "list" = false := by decide +kernel
theorem isa_ii : isaB "int" "int" = true := by decide +kernel
theorem isa_ib : isaB "int" "bool" = false := by decide +kernel
theorem isa_is : isaB "int" "str" = false := by decide +kernel
theorem isa_it : isaB "int" "tuple" = false := by decide +kernel
theorem isa_il : isaB "int" "list" = false := by decide +kernel
theorem isa_si : isaB "str" "int" = false := by decide +kernel
theorem isa_sb : isaB "str" "bool" = false := by decide +kernel
theorem isa_ss : isaB "str" "str" = true := by decide +kernel
theorem isa_st : isaB "str" "tuple" = false := by decide +kernel
theorem isa_sl : isaB "str" "list" = false := by decide +kernel
theorem isa_ti : isaB "tuple" "int" = false := by decide +kernel
theorem isa_tb : isaB "tuple" "bool" = false := by decide +kernel
theorem isa_ts : isaB "tuple" "str" = false := by decide +kernel
theorem isa_tt : isaB "tuple" "tuple" = true := by decide +kernel
theorem isa_tl : isaB "tuple" "list" = false := by decide +kernel
theorem isa_li : isaB "list" "int" = false := by decide +kernel
theorem isa_lb : isaB "list" "bool" = false := by decide +kernel
theorem isa_ls : isaB "list" "str" = false := by decide +kernel
theorem isa_lt : isaB "list" "tuple" = false := by decide +kernel
theorem isa_ll : isaB "list" "list" = true := by decide +kernel
theorem wh_nn (i : Int) (h : D) : F_is_whole [.int i, .non, .non] h = .ok (.bl true) h := by unfold F_is_whole; push_cast [isa_ni, isa_nb, isa_ns, isa_nt, isa_nl, isa_bi, isa_bb, isa_bs, isa_bt, isa_bl, isa_ii, isa_ib, isa_is, isa_it, isa_il, isa_si, isa_sb, isa_ss, isa_st, isa_sl, isa_ti, isa_tb, isa_ts, isa_tt, isa_tl, isa_li, isa_lb, isa_ls, isa_lt, isa_ll]
theorem wh_in (i l : Int) (h : D) : F_is_whole [.int i, .int l, .non] h = .ok (.bl (decide (l ≤ i))) h := by
  unfold F_is_whole
  by_cases c : l ≤ i
  · push_cast [isa_ni, isa_nb, isa_ns, isa_nt, isa_nl, isa_bi, isa_bb, isa_bs, isa_bt, isa_bl, isa_ii, isa_ib, isa_is, isa_it, isa_il, isa_si, isa_sb, isa_ss, isa_st, isa_sl, isa_ti, isa_tb, isa_ts, isa_tt, isa_tl, isa_li, isa_lb, isa_ls, isa_lt, isa_ll, c]
  · push_cast [isa_ni, isa_nb, isa_ns, isa_nt, isa_nl, isa_bi, isa_bb, isa_bs, isa_bt, isa_bl, isa_ii, isa_ib, isa_is, isa_it, isa_il, isa_si, isa_sb, isa_ss, isa_st, isa_sl, isa_ti, isa_tb, isa_ts, isa_tt, isa_tl, isa_li, isa_lb, isa_ls, isa_lt, isa_ll, c]
theorem wh_ii (i l u : Int) (h : D) : F_is_whole [.int i, .int l, .int u] h = .ok (.bl (decide (l ≤ i) && decide (i ≤ u))) h := by
  unfold F_is_whole
  by_cases c : l ≤ i
  · by_cases d : i ≤ u
    · push_cast [isa_ni, isa_nb, isa_ns, isa_nt, isa_nl, isa_bi, isa_bb, isa_bs, isa_bt, isa_bl, isa_ii, isa_ib, isa_is, isa_it, isa_il, isa_si, isa_sb, isa_ss, isa_st, isa_sl, isa_ti, isa_tb, isa_ts, isa_tt, isa_tl, isa_li, isa_lb, isa_ls, isa_lt, isa_ll, c, d]
    · push_cast [isa_ni, isa_nb, isa_ns, isa_nt, isa_nl, isa_bi, isa_bb, isa_bs, isa_bt, isa_bl, isa_ii, isa_ib, isa_is, isa_it, isa_il, isa_si, isa_sb, isa_ss, isa_st, isa_sl, isa_ti, isa_tb, isa_ts, isa_tt, isa_tl, isa_li, isa_lb, isa_ls, isa_lt, isa_ll, c, d]
  · push_cast [isa_ni, isa_nb, isa_ns, isa_nt, isa_nl, isa_bi, isa_bb, isa_bs, isa_bt, isa_bl, isa_ii, isa_ib, isa_is, isa_it, isa_il, isa_si, isa_sb, isa_ss, isa_st, isa_sl, isa_ti, isa_tb, isa_ts, isa_tt, isa_tl, isa_li, isa_lb, isa_ls, isa_lt, isa_ll, c]
theorem ra_q (x : Rat) (h : D) : F_is_ratio [encQ x] h = .ok (.bl true) h := by
  have h1 := wh_nn x.num h
  have h2 := wh_in x.den 1 h
  have p := x.den_pos
  have h3 : (1 : Int) ≤ (x.den : Int) := by omega
  have g : Nat.gcd x.num.natAbs x.den = 1 := x.reduced
  have g2 : (x.den : Int).natAbs = x.den := Int.natAbs_natCast _
  rw [decide_eq_true h3] at h2
  unfold encQ F_is_ratio
  push_cast [isa_ni, isa_nb, isa_ns, isa_nt, isa_nl, isa_bi, isa_bb, isa_bs, isa_bt, isa_bl, isa_ii, isa_ib, isa_is, isa_it, isa_il, isa_si, isa_sb, isa_ss, isa_st, isa_sl, isa_ti, isa_tb, isa_ts, isa_tt, isa_tl, isa_li, isa_lb, isa_ls, isa_lt, isa_ll, h1, h2, g, g2]
end Lw
set_option exponentiation.threshold 20000
namespace Lw
open PySem PySem.Spec L2 Fw Pd Dz
/-- a thing: is it a number of these figures, is it "last" -/
structure Thg (k : Fg) (d : D) (nb la : Bool) : Prop where
  fr : d.fr = true
  pl : Pl0 2 d
  num : ∀ h, F_Figures_is_number [fig k, d] h = .ok (.bl nb) h
  last : eqD d (.str "last") = some la
  law : (isS "str" d = some true ∧ nb = false) ∨ (isS "str" d = some false ∧ ∀ h, F__law_numbers [.int k.p, .tup [d], .int 1] h = .ok (.bl nb) h)
  ex : la = true → nb = false
theorem num_q (d h : D) (b : Bool) (fr : d.fr = true) (e : ∀ h, F_is_ratio [d] h = .ok (.bl b) h) : F_Figures_is_number [fig .q, d] h = .ok (.bl b) h := by
  have v : vD (some (some d)) h = .ok d h := vD_fr fr
  have vm : vmD (some (some d)) h = .ok d h := vmD_fr fr
  unfold F_Figures_is_number
  push_cast [fig_vd, fig_p, pq, v, vm, e]
theorem num_m {n : Nat} {hn} (d h : D) (b : Bool) (fr : d.fr = true) (e : ∀ h, F_is_whole [d, .int 0, .int ((Fg.m n hn).p - 1)] h = .ok (.bl b) h) : F_Figures_is_number [fig (.m n hn), d] h = .ok (.bl b) h := by
  have v : vD (some (some d)) h = .ok d h := vD_fr fr
  have vm : vmD (some (some d)) h = .ok d h := vmD_fr fr
  have p0 : ¬ (Fg.m n hn).p = 0 := by rw [pm]; omega
  obtain ⟨p, ep⟩ : ∃ p, p = (Fg.m n hn).p := ⟨_, rfl⟩
  unfold F_Figures_is_number
  push_cast [fig_vd, fig_p, p0, v, vm, e]
end Lw
set_option exponentiation.threshold 20000
namespace Lw
open PySem PySem.Spec L2 Fw Pd Dz
/-- a list or a tuple -/
def sqD (b : Bool) (ds : List D) : D := if b then .lst ds else .tup ds
end Lw
set_option exponentiation.threshold 20000
namespace Lw
open PySem PySem.Spec L2 Fw Pd Dz
end Lw
set_option exponentiation.threshold 20000
namespace Lw
open PySem PySem.Spec L2 Fw Pd Dz
/-- small points -/
def Sml (k : Fg) (o : Option k.K) : Prop := ∀ x, o = some x → (ht k x ≤ 7 ∧ hd k x ≤ 1) ∨ (ht k x ≤ 2 ∧ hd k x ≤ 2)
theorem Sml.ht {k : Fg} {o : Option k.K} (s : Sml k o) (x : k.K) (e : o = some x) : ht k x ≤ 7 := by
  rcases s x e with ⟨h, _⟩ | ⟨h, _⟩ <;> omega
/-- points and strange things -/
inductive Th (k : Fg) where
  | pt (o : Option k.K)
  | od (d : D)
def Th.d {k : Fg} : Th k → D
  | .pt o => ptD k o
  | .od d => d
def Th.nb {k : Fg} : Th k → Bool
  | .pt (some _) => true
  | _ => false
def Th.ok {k : Fg} : Th k → Prop
  | .pt o => Sml k o
  | .od d => Thg k d false false
end Lw
set_option exponentiation.threshold 20000
namespace Lw
open PySem PySem.Spec L2 Fw Pd Dz
theorem dx_n : dropX none = none := rfl
theorem frzL_2 {a b : D} (ha : a.fr = true) (hb : b.fr = true) : frzL [a, b] = [a, b] := by
  have one : ∀ d : D, d.fr = true → frz d = d := fun d e => by cases d <;> first | rfl | cases e
  unfold frzL
  rw [one a ha]
  unfold frzL
  rw [one b hb]
  rfl
end Lw
set_option exponentiation.threshold 20000
namespace Lw
open PySem PySem.Spec L2 Fw Pd Dz
end Lw
set_option exponentiation.threshold 20000
namespace Lw
open PySem PySem.Spec L2 Fw Pd Dz
theorem for_inv' {bind : D → DE → Option DE} {body : SF} (I : Nat → DE → D → Prop) {d : Nat → D} : ∀ (n s : Nat) (δ : DE) (h : D), (∀ i, s ≤ i → i < s + n → ∀ δ h, I i δ h → ∃ δ1, bind (d i) δ = some δ1 ∧ ∃ δ2 h2, body δ1 h = .nx δ2 h2 ∧ I (i + 1) δ2 h2) → I s δ h → ∃ δ' h', forGo bind body (gen n fun i => d (s + i)) δ h = .nx δ' h' ∧ I (s + n) δ' h'
  | 0, s, δ, h, _, i0 => ⟨δ, h, rfl, i0⟩
  | n + 1, s, δ, h, st, i0 => by
    obtain ⟨δ1, e1, δ2, h2, e2, i1⟩ := st s (Nat.le_refl _) (by omega) δ h i0
    obtain ⟨δ', h', e3, i2⟩ := for_inv' (bind := bind) (body := body) I (d := d) n (s + 1) δ2 h2 (fun i h1 h2 => st i (by omega) (by omega)) i1
    refine ⟨δ', h', ?_, by rw [show s + (n + 1) = s + 1 + n by omega]; exact i2⟩
    have eg : (gen n fun i => d (s + (i + 1))) = gen n fun i => d (s + 1 + i) := gen_congr fun i _ => by rw [show s + (i + 1) = s + 1 + i by omega]
    rw [gen_succ, eg, forGo, Nat.add_zero]
    simp only [e1, e2, e3]
theorem for_draw {bind : D → DE → Option DE} {body : SF} (I : Nat → DE → D → Prop) {d : Nat → D} {n : Nat} {δ : DE} {h : D} (st : ∀ i, i < n → ∀ δ h, I i δ h → ∃ δ1, bind (d i) δ = some δ1 ∧ ∃ δ2 h2, body δ1 h = .nx δ2 h2 ∧ I (i + 1) δ2 h2) (i0 : I 0 δ h) : ∃ δ' h', forGo bind body (gen n d) δ h = .nx δ' h' ∧ I n δ' h' := by
  have := for_inv' (bind := bind) (body := body) I (d := d) n 0 δ h (fun i _ h2 => st i (by omega)) i0
  simp only [Nat.zero_add] at this
  exact this
theorem E_figures (h : D) (hh : HandI h) : ∃ (k : Fg) (h' : D), F__law_figures [.me] h = .ok (.int k.p) h' ∧ HandI h' := by
  obtain ⟨r, h', e, r0, r1, hi⟩ := E_take 12 h hh (by decide) (by decide)
  have key : ∃ k : Fg, atI [D.int 0, .int 5, .int 3, .int 7, .int 0, .int 5, .int 2, .int 13, .int 5, .int 3, .int 0, .int 11] r = some (.int k.p) := by
    have : r = 0 ∨ r = 1 ∨ r = 2 ∨ r = 3 ∨ r = 4 ∨ r = 5 ∨ r = 6 ∨ r = 7 ∨ r = 8 ∨ r = 9 ∨ r = 10 ∨ r = 11 := by omega
    rcases this with rfl | rfl | rfl | rfl | rfl | rfl | rfl | rfl | rfl | rfl | rfl | rfl
    · exact ⟨.q, rfl⟩
    · exact ⟨.m 3 (by decide), rfl⟩
    · exact ⟨.m 1 (by decide), rfl⟩
    · exact ⟨.m 5 (by decide), rfl⟩
    · exact ⟨.q, rfl⟩
    · exact ⟨.m 3 (by decide), rfl⟩
    · exact ⟨.m 0 (by decide), rfl⟩
    · exact ⟨.m 11 (by decide), rfl⟩
    · exact ⟨.m 3 (by decide), rfl⟩
    · exact ⟨.m 1 (by decide), rfl⟩
    · exact ⟨.q, rfl⟩
    · exact ⟨.m 9 (by decide), rfl⟩
  obtain ⟨k, ek⟩ := key
  refine ⟨k, h', ?_, hi⟩
  unfold F__law_figures
  push_cast [e, ek]
theorem E_init (k : Fg) : F_Figures___init__ [.me, .int k.p] (.ins "Figures" []) = .ok .non (fig k) := by
  cases k with
  | q => rfl
  | m n hn => rcases hn with rfl | rfl | rfl | rfl | rfl | rfl <;> rfl
theorem E_make (k : Fg) (δ : DE) (h : D) (i : Nat) (hi : δ[i]? = some (some (.int k.p))) : eMake "Figures" 2 F_Figures___init__ [] (eCons (eV i) eNil) δ h = .ok (fig k) h := by
  have e := E_init k
  rw [eMake_a]
  push_cast [hi, e]
  rfl
end Lw
set_option exponentiation.threshold 20000
namespace Lw
open PySem PySem.Spec L2 Fw Pd Dz
def upd {k : Fg} (t : Nat → Th k) (j : Nat) (u : Th k) : Nat → Th k := fun i => if i = j then u else t i
end Lw
set_option exponentiation.threshold 20000
namespace Lw
open PySem PySem.Spec L2 Fw Pd Dz
def rI (i : Int) : Rat := ⟨i, 1, by decide, Nat.coprime_one_right _⟩
end Lw
set_option exponentiation.threshold 20000
namespace Lw
open PySem PySem.Spec L2 Fw Pd Dz
theorem eq_self {n : Nat} {d : D} (h : Pl0 n d) (hn : n ≤ 64) : eqD d d = some true := by
  obtain ⟨q, e1, e2, e3⟩ := id h
  rw [eq_pl h h hn]
  unfold eqB eqD
  rw [e1]
  simp only [pl_sh h hn e1, Bool.and_self, if_true, Option.getD_some, SeqAt.eqv_refl q e2]
/-- what the law's own comparison reads -/
def Exd : Nat → D → Prop
  | 0, _ => False
  | n + 1, d => (∃ i, d = .int i) ∨ (∃ s, d = .str s ∧ PyData.strOk s = true) ∨ ∃ ds, d = .tup ds ∧ ds.length ≤ 900 ∧ ∀ x ∈ ds, Exd n x
theorem eq_nil : eqD (.lst []) (.lst []) = some true := rfl
theorem str_self {s : Str} (h : PyData.strOk s = true) : eqD (.str s) (.str s) = some true := eq_self (pl_str h) (by omega)
theorem Exd.up : ∀ {n : Nat} {d : D}, Exd n d → Exd (n + 1) d
  | 0, _, e => e.elim
  | n + 1, _, .inl e => .inl e
  | n + 1, _, .inr (.inl e) => .inr (.inl e)
  | n + 1, _, .inr (.inr ⟨ds, e, l, k⟩) => .inr (.inr ⟨ds, e, l, fun x hx => (k x hx).up⟩)
theorem Exd.le {n m : Nat} {d : D} (h : Exd n d) (k : n ≤ m) : Exd m d := by
  obtain ⟨j, rfl⟩ : ∃ j, m = n + j := ⟨m - n, by omega⟩
  clear k
  induction j with
  | zero => exact h
  | succ j ih => exact ih.up
end Lw
set_option exponentiation.threshold 20000
namespace Lw
open PySem PySem.Spec L2 Fw Pd Dz
theorem E_fplus (k : Fg) (a b : k.K) (h : D) (hs : ht k a + ht k b ≤ 8000) : F_Figures_plus [fig k, enc k a, enc k b] h = .ok (enc k (a + b)) h := by
  cases k with
  | q =>
    have a1 := hq_num a
    have a2 := hq_den a
    have b1 := hq_num b
    have b2 := hq_den b
    replace hs : hq a + hq b ≤ 8000 := hs
    have m1 : cMul a.num b.den = true := cMul_b (by rw [Int.natAbs_natCast]; omega)
    have m2 : cMul b.num a.den = true := cMul_b (by rw [Int.natAbs_natCast]; omega)
    have m3 : cMul (a.den : Int) b.den = true := cMul_b (by rw [Int.natAbs_natCast, Int.natAbs_natCast]; omega)
    have bm := bt_mul a.den b.den
    have er := E_low (a.num * b.den + b.num * a.den) (a.den * b.den) h (Int.mul_ne_zero (den_ne a) (den_ne b)) (by rw [Int.natAbs_mul, Int.natAbs_natCast, Int.natAbs_natCast]; omega)
    rw [← q_add] at er
    rw [encQ_a, encQ_a, encQ_a]
    unfold F_Figures_plus F_ratio_plus
    unfold encQ at er ⊢
    push_cast [fig_p, pq, m1, m2, m3, er]
  | m n hn =>
    have h0 : ¬ ((n + 2 : Nat) : Int) = 0 := by omega
    have e := fv_add a b
    rw [encM_a, encM_a, encM_a]
    unfold F_Figures_plus
    push_cast [fig_p, pm, h0, e]
/-- small enough to be summed -/
structure Lk (k : Fg) (c : Nat) (x : Nat → k.K) : Prop where
  n : c ≤ 1000
  h : ∀ j, j < c → ht k (x j) ≤ 4000
  d : 1 + sumN c (fun i => hd k (x i)) ≤ 4000
theorem E_scaled (k : Fg) (c : Nat) (a : k.K) (x : Nat → k.K) (h : D) (hc : c ≤ 1000) (hs : ∀ j, j < c → ht k a + ht k (x j) ≤ 8000) : F_row_scaled [fig k, enc k a, erow k c x] h = .ok (erow k c fun j => a * x j) h := by
  have e : ∀ j, j < c → ∀ h, F_Figures_times [fig k, enc k a, enc k (x j)] h = .ok (enc k (a * x j)) h := fun j hj h => E_ftimes k a (x j) h (hs j hj)
  unfold F_row_scaled erow
  push_cast [fig_vd, eMeth_f, md_times, enc_vm, e]
theorem E_rowsum (k : Fg) (c : Nat) (x y : Nat → k.K) (h : D) (hc : c ≤ 1000) (hs : ∀ j, j < c → ht k (x j) + ht k (y j) ≤ 8000) : F_row_sum [fig k, erow k c x, erow k c y] h = .ok (erow k c fun j => x j + y j) h := by
  have e : ∀ j, j < c → ∀ h, F_Figures_plus [fig k, enc k (x j), enc k (y j)] h = .ok (enc k (x j + y j)) h := fun j hj h => E_fplus k (x j) (y j) h (hs j hj)
  unfold F_row_sum erow
  push_cast [fig_vd, eMeth_f, md_plus, enc_vm, e]
end Lw
set_option exponentiation.threshold 20000
namespace Lw
open PySem PySem.Spec L2 Fw Pd Dz
theorem eMake_ok {nm : Str} {n : Nat} {F : Fn} {dd : List D} {fs : EF (List D)} {δ : DE} {h h1 : D} {ds : List D} {xs : List (Str × D)} (e1 : fs δ h = .ok ds h1) (e2 : F (.me :: (ds ++ dd)) (.ins nm []) = .ok .non (.ins nm xs)) (e3 : (D.me :: (ds ++ dd)).length = n) : eMake nm n F dd fs δ h = .ok (.ins nm xs) h1 := by
  unfold eMake
  rw [e1]
  show (if (D.me :: (ds ++ dd)).length = n then _ else _) = _
  rw [if_pos e3, e2]
  exact if_pos rfl
theorem mapF_at {f : Nat → D → Ex D} {g : Nat → D} {h : D} : ∀ (n s : Nat), (∀ i, s ≤ i → i < s + n → f i h = .ok (g i) h) → mapF f s n h = .ok (gen n fun i => g (s + i)) h
  | 0, _, _ => rfl
  | n + 1, s, k => by
    unfold mapF
    rw [k s (Nat.le_refl _) (by omega)]
    have ih := mapF_at (f := f) (g := g) (h := h) n (s + 1) fun i h1 h2 => k i (by omega) (by omega)
    show (mapF f (s + 1) n h).bind _ = _
    rw [ih, gen_succ]
    show Ex.ok _ h = _
    congr 1
    rw [Nat.add_zero]
    congr 1
    exact gen_congr fun i _ => by rw [show s + 1 + i = s + (i + 1) by omega]
/-- with a hand that stays -/
theorem mapN_at {n : Nat} {f : Nat → D → Ex D} {g : Nat → D} {h : D} (k : ∀ i, i < n → f i h = .ok (g i) h) : mapN n f h = .ok (gen n g) h := by
  unfold mapN
  rw [mapF_at n 0 fun i _ h2 => k i (by omega)]
  congr 1
  exact gen_congr fun i _ => by rw [Nat.zero_add]
theorem E_isnum (k : Fg) (x : k.K) (h : D) : F_Figures_is_number [fig k, enc k x] h = .ok (.bl true) h := by
  cases k with
  | q => exact num_q _ h true (enc_fr .q x) fun h => ra_q x h
  | m n hn =>
    refine num_m _ h true (enc_fr _ x) fun h => ?_
    have e := wh_ii (x.val : Int) 0 ((Fg.m n hn).p - 1) h
    have h1 : (0 : Int) ≤ (x.val : Int) := by omega
    have h2 : (x.val : Int) ≤ (Fg.m n hn).p - 1 := by have := fv_lt x; rw [pm]; omega
    rw [decide_eq_true h1, decide_eq_true h2] at e
    exact e
theorem E_isseq (b : Bool) (ds : List D) (h : D) : F_is_sequence [sqD b ds] h = .ok (.bl true) h := by
  cases b <;> (unfold sqD F_is_sequence; push_cast [isa_ni, isa_nb, isa_ns, isa_nt, isa_nl, isa_bi, isa_bb, isa_bs, isa_bt, isa_bl, isa_ii, isa_ib, isa_is, isa_it, isa_il, isa_si, isa_sb, isa_ss, isa_st, isa_sl, isa_ti, isa_tb, isa_ts, isa_tt, isa_tl, isa_li, isa_lb, isa_ls, isa_lt, isa_ll])
theorem sq_vd {b : Bool} {ds : List D} {h : D} : vD (some (some (sqD b ds))) h = .ok (sqD b ds) h := by cases b <;> rfl
theorem sq_vm {b : Bool} {ds : List D} {h : D} : vmD (some (some (sqD b ds))) h = .ok (sqD b ds) h := by cases b <;> rfl
theorem sq_len {b : Bool} {n : Nat} {f : Nat → D} : kLen [sqD b (gen n f)] = some (.int (n : Int)) := by cases b <;> first | exact kLen_t _ |>.trans (by rw [gen_len]) | exact kLen_l _ |>.trans (by rw [gen_len])
theorem sq_tup {b : Bool} {ds : List D} : Fw.kTup [sqD b ds] = some (.tup ds) := by cases b <;> rfl
theorem sq_it {b : Bool} {ds : List D} : itS (sqD b ds) = some ds := by cases b <;> rfl
theorem sq_en {b : Bool} {n : Nat} {f : Nat → D} : kEnum [sqD b (gen n f)] = some (gen n fun i => .tup [.int (i : Int), f i]) := by cases b <;> first | exact en_t | exact en_l
def srow (k : Fg) (b : Bool) (c : Nat) (x : Nat → k.K) : D := sqD b (gen c fun j => enc k (x j))
theorem srow_vd {k : Fg} {b : Bool} {c : Nat} {x : Nat → k.K} {h : D} : vD (some (some (srow k b c x))) h = .ok (srow k b c x) h := sq_vd
theorem srow_vm {k : Fg} {b : Bool} {c : Nat} {x : Nat → k.K} {h : D} : vmD (some (some (srow k b c x))) h = .ok (srow k b c x) h := sq_vm
theorem srow_len {k : Fg} {b : Bool} {c : Nat} {x : Nat → k.K} : kLen [srow k b c x] = some (.int (c : Int)) := sq_len
theorem srow_tup {k : Fg} {b : Bool} {c : Nat} {x : Nat → k.K} : Fw.kTup [srow k b c x] = some (erow k c x) := sq_tup
theorem srow_it {k : Fg} {b : Bool} {c : Nat} {x : Nat → k.K} : itS (srow k b c x) = some (gen c fun j => enc k (x j)) := sq_it
theorem E_allnum (k : Fg) (b : Bool) (c : Nat) (x : Nat → k.K) (h : D) (hc : c ≤ 1000) : F_all_are_numbers [fig k, srow k b c x] h = .ok (.bl true) h := by
  have e : ∀ j h, F_Figures_is_number [fig k, enc k (x j)] h = .ok (.bl true) h := fun j h => E_isnum k (x j) h
  have ea : (gen c fun _ => true).all id = true := all_true fun _ _ => rfl
  unfold F_all_are_numbers
  push_cast [fig_vd, srow_vd, srow_it, eMeth_f, md_is_number, enc_vm, e, ea]
theorem E_isrow (k : Fg) (b : Bool) (c : Nat) (x : Nat → k.K) (h : D) (hc : c ≤ 1000) : F_is_number_row [fig k, srow k b c x, .int c] h = .ok (.bl true) h := by
  have e1 : F_is_sequence [srow k b c x] h = .ok (.bl true) h := E_isseq b _ h
  have e2 := E_allnum k b c x h hc
  unfold F_is_number_row
  push_cast [fig_vm, srow_vd, srow_vm, srow_len, e1, e2]
end Lw
set_option exponentiation.threshold 20000
namespace Lw
open PySem PySem.Spec L2 Fw Pd Dz
structure Pr4 (k : Fg) where
  u : Nat → k.K
  v : Nat → k.K
  a : k.K
  b : k.K
def Pr4.d {k : Fg} (r c : Nat) (P : Pr4 k) : D := .tup [erow k r P.u, erow k c P.v, enc k P.a, enc k P.b]
def Pr4.fl {k : Fg} (P : Pr4 k) : Pr4 k := ⟨P.v, P.u, P.a, P.b⟩
def prgH (k : Fg) (r c : Nat) : D := .ins "Program" [("figures", fig k), ("rows", .int r), ("columns", .int c)]
def prgX (k : Fg) (r c : Nat) (ds : List D) : List (Str × D) := [("figures", fig k), ("rows", .int r), ("columns", .int c), ("products", .tup ds)]
def prgD (k : Fg) (r c n : Nat) (P : Nat → Pr4 k) : D := .ins "Program" (prgX k r c (gen n fun i => (P i).d r c))
theorem prd_vd {k : Fg} {r c : Nat} {P : Pr4 k} {h : D} : vD (some (some (P.d r c))) h = .ok (P.d r c) h := (rfl)
theorem prd_vm {k : Fg} {r c : Nat} {P : Pr4 k} {h : D} : vmD (some (some (P.d r c))) h = .ok (P.d r c) h := (rfl)
theorem prg_vd {k : Fg} {r c n : Nat} {P : Nat → Pr4 k} {h : D} : vD (some (some (prgD k r c n P))) h = .ok (prgD k r c n P) h := (rfl)
theorem prg_vm {k : Fg} {r c n : Nat} {P : Nat → Pr4 k} {h : D} : vmD (some (some (prgD k r c n P))) h = .ok (prgD k r c n P) h := (rfl)
theorem prg_f {k : Fg} {r c n : Nat} {P : Nat → Pr4 k} {h : D} : atvD (some (some (prgD k r c n P))) "figures" h = .ok (fig k) h := (rfl)
theorem prg_r {k : Fg} {r c n : Nat} {P : Nat → Pr4 k} {h : D} : atvD (some (some (prgD k r c n P))) "rows" h = .ok (.int r) h := (rfl)
theorem prg_c {k : Fg} {r c n : Nat} {P : Nat → Pr4 k} {h : D} : atvD (some (some (prgD k r c n P))) "columns" h = .ok (.int c) h := (rfl)
theorem prg_p {k : Fg} {r c n : Nat} {P : Nat → Pr4 k} {h : D} : atvD (some (some (prgD k r c n P))) "products" h = .ok (.tup (gen n fun i => (P i).d r c)) h := (rfl)
/-- as a caller may hand it in -/
def Pr4.s {k : Fg} (b1 b2 b3 : Bool) (r c : Nat) (P : Pr4 k) : D := sqD b1 [srow k b2 r P.u, srow k b3 c P.v, enc k P.a, enc k P.b]
theorem prh_f {k : Fg} {r c : Nat} : atvD (some (some .me)) "figures" (prgH k r c) = .ok (fig k) (prgH k r c) := (rfl)
theorem prh_r {k : Fg} {r c : Nat} : atvD (some (some .me)) "rows" (prgH k r c) = .ok (.int r) (prgH k r c) := (rfl)
theorem prh_c {k : Fg} {r c : Nat} : atvD (some (some .me)) "columns" (prgH k r c) = .ok (.int c) (prgH k r c) := (rfl)
theorem E_chkprd (k : Fg) (b2 b3 : Bool) (r c : Nat) (P : Pr4 k) (i : Int) (hr : r ≤ 1000) (hc : c ≤ 1000) : F_check_product [.me, P.s false b2 b3 r c, .int i] (prgH k r c) = .ok (P.d r c) (prgH k r c) := by
  have e1 := E_isrow k b2 r P.u (prgH k r c) hr
  have e2 := E_isrow k b3 c P.v (prgH k r c) hc
  have e3 := E_isnum k P.a (prgH k r c)
  have e4 := E_isnum k P.b (prgH k r c)
  have e0 : F_is_sequence [.tup [srow k b2 r P.u, srow k b3 c P.v, enc k P.a, enc k P.b]] (prgH k r c) = .ok (.bl true) (prgH k r c) := E_isseq false _ _
  have n4 : ((4 : Nat) : Int) = 4 := rfl
  unfold F_check_product
  show runF _ _ [.me, .tup [srow k b2 r P.u, srow k b3 c P.v, enc k P.a, enc k P.b], .int i] _ = Ex.ok (D.tup [erow k r P.u, erow k c P.v, enc k P.a, enc k P.b]) _
  push_cast [prh_f, prh_r, prh_c, e0, n4, srow_vd, srow_vm, fig_vd, fig_vm, enc_vd, enc_vm, e1, e2, eMeth_f, md_is_number, e3, e4, srow_tup]
def sideP (k : Fg) (r : Nat) : Prop := 1 ≤ r ∧ r ≤ 5 ∧ (k = .q ∨ (r : Int) ≤ k.p)
theorem E_side (k : Fg) (r : Nat) (h : D) (hs : sideP k r) : F_is_side [fig k, .int r] h = .ok (.bl true) h := by
  obtain ⟨h1, h2, h3⟩ := hs
  have e := wh_ii (r : Int) 1 5 h
  have c1 : (1 : Int) ≤ (r : Int) := by omega
  have c2 : (r : Int) ≤ 5 := by omega
  rw [decide_eq_true c1, decide_eq_true c2] at e
  unfold F_is_side
  cases k with
  | q => push_cast [fig_p, pq, e]
  | m n hn =>
    have h0 : ¬ ((n + 2 : Nat) : Int) = 0 := by omega
    have h3 : (r : Int) ≤ ((n + 2 : Nat) : Int) := h3.resolve_left fun z => nomatch z
    push_cast [fig_p, pm, e, h0, h3]
theorem E_prog (k : Fg) (b : Bool) (r c n : Nat) (ds : Nat → D) (P : Nat → Pr4 k) (hr : sideP k r) (hc : sideP k c) (hn : n ≤ 30) (hd : ∀ i, i < n → ∃ b2 b3, ds i = (P i).s false b2 b3 r c) :
    F_Program___init__ [.me, fig k, .int r, .int c, sqD b (gen n ds)] (.ins "Program" []) = .ok .non (prgD k r c n P) := by
  have e1 := E_side k r (.ins "Program" []) hr
  have e2 := E_side k c (.ins "Program" []) hc
  have e3 := E_isseq b (gen n ds) (.ins "Program" [])
  have hn' : ¬ (30 : Int) < (n : Int) := by omega
  have ek : ∀ i, i < n → F_check_product [.me, ds i, .int i] (prgH k r c) = .ok ((P i).d r c) (prgH k r c) := fun i hi => by
    obtain ⟨b2, b3, e⟩ := hd i hi
    rw [e]
    exact E_chkprd k b2 b3 r c (P i) i (by have := hr.2.1; omega) (by have := hc.2.1; omega)
  have fr : ∀ i, i < n → (ds i).fr = true := fun i hi => by
    obtain ⟨b2, b3, e⟩ := hd i hi
    rw [e]; rfl
  unfold F_Program___init__
  obtain ⟨x1, q1⟩ : ∃ x, x = ([("figures", fig k)] : List (Str × D)) := ⟨_, rfl⟩
  obtain ⟨x2, q2⟩ : ∃ x, x = ([("figures", fig k), ("rows", .int r)] : List (Str × D)) := ⟨_, rfl⟩
  obtain ⟨x3, q3⟩ : ∃ x, x = ([("figures", fig k), ("rows", .int r), ("columns", .int c)] : List (Str × D)) := ⟨_, rfl⟩
  have p1 : putD "figures" (fig k) [] = x1 := by rw [q1]; rfl
  have p2 : putD "rows" (.int r) x1 = x2 := by rw [q1, q2]; rfl
  have p3 : putD "columns" (.int c) x2 = x3 := by rw [q3, q2]; rfl
  have p4 : ∀ ds, putD "products" (.tup ds) x3 = prgX k r c ds := fun ds => by rw [q3]; rfl
  have m1 : x1.length = 1 := by rw [q1]; rfl
  have m2 : x2.length = 2 := by rw [q2]; rfl
  have m3 : x3.length = 3 := by rw [q3]; rfl
  have hx : prgH k r c = .ins "Program" x3 := by rw [q3]; rfl
  have l1 : (0 : Nat) < 900 := by omega
  have l2 : (1 : Nat) < 900 := by omega
  have l3 : (2 : Nat) < 900 := by omega
  have l4 : (3 : Nat) < 900 := by omega
  push_cast [fig_vd, fig_vm, sq_vd, sq_vm, e1, e2, e3, sq_len, hn', p1, p2, p3, m1, m2, m3, l1, l2, l3, l4, sq_en]
  rw [mapN_at (g := fun i => (P i).d r c) ?_]
  · push_cast [p4, m3, l4]
    rfl
  · intro i hi
    have ek := ek i hi
    have fr := fr i hi
    have vd : ∀ h, vD (some (some (ds i))) h = .ok (ds i) h := fun h => vD_fr fr
    have vm : ∀ h, vmD (some (some (ds i))) h = .ok (ds i) h := fun h => vmD_fr fr
    rw [hx] at ek
    push_cast [vd, vm, ek]
end Lw
set_option exponentiation.threshold 20000
namespace Lw
open PySem PySem.Spec L2 Fw Pd Dz
theorem ht_Sm (k : Fg) (f : Nat → k.K) (B : Nat) : ∀ n, (∀ i, i < n → ht k (f i) ≤ B) → ht k (Sm n f) ≤ 1 + n * (B + 1)
  | 0, _ => by have := ht_zero k; show ht k 0 ≤ _; omega
  | n + 1, b => by
    have h1 := ht_Sm k f B n fun i hi => b i (by omega)
    have h2 := b n (by omega)
    have h3 := ht_add k (Sm n f) (f n)
    show ht k (Sm n f + f n) ≤ _
    rw [Nat.succ_mul]
    omega
end Lw
set_option exponentiation.threshold 20000
namespace Lw
open PySem PySem.Spec L2 Fw Pd Dz
end Lw
set_option exponentiation.threshold 20000
namespace Lw
open PySem PySem.Spec L2 Fw Pd Dz
end Lw
set_option exponentiation.threshold 20000
namespace Lw
open PySem PySem.Spec L2 Fw Pd Dz
end Lw
set_option exponentiation.threshold 20000
namespace Lw
open PySem PySem.Spec L2 Fw Pd Dz
end Lw
set_option exponentiation.threshold 20000
namespace Lw
open PySem PySem.Spec L2 Fw Pd Dz
def ltab (k : Fg) (r c : Nat) (A : Nat → Nat → k.K) : D := .lst (gen r fun i => .lst (gen c fun j => enc k (A i j)))
/-- a table that is still held -/
def htab (k : Fg) (r c : Nat) (A : Nat → Nat → k.K) : D := .hl (gen r fun i => .hl (gen c fun j => enc k (A i j)))
theorem E_blank (k : Fg) (r c : Nat) (h : D) (hr : r ≤ 900) (hc : c ≤ 900) : F__law_blank [.int k.p, .int r, .int c] h = .ok (htab k r c fun _ _ => 0) h := by
  have e : ∀ h, F__law_num [.int k.p, .int 0] h = .ok (enc k 0) h := fun h => E_num0 k h
  unfold F__law_blank htab
  push_cast [e]
end Lw
set_option exponentiation.threshold 20000
namespace Lw
open PySem PySem.Spec L2 Fw Pd Dz
def upd2 {K : Type} (A : Nat → Nat → K) (i j : Nat) (x : K) : Nat → Nat → K := fun a b => if a = i ∧ b = j then x else A a b
theorem htab_set {k : Fg} {r c : Nat} {A : Nat → Nat → k.K} {i j : Nat} {x : k.K} : D.hl ((gen r fun a => D.hl (gen c fun b => enc k (A a b))).set i (.hl ((gen c fun b => enc k (A i b)).set j (enc k x)))) = htab k r c (upd2 A i j x) := by
  rw [gen_set, gen_set]
  unfold htab upd2
  congr 1
  refine gen_congr fun a ha => ?_
  by_cases e : a = i
  · subst e
    rw [if_pos rfl]
    congr 1
    refine gen_congr fun b hb => ?_
    by_cases e : b = j
    · rw [if_pos e, if_pos ⟨rfl, e⟩]
    · rw [if_neg e, if_neg fun z => e z.2]
  · rw [if_neg e]
    congr 1
    refine gen_congr fun b hb => ?_
    rw [if_neg fun z => e z.1]
def suIn : SF := (sSt (pIx (pV 5) (eV 7)) (eV 9) (eCall 3 F__law_plus [] (eCons (eVm 0) (eCons (ePl (pIx (pIx (pV 5) (eV 7)) (eV 9))) (eCons (eCall 3 F__law_times [] (eCons (eVm 0) (eCons (eVm 8) (eCons (eOp oIx (eOp oIx (eV 6) (eC (.int 1))) (eV 9)) eNil)))) eNil)))))
theorem su_in (k : Fg) (r c i j : Nat) (A : Nat → Nat → k.K) (P : Pr4 k) (sh : k.K) (x1 x2 x3 x4 : Option D) (h : D) (hi : i < r) (hj : j < c) (hr : r ≤ 900) (hc : c ≤ 900) (b1 : ht k sh + ht k (P.v j) ≤ 8000) (b2 : ht k (A i j) + (ht k sh + ht k (P.v j)) ≤ 8000) :
    suIn [some (.int k.p), x1, x2, x3, x4, some (htab k r c A), some (P.d r c), some (.int (i : Int)), some (enc k sh), some (.int (j : Int))] h = .nx [some (.int k.p), x1, x2, x3, x4, some (htab k r c (upd2 A i j (A i j + sh * P.v j))), some (P.d r c), some (.int (i : Int)), some (enc k sh), some (.int (j : Int))] h := by
  have e1 := E_times k sh (P.v j) h b1
  have q := ht_mul k sh (P.v j)
  have e2 := E_plus k (A i j) (sh * P.v j) h (by omega)
  have pd : P.d r c = .tup [erow k r P.u, erow k c P.v, enc k P.a, enc k P.b] := rfl
  rw [← htab_set]
  unfold suIn
  rw [pd]
  unfold htab
  push_cast [erow_vd, enc_vm, erow_ix, gen_get, enc_fr, e1, e2]
end Lw
set_option exponentiation.threshold 20000
namespace Lw
open PySem PySem.Spec L2 Fw Pd Dz
theorem htab_congr {k : Fg} {r c : Nat} {A B : Nat → Nat → k.K} (e : ∀ i j, i < r → j < c → A i j = B i j) : htab k r c A = htab k r c B := by
  unfold htab
  congr 1
  refine gen_congr fun i hi => ?_
  congr 1
  exact gen_congr fun j hj => by rw [e i j hi hj]
def Pr4.co {k : Fg} (P : Pr4 k) (w : Bool) : k.K := if w then P.b else P.a
def suMid : SF := (sSeq (sSet 8 (eCall 3 F__law_times [] (eCons (eVm 0) (eCons (eOp oIx (eV 6) (eV 4)) (eCons (eOp oIx (eOp oIx (eV 6) (eC (.int 0))) (eV 7)) eNil)))))
    (sFor (iRg rg1 (eCons (eV 2) eNil)) (bNm 9) suIn))
theorem su_mid (k : Fg) (r c i : Nat) (A : Nat → Nat → k.K) (P : Pr4 k) (w : Bool) (x1 x3 x8 x9 : Option D) (h : D) (S T : Nat) (hi : i < r) (hr : r ≤ 900) (hc : c ≤ 900) (b0 : ht k (P.co w) + ht k (P.u i) ≤ T) (b1 : ∀ j, j < c → T + ht k (P.v j) ≤ S) (b2 : ∀ j, j < c → ht k (A i j) + S ≤ 8000) (hS : S ≤ 8000) (hT : T ≤ 8000) :
    ∃ y8 y9, suMid [some (.int k.p), x1, some (.int c), x3, some (.int (if w then 3 else 2)), some (htab k r c A), some (P.d r c), some (.int (i : Int)), x8, x9] h = .nx [some (.int k.p), x1, some (.int c), x3, some (.int (if w then 3 else 2)), some (htab k r c fun a b => if a = i then A a b + P.co w * P.u i * P.v b else A a b), some (P.d r c), some (.int (i : Int)), y8, y9] h := by
  have q0 := ht_mul k (P.co w) (P.u i)
  have e1 := E_times k (P.co w) (P.u i) h (by omega)
  have lp := for_gen0 (h := h) (bind := bNm 9) (body := suIn) (d := fun j => .int (j : Int)) (n := c)
    (fun m => [some (.int k.p), x1, some (.int c), x3, some (.int (if w then 3 else 2)), some (htab k r c fun a b => if a = i ∧ b < m then A a b + P.co w * P.u i * P.v b else A a b), some (P.d r c), some (.int (i : Int)), some (enc k (P.co w * P.u i)), lv x9 (fun j => .int (j : Int)) m]) fun m hm => by
      have c1 := b1 m hm
      have c2 := b2 m hm
      have nm : ¬ (i = i ∧ m < m) := fun z => Nat.lt_irrefl _ z.2
      have s := su_in k r c i m (fun a b => if a = i ∧ b < m then A a b + P.co w * P.u i * P.v b else A a b) P (P.co w * P.u i) x1 (some (.int c)) x3 (some (.int (if w then 3 else 2))) h hi hm hr hc (by omega) (by
        show ht k (if i = i ∧ m < m then A i m + P.co w * P.u i * P.v m else A i m) + _ ≤ 8000
        rw [if_neg nm]
        omega)
      refine ⟨_, rfl, ?_⟩
      show suIn [some (.int k.p), x1, some (.int c), x3, some (.int (if w then 3 else 2)), _, some (P.d r c), some (.int (i : Int)), some (enc k (P.co w * P.u i)), some (.int (m : Int))] h = _
      rw [s]
      have eU : upd2 (fun a b => if a = i ∧ b < m then A a b + P.co w * P.u i * P.v b else A a b) i m ((if i = i ∧ m < m then A i m + P.co w * P.u i * P.v m else A i m) + P.co w * P.u i * P.v m) = fun a b => if a = i ∧ b < m + 1 then A a b + P.co w * P.u i * P.v b else A a b := by
        funext a b
        unfold upd2
        rw [if_neg nm]
        by_cases z : a = i ∧ b = m
        · obtain ⟨rfl, rfl⟩ := z
          rw [if_pos ⟨rfl, rfl⟩, if_pos ⟨rfl, by omega⟩]
        · rw [if_neg z]
          show (if a = i ∧ b < m then A a b + P.co w * P.u i * P.v b else A a b) = _
          by_cases y : a = i ∧ b < m
          · rw [if_pos y, if_pos ⟨y.1, by omega⟩]
          · rw [if_neg y, if_neg fun v => z ⟨v.1, (by
              have h2 := v.2
              by_cases h3 : b < m
              · exact (y ⟨v.1, h3⟩).elim
              · omega)⟩]
      rw [eU]
      rfl
  have z0 : (fun a b => if a = i ∧ b < 0 then A a b + P.co w * P.u i * P.v b else A a b) = A := by
    funext a b
    rw [if_neg fun z => Nat.not_lt_zero _ z.2]
  simp only [lv_0] at lp
  rw [z0] at lp
  have fin : (htab k r c fun a b => if a = i ∧ b < c then A a b + P.co w * P.u i * P.v b else A a b) = htab k r c fun a b => if a = i then A a b + P.co w * P.u i * P.v b else A a b := htab_congr fun a b ha hb => by
    by_cases z : a = i
    · rw [if_pos ⟨z, hb⟩, if_pos z]
    · rw [if_neg (fun y => z y.1), if_neg z]
  rw [fin] at lp
  have pd : P.d r c = .tup [erow k r P.u, erow k c P.v, enc k P.a, enc k P.b] := rfl
  refine ⟨some (enc k (P.co w * P.u i)), lv x9 (fun j => .int (j : Int)) c, ?_⟩
  unfold suMid
  rw [pd] at lp ⊢
  unfold Pr4.co at e1 lp ⊢
  cases w
  · simp only [if_false, Bool.false_eq_true] at e1 lp ⊢
    push_cast [erow_vd, erow_ix, enc_vm, e1, lp]
  · simp only [if_true] at e1 lp ⊢
    push_cast [erow_vd, erow_ix, enc_vm, e1, lp]
theorem frzL_h {k : Fg} {c : Nat} : ∀ {r : Nat} {A : Nat → Nat → k.K}, frzL (gen r fun i => .hl (gen c fun j => enc k (A i j))) = gen r fun i => .lst (gen c fun j => enc k (A i j))
  | 0, _ => rfl
  | r + 1, A => by
    rw [gen_succ, gen_succ]
    have ih := frzL_h (k := k) (c := c) (r := r) (A := fun i => A (i + 1))
    show D.lst (frzL (gen c fun j => enc k (A 0 j))) :: frzL (gen r fun i => .hl (gen c fun j => enc k (A (i + 1) j))) = _
    rw [ih, frzL_gen fun j => enc_fr k _]
theorem E_summed (k : Fg) (w : Bool) (r c n : Nat) (P : Nat → Pr4 k) (h : D) (C U V : Nat) (hr : r ≤ 900) (hc : c ≤ 900) (hn : n ≤ 900) (hC : ∀ t, t < n → ht k ((P t).co w) ≤ C) (hU : ∀ t i, t < n → i < r → ht k ((P t).u i) ≤ U) (hV : ∀ t j, t < n → j < c → ht k ((P t).v j) ≤ V) (hB : 1 + (n + 1) * (C + U + V + 1) ≤ 8000) :
    F__law_summed [.int k.p, .int r, .int c, .tup (gen n fun t => (P t).d r c), .int (if w then 3 else 2)] h = .ok (ltab k r c fun i j => Sm n fun t => (P t).co w * (P t).u i * (P t).v j) h := by
  have e0 := E_blank k r c h hr hc
  have bS : ∀ m, m ≤ n → ∀ i j, i < r → j < c → ht k (Sm m fun t => (P t).co w * (P t).u i * (P t).v j) ≤ 1 + m * (C + U + V + 1) := fun m hm i j hi hj => ht_Sm k _ _ m fun t ht' => by
    have h1 := ht_mul k ((P t).co w * (P t).u i) ((P t).v j)
    have h2 := ht_mul k ((P t).co w) ((P t).u i)
    have h3 := hC t (by omega)
    have h4 := hU t i (by omega) hi
    have h5 := hV t j (by omega) hj
    omega
  have pos1 : C + U + V + 1 ≤ (n + 1) * (C + U + V + 1) := Nat.le_mul_of_pos_left _ (by omega)
  have lp := for_draw (bind := bNm 6) (body := (sFor (iRg rg1 (eCons (eV 1) eNil)) (bNm 7) suMid)) (d := fun t => (P t).d r c) (n := n) (h := h) (δ := [some (.int k.p), some (.int r), some (.int c), some (.tup (gen n fun t => (P t).d r c)), some (.int (if w then 3 else 2)), some (htab k r c fun _ _ => 0), none, none, none, none])
    (fun m δ h' => h' = h ∧ ∃ y6 y7 y8 y9, δ = [some (.int k.p), some (.int r), some (.int c), some (.tup (gen n fun t => (P t).d r c)), some (.int (if w then 3 else 2)), some (htab k r c fun i j => Sm m fun t => (P t).co w * (P t).u i * (P t).v j), y6, y7, y8, y9]) (fun m hm δ h' ⟨eh, y6, y7, y8, y9, eδ⟩ => by
      subst eδ eh
      refine ⟨_, rfl, ?_⟩
      have st : 1 + m * (C + U + V + 1) + (C + U + V) ≤ 8000 := by
        have q : (m + 1) * (C + U + V + 1) ≤ (n + 1) * (C + U + V + 1) := Nat.mul_le_mul_right _ (by omega)
        rw [Nat.succ_mul] at q
        omega
      obtain ⟨δ2, h2, l2, eh2, z7, z8, z9, eδ2⟩ := for_draw (bind := bNm 7) (body := suMid) (d := fun i => .int (i : Int)) (n := r) (h := h') (δ := [some (.int k.p), some (.int r), some (.int c), some (.tup (gen n fun t => (P t).d r c)), some (.int (if w then 3 else 2)), some (htab k r c fun i j => Sm m fun t => (P t).co w * (P t).u i * (P t).v j), some ((P m).d r c), y7, y8, y9])
        (fun i δ h2 => h2 = h' ∧ ∃ y7 y8 y9, δ = [some (.int k.p), some (.int r), some (.int c), some (.tup (gen n fun t => (P t).d r c)), some (.int (if w then 3 else 2)), some (htab k r c fun a b => if a < i then Sm (m + 1) fun t => (P t).co w * (P t).u a * (P t).v b else Sm m fun t => (P t).co w * (P t).u a * (P t).v b), some ((P m).d r c), y7, y8, y9]) (fun i hi δ h2 ⟨eh2, z7, z8, z9, eδ⟩ => by
          subst eδ eh2
          refine ⟨_, rfl, ?_⟩
          have ni : ¬ i < i := Nat.lt_irrefl i
          obtain ⟨w8, w9, e⟩ := su_mid k r c i (fun a b => if a < i then Sm (m + 1) fun t => (P t).co w * (P t).u a * (P t).v b else Sm m fun t => (P t).co w * (P t).u a * (P t).v b) (P m) w (some (.int r)) (some (.tup (gen n fun t => (P t).d r c))) z8 z9 h2 (C + U + V) (C + U) hi hr hc (by have := hC m hm; have := hU m i hm hi; omega) (fun j hj => by have := hV m j hm hj; omega) (fun j hj => by
            simp only [if_neg ni]
            have := bS m (by omega) i j hi hj
            omega) (by omega) (by omega)
          refine ⟨_, h2, e, rfl, some (.int (i : Int)), w8, w9, ?_⟩
          have eA : (fun a b => if a = i then (if a < i then Sm (m + 1) fun t => (P t).co w * (P t).u a * (P t).v b else Sm m fun t => (P t).co w * (P t).u a * (P t).v b) + (P m).co w * (P m).u i * (P m).v b else if a < i then Sm (m + 1) fun t => (P t).co w * (P t).u a * (P t).v b else Sm m fun t => (P t).co w * (P t).u a * (P t).v b) = fun a b => if a < i + 1 then Sm (m + 1) fun t => (P t).co w * (P t).u a * (P t).v b else Sm m fun t => (P t).co w * (P t).u a * (P t).v b := by
            funext a b
            by_cases z : a = i
            · subst z
              rw [if_pos rfl, if_neg (Nat.lt_irrefl a), if_pos (Nat.lt_succ_self a)]
              rfl
            · rw [if_neg z]
              by_cases y : a < i
              · rw [if_pos y, if_pos (by omega)]
              · rw [if_neg y, if_neg (by omega)]
          rw [eA]) ⟨rfl, y7, y8, y9, by
            have z0 : (fun a b => if a < 0 then Sm (m + 1) fun t => (P t).co w * (P t).u a * (P t).v b else Sm m fun t => (P t).co w * (P t).u a * (P t).v b) = fun i j => Sm m fun t => (P t).co w * (P t).u i * (P t).v j := by
              funext a b
              rw [if_neg (Nat.not_lt_zero a)]
            rw [z0]⟩
      subst eh2 eδ2
      rw [show (htab k r c fun a b => if a < r then Sm (m + 1) fun t => (P t).co w * (P t).u a * (P t).v b else Sm m fun t => (P t).co w * (P t).u a * (P t).v b) = htab k r c fun i j => Sm (m + 1) fun t => (P t).co w * (P t).u i * (P t).v j from htab_congr fun a b ha hb => by rw [if_pos ha]] at l2
      refine ⟨[some (.int k.p), some (.int r), some (.int c), some (.tup (gen n fun t => (P t).d r c)), some (.int (if w then 3 else 2)), some (htab k r c fun i j => Sm (m + 1) fun t => (P t).co w * (P t).u i * (P t).v j), some ((P m).d r c), z7, z8, z9], h2, ?_, rfl, some ((P m).d r c), z7, z8, z9, rfl⟩
      show (sFor (iRg rg1 (eCons (eV 1) eNil)) (bNm 7) suMid) [some (.int k.p), some (.int r), some (.int c), some (.tup (gen n fun t => (P t).d r c)), some (.int (if w then 3 else 2)), some (htab k r c fun i j => Sm m fun t => (P t).co w * (P t).u i * (P t).v j), some ((P m).d r c), y7, y8, y9] h2 = _
      push_cast [l2]) ⟨rfl, none, none, none, none, rfl⟩
  obtain ⟨δ', h', l1, eh, y6, y7, y8, y9, eδ⟩ := lp
  subst eh eδ
  show runF 10 (sSeq (sSet 5 (eCall 3 F__law_blank [] (eCons (eVm 0) (eCons (eVm 1) (eCons (eVm 2) eNil)))))
    (sSeq (sFor (iSeq (eV 3)) (bNm 6) (sFor (iRg rg1 (eCons (eV 1) eNil)) (bNm 7) suMid)) (sFrz 5 (sRet (eV 5))))) _ _ = _
  unfold htab at e0 l1
  unfold ltab
  push_cast [e0, l1, frzL_h]
end Lw
set_option exponentiation.threshold 20000
namespace Lw
open PySem PySem.Spec L2 Fw Pd Dz
theorem pl_row {k : Fg} {c : Nat} {x : Nat → k.K} : Pl0 2 (.lst (gen c fun j => enc k (x j))) := pl_lst fun d hd => by
  obtain ⟨i, _, rfl⟩ := gen_mem.mp hd
  exact pl_enc k _
theorem pl_ltab {k : Fg} {r c : Nat} {A : Nat → Nat → k.K} : Pl0 3 (ltab k r c A) := pl_lst fun d hd => by
  obtain ⟨i, _, rfl⟩ := gen_mem.mp hd
  exact pl_row
theorem ltab_congr {k : Fg} {r c : Nat} {A B : Nat → Nat → k.K} (e : ∀ i j, i < r → j < c → A i j = B i j) : ltab k r c A = ltab k r c B := by
  unfold ltab
  congr 1
  refine gen_congr fun i hi => ?_
  congr 1
  exact gen_congr fun j hj => by rw [e i j hi hj]
end Lw
set_option exponentiation.threshold 20000
namespace Lw
open PySem PySem.Spec L2 Fw Pd Dz
theorem E_plen (k : Fg) (r c n : Nat) (P : Nat → Pr4 k) (h : D) : F_Program___len__ [prgD k r c n P] h = .ok (.int n) h := by
  unfold F_Program___len__
  push_cast [prg_p]
structure SmP {k : Fg} (r c : Nat) (P : Pr4 k) (B : Nat) : Prop where
  u : ∀ i, i < r → ht k (P.u i) ≤ B
  v : ∀ j, j < c → ht k (P.v j) ≤ B
  a : ht k P.a ≤ B
  b : ht k P.b ≤ B
end Lw
set_option exponentiation.threshold 20000
namespace Lw
open PySem PySem.Spec L2 Fw Pd Dz
theorem lc_drawF {bind : D → DE → Option DE} {elt : EF D} {δ : DE} {I : D → Prop} {R : Nat → D → Prop} {d : Nat → D} : ∀ (n s : Nat) (h : D), I h → (∀ i, s ≤ i → i < s + n → ∀ h, I h → ∃ δ2, bind (d i) δ = some δ2 ∧ ∃ y h', elt δ2 h = .ok y h' ∧ R i y ∧ I h') →
    ∃ (g : Nat → D) (h' : D), lcGo bind tYesD elt δ (gen n fun i => d (s + i)) h = .ok (gen n fun i => g (s + i)) h' ∧ (∀ i, s ≤ i → i < s + n → R i (g i)) ∧ I h'
  | 0, s, h, ih, _ => ⟨fun _ => .non, h, rfl, fun i h1 h2 => by omega, ih⟩
  | n + 1, s, h, ih, k => by
    obtain ⟨δ2, e1, y, h1, e2, r, i1⟩ := k s (Nat.le_refl _) (by omega) h ih
    obtain ⟨g, h2, e3, rs, i2⟩ := lc_drawF n (s + 1) h1 i1 fun i a b => k i (by omega) (by omega)
    refine ⟨fun i => if i = s then y else g i, h2, ?_, fun i a b => ?_, i2⟩
    · have eg : (gen n fun i => d (s + (i + 1))) = gen n fun i => d (s + 1 + i) := gen_congr fun i _ => by rw [show s + (i + 1) = s + 1 + i by omega]
      rw [gen_succ, gen_succ, Nat.add_zero]
      simp only [if_true]
      rw [eg]
      unfold lcGo
      simp only [e1, tYesD, nox_okE, bind_okE, if_true, e2, e3]
      congr 2
      exact gen_congr fun i _ => by rw [if_neg (show ¬ s + (i + 1) = s by omega), show s + (i + 1) = s + 1 + i by omega]
    · show R i (if i = s then y else g i)
      by_cases z : i = s
      · rw [if_pos z, z]; exact r
      · rw [if_neg z]; exact rs i (by omega) (by omega)
theorem lc_draw {bind : D → DE → Option DE} {elt : EF D} {δ : DE} {I : D → Prop} {R : Nat → D → Prop} {d : Nat → D} (n : Nat) (h : D) (ih : I h) (k : ∀ i, i < n → ∀ h, I h → ∃ δ2, bind (d i) δ = some δ2 ∧ ∃ y h', elt δ2 h = .ok y h' ∧ R i y ∧ I h') :
    ∃ (g : Nat → D) (h' : D), lcGo bind tYesD elt δ (gen n d) h = .ok (gen n g) h' ∧ (∀ i, i < n → R i (g i)) ∧ I h' := by
  obtain ⟨g, h', e, r, i⟩ := lc_drawF (bind := bind) (elt := elt) (δ := δ) (I := I) (R := R) (d := d) n 0 h ih fun i _ b => k i (by omega)
  refine ⟨g, h', ?_, fun i b => r i (by omega) (by omega), i⟩
  rw [show (gen n fun i => d (0 + i)) = gen n d from gen_congr fun i _ => by rw [Nat.zero_add], show (gen n fun i => g (0 + i)) = gen n g from gen_congr fun i _ => by rw [Nat.zero_add]] at e
  exact e
theorem gen_enc {k : Fg} {n : Nat} {g : Nat → D} {Q : k.K → Prop} (r : ∀ i, i < n → ∃ x, g i = enc k x ∧ Q x) : ∃ x : Nat → k.K, gen n g = gen n (fun i => enc k (x i)) ∧ ∀ i, i < n → Q (x i) := by
  refine ⟨fun i => if hi : i < n then Classical.choose (r i hi) else 0, gen_congr fun i hi => ?_, fun i hi => ?_⟩
  · simp only [dif_pos hi]
    exact (Classical.choose_spec (r i hi)).1
  · simp only [dif_pos hi]
    exact (Classical.choose_spec (r i hi)).2
theorem fr_small {t : Int} {b : Nat} (hb : 1 ≤ b) (h1 : t.natAbs ≤ 3) (h2 : b ≤ 3) : hq (Rat.divInt t b) ≤ 2 := by
  have h := hq_div t (b := b) (by omega)
  have e1 : bt t.natAbs ≤ 2 := bt_le (by omega)
  have e2 : bt (b : Int).natAbs ≤ 2 := bt_le (by rw [Int.natAbs_natCast]; omega)
  omega
theorem E_number (k : Fg) (h : D) (hh : HandI h) : ∃ (x : k.K) (h' : D), F__law_number [.me, .int k.p] h = .ok (enc k x) h' ∧ ht k x ≤ 2 ∧ HandI h' := by
  cases k with
  | q =>
    obtain ⟨r1, h1, e1, p0, p1, i1⟩ := E_take 7 h hh (by decide) (by decide)
    obtain ⟨r2, h2, e2, q0, q1, i2⟩ := E_take 4 h1 i1 (by decide) (by decide)
    have n0 : ¬ (0 : Int) < 0 := by omega
    by_cases z : r2 = 0
    · obtain ⟨r3, h3, e3, s0, s1, i3⟩ := E_take 2 h2 i2 (by decide) (by decide)
      obtain ⟨s, rfl⟩ : ∃ s : Nat, r3 = s := ⟨r3.toNat, by omega⟩
      have c2 : (2 : Int) + (s : Int) = ((s + 2 : Nat) : Int) := by omega
      have er := E_ratio (r1 - 3) ((s + 2 : Nat) : Int) h3 (by omega) (by rw [Int.natAbs_natCast]; exact Nat.le_trans (bt_le (b := 2) (by omega)) (by omega))
      refine ⟨Rat.divInt (r1 - 3) ((s + 2 : Nat) : Int), h3, ?_, fr_small (by omega) (by omega) (by omega), i3⟩
      subst z
      rw [encQ_a]
      unfold F__law_number
      push_cast [pq, n0, e1, e2, e3, c2, er]
    · refine ⟨((r1 - 3 : Int) : Rat), h2, ?_, ?_, i2⟩
      · have : enc .q ((r1 - 3 : Int) : Rat) = .tup [.int (r1 - 3), .int 1] := rfl
        rw [this]
        unfold F__law_number
        push_cast [pq, n0, e1, e2, z]
      · show hq ((r1 - 3 : Int) : Rat) ≤ 2
        have := fr_small (t := r1 - 3) (b := 1) (by omega) (by omega) (by omega)
        rw [Rat.divInt_eq_div] at this
        have e : ((r1 - 3 : Int) : Rat) / (((1 : Nat) : Int) : Rat) = ((r1 - 3 : Int) : Rat) := by
          rw [show (((1 : Nat) : Int) : Rat) = 1 from rfl, Rat.div_def, show (1 : Rat)⁻¹ = 1 by decide +kernel, Rat.mul_one]
        rw [e] at this
        exact this
  | m n hn =>
    have hp := pm_le hn
    obtain ⟨r1, h1, e1, p0, p1, i1⟩ := E_take ((n + 2 : Nat) : Int) h hh (by omega) (by omega)
    obtain ⟨s, rfl⟩ : ∃ s : Nat, r1 = s := ⟨r1.toNat, by omega⟩
    have n0 : (0 : Int) < ((n + 2 : Nat) : Int) := by omega
    refine ⟨⟨s, by omega⟩, h1, ?_, by rw [htM_a]; omega, i1⟩
    rw [encM_a]
    unfold F__law_number
    push_cast [pm, n0, e1]
end Lw
set_option exponentiation.threshold 20000
namespace Lw
open PySem PySem.Spec L2 Fw Pd Dz
end Lw
set_option exponentiation.threshold 20000
namespace Lw
open PySem PySem.Spec L2 Fw Pd Dz
end Lw
set_option exponentiation.threshold 20000
namespace Lw
open PySem PySem.Spec L2 Fw Pd Dz
end Lw
set_option exponentiation.threshold 20000
namespace Lw
open PySem PySem.Spec L2 Fw Pd Dz
theorem five {P : D → Prop} {a b c d e : D} {r : Int} (r0 : 0 ≤ r) (r1 : r < 5) (ha : P a) (hb : P b) (hc : P c) (hd : P d) (he : P e) : ∃ x, atI [a, b, c, d, e] r = some x ∧ P x := by
  have : r = 0 ∨ r = 1 ∨ r = 2 ∨ r = 3 ∨ r = 4 := by omega
  rcases this with rfl | rfl | rfl | rfl | rfl
  · exact ⟨_, rfl, ha⟩
  · exact ⟨_, rfl, hb⟩
  · exact ⟨_, rfl, hc⟩
  · exact ⟨_, rfl, hd⟩
  · exact ⟨_, rfl, he⟩
end Lw
set_option exponentiation.threshold 20000
namespace Lw
open PySem PySem.Spec L2 Fw Pd Dz
end Lw
set_option exponentiation.threshold 20000
namespace Lw
open PySem PySem.Spec L2 Fw Pd Dz
end Lw
set_option exponentiation.threshold 20000
namespace Lw
open PySem PySem.Spec L2 Fw Pd Dz
def highN (k : Fg) : Nat := match k with
  | .q => 5
  | .m n _ => min 5 (n + 2)
theorem high_le (k : Fg) : highN k ≤ 5 := by cases k with
  | q => exact Nat.le_refl _
  | m n hn => exact Nat.min_le_left _ _
end Lw
set_option exponentiation.threshold 20000
namespace Lw
open PySem PySem.Spec L2 Fw Pd Dz
end Lw
set_option exponentiation.threshold 20000
namespace Lw
open PySem PySem.Spec L2 Fw Pd Dz
end Lw
set_option exponentiation.threshold 20000
namespace Lw
open PySem PySem.Spec L2 Fw Pd Dz
end Lw
set_option exponentiation.threshold 20000
namespace Lw
open PySem PySem.Spec L2 Fw Pd Dz
end Lw
set_option exponentiation.threshold 20000
namespace Lw
open PySem PySem.Spec L2 Fw Pd Dz
end Lw
set_option exponentiation.threshold 20000
namespace Lw
open PySem PySem.Spec L2 Fw Pd Dz
def t3 (u : Int) : Nat → Rat := fun j => if j = 0 then ic .q u else if j = 3 then ic .q 1 else ic .q 0
def t2 (u v : Int) : Nat → Rat := fun j => if j = 0 then ic .q u else if j = 1 then ic .q v else if j = 2 then ic .q 1 else ic .q 0
end Lw
set_option exponentiation.threshold 20000
namespace Lw
open PySem PySem.Spec L2 Fw Pd Dz
end Lw
set_option exponentiation.threshold 20000
namespace Lw
open PySem PySem.Spec L2 Fw Pd Dz
end Lw
set_option exponentiation.threshold 20000
namespace Lw
open PySem PySem.Spec L2 Fw Pd Dz
/-- what is no lot of n points -/
def PW (k : Fg) (n : Nat) (w : D) : Prop := w.fr = true ∧ (w = .int 5 ∨ w = .str "last" ∨ ∃ b ds, w = sqD b ds) ∧ ∀ h, F_check_points [fig k, w, .int n, .bl false] h = .exc "BadPoints" [("index", .int (0 : Nat))] h
end Lw
set_option exponentiation.threshold 20000
namespace Lw
open PySem PySem.Spec L2 Fw Pd Dz
end Lw
set_option exponentiation.threshold 20000
namespace Lw
open PySem PySem.Spec L2 Fw Pd Dz
section
variable {K : Type} [Fd K]
def cv (a b : Nat → K) (j : Nat) : K := Sm (j + 1) fun x => a x * b (j - x)
def Ze (n : Nat) (a : Nat → K) : Prop := ∀ j, n ≤ j → a j = 0
theorem Ze.mono {n m : Nat} {a : Nat → K} (h : Ze n a) (k : n ≤ m) : Ze m a := fun j hj => h j (by omega)
theorem Sm_rev {f : Nat → K} : ∀ {n : Nat}, Sm n f = Sm n fun i => f (n - 1 - i)
  | 0 => rfl
  | n + 1 => by
    rw [Sm_shift (f := fun i => f (n + 1 - 1 - i))]
    show Sm n f + f n = f (n + 1 - 1 - 0) + _
    rw [Sm_rev (n := n), Sm_congr (n := n) (f := fun i => f (n + 1 - 1 - (i + 1))) (g := fun i => f (n - 1 - i)) fun i hi => by
      show f (n + 1 - 1 - (i + 1)) = f (n - 1 - i)
      rw [show n + 1 - 1 - (i + 1) = n - 1 - i by omega]]
    show _ = f (n + 1 - 1 - 0) + _
    rw [show n + 1 - 1 - 0 = n by omega]
    grind
theorem cv_comm {a b : Nat → K} : cv a b = cv b a := by
  funext j
  unfold cv
  rw [Sm_rev]
  exact Sm_congr fun i hi => by
    rw [show j + 1 - 1 - i = j - i by omega, show j - (j - i) = i by omega]; grind
theorem Sm_tri {F : Nat → Nat → K} : ∀ {n : Nat}, (Sm n fun x => Sm (x + 1) fun y => F y (x - y)) = Sm n fun y => Sm (n - y) fun z => F y z
  | 0 => rfl
  | n + 1 => by
    show (Sm n fun x => Sm (x + 1) fun y => F y (x - y)) + (Sm (n + 1) fun y => F y (n - y)) = (Sm n fun y => Sm (n + 1 - y) fun z => F y z) + Sm (n + 1 - n) (fun z => F n z)
    rw [Sm_tri, show n + 1 - n = 0 + 1 by omega]
    rw [Sm_congr (n := n) (f := fun y => Sm (n + 1 - y) fun z => F y z) (g := fun y => (Sm (n - y) fun z => F y z) + F y (n - y)) fun i hi => by
      show Sm (n + 1 - i) (fun z => F i z) = _
      rw [show n + 1 - i = (n - i) + 1 by omega]
      rfl]
    rw [Sm_add]
    show _ + (Sm n (fun y => F y (n - y)) + F n (n - n)) = _ + _ + ((0 : K) + F n 0)
    rw [Nat.sub_self]
    grind
theorem cv_assoc {a b c : Nat → K} : cv (cv a b) c = cv a (cv b c) := by
  funext j
  have h1 : cv (cv a b) c j = Sm (j + 1) fun x => Sm (x + 1) fun y => (fun y z => a y * b z * c (j - y - z)) y (x - y) := by
    unfold cv
    refine Sm_congr fun x hx => ?_
    rw [← Sm_mulr]
    refine Sm_congr fun y hy => ?_
    show _ = a y * b (x - y) * c (j - y - (x - y))
    rw [show j - y - (x - y) = j - x by omega]
  rw [h1, Sm_tri (F := fun y z => a y * b z * c (j - y - z))]
  unfold cv
  refine Sm_congr fun y hy => ?_
  rw [← Sm_mul, show j + 1 - y = j - y + 1 by omega]
  exact Sm_congr fun z hz => by grind
theorem cv_Ze {a b : Nat → K} {n m : Nat} (ha : Ze n a) (hb : Ze m b) : Ze (n + m - 1) (cv a b) := fun j hj => Sm_zero fun x hx => by
  by_cases h : n ≤ x
  · rw [ha x h]; grind
  · rw [hb (j - x) (by omega)]; grind
theorem cv_z {a : Nat → K} : cv a (fun _ => 0) = fun _ => 0 := by
  funext j
  exact Sm_zero fun x hx => by grind
/-- goes into -/
def Dv (b a : Nat → K) : Prop := ∃ q n, Ze n q ∧ a = cv q b
theorem Dv.zero {b : Nat → K} : Dv b fun _ => 0 := ⟨fun _ => 0, 0, fun _ _ => rfl, by rw [cv_comm, cv_z]⟩
theorem Dv.trans {a b c : Nat → K} (h : Dv a b) (k : Dv b c) : Dv a c := by
  obtain ⟨q, n, hq, rfl⟩ := h
  obtain ⟨p, m, hp, rfl⟩ := k
  exact ⟨cv p q, m + n - 1, cv_Ze hp hq, by rw [cv_assoc]⟩
end
end Lw
set_option exponentiation.threshold 20000
namespace Lw
open PySem PySem.Spec L2 Fw Pd Dz
theorem E_fminus (k : Fg) (a b : k.K) (h : D) (hs : ht k a + ht k b ≤ 8000) : F_Figures_minus [fig k, enc k a, enc k b] h = .ok (enc k (a - b)) h := by
  cases k with
  | q =>
    have a1 := hq_num a
    have a2 := hq_den a
    have b1 := hq_num b
    have b2 := hq_den b
    replace hs : hq a + hq b ≤ 8000 := hs
    have m1 : cMul a.num b.den = true := cMul_b (by rw [Int.natAbs_natCast]; omega)
    have m2 : cMul b.num a.den = true := cMul_b (by rw [Int.natAbs_natCast]; omega)
    have m3 : cMul (a.den : Int) b.den = true := cMul_b (by rw [Int.natAbs_natCast, Int.natAbs_natCast]; omega)
    have bm := bt_mul a.den b.den
    have er := E_low (a.num * b.den - b.num * a.den) (a.den * b.den) h (Int.mul_ne_zero (den_ne a) (den_ne b)) (by rw [Int.natAbs_mul, Int.natAbs_natCast, Int.natAbs_natCast]; omega)
    have qs : Rat.divInt (a.num * b.den - b.num * a.den) ((a.den : Int) * b.den) = a - b := by
      have := q_add a (-b)
      rw [Rat.neg_num, Rat.neg_den] at this
      rw [show a - b = a + -b by grind, this]
      congr 1
      grind
    rw [qs] at er
    rw [encQ_a, encQ_a, encQ_a]
    unfold F_Figures_minus F_ratio_minus
    unfold encQ at er ⊢
    push_cast [fig_p, pq, m1, m2, m3, er]
  | m n hn =>
    have h0 : ¬ ((n + 2 : Nat) : Int) = 0 := by omega
    have e := fv_sub a b
    rw [encM_a, encM_a, encM_a]
    unfold F_Figures_minus
    push_cast [fig_p, pm, h0, e]
end Lw
set_option exponentiation.threshold 20000
namespace Lw
open PySem PySem.Spec L2 Fw Pd Dz
section
variable {K : Type} [Fd K]
/-- the rest after s shares were taken -/
def dR (a b : Nat → K) (n m : Nat) : Nat → Nat → K
  | 0, j => a j
  | s + 1, j => if n - s - m ≤ j then dR a b n m s j - dR a b n m s (n - s - 1) * Fd.inv (b (m - 1)) * b (j - (n - s - m)) else dR a b n m s j
def dQ (a b : Nat → K) (n m s : Nat) : K := dR a b n m s (n - s - 1) * Fd.inv (b (m - 1))
/-- the shares, as a poly -/
def dP (a b : Nat → K) (n m s j : Nat) : K := if n + 1 - m - s ≤ j ∧ j < n + 1 - m then dQ a b n m (n - m - j) else 0
end
end Lw
set_option exponentiation.threshold 20000
namespace Lw
open PySem PySem.Spec L2 Fw Pd Dz
end Lw
set_option exponentiation.threshold 20000
namespace Lw
open PySem PySem.Spec L2 Fw Pd Dz
end Lw
set_option exponentiation.threshold 20000
namespace Lw
open PySem PySem.Spec L2 Fw Pd Dz
end Lw
set_option exponentiation.threshold 20000
namespace Lw
open PySem PySem.Spec L2 Fw Pd Dz
end Lw
set_option exponentiation.threshold 20000
namespace Lw
open PySem PySem.Spec L2 Fw Pd Dz
end Lw
set_option exponentiation.threshold 20000
namespace Lw
open PySem PySem.Spec L2 Fw Pd Dz
end Lw
set_option exponentiation.threshold 20000
namespace Lw
open PySem PySem.Spec L2 Fw Pd Dz
end Lw
set_option exponentiation.threshold 20000
namespace Lw
open PySem PySem.Spec L2 Fw Pd Dz
end Lw
set_option exponentiation.threshold 20000
namespace Lw
open PySem PySem.Spec L2 Fw Pd Dz
end Lw
set_option exponentiation.threshold 20000
namespace Lw
open PySem PySem.Spec L2 Fw Pd Dz
end Lw
set_option exponentiation.threshold 20000
namespace Lw
open PySem PySem.Spec L2 Fw Pd Dz
end Lw
set_option exponentiation.threshold 20000
namespace Lw
open PySem PySem.Spec L2 Fw Pd Dz
/-- small numbers -/
def Tw (k : Fg) (n : Nat) (x : Nat → k.K) : Prop := ∀ j, j < n → ht k (x j) ≤ 2
structure SmT {k : Fg} (r c : Nat) (P : Pr4 k) : Prop where
  u : ∀ i, i < r → ht k (P.u i) ≤ 2
  v : ∀ j, j < c → ht k (P.v j) ≤ 2
  a : ht k P.a ≤ 2
  b : ht k P.b ≤ 2
end Lw
set_option exponentiation.threshold 20000
namespace Lw
open PySem PySem.Spec L2 Fw Pd Dz
end Lw
set_option exponentiation.threshold 20000
namespace Lw
open PySem PySem.Spec L2 Fw Pd Dz
end Lw
set_option exponentiation.threshold 20000
namespace Lw
open PySem PySem.Spec L2 Fw Pd Dz
end Lw
set_option exponentiation.threshold 20000
namespace Lw
open PySem PySem.Spec L2 Fw Pd Dz
def Exi : Nat → D → Prop
  | 0, _ => False
  | n + 1, d => (∃ i, d = .int i) ∨ ∃ ds, d = .tup ds ∧ ds.length ≤ 900 ∧ ∀ x ∈ ds, Exi n x
theorem Exi.up : ∀ {n : Nat} {d : D}, Exi n d → Exi (n + 1) d
  | 0, _, e => e.elim
  | n + 1, _, .inl e => .inl e
  | n + 1, _, .inr ⟨ds, e, l, k⟩ => .inr ⟨ds, e, l, fun x hx => (k x hx).up⟩
end Lw
set_option exponentiation.threshold 20000
namespace Lw
open PySem PySem.Spec L2 Fw Pd Dz
def askH (k : Fg) (n : Nat) (z x : Nat → k.K) : D := .hl [srow k true 2 z, srow k true n x]
/-- m couples stand -/
def AskI (k : Fg) (n m : Nat) (d : D) : Prop := ∃ Z X : Nat → Nat → k.K, d = .hl (gen m fun i => askH k n (Z i) (X i)) ∧ (∀ i, i < m → Tw k 2 (Z i) ∧ Tw k n (X i))
theorem AskI.hl {k : Fg} {n m : Nat} {d : D} (h : AskI k n m d) : ∃ ds, d = .hl ds ∧ ds.length = m := by
  obtain ⟨Z, X, e, _⟩ := h
  exact ⟨_, e, gen_len _ _⟩
end Lw
set_option exponentiation.threshold 20000
namespace Lw
open PySem PySem.Spec L2 Fw Pd Dz
end Lw
set_option exponentiation.threshold 20000
namespace Lw
open PySem PySem.Spec L2 Fw Pd Dz
end Lw
set_option exponentiation.threshold 20000
namespace Lw
open PySem PySem.Spec L2 Fw Pd Dz
end Lw
set_option exponentiation.threshold 20000
namespace Lw
open PySem PySem.Spec L2 Fw Pd Dz
def badD (k : Fg) : D := .int (if 0 < k.p then k.p else 1)
/-- a spoilt row, and where -/
def Spt (k : Fg) (n : Nat) (d : D) (a : Nat) : Prop := (d = .non ∧ a = 0) ∨ (∃ x : Nat → k.K, d = srow k true (n + 1) x ∧ a = n) ∨ (∃ x : Nat → k.K, d = srow k true (n - 1) x ∧ a = n - 1) ∨ ∃ (x : Nat → k.K) (p : Nat), p < n ∧ d = .lst (gen n fun j => if j = p then badD k else enc k (x j)) ∧ a = p
theorem Spt.fr {k : Fg} {n : Nat} {d : D} {a : Nat} (h : Spt k n d a) : d.fr = true := by
  rcases h with ⟨rfl, _⟩ | ⟨x, rfl, _⟩ | ⟨x, rfl, _⟩ | ⟨x, p, _, rfl, _⟩ <;> rfl
end Lw
set_option exponentiation.threshold 20000
namespace Lw
open PySem PySem.Spec L2 Fw Pd Dz
theorem hd_hit0 {ms : Str → Option Bool} {u : SF} {r : List Cz} {n : Str} {fs : List (Str × D)} {δ : DE} {h : D} (e : ms n = some true) : hdGo (⟨ms, none, u⟩ :: r) n fs δ h = dropFl none (u δ h) := by
  unfold hdGo
  simp only [e]
  rfl
end Lw
set_option exponentiation.threshold 20000
namespace Lw
open PySem PySem.Spec L2 Fw Pd Dz
end Lw
set_option exponentiation.threshold 20000
namespace Lw
open PySem PySem.Spec L2 Fw Pd Dz
end Lw
set_option exponentiation.threshold 20000
namespace Lw
open PySem PySem.Spec L2 Fw Pd Dz
theorem min2_i (a b : Int) : Fw.kMin2 [.int a, .int b] = some (.int (if b < a then b else a)) := rfl
theorem min2_n (a b : Nat) : Fw.kMin2 [.int (a : Int), .int (b : Int)] = some (.int ((min a b : Nat) : Int)) := by
  rw [min2_i]
  congr 2
  split <;> omega
theorem min3_5 (p : Nat) : Fw.kMin3 [.int 5, .int 5, .int (p : Int)] = some (.int ((min 5 p : Nat) : Int)) := by
  show some (D.int (if (p : Int) < 5 then (p : Int) else 5)) = _
  congr 2
  split <;> omega
theorem E_size21 (k : Fg) (h : D) (hh : HandI h) : ∃ (n : Nat) (h' : D), F__law_size [.me, .int k.p, .int 5] h = .ok (.int (n : Int)) h' ∧ sideP k n ∧ HandI h' := by
  obtain ⟨g, g1, g5, gp, e0⟩ : ∃ g : Nat, 1 ≤ g ∧ g ≤ 5 ∧ (k = .q ∨ (g : Int) ≤ k.p) ∧ ∀ (z : Option D) (h : D), eIf (eT (eOp oGt (eV 1) (eC (.int 0)))) (eBi kMin3 (eCons (eV 2) (eCons (eC (.int 5)) (eCons (eV 1) eNil)))) (eBi kMin2 (eCons (eV 2) (eCons (eC (.int 5)) eNil))) [some .me, some (.int k.p), some (.int 5), z] h = .ok (.int (g : Int)) h := by
    cases k with
    | q =>
      refine ⟨5, by omega, by omega, .inl rfl, fun z h => ?_⟩
      have n0 : ¬ (0 : Int) < 0 := by omega
      have mm := min2_n 5 5
      have mm : Fw.kMin2 [.int 5, .int 5] = some (.int 5) := mm
      push_cast [pq, n0, mm]
    | m n hn =>
      refine ⟨min 5 (n + 2), by omega, by omega, .inr (by rw [pm]; omega), fun z h => ?_⟩
      have n0 : (0 : Int) < ((n + 2 : Nat) : Int) := by omega
      have mm := min3_5 (n + 2)
      push_cast [pm, n0, mm]
  obtain ⟨q, h1, e1, q0, q1, i1⟩ := E_take 8 h hh (by decide) (by decide)
  by_cases z : q = 0
  · refine ⟨g, h1, ?_, ⟨g1, g5, gp⟩, i1⟩
    subst z
    unfold F__law_size
    push_cast [↓e0, e1]
  · have mm := min2_n g 3
    have mm : Fw.kMin2 [.int (g : Int), .int 3] = some (.int ((min g 3 : Nat) : Int)) := mm
    obtain ⟨b, h2, e2, b0, b1, i2⟩ := E_take ((min g 3 : Nat) : Int) h1 i1 (by omega) (by omega)
    obtain ⟨b, rfl⟩ : ∃ s : Nat, b = s := ⟨b.toNat, by omega⟩
    have ct : (1 : Int) + (b : Int) = ((b + 1 : Nat) : Int) := by omega
    refine ⟨b + 1, h2, ?_, ⟨by omega, by omega, gp.imp id fun h => by omega⟩, i2⟩
    unfold F__law_size
    push_cast [↓e0, e1, z, mm, e2, ct]
/-- m products drawn -/
def PrI (k : Fg) (r c m : Nat) (d : D) : Prop := ∃ P : Nat → Pr4 k, d = .hl (gen m fun i => (P i).d r c) ∧ ∀ t, t < m → SmT r c (P t)
theorem PrI.hl {k : Fg} {r c m : Nat} {d : D} (h : PrI k r c m d) : ∃ ds, d = .hl ds ∧ ds.length = m := by
  obtain ⟨P, e, _⟩ := h
  exact ⟨_, e, gen_len _ _⟩
end Lw
set_option exponentiation.threshold 20000
namespace Lw
open PySem PySem.Spec L2 Fw Pd Dz
section
variable {K : Type} [Fd K]
def fsI (n : Nat) (x : Nat → K) : Option Nat := (List.range n).find? fun j => decide (x j ≠ 0)
def ldV (n : Nat) (x : Nat → K) : K := match fsI n x with
  | some j => x j
  | none => 0
def Nz (n : Nat) (x : Nat → K) : Prop := ∃ j, j < n ∧ x j ≠ 0
theorem find_some {n j : Nat} {P : Nat → Bool} (e : (List.range n).find? P = some j) : j < n ∧ P j = true ∧ ∀ i, i < j → P i = false := by
  induction n with
  | zero => simp at e
  | succ n ih =>
    rw [List.range_succ, List.find?_append] at e
    cases q : (List.range n).find? P with
    | some i =>
      rw [q] at e
      have : i = j := by simpa using e
      subst this
      obtain ⟨a, b, c⟩ := ih q
      exact ⟨by omega, b, c⟩
    | none =>
      rw [q] at e
      have e : (if P n = true then some n else none) = some j := by
        simp [List.find?] at e
        split at e
        · rename_i w; rw [if_pos w]; simpa using e
        · cases e
      split at e
      · rename_i w
        cases e
        refine ⟨by omega, w, fun i hi => ?_⟩
        have := List.find?_eq_none.mp q i (List.mem_range.mpr hi)
        simpa using this
      · cases e
theorem find_none {n : Nat} {P : Nat → Bool} (e : (List.range n).find? P = none) : ∀ i, i < n → P i = false := fun i hi => by
  have := List.find?_eq_none.mp e i (List.mem_range.mpr hi)
  simpa using this
theorem find_is {n j : Nat} {P : Nat → Bool} (hj : j < n) (h1 : P j = true) (h2 : ∀ i, i < j → P i = false) : (List.range n).find? P = some j := by
  cases q : (List.range n).find? P with
  | none => rw [find_none q j hj] at h1; cases h1
  | some i =>
    obtain ⟨a, b, c⟩ := find_some q
    congr 1
    rcases Nat.lt_trichotomy i j with z | z | z
    · rw [h2 i z] at b; cases b
    · exact z
    · rw [c j z] at h1; cases h1
theorem fsI_some {n j : Nat} {x : Nat → K} (e : fsI n x = some j) : j < n ∧ x j ≠ 0 ∧ ∀ i, i < j → x i = 0 := by
  obtain ⟨a, b, c⟩ := find_some e
  refine ⟨a, of_decide_eq_true b, fun i hi => ?_⟩
  have := c i hi
  simpa using this
theorem fsI_none {n : Nat} {x : Nat → K} (e : fsI n x = none) : ∀ j, j < n → x j = 0 := fun j hj => by
  have := find_none e j hj
  simpa using this
theorem fsI_is {n j : Nat} {x : Nat → K} (hj : j < n) (h1 : x j ≠ 0) (h2 : ∀ i, i < j → x i = 0) : fsI n x = some j := find_is hj (decide_eq_true h1) fun i hi => by simp [h2 i hi]
theorem nz_iff {n : Nat} {x : Nat → K} : Nz n x ↔ ∃ j, fsI n x = some j := by
  constructor
  · intro ⟨j, hj, h⟩
    cases q : fsI n x with
    | some i => exact ⟨i, rfl⟩
    | none => exact absurd (fsI_none q j hj) h
  · intro ⟨j, e⟩
    obtain ⟨a, b, _⟩ := fsI_some e
    exact ⟨j, a, b⟩
theorem ldV_at {n j : Nat} {x : Nat → K} (e : fsI n x = some j) : ldV n x = x j := by unfold ldV; rw [e]
theorem ldV_ne {n : Nat} {x : Nat → K} (h : Nz n x) : ldV n x ≠ 0 := by
  obtain ⟨j, e⟩ := nz_iff.mp h
  rw [ldV_at e]
  exact (fsI_some e).2.1
theorem ldV_zero {n : Nat} {x : Nat → K} : ldV n x = 0 ↔ ¬ Nz n x := by
  constructor
  · intro h z; exact ldV_ne z h
  · intro h
    unfold ldV
    cases q : fsI n x with
    | some j => exact absurd (nz_iff.mpr ⟨j, q⟩) h
    | none => rfl
theorem fsI_scale {n : Nat} {x y : Nat → K} {s : K} (hs : s ≠ 0) (h : ∀ j, j < n → s * x j = y j) : fsI n y = fsI n x := by
  cases q : fsI n x with
  | none =>
    cases q2 : fsI n y with
    | none => rfl
    | some j =>
      obtain ⟨a, b, _⟩ := fsI_some q2
      rw [← h j a, fsI_none q j a] at b
      exact absurd (by grind) b
  | some j =>
    obtain ⟨a, b, c⟩ := fsI_some q
    refine fsI_is a ?_ fun i hi => ?_
    · rw [← h j a]; exact mul_ne hs b
    · rw [← h i (by omega), c i hi]; grind
theorem ldV_scale {n : Nat} {x y : Nat → K} {s : K} (hs : s ≠ 0) (h : ∀ j, j < n → s * x j = y j) : ldV n y = s * ldV n x := by
  unfold ldV
  rw [fsI_scale hs h]
  cases q : fsI n x with
  | none => show (0 : K) = s * 0; grind
  | some j => exact (h j (fsI_some q).1).symm
/-- by what one row becomes another -/
def shV (n : Nat) (x y : Nat → K) : Option K := if ∀ j, j < n → (ldV n y * Fd.inv (ldV n x)) * x j = y j then some (ldV n y * Fd.inv (ldV n x)) else none
theorem shV_some {n : Nat} {x y : Nat → K} {s : K} (e : shV n x y = some s) : s = ldV n y * Fd.inv (ldV n x) ∧ ∀ j, j < n → s * x j = y j := by
  unfold shV at e
  split at e
  · rename_i h
    cases e
    exact ⟨rfl, h⟩
  · cases e
theorem shV_is {n : Nat} {x y : Nat → K} {s : K} (nx : Nz n x) (ny : Nz n y) (h : ∀ j, j < n → s * x j = y j) : shV n x y = some s := by
  have s0 : s ≠ 0 := fun z => by
    obtain ⟨j, hj, h1⟩ := ny
    rw [← h j hj, z] at h1
    exact h1 (by grind)
  have e := ldV_scale s0 h
  have l0 := ldV_ne nx
  have es : ldV n y * Fd.inv (ldV n x) = s := by
    have := Fd.mul_inv _ l0
    rw [e]; grind
  unfold shV
  rw [es, if_pos h]
/-- the same by the first place of the one -/
theorem shV_at {n j : Nat} {x y : Nat → K} (ny : Nz n y) (e : fsI n x = some j) : shV n x y = if ∀ t, t < n → (y j * Fd.inv (x j)) * x t = y t then some (y j * Fd.inv (x j)) else none := by
  obtain ⟨hj, x0, _⟩ := fsI_some e
  split
  · rename_i h
    exact shV_is (nz_iff.mpr ⟨j, e⟩) ny h
  · rename_i h
    cases q : shV n x y with
    | none => rfl
    | some s =>
      obtain ⟨_, hs⟩ := shV_some q
      refine absurd (fun t ht => ?_) h
      have := Fd.mul_inv _ x0
      have e1 := hs j hj
      rw [← e1, show s * x j * Fd.inv (x j) = s by grind]
      exact hs t ht
end
def eqL : List D → List D → Bool
  | [], [] => true
  | x :: xs, y :: ys => eqB x y && eqL xs ys
  | _, _ => false
theorem eqB_py {m : Nat} {x y : D} {p q : PyData} (hx : Pl0 m x) (hy : Pl0 m y) (hm : m ≤ 64) (e1 : toPy x = some p) (e2 : toPy y = some q) : eqB x y = PyData.eqv p q := by
  unfold eqB eqD
  rw [e1, e2]
  simp only [pl_sh hx hm e1, pl_sh hy hm e2, Bool.and_self, if_true, Option.getD_some]
theorem eqL_py {m : Nat} (hm : m ≤ 64) : ∀ {xs ys : List D} {ps qs : List PyData}, (∀ x ∈ xs, Pl0 m x) → (∀ y ∈ ys, Pl0 m y) → toPyL xs = some ps → toPyL ys = some qs → PyData.eqvAll ps qs = eqL xs ys
  | [], [], _, _, _, _, e1, e2 => by
    unfold toPyL at e1 e2
    cases e1
    cases e2
    simp only [PyData.eqvAll, eqL]
  | [], y :: ys, _, _, _, hy, e1, e2 => by
    unfold toPyL at e1 e2
    cases e1
    obtain ⟨q, eq, _⟩ := hy y List.mem_cons_self
    rw [eq] at e2
    cases q2 : toPyL ys with
    | none => rw [q2] at e2; cases e2
    | some r =>
      rw [q2] at e2
      cases e2
      simp only [PyData.eqvAll, eqL]
  | x :: xs, [], _, _, hx, _, e1, e2 => by
    unfold toPyL at e1 e2
    cases e2
    obtain ⟨q, eq, _⟩ := hx x List.mem_cons_self
    rw [eq] at e1
    cases q2 : toPyL xs with
    | none => rw [q2] at e1; cases e1
    | some r =>
      rw [q2] at e1
      cases e1
      simp only [PyData.eqvAll, eqL]
  | x :: xs, y :: ys, _, _, hx, hy, e1, e2 => by
    unfold toPyL at e1 e2
    obtain ⟨p, ep, _⟩ := hx x List.mem_cons_self
    obtain ⟨q, eq, _⟩ := hy y List.mem_cons_self
    rw [ep] at e1
    rw [eq] at e2
    cases q1 : toPyL xs with
    | none => rw [q1] at e1; cases e1
    | some ps =>
      cases q2 : toPyL ys with
      | none => rw [q2] at e2; cases e2
      | some qs =>
        rw [q1] at e1
        rw [q2] at e2
        cases e1
        cases e2
        simp only [PyData.eqvAll, eqL]
        rw [eqB_py (hx x List.mem_cons_self) (hy y List.mem_cons_self) hm ep eq, eqL_py hm (fun z hz => hx z (List.mem_cons_of_mem _ hz)) (fun z hz => hy z (List.mem_cons_of_mem _ hz)) q1 q2]
theorem eqB_tup {m : Nat} {xs ys : List D} (hm : m + 1 ≤ 64) (hx : ∀ x ∈ xs, Pl0 m x) (hy : ∀ y ∈ ys, Pl0 m y) : eqB (.tup xs) (.tup ys) = eqL xs ys := by
  obtain ⟨ps, e1, _⟩ := pl_all hx
  obtain ⟨qs, e2, _⟩ := pl_all hy
  have t1 : toPy (.tup xs) = some (.tuple ps) := by unfold toPy; rw [e1]; rfl
  have t2 : toPy (.tup ys) = some (.tuple qs) := by unfold toPy; rw [e2]; rfl
  rw [eqB_py (pl_tup hx) (pl_tup hy) hm t1 t2]
  simp only [PyData.eqv]
  exact eqL_py (by omega) hx hy e1 e2
theorem eqL_gen : ∀ {n : Nat} {f g : Nat → D}, eqL (gen n f) (gen n g) = decide (∀ i, i < n → eqB (f i) (g i) = true)
  | 0, _, _ => by
    rw [gen_zero, gen_zero]
    unfold eqL
    exact (decide_eq_true fun i hi => by omega).symm
  | n + 1, f, g => by
    rw [gen_succ, gen_succ]
    unfold eqL
    rw [eqL_gen (n := n), Bool.eq_iff_iff, Bool.and_eq_true, decide_eq_true_iff, decide_eq_true_iff]
    constructor
    · intro ⟨a, b⟩ i hi
      cases i with
      | zero => exact a
      | succ i => exact b i (by omega)
    · intro h
      exact ⟨h 0 (by omega), fun i hi => h (i + 1) (by omega)⟩
theorem eqB_enc {k : Fg} {a b : k.K} : eqB (enc k a) (enc k b) = decide (a = b) := by unfold eqB; rw [eq_enc]; rfl
theorem pl_erow {k : Fg} {n : Nat} {x : Nat → k.K} : Pl0 2 (erow k n x) := pl_tup fun d hd => by
  obtain ⟨i, hi, rfl⟩ := gen_mem.mp hd
  exact pl_enc k _
theorem eqB_erow {k : Fg} {n : Nat} {x y : Nat → k.K} : eqB (erow k n x) (erow k n y) = decide (∀ j, j < n → x j = y j) := by
  unfold erow
  rw [eqB_tup (m := 1) (by omega) (fun d hd => by obtain ⟨i, hi, rfl⟩ := gen_mem.mp hd; exact pl_enc k _) (fun d hd => by obtain ⟨i, hi, rfl⟩ := gen_mem.mp hd; exact pl_enc k _), eqL_gen]
  rw [Bool.eq_iff_iff, decide_eq_true_iff, decide_eq_true_iff]
  constructor
  · intro h j hj
    have := h j hj
    rw [eqB_enc] at this
    exact of_decide_eq_true this
  · intro h j hj
    rw [eqB_enc, h j hj]
    exact decide_eq_true rfl
theorem eq_erow {k : Fg} {n : Nat} {x y : Nat → k.K} : eqD (erow k n x) (erow k n y) = some (decide (∀ j, j < n → x j = y j)) := by
  rw [eq_pl pl_erow pl_erow (by omega), eqB_erow]
theorem for_firstL {bind : D → DE → Option DE} {body : SF} {h : D} {d : Nat → D} (I : DE → Prop) (P : Nat → Bool) (ret : Nat → D) : ∀ (L : List Nat) (δ : DE), I δ → (∀ a, a ∈ L → ∀ δ, I δ → ∃ δ1, bind (d a) δ = some δ1 ∧ (P a = true → body δ1 h = .ret (ret a) h) ∧ (P a = false → ∃ δ2, body δ1 h = .nx δ2 h ∧ I δ2)) →
    (∃ a, L.find? P = some a ∧ forGo bind body (L.map d) δ h = .ret (ret a) h) ∨ (L.find? P = none ∧ ∃ δ', forGo bind body (L.map d) δ h = .nx δ' h ∧ I δ')
  | [], δ, i, _ => .inr ⟨rfl, δ, rfl, i⟩
  | a :: L, δ, i, st => by
    obtain ⟨δ1, e1, e2, e3⟩ := st a List.mem_cons_self δ i
    cases q : P a with
    | true =>
      refine .inl ⟨a, by rw [List.find?_cons, q], ?_⟩
      rw [List.map_cons]
      unfold forGo
      simp only [e1, e2 q]
    | false =>
      obtain ⟨δ2, e4, i2⟩ := e3 q
      have eg : forGo bind body (d a :: L.map d) δ h = forGo bind body (L.map d) δ2 h := by
        rw [forGo]
        simp only [e1, e4]
      rw [List.map_cons, eg, List.find?_cons, q]
      exact for_firstL I P ret L δ2 i2 fun b hb => st b (List.mem_cons_of_mem _ hb)
theorem lc_filterL {bind : D → DE → Option DE} {test : EF Bool} {elt : EF D} {δ : DE} {h : D} {d e : Nat → D} (P : Nat → Bool) : ∀ (L : List Nat), (∀ a, a ∈ L → ∃ δ2, bind (d a) δ = some δ2 ∧ test δ2 h = .ok (P a) h ∧ (P a = true → elt δ2 h = .ok (e a) h)) → lcGo bind test elt δ (L.map d) h = .ok ((L.filter P).map e) h
  | [], _ => rfl
  | a :: L, st => by
    obtain ⟨δ2, e1, e2, e3⟩ := st a List.mem_cons_self
    have ih := lc_filterL (bind := bind) (test := test) (elt := elt) (δ := δ) (h := h) (d := d) (e := e) P L fun b hb => st b (List.mem_cons_of_mem _ hb)
    rw [List.map_cons, lcGo, List.filter_cons]
    cases q : P a with
    | true =>
      rw [q] at e2
      simp only [e1, e2, e3 q, ih, nox_okE, bind_okE, if_true, List.map_cons]
    | false =>
      rw [q] at e2
      simp only [e1, e2, ih, nox_okE, bind_okE, if_false, Bool.false_eq_true]
end Lw
set_option exponentiation.threshold 20000
namespace Lw
open PySem PySem.Spec L2 Fw Pd Dz
theorem notN_enc {k : Fg} {x : k.K} : (match enc k x with | .non => false | _ => true) = true := by cases k <;> rfl
theorem lc_c {bind : D → DE → Option DE} {elt : EF D} {δ δ2 : DE} {h y : D} {x : D} {xs ys : List D} (e1 : bind x δ = some δ2) (e2 : elt δ2 h = .ok y h) (e3 : lcGo bind tYesD elt δ xs h = .ok ys h) : lcGo bind tYesD elt δ (x :: xs) h = .ok (y :: ys) h := by
  rw [lcGo]
  simp only [e1, tYesD, e2, e3, nox_okE, bind_okE, if_true]
def cpV {k : Fg} (P : Pr4 k) : Nat → k.K := fun j => if j = 0 then P.a else P.b
theorem cp_row {k : Fg} {P : Pr4 k} : D.tup [enc k P.a, enc k P.b] = erow k 2 (cpV P) := rfl
def nzB {k : Fg} (n : Nat) (x : Nat → k.K) : Bool := (fsI n x).isSome
theorem nzB_iff {k : Fg} {n : Nat} {x : Nat → k.K} : nzB n x = true ↔ Nz n x := by
  unfold nzB
  rw [nz_iff, Option.isSome_iff_exists]
def doesB {k : Fg} (r c : Nat) (P : Pr4 k) : Bool := nzB r P.u && nzB c P.v && nzB 2 (cpV P)
def onD {k : Fg} (n : Nat) (x : Nat → k.K) : D := match fsI n x with
  | some j => enc k (x j)
  | none => .non
theorem notN_on {k : Fg} {n : Nat} {x : Nat → k.K} : (match onD n x with | .non => false | _ => true) = nzB n x := by
  unfold onD nzB
  cases fsI n x with
  | some j => exact notN_enc
  | none => rfl
def fnB : SF := (sIf (eT (eOp oNe (eV 2) (eAtV 0 "zero"))) (sRet (eV 2)) sNil)
theorem E_firstnz (k : Fg) (n : Nat) (x : Nat → k.K) (h : D) : F_first_not_zero [fig k, erow k n x] h = .ok (onD n x) h := by
  have st : ∀ a, a ∈ List.range n → ∀ δ, (∃ y, δ = [some (fig k), some (erow k n x), y]) → ∃ δ1, bNm 2 (enc k (x a)) δ = some δ1 ∧ (decide (x a ≠ 0) = true → fnB δ1 h = .ret (enc k (x a)) h) ∧ (decide (x a ≠ 0) = false → ∃ δ2, fnB δ1 h = .nx δ2 h ∧ ∃ y, δ2 = [some (fig k), some (erow k n x), y]) := fun a ha δ ⟨y, ed⟩ => by
    subst ed
    have q := eq_enc k (x a) 0
    refine ⟨_, rfl, fun z => ?_, fun z => ?_⟩
    · have z0 : ¬ x a = 0 := of_decide_eq_true z
      rw [decide_eq_false z0] at q
      unfold fnB
      push_cast [enc_vd, fig_z, q]
    · have z0 : x a = 0 := by simpa using z
      rw [decide_eq_true z0] at q
      refine ⟨_, ?_, some (enc k (x a)), rfl⟩
      unfold fnB
      push_cast [enc_vd, fig_z, q]
  have it : itS (erow k n x) = some ((List.range n).map fun j => enc k (x j)) := rfl
  rcases for_firstL (bind := bNm 2) (body := fnB) (h := h) (d := fun j => enc k (x j)) (fun δ => ∃ y, δ = [some (fig k), some (erow k n x), y]) (fun a => decide (x a ≠ 0)) (fun a => enc k (x a)) (List.range n) [some (fig k), some (erow k n x), none] ⟨none, rfl⟩ st with ⟨a, e1, e2⟩ | ⟨e1, δ', e2, y, ed⟩
  · have eo : onD n x = enc k (x a) := by
      unfold onD
      have : fsI n x = some a := e1
      rw [this]
    rw [eo]
    unfold fnB at e2
    unfold F_first_not_zero
    push_cast [erow_vd, it, e2]
  · subst ed
    have eo : onD n x = .non := by
      unfold onD
      have : fsI n x = none := e1
      rw [this]
    rw [eo]
    unfold fnB at e2
    unfold F_first_not_zero
    push_cast [erow_vd, it, e2]
theorem prd_as {k : Fg} {r c : Nat} {P : Pr4 k} : P.d r c = .tup [erow k r P.u, erow k c P.v, enc k P.a, enc k P.b] := rfl
theorem all3 (a b c : Bool) : Fw.kAll [.lst [.bl a, .bl b, .bl c]] = some (.bl (a && b && c)) := by cases a <;> cases b <;> cases c <;> rfl
theorem E_does (k : Fg) (r c : Nat) (P : Pr4 k) (h : D) : F_does_something [fig k, P.d r c] h = .ok (.bl (doesB r c P)) h := by
  have e1 := E_firstnz k r P.u h
  have e2 := E_firstnz k c P.v h
  have e3 := E_firstnz k 2 (cpV P) h
  rw [← cp_row] at e3
  have fz : frzL [.bl (nzB r P.u), .bl (nzB c P.v), .bl (nzB 2 (cpV P))] = [D.bl (nzB r P.u), .bl (nzB c P.v), .bl (nzB 2 (cpV P))] := rfl
  have lc : lcGo (bNm 7) tYesD (eOp oNotN (eCall 2 F_first_not_zero [] (eCons (eVm 0) (eCons (eVm 7) eNil))) (eC .non)) [some (fig k), some (P.d r c), some (erow k r P.u), some (erow k c P.v), some (enc k P.a), some (enc k P.b), some (.tup [erow k r P.u, erow k c P.v, .tup [enc k P.a, enc k P.b]]), none] [erow k r P.u, erow k c P.v, .tup [enc k P.a, enc k P.b]] h = .ok [.bl (nzB r P.u), .bl (nzB c P.v), .bl (nzB 2 (cpV P))] h := by
    refine lc_c rfl ?_ (lc_c rfl ?_ (lc_c rfl ?_ rfl))
    · push_cast [fig_vm, erow_vm, e1]
      exact congrArg (fun b => Ex.ok (D.bl b) h) notN_on
    · push_cast [fig_vm, erow_vm, e2]
      exact congrArg (fun b => Ex.ok (D.bl b) h) notN_on
    · push_cast [fig_vm, e3]
      exact congrArg (fun b => Ex.ok (D.bl b) h) notN_on
  unfold F_does_something
  rw [prd_as] at lc ⊢
  push_cast [erow_vd, enc_vd, lc, fz, all3]
  rfl
theorem wh_first {g : EF Bool} {body : SF} {h : D} {S : Nat → DE} {p : Nat} : ∀ (f m : Nat), m ≤ p → p - m < f → (∀ i, i < p → g (S i) h = .ok true h ∧ body (S i) h = .nx (S (i + 1)) h) → g (S p) h = .ok false h → whGo g body f (S m) h = .nx (S p) h
  | 0, m, _, h2, _, _ => by omega
  | f + 1, m, h1, h2, st, e => by
    by_cases q : m = p
    · subst q
      unfold whGo
      simp only [e, fl_okE, Bool.false_eq_true, if_false]
    · obtain ⟨a, b⟩ := st m (by omega)
      have ih := wh_first (g := g) (body := body) (h := h) (S := S) (p := p) f (m + 1) (by omega) (by omega) st e
      unfold whGo
      simp only [a, fl_okE, if_true, b]
      exact ih
def szD (k : Fg) (o : Option k.K) : D := match o with
  | some s => enc k s
  | none => .non
/-- size_between -/
theorem E_sizeb (k : Fg) (n : Nat) (x y : Nat → k.K) (h : D) (B : Nat) (hn : n ≤ 90) (hx : ∀ j, j < n → ht k (x j) ≤ B) (hy : ∀ j, j < n → ht k (y j) ≤ B) (hB : 3 * B + 1 ≤ 8000) (nx : Nz n x) (ny : Nz n y) : F_size_between [fig k, erow k n x, erow k n y] h = .ok (szD k (shV n x y)) h := by
  obtain ⟨p, ep⟩ := nz_iff.mp nx
  obtain ⟨hp, x0, xz⟩ := fsI_some ep
  have ix : ∀ j, j < n → ∀ z : Nat → k.K, oIx (erow k n z) (.int (j : Int)) = some (enc k (z j)) := fun j hj z => by rw [erow_ix (by omega) (by omega), Int.toNat_natCast]
  have hxp := hx p hp
  have hyp := hy p hp
  have loop := wh_first (g := eT (eOp oEq (eOp oIx (eV 1) (eV 3)) (eAtV 0 "zero"))) (body := sAug 3 oAdd (eC (.int 1))) (h := h) (S := fun i => [some (fig k), some (erow k n x), some (erow k n y), some (.int (i : Int)), none]) (p := p) 100 0 (by omega) (by omega) (fun i hi => by
    have ixi := ix i (by omega) x
    have q := eq_enc k (x i) 0
    rw [decide_eq_true (xz i hi)] at q
    have ci : (i : Int) + 1 = ((i + 1 : Nat) : Int) := by omega
    exact ⟨by push_cast [erow_vd, ixi, fig_z, q], by push_cast [ci, fr_int]⟩) (by
    have ixi := ix p hp x
    have q := eq_enc k (x p) 0
    rw [decide_eq_false x0] at q
    push_cast [erow_vd, ixi, fig_z, q])
  have loop : whGo (eT (eOp oEq (eOp oIx (eV 1) (eV 3)) (eAtV 0 "zero"))) (sAug 3 oAdd (eC (.int 1))) 100 [some (fig k), some (erow k n x), some (erow k n y), some (.int 0), none] h = .nx [some (fig k), some (erow k n x), some (erow k n y), some (.int (p : Int)), none] h := loop
  have ex := ix p hp x
  have ey := ix p hp y
  have eo := E_fover k (y p) (x p) h x0 (by omega)
  have hs : ht k (y p * Fd.inv (x p)) ≤ 2 * B + 1 := by
    have := ht_mul k (y p) (Fd.inv (x p))
    have := ht_inv k (x p)
    omega
  have es := E_scaled k n (y p * Fd.inv (x p)) x h (by omega) fun j hj => by have := hx j hj; omega
  have q := eq_erow (k := k) (n := n) (x := fun j => (y p * Fd.inv (x p)) * x j) (y := y)
  have sh := shV_at ny ep
  by_cases z : ∀ t, t < n → (y p * Fd.inv (x p)) * x t = y t
  · rw [if_pos z] at sh
    rw [decide_eq_true z] at q
    rw [sh]
    unfold F_size_between szD
    push_cast [erow_vd, erow_vm, fig_vd, fig_vm, loop, ex, ey, eMeth_f, md_over, enc_vd, enc_vm, eo, es, q]
  · rw [if_neg z] at sh
    rw [decide_eq_false z] at q
    rw [sh]
    unfold F_size_between szD
    push_cast [erow_vd, erow_vm, fig_vd, fig_vm, loop, ex, ey, eMeth_f, md_over, enc_vd, enc_vm, eo, es, q]
end Lw
set_option exponentiation.threshold 20000
namespace Lw
open PySem PySem.Spec L2 Fw Pd Dz
section
variable {K : Type} [Fd K]
/-- W is A with its first n columns in steps: l rows lead, in the columns ld -/
structure Ech (r c n : Nat) (A W : Nat → Nat → K) (l : Nat) (ld : Nat → Nat) : Prop where
  ln : l ≤ n
  lr : l ≤ r
  lt : ∀ t, t < l → ld t < n
  up : ∀ t u, t < u → u < l → ld t < ld u
  nz : ∀ t, t < l → W t (ld t) ≠ 0
  bf : ∀ t j, t < l → j < ld t → W t j = 0
  zr : ∀ i j, l ≤ i → i < r → j < n → W i j = 0
  ker : ∀ v, Ker r c W v ↔ Ker r c A v
  fl : l = n ∨ ∃ j, j < n ∧ ∀ t, t < l → ld t ≠ j
  id : l = n → ∀ t, t < l → ld t = t
/-- sums over the leading columns are met from below -/
theorem tri {W : Nat → Nat → K} {ld : Nat → Nat} : ∀ (s : Nat) (b : Nat → K), (∀ t u, t < u → u < s → ld t < ld u) → (∀ t, t < s → W t (ld t) ≠ 0) → (∀ t j, t < s → j < ld t → W t j = 0) →
    ∃ y : Nat → K, (∀ t, t < s → Sm s (fun u => W t (ld u) * y u) = b t) ∧ ∀ t, t < s → (∀ u, t ≤ u → u < s → b u = 0) → y t = 0
  | 0, b, _, _, _ => ⟨fun _ => 0, fun t h => by omega, fun t h => by omega⟩
  | s + 1, b, up, nz, bf => by
    obtain ⟨y, hy, hz⟩ := tri s (fun t => b t - W t (ld s) * (b s * Fd.inv (W s (ld s)))) (fun t u h1 h2 => up t u h1 (by omega)) (fun t h => nz t (by omega)) (fun t j h1 h2 => bf t j (by omega) h2)
    have mi := Fd.mul_inv _ (nz s (by omega))
    refine ⟨fun u => if u = s then b s * Fd.inv (W s (ld s)) else y u, fun t ht => ?_, fun t ht hb => ?_⟩
    · show Sm s (fun u => W t (ld u) * (if u = s then b s * Fd.inv (W s (ld s)) else y u)) + W t (ld s) * (if s = s then b s * Fd.inv (W s (ld s)) else y s) = b t
      rw [if_pos rfl]
      by_cases q : t = s
      · subst q
        rw [Sm_zero fun u hu => by rw [bf t (ld u) (by omega) (up u t hu (by omega))]; grind]
        grind
      · rw [Sm_congr (g := fun u => W t (ld u) * y u) fun u hu => by rw [if_neg (by omega)], hy t (by omega)]
        grind
    · show (if t = s then b s * Fd.inv (W s (ld s)) else y t) = 0
      have b0 := hb s (by omega) (by omega)
      by_cases q : t = s
      · rw [if_pos q, b0]; grind
      · rw [if_neg q]
        refine hz t (by omega) fun u h1 h2 => ?_
        rw [hb u h1 (by omega), b0]
        grind
/-- a column that does not lead is met by those before it -/
theorem Ech.free {r c l : Nat} {A W : Nat → Nat → K} {ld : Nat → Nat} (e : Ech r c c A W l ld) {j : Nat} (hj : j < c) (hf : ∀ t, t < l → ld t ≠ j) : ∃ v : Nat → K, Ker r c A v ∧ v j = 1 ∧ ∀ x, j < x → v x = 0 := by
  obtain ⟨y, hy, hz⟩ := tri (W := W) (ld := ld) l (fun t => - W t j) e.up e.nz e.bf
  have y0 : ∀ u, u < l → j < ld u → y u = 0 := fun u hu h => hz u hu fun t h1 h2 => by
    have : ld u ≤ ld t := by
      by_cases q : u = t
      · rw [q]; exact Nat.le_refl _
      · exact Nat.le_of_lt (e.up u t (by omega) h2)
    rw [e.bf t j h2 (by omega)]
    grind
  refine ⟨fun x => del x j + Sm l fun u => y u * del x (ld u), (e.ker _).mp fun i hi => ?_, ?_, fun x hx => ?_⟩
  · by_cases q : i < l
    · have e1 : (fun x => W i x * (del x j + Sm l fun u => y u * del x (ld u))) = fun x => W i x * del x j + Sm l fun u => (W i x * (y u * del x (ld u))) := by
        funext x
        rw [Sm_mul]
        grind
      rw [e1, Sm_add, Sm_del hj, Sm_swap]
      rw [Sm_congr (g := fun u => W i (ld u) * y u) fun u hu => by
        rw [Sm_congr (g := fun x => (W i x * y u) * del x (ld u)) fun x _ => by grind, Sm_del (f := fun x => W i x * y u) (e.lt u hu)], hy i q]
      grind
    · exact Sm_zero fun x hx => by rw [e.zr i x (by omega) hi hx]; grind
  · show del j j + Sm l (fun u => y u * del j (ld u)) = 1
    rw [del_s, Sm_zero fun u hu => by rw [del_n (fun z => hf u hu z.symm)]; grind]
    grind
  · show del x j + Sm l (fun u => y u * del x (ld u)) = 0
    rw [del_n (by omega), Sm_zero fun u hu => by
      by_cases q : x = ld u
      · rw [y0 u hu (by omega)]; grind
      · rw [del_n q]; grind]
    grind
end
end Lw
set_option exponentiation.threshold 20000
namespace Lw
open PySem PySem.Spec L2 Fw Pd Dz
theorem eTruP_a (k : EF Pl) (δ : DE) (h : D) : eTruP k δ h = ((k δ h).bind fun p h1 => Ex.of (match plD δ p with
  | some (.hl ds) => some (!ds.isEmpty)
  | _ => none) h1) := (rfl)
theorem frzL_nat : ∀ L : List Nat, frzL (L.map fun i : Nat => D.int (i : Int)) = L.map fun i : Nat => D.int (i : Int)
  | [] => rfl
  | x :: xs => by
    show D.int (x : Int) :: frzL (xs.map fun i : Nat => D.int (i : Int)) = _
    rw [frzL_nat xs]
    rfl
theorem E_lzeroI (k : Fg) (x : k.K) (h : D) : F__law_zero [.int k.p, enc k x] h = .ok (.bl (decide (x = 0))) h := by
  have e := E_num0 k h
  have q := eq_enc k x 0
  unfold F__law_zero
  push_cast [enc_vd, e, q]
theorem eq_natc (f : Nat) (L : List Nat) : eqD (.lst ((f :: L).map fun i : Nat => D.int (i : Int))) (.lst []) = some false := by
  have tp : ∀ L : List Nat, toPyL (L.map fun i : Nat => D.int (i : Int)) = some (L.map fun i : Nat => PyData.int (i : Int)) := fun L => by
    induction L with
    | nil => rfl
    | cons x xs ih =>
      rw [List.map_cons]
      unfold toPyL
      rw [ih]
      rfl
  have a : ∀ L : List Nat, PyData.canLayAll0 (L.map fun i : Nat => PyData.int (i : Int)) = true ∧ PyData.depthAll (L.map fun i : Nat => PyData.int (i : Int)) ≤ 1 := fun L => by
    induction L with
    | nil => exact ⟨by simp only [List.map_nil, PyData.canLayAll0], by simp only [List.map_nil, PyData.depthAll]; omega⟩
    | cons x xs ih =>
      rw [List.map_cons]
      simp only [PyData.canLayAll0, PyData.canLay0, PyData.depthAll, PyData.depth, ih.1, Bool.and_self, true_and]
      have := ih.2
      omega
  have sh : SeqAt.shaped (.list ((f :: L).map fun i : Nat => PyData.int (i : Int))) = true := by
    obtain ⟨a1, a2⟩ := a (f :: L)
    unfold SeqAt.shaped
    simp only [PyData.canLay0, PyData.depth, a1, Bool.true_and]
    exact decide_eq_true (by omega)
  have t1 : toPy (.lst ((f :: L).map fun i : Nat => D.int (i : Int))) = some (.list ((f :: L).map fun i : Nat => PyData.int (i : Int))) := by
    unfold toPy
    rw [tp]
    rfl
  have t2 : toPy (.lst []) = some (.list []) := rfl
  have s2 : SeqAt.shaped (.list []) = true := by decide +kernel
  unfold eqD
  rw [t1, t2]
  simp only [sh, s2, Bool.and_self, if_true]
  rw [List.map_cons]
  simp only [PyData.eqv, PyData.eqvAll]
theorem seq_ct {δ : DE} {h : D} {u : SF} : (Fl.ct δ h).bind u = .ct δ h := (rfl)
end Lw
set_option exponentiation.threshold 20000
namespace Lw
open PySem PySem.Spec L2 Fw Pd Dz
theorem isN_encM {k : Fg} {x : k.K} : Fw.oIsN.match_1 (fun _ => Bool) (enc k x) (fun _ => true) (fun _ => false) = false := by cases k <;> rfl
theorem notN_encM {k : Fg} {x : k.K} : Fw.oIsN.match_1 (fun _ => Bool) (enc k x) (fun _ => false) (fun _ => true) = true := by cases k <;> rfl
inductive Sd where
  | l | r | n
def sdS : Sd → Str
  | .l => "left"
  | .r => "right"
  | .n => "numbers"
def sdN (r c : Nat) : Sd → Nat
  | .l => r
  | .r => c
  | .n => 2
def sdX {k : Fg} (P : Pr4 k) : Sd → Nat → k.K
  | .l => P.u
  | .r => P.v
  | .n => cpV P
theorem s_ll : eqD (.str "left") (.str "left") = some true := by decide +kernel
theorem s_rl : eqD (.str "right") (.str "left") = some false := by decide +kernel
theorem s_nl : eqD (.str "numbers") (.str "left") = some false := by decide +kernel
theorem s_rr : eqD (.str "right") (.str "right") = some true := by decide +kernel
theorem s_lr : eqD (.str "left") (.str "right") = some false := by decide +kernel
theorem s_nr : eqD (.str "numbers") (.str "right") = some false := by decide +kernel
theorem s_ln : eqD (.str "left") (.str "numbers") = some false := by decide +kernel
theorem s_rn : eqD (.str "right") (.str "numbers") = some false := by decide +kernel
theorem s_nn : eqD (.str "numbers") (.str "numbers") = some true := by decide +kernel
theorem E_sideof (k : Fg) (r c : Nat) (P : Pr4 k) (w : Sd) (h : D) : F_side_of [P.d r c, .str (sdS w)] h = .ok (erow k (sdN r c w) (sdX P w)) h := by
  cases w
  · unfold F_side_of sdS sdN sdX
    rw [prd_as]
    push_cast [s_ll, erow_vd]
  · unfold F_side_of sdS sdN sdX
    rw [prd_as]
    push_cast [s_rl, s_rr, erow_vd]
  · unfold F_side_of sdS sdN sdX
    rw [prd_as]
    push_cast [s_nl, s_nr, enc_vd]
    rfl
theorem cut4 {a b c d : D} : cutD [a, b, c, d] (some 2) none = [c, d] := by
  have := cut_lo (n := 4) (f := fun i => if i = 0 then a else if i = 1 then b else if i = 2 then c else d) (i := 2) (by omega)
  exact this
/-- the sizes by which one product becomes another -/
def alk {k : Fg} (r c : Nat) (P Q : Pr4 k) : Option (k.K × k.K) := match shV r P.u Q.u, shV c P.v Q.v, shV 2 (cpV Q) (cpV P) with
  | some s, some t, some b => if b = s * t then some (s, t) else none
  | _, _, _ => none
def alkD (k : Fg) (o : Option (k.K × k.K)) : D := match o with
  | some st => .tup [enc k st.1, enc k st.2]
  | none => .non
theorem szD_n {k : Fg} : szD k none = .non := rfl
theorem szD_s {k : Fg} {s : k.K} : szD k (some s) = enc k s := rfl
theorem does_nz {k : Fg} {r c : Nat} {P : Pr4 k} (h : doesB r c P = true) : Nz r P.u ∧ Nz c P.v ∧ Nz 2 (cpV P) := by
  unfold doesB at h
  rw [Bool.and_eq_true, Bool.and_eq_true] at h
  exact ⟨nzB_iff.mp h.1.1, nzB_iff.mp h.1.2, nzB_iff.mp h.2⟩
theorem cp_ht {k : Fg} {r c B : Nat} {P : Pr4 k} (h : SmP r c P B) (j : Nat) : ht k (cpV P j) ≤ B := by
  unfold cpV
  split
  · exact h.a
  · exact h.b
theorem shV_ht {k : Fg} {n B : Nat} {x y : Nat → k.K} {s : k.K} (nx : Nz n x) (ny : Nz n y) (e : shV n x y = some s) (hx : ∀ j, j < n → ht k (x j) ≤ B) (hy : ∀ j, j < n → ht k (y j) ≤ B) : ht k s ≤ 2 * B + 1 := by
  obtain ⟨p, ep⟩ := nz_iff.mp nx
  obtain ⟨q, eq⟩ := nz_iff.mp ny
  rw [(shV_some e).1, ldV_at ep, ldV_at eq]
  have := hx p (fsI_some ep).1
  have := hy q (fsI_some eq).1
  have := ht_mul k (y q) (Fd.inv (x p))
  have := ht_inv k (x p)
  omega
theorem E_alike (k : Fg) (r c : Nat) (P Q : Pr4 k) (h : D) (B : Nat) (hr : r ≤ 90) (hc : c ≤ 90) (hP : SmP r c P B) (hQ : SmP r c Q B) (hB : 6 * B + 6 ≤ 8000) (dP : doesB r c P = true) (dQ : doesB r c Q = true) : F_sizes_if_alike [fig k, P.d r c, Q.d r c] h = .ok (alkD k (alk r c P Q)) h := by
  obtain ⟨p1, p2, p3⟩ := does_nz dP
  obtain ⟨q1, q2, q3⟩ := does_nz dQ
  have e1 := E_sizeb k r P.u Q.u h B hr hP.u hQ.u (by omega) p1 q1
  have e2 := E_sizeb k c P.v Q.v h B hc hP.v hQ.v (by omega) p2 q2
  have e3 := E_sizeb k 2 (cpV Q) (cpV P) h B (by omega) (fun j _ => cp_ht hQ j) (fun j _ => cp_ht hP j) (by omega) q3 p3
  rw [← cp_row, ← cp_row] at e3
  have f2 : ∀ a b : k.K, frzL [enc k a, enc k b] = [enc k a, enc k b] := fun a b => frzL_2 (enc_fr k a) (enc_fr k b)
  unfold alk
  cases o1 : shV r P.u Q.u with
  | none =>
    rw [o1, szD_n] at e1
    cases o2 : shV c P.v Q.v with
    | none =>
      rw [o2, szD_n] at e2
      cases o3 : shV 2 (cpV Q) (cpV P) <;>
      · rw [o3] at e3
        first | rw [szD_n] at e3 | rw [szD_s] at e3
        unfold F_sizes_if_alike alkD
        rw [prd_as, prd_as]
        push_cast [fig_vm, erow_vm, e1, e2, e3, cut4, f2, enc_vd]
    | some t =>
      rw [o2, szD_s] at e2
      cases o3 : shV 2 (cpV Q) (cpV P) <;>
      · rw [o3] at e3
        first | rw [szD_n] at e3 | rw [szD_s] at e3
        unfold F_sizes_if_alike alkD
        rw [prd_as, prd_as]
        push_cast [fig_vm, erow_vm, e1, e2, e3, cut4, f2, enc_vd]
  | some s =>
    rw [o1, szD_s] at e1
    cases o2 : shV c P.v Q.v with
    | none =>
      rw [o2, szD_n] at e2
      cases o3 : shV 2 (cpV Q) (cpV P) <;>
      · rw [o3] at e3
        first | rw [szD_n] at e3 | rw [szD_s] at e3
        unfold F_sizes_if_alike alkD
        rw [prd_as, prd_as]
        push_cast [fig_vm, erow_vm, e1, e2, e3, cut4, f2, enc_vd, isN_encM]
    | some t =>
      rw [o2, szD_s] at e2
      have hs := shV_ht p1 q1 o1 hP.u hQ.u
      have ht' := shV_ht p2 q2 o2 hP.v hQ.v
      have et := E_ftimes k s t h (by omega)
      cases o3 : shV 2 (cpV Q) (cpV P) with
      | none =>
        rw [o3, szD_n] at e3
        unfold F_sizes_if_alike alkD
        rw [prd_as, prd_as]
        push_cast [fig_vm, erow_vm, e1, e2, e3, cut4, f2, enc_vd, isN_encM]
      | some b =>
        rw [o3, szD_s] at e3
        have q := eq_enc k b (s * t)
        by_cases z : b = s * t
        · rw [decide_eq_true z] at q
          have a1 : alkD k (if b = s * t then some (s, t) else none) = .tup [enc k s, enc k t] := by rw [if_pos z]; rfl
          rw [a1]
          unfold F_sizes_if_alike
          rw [prd_as, prd_as]
          push_cast [fig_vd, fig_vm, erow_vm, e1, e2, e3, cut4, f2, enc_vd, enc_vm, isN_encM, eMeth_f, md_times, et, q]
        · rw [decide_eq_false z] at q
          have a1 : alkD k (if b = s * t then some (s, t) else none) = .non := by rw [if_neg z]; rfl
          rw [a1]
          unfold F_sizes_if_alike
          rw [prd_as, prd_as]
          push_cast [fig_vd, fig_vm, erow_vm, e1, e2, e3, cut4, f2, enc_vd, enc_vm, isN_encM, eMeth_f, md_times, et, q]
/-- the places of the products that do something -/
def dpl {k : Fg} (r c n : Nat) (P : Nat → Pr4 k) : List Nat := (List.range n).filter fun i => doesB r c (P i)
def nats (L : List Nat) : List D := L.map fun i : Nat => D.int (i : Int)
theorem frz_nats (L : List Nat) : frzL (nats L) = nats L := frzL_nat L
theorem E_doing (k : Fg) (r c n : Nat) (P : Nat → Pr4 k) (h : D) (hn : n ≤ 900) : F_doing_places [prgD k r c n P] h = .ok (.lst (nats (dpl r c n P))) h := by
  have ow : ownD "Program" "products" (prgD k r c n P) = some (gen n fun i => (P i).d r c) := rfl
  have lc := lc_filterL (bind := bTp [(bNm 1), (bNm 2)]) (test := eTru (eCall 2 F_does_something [] (eCons (eAtV 0 "figures") (eCons (eVm 2) eNil)))) (elt := eV 1) (δ := [some (prgD k r c n P), none, none]) (h := h) (d := fun i => .tup [.int (i : Int), (P i).d r c]) (e := fun i => .int (i : Int)) (fun i => doesB r c (P i)) (List.range n) fun a ha => by
    have e := E_does k r c (P a) h
    refine ⟨_, rfl, ?_, fun _ => ?_⟩
    · push_cast [prg_f, prd_vm, e]
    · push_cast []
  have fz : frzL (List.map (fun i : Nat => D.int (i : Int)) (dpl r c n P)) = List.map (fun i : Nat => D.int (i : Int)) (dpl r c n P) := frz_nats _
  have en : enD 0 (gen n fun i => (P i).d r c) = (List.range n).map fun i : Nat => .tup [.int (i : Int), (P i).d r c] := by
    rw [enD_gen]
    exact gen_congr fun i _ => by rw [Nat.zero_add]
  have lc : lcGo (bTp [(bNm 1), (bNm 2)]) (eTru (eCall 2 F_does_something [] (eCons (eAtV 0 "figures") (eCons (eVm 2) eNil)))) (eV 1) [some (prgD k r c n P), none, none] ((List.range n).map fun i : Nat => .tup [.int (i : Int), (P i).d r c]) h = .ok ((dpl r c n P).map fun i : Nat => .int (i : Int)) h := lc
  have sl : szOk ((List.range n).map fun i : Nat => D.tup [.int (i : Int), (P i).d r c]).length = true := by rw [List.length_map, List.length_range]; exact sz_ok (by omega)
  unfold F_doing_places nats
  push_cast [prg_vd, iEnumI_a, ow, en, sl, lc, fz]
end Lw
set_option exponentiation.threshold 20000
namespace Lw
open PySem PySem.Spec L2 Fw Pd Dz
def llB : SF := (sIf (eNot (eTru (eCall 2 F__law_zero [] (eCons (eVm 0) (eCons (eVm 2) eNil))))) (sRet (eV 2)) sNil)
theorem E_llead (k : Fg) (n : Nat) (x : Nat → k.K) (h : D) : F__law_lead [.int k.p, erow k n x] h = .ok (enc k (ldV n x)) h := by
  have st : ∀ a, a ∈ List.range n → ∀ δ, (∃ y, δ = [some (.int k.p), some (erow k n x), y]) → ∃ δ1, bNm 2 (enc k (x a)) δ = some δ1 ∧ (decide (x a ≠ 0) = true → llB δ1 h = .ret (enc k (x a)) h) ∧ (decide (x a ≠ 0) = false → ∃ δ2, llB δ1 h = .nx δ2 h ∧ ∃ y, δ2 = [some (.int k.p), some (erow k n x), y]) := fun a ha δ ⟨y, ed⟩ => by
    subst ed
    have q := E_lzeroI k (x a) h
    refine ⟨_, rfl, fun z => ?_, fun z => ?_⟩
    · have z0 : ¬ x a = 0 := of_decide_eq_true z
      rw [decide_eq_false z0] at q
      unfold llB
      push_cast [enc_vd, enc_vm, q]
    · have z0 : x a = 0 := by simpa using z
      rw [decide_eq_true z0] at q
      refine ⟨_, ?_, some (enc k (x a)), rfl⟩
      unfold llB
      push_cast [enc_vd, enc_vm, q]
  have it : itS (erow k n x) = some ((List.range n).map fun j => enc k (x j)) := rfl
  rcases for_firstL (bind := bNm 2) (body := llB) (h := h) (d := fun j => enc k (x j)) (fun δ => ∃ y, δ = [some (.int k.p), some (erow k n x), y]) (fun a => decide (x a ≠ 0)) (fun a => enc k (x a)) (List.range n) [some (.int k.p), some (erow k n x), none] ⟨none, rfl⟩ st with ⟨a, e1, e2⟩ | ⟨e1, δ', e2, y, ed⟩
  · have eo : ldV n x = x a := ldV_at e1
    rw [eo]
    unfold llB at e2
    unfold F__law_lead
    push_cast [erow_vd, it, e2]
  · subst ed
    have eo : ldV n x = 0 := by
      unfold ldV
      have : fsI n x = none := e1
      rw [this]
    rw [eo]
    have e0 := E_num0 k h
    unfold llB at e2
    unfold F__law_lead
    push_cast [erow_vd, it, e2, e0]
theorem E_lscaled (k : Fg) (n : Nat) (a : k.K) (x : Nat → k.K) (h : D) (hn : n ≤ 900) (hs : ∀ j, j < n → ht k a + ht k (x j) ≤ 8000) : F__law_scaled [.int k.p, enc k a, erow k n x] h = .ok (erow k n fun j => a * x j) h := by
  have e : ∀ j, j < n → ∀ h, F__law_times [.int k.p, enc k a, enc k (x j)] h = .ok (enc k (a * x j)) h := fun j hj h => E_times k a (x j) h (hs j hj)
  have fz : frzL (gen n fun j => enc k (a * x j)) = gen n fun j => enc k (a * x j) := frzL_gen fun j => enc_fr k _
  unfold F__law_scaled erow
  push_cast [enc_vm, e, fz]
def plU {k : Fg} (n : Nat) (x : Nat → k.K) : Nat → k.K := fun j => (1 * Fd.inv (ldV n x)) * x j
def plC {k : Fg} (r c : Nat) (P : Pr4 k) : Nat → k.K := fun j => (ldV r P.u * ldV c P.v) * cpV P j
def plnD {k : Fg} (r c : Nat) (P : Pr4 k) : D := if doesB r c P then .tup [erow k r (plU r P.u), erow k c (plU c P.v), erow k 2 (plC r c P)] else .non
theorem lz_nz {k : Fg} {n : Nat} {x : Nat → k.K} : decide (ldV n x = 0) = !nzB n x := by
  cases q : nzB n x with
  | true => exact decide_eq_false fun z => ldV_zero.mp z (nzB_iff.mp q)
  | false => exact decide_eq_true (ldV_zero.mpr fun z => by rw [nzB_iff.mpr z] at q; cases q)
theorem cp_nz {k : Fg} {P : Pr4 k} : (decide (P.a = 0) && decide (P.b = 0)) = !nzB 2 (cpV P) := by
  cases q : nzB 2 (cpV P) with
  | true =>
    obtain ⟨j, hj, h0⟩ := nzB_iff.mp q
    rw [Bool.not_true, Bool.and_eq_false_iff]
    unfold cpV at h0
    by_cases z : j = 0
    · rw [if_pos z] at h0; exact .inl (decide_eq_false h0)
    · rw [if_neg z] at h0; exact .inr (decide_eq_false h0)
  | false =>
    have no : ¬ Nz 2 (cpV P) := fun z => by rw [nzB_iff.mpr z] at q; cases q
    have a0 : P.a = 0 := Classical.byContradiction fun z => no ⟨0, by omega, z⟩
    have b0 : P.b = 0 := Classical.byContradiction fun z => no ⟨1, by omega, z⟩
    rw [decide_eq_true a0, decide_eq_true b0]
    rfl
theorem ldV_ht {k : Fg} {n B : Nat} {x : Nat → k.K} (hx : ∀ j, j < n → ht k (x j) ≤ B) (B1 : 1 ≤ B) : ht k (ldV n x) ≤ B := by
  unfold ldV
  cases q : fsI n x with
  | some j => exact hx j (fsI_some q).1
  | none => have := ht_zero k; exact Nat.le_trans this B1
theorem E_lplain (k : Fg) (r c : Nat) (P : Pr4 k) (h : D) (B : Nat) (hr : r ≤ 90) (hc : c ≤ 90) (hP : SmP r c P B) (B1 : 1 ≤ B) (hB : 6 * B + 6 ≤ 8000) : F__law_plain [.int k.p, P.d r c] h = .ok (plnD r c P) h := by
  have e1 := E_llead k r P.u h
  have e2 := E_llead k c P.v h
  have z1 := E_lzeroI k (ldV r P.u) h
  have z2 := E_lzeroI k (ldV c P.v) h
  have z3 := E_lzeroI k P.a h
  have z4 := E_lzeroI k P.b h
  rw [lz_nz] at z1 z2
  have n1 := E_num1 k h
  have h1 := ldV_ht hP.u B1
  have h2 := ldV_ht hP.v B1
  have b1 := E_times k (ldV r P.u) (ldV c P.v) h (by omega)
  have hh := ht_mul k (ldV r P.u) (ldV c P.v)
  have s3 := E_lscaled k 2 (ldV r P.u * ldV c P.v) (cpV P) h (by omega) fun j _ => by have := cp_ht hP j; omega
  rw [← cp_row] at s3
  have cn := cp_nz (P := P)
  have i2 : atI [erow k r P.u, erow k c P.v, enc k P.a, enc k P.b] 2 = some (enc k P.a) := rfl
  have i3 : atI [erow k r P.u, erow k c P.v, enc k P.a, enc k P.b] 3 = some (enc k P.b) := rfl
  unfold plnD doesB
  cases q1 : nzB r P.u with
  | false =>
    rw [q1] at z1
    unfold F__law_plain
    rw [prd_as]
    push_cast [erow_vm, enc_vm, e1, e2, z1]
  | true =>
    rw [q1] at z1
    cases q2 : nzB c P.v with
    | false =>
      rw [q2] at z2
      unfold F__law_plain
      rw [prd_as]
      push_cast [erow_vm, enc_vm, e1, e2, z1, z2]
    | true =>
      rw [q2] at z2
      have o1 := E_over k 1 (ldV r P.u) h (ldV_ne (nzB_iff.mp q1)) (by have := ht_one k; omega)
      have o2 := E_over k 1 (ldV c P.v) h (ldV_ne (nzB_iff.mp q2)) (by have := ht_one k; omega)
      have t1 : ht k (1 * Fd.inv (ldV r P.u)) ≤ B + 2 := by have := ht_mul k 1 (Fd.inv (ldV r P.u)); have := ht_inv k (ldV r P.u); have := ht_one k; omega
      have t2 : ht k (1 * Fd.inv (ldV c P.v)) ≤ B + 2 := by have := ht_mul k 1 (Fd.inv (ldV c P.v)); have := ht_inv k (ldV c P.v); have := ht_one k; omega
      have s1 := E_lscaled k r (1 * Fd.inv (ldV r P.u)) P.u h (by omega) fun j hj => by have := hP.u j hj; omega
      have s2 := E_lscaled k c (1 * Fd.inv (ldV c P.v)) P.v h (by omega) fun j hj => by have := hP.v j hj; omega
      cases q3 : nzB 2 (cpV P) with
      | false =>
        rw [q3, Bool.not_false, Bool.and_eq_true] at cn
        rw [cn.1] at z3
        rw [cn.2] at z4
        unfold F__law_plain
        rw [prd_as]
        push_cast [erow_vm, enc_vm, e1, e2, z1, z2, i2, i3, z3, z4]
      | true =>
        rw [q3, Bool.not_true, Bool.and_eq_false_iff] at cn
        by_cases a0 : P.a = 0
        · rw [decide_eq_true a0] at z3 cn
          have cb := cn.resolve_left (fun z => by cases z)
          rw [cb] at z4
          unfold F__law_plain
          rw [prd_as]
          push_cast [erow_vm, enc_vm, e1, e2, z1, z2, i2, i3, z3, z4, n1, o1, o2, s1, s2, b1, s3, erow_vd, enc_vd]
          rfl
        · rw [decide_eq_false a0] at z3
          unfold F__law_plain
          rw [prd_as]
          push_cast [erow_vm, enc_vm, e1, e2, z1, z2, i2, i3, z3, n1, o1, o2, s1, s2, b1, s3, erow_vd, enc_vd]
          rfl
theorem pl_plain {k : Fg} {r c : Nat} {P : Pr4 k} : Pl0 3 (plnD r c P) := by
  unfold plnD
  split
  · refine pl_tup fun d hd => ?_
    rcases List.mem_cons.mp hd with rfl | hd
    · exact pl_erow
    · rcases List.mem_cons.mp hd with rfl | hd
      · exact pl_erow
      · rw [List.mem_singleton.mp hd]; exact pl_erow
  · exact pl_non.mono (by omega)
/-- plain products are equal exactly if there are sizes -/
theorem plain_alk {k : Fg} {r c : Nat} {P Q : Pr4 k} (dP : doesB r c P = true) (dQ : doesB r c Q = true) : eqD (plnD r c Q) (plnD r c P) = some (alk r c P Q).isSome := by
  obtain ⟨p1, p2, p3⟩ := does_nz dP
  obtain ⟨q1, q2, q3⟩ := does_nz dQ
  have l0 := ldV_ne p1
  have m0 := ldV_ne p2
  have l0' := ldV_ne q1
  have m0' := ldV_ne q2
  have il := Fd.mul_inv _ l0
  have im := Fd.mul_inv _ m0
  have il' := Fd.mul_inv _ l0'
  have im' := Fd.mul_inv _ m0'
  rw [eq_pl pl_plain pl_plain (by omega)]
  congr 1
  unfold plnD
  rw [dP, dQ, if_pos rfl, if_pos rfl]
  rw [eqB_tup (m := 2) (by omega) (fun d hd => by
    rcases List.mem_cons.mp hd with rfl | hd
    · exact pl_erow
    · rcases List.mem_cons.mp hd with rfl | hd
      · exact pl_erow
      · rw [List.mem_singleton.mp hd]; exact pl_erow) (fun d hd => by
    rcases List.mem_cons.mp hd with rfl | hd
    · exact pl_erow
    · rcases List.mem_cons.mp hd with rfl | hd
      · exact pl_erow
      · rw [List.mem_singleton.mp hd]; exact pl_erow)]
  simp only [eqL, eqB_erow, Bool.and_true]
  rw [Bool.eq_iff_iff, Bool.and_eq_true, Bool.and_eq_true, decide_eq_true_iff, decide_eq_true_iff, decide_eq_true_iff]
  constructor
  · intro ⟨h1, h2, h3⟩
    have s1 : shV r P.u Q.u = some (ldV r Q.u * Fd.inv (ldV r P.u)) := shV_is p1 q1 fun j hj => by
      have := h1 j hj
      unfold plU at this
      have e : Q.u j = ldV r Q.u * (1 * Fd.inv (ldV r Q.u) * Q.u j) := by grind
      rw [e, this]; grind
    have s2 : shV c P.v Q.v = some (ldV c Q.v * Fd.inv (ldV c P.v)) := shV_is p2 q2 fun j hj => by
      have := h2 j hj
      unfold plU at this
      have e : Q.v j = ldV c Q.v * (1 * Fd.inv (ldV c Q.v) * Q.v j) := by grind
      rw [e, this]; grind
    have s3 : shV 2 (cpV Q) (cpV P) = some ((ldV r Q.u * Fd.inv (ldV r P.u)) * (ldV c Q.v * Fd.inv (ldV c P.v))) := shV_is q3 p3 fun j hj => by
      have := h3 j hj
      unfold plC at this
      have e : cpV P j = Fd.inv (ldV r P.u) * Fd.inv (ldV c P.v) * (ldV r P.u * ldV c P.v * cpV P j) := by grind
      rw [e, ← this]; grind
    unfold alk
    rw [s1, s2, s3]
    simp
  · intro h
    unfold alk at h
    cases o1 : shV r P.u Q.u with
    | none => rw [o1] at h; simp at h
    | some s =>
      cases o2 : shV c P.v Q.v with
      | none => rw [o1, o2] at h; simp at h
      | some t =>
        cases o3 : shV 2 (cpV Q) (cpV P) with
        | none => rw [o1, o2, o3] at h; simp at h
        | some b =>
          rw [o1, o2, o3] at h
          have eb : b = s * t := by
            by_cases z : b = s * t
            · exact z
            · simp [z] at h
          obtain ⟨es, hs⟩ := shV_some o1
          obtain ⟨et, ht⟩ := shV_some o2
          obtain ⟨_, hb⟩ := shV_some o3
          refine ⟨fun j hj => ?_, fun j hj => ?_, fun j hj => ?_⟩
          · unfold plU
            rw [← hs j hj, es]; grind
          · unfold plU
            rw [← ht j hj, et]; grind
          · unfold plC
            rw [← hb j hj, eb, es, et]; grind
theorem alk_some {k : Fg} {r c : Nat} {P Q : Pr4 k} {st : k.K × k.K} (h : alk r c P Q = some st) : st.1 = ldV r Q.u * Fd.inv (ldV r P.u) ∧ st.2 = ldV c Q.v * Fd.inv (ldV c P.v) := by
  unfold alk at h
  cases o1 : shV r P.u Q.u with
  | none => rw [o1] at h; simp at h
  | some s =>
    cases o2 : shV c P.v Q.v with
    | none => rw [o1, o2] at h; simp at h
    | some t =>
      cases o3 : shV 2 (cpV Q) (cpV P) with
      | none => rw [o1, o2, o3] at h; simp at h
      | some b =>
        rw [o1, o2, o3] at h
        by_cases z : b = s * t
        · simp [z] at h
          rw [← h]
          exact ⟨(shV_some o1).1, (shV_some o2).1⟩
        · simp [z] at h
end Lw
set_option exponentiation.threshold 20000
namespace Lw
open PySem PySem.Spec L2 Fw Pd Dz
def Xr : Nat → D → D → Prop
  | 0, _, _ => False
  | n + 1, d, e => (∃ i, d = .int i ∧ e = .int i) ∨ (∃ s, d = .str s ∧ e = .str s ∧ PyData.strOk s = true) ∨ ∃ ds es b, d = .tup ds ∧ e = sqD b es ∧ ds.length = es.length ∧ ds.length ≤ 900 ∧ ∀ (i : Nat) x y, ds[i]? = some x → es[i]? = some y → Xr n x y
theorem exact_x : ∀ (n : Nat) (d e h : D), Xr n d e → F__law_exact_31 n [d, e] h = .ok (.bl true) h
  | 0, d, e, h, x => x.elim
  | n + 1, d, e, h, x => by
    rcases x with ⟨i, rfl, rfl⟩ | ⟨s, rfl, rfl, hs⟩ | ⟨ds, es, b, rfl, rfl, hl, h9, hs⟩
    · unfold F__law_exact_31
      push_cast [isa_ni, isa_nb, isa_ns, isa_nt, isa_nl, isa_bi, isa_bb, isa_bs, isa_bt, isa_bl, isa_ii, isa_ib, isa_is, isa_it, isa_il, isa_si, isa_sb, isa_ss, isa_st, isa_sl, isa_ti, isa_tb, isa_ts, isa_tt, isa_tl, isa_li, isa_lb, isa_ls, isa_lt, isa_ll]
    · have e := str_self hs
      unfold F__law_exact_31
      push_cast [isa_ni, isa_nb, isa_ns, isa_nt, isa_nl, isa_bi, isa_bb, isa_bs, isa_bt, isa_bl, isa_ii, isa_ib, isa_is, isa_it, isa_il, isa_si, isa_sb, isa_ss, isa_st, isa_sl, isa_ti, isa_tb, isa_ts, isa_tt, isa_tl, isa_li, isa_lb, isa_ls, isa_lt, isa_ll, e]
    · have hl9 : es.length ≤ 900 := by omega
      have hl' : (ds.length : Int) = (es.length : Int) := by omega
      have ea : ∀ i, i < es.length → atI ds (i : Int) = some (ds[i]?.getD .non) := fun i hi => by
        rw [atI_n (List.getElem?_eq_getElem (show i < ds.length by omega)), List.getElem?_eq_getElem (show i < ds.length by omega)]
        rfl
      have eb : ∀ i, i < es.length → atI es (i : Int) = some (es[i]?.getD .non) := fun i hi => by
        rw [atI_n (List.getElem?_eq_getElem hi), List.getElem?_eq_getElem hi]
        rfl
      have ei : ∀ i, i < es.length → ∀ h, F__law_exact_31 n [ds[i]?.getD .non, es[i]?.getD .non] h = .ok (.bl true) h := fun i hi h => by
        refine exact_x n _ _ h (hs i _ _ ?_ ?_)
        · rw [List.getElem?_eq_getElem (show i < ds.length by omega)]; rfl
        · rw [List.getElem?_eq_getElem hi]; rfl
      have fz : frzL (gen es.length fun _ => D.bl true) = gen es.length fun _ => D.bl true := frzL_gen fun _ => rfl
      have al := all_true (n := es.length) (f := fun _ => true) fun _ _ => rfl
      cases b
      · unfold sqD
        simp only [Bool.false_eq_true, if_false]
        unfold F__law_exact_31
        push_cast [isa_ni, isa_nb, isa_ns, isa_nt, isa_nl, isa_bi, isa_bb, isa_bs, isa_bt, isa_bl, isa_ii, isa_ib, isa_is, isa_it, isa_il, isa_si, isa_sb, isa_ss, isa_st, isa_sl, isa_ti, isa_tb, isa_ts, isa_tt, isa_tl, isa_li, isa_lb, isa_ls, isa_lt, isa_ll, hl', ea, eb, ei, fz, al]
      · unfold sqD
        simp only [if_true]
        unfold F__law_exact_31
        push_cast [isa_ni, isa_nb, isa_ns, isa_nt, isa_nl, isa_bi, isa_bb, isa_bs, isa_bt, isa_bl, isa_ii, isa_ib, isa_is, isa_it, isa_il, isa_si, isa_sb, isa_ss, isa_st, isa_sl, isa_ti, isa_tb, isa_ts, isa_tt, isa_tl, isa_li, isa_lb, isa_ls, isa_lt, isa_ll, hl', ea, eb, ei, fz, al]
theorem xr_int (n : Nat) (i : Int) : Xr (n + 1) (.int i) (.int i) := .inl ⟨i, rfl, rfl⟩
theorem xr_str (n : Nat) {s : Str} (h : PyData.strOk s = true) : Xr (n + 1) (.str s) (.str s) := .inr (.inl ⟨s, rfl, rfl, h⟩)
theorem xr_up : ∀ {n : Nat} {d e : D}, Xr n d e → Xr (n + 1) d e
  | 0, _, _, h => h.elim
  | n + 1, d, e, h => by
    rcases h with h | h | ⟨ds, es, b, e1, e2, e3, e4, e5⟩
    · exact .inl h
    · exact .inr (.inl h)
    · exact .inr (.inr ⟨ds, es, b, e1, e2, e3, e4, fun i x y hx hy => xr_up (e5 i x y hx hy)⟩)
theorem xr_le {n m : Nat} {d e : D} (h : Xr n d e) (k : n ≤ m) : Xr m d e := by
  obtain ⟨c, rfl⟩ : ∃ c, m = n + c := ⟨m - n, by omega⟩
  clear k
  induction c with
  | zero => exact h
  | succ c ih => exact xr_up ih
theorem xr_enc (k : Fg) (x : k.K) : Xr 2 (enc k x) (enc k x) := by
  cases k with
  | q =>
    refine .inr (.inr ⟨[.int x.num, .int x.den], [.int x.num, .int x.den], false, rfl, rfl, rfl, by show 2 ≤ 900; omega, fun i a b ha hb => ?_⟩)
    rw [ha] at hb
    cases hb
    match i, ha with
    | 0, ha => cases ha; exact xr_int 0 _
    | 1, ha => cases ha; exact xr_int 0 _
    | i + 2, ha => simp at ha
  | m n h => exact xr_int 1 _
theorem xr_gen {n c : Nat} {f g : Nat → D} (b : Bool) (hc : c ≤ 900) (h : ∀ i, i < c → Xr n (f i) (g i)) : Xr (n + 1) (.tup (gen c f)) (sqD b (gen c g)) := .inr (.inr ⟨_, _, b, rfl, rfl, by rw [gen_len, gen_len], by rw [gen_len]; exact hc, fun i x y hx hy => by
  obtain ⟨hi, rfl⟩ := gen_get' hx
  obtain ⟨_, rfl⟩ := gen_get' hy
  exact h i hi⟩)
theorem xr_erow (k : Fg) (c : Nat) (x : Nat → k.K) (hc : c ≤ 900) : Xr 3 (erow k c x) (erow k c x) := xr_gen false hc fun i _ => xr_enc k (x i)
theorem xr_4 {n : Nat} {a b c d a' b' c' d' : D} (w : Bool) (h1 : Xr n a a') (h2 : Xr n b b') (h3 : Xr n c c') (h4 : Xr n d d') : Xr (n + 1) (.tup [a, b, c, d]) (sqD w [a', b', c', d']) := .inr (.inr ⟨_, _, w, rfl, rfl, rfl, by show 4 ≤ 900; omega, fun i x y hx hy => by
  match i, hx, hy with
  | 0, hx, hy => cases hx; cases hy; exact h1
  | 1, hx, hy => cases hx; cases hy; exact h2
  | 2, hx, hy => cases hx; cases hy; exact h3
  | 3, hx, hy => cases hx; cases hy; exact h4
  | i + 4, hx, hy => simp at hx⟩)
theorem xr_prd {k : Fg} {r c : Nat} {P : Pr4 k} (hr : r ≤ 900) (hc : c ≤ 900) : Xr 4 (P.d r c) (P.d r c) := xr_4 false (xr_erow k r P.u hr) (xr_erow k c P.v hc) (xr_up (xr_enc k P.a)) (xr_up (xr_enc k P.b))
theorem X_prds31 (k : Fg) (b : Bool) (r c n : Nat) (P : Nat → Pr4 k) (h : D) (hr : r ≤ 900) (hc : c ≤ 900) (hn : n ≤ 900) : F__law_exact_31 6 [.tup (gen n fun t => (P t).d r c), sqD b (gen n fun t => (P t).d r c)] h = .ok (.bl true) h := exact_x 6 _ _ h (xr_up (xr_gen b hn fun i _ => xr_prd hr hc))
/-- each of the first in turn, with the first of the rest that it is alike -/
def mt (sim : Nat → Nat → Bool) : List Nat → List Nat → Option (List (Nat × Nat) × List Nat)
  | [], L => some ([], L)
  | k :: ks, L => match L.find? (sim k) with
    | none => none
    | some j => (mt sim ks (L.filter fun x => decide (x ≠ j))).map fun z => ((k, j) :: z.1, z.2)
def simB {k : Fg} (r c : Nat) (P Q : Nat → Pr4 k) (a j : Nat) : Bool := (alk r c (P a) (Q j)).isSome
def lU {k : Fg} (r : Nat) (P Q : Nat → Pr4 k) (a j : Nat) : k.K := ldV r (Q j).u * Fd.inv (ldV r (P a).u)
def lV {k : Fg} (c : Nat) (P Q : Nat → Pr4 k) (a j : Nat) : k.K := ldV c (Q j).v * Fd.inv (ldV c (P a).v)
def matD {k : Fg} (r c : Nat) (P Q : Nat → Pr4 k) (z : Nat × Nat) : D := .ins "Match" [("product", .int (z.1 : Int)), ("other", .int (z.2 : Int)), ("left", enc k (lU r P Q z.1 z.2)), ("right", enc k (lV c P Q z.1 z.2))]
theorem E_matchmk {k : Fg} (a b : Int) (s t : k.K) : F_Match___init__ [.me, .int a, .int b, enc k s, enc k t] (.ins "Match" []) = .ok .non (.ins "Match" [("product", .int a), ("other", .int b), ("left", enc k s), ("right", enc k t)]) := by
  have p1 : putD "product" (.int a) [] = ([("product", .int a)] : List (Str × D)) := rfl
  have p2 : putD "other" (.int b) [("product", .int a)] = ([("product", .int a), ("other", .int b)] : List (Str × D)) := rfl
  have p3 : putD "left" (enc k s) [("product", .int a), ("other", .int b)] = ([("product", .int a), ("other", .int b), ("left", enc k s)] : List (Str × D)) := rfl
  have p4 : putD "right" (enc k t) [("product", .int a), ("other", .int b), ("left", enc k s)] = ([("product", .int a), ("other", .int b), ("left", enc k s), ("right", enc k t)] : List (Str × D)) := rfl
  have l0 : (0 : Nat) < 900 := by omega
  have l1 : (1 : Nat) < 900 := by omega
  have l2 : (2 : Nat) < 900 := by omega
  have l3 : (3 : Nat) < 900 := by omega
  unfold F_Match___init__
  push_cast [enc_vd, p1, p2, p3, p4, l0, l1, l2, l3]
theorem isN_mat {k : Fg} {r c : Nat} {P Q : Nat → Pr4 k} {z : Nat × Nat} : Fw.oIsN.match_1 (fun _ => Bool) (matD r c P Q z) (fun _ => true) (fun _ => false) = false := rfl
theorem mat_vd {k : Fg} {r c : Nat} {P Q : Nat → Pr4 k} {z : Nat × Nat} {h : D} : vD (some (some (matD r c P Q z))) h = .ok (matD r c P Q z) h := (rfl)
theorem mat_fr {k : Fg} {r c : Nat} {P Q : Nat → Pr4 k} {z : Nat × Nat} : (matD r c P Q z).fr = true := (rfl)
theorem mat_o {k : Fg} {r c : Nat} {P Q : Nat → Pr4 k} {z : Nat × Nat} {h : D} : atvD (some (some (matD r c P Q z))) "other" h = .ok (.int (z.2 : Int)) h := (rfl)
def fmD {k : Fg} (r c : Nat) (P Q : Nat → Pr4 k) (a : Nat) (o : Option Nat) : D := match o with
  | some j => matD r c P Q (a, j)
  | none => .non
def fmB : SF := (sSeq (sSet 5 (eCall 3 F_sizes_if_alike [] (eCons (eAtV 0 "figures") (eCons (eOp oIx (eAtV 0 "products") (eV 1)) (eCons (eOp oIx (eAtV 2 "products") (eV 4)) eNil)))))
    (sIf (eT (eOp oNotN (eV 5) (eC .non))) (sRet (eMake "Match" 5 F_Match___init__ [] (eCons (eV 1) (eCons (eV 4) (eCons (eOp oIx (eV 5) (eC (.int 0))) (eCons (eOp oIx (eV 5) (eC (.int 1))) eNil)))))) sNil))
theorem ix_gen {n i : Nat} {f : Nat → D} (h : i < n) : oIx (.tup (gen n f)) (.int (i : Int)) = some (f i) := by rw [oIx_t, atI_gen (by omega) (by omega), Int.toNat_natCast]
theorem E_fm (k : Fg) (r c n m : Nat) (P Q : Nat → Pr4 k) (a : Nat) (L : List Nat) (h : D) (B : Nat) (hr : r ≤ 90) (hc : c ≤ 90) (ha : a < n) (hP : ∀ t, t < n → SmP r c (P t) B) (hQ : ∀ t, t < m → SmP r c (Q t) B) (hB : 6 * B + 6 ≤ 8000) (dP : doesB r c (P a) = true) (hL : ∀ j, j ∈ L → j < m ∧ doesB r c (Q j) = true) :
    F_first_match [prgD k r c n P, .int (a : Int), prgD k r c m Q, .lst (nats L)] h = .ok (fmD r c P Q a (L.find? (simB r c P Q a))) h := by
  have pa : oIx (.tup (gen n fun i => (P i).d r c)) (.int (a : Int)) = some ((P a).d r c) := ix_gen ha
  have st : ∀ j, j ∈ L → ∀ δ, (∃ y4 y5, δ = [some (prgD k r c n P), some (.int (a : Int)), some (prgD k r c m Q), some (.lst (nats L)), y4, y5]) → ∃ δ1, bNm 4 (D.int (j : Int)) δ = some δ1 ∧ (simB r c P Q a j = true → fmB δ1 h = .ret (matD r c P Q (a, j)) h) ∧ (simB r c P Q a j = false → ∃ δ2, fmB δ1 h = .nx δ2 h ∧ ∃ y4 y5, δ2 = [some (prgD k r c n P), some (.int (a : Int)), some (prgD k r c m Q), some (.lst (nats L)), y4, y5]) := fun j hj δ ⟨y4, y5, ed⟩ => by
    subst ed
    obtain ⟨jm, dQ⟩ := hL j hj
    have e := E_alike k r c (P a) (Q j) h B hr hc (hP a ha) (hQ j jm) hB dP dQ
    have qj : oIx (.tup (gen m fun i => (Q i).d r c)) (.int (j : Int)) = some ((Q j).d r c) := ix_gen jm
    refine ⟨_, rfl, fun z => ?_, fun z => ?_⟩
    · obtain ⟨s, es⟩ : ∃ s, alk r c (P a) (Q j) = some s := Option.isSome_iff_exists.mp z
      rw [es] at e
      obtain ⟨s1, s2⟩ := alk_some es
      have e : F_sizes_if_alike [fig k, (P a).d r c, (Q j).d r c] h = .ok (.tup [enc k (lU r P Q a j), enc k (lV c P Q a j)]) h := by
        rw [e]
        show Ex.ok (D.tup [enc k s.1, enc k s.2]) h = _
        rw [s1, s2]
        rfl
      have em := E_matchmk (k := k) (a : Int) (j : Int) (lU r P Q a j) (lV c P Q a j)
      have l4 : (4 : Nat) ≤ 900 := by omega
      unfold fmB
      push_cast [prg_f, prg_p, pa, qj, prd_vm, e, em]
      rfl
    · have es : alk r c (P a) (Q j) = none := by
        have z : (alk r c (P a) (Q j)).isSome = false := z
        cases q : alk r c (P a) (Q j) with
        | none => rfl
        | some s => rw [q] at z; cases z
      rw [es] at e
      have e : F_sizes_if_alike [fig k, (P a).d r c, (Q j).d r c] h = .ok .non h := e
      refine ⟨_, ?_, some (.int (j : Int)), some .non, rfl⟩
      unfold fmB
      push_cast [prg_f, prg_p, pa, qj, e]
  have it : itS (.lst (nats L)) = some (L.map fun j : Nat => D.int (j : Int)) := rfl
  rcases for_firstL (bind := bNm 4) (body := fmB) (h := h) (d := fun j => D.int (j : Int)) (fun δ => ∃ y4 y5, δ = [some (prgD k r c n P), some (.int (a : Int)), some (prgD k r c m Q), some (.lst (nats L)), y4, y5]) (simB r c P Q a) (fun j => matD r c P Q (a, j)) L [some (prgD k r c n P), some (.int (a : Int)), some (prgD k r c m Q), some (.lst (nats L)), none, none] ⟨none, none, rfl⟩ st with ⟨j, e1, e2⟩ | ⟨e1, δ', e2, y4, y5, ed⟩
  · rw [e1]
    unfold fmB at e2
    unfold F_first_match
    push_cast [it, e2]
    rfl
  · subst ed
    rw [e1]
    unfold fmB at e2
    unfold F_first_match
    push_cast [it, e2]
    rfl
end Lw
set_option exponentiation.threshold 20000
namespace Lw
open PySem PySem.Spec L2 Fw Pd Dz
theorem E_figeq31 (k : Fg) (h : D) : F_Figures___eq___31 [fig k, fig k] h = .ok (.bl true) h := by
  have ei : ∀ h, eIsC (msOf [("Pair", false), ("Program", false), ("Match", false), ("Shared", false), ("Figures", true)]) false (eV 1) [some (fig k), some (fig k)] h = .ok (.bl true) h := fun h => rfl
  unfold F_Figures___eq___31
  push_cast [isa_ni, isa_nb, isa_ns, isa_nt, isa_nl, isa_bi, isa_bb, isa_bs, isa_bt, isa_bl, isa_ii, isa_ib, isa_is, isa_it, isa_il, isa_si, isa_sb, isa_ss, isa_st, isa_sl, isa_ti, isa_tb, isa_ts, isa_tt, isa_tl, isa_li, isa_lb, isa_ls, isa_lt, isa_ll, ↓ei, fig_p]
def apB : SF := (sSeq (sSet 5 (eCall 4 F_first_match [] (eCons (eVm 0) (eCons (eVm 4) (eCons (eVm 1) (eCons (eVm 2) eNil))))))
    (sSeq (sIf (eT (eOp oIsN (eV 5) (eC .non))) (sRet (eC .non)) sNil)
    (sSeq (sSet 2 (eFz (eLc [6] (iSeq (eV 2)) (bNm 6) (eT (eOp oNe (eV 6) (eAtV 5 "other"))) (eV 6))))
    (sApp (pV 3) (eV 5)))))
theorem ap_loop (k : Fg) (r c n m : Nat) (P Q : Nat → Pr4 k) (h : D) (B : Nat) (hr : r ≤ 90) (hc : c ≤ 90) (hP : ∀ t, t < n → SmP r c (P t) B) (hQ : ∀ t, t < m → SmP r c (Q t) B) (hB : 6 * B + 6 ≤ 8000) : ∀ (ks L : List Nat) (MS : List (Nat × Nat)) (x4 x5 : Option D), (∀ a, a ∈ ks → a < n ∧ doesB r c (P a) = true) → (∀ j, j ∈ L → j < m ∧ doesB r c (Q j) = true) → L.length ≤ 900 → MS.length + ks.length ≤ 900 →
    (mt (simB r c P Q) ks L = none → forGo (bNm 4) apB (ks.map fun i : Nat => D.int (i : Int)) [some (prgD k r c n P), some (prgD k r c m Q), some (.lst (nats L)), some (.hl (MS.map (matD r c P Q))), x4, x5, none] h = .ret .non h) ∧
    ∀ ms L', mt (simB r c P Q) ks L = some (ms, L') → ∃ y4 y5, forGo (bNm 4) apB (ks.map fun i : Nat => D.int (i : Int)) [some (prgD k r c n P), some (prgD k r c m Q), some (.lst (nats L)), some (.hl (MS.map (matD r c P Q))), x4, x5, none] h = .nx [some (prgD k r c n P), some (prgD k r c m Q), some (.lst (nats L')), some (.hl ((MS ++ ms).map (matD r c P Q))), y4, y5, none] h
  | [], L, MS, x4, x5, _, _, _, _ => ⟨fun z => (by unfold mt at z; cases z), fun ms L' e => by
      unfold mt at e
      cases e
      exact ⟨x4, x5, by rw [List.append_nil]; rfl⟩⟩
  | a :: ks, L, MS, x4, x5, ha, hL, hl, hm => by
    obtain ⟨an, da⟩ := ha a List.mem_cons_self
    have e := E_fm k r c n m P Q a L h B hr hc an hP hQ hB da hL
    have lm : (MS.map (matD r c P Q)).length ≤ 900 := by rw [List.length_map]; rw [List.length_cons] at hm; omega
    have ll : (nats L).length ≤ 900 := by unfold nats; rw [List.length_map]; exact hl
    cases q : L.find? (simB r c P Q a) with
    | none =>
      rw [q] at e
      have e : F_first_match [prgD k r c n P, .int (a : Int), prgD k r c m Q, .lst (nats L)] h = .ok .non h := e
      have m0 : mt (simB r c P Q) (a :: ks) L = none := by unfold mt; rw [q]
      refine ⟨fun _ => ?_, fun ms L' z => by rw [m0] at z; cases z⟩
      rw [List.map_cons]
      have b0 : apB [some (prgD k r c n P), some (prgD k r c m Q), some (.lst (nats L)), some (.hl (MS.map (matD r c P Q))), some (.int (a : Int)), x5, none] h = .ret .non h := by
        unfold apB
        push_cast [prg_vm, e]
      unfold forGo
      simp only [bNm_a, List.set_cons_succ, List.set_cons_zero, b0]
    | some j =>
      rw [q] at e
      have e : F_first_match [prgD k r c n P, .int (a : Int), prgD k r c m Q, .lst (nats L)] h = .ok (matD r c P Q (a, j)) h := e
      have m1 : mt (simB r c P Q) (a :: ks) L = (mt (simB r c P Q) ks (L.filter fun x => decide (x ≠ j))).map fun z => ((a, j) :: z.1, z.2) := by
        conv => lhs; unfold mt
        rw [q]
      have lc := lc_filterL (bind := bNm 6) (test := (eT (eOp oNe (eV 6) (eAtV 5 "other")))) (elt := eV 6) (δ := [some (prgD k r c n P), some (prgD k r c m Q), some (.lst (nats L)), some (.hl (MS.map (matD r c P Q))), some (.int (a : Int)), some (matD r c P Q (a, j)), none]) (h := h) (d := fun i => .int (i : Int)) (e := fun i => .int (i : Int)) (fun x => decide (x ≠ j)) L fun x hx => by
        have q : (!decide ((x : Int) = (j : Int))) = decide (x ≠ j) := by
          by_cases z : x = j
          · subst z; simp
          · have : ¬ (x : Int) = (j : Int) := by omega
            simp [z, this]
        refine ⟨_, rfl, ?_, fun _ => ?_⟩
        · push_cast [mat_o, q]
        · push_cast []
      have it : itS (.lst (nats L)) = some (L.map fun j : Nat => D.int (j : Int)) := rfl
      have fz : frzL (List.map (fun i : Nat => D.int (i : Int)) (L.filter fun x => decide (x ≠ j))) = nats (L.filter fun x => decide (x ≠ j)) := frz_nats _
      have sl : szOk (L.map fun j : Nat => D.int (j : Int)).length = true := sz_ok (by rw [List.length_map]; omega)
      have sl2 : szOk (MS.map (matD r c P Q)).length = true := sz_ok (by omega)
      have ap : MS.map (matD r c P Q) ++ [matD r c P Q (a, j)] = (MS ++ [(a, j)]).map (matD r c P Q) := by rw [List.map_append]; rfl
      have b1 : apB [some (prgD k r c n P), some (prgD k r c m Q), some (.lst (nats L)), some (.hl (MS.map (matD r c P Q))), some (.int (a : Int)), x5, none] h = .nx [some (prgD k r c n P), some (prgD k r c m Q), some (.lst (nats (L.filter fun x => decide (x ≠ j)))), some (.hl ((MS ++ [(a, j)]).map (matD r c P Q))), some (.int (a : Int)), some (matD r c P Q (a, j)), none] h := by
        unfold apB
        push_cast [prg_vm, e, mat_vd, isN_mat, it, sl, lc, fz, sl2, mat_fr, ap]
        rfl
      obtain ⟨i1, i2⟩ := ap_loop k r c n m P Q h B hr hc hP hQ hB ks (L.filter fun x => decide (x ≠ j)) (MS ++ [(a, j)]) (some (.int (a : Int))) (some (matD r c P Q (a, j))) (fun b hb => ha b (List.mem_cons_of_mem _ hb)) (fun x hx => hL x (List.mem_filter.mp hx).1) (Nat.le_trans (List.length_filter_le _ _) hl) (by rw [List.length_append, List.length_singleton]; rw [List.length_cons] at hm; omega)
      have step : forGo (bNm 4) apB ((a :: ks).map fun i : Nat => D.int (i : Int)) [some (prgD k r c n P), some (prgD k r c m Q), some (.lst (nats L)), some (.hl (MS.map (matD r c P Q))), x4, x5, none] h = forGo (bNm 4) apB (ks.map fun i : Nat => D.int (i : Int)) [some (prgD k r c n P), some (prgD k r c m Q), some (.lst (nats (L.filter fun x => decide (x ≠ j)))), some (.hl ((MS ++ [(a, j)]).map (matD r c P Q))), some (.int (a : Int)), some (matD r c P Q (a, j)), none] h := by
        rw [List.map_cons]
        conv => lhs; unfold forGo
        simp only [bNm_a, List.set_cons_succ, List.set_cons_zero, b1]
      rw [step, m1]
      refine ⟨fun z => i1 (by cases w : mt (simB r c P Q) ks (L.filter fun x => decide (x ≠ j)) with | none => rfl | some v => rw [w] at z; cases z), fun ms L' z => ?_⟩
      cases w : mt (simB r c P Q) ks (L.filter fun x => decide (x ≠ j)) with
      | none => rw [w] at z; cases z
      | some v =>
        rw [w] at z
        cases z
        obtain ⟨y4, y5, e⟩ := i2 v.1 v.2 w
        refine ⟨y4, y5, ?_⟩
        rw [e, List.append_assoc]
        rfl
def apD {k : Fg} (r c : Nat) (P Q : Nat → Pr4 k) (o : Option (List (Nat × Nat) × List Nat)) : D := match o with
  | some (ms, []) => .tup (ms.map (matD r c P Q))
  | _ => .non
theorem dpl_mem {k : Fg} {r c n a : Nat} {P : Nat → Pr4 k} (h : a ∈ dpl r c n P) : a < n ∧ doesB r c (P a) = true := by
  obtain ⟨h1, h2⟩ := List.mem_filter.mp h
  exact ⟨List.mem_range.mp h1, h2⟩
theorem dpl_len {k : Fg} {r c n : Nat} {P : Nat → Pr4 k} : (dpl r c n P).length ≤ n := by
  have := List.length_filter_le (fun i => doesB r c (P i)) (List.range n)
  rw [List.length_range] at this
  exact this
theorem E_alikeP (k : Fg) (r c n m : Nat) (P Q : Nat → Pr4 k) (h : D) (B : Nat) (hr : r ≤ 90) (hc : c ≤ 90) (hn : n ≤ 90) (hm : m ≤ 90) (hP : ∀ t, t < n → SmP r c (P t) B) (hQ : ∀ t, t < m → SmP r c (Q t) B) (hB : 6 * B + 6 ≤ 8000) :
    F_alike_programs [prgD k r c n P, prgD k r c m Q] h = .ok (apD r c P Q (mt (simB r c P Q) (dpl r c n P) (dpl r c m Q))) h := by
  have fe : ∀ h, eNeI "Figures" F_Figures___eq___31 (eAtV 0 "figures") (eAtV 1 "figures") [some (prgD k r c n P), some (prgD k r c m Q), none, none, none, none, none] h = .ok (.bl false) h := fun h => by
    rw [eNeI_a]
    push_cast [prg_f]
    show (if _ then _ else _) = _
    have := E_figeq31 k h
    unfold fig at this
    simp only [this, and_self, if_true, nox_okE, bind_okE]
    rfl
  have d1 := E_doing k r c m Q h (by omega)
  have d2 := E_doing k r c n P h (by omega)
  have it : itS (.lst (nats (dpl r c n P))) = some ((dpl r c n P).map fun j : Nat => D.int (j : Int)) := rfl
  have l1 := dpl_len (r := r) (c := c) (n := n) (P := P)
  have l2 := dpl_len (r := r) (c := c) (n := m) (P := Q)
  obtain ⟨i1, i2⟩ := ap_loop k r c n m P Q h B hr hc hP hQ hB (dpl r c n P) (dpl r c m Q) [] none none (fun a ha => dpl_mem ha) (fun j hj => dpl_mem hj) (by omega) (by rw [List.length_nil]; omega)
  unfold apB at i1 i2
  cases w : mt (simB r c P Q) (dpl r c n P) (dpl r c m Q) with
  | none =>
    have i1 := i1 w
    rw [List.map_nil] at i1
    unfold F_alike_programs
    push_cast [↓fe, prg_r, prg_c, prg_vm, d1, d2, it, i1]
    rfl
  | some v =>
    obtain ⟨ms, L'⟩ := v
    obtain ⟨y4, y5, e⟩ := i2 ms L' w
    rw [List.map_nil, List.nil_append] at e
    have fzm : ∀ ms : List (Nat × Nat), frzL (ms.map (matD r c P Q)) = ms.map (matD r c P Q) := fun ms => by
      induction ms with
      | nil => rfl
      | cons a ms ih =>
        show matD r c P Q a :: frzL (ms.map (matD r c P Q)) = _
        rw [ih]
        rfl
    have fm := fzm ms
    have nl : (nats L').length = L'.length := List.length_map _
    cases L' with
    | nil =>
      unfold F_alike_programs
      push_cast [↓fe, prg_r, prg_c, prg_vm, d1, d2, it, e, fm, nl]
      rfl
    | cons x L' =>
      have nz : ¬ (((x :: L').length : Nat) : Int) = 0 := by rw [List.length_cons]; omega
      rw [← nl] at nz
      unfold F_alike_programs
      push_cast [↓fe, prg_r, prg_c, prg_vm, d1, d2, it, e, fm, nz]
      rfl
theorem E_alikeN (k : Fg) (r c n : Nat) (P Q : Nat → Pr4 k) (h : D) (ne : r ≠ c) : F_alike_programs [prgD k r c n P, prgD k c r 0 Q] h = .ok .non h := by
  have fe : ∀ h, eNeI "Figures" F_Figures___eq___31 (eAtV 0 "figures") (eAtV 1 "figures") [some (prgD k r c n P), some (prgD k c r 0 Q), none, none, none, none, none] h = .ok (.bl false) h := fun h => by
    rw [eNeI_a]
    push_cast [prg_f]
    show (if _ then _ else _) = _
    have := E_figeq31 k h
    unfold fig at this
    simp only [this, and_self, if_true, nox_okE, bind_okE]
    rfl
  have z : ¬ (r : Int) = (c : Int) := by omega
  unfold F_alike_programs
  push_cast [↓fe, prg_r, prg_c, z]
end Lw
set_option exponentiation.threshold 20000
namespace Lw
open PySem PySem.Spec L2 Fw Pd Dz
theorem eLendT_a (is : List Nat) (g : EF Bool) (δ : DE) (h : D) : eLendT is g δ h = (match g (lendS is δ) .non with
  | .ok b _ => .ok b h
  | _ => .bad) := (rfl)
theorem filter_ne_len : ∀ {L : List Nat} {j : Nat}, L.Nodup → j ∈ L → (L.filter fun x => decide (x ≠ j)).length + 1 = L.length
  | [], j, _, h => by cases h
  | a :: L, j, nd, h => by
    rw [List.nodup_cons] at nd
    by_cases q : a = j
    · subst q
      have : L.filter (fun x => decide (x ≠ a)) = L := List.filter_eq_self.mpr fun x hx => decide_eq_true fun z => nd.1 (by rw [← z]; exact hx)
      rw [List.filter_cons, if_neg (by simp), this, List.length_cons]
    · have hj : j ∈ L := by
        rcases List.mem_cons.mp h with z | z
        · exact absurd z.symm q
        · exact z
      have ih := filter_ne_len nd.2 hj
      rw [List.filter_cons, if_pos (by simp [q]), List.length_cons, List.length_cons]
      omega
/-- the places that are not taken -/
def fre (m : Nat) (T : List Nat) : List Nat := (List.range m).filter fun j => decide (j ∉ T)
theorem fre_nd {m : Nat} {T : List Nat} : (fre m T).Nodup := List.Pairwise.filter _ List.nodup_range
theorem fre_mem {m j : Nat} {T : List Nat} : j ∈ fre m T ↔ j < m ∧ j ∉ T := by
  unfold fre
  rw [List.mem_filter, List.mem_range, decide_eq_true_iff]
theorem fre_step {m j : Nat} {T : List Nat} : fre m (T ++ [j]) = (fre m T).filter fun x => decide (x ≠ j) := by
  unfold fre
  rw [List.filter_filter]
  congr 1
  funext x
  rw [Bool.eq_iff_iff, Bool.and_eq_true, decide_eq_true_iff, decide_eq_true_iff, decide_eq_true_iff, List.mem_append, List.mem_singleton]
  constructor
  · intro h
    exact ⟨fun z => h (.inr z), fun z => h (.inl z)⟩
  · intro ⟨h1, h2⟩ z
    rcases z with z | z
    · exact h2 z
    · exact h1 z
theorem inP_nats (T : List Nat) (j : Nat) : inP (.int (j : Int)) (.lst (nats T)) = some (decide (j ∈ T)) := by
  rw [(in_pl (n := 1) (ds := nats T) (d := .int (j : Int)) (fun x hx => by
    obtain ⟨i, hi, rfl⟩ := List.mem_map.mp hx
    exact (pl_int _).mono (by omega)) ((pl_int _).mono (by omega)) (by omega)).2]
  congr 1
  unfold inB
  rw [Bool.eq_iff_iff, List.any_eq_true, decide_eq_true_iff]
  constructor
  · rintro ⟨x, hx, e⟩
    obtain ⟨i, hi, rfl⟩ := List.mem_map.mp hx
    have e : decide ((i : Int) = (j : Int)) = true := by
      have : eqB (D.int (i : Int)) (.int (j : Int)) = decide ((i : Int) = (j : Int)) := by unfold eqB; rw [eq_int]; rfl
      rw [← this]; exact e
    have := of_decide_eq_true e
    have : i = j := by omega
    rw [← this]; exact hi
  · intro h
    refine ⟨_, List.mem_map.mpr ⟨j, h, rfl⟩, ?_⟩
    unfold eqB
    rw [eq_int]
    simp
theorem find_filter {P : Nat → Bool} : ∀ {L : List Nat}, (L.find? P = none ∧ L.filter P = []) ∨ ∃ j L', L.find? P = some j ∧ L.filter P = j :: L'
  | [] => .inl ⟨rfl, rfl⟩
  | a :: L => by
    cases q : P a with
    | true => exact .inr ⟨a, L.filter P, by rw [List.find?_cons, q], by rw [List.filter_cons, if_pos q]⟩
    | false =>
      have e1 : (a :: L).find? P = L.find? P := by rw [List.find?_cons, q]
      have e2 : (a :: L).filter P = L.filter P := by rw [List.filter_cons, if_neg (by rw [q]; exact Bool.false_ne_true)]
      rw [e1, e2]
      exact find_filter
theorem isN_plnM {k : Fg} {r c : Nat} {P : Pr4 k} : Fw.oIsN.match_1 (fun _ => Bool) (plnD r c P) (fun _ => true) (fun _ => false) = !doesB r c P := by
  unfold plnD
  cases doesB r c P <;> rfl
theorem pln_vd {k : Fg} {r c : Nat} {P : Pr4 k} {h : D} : vD (some (some (plnD r c P))) h = .ok (plnD r c P) h := by
  unfold plnD
  split <;> rfl
theorem pln_fr {k : Fg} {r c : Nat} {P : Pr4 k} : (plnD r c P).fr = true := by
  unfold plnD
  split <;> rfl
theorem prd_0 {k : Fg} {r c : Nat} {P : Pr4 k} : oIx (P.d r c) (.int 0) = some (erow k r P.u) := rfl
theorem prd_1 {k : Fg} {r c : Nat} {P : Pr4 k} : oIx (P.d r c) (.int 1) = some (erow k c P.v) := rfl
theorem prd_2 {k : Fg} {r c : Nat} {P : Pr4 k} : oIx (P.d r c) (.int 2) = some (enc k P.a) := rfl
theorem prd_3 {k : Fg} {r c : Nat} {P : Pr4 k} : oIx (P.d r c) (.int 3) = some (enc k P.b) := rfl
def ldM {k : Fg} (r c : Nat) (P Q : Nat → Pr4 k) (z : Nat × Nat) : D := .lst [.int (z.1 : Int), .int (z.2 : Int), enc k (lU r P Q z.1 z.2), enc k (lV c P Q z.1 z.2)]
def ldH {k : Fg} (r c : Nat) (P Q : Nat → Pr4 k) (z : Nat × Nat) : D := .hl [.int (z.1 : Int), .int (z.2 : Int), enc k (lU r P Q z.1 z.2), enc k (lV c P Q z.1 z.2)]
def lmB : SF := (sSeq (sSet 8 (eCall 2 F__law_plain [] (eCons (eVm 0) (eCons (eOp oIx (eV 1) (eV 6)) eNil))))
    (sSeq (sIf (eT (eOp oIsN (eV 8) (eC .non))) sCt sNil)
    (sSeq (sSet 9 (eFz (eLc [10] (iRg rg1 (eCons (eBi kLen (eCons (eV 2) eNil)) eNil)) (bNm 10) (eAnd (eLendT [5] (eT (eOp oNinP (eV 10) (eV 5)))) (eT (eOp oEq (eOp oIx (eV 3) (eV 10)) (eV 8)))) (eV 10))))
    (sSeq (sIf (eT (eOp oEq (eV 9) (eFz (eLst eNil)))) (sRet (eC .non)) sNil)
    (sSeq (sSet 10 (eOp oIx (eV 9) (eC (.int 0))))
    (sSeq (sApp (pV 5) (eV 10))
    (sSeq (sSet 11 (eCall 3 F__law_over [] (eCons (eVm 0) (eCons (eCall 2 F__law_lead [] (eCons (eVm 0) (eCons (eOp oIx (eOp oIx (eV 2) (eV 10)) (eC (.int 0))) eNil))) (eCons (eCall 2 F__law_lead [] (eCons (eVm 0) (eCons (eOp oIx (eOp oIx (eV 1) (eV 6)) (eC (.int 0))) eNil))) eNil)))))
    (sSeq (sSet 12 (eCall 3 F__law_over [] (eCons (eVm 0) (eCons (eCall 2 F__law_lead [] (eCons (eVm 0) (eCons (eOp oIx (eOp oIx (eV 2) (eV 10)) (eC (.int 1))) eNil))) (eCons (eCall 2 F__law_lead [] (eCons (eVm 0) (eCons (eOp oIx (eOp oIx (eV 1) (eV 6)) (eC (.int 1))) eNil))) eNil)))))
    (sApp (pV 7) (eLst (eCons (eV 6) (eCons (eV 10) (eCons (eV 11) (eCons (eV 12) eNil))))))))))))))
def lmS {k : Fg} (r c n m : Nat) (P Q : Nat → Pr4 k) (T : List Nat) (MS : List (Nat × Nat)) (x4 x6 x8 x9 x10 x11 x12 : Option D) : DE := [some (.int k.p), some (.lst (gen n fun i => (P i).d r c)), some (.lst (gen m fun i => (Q i).d r c)), some (.lst (gen m fun i => plnD r c (Q i))), x4, some (.hl (nats T)), x6, some (.hl (MS.map (ldH r c P Q))), x8, x9, x10, x11, x12]
theorem ixL_gen {n i : Nat} {f : Nat → D} (h : i < n) : oIx (.lst (gen n f)) (.int (i : Int)) = some (f i) := by rw [oIx_l, atI_gen (by omega) (by omega), Int.toNat_natCast]
/-- one turn -/
theorem lm_step (k : Fg) (r c n m : Nat) (P Q : Nat → Pr4 k) (h : D) (B : Nat) (hr : r ≤ 90) (hc : c ≤ 90) (hn : n ≤ 90) (hm : m ≤ 90) (hP : ∀ t, t < n → SmP r c (P t) B) (hQ : ∀ t, t < m → SmP r c (Q t) B) (B1 : 1 ≤ B) (hB : 6 * B + 6 ≤ 8000) (a : Nat) (ha : a < n) (T : List Nat) (MS : List (Nat × Nat)) (x4 x8 x9 x10 x11 x12 : Option D) (hT : ∀ j, j < m → doesB r c (Q j) = false → j ∈ T) (lT : T.length ≤ 900) (lM : MS.length ≤ 900) :
    (doesB r c (P a) = false → ∃ x8', lmB (lmS r c n m P Q T MS x4 (some (.int (a : Int))) x8 x9 x10 x11 x12) h = .ct (lmS r c n m P Q T MS x4 (some (.int (a : Int))) x8' x9 x10 x11 x12) h) ∧
    (doesB r c (P a) = true → (fre m T).find? (simB r c P Q a) = none → lmB (lmS r c n m P Q T MS x4 (some (.int (a : Int))) x8 x9 x10 x11 x12) h = .ret .non h) ∧
    (doesB r c (P a) = true → ∀ j, (fre m T).find? (simB r c P Q a) = some j → ∃ x8' x9' x10' x11' x12', lmB (lmS r c n m P Q T MS x4 (some (.int (a : Int))) x8 x9 x10 x11 x12) h = .nx (lmS r c n m P Q (T ++ [j]) (MS ++ [(a, j)]) x4 (some (.int (a : Int))) x8' x9' x10' x11' x12') h) := by
  have ep := E_lplain k r c (P a) h B hr hc (hP a ha) B1 hB
  have pa := ixL_gen (f := fun i => (P i).d r c) ha
  have lc : doesB r c (P a) = true → lcGo (bNm 10) (eAnd (eLendT [5] (eT (eOp oNinP (eV 10) (eV 5)))) (eT (eOp oEq (eOp oIx (eV 3) (eV 10)) (eV 8)))) (eV 10) (lmS r c n m P Q T MS x4 (some (.int (a : Int))) (some (plnD r c (P a))) x9 none x11 x12) (gen m fun i : Nat => D.int (i : Int)) h = .ok (nats ((fre m T).filter (simB r c P Q a))) h := fun dP => by
    have := lc_filterL (bind := bNm 10) (test := (eAnd (eLendT [5] (eT (eOp oNinP (eV 10) (eV 5)))) (eT (eOp oEq (eOp oIx (eV 3) (eV 10)) (eV 8))))) (elt := eV 10) (δ := lmS r c n m P Q T MS x4 (some (.int (a : Int))) (some (plnD r c (P a))) x9 none x11 x12) (h := h) (d := fun i => .int (i : Int)) (e := fun i => .int (i : Int)) (fun j => decide (j ∉ T) && simB r c P Q a j) (List.range m) fun j hj => by
      have jm := List.mem_range.mp hj
      have le : eLendT [5] (eT (eOp oNinP (eV 10) (eV 5))) ((lmS r c n m P Q T MS x4 (some (.int (a : Int))) (some (plnD r c (P a))) x9 none x11 x12).set 10 (some (.int (j : Int)))) h = .ok (decide (j ∉ T)) h := by
        have i0 := inP_nats T j
        have nb : (!decide (j ∈ T)) = decide (j ∉ T) := by by_cases z : j ∈ T <;> simp [z]
        have fz : frzL (nats T) = nats T := frz_nats T
        rw [eLendT_a]
        have ev : (eT (eOp oNinP (eV 10) (eV 5))) (lendS [5] ((lmS r c n m P Q T MS x4 (some (.int (a : Int))) (some (plnD r c (P a))) x9 none x11 x12).set 10 (some (.int (j : Int))))) .non = .ok (decide (j ∉ T)) .non := by
          have e10 : (lendS [5] ((lmS r c n m P Q T MS x4 (some (.int (a : Int))) (some (plnD r c (P a))) x9 none x11 x12).set 10 (some (.int (j : Int)))))[10]? = some (some (.int (j : Int))) := rfl
          have e5 : (lendS [5] ((lmS r c n m P Q T MS x4 (some (.int (a : Int))) (some (plnD r c (P a))) x9 none x11 x12).set 10 (some (.int (j : Int)))))[5]? = some (some (.lst (nats T))) := by
            show some (forgetO (some (.lst (frzL (nats T))))) = _
            rw [fz]
            rfl
          generalize lendS [5] ((lmS r c n m P Q T MS x4 (some (.int (a : Int))) (some (plnD r c (P a))) x9 none x11 x12).set 10 (some (.int (j : Int)))) = δ at e10 e5
          push_cast [e10, e5, i0, nb]
        rw [ev]
      refine ⟨_, rfl, ?_, fun _ => ?_⟩
      · by_cases z : j ∈ T
        · have z1 : decide (j ∉ T) = false := decide_eq_false fun w => w z
          rw [z1] at le
          rw [z1, Bool.false_and]
          have lS : lmS r c n m P Q T MS x4 (some (.int (a : Int))) (some (plnD r c (P a))) x9 none x11 x12 = lmS r c n m P Q T MS x4 (some (.int (a : Int))) (some (plnD r c (P a))) x9 none x11 x12 := rfl
          push_cast [le]
        · have z1 : decide (j ∉ T) = true := decide_eq_true z
          have dQ : doesB r c (Q j) = true := by
            cases w : doesB r c (Q j) with
            | true => rfl
            | false => exact absurd (hT j jm w) z
          have q := plain_alk (r := r) (c := c) dP dQ
          have ij := ixL_gen (f := fun i => plnD r c (Q i)) jm
          rw [z1] at le
          rw [z1, Bool.true_and]
          have e3 : ((lmS r c n m P Q T MS x4 (some (.int (a : Int))) (some (plnD r c (P a))) x9 none x11 x12).set 10 (some (.int (j : Int))))[3]? = some (some (.lst (gen m fun i => plnD r c (Q i)))) := rfl
          have e8 : ((lmS r c n m P Q T MS x4 (some (.int (a : Int))) (some (plnD r c (P a))) x9 none x11 x12).set 10 (some (.int (j : Int))))[8]? = some (some (plnD r c (P a))) := rfl
          have e10 : ((lmS r c n m P Q T MS x4 (some (.int (a : Int))) (some (plnD r c (P a))) x9 none x11 x12).set 10 (some (.int (j : Int))))[10]? = some (some (.int (j : Int))) := rfl
          have es : (alk r c (P a) (Q j)).isSome = simB r c P Q a j := rfl
          rw [es] at q
          generalize (lmS r c n m P Q T MS x4 (some (.int (a : Int))) (some (plnD r c (P a))) x9 none x11 x12).set 10 (some (.int (j : Int))) = δ at *
          push_cast [le, e3, e8, e10, ij, pln_vd, q]
      · have e10 : ((lmS r c n m P Q T MS x4 (some (.int (a : Int))) (some (plnD r c (P a))) x9 none x11 x12).set 10 (some (.int (j : Int))))[10]? = some (some (.int (j : Int))) := rfl
        generalize (lmS r c n m P Q T MS x4 (some (.int (a : Int))) (some (plnD r c (P a))) x9 none x11 x12).set 10 (some (.int (j : Int))) = δ at *
        push_cast [e10]
    have ef : (List.range m).filter (fun j => decide (j ∉ T) && simB r c P Q a j) = (fre m T).filter (simB r c P Q a) := by
      unfold fre
      rw [List.filter_filter]
      congr 1
      funext x
      rw [Bool.and_comm]
    rw [ef] at this
    exact this
  refine ⟨fun dP => ?_, fun dP e0 => ?_, fun dP j e0 => ?_⟩
  · refine ⟨some (plnD r c (P a)), ?_⟩
    have nn : Fw.oIsN.match_1 (fun _ => Bool) (plnD r c (P a)) (fun _ => true) (fun _ => false) = true := by rw [isN_plnM, dP]; rfl
    unfold lmB lmS
    push_cast [pa, prd_vm, ep, pln_vd, nn, seq_ct]
  · have nn : Fw.oIsN.match_1 (fun _ => Bool) (plnD r c (P a)) (fun _ => true) (fun _ => false) = false := by rw [isN_plnM, dP]; rfl
    have lc := lc dP
    rcases find_filter (P := simB r c P Q a) (L := fre m T) with ⟨f1, f2⟩ | ⟨j, L', f1, f2⟩
    · rw [f2] at lc
      unfold lmS nats at lc
      rw [List.map_nil] at lc
      unfold lmB lmS nats
      push_cast [pa, prd_vm, ep, pln_vd, nn, lc, frzL, eq_nil]
    · rw [f1] at e0; cases e0
  · have nn : Fw.oIsN.match_1 (fun _ => Bool) (plnD r c (P a)) (fun _ => true) (fun _ => false) = false := by rw [isN_plnM, dP]; rfl
    have lc := lc dP
    rcases find_filter (P := simB r c P Q a) (L := fre m T) with ⟨f1, f2⟩ | ⟨j', L', f1, f2⟩
    · rw [f1] at e0; cases e0
    · rw [f1] at e0
      cases e0
      rw [f2] at lc
      have jm := (fre_mem.mp (List.mem_of_find?_eq_some f1)).1
      have jT := (fre_mem.mp (List.mem_of_find?_eq_some f1)).2
      have dQ : doesB r c (Q j) = true := by
        cases w : doesB r c (Q j) with
        | true => rfl
        | false => exact absurd (hT j jm w) jT
      obtain ⟨p1, p2, _⟩ := does_nz dP
      have pj := ixL_gen (f := fun i => (Q i).d r c) jm
      have l1 := E_llead k r (Q j).u h
      have l2 := E_llead k r (P a).u h
      have l3 := E_llead k c (Q j).v h
      have l4 := E_llead k c (P a).v h
      have b1 := ldV_ht (hQ j jm).u B1
      have b2 := ldV_ht (hP a ha).u B1
      have b3 := ldV_ht (hQ j jm).v B1
      have b4 := ldV_ht (hP a ha).v B1
      have o1 := E_over k (ldV r (Q j).u) (ldV r (P a).u) h (ldV_ne p1) (by omega)
      have o2 := E_over k (ldV c (Q j).v) (ldV c (P a).v) h (ldV_ne p2) (by omega)
      have en := eq_natc j L'
      have fn := frzL_nat (j :: L')
      have sl1 : szOk (T.map fun i : Nat => D.int (i : Int)).length = true := sz_ok (by rw [List.length_map]; omega)
      have sl2 : szOk (MS.map (ldH r c P Q)).length = true := sz_ok (by rw [List.length_map]; omega)
      have a1 : (T.map fun i : Nat => D.int (i : Int)) ++ [D.int (j : Int)] = (T ++ [j]).map fun i : Nat => D.int (i : Int) := by rw [List.map_append]; rfl
      have a2 : MS.map (ldH r c P Q) ++ [.hl [.int (a : Int), .int (j : Int), enc k (ldV r (Q j).u * Fd.inv (ldV r (P a).u)), enc k (ldV c (Q j).v * Fd.inv (ldV c (P a).v))]] = (MS ++ [(a, j)]).map (ldH r c P Q) := by rw [List.map_append]; rfl
      refine ⟨some (plnD r c (P a)), some (.lst (nats (j :: L'))), some (.int (j : Int)), some (enc k (ldV r (Q j).u * Fd.inv (ldV r (P a).u))), some (enc k (ldV c (Q j).v * Fd.inv (ldV c (P a).v))), ?_⟩
      unfold lmS nats at lc
      unfold lmB lmS nats
      rw [List.map_cons] at lc en fn ⊢
      push_cast [pa, prd_vm, ep, pln_vd, nn, lc, fn, en, sl1, a1, pj, prd_0, prd_1, erow_vm, l1, l2, l3, l4, enc_vm, enc_vd, o1, o2, sl2, a2, fr_int]
end Lw
set_option exponentiation.threshold 20000
namespace Lw
open PySem PySem.Spec L2 Fw Pd Dz
theorem lm_loop (k : Fg) (r c n m : Nat) (P Q : Nat → Pr4 k) (h : D) (B : Nat) (hr : r ≤ 90) (hc : c ≤ 90) (hn : n ≤ 90) (hm : m ≤ 90) (hP : ∀ t, t < n → SmP r c (P t) B) (hQ : ∀ t, t < m → SmP r c (Q t) B) (B1 : 1 ≤ B) (hB : 6 * B + 6 ≤ 8000) (x4 : Option D) : ∀ (ks T : List Nat) (MS : List (Nat × Nat)) (x6 x8 x9 x10 x11 x12 : Option D), (∀ a, a ∈ ks → a < n) → (∀ j, j < m → doesB r c (Q j) = false → j ∈ T) → T.length + (fre m T).length = m → MS.length + ks.length ≤ 900 →
    (mt (simB r c P Q) (ks.filter fun i => doesB r c (P i)) (fre m T) = none → forGo (bNm 6) lmB (ks.map fun i : Nat => D.int (i : Int)) (lmS r c n m P Q T MS x4 x6 x8 x9 x10 x11 x12) h = .ret .non h) ∧
    ∀ ms L', mt (simB r c P Q) (ks.filter fun i => doesB r c (P i)) (fre m T) = some (ms, L') → ∃ T' y6 y8 y9 y10 y11 y12, forGo (bNm 6) lmB (ks.map fun i : Nat => D.int (i : Int)) (lmS r c n m P Q T MS x4 x6 x8 x9 x10 x11 x12) h = .nx (lmS r c n m P Q T' (MS ++ ms) x4 y6 y8 y9 y10 y11 y12) h ∧ T'.length + L'.length = m
  | [], T, MS, x6, x8, x9, x10, x11, x12, _, _, hl, _ => ⟨fun z => (by rw [List.filter_nil] at z; unfold mt at z; cases z), fun ms L' e => by
      rw [List.filter_nil] at e
      unfold mt at e
      cases e
      exact ⟨T, x6, x8, x9, x10, x11, x12, by rw [List.append_nil]; rfl, hl⟩⟩
  | a :: ks, T, MS, x6, x8, x9, x10, x11, x12, ha, hT, hl, hm9 => by
    have an := ha a List.mem_cons_self
    have lk : (a :: ks).length = ks.length + 1 := List.length_cons
    obtain ⟨s1, s2, s3⟩ := lm_step k r c n m P Q h B hr hc hn hm hP hQ B1 hB a an T MS x4 x8 x9 x10 x11 x12 hT (by omega) (by omega)
    have bd : bNm 6 (D.int (a : Int)) (lmS r c n m P Q T MS x4 x6 x8 x9 x10 x11 x12) = some (lmS r c n m P Q T MS x4 (some (.int (a : Int))) x8 x9 x10 x11 x12) := rfl
    cases dP : doesB r c (P a) with
    | false =>
      obtain ⟨y8, e⟩ := s1 dP
      have fc : (a :: ks).filter (fun i => doesB r c (P i)) = ks.filter fun i => doesB r c (P i) := by rw [List.filter_cons, if_neg (by rw [dP]; exact Bool.false_ne_true)]
      have step : forGo (bNm 6) lmB ((a :: ks).map fun i : Nat => D.int (i : Int)) (lmS r c n m P Q T MS x4 x6 x8 x9 x10 x11 x12) h = forGo (bNm 6) lmB (ks.map fun i : Nat => D.int (i : Int)) (lmS r c n m P Q T MS x4 (some (.int (a : Int))) y8 x9 x10 x11 x12) h := by
        rw [List.map_cons]
        conv => lhs; unfold forGo
        simp only [bd, e]
      rw [fc, step]
      exact lm_loop k r c n m P Q h B hr hc hn hm hP hQ B1 hB x4 ks T MS _ _ _ _ _ _ (fun b hb => ha b (List.mem_cons_of_mem _ hb)) hT hl (by omega)
    | true =>
      have fc : (a :: ks).filter (fun i => doesB r c (P i)) = a :: ks.filter fun i => doesB r c (P i) := by rw [List.filter_cons, if_pos dP]
      rw [fc]
      cases q : (fre m T).find? (simB r c P Q a) with
      | none =>
        have e := s2 dP q
        have m0 : mt (simB r c P Q) (a :: ks.filter fun i => doesB r c (P i)) (fre m T) = none := by unfold mt; rw [q]
        refine ⟨fun _ => ?_, fun ms L' z => by rw [m0] at z; cases z⟩
        rw [List.map_cons]
        unfold forGo
        simp only [bd, e]
      | some j =>
        obtain ⟨y8, y9, y10, y11, y12, e⟩ := s3 dP j q
        have m1 : mt (simB r c P Q) (a :: ks.filter fun i => doesB r c (P i)) (fre m T) = (mt (simB r c P Q) (ks.filter fun i => doesB r c (P i)) (fre m (T ++ [j]))).map fun z => ((a, j) :: z.1, z.2) := by
          conv => lhs; unfold mt
          rw [q, fre_step]
        have step : forGo (bNm 6) lmB ((a :: ks).map fun i : Nat => D.int (i : Int)) (lmS r c n m P Q T MS x4 x6 x8 x9 x10 x11 x12) h = forGo (bNm 6) lmB (ks.map fun i : Nat => D.int (i : Int)) (lmS r c n m P Q (T ++ [j]) (MS ++ [(a, j)]) x4 (some (.int (a : Int))) y8 y9 y10 y11 y12) h := by
          rw [List.map_cons]
          conv => lhs; unfold forGo
          simp only [bd, e]
        have hl2 : (T ++ [j]).length + (fre m (T ++ [j])).length = m := by
          have := filter_ne_len (fre_nd (m := m) (T := T)) (List.mem_of_find?_eq_some q)
          rw [fre_step, List.length_append, List.length_singleton]
          omega
        obtain ⟨i1, i2⟩ := lm_loop k r c n m P Q h B hr hc hn hm hP hQ B1 hB x4 ks (T ++ [j]) (MS ++ [(a, j)]) (some (.int (a : Int))) y8 y9 y10 y11 y12 (fun b hb => ha b (List.mem_cons_of_mem _ hb)) (fun x hx dx => List.mem_append_left _ (hT x hx dx)) hl2 (by rw [List.length_append, List.length_singleton]; omega)
        rw [step, m1]
        refine ⟨fun z => i1 (by cases w : mt (simB r c P Q) (ks.filter fun i => doesB r c (P i)) (fre m (T ++ [j])) with | none => rfl | some v => rw [w] at z; cases z), fun ms L' z => ?_⟩
        cases w : mt (simB r c P Q) (ks.filter fun i => doesB r c (P i)) (fre m (T ++ [j])) with
        | none => rw [w] at z; cases z
        | some v =>
          rw [w] at z
          cases z
          obtain ⟨T', z6, z8, z9, z10, z11, z12, e, el⟩ := i2 v.1 v.2 w
          refine ⟨T', z6, z8, z9, z10, z11, z12, ?_, el⟩
          rw [e, List.append_assoc]
          rfl
def lmD {k : Fg} (r c : Nat) (P Q : Nat → Pr4 k) (o : Option (List (Nat × Nat) × List Nat)) : D := match o with
  | some (ms, []) => .lst (ms.map (ldM r c P Q))
  | _ => .non
theorem frz_ld {k : Fg} {r c : Nat} {P Q : Nat → Pr4 k} : ∀ ms : List (Nat × Nat), frzL (ms.map (ldH r c P Q)) = ms.map (ldM r c P Q)
  | [] => rfl
  | z :: ms => by
    have f4 : frzL [.int (z.1 : Int), .int (z.2 : Int), enc k (lU r P Q z.1 z.2), enc k (lV c P Q z.1 z.2)] = [.int (z.1 : Int), .int (z.2 : Int), enc k (lU r P Q z.1 z.2), enc k (lV c P Q z.1 z.2)] := by
      show D.int (z.1 : Int) :: .int (z.2 : Int) :: frzL [enc k (lU r P Q z.1 z.2), enc k (lV c P Q z.1 z.2)] = _
      rw [frzL_2 (enc_fr k _) (enc_fr k _)]
    show D.lst (frzL [.int (z.1 : Int), .int (z.2 : Int), enc k (lU r P Q z.1 z.2), enc k (lV c P Q z.1 z.2)]) :: frzL (ms.map (ldH r c P Q)) = _
    rw [f4, frz_ld ms]
    rfl
theorem fre_0 {k : Fg} {r c m : Nat} {Q : Nat → Pr4 k} : fre m ((List.range m).filter fun i => !doesB r c (Q i)) = dpl r c m Q := by
  unfold fre dpl
  refine List.filter_congr fun x hx => ?_
  rw [Bool.eq_iff_iff, decide_eq_true_iff, List.mem_filter]
  constructor
  · intro h
    cases w : doesB r c (Q x) with
    | true => rfl
    | false => exact absurd ⟨hx, by rw [w]; rfl⟩ h
  · intro h z
    rw [h] at z
    cases z.2
theorem two_filters {P : Nat → Bool} : ∀ L : List Nat, (L.filter fun i => !P i).length + (L.filter P).length = L.length
  | [] => rfl
  | a :: L => by
    have ih := two_filters (P := P) L
    rw [List.filter_cons, List.filter_cons, List.length_cons]
    cases q : P a with
    | true =>
      simp only [Bool.not_true, if_true, if_false, Bool.false_eq_true, List.length_cons]
      omega
    | false =>
      simp only [Bool.not_false, if_true, if_false, Bool.false_eq_true, List.length_cons]
      omega
theorem E_lmatches (k : Fg) (r c n m : Nat) (P Q : Nat → Pr4 k) (h : D) (B : Nat) (hr : r ≤ 90) (hc : c ≤ 90) (hn : n ≤ 90) (hm : m ≤ 90) (hP : ∀ t, t < n → SmP r c (P t) B) (hQ : ∀ t, t < m → SmP r c (Q t) B) (B1 : 1 ≤ B) (hB : 6 * B + 6 ≤ 8000) :
    F__law_matches [.int k.p, .lst (gen n fun i => (P i).d r c), .lst (gen m fun i => (Q i).d r c)] h = .ok (lmD r c P Q (mt (simB r c P Q) (dpl r c n P) (dpl r c m Q))) h := by
  have e0 : ∀ i, i < m → ∀ h, F__law_plain [.int k.p, (Q i).d r c] h = .ok (plnD r c (Q i)) h := fun i hi h => E_lplain k r c (Q i) h B hr hc (hQ i hi) B1 hB
  have fz0 : frzL (gen m fun i => plnD r c (Q i)) = gen m fun i => plnD r c (Q i) := frzL_gen fun i => pln_fr
  have lc := lc_filterL (bind := bNm 6) (test := (eT (eOp oIsN (eOp oIx (eV 3) (eV 6)) (eC .non)))) (elt := eV 6) (δ := [some (.int k.p), some (.lst (gen n fun i => (P i).d r c)), some (.lst (gen m fun i => (Q i).d r c)), some (.lst (gen m fun i => plnD r c (Q i))), none, none, none, none, none, none, none, none, none]) (h := h) (d := fun i => .int (i : Int)) (e := fun i => .int (i : Int)) (fun i => !doesB r c (Q i)) (List.range m) fun j hj => by
    have ij := ixL_gen (f := fun i => plnD r c (Q i)) (List.mem_range.mp hj)
    refine ⟨_, rfl, ?_, fun _ => ?_⟩
    · push_cast [ij, isN_plnM]
    · push_cast []
  have lc : lcGo (bNm 6) (eT (eOp oIsN (eOp oIx (eV 3) (eV 6)) (eC .non))) (eV 6) [some (.int k.p), some (.lst (gen n fun i => (P i).d r c)), some (.lst (gen m fun i => (Q i).d r c)), some (.lst (gen m fun i => plnD r c (Q i))), none, none, none, none, none, none, none, none, none] (gen m fun i : Nat => D.int (i : Int)) h = .ok (nats ((List.range m).filter fun i => !doesB r c (Q i))) h := lc
  have l0 : ((List.range m).filter fun i => !doesB r c (Q i)).length + (fre m ((List.range m).filter fun i => !doesB r c (Q i))).length = m := by
    rw [fre_0]
    have := two_filters (P := fun i => doesB r c (Q i)) (List.range m)
    rw [List.length_range] at this
    exact this
  obtain ⟨i1, i2⟩ := lm_loop k r c n m P Q h B hr hc hn hm hP hQ B1 hB none (List.range n) ((List.range m).filter fun i => !doesB r c (Q i)) [] none none none none none none (fun a ha => List.mem_range.mp ha) (fun j hj dj => List.mem_filter.mpr ⟨List.mem_range.mpr hj, by rw [dj]; rfl⟩) l0 (by rw [List.length_range, List.length_nil]; omega)
  rw [fre_0] at i1 i2
  have er : (List.range n).map (fun i : Nat => D.int (i : Int)) = gen n fun i : Nat => D.int (i : Int) := rfl
  rw [er] at i1 i2
  cases w : mt (simB r c P Q) (dpl r c n P) (dpl r c m Q) with
  | none =>
    have i1 := i1 w
    unfold lmS lmB at i1
    rw [List.map_nil] at i1
    unfold F__law_matches
    push_cast [prd_vm, e0, fz0, lc, i1]
    rfl
  | some v =>
    obtain ⟨ms, L'⟩ := v
    obtain ⟨T', y6, y8, y9, y10, y11, y12, e, el⟩ := i2 ms L' w
    unfold lmS lmB at e
    rw [List.map_nil, List.nil_append] at e
    have fz := frz_ld (r := r) (c := c) (P := P) (Q := Q) ms
    have nl : (nats T').length = T'.length := List.length_map _
    cases L' with
    | nil =>
      have z : ((nats T').length : Int) = (m : Int) := by rw [nl]; rw [List.length_nil] at el; omega
      unfold F__law_matches
      push_cast [prd_vm, e0, fz0, lc, e, fz, z]
      rfl
    | cons x L' =>
      have z : ¬ ((nats T').length : Int) = (m : Int) := by rw [nl]; rw [List.length_cons] at el; omega
      unfold F__law_matches
      push_cast [prd_vm, e0, fz0, lc, e, fz, z]
      rfl
theorem mapG {α : Type} (f : Nat × Nat → α) (ms : List (Nat × Nat)) : ms.map f = gen ms.length fun i => f ((ms[i]?).getD (0, 0)) := gen_ext (List.length_map _) fun i hi => by
  rw [List.getElem?_map, List.getElem?_eq_getElem hi]
  rfl
theorem E_matched (k : Fg) (r c : Nat) (P Q : Nat → Pr4 k) (o : Option (List (Nat × Nat) × List Nat)) (h : D) (ho : ∀ ms L', o = some (ms, L') → ms.length ≤ 900) : F__law_matched [apD r c P Q o, lmD r c P Q o] h = .ok (.bl true) h := by
  have none_case : F__law_matched [.non, .non] h = .ok (.bl true) h := by
    unfold F__law_matched
    push_cast []
  match o, ho with
  | none, _ => exact none_case
  | some (ms, x :: L'), _ => exact none_case
  | some (ms, []), ho =>
    have hl := ho ms [] rfl
    show F__law_matched [.tup (ms.map (matD r c P Q)), .lst (ms.map (ldM r c P Q))] h = _
    rw [mapG (matD r c P Q) ms, mapG (ldM r c P Q) ms]
    generalize ms.length = N at hl
    obtain ⟨g, eg⟩ : ∃ g : Nat → Nat × Nat, g = fun i : Nat => (ms[i]?).getD (0, 0) := ⟨_, rfl⟩
    have eg : ∀ i : Nat, (ms[i]?).getD (0, 0) = g i := fun i => by rw [eg]
    simp only [eg]
    obtain ⟨δ', h', e, eh, x2, x3, ed⟩ := for_draw (bind := bNm 2) (body := (sSeq (sSet 3 (eOp oIx (eV 0) (eV 2)))
    (sSeq (sIf (eNot (eTru (eIsC (msOf [("Pair", false), ("Program", false), ("Match", true), ("Shared", false), ("Figures", false)]) false (eV 3)))) (sRet (eC (.bl false))) sNil)
    (sIf (eNot (eTru (eCall 2 (F__law_exact_31 6) [] (eCons (eTup (eCons (eAtV 3 "product") (eCons (eAtV 3 "other") (eCons (eAtV 3 "left") (eCons (eAtV 3 "right") eNil))))) (eCons (eOp oIx (eV 1) (eV 2)) eNil))))) (sRet (eC (.bl false))) sNil)))) (d := fun i => .int (i : Int)) (n := N) (h := h) (δ := [some (.tup (gen N fun i => matD r c P Q (g i))), some (.lst (gen N fun i => ldM r c P Q (g i))), none, none])
      (fun s δ h' => h' = h ∧ ∃ x2 x3, δ = [some (.tup (gen N fun i => matD r c P Q (g i))), some (.lst (gen N fun i => ldM r c P Q (g i))), x2, x3]) (fun s hs δ h' ⟨eh, x2, x3, ed⟩ => by
        subst ed eh
        have i1 := ix_gen (f := fun i => matD r c P Q (g i)) hs
        have i2 := ixL_gen (f := fun i => ldM r c P Q (g i)) hs
        have ei : ∀ (a b c' : Option D) h, eIsC (msOf [("Pair", false), ("Program", false), ("Match", true), ("Shared", false), ("Figures", false)]) false (eV 3) [a, b, c', some (matD r c P Q (g s))] h = .ok (.bl true) h := fun a b c' h => rfl
        have a1 : ∀ h, atvD (some (some (matD r c P Q (g s)))) "product" h = .ok (.int ((g s).1 : Int)) h := fun h => rfl
        have a2 : ∀ h, atvD (some (some (matD r c P Q (g s)))) "other" h = .ok (.int ((g s).2 : Int)) h := fun h => rfl
        have a3 : ∀ h, atvD (some (some (matD r c P Q (g s)))) "left" h = .ok (enc k (lU r P Q (g s).1 (g s).2)) h := fun h => rfl
        have a4 : ∀ h, atvD (some (some (matD r c P Q (g s)))) "right" h = .ok (enc k (lV c P Q (g s).1 (g s).2)) h := fun h => rfl
        have ex : F__law_exact_31 6 [.tup [.int ((g s).1 : Int), .int ((g s).2 : Int), enc k (lU r P Q (g s).1 (g s).2), enc k (lV c P Q (g s).1 (g s).2)], ldM r c P Q (g s)] h' = .ok (.bl true) h' := exact_x 6 _ _ h' (xr_le (xr_4 (n := 2) true (xr_int 1 _) (xr_int 1 _) (xr_enc k _) (xr_enc k _)) (by omega))
        refine ⟨_, rfl, _, h', ?_, rfl, some (.int (s : Int)), some (matD r c P Q (g s)), rfl⟩
        push_cast [i1, i2, ↓ei, a1, a2, a3, a4, ex]) ⟨rfl, none, none, rfl⟩
    subst ed eh
    unfold F__law_matched
    push_cast [isa_ni, isa_nb, isa_ns, isa_nt, isa_nl, isa_bi, isa_bb, isa_bs, isa_bt, isa_bl, isa_ii, isa_ib, isa_is, isa_it, isa_il, isa_si, isa_sb, isa_ss, isa_st, isa_sl, isa_ti, isa_tb, isa_ts, isa_tt, isa_tl, isa_li, isa_lb, isa_ls, isa_lt, isa_ll, e]
end Lw
set_option exponentiation.threshold 20000
namespace Lw
open PySem PySem.Spec L2 Fw Pd Dz
def shr {k : Fg} (r c : Nat) (w : Sd) (P Q : Pr4 k) : Option k.K := if doesB r c P = true ∧ doesB r c Q = true then shV (sdN r c w) (sdX P w) (sdX Q w) else none
theorem pln_no {k : Fg} {r c : Nat} {P : Pr4 k} (h : doesB r c P = false) : plnD r c P = .non := by unfold plnD; rw [h]; rfl
theorem sd_nz {k : Fg} {r c : Nat} {P : Pr4 k} (h : doesB r c P = true) (w : Sd) : Nz (sdN r c w) (sdX P w) := by
  obtain ⟨a, b, d⟩ := does_nz h
  cases w
  · exact a
  · exact b
  · exact d
theorem sd_ht {k : Fg} {r c B : Nat} {P : Pr4 k} (h : SmP r c P B) (w : Sd) : ∀ j, j < sdN r c w → ht k (sdX P w j) ≤ B := by
  cases w
  · exact h.u
  · exact h.v
  · exact fun j _ => cp_ht h j
theorem sd_n {r c : Nat} (hr : r ≤ 90) (hc : c ≤ 90) (w : Sd) : sdN r c w ≤ 90 := by
  cases w
  · exact hr
  · exact hc
  · show 2 ≤ 90; omega
theorem E_shares (k : Fg) (r c : Nat) (P Q : Pr4 k) (w : Sd) (h : D) (B : Nat) (hr : r ≤ 90) (hc : c ≤ 90) (hP : SmP r c P B) (hQ : SmP r c Q B) (B1 : 1 ≤ B) (hB : 6 * B + 6 ≤ 8000) : F__law_shares [.int k.p, P.d r c, Q.d r c, .str (sdS w)] h = .ok (szD k (shr r c w P Q)) h := by
  have e1 := E_lplain k r c P h B hr hc hP B1 hB
  have e2 := E_lplain k r c Q h B hr hc hQ B1 hB
  cases dP : doesB r c P with
  | false =>
    rw [pln_no dP] at e1
    have s0 : shr r c w P Q = none := if_neg fun z => by rw [dP] at z; cases z.1
    rw [s0]
    unfold F__law_shares
    push_cast [prd_vm, e1]
    rfl
  | true =>
    cases dQ : doesB r c Q with
    | false =>
      rw [pln_no dQ] at e2
      have s0 : shr r c w P Q = none := if_neg fun z => by rw [dQ] at z; cases z.2
      have nn : Fw.oIsN.match_1 (fun _ => Bool) (plnD r c P) (fun _ => true) (fun _ => false) = false := by rw [isN_plnM, dP]; rfl
      rw [s0]
      unfold F__law_shares
      push_cast [prd_vm, e1, e2, nn]
      rfl
    | true =>
      have s0 : shr r c w P Q = shV (sdN r c w) (sdX P w) (sdX Q w) := if_pos ⟨dP, dQ⟩
      have nP : Fw.oIsN.match_1 (fun _ => Bool) (plnD r c P) (fun _ => true) (fun _ => false) = false := by rw [isN_plnM, dP]; rfl
      have nQ : Fw.oIsN.match_1 (fun _ => Bool) (plnD r c Q) (fun _ => true) (fun _ => false) = false := by rw [isN_plnM, dQ]; rfl
      have l1 := E_llead k (sdN r c w) (sdX P w) h
      have l2 := E_llead k (sdN r c w) (sdX Q w) h
      have b1 := ldV_ht (sd_ht hP w) B1
      have b2 := ldV_ht (sd_ht hQ w) B1
      have o1 := E_over k (ldV (sdN r c w) (sdX Q w)) (ldV (sdN r c w) (sdX P w)) h (ldV_ne (sd_nz dP w)) (by omega)
      have hs : ht k (ldV (sdN r c w) (sdX Q w) * Fd.inv (ldV (sdN r c w) (sdX P w))) ≤ 2 * B + 1 := by
        have := ht_mul k (ldV (sdN r c w) (sdX Q w)) (Fd.inv (ldV (sdN r c w) (sdX P w)))
        have := ht_inv k (ldV (sdN r c w) (sdX P w))
        omega
      have sc := E_lscaled k (sdN r c w) (ldV (sdN r c w) (sdX Q w) * Fd.inv (ldV (sdN r c w) (sdX P w))) (sdX P w) h (by have := sd_n hr hc w; omega) fun j hj => by have := sd_ht hP w j hj; omega
      have q := eq_erow (k := k) (n := sdN r c w) (x := fun j => (ldV (sdN r c w) (sdX Q w) * Fd.inv (ldV (sdN r c w) (sdX P w))) * sdX P w j) (y := sdX Q w)
      have kt : ∀ (n : Nat) (x : Nat → k.K), Fw.kTup [erow k n x] = some (erow k n x) := fun n x => rfl
      have i1 : (if decide ((1 : Int) = 1) = true then (1 : Int) else 0) = 1 := rfl
      rw [s0]
      have main : ∀ b : Bool, decide (∀ j, j < sdN r c w → (ldV (sdN r c w) (sdX Q w) * Fd.inv (ldV (sdN r c w) (sdX P w))) * sdX P w j = sdX Q w j) = b → F__law_shares [.int k.p, P.d r c, Q.d r c, .str (sdS w)] h = .ok (if b = true then enc k (ldV (sdN r c w) (sdX Q w) * Fd.inv (ldV (sdN r c w) (sdX P w))) else .non) h := fun b hb => by
        rw [hb] at q
        cases w
        · unfold sdN sdX at l1 l2 o1 sc q
          cases b <;>
          · unfold F__law_shares sdS
            push_cast [prd_vd, prd_vm, e1, e2, nP, nQ, s_ln, s_lr, prd_0, erow_vm, erow_vd, l1, l2, enc_vm, enc_vd, o1, sc, kt, q]
            all_goals rfl
        · unfold sdN sdX at l1 l2 o1 sc q
          cases b <;>
          · unfold F__law_shares sdS
            push_cast [prd_vd, prd_vm, e1, e2, nP, nQ, s_rn, s_rr, prd_1, erow_vm, erow_vd, l1, l2, enc_vm, enc_vd, o1, sc, kt, q]
            all_goals rfl
        · unfold sdN sdX at l1 l2 o1 sc q
          rw [← cp_row] at l1 l2 sc
          rw [← cp_row (P := Q)] at q
          have kt2 : Fw.kTup [.tup [enc k Q.a, enc k Q.b]] = some (.tup [enc k Q.a, enc k Q.b]) := rfl
          cases b <;>
          · unfold F__law_shares sdS
            push_cast [prd_vd, prd_vm, e1, e2, nP, nQ, s_nn, prd_2, prd_3, l1, l2, enc_vm, enc_vd, o1, sc, kt2, q]
            all_goals rfl
      rw [main _ rfl]
      unfold shV
      split
      · rename_i z
        rw [if_pos (of_decide_eq_true z)]
        rfl
      · rename_i z
        rw [if_neg fun y => z (decide_eq_true y)]
        rfl
theorem E_sidesize (k : Fg) (r c : Nat) (P Q : Pr4 k) (w : Sd) (h : D) (B : Nat) (hr : r ≤ 90) (hc : c ≤ 90) (hP : SmP r c P B) (hQ : SmP r c Q B) (hB : 6 * B + 6 ≤ 8000) (dP : doesB r c P = true) (dQ : doesB r c Q = true) : F_side_size [fig k, P.d r c, Q.d r c, .str (sdS w)] h = .ok (szD k (shr r c w P Q)) h := by
  have e1 := E_sideof k r c P w h
  have e2 := E_sideof k r c Q w h
  have e3 := E_sizeb k (sdN r c w) (sdX P w) (sdX Q w) h B (sd_n hr hc w) (sd_ht hP w) (sd_ht hQ w) (by omega) (sd_nz dP w) (sd_nz dQ w)
  have s0 : shr r c w P Q = shV (sdN r c w) (sdX P w) (sdX Q w) := if_pos ⟨dP, dQ⟩
  rw [s0]
  unfold F_side_size
  push_cast [fig_vm, prd_vm, e1, e2, e3]
theorem in_sides (w : Sd) : inP (.str (sdS w)) (.tup tup_SIDES) = some true := by cases w <;> decide +kernel
theorem sh_sz {k : Fg} {r c : Nat} {w : Sd} {P Q : Pr4 k} {s : k.K} (e : shr r c w P Q = some s) : doesB r c P = true ∧ doesB r c Q = true ∧ shV (sdN r c w) (sdX P w) (sdX Q w) = some s := by
  unfold shr at e
  split at e
  · rename_i h; exact ⟨h.1, h.2, e⟩
  · cases e
end Lw
set_option exponentiation.threshold 20000
namespace Lw
open PySem PySem.Spec L2 Fw Pd Dz
theorem E_chkshared (k : Fg) (r c n : Nat) (P : Nat → Pr4 k) (i j : Nat) (w : Sd) (h : D) (B : Nat) (hr : r ≤ 90) (hc : c ≤ 90) (hn : n ≤ 90) (hP : ∀ t, t < n → SmP r c (P t) B) (hB : 6 * B + 6 ≤ 8000) (hi : i < n) (hj : j < n) (ij : i ≠ j) :
    F_check_shared [prgD k r c n P, .int (i : Int), .int (j : Int), .str (sdS w)] h = match shr r c w (P i) (P j) with
      | some s => .ok (enc k s) h
      | none => .exc "NotShared" [] h := by
  obtain ⟨x, ex⟩ : ∃ x, x = prgD k r c n P := ⟨_, rfl⟩
  have lenI : lenID "Program" F_Program___len__ x h = .ok (.int n) h := by rw [ex]; exact lenI_ok (E_plen k r c n P h) (by omega)
  have xv : ∀ h, vD (some (some x)) h = .ok x h := fun h => by rw [ex]; rfl
  have xp : ∀ h, atvD (some (some x)) "products" h = .ok (.tup (gen n fun i => (P i).d r c)) h := fun h => by rw [ex]; rfl
  have xf : ∀ h, atvD (some (some x)) "figures" h = .ok (fig k) h := fun h => by rw [ex]; rfl
  rw [← ex]
  clear ex
  have w1 := wh_ii (i : Int) 0 ((n : Int) - 1) h
  have w2 := wh_ii (j : Int) 0 ((n : Int) - 1) h
  rw [decide_eq_true (show (0 : Int) ≤ (i : Int) by omega), decide_eq_true (show (i : Int) ≤ (n : Int) - 1 by omega)] at w1
  rw [decide_eq_true (show (0 : Int) ≤ (j : Int) by omega), decide_eq_true (show (j : Int) ≤ (n : Int) - 1 by omega)] at w2
  have ne : ¬ (i : Int) = (j : Int) := by omega
  have pi := ix_gen (f := fun t => (P t).d r c) hi
  have pj := ix_gen (f := fun t => (P t).d r c) hj
  have d1 := E_does k r c (P i) h
  have d2 := E_does k r c (P j) h
  have ins := in_sides w
  have tg : D.tup tup_SIDES = .tup tup_SIDES := rfl
  cases dP : doesB r c (P i) with
  | false =>
    have s0 : shr r c w (P i) (P j) = none := if_neg fun z => by rw [dP] at z; cases z.1
    rw [dP] at d1
    rw [s0]
    unfold F_check_shared
    push_cast [xv, eLenI_a, lenI, w1, w2, ne, xp, xf, pi, pj, prd_vm, d1]
  | true =>
    rw [dP] at d1
    cases dQ : doesB r c (P j) with
    | false =>
      have s0 : shr r c w (P i) (P j) = none := if_neg fun z => by rw [dQ] at z; cases z.2
      rw [dQ] at d2
      rw [s0]
      unfold F_check_shared
      push_cast [xv, eLenI_a, lenI, w1, w2, ne, xp, xf, pi, pj, prd_vm, d1, d2]
    | true =>
      rw [dQ] at d2
      have e := E_sidesize k r c (P i) (P j) w h B hr hc (hP i hi) (hP j hj) hB dP dQ
      cases q : shr r c w (P i) (P j) with
      | none =>
        rw [q] at e
        have e : F_side_size [fig k, (P i).d r c, (P j).d r c, .str (sdS w)] h = .ok .non h := e
        unfold F_check_shared
        push_cast [xv, eLenI_a, lenI, w1, w2, ne, xp, xf, pi, pj, prd_vm, d1, d2, ins, e]
      | some s =>
        rw [q] at e
        have e : F_side_size [fig k, (P i).d r c, (P j).d r c, .str (sdS w)] h = .ok (enc k s) h := e
        unfold F_check_shared
        push_cast [xv, eLenI_a, lenI, w1, w2, ne, xp, xf, pi, pj, prd_vm, d1, d2, ins, e, enc_vd, isN_encM]
end Lw
set_option exponentiation.threshold 20000
namespace Lw
open PySem PySem.Spec L2 Fw Pd Dz
def ex1 {k : Fg} (w : Sd) (s : k.K) (P Q : Pr4 k) : Pr4 k := match w with
  | .l => ⟨P.u, fun j => P.v j - s * Q.v j, P.a, P.b⟩
  | _ => ⟨fun j => P.u j - s * Q.u j, P.v, P.a, P.b⟩
def ex2 {k : Fg} (w : Sd) (s : k.K) (P Q : Pr4 k) : Pr4 k := match w with
  | .l => ⟨P.u, fun j => s * Q.v j, P.a + Q.a, P.b + Q.b⟩
  | .r => ⟨fun j => s * Q.u j, P.v, P.a + Q.a, P.b + Q.b⟩
  | .n => ⟨fun j => s * Q.u j, fun j => P.v j + Q.v j, P.a, P.b⟩
theorem E_rowless (k : Fg) (c : Nat) (x y : Nat → k.K) (h : D) (hc : c ≤ 1000) (hs : ∀ j, j < c → ht k (x j) + ht k (y j) ≤ 8000) : F_row_less [fig k, erow k c x, erow k c y] h = .ok (erow k c fun j => x j - y j) h := by
  have e : ∀ j, j < c → ∀ h, F_Figures_minus [fig k, enc k (x j), enc k (y j)] h = .ok (enc k (x j - y j)) h := fun j hj h => E_fminus k (x j) (y j) h (hs j hj)
  have fz : frzL (gen c fun j => enc k (x j - y j)) = gen c fun j => enc k (x j - y j) := frzL_gen fun j => enc_fr k _
  unfold F_row_less erow
  push_cast [fig_vd, eMeth_f, md_minus, enc_vm, e, fz]
theorem pl22 {a b c d : D} : oPlus (.tup [a, b]) (.tup [c, d]) = some (.tup [a, b, c, d]) := rfl
theorem E_exchp (k : Fg) (r c : Nat) (P Q : Pr4 k) (w : Sd) (s : k.K) (h : D) (B : Nat) (hr : r ≤ 90) (hc : c ≤ 90) (hP : SmP r c P B) (hQ : SmP r c Q B) (hs : ht k s ≤ 2 * B + 1) (hB : 6 * B + 6 ≤ 8000) : F_exchanged_products [fig k, P.d r c, Q.d r c, .str (sdS w), enc k s] h = .ok (.tup [(ex1 w s P Q).d r c, (ex2 w s P Q).d r c]) h := by
  have e0 : F_row_sum [fig k, .tup [enc k P.a, enc k P.b], .tup [enc k Q.a, enc k Q.b]] h = .ok (.tup [enc k (P.a + Q.a), enc k (P.b + Q.b)]) h := E_rowsum k 2 (cpV P) (cpV Q) h (by omega) fun j _ => by have := cp_ht hP j; have := cp_ht hQ j; omega
  have f2 : ∀ a b : k.K, frzL [enc k a, enc k b] = [enc k a, enc k b] := fun a b => frzL_2 (enc_fr k a) (enc_fr k b)
  have e1 := E_scaled k c s Q.v h (by omega) fun j hj => by have := hQ.v j hj; omega
  have e2 := E_rowless k c P.v (fun j => s * Q.v j) h (by omega) fun j hj => by have := hP.v j hj; have := hQ.v j hj; have := ht_mul k s (Q.v j); omega
  have e3 := E_scaled k r s Q.u h (by omega) fun j hj => by have := hQ.u j hj; omega
  have e4 := E_rowless k r P.u (fun j => s * Q.u j) h (by omega) fun j hj => by have := hP.u j hj; have := hQ.u j hj; have := ht_mul k s (Q.u j); omega
  have e5 := E_rowsum k c P.v Q.v h (by omega) fun j hj => by have := hP.v j hj; have := hQ.v j hj; omega
  cases w
  · have sl : eqD (.str (sdS .l)) (.str "left") = some true := s_ll
    show _ = Ex.ok (D.tup [.tup [erow k r P.u, erow k c fun j => P.v j - s * Q.v j, enc k P.a, enc k P.b], .tup [erow k r P.u, erow k c fun j => s * Q.v j, enc k (P.a + Q.a), enc k (P.b + Q.b)]]) h
    unfold F_exchanged_products
    rw [prd_as, prd_as]
    push_cast [fig_vm, erow_vd, erow_vm, enc_vd, enc_vm, cut4, f2, e0, sl, e1, e2, pl22]
  · have sl : eqD (.str (sdS .r)) (.str "left") = some false := s_rl
    have sr : eqD (.str (sdS .r)) (.str "right") = some true := s_rr
    show _ = Ex.ok (D.tup [.tup [erow k r fun j => P.u j - s * Q.u j, erow k c P.v, enc k P.a, enc k P.b], .tup [erow k r fun j => s * Q.u j, erow k c P.v, enc k (P.a + Q.a), enc k (P.b + Q.b)]]) h
    unfold F_exchanged_products
    rw [prd_as, prd_as]
    push_cast [fig_vm, erow_vd, erow_vm, enc_vd, enc_vm, cut4, f2, e0, sl, sr, e3, e4, pl22]
  · have sl : eqD (.str (sdS .n)) (.str "left") = some false := s_nl
    have sr : eqD (.str (sdS .n)) (.str "right") = some false := s_nr
    show _ = Ex.ok (D.tup [.tup [erow k r fun j => P.u j - s * Q.u j, erow k c P.v, enc k P.a, enc k P.b], .tup [erow k r fun j => s * Q.u j, erow k c fun j => P.v j + Q.v j, enc k P.a, enc k P.b]]) h
    unfold F_exchanged_products
    rw [prd_as, prd_as]
    push_cast [fig_vm, erow_vd, erow_vm, enc_vd, enc_vm, cut4, f2, e0, sl, sr, e3, e4, e5, pl22]
theorem E_lexch (k : Fg) (r c : Nat) (P Q : Pr4 k) (w : Sd) (s : k.K) (h : D) (B : Nat) (hr : r ≤ 90) (hc : c ≤ 90) (hP : SmP r c P B) (hQ : SmP r c Q B) (hs : ht k s ≤ 2 * B + 1) (hB : 6 * B + 6 ≤ 8000) : F__law_exchanged [.int k.p, P.d r c, Q.d r c, .str (sdS w), enc k s] h = .ok (.lst [(ex1 w s P Q).d r c, (ex2 w s P Q).d r c]) h := by
  have e1 := E_lscaled k c s Q.v h (by omega) fun j hj => by have := hQ.v j hj; omega
  have e3 := E_lscaled k r s Q.u h (by omega) fun j hj => by have := hQ.u j hj; omega
  have l1 : ∀ j, j < c → ∀ h, F__law_less [.int k.p, enc k (P.v j), enc k (s * Q.v j)] h = .ok (enc k (P.v j - s * Q.v j)) h := fun j hj h => E_less k _ _ h (by have := hP.v j hj; have := hQ.v j hj; have := ht_mul k s (Q.v j); omega)
  have l2 : ∀ j, j < r → ∀ h, F__law_less [.int k.p, enc k (P.u j), enc k (s * Q.u j)] h = .ok (enc k (P.u j - s * Q.u j)) h := fun j hj h => E_less k _ _ h (by have := hP.u j hj; have := hQ.u j hj; have := ht_mul k s (Q.u j); omega)
  have l3 : ∀ j, j < c → ∀ h, F__law_plus [.int k.p, enc k (P.v j), enc k (Q.v j)] h = .ok (enc k (P.v j + Q.v j)) h := fun j hj h => E_plus k _ _ h (by have := hP.v j hj; have := hQ.v j hj; omega)
  have pa := E_plus k P.a Q.a h (by have := hP.a; have := hQ.a; omega)
  have pb := E_plus k P.b Q.b h (by have := hP.b; have := hQ.b; omega)
  have ix : ∀ (n : Nat) (x : Nat → k.K) (j : Nat), j < n → oIx (erow k n x) (.int (j : Int)) = some (enc k (x j)) := fun n x j hj => by rw [erow_ix (by omega) (by omega), Int.toNat_natCast]
  have kt : ∀ (n : Nat) (x : Nat → k.K), Fw.kTup [.lst (gen n fun j => enc k (x j))] = some (erow k n x) := fun n x => rfl
  have fz1 : frzL (gen c fun j => enc k (P.v j - s * Q.v j)) = gen c fun j => enc k (P.v j - s * Q.v j) := frzL_gen fun j => enc_fr k _
  have fz2 : frzL (gen r fun j => enc k (P.u j - s * Q.u j)) = gen r fun j => enc k (P.u j - s * Q.u j) := frzL_gen fun j => enc_fr k _
  have fz3 : frzL (gen c fun j => enc k (P.v j + Q.v j)) = gen c fun j => enc k (P.v j + Q.v j) := frzL_gen fun j => enc_fr k _
  have ft : ∀ xs ys : List D, frzL [.tup xs, .tup ys] = [.tup xs, .tup ys] := fun xs ys => rfl
  cases w
  · have sl : eqD (.str (sdS .l)) (.str "left") = some true := s_ll
    show _ = Ex.ok (D.lst [.tup [erow k r P.u, erow k c fun j => P.v j - s * Q.v j, enc k P.a, enc k P.b], .tup [erow k r P.u, erow k c fun j => s * Q.v j, enc k (P.a + Q.a), enc k (P.b + Q.b)]]) h
    unfold F__law_exchanged
    push_cast [prd_vd, prd_0, prd_1, prd_2, prd_3, erow_vd, erow_vm, enc_vd, enc_vm, erow_len, ix, sl, e1, l1, kt, fz1, pa, pb, pl22, ft]
  · have sl : eqD (.str (sdS .r)) (.str "left") = some false := s_rl
    have sr : eqD (.str (sdS .r)) (.str "right") = some true := s_rr
    show _ = Ex.ok (D.lst [.tup [erow k r fun j => P.u j - s * Q.u j, erow k c P.v, enc k P.a, enc k P.b], .tup [erow k r fun j => s * Q.u j, erow k c P.v, enc k (P.a + Q.a), enc k (P.b + Q.b)]]) h
    unfold F__law_exchanged
    push_cast [prd_vd, prd_0, prd_1, prd_2, prd_3, erow_vd, erow_vm, enc_vd, enc_vm, erow_len, ix, sl, sr, e3, l2, kt, fz2, pa, pb, pl22, ft]
  · have sl : eqD (.str (sdS .n)) (.str "left") = some false := s_nl
    have sr : eqD (.str (sdS .n)) (.str "right") = some false := s_nr
    show _ = Ex.ok (D.lst [.tup [erow k r fun j => P.u j - s * Q.u j, erow k c P.v, enc k P.a, enc k P.b], .tup [erow k r fun j => s * Q.u j, erow k c fun j => P.v j + Q.v j, enc k P.a, enc k P.b]]) h
    unfold F__law_exchanged
    push_cast [prd_vd, prd_0, prd_1, prd_2, prd_3, erow_vd, erow_vm, enc_vd, enc_vm, erow_len, ix, sl, sr, e3, l2, l3, kt, fz2, fz3, ft]
/-- one product in each of two places -/
def up2 {k : Fg} (P : Nat → Pr4 k) (i j : Nat) (X Y : Pr4 k) : Nat → Pr4 k := fun t => if t = j then Y else if t = i then X else P t
theorem set2 {k : Fg} {r c n i j : Nat} {P : Nat → Pr4 k} {X Y : Pr4 k} : ((gen n fun t => (P t).d r c).set i (X.d r c)).set j (Y.d r c) = gen n fun t => (up2 P i j X Y t).d r c := by
  rw [gen_set, gen_set]
  refine gen_congr fun t _ => ?_
  unfold up2
  split
  · rfl
  · split <;> rfl
theorem E_exchprog (k : Fg) (r c n : Nat) (P : Nat → Pr4 k) (i j : Nat) (w : Sd) (h : D) (B : Nat) (hr : sideP k r) (hc : sideP k c) (hn : n ≤ 30) (hP : ∀ t, t < n → SmP r c (P t) B) (hB : 6 * B + 6 ≤ 8000) (hi : i < n) (hj : j < n) (ij : i ≠ j) :
    F_exchanged_program [prgD k r c n P, .int (i : Int), .int (j : Int), .str (sdS w)] h = match shr r c w (P i) (P j) with
      | some s => .ok (prgD k r c n (up2 P i j (ex1 w s (P i) (P j)) (ex2 w s (P i) (P j)))) h
      | none => .exc "NotShared" [] h := by
  have hr5 := hr.2.1
  have hc5 := hc.2.1
  have e1 := E_chkshared k r c n P i j w h B (by omega) (by omega) (by omega) hP hB hi hj ij
  obtain ⟨x, ex⟩ : ∃ x, x = prgD k r c n P := ⟨_, rfl⟩
  have xm : ∀ h, vmD (some (some x)) h = .ok x h := fun h => by rw [ex]; rfl
  have xp : ∀ h, atvD (some (some x)) "products" h = .ok (.tup (gen n fun i => (P i).d r c)) h := fun h => by rw [ex]; rfl
  have xf : ∀ h, atvD (some (some x)) "figures" h = .ok (fig k) h := fun h => by rw [ex]; rfl
  have xr : ∀ h, atvD (some (some x)) "rows" h = .ok (.int r) h := fun h => by rw [ex]; rfl
  have xc : ∀ h, atvD (some (some x)) "columns" h = .ok (.int c) h := fun h => by rw [ex]; rfl
  rw [← ex] at e1 ⊢
  clear ex
  cases q : shr r c w (P i) (P j) with
  | none =>
    rw [q] at e1
    have e1 : F_check_shared [x, .int (i : Int), .int (j : Int), .str (sdS w)] h = .exc "NotShared" [] h := e1
    unfold F_exchanged_program
    push_cast [xm, e1]
  | some s =>
    rw [q] at e1
    have e1 : F_check_shared [x, .int (i : Int), .int (j : Int), .str (sdS w)] h = .ok (enc k s) h := e1
    obtain ⟨dP, dQ, sv⟩ := sh_sz q
    have hs := shV_ht (sd_nz dP w) (sd_nz dQ w) sv (sd_ht (hP i hi) w) (sd_ht (hP j hj) w)
    have e2 := E_exchp k r c (P i) (P j) w s h B (by omega) (by omega) (hP i hi) (hP j hj) hs hB
    have e3 := E_prog k true r c n (fun t => (up2 P i j (ex1 w s (P i) (P j)) (ex2 w s (P i) (P j)) t).d r c) (up2 P i j (ex1 w s (P i) (P j)) (ex2 w s (P i) (P j))) hr hc hn fun t ht => ⟨false, false, rfl⟩
    have e3 : F_Program___init__ [.me, fig k, .int r, .int c, .lst (gen n fun t => (up2 P i j (ex1 w s (P i) (P j)) (ex2 w s (P i) (P j)) t).d r c)] (.ins "Program" []) = .ok .non (.ins "Program" (prgX k r c (gen n fun t => (up2 P i j (ex1 w s (P i) (P j)) (ex2 w s (P i) (P j)) t).d r c))) := e3
    have gi := gen_get (f := fun t => (P t).d r c) hi
    have gj := gen_get (f := fun t => (P t).d r c) hj
    have pf : ∀ X : Pr4 k, (X.d r c).fr = true := fun X => rfl
    have fz : frzL (gen n fun t => (up2 P i j (ex1 w s (P i) (P j)) (ex2 w s (P i) (P j)) t).d r c) = gen n fun t => (up2 P i j (ex1 w s (P i) (P j)) (ex2 w s (P i) (P j)) t).d r c := frzL_gen fun t => rfl
    have lI : ((gen n fun t => (P t).d r c).set i ((ex1 w s (P i) (P j)).d r c)).length = n := by rw [List.length_set, gen_len]
    unfold F_exchanged_program
    push_cast [xm, e1, xp, xf, xr, xc, gi, gj, pf, prd_vm, enc_vm, e2, lI, set2, fz, fig_vd, e3]
    rfl
end Lw
set_option exponentiation.threshold 20000
namespace Lw
open PySem PySem.Spec L2 Fw Pd Dz
theorem ms31_n : msOf [("DividedByNought", false), ("BadFigures", false), ("BadTable", false), ("BadLetters", false), ("BadPair", false), ("Unlike", false), ("BadProgram", false), ("NotShared", true)] "NotShared" = some true := by decide +kernel
def toD {k : Fg} (r c n : Nat) (P : Nat → Pr4 k) (i j : Nat) (w : Sd) : D := match shr r c w (P i) (P j) with
  | some s => prgD k r c n (up2 P i j (ex1 w s (P i) (P j)) (ex2 w s (P i) (P j)))
  | none => .non
theorem E_told31 (k : Fg) (r c n : Nat) (P : Nat → Pr4 k) (i j : Nat) (w : Sd) (h : D) (B : Nat) (hr : sideP k r) (hc : sideP k c) (hn : n ≤ 30) (hP : ∀ t, t < n → SmP r c (P t) B) (hB : 6 * B + 6 ≤ 8000) (hi : i < n) (hj : j < n) (ij : i ≠ j) : F__law_told [prgD k r c n P, .int (i : Int), .int (j : Int), .str (sdS w)] h = .ok (toD r c n P i j w) h := by
  have e := E_exchprog k r c n P i j w h B hr hc hn hP hB hi hj ij
  obtain ⟨x, ex⟩ : ∃ x, x = prgD k r c n P := ⟨_, rfl⟩
  have xm : ∀ h, vmD (some (some x)) h = .ok x h := fun h => by rw [ex]; rfl
  rw [← ex] at e ⊢
  clear ex
  unfold toD
  cases q : shr r c w (P i) (P j) with
  | none =>
    rw [q] at e
    have e : F_exchanged_program [x, .int (i : Int), .int (j : Int), .str (sdS w)] h = .exc "NotShared" [] h := e
    unfold F__law_told
    push_cast [xm, e, hd_hit0 ms31_n, dropFl]
  | some s =>
    rw [q] at e
    have e : F_exchanged_program [x, .int (i : Int), .int (j : Int), .str (sdS w)] h = .ok (prgD k r c n (up2 P i j (ex1 w s (P i) (P j)) (ex2 w s (P i) (P j)))) h := e
    show F__law_told [x, .int (i : Int), .int (j : Int), .str (sdS w)] h = .ok (prgD k r c n (up2 P i j (ex1 w s (P i) (P j)) (ex2 w s (P i) (P j)))) h
    generalize prgD k r c n (up2 P i j (ex1 w s (P i) (P j)) (ex2 w s (P i) (P j))) = y at e ⊢
    unfold F__law_told
    push_cast [xm, e, dropFl]
theorem Sm_two {K : Type} [Fd K] {f g : Nat → K} {i j n : Nat} (hi : i < n) (hj : j < n) (ij : i ≠ j) (eo : ∀ t, t ≠ i → t ≠ j → f t = g t) (e : f i + f j = g i + g j) : Sm n f = Sm n g := by
  have d : Sm n (fun t => f t - g t) = Sm n (fun t => if t = i then f i - g i else 0) + Sm n (fun t => if t = j then f j - g j else 0) := by
    rw [← Sm_add]
    refine Sm_congr fun t _ => ?_
    by_cases a : t = i
    · subst a
      rw [if_pos rfl, if_neg ij]; grind
    · by_cases b : t = j
      · subst b
        rw [if_neg a, if_pos rfl]; grind
      · rw [if_neg a, if_neg b, eo t a b]; grind
  rw [Sm_sub, Sm_one hi fun t _ h => if_neg h, Sm_one hj fun t _ h => if_neg h, if_pos rfl, if_pos rfl] at d
  grind
theorem ex_sum31 {k : Fg} {r c : Nat} {w : Sd} {s : k.K} {P Q : Pr4 k} (h : ∀ t, t < sdN r c w → s * sdX P w t = sdX Q w t) (b : Bool) {a d : Nat} (ha : a < r) (hd : d < c) : (ex1 w s P Q).co b * (ex1 w s P Q).u a * (ex1 w s P Q).v d + (ex2 w s P Q).co b * (ex2 w s P Q).u a * (ex2 w s P Q).v d = P.co b * P.u a * P.v d + Q.co b * Q.u a * Q.v d := by
  cases w
  · have e : s * P.u a = Q.u a := h a ha
    cases b
    · show P.a * P.u a * (P.v d - s * Q.v d) + (P.a + Q.a) * P.u a * (s * Q.v d) = P.a * P.u a * P.v d + Q.a * Q.u a * Q.v d
      rw [← e]; grind
    · show P.b * P.u a * (P.v d - s * Q.v d) + (P.b + Q.b) * P.u a * (s * Q.v d) = P.b * P.u a * P.v d + Q.b * Q.u a * Q.v d
      rw [← e]; grind
  · have e : s * P.v d = Q.v d := h d hd
    cases b
    · show P.a * (P.u a - s * Q.u a) * P.v d + (P.a + Q.a) * (s * Q.u a) * P.v d = P.a * P.u a * P.v d + Q.a * Q.u a * Q.v d
      rw [← e]; grind
    · show P.b * (P.u a - s * Q.u a) * P.v d + (P.b + Q.b) * (s * Q.u a) * P.v d = P.b * P.u a * P.v d + Q.b * Q.u a * Q.v d
      rw [← e]; grind
  · have e0 := h 0 (show 0 < 2 by omega)
    have e1 := h 1 (show 1 < 2 by omega)
    have e0 : s * P.a = Q.a := e0
    have e1 : s * P.b = Q.b := e1
    cases b
    · show P.a * (P.u a - s * Q.u a) * P.v d + P.a * (s * Q.u a) * (P.v d + Q.v d) = P.a * P.u a * P.v d + Q.a * Q.u a * Q.v d
      rw [← e0]; grind
    · show P.b * (P.u a - s * Q.u a) * P.v d + P.b * (s * Q.u a) * (P.v d + Q.v d) = P.b * P.u a * P.v d + Q.b * Q.u a * Q.v d
      rw [← e1]; grind
theorem SmP.mono {k : Fg} {r c B C : Nat} {P : Pr4 k} (h : SmP r c P B) (b : B ≤ C) : SmP r c P C := ⟨fun i hi => Nat.le_trans (h.u i hi) b, fun j hj => Nat.le_trans (h.v j hj) b, Nat.le_trans h.a b, Nat.le_trans h.b b⟩
theorem ex1_ht {k : Fg} {r c B : Nat} {w : Sd} {s : k.K} {P Q : Pr4 k} (hP : SmP r c P B) (hQ : SmP r c Q B) (hs : ht k s ≤ 2 * B + 1) : SmP r c (ex1 w s P Q) (4 * B + 2) := by
  have pa := hP.a
  have pb := hP.b
  have mu : ∀ x y : k.K, ht k x ≤ B → ht k y ≤ B → ht k (x - s * y) ≤ 4 * B + 2 := fun x y hx hy => by
    have := ht_mul k s y
    have := ht_sub k x (s * y)
    omega
  cases w
  · exact ⟨fun i hi => Nat.le_trans (hP.u i hi) (by omega), fun j hj => mu _ _ (hP.v j hj) (hQ.v j hj), by show ht k P.a ≤ _; omega, by show ht k P.b ≤ _; omega⟩
  · exact ⟨fun i hi => mu _ _ (hP.u i hi) (hQ.u i hi), fun j hj => Nat.le_trans (hP.v j hj) (by omega), by show ht k P.a ≤ _; omega, by show ht k P.b ≤ _; omega⟩
  · exact ⟨fun i hi => mu _ _ (hP.u i hi) (hQ.u i hi), fun j hj => Nat.le_trans (hP.v j hj) (by omega), by show ht k P.a ≤ _; omega, by show ht k P.b ≤ _; omega⟩
theorem ex2_ht {k : Fg} {r c B : Nat} {w : Sd} {s : k.K} {P Q : Pr4 k} (hP : SmP r c P B) (hQ : SmP r c Q B) (hs : ht k s ≤ 2 * B + 1) : SmP r c (ex2 w s P Q) (4 * B + 2) := by
  have pa := hP.a
  have pb := hP.b
  have qa := hQ.a
  have qb := hQ.b
  have mu : ∀ y : k.K, ht k y ≤ B → ht k (s * y) ≤ 4 * B + 2 := fun y hy => by
    have := ht_mul k s y
    omega
  have ad : ∀ x y : k.K, ht k x ≤ B → ht k y ≤ B → ht k (x + y) ≤ 4 * B + 2 := fun x y hx hy => by
    have := ht_add k x y
    omega
  cases w
  · exact ⟨fun i hi => Nat.le_trans (hP.u i hi) (by omega), fun j hj => mu _ (hQ.v j hj), ad _ _ pa qa, ad _ _ pb qb⟩
  · exact ⟨fun i hi => mu _ (hQ.u i hi), fun j hj => Nat.le_trans (hP.v j hj) (by omega), ad _ _ pa qa, ad _ _ pb qb⟩
  · exact ⟨fun i hi => mu _ (hQ.u i hi), fun j hj => ad _ _ (hP.v j hj) (hQ.v j hj), by show ht k P.a ≤ _; omega, by show ht k P.b ≤ _; omega⟩
def sumT31 {k : Fg} (n : Nat) (P : Nat → Pr4 k) (b : Bool) : Nat → Nat → k.K := fun i j => Sm n fun t => (P t).co b * (P t).u i * (P t).v j
theorem E_made31 (k : Fg) (r c n : Nat) (P : Nat → Pr4 k) (h : D) (B : Nat) (hr : r ≤ 90) (hc : c ≤ 90) (hn : n ≤ 90) (hP : ∀ t, t < n → SmP r c (P t) B) (hB : 1 + (n + 1) * (B + B + B + 1) ≤ 8000) : F__law_made [.int k.p, .int r, .int c, .tup (gen n fun t => (P t).d r c)] h = .ok (.lst [ltab k r c (sumT31 n P false), ltab k r c (sumT31 n P true)]) h := by
  have e1 : F__law_summed [.int k.p, .int r, .int c, .tup (gen n fun t => (P t).d r c), .int 2] h = .ok (ltab k r c (sumT31 n P false)) h := E_summed k false r c n P h B B B (by omega) (by omega) (by omega) (fun t ht => (hP t ht).a) (fun t i ht hi => (hP t ht).u i hi) (fun t j ht hj => (hP t ht).v j hj) hB
  have e2 : F__law_summed [.int k.p, .int r, .int c, .tup (gen n fun t => (P t).d r c), .int 3] h = .ok (ltab k r c (sumT31 n P true)) h := E_summed k true r c n P h B B B (by omega) (by omega) (by omega) (fun t ht => (hP t ht).b) (fun t i ht hi => (hP t ht).u i hi) (fun t j ht hj => (hP t ht).v j hj) hB
  have fz : frzL [ltab k r c (sumT31 n P false), ltab k r c (sumT31 n P true)] = [ltab k r c (sumT31 n P false), ltab k r c (sumT31 n P true)] := frzL_2 rfl rfl
  unfold F__law_made
  push_cast [e1, e2, fz]
theorem E_couple31 (k : Fg) (r c n : Nat) (P : Nat → Pr4 k) (i j : Nat) (w : Sd) (h : D) (B : Nat) (hr : sideP k r) (hc : sideP k c) (hn : n ≤ 5) (hP : ∀ t, t < n → SmP r c (P t) B) (B1 : 1 ≤ B) (hB : B ≤ 60) (hi : i < n) (hj : j < n) (ij : i ≠ j) : F__law_couple_holds [.int k.p, prgD k r c n P, .int (i : Int), .int (j : Int), .str (sdS w)] h = .ok (.bl true) h := by
  have hr5 := hr.2.1
  have hc5 := hc.2.1
  have pi := ix_gen (f := fun t => (P t).d r c) hi
  have pj := ix_gen (f := fun t => (P t).d r c) hj
  have e1 := E_shares k r c (P i) (P j) w h B (by omega) (by omega) (hP i hi) (hP j hj) B1 (by omega)
  have e2 := E_told31 k r c n P i j w h B hr hc (by omega) hP (by omega) hi hj ij
  obtain ⟨x, ex⟩ : ∃ x, x = prgD k r c n P := ⟨_, rfl⟩
  have xm : ∀ h, vmD (some (some x)) h = .ok x h := fun h => by rw [ex]; rfl
  have xp : ∀ h, atvD (some (some x)) "products" h = .ok (.tup (gen n fun i => (P i).d r c)) h := fun h => by rw [ex]; rfl
  have xr : ∀ h, atvD (some (some x)) "rows" h = .ok (.int r) h := fun h => by rw [ex]; rfl
  have xc : ∀ h, atvD (some (some x)) "columns" h = .ok (.int c) h := fun h => by rw [ex]; rfl
  rw [← ex] at e2 ⊢
  clear ex
  unfold toD at e2
  cases q : shr r c w (P i) (P j) with
  | none =>
    rw [q] at e1 e2
    have e1 : F__law_shares [.int k.p, (P i).d r c, (P j).d r c, .str (sdS w)] h = .ok .non h := e1
    have e2 : F__law_told [x, .int (i : Int), .int (j : Int), .str (sdS w)] h = .ok .non h := e2
    unfold F__law_couple_holds
    push_cast [xm, xp, pi, pj, prd_vm, e1, e2]
  | some s =>
    rw [q] at e1 e2
    have e1 : F__law_shares [.int k.p, (P i).d r c, (P j).d r c, .str (sdS w)] h = .ok (enc k s) h := e1
    obtain ⟨dP, dQ, sv⟩ := sh_sz q
    have hs := shV_ht (sd_nz dP w) (sd_nz dQ w) sv (sd_ht (hP i hi) w) (sd_ht (hP j hj) w)
    have e3 := E_lexch k r c (P i) (P j) w s h B (by omega) (by omega) (hP i hi) (hP j hj) hs (by omega)
    obtain ⟨P', eP'⟩ : ∃ P', P' = up2 P i j (ex1 w s (P i) (P j)) (ex2 w s (P i) (P j)) := ⟨_, rfl⟩
    have e2 : F__law_told [x, .int (i : Int), .int (j : Int), .str (sdS w)] h = .ok (prgD k r c n P') h := by rw [eP']; exact e2
    have hP' : ∀ t, t < n → SmP r c (P' t) (4 * B + 2) := fun t ht => by
      rw [eP']
      unfold up2
      split
      · exact ex2_ht (hP i hi) (hP j hj) hs
      · split
        · exact ex1_ht (hP i hi) (hP j hj) hs
        · exact (hP t ht).mono (by omega)
    have m1 := E_made31 k r c n P' h (4 * B + 2) (by omega) (by omega) (by omega) hP' (by
      have := Nat.mul_le_mul (show n + 1 ≤ 6 by omega) (show 4 * B + 2 + (4 * B + 2) + (4 * B + 2) + 1 ≤ 727 by omega)
      omega)
    have m2 := E_made31 k r c n P h B (by omega) (by omega) (by omega) hP (by
      have := Nat.mul_le_mul (show n + 1 ≤ 6 by omega) (show B + B + B + 1 ≤ 181 by omega)
      omega)
    have su : ∀ b, ltab k r c (sumT31 n P' b) = ltab k r c (sumT31 n P b) := fun b => ltab_congr fun a d ha hd => by
      unfold sumT31
      refine Sm_two hi hj ij (fun t t1 t2 => ?_) ?_
      · rw [eP']
        unfold up2
        rw [if_neg t2, if_neg t1]
      · have ui : P' i = ex1 w s (P i) (P j) := by rw [eP']; unfold up2; rw [if_neg ij, if_pos rfl]
        have uj : P' j = ex2 w s (P i) (P j) := by rw [eP']; unfold up2; rw [if_pos rfl]
        rw [ui, uj]
        exact ex_sum31 (shV_some sv).2 b ha hd
    rw [su false, su true] at m1
    have X := X_prds31 k true r c n P' h (by omega) (by omega) (by omega)
    have X : F__law_exact_31 6 [.tup (gen n fun t => (P' t).d r c), .lst (gen n fun t => (P' t).d r c)] h = .ok (.bl true) h := X
    have gi := gen_get (f := fun t => (P t).d r c) hi
    have lI : ((gen n fun t => (P t).d r c).set i ((ex1 w s (P i) (P j)).d r c)).length = n := by rw [List.length_set, gen_len]
    have s2 : ((gen n fun t => (P t).d r c).set i ((ex1 w s (P i) (P j)).d r c)).set j ((ex2 w s (P i) (P j)).d r c) = gen n fun t => (P' t).d r c := by rw [eP']; exact set2
    have fz : frzL (gen n fun t => (P' t).d r c) = gen n fun t => (P' t).d r c := frzL_gen fun t => rfl
    have pf : ∀ X : Pr4 k, (X.d r c).fr = true := fun X => rfl
    obtain ⟨y, ey⟩ : ∃ y, y = prgD k r c n P' := ⟨_, rfl⟩
    have yv : ∀ h, vD (some (some y)) h = .ok y h := fun h => by rw [ey]; rfl
    have yf : ∀ h, atvD (some (some y)) "figures" h = .ok (fig k) h := fun h => by rw [ey]; rfl
    have yp : ∀ h, atvD (some (some y)) "products" h = .ok (.tup (gen n fun i => (P' i).d r c)) h := fun h => by rw [ey]; rfl
    have ei : ∀ (a0 a1 a2 a3 a4 a5 a6 a8 a9 a10 a11 : Option D) h, eIsC (msOf [("Pair", false), ("Program", true), ("Match", false), ("Shared", false), ("Figures", false)]) false (eV 7) [a0, a1, a2, a3, a4, a5, a6, some y, a8, a9, a10, a11] h = .ok (.bl true) h := fun a0 a1 a2 a3 a4 a5 a6 a8 a9 a10 a11 h => by rw [ey]; rfl
    rw [← ey] at e2
    clear ey
    have qe : eqD (.lst [ltab k r c (sumT31 n P false), ltab k r c (sumT31 n P true)]) (.lst [ltab k r c (sumT31 n P false), ltab k r c (sumT31 n P true)]) = some true := eq_self (n := 4) (pl_lst fun d hd => by
      rcases List.mem_cons.mp hd with rfl | hd
      · exact pl_ltab
      · rw [List.mem_singleton.mp hd]; exact pl_ltab) (by omega)
    unfold F__law_couple_holds
    push_cast [isa_ni, isa_nb, isa_ns, isa_nt, isa_nl, isa_bi, isa_bb, isa_bs, isa_bt, isa_bl, isa_ii, isa_ib, isa_is, isa_it, isa_il, isa_si, isa_sb, isa_ss, isa_st, isa_sl, isa_ti, isa_tb, isa_ts, isa_tt, isa_tl, isa_li, isa_lb, isa_ls, isa_lt, isa_ll, xm, xp, pi, pj, prd_vm, e1, e2, enc_vd, enc_vm, isN_encM, ↓ei, yf, yp, fig_tp, e3, gi, lI, s2, fz, pf, X, xr, xc, m1, m2, qe]
end Lw
set_option exponentiation.threshold 20000
namespace Lw
open PySem PySem.Spec L2 Fw Pd Dz
def fwS {k : Fg} (r c : Nat) (P Q : Pr4 k) : Option Sd := if (shr r c .l P Q).isSome then some .l else if (shr r c .r P Q).isSome then some .r else if (shr r c .n P Q).isSome then some .n else none
def firstJ {k : Fg} (r c : Nat) (P : Nat → Pr4 k) (i : Nat) : List Nat → Option (Nat × Nat × Sd)
  | [] => none
  | j :: js => match fwS r c (P i) (P j) with
    | some w => some (i, j, w)
    | none => firstJ r c P i js
def findP {k : Fg} (r c : Nat) (P : Nat → Pr4 k) : List Nat → Option (Nat × Nat × Sd)
  | [] => none
  | i :: js => match firstJ r c P i js with
    | some x => some x
    | none => findP r c P js
theorem fw_does {k : Fg} {r c : Nat} {P Q : Pr4 k} (h : ¬ (doesB r c P = true ∧ doesB r c Q = true)) : fwS r c P Q = none := by
  have s : ∀ w, shr r c w P Q = none := fun w => if_neg h
  unfold fwS
  rw [s, s, s]
  rfl
theorem firstJ_no {k : Fg} {r c : Nat} {P : Nat → Pr4 k} {i : Nat} (h : doesB r c (P i) = false) : ∀ js, firstJ r c P i js = none
  | [] => rfl
  | j :: js => by
    unfold firstJ
    rw [fw_does fun z => by rw [h] at z; cases z.1]
    exact firstJ_no h js
theorem firstJ_fil {k : Fg} {r c : Nat} {P : Nat → Pr4 k} {i : Nat} : ∀ js, firstJ r c P i (js.filter fun t => doesB r c (P t)) = firstJ r c P i js
  | [] => rfl
  | j :: js => by
    cases q : doesB r c (P j) with
    | true =>
      rw [List.filter_cons, if_pos q]
      unfold firstJ
      rw [firstJ_fil js]
    | false =>
      rw [List.filter_cons, if_neg (by rw [q]; exact Bool.false_ne_true), firstJ_fil js]
      conv => rhs; unfold firstJ
      rw [fw_does fun z => by rw [q] at z; cases z.2]
theorem findP_fil {k : Fg} {r c : Nat} {P : Nat → Pr4 k} : ∀ L, findP r c P (L.filter fun t => doesB r c (P t)) = findP r c P L
  | [] => rfl
  | i :: js => by
    cases q : doesB r c (P i) with
    | true =>
      rw [List.filter_cons, if_pos q]
      unfold findP
      rw [firstJ_fil js, findP_fil js]
    | false =>
      rw [List.filter_cons, if_neg (by rw [q]; exact Bool.false_ne_true), findP_fil js]
      conv => rhs; unfold findP
      rw [firstJ_no q]
def shD (x : Nat × Nat × Sd) : D := .ins "Shared" [("first", .int (x.1 : Int)), ("second", .int (x.2.1 : Int)), ("side", .str (sdS x.2.2))]
def shO (o : Option (Nat × Nat × Sd)) : D := match o with
  | some x => shD x
  | none => .non
theorem E_sharedmk (a b : Int) (s : Str) : F_Shared___init__ [.me, .int a, .int b, .str s] (.ins "Shared" []) = .ok .non (.ins "Shared" [("first", .int a), ("second", .int b), ("side", .str s)]) := by
  have p1 : putD "first" (.int a) [] = ([("first", .int a)] : List (Str × D)) := rfl
  have p2 : putD "second" (.int b) [("first", .int a)] = ([("first", .int a), ("second", .int b)] : List (Str × D)) := rfl
  have p3 : putD "side" (.str s) [("first", .int a), ("second", .int b)] = ([("first", .int a), ("second", .int b), ("side", .str s)] : List (Str × D)) := rfl
  have l0 : (0 : Nat) < 900 := by omega
  have l1 : (1 : Nat) < 900 := by omega
  have l2 : (2 : Nat) < 900 := by omega
  unfold F_Shared___init__
  push_cast [p1, p2, p3, l0, l1, l2]
theorem forGo_r {bind : D → DE → Option DE} {body : SF} {x : D} {xs : List D} {δ δ1 : DE} {h d h2 : D} (e1 : bind x δ = some δ1) (e2 : body δ1 h = .ret d h2) : forGo bind body (x :: xs) δ h = .ret d h2 := by
  unfold forGo
  simp only [e1, e2]
theorem forGo_n {bind : D → DE → Option DE} {body : SF} {x : D} {xs : List D} {δ δ1 δ2 : DE} {h h2 : D} {r : Fl} (e1 : bind x δ = some δ1) (e2 : body δ1 h = .nx δ2 h2) (e3 : forGo bind body xs δ2 h2 = r) : forGo bind body (x :: xs) δ h = r := by
  unfold forGo
  simp only [e1, e2]
  exact e3
def s2B : SF := (sIf (eT (eOp oNotN (eCall 4 F_side_size [] (eCons (eAtV 0 "figures") (eCons (eOp oIx (eAtV 0 "products") (eV 1)) (eCons (eOp oIx (eAtV 0 "products") (eV 2)) (eCons (eVm 3) eNil))))) (eC .non))) (sRet (eMake "Shared" 4 F_Shared___init__ [] (eCons (eV 1) (eCons (eV 2) (eCons (eV 3) eNil))))) sNil)
def s2O (i j : Nat) (o : Option Sd) : D := match o with
  | some w => shD (i, j, w)
  | none => .non
theorem E_sh2 (k : Fg) (r c n : Nat) (P : Nat → Pr4 k) (i j : Nat) (h : D) (B : Nat) (hr : r ≤ 90) (hc : c ≤ 90) (hP : ∀ t, t < n → SmP r c (P t) B) (hB : 6 * B + 6 ≤ 8000) (hi : i < n) (hj : j < n) (dP : doesB r c (P i) = true) (dQ : doesB r c (P j) = true) : F_shared_of_two [prgD k r c n P, .int (i : Int), .int (j : Int)] h = .ok (s2O i j (fwS r c (P i) (P j))) h := by
  have pi := ix_gen (f := fun t => (P t).d r c) hi
  have pj := ix_gen (f := fun t => (P t).d r c) hj
  obtain ⟨x, ex⟩ : ∃ x, x = prgD k r c n P := ⟨_, rfl⟩
  have xp : ∀ h, atvD (some (some x)) "products" h = .ok (.tup (gen n fun i => (P i).d r c)) h := fun h => by rw [ex]; rfl
  have xf : ∀ h, atvD (some (some x)) "figures" h = .ok (fig k) h := fun h => by rw [ex]; rfl
  rw [← ex]
  clear ex
  have step : ∀ (w : Sd) (x3 : Option D), (∃ s, shr r c w (P i) (P j) = some s) → s2B [some x, some (.int (i : Int)), some (.int (j : Int)), some (.str (sdS w))] h = .ret (shD (i, j, w)) h := fun w x3 ⟨s, es⟩ => by
    have e := E_sidesize k r c (P i) (P j) w h B hr hc (hP i hi) (hP j hj) hB dP dQ
    rw [es] at e
    have e : F_side_size [fig k, (P i).d r c, (P j).d r c, .str (sdS w)] h = .ok (enc k s) h := e
    have em := E_sharedmk (i : Int) (j : Int) (sdS w)
    unfold s2B
    push_cast [xf, xp, pi, pj, e, notN_encM, em]
    rfl
  have step0 : ∀ (w : Sd), shr r c w (P i) (P j) = none → s2B [some x, some (.int (i : Int)), some (.int (j : Int)), some (.str (sdS w))] h = .nx [some x, some (.int (i : Int)), some (.int (j : Int)), some (.str (sdS w))] h := fun w es => by
    have e := E_sidesize k r c (P i) (P j) w h B hr hc (hP i hi) (hP j hj) hB dP dQ
    rw [es] at e
    have e : F_side_size [fig k, (P i).d r c, (P j).d r c, .str (sdS w)] h = .ok .non h := e
    unfold s2B
    push_cast [xf, xp, pi, pj, e]
  have it : itS (.tup tup_SIDES) = some [.str (sdS .l), .str (sdS .r), .str (sdS .n)] := rfl
  have un : F_shared_of_two = runF 4 (sSeq (sFor (iSeq (eC (.tup tup_SIDES))) (bNm 3) s2B) (sRet (eC .non))) := rfl
  have main : (∃ w, fwS r c (P i) (P j) = some w ∧ forGo (bNm 3) s2B [.str (sdS .l), .str (sdS .r), .str (sdS .n)] [some x, some (.int (i : Int)), some (.int (j : Int)), none] h = .ret (shD (i, j, w)) h) ∨ (fwS r c (P i) (P j) = none ∧ forGo (bNm 3) s2B [.str (sdS .l), .str (sdS .r), .str (sdS .n)] [some x, some (.int (i : Int)), some (.int (j : Int)), none] h = .nx [some x, some (.int (i : Int)), some (.int (j : Int)), some (.str (sdS .n))] h) := by
    cases q1 : shr r c .l (P i) (P j) with
    | some s =>
      exact .inl ⟨.l, by unfold fwS; rw [q1]; rfl, forGo_r rfl (step .l none ⟨s, q1⟩)⟩
    | none =>
      cases q2 : shr r c .r (P i) (P j) with
      | some s => exact .inl ⟨.r, by unfold fwS; rw [q1, q2]; rfl, forGo_n rfl (step0 .l q1) (forGo_r rfl (step .r none ⟨s, q2⟩))⟩
      | none =>
        cases q3 : shr r c .n (P i) (P j) with
        | some s => exact .inl ⟨.n, by unfold fwS; rw [q1, q2, q3]; rfl, forGo_n rfl (step0 .l q1) (forGo_n rfl (step0 .r q2) (forGo_r rfl (step .n none ⟨s, q3⟩)))⟩
        | none => exact .inr ⟨by unfold fwS; rw [q1, q2, q3]; rfl, forGo_n rfl (step0 .l q1) (forGo_n rfl (step0 .r q2) (forGo_n rfl (step0 .n q3) rfl))⟩
  rw [un]
  rcases main with ⟨w, e1, e2⟩ | ⟨e1, e2⟩
  · rw [e1]
    push_cast [it, e2]
    rfl
  · rw [e1]
    push_cast [it, e2]
    rfl
theorem cut_drop (xs : List D) (i : Nat) : cutD xs (some (i : Int)) none = xs.drop i := by
  have e := cut_lo (n := xs.length) (f := fun i => (xs[i]?).getD .non) (i := (i : Int)) (by omega)
  have g : (gen xs.length fun i => (xs[i]?).getD .non) = xs := (gen_ext rfl fun i h => by rw [List.getElem?_eq_getElem h]; rfl).symm
  rw [g] at e
  rw [e, Int.toNat_natCast]
  refine (gen_ext (by rw [List.length_drop]) fun j hj => ?_).symm
  rw [List.getElem?_drop, List.getElem?_eq_getElem (by omega)]
  rfl
def ssB1 : SF := (sSeq (sSet 5 (eCall 3 F_shared_of_two [] (eCons (eVm 0) (eCons (eVm 3) (eCons (eVm 4) eNil)))))
    (sIf (eT (eOp oNotN (eV 5) (eC .non))) (sRet (eV 5)) sNil))
def ssB : SF := sFor (iSeq (eFz (eSl (eV 1) (eOpt (eOp oAdd (eV 2) (eC (.int 1)))) eNo))) (bNm 4) ssB1
theorem E_sharedside (k : Fg) (r c n : Nat) (P : Nat → Pr4 k) (h : D) (B : Nat) (hr : r ≤ 90) (hc : c ≤ 90) (hn : n ≤ 90) (hP : ∀ t, t < n → SmP r c (P t) B) (hB : 6 * B + 6 ≤ 8000) : F_shared_side [prgD k r c n P] h = .ok (shO (findP r c P (dpl r c n P))) h := by
  have e0 := E_doing k r c n P h (by omega)
  have e2 : ∀ i j, i < n → j < n → doesB r c (P i) = true → doesB r c (P j) = true → F_shared_of_two [prgD k r c n P, .int (i : Int), .int (j : Int)] h = .ok (s2O i j (fwS r c (P i) (P j))) h := fun i j hi hj dP dQ => E_sh2 k r c n P i j h B hr hc hP hB hi hj dP dQ
  obtain ⟨x, ex⟩ : ∃ x, x = prgD k r c n P := ⟨_, rfl⟩
  have xm : ∀ h, vmD (some (some x)) h = .ok x h := fun h => by rw [ex]; rfl
  rw [← ex] at e0 ⊢
  simp only [← ex] at e2
  clear ex
  have inner : ∀ (DD : List Nat) (i at' : Nat), i < n → doesB r c (P i) = true → ∀ (js : List Nat) (y4 y5 : Option D), (∀ j, j ∈ js → j < n ∧ doesB r c (P j) = true) → (∃ z, firstJ r c P i js = some z ∧ forGo (bNm 4) ssB1 (js.map fun j : Nat => D.int (j : Int)) [some x, some (.lst (nats DD)), some (.int (at' : Int)), some (.int (i : Int)), y4, y5] h = .ret (shD z) h) ∨ (firstJ r c P i js = none ∧ ∃ z4 z5, forGo (bNm 4) ssB1 (js.map fun j : Nat => D.int (j : Int)) [some x, some (.lst (nats DD)), some (.int (at' : Int)), some (.int (i : Int)), y4, y5] h = .nx [some x, some (.lst (nats DD)), some (.int (at' : Int)), some (.int (i : Int)), z4, z5] h) := by
    intro DD i at' hi dP js
    induction js with
    | nil => intro y4 y5 _; exact .inr ⟨rfl, y4, y5, rfl⟩
    | cons j js ih =>
      intro y4 y5 hj
      obtain ⟨jn, dQ⟩ := hj j List.mem_cons_self
      have e := e2 i j hi jn dP dQ
      cases q : fwS r c (P i) (P j) with
      | some w =>
        rw [q] at e
        have e : F_shared_of_two [x, .int (i : Int), .int (j : Int)] h = .ok (shD (i, j, w)) h := e
        have sv : ∀ h, vD (some (some (shD (i, j, w)))) h = .ok (shD (i, j, w)) h := fun h => rfl
        have nn : Fw.oIsN.match_1 (fun _ => Bool) (shD (i, j, w)) (fun _ => false) (fun _ => true) = true := rfl
        refine .inl ⟨(i, j, w), by unfold firstJ; rw [q], forGo_r rfl ?_⟩
        unfold ssB1
        push_cast [xm, e, sv, nn]
      | none =>
        rw [q] at e
        have e : F_shared_of_two [x, .int (i : Int), .int (j : Int)] h = .ok .non h := e
        have st : ssB1 [some x, some (.lst (nats DD)), some (.int (at' : Int)), some (.int (i : Int)), some (.int (j : Int)), y5] h = .nx [some x, some (.lst (nats DD)), some (.int (at' : Int)), some (.int (i : Int)), some (.int (j : Int)), some .non] h := by
          unfold ssB1
          push_cast [xm, e]
        have fj : firstJ r c P i (j :: js) = firstJ r c P i js := by
          conv => lhs; unfold firstJ
          rw [q]
        rw [fj]
        rcases ih (some (.int (j : Int))) (some .non) (fun t ht => hj t (List.mem_cons_of_mem _ ht)) with ⟨z, f1, f2⟩ | ⟨f1, z4, z5, f2⟩
        · exact .inl ⟨z, f1, forGo_n rfl st f2⟩
        · exact .inr ⟨f1, z4, z5, forGo_n rfl st f2⟩
  have outer : ∀ (suf pre : List Nat) (y2 y3 y4 y5 : Option D), pre.length + suf.length ≤ 900 → (∀ j, j ∈ suf → j < n ∧ doesB r c (P j) = true) → (∃ z, findP r c P suf = some z ∧ forGo (bTp [(bNm 2), (bNm 3)]) ssB (enD pre.length (nats suf)) [some x, some (.lst (nats (pre ++ suf))), y2, y3, y4, y5] h = .ret (shD z) h) ∨ (findP r c P suf = none ∧ ∃ z2 z3 z4 z5, forGo (bTp [(bNm 2), (bNm 3)]) ssB (enD pre.length (nats suf)) [some x, some (.lst (nats (pre ++ suf))), y2, y3, y4, y5] h = .nx [some x, some (.lst (nats (pre ++ suf))), z2, z3, z4, z5] h) := by
    intro suf
    induction suf with
    | nil => intro pre y2 y3 y4 y5 _ _; exact .inr ⟨rfl, y2, y3, y4, y5, rfl⟩
    | cons i js ih =>
      intro pre y2 y3 y4 y5 hl hj
      rw [List.length_cons] at hl
      obtain ⟨hi, dP⟩ := hj i List.mem_cons_self
      have ee : enD pre.length (nats (i :: js)) = .tup [.int (pre.length : Int), .int (i : Int)] :: enD (pre ++ [i]).length (nats js) := by
        rw [List.length_append, List.length_singleton]
        rfl
      have cd : cutD (nats (pre ++ i :: js)) (some ((pre.length + 1 : Nat) : Int)) none = nats js := by
        rw [cut_drop]
        unfold nats
        rw [← List.map_drop]
        congr 1
        rw [List.drop_append]
        rw [show pre.length + 1 - pre.length = 1 by omega, List.drop_of_length_le (by omega)]
        rfl
      have cc : (pre.length : Int) + 1 = ((pre.length + 1 : Nat) : Int) := by omega
      have fz := frz_nats js
      have it : itS (.lst (nats js)) = some (js.map fun j : Nat => D.int (j : Int)) := rfl
      have pa : pre ++ i :: js = (pre ++ [i]) ++ js := by rw [List.append_assoc]; rfl
      have sl : (nats js).length ≤ 1000000 := by unfold nats; rw [List.length_map]; omega
      have bs : ∀ R, forGo (bNm 4) ssB1 (js.map fun j : Nat => D.int (j : Int)) [some x, some (.lst (nats (pre ++ i :: js))), some (.int (pre.length : Int)), some (.int (i : Int)), y4, y5] h = R → ssB [some x, some (.lst (nats (pre ++ i :: js))), some (.int (pre.length : Int)), some (.int (i : Int)), y4, y5] h = R := fun R e => by
        unfold ssB
        push_cast [cc, cd, fz, it, e]
      rw [ee]
      rcases inner (pre ++ i :: js) i pre.length hi dP js y4 y5 (fun t ht => hj t (List.mem_cons_of_mem _ ht)) with ⟨z, f1, f2⟩ | ⟨f1, z4, z5, f2⟩
      · exact .inl ⟨z, by unfold findP; rw [f1], forGo_r rfl (bs _ f2)⟩
      · have fp : findP r c P (i :: js) = findP r c P js := by
          conv => lhs; unfold findP
          rw [f1]
        rw [fp]
        have b2 := bs _ f2
        rw [pa] at b2 ⊢
        rcases ih (pre ++ [i]) (some (.int (pre.length : Int))) (some (.int (i : Int))) z4 z5 (by rw [List.length_append, List.length_singleton]; omega) (fun t ht => hj t (List.mem_cons_of_mem _ ht)) with ⟨z, g1, g2⟩ | ⟨g1, w2, w3, w4, w5, g2⟩
        · exact .inl ⟨z, g1, forGo_n rfl b2 g2⟩
        · exact .inr ⟨g1, w2, w3, w4, w5, forGo_n rfl b2 g2⟩
  have en : kEnum [.lst (nats (dpl r c n P))] = some (enD 0 (nats (dpl r c n P))) := rfl
  have un : F_shared_side = runF 6 (sSeq (sSet 1 (eCall 1 F_doing_places [] (eCons (eVm 0) eNil))) (sSeq (sFor (iRg kEnum (eCons (eV 1) eNil)) (bTp [(bNm 2), (bNm 3)]) ssB) (sRet (eC .non)))) := rfl
  have l1 := dpl_len (r := r) (c := c) (n := n) (P := P)
  rw [un]
  rcases outer (dpl r c n P) [] none none none none (by rw [List.length_nil]; omega) (fun j hj => dpl_mem hj) with ⟨z, f1, f2⟩ | ⟨f1, z2, z3, z4, z5, f2⟩
  · rw [f1]
    rw [List.length_nil, List.nil_append] at f2
    push_cast [xm, e0, en, f2]
    rfl
  · rw [f1]
    rw [List.length_nil, List.nil_append] at f2
    push_cast [xm, e0, en, f2]
    rfl
end Lw
set_option exponentiation.threshold 20000
namespace Lw
open PySem PySem.Spec L2 Fw Pd Dz
end Lw
set_option exponentiation.threshold 20000
namespace Lw
open PySem PySem.Spec L2 Fw Pd Dz
end Lw
set_option exponentiation.threshold 20000
namespace Lw
open PySem PySem.Spec L2 Fw Pd Dz
/-- a poly led by one as the law draws it -/
structure Fpo (k : Fg) (n : Nat) (f : Nat → k.K) : Prop where
  n1 : 1 ≤ n
  n5 : n ≤ highN k
  one : f n = 1
  high : ∀ j, n < j → f j = 0
  sm : ∀ j, ht k (f j) ≤ 8
theorem Fpo.le {k : Fg} {n : Nat} {f : Nat → k.K} (P : Fpo k n f) : n ≤ 5 := Nat.le_trans P.n5 (high_le k)
end Lw
set_option exponentiation.threshold 20000
namespace Lw
open PySem PySem.Spec L2 Fw Pd Dz
end Lw
set_option exponentiation.threshold 20000
namespace Lw
open PySem PySem.Spec L2 Fw Pd Dz
end Lw
set_option exponentiation.threshold 20000
namespace Lw
open PySem PySem.Spec L2 Fw Pd Dz
end Lw
set_option exponentiation.threshold 20000
namespace Lw
open PySem PySem.Spec L2 Fw Pd Dz
end Lw
set_option exponentiation.threshold 20000
namespace Lw
open PySem PySem.Spec L2 Fw Pd Dz
end Lw
set_option exponentiation.threshold 20000
namespace Lw
open PySem PySem.Spec L2 Fw Pd Dz
end Lw
set_option exponentiation.threshold 20000
namespace Lw
open PySem PySem.Spec L2 Fw Pd Dz
end Lw
set_option exponentiation.threshold 20000
namespace Lw
open PySem PySem.Spec L2 Fw Pd Dz
end Lw
set_option exponentiation.threshold 20000
namespace Lw
open PySem PySem.Spec L2 Fw Pd Dz
end Lw
set_option exponentiation.threshold 20000
namespace Lw
open PySem PySem.Spec L2 Fw Pd Dz
theorem r_divIntI {t b : Int} (hb : b ≠ 0) : Rat.divInt t b * (b : Rat) = (t : Rat) := by
  rw [Rat.divInt_eq_div, Rat.div_mul_cancel fun z => hb (Rat.intCast_eq_zero_iff.mp z)]
theorem E_unlikeI (k : Fg) (h : D) (hh : HandI h) : ∃ (x : k.K) (h' : D), F__law_unlike [.me, .int k.p] h = .ok (enc k x) h' ∧ x ≠ 0 ∧ ht k x ≤ 2 ∧ HandI h' := by
  cases k with
  | q =>
    obtain ⟨r1, h1, e1, p0, p1, i1⟩ := E_take 3 h hh (by decide) (by decide)
    obtain ⟨r2, h2, e2, q0, q1, i2⟩ := E_take 2 h1 i1 (by decide) (by decide)
    obtain ⟨r3, h3, e3, s0, s1, i3⟩ := E_take 4 h2 i2 (by decide) (by decide)
    have n0 : ¬ (0 : Int) < 0 := by omega
    obtain ⟨t, et, t0, t1, t2⟩ : ∃ t : Int, t = (if r2 = 0 then -(1 + r1) else 1 + r1) ∧ t ≠ 0 ∧ -4 < t ∧ t < 4 := ⟨_, rfl, by split <;> omega, by split <;> omega, by split <;> omega⟩
    obtain ⟨b, eb, b0, b1⟩ : ∃ b : Nat, b = (if r3 = 0 then 2 else 1) ∧ 0 < b ∧ b < 4 := ⟨_, rfl, by split <;> omega, by split <;> omega⟩
    have er := E_ratio t (b : Int) h3 (by omega) (by rw [Int.natAbs_natCast]; exact Nat.le_trans (bt_le (b := 2) (by omega)) (by omega))
    have x0 : Rat.divInt t (b : Int) ≠ 0 := fun z => by
      have e := r_divIntI (t := t) (b := (b : Int)) (by omega)
      rw [z] at e
      have e : (0 : Rat) = (t : Rat) := by rw [← e]; grind
      exact t0 (Rat.intCast_eq_zero_iff.mp e.symm)
    refine ⟨Rat.divInt t (b : Int), h3, ?_, x0, fr_small (by omega) (by omega) (by omega), i3⟩
    rw [encQ_a]
    unfold F__law_unlike
    by_cases z2 : r2 = 0
    · by_cases z3 : r3 = 0
      · rw [if_pos z2] at et
        rw [if_pos z3] at eb
        have c2 : (1 : Int) + 1 = ((b : Nat) : Int) := by omega
        rw [et] at er
        rw [et]
        push_cast [isa_ni, isa_nb, isa_ns, isa_nt, isa_nl, isa_bi, isa_bb, isa_bs, isa_bt, isa_bl, isa_ii, isa_ib, isa_is, isa_it, isa_il, isa_si, isa_sb, isa_ss, isa_st, isa_sl, isa_ti, isa_tb, isa_ts, isa_tt, isa_tl, isa_li, isa_lb, isa_ls, isa_lt, isa_ll, pq, n0, e1, e2, e3, z2, z3, c2, er]
      · rw [if_pos z2] at et
        rw [if_neg z3] at eb
        have c2 : (1 : Int) = ((b : Nat) : Int) := by omega
        rw [et] at er
        rw [et]
        rw [← c2] at er ⊢
        push_cast [isa_ni, isa_nb, isa_ns, isa_nt, isa_nl, isa_bi, isa_bb, isa_bs, isa_bt, isa_bl, isa_ii, isa_ib, isa_is, isa_it, isa_il, isa_si, isa_sb, isa_ss, isa_st, isa_sl, isa_ti, isa_tb, isa_ts, isa_tt, isa_tl, isa_li, isa_lb, isa_ls, isa_lt, isa_ll, pq, n0, e1, e2, e3, z2, z3, er]
    · by_cases z3 : r3 = 0
      · rw [if_neg z2] at et
        rw [if_pos z3] at eb
        have c2 : (1 : Int) + 1 = ((b : Nat) : Int) := by omega
        rw [et] at er
        rw [et]
        push_cast [isa_ni, isa_nb, isa_ns, isa_nt, isa_nl, isa_bi, isa_bb, isa_bs, isa_bt, isa_bl, isa_ii, isa_ib, isa_is, isa_it, isa_il, isa_si, isa_sb, isa_ss, isa_st, isa_sl, isa_ti, isa_tb, isa_ts, isa_tt, isa_tl, isa_li, isa_lb, isa_ls, isa_lt, isa_ll, pq, n0, e1, e2, e3, z2, z3, c2, er]
      · rw [if_neg z2] at et
        rw [if_neg z3] at eb
        have c2 : (1 : Int) = ((b : Nat) : Int) := by omega
        rw [et] at er
        rw [et]
        rw [← c2] at er ⊢
        push_cast [isa_ni, isa_nb, isa_ns, isa_nt, isa_nl, isa_bi, isa_bb, isa_bs, isa_bt, isa_bl, isa_ii, isa_ib, isa_is, isa_it, isa_il, isa_si, isa_sb, isa_ss, isa_st, isa_sl, isa_ti, isa_tb, isa_ts, isa_tt, isa_tl, isa_li, isa_lb, isa_ls, isa_lt, isa_ll, pq, n0, e1, e2, e3, z2, z3, er]
  | m n hn =>
    have hp := pm_le hn
    by_cases n2 : n = 0
    · subst n2
      refine ⟨⟨1, by omega⟩, h, ?_, fun z => by
        have := congrArg Fin.val z
        have : (1 : Nat) = 0 := this
        omega, Nat.zero_le _, hh⟩
      have c1 : ((0 + 2 : Nat) : Int) = 2 := rfl
      have n0 : (0 : Int) < 2 := by omega
      have n1 : ¬ (2 : Int) < 2 := by omega
      rw [encM_a]
      unfold F__law_unlike
      push_cast [pm, c1, n0, n1]
    · obtain ⟨p, ep⟩ : ∃ p, p = (Fg.m n hn).p := ⟨_, rfl⟩
      have ep' := ep
      rw [pm] at ep'
      obtain ⟨r1, h1, e1, p0, p1, i1⟩ := E_take (p - 1) h hh (by omega) (by omega)
      obtain ⟨s, rfl⟩ : ∃ s : Nat, r1 = s := ⟨r1.toNat, by omega⟩
      have n0 : (0 : Int) < p := by omega
      have n1 : (2 : Int) < p := by omega
      refine ⟨⟨s + 1, by omega⟩, h1, ?_, fun z => ?_, Nat.zero_le _, i1⟩
      · rw [encM_a, ← ep]
        have c1 : (1 : Int) + (s : Int) = ((s + 1 : Nat) : Int) := by omega
        unfold F__law_unlike
        push_cast [n0, n1, e1, c1]
      · have := congrArg Fin.val z
        have : s + 1 = 0 := this
        omega
end Lw
set_option exponentiation.threshold 20000
namespace Lw
open PySem PySem.Spec L2 Fw Pd Dz
theorem E_nums31 (k : Fg) (n : Nat) (h : D) (hh : HandI h) (hn : n ≤ 900) : ∃ (x : Nat → k.K) (h' : D), F__law_numbers_31 [.me, .int k.p, .int (n : Int)] h = .ok (erow k n x) h' ∧ Tw k n x ∧ HandI h' := by
  obtain ⟨g, h', l, hx, ih⟩ := lc_draw (bind := bNm 3) (elt := eCall 2 F__law_number [] (eCons (eVm 0) (eCons (eVm 1) eNil))) (δ := [some .me, some (.int k.p), some (.int (n : Int)), none]) (I := HandI) (R := fun _ d => ∃ x : k.K, d = enc k x ∧ ht k x ≤ 2) (d := fun i => .int (i : Int)) n h hh fun j hj h ih => by
    obtain ⟨x, h', e, fx1, ih'⟩ := E_number k h ih
    refine ⟨_, rfl, enc k x, h', ?_, ⟨x, rfl, fx1⟩, ih'⟩
    push_cast [e]
  obtain ⟨x, ex, fxs⟩ := gen_enc hx
  rw [ex] at l
  have fz : frzL (gen n fun j => enc k (x j)) = gen n fun j => enc k (x j) := frzL_gen fun j => enc_fr k _
  refine ⟨x, h', ?_, fxs, ih⟩
  unfold F__law_numbers_31
  push_cast [l, fz]
  rfl
theorem times_n (k : Fg) (n : Nat) (hn : n ≤ 900) : oTimes (.tup [enc k 0]) (.int (n : Int)) = some (erow k n fun _ => 0) := by
  rw [times_t (by omega) (by omega), Int.toNat_natCast]
  rfl
theorem ix_erow {k : Fg} {n i : Nat} {x : Nat → k.K} (h : i < n) : oIx (erow k n x) (.int (i : Int)) = some (enc k (x i)) := ix_gen (f := fun j => enc k (x j)) h
theorem sfz_m {k : Fg} {n : Nat} {x : Nat → k.K} : Fw.sfz.match_1 (fun _ => D) (erow k n x) (fun ds => D.lst ds) (fun d => d) = erow k n x := rfl
theorem E_numz (k : Fg) (h : D) : F__law_num [.int k.p, .int 0] h = .ok (enc k 0) h := by
  rw [E_num, ic_0]
theorem E_drawn31 (k : Fg) (r c : Nat) (h : D) (hh : HandI h) (hr : r ≤ 900) (hc : c ≤ 900) : ∃ (P : Pr4 k) (h' : D), F__law_drawn_product [.me, .int k.p, .int (r : Int), .int (c : Int)] h = .ok (P.d r c) h' ∧ SmP r c P 2 ∧ HandI h' := by
  obtain ⟨u, h1, e1, hu, i1⟩ := E_nums31 k r h hh hr
  obtain ⟨v, h2, e2, hv, i2⟩ := E_nums31 k c h1 i1 hc
  obtain ⟨x, h3, e3, hx, i3⟩ := E_nums31 k 2 h2 i2 (by omega)
  have e3 : F__law_numbers_31 [.me, .int k.p, .int 2] h2 = .ok (erow k 2 x) h3 := e3
  obtain ⟨q, h4, e4, q0, q1, i4⟩ := E_take 18 h3 i3 (by decide) (by decide)
  have ez := fun h => E_numz k h
  have z1 : ht k (0 : k.K) ≤ 2 := Nat.le_trans (ht_zero k) (by omega)
  have tr := times_n k r hr
  have tc := times_n k c hc
  have x0 : oIx (erow k 2 x) (.int 0) = some (enc k (x 0)) := ix_erow (i := 0) (by omega)
  have x1 : oIx (erow k 2 x) (.int 1) = some (enc k (x 1)) := ix_erow (i := 1) (by omega)
  by_cases c0 : q = 0
  · refine ⟨⟨fun _ => 0, v, x 0, x 1⟩, h4, ?_, ⟨fun i _ => z1, hv, hx 0 (by omega), hx 1 (by omega)⟩, i4⟩
    subst c0
    unfold F__law_drawn_product Pr4.d
    push_cast [enc_vd, erow_vd, e1, e2, e3, e4, ez, tr, sfz_m, x0, x1]
  · by_cases c1 : q = 1
    · refine ⟨⟨u, fun _ => 0, x 0, x 1⟩, h4, ?_, ⟨hu, fun i _ => z1, hx 0 (by omega), hx 1 (by omega)⟩, i4⟩
      subst c1
      unfold F__law_drawn_product Pr4.d
      push_cast [enc_vd, erow_vd, e1, e2, e3, e4, ez, tc, sfz_m, x0, x1]
    · by_cases c2 : q = 2
      · refine ⟨⟨u, v, 0, 0⟩, h4, ?_, ⟨hu, hv, z1, z1⟩, i4⟩
        subst c2
        unfold F__law_drawn_product Pr4.d
        push_cast [enc_vd, erow_vd, e1, e2, e3, e4, ez]
      · refine ⟨⟨u, v, x 0, x 1⟩, h4, ?_, ⟨hu, hv, hx 0 (by omega), hx 1 (by omega)⟩, i4⟩
        unfold F__law_drawn_product Pr4.d
        push_cast [enc_vd, erow_vd, e1, e2, e3, e4, ez, x0, x1, c0, c1, c2]
/-- a product drawn -/
def PrG (k : Fg) (r c B : Nat) (d : D) : Prop := ∃ P : Pr4 k, d = P.d r c ∧ SmP r c P B
theorem PrG.mono {k : Fg} {r c B C : Nat} {d : D} (h : PrG k r c B d) (b : B ≤ C) : PrG k r c C d := by
  obtain ⟨P, e, s⟩ := h
  exact ⟨P, e, s.mono b⟩
theorem PrG.fr {k : Fg} {r c B : Nat} {d : D} (h : PrG k r c B d) : d.fr = true := by
  obtain ⟨P, e, s⟩ := h
  rw [e]; rfl
theorem prd_gen {k : Fg} {r c B : Nat} {ds : List D} (h : ∀ x ∈ ds, PrG k r c B x) : ∃ P : Nat → Pr4 k, ds = gen ds.length (fun i => (P i).d r c) ∧ ∀ t, t < ds.length → SmP r c (P t) B := by
  refine ⟨fun i => if hi : i < ds.length then Classical.choose (h ds[i] (List.getElem_mem hi)) else ⟨fun _ => 0, fun _ => 0, 0, 0⟩, gen_ext rfl fun i hi => ?_, fun i hi => ?_⟩
  · simp only [dif_pos hi]
    rw [List.getElem?_eq_getElem hi]
    exact congrArg some (Classical.choose_spec (h ds[i] (List.getElem_mem hi))).1
  · simp only [dif_pos hi]
    exact (Classical.choose_spec (h ds[i] (List.getElem_mem hi))).2
theorem frz_prds {k : Fg} {r c B : Nat} {ds : List D} (h : ∀ x ∈ ds, PrG k r c B x) : frzL ds = ds := by
  obtain ⟨P, e, _⟩ := prd_gen h
  rw [e]
  exact frzL_gen fun i => rfl
def p31B : SF := (sSeq (sAsg (bTp [(bNm 6), (bNm 7), (bNm 8), (bNm 9)]) (eCall 4 F__law_drawn_product [] (eCons (eVm 0) (eCons (eVm 1) (eCons (eVm 2) (eCons (eVm 3) eNil))))))
    (sSeq (sSet 10 (eCall 2 F__law_take [] (eCons (eVm 0) (eCons (eC (.int 6)) eNil))))
    (sSeq (sIf (eAnd (eTruP (pV 4)) (eT (eOp oLt (eV 10) (eC (.int 3))))) (sSeq (sSet 11 (eCall 2 F__law_unlike [] (eCons (eVm 0) (eCons (eVm 1) eNil))))
    (sSeq (sSet 12 (ePl (pIx (pV 4) (eUn oNeg (eC (.int 1))))))
    (sIf (eT (eOp oEq (eV 10) (eC (.int 0)))) (sSet 6 (eCall 3 F__law_scaled [] (eCons (eVm 1) (eCons (eVm 11) (eCons (eOp oIx (eV 12) (eC (.int 0))) eNil))))) (sIf (eT (eOp oEq (eV 10) (eC (.int 1)))) (sSet 7 (eCall 3 F__law_scaled [] (eCons (eVm 1) (eCons (eVm 11) (eCons (eOp oIx (eV 12) (eC (.int 1))) eNil))))) (sSeq (sSet 8 (eCall 3 F__law_times [] (eCons (eVm 1) (eCons (eVm 11) (eCons (eOp oIx (eV 12) (eC (.int 2))) eNil)))))
    (sSet 9 (eCall 3 F__law_times [] (eCons (eVm 1) (eCons (eVm 11) (eCons (eOp oIx (eV 12) (eC (.int 3))) eNil)))))))))) sNil)
    (sApp (pV 4) (eTup (eCons (eV 6) (eCons (eV 7) (eCons (eV 8) (eCons (eV 9) eNil)))))))))
theorem ix_1 {n : Nat} (h : 1 ≤ n) : ixN n (-1) = some (n - 1) := by
  obtain ⟨m, rfl⟩ : ∃ m, n = m + 1 := ⟨n - 1, by omega⟩
  exact ixN_last
theorem p31_step (k : Fg) (r c m : Nat) (hr : r ≤ 90) (hc : c ≤ 90) (hm : m ≤ 30) (ds : List D) (hl : ds.length = m) (hd : ∀ x ∈ ds, PrG k r c (2 + 2 * m) x) (x5 : D) (y6 y7 y8 y9 y10 y11 y12 : Option D) (h : D) (hh : HandI h) :
    ∃ (d : D) (h2 : D) (z6 z7 z8 z9 z10 z11 z12 : Option D), p31B [some .me, some (.int k.p), some (.int (r : Int)), some (.int (c : Int)), some (.hl ds), some x5, y6, y7, y8, y9, y10, y11, y12] h = .nx [some .me, some (.int k.p), some (.int (r : Int)), some (.int (c : Int)), some (.hl (ds ++ [d])), some x5, z6, z7, z8, z9, z10, z11, z12] h2 ∧ PrG k r c (2 + 2 * (m + 1)) d ∧ HandI h2 := by
  obtain ⟨P, h1, e1, hP, i1⟩ := E_drawn31 k r c h hh (by omega) (by omega)
  obtain ⟨q, h2, e2, q0, q1, i2⟩ := E_take 6 h1 i1 (by decide) (by decide)
  have sz : szOk ds.length = true := sz_ok (by omega)
  have ty := fun (n : Nat) (x : Nat → k.K) (h : D) => erow_vd (k := k) (c := n) (x := x) (h := h)
  by_cases c1 : 1 ≤ ds.length ∧ q < 3
  · obtain ⟨x, h3, e3, x0, hx, i3⟩ := E_unlikeI k h2 i2
    obtain ⟨l, el⟩ : ∃ l, ds[ds.length - 1]? = some l := ⟨_, List.getElem?_eq_getElem (by omega)⟩
    obtain ⟨Q, eQ, hQ⟩ := hd l (List.mem_of_getElem? el)
    have ne : (!ds.isEmpty) = true := by
      cases ds with
      | nil => simp at c1
      | cons a b => rfl
    have ix := ix_1 (n := ds.length) c1.1
    have lf : l.fr = true := by rw [eQ]; rfl
    have lv : ∀ h, vD (some (some l)) h = .ok l h := fun h => vD_fr lf
    have j0 : oIx l (.int 0) = some (erow k r Q.u) := by rw [eQ]; rfl
    have j1 : oIx l (.int 1) = some (erow k c Q.v) := by rw [eQ]; rfl
    have j2 : oIx l (.int 2) = some (enc k Q.a) := by rw [eQ]; rfl
    have j3 : oIx l (.int 3) = some (enc k Q.b) := by rw [eQ]; rfl
    have t0 := fun h => E_lscaled k r x Q.u h (by omega) (fun j hj => by have := hQ.u j hj; omega)
    have t1 := fun h => E_lscaled k c x Q.v h (by omega) (fun j hj => by have := hQ.v j hj; omega)
    have t2 := fun h => E_times k x Q.a h (by have := hQ.a; omega)
    have t3 := fun h => E_times k x Q.b h (by have := hQ.b; omega)
    have mu : ∀ y : k.K, ht k y ≤ 2 + 2 * m → ht k (x * y) ≤ 2 + 2 * (m + 1) := fun y hy => by
      have := ht_mul k x y
      omega
    have hP' := hP.mono (show 2 ≤ 2 + 2 * (m + 1) by omega)
    have q3 : q < 3 := c1.2
    by_cases d0 : q = 0
    · subst d0
      refine ⟨(⟨fun j => x * Q.u j, P.v, P.a, P.b⟩ : Pr4 k).d r c, h3, some (erow k r fun j => x * Q.u j), some (erow k c P.v), some (enc k P.a), some (enc k P.b), some (.int 0), some (enc k x), some l, ?_, ⟨_, rfl, ⟨fun i hi => mu _ (hQ.u i hi), hP'.v, hP'.a, hP'.b⟩⟩, i3⟩
      unfold Pr4.d at e1
      unfold p31B Pr4.d
      push_cast [eTruP_a, enc_vd, enc_vm, erow_vd, erow_vm, e1, e2, ne, e3, oNeg_i, ix, el, lf, lv, j0, t0, sz]
    · by_cases d1 : q = 1
      · subst d1
        refine ⟨(⟨P.u, fun j => x * Q.v j, P.a, P.b⟩ : Pr4 k).d r c, h3, some (erow k r P.u), some (erow k c fun j => x * Q.v j), some (enc k P.a), some (enc k P.b), some (.int 1), some (enc k x), some l, ?_, ⟨_, rfl, ⟨hP'.u, fun i hi => mu _ (hQ.v i hi), hP'.a, hP'.b⟩⟩, i3⟩
        unfold Pr4.d at e1
        unfold p31B Pr4.d
        push_cast [eTruP_a, enc_vd, enc_vm, erow_vd, erow_vm, e1, e2, ne, e3, oNeg_i, ix, el, lf, lv, j1, t1, sz]
      · refine ⟨(⟨P.u, P.v, x * Q.a, x * Q.b⟩ : Pr4 k).d r c, h3, some (erow k r P.u), some (erow k c P.v), some (enc k (x * Q.a)), some (enc k (x * Q.b)), some (.int q), some (enc k x), some l, ?_, ⟨_, rfl, ⟨hP'.u, hP'.v, mu _ hQ.a, mu _ hQ.b⟩⟩, i3⟩
        unfold Pr4.d at e1
        unfold p31B Pr4.d
        push_cast [eTruP_a, enc_vd, enc_vm, erow_vd, erow_vm, e1, e2, ne, e3, oNeg_i, ix, el, lf, lv, d0, d1, q3, j2, t2, j3, t3, sz]
  · refine ⟨P.d r c, h2, some (erow k r P.u), some (erow k c P.v), some (enc k P.a), some (enc k P.b), some (.int q), y11, y12, ?_, ⟨P, rfl, hP.mono (by omega)⟩, i2⟩
    unfold Pr4.d at e1
    unfold p31B Pr4.d
    by_cases c2 : 1 ≤ ds.length
    · have q3 : ¬ q < 3 := fun z => c1 ⟨c2, z⟩
      have ne : (!ds.isEmpty) = true := by
        cases ds with
        | nil => simp at c2
        | cons a b => rfl
      push_cast [eTruP_a, enc_vd, enc_vm, erow_vd, erow_vm, e1, e2, ne, q3, sz]
    · obtain rfl : ds = [] := by
        cases ds with
        | nil => rfl
        | cons a b => exact absurd (show 1 ≤ b.length + 1 by omega) c2
      push_cast [eTruP_a, enc_vd, enc_vm, erow_vd, erow_vm, e1, e2, List.isEmpty_nil, sz]
theorem E_prods31 (k : Fg) (r c : Nat) (h : D) (hh : HandI h) (hr : r ≤ 90) (hc : c ≤ 90) : ∃ (n : Nat) (P : Nat → Pr4 k) (h' : D), F__law_products_31 [.me, .int k.p, .int (r : Int), .int (c : Int)] h = .ok (.lst (gen n fun i => (P i).d r c)) h' ∧ n ≤ 5 ∧ (∀ t, t < n → SmP r c (P t) 12) ∧ HandI h' := by
  obtain ⟨q, h1, e1, q0, q1, i1⟩ := E_take 6 h hh (by decide) (by decide)
  obtain ⟨n, rfl⟩ : ∃ n : Nat, q = n := ⟨q.toNat, by omega⟩
  obtain ⟨δ1, h2, e2, ds, dl, hd, y5, y6, y7, y8, y9, y10, y11, y12, ed, i2⟩ := for_draw (bind := bNm 5) (body := p31B) (d := fun a => .int (a : Int)) (n := n) (h := h1) (δ := [some .me, some (.int k.p), some (.int (r : Int)), some (.int (c : Int)), some (.hl []), none, none, none, none, none, none, none, none])
    (fun m δ h' => ∃ ds : List D, ds.length = m ∧ (∀ x ∈ ds, PrG k r c (2 + 2 * m) x) ∧ ∃ y5 y6 y7 y8 y9 y10 y11 y12, δ = [some .me, some (.int k.p), some (.int (r : Int)), some (.int (c : Int)), some (.hl ds), y5, y6, y7, y8, y9, y10, y11, y12] ∧ HandI h') (fun m hm δ h' ⟨ds, dl, hd, y5, y6, y7, y8, y9, y10, y11, y12, ed, ih⟩ => by
      subst ed
      obtain ⟨d, h2, z6, z7, z8, z9, z10, z11, z12, e, g, ih⟩ := p31_step k r c m hr hc (by omega) ds dl hd (.int (m : Int)) y6 y7 y8 y9 y10 y11 y12 h' ih
      refine ⟨_, rfl, _, h2, e, ds ++ [d], by rw [List.length_append, dl]; rfl, fun x hx => ?_, some (.int (m : Int)), z6, z7, z8, z9, z10, z11, z12, rfl, ih⟩
      rcases List.mem_append.mp hx with hx | hx
      · exact (hd x hx).mono (by omega)
      · rw [List.mem_singleton.mp hx]; exact g) ⟨[], rfl, (fun x hx => nomatch hx), none, none, none, none, none, none, none, none, rfl, i1⟩
  subst ed
  obtain ⟨P, eP, hP⟩ := prd_gen hd
  rw [dl] at eP hP
  have fz := frz_prds hd
  refine ⟨n, P, h2, ?_, by omega, fun t ht => (hP t ht).mono (by omega), i2⟩
  rw [← eP]
  unfold p31B at e2
  unfold F__law_products_31
  push_cast [e1, e2, fz]
theorem ht_num1 (k : Fg) (h : D) : F__law_num [.int k.p, .int 1] h = .ok (enc k 1) h := by
  rw [E_num, ic_1]
theorem E_resized31 (k : Fg) (r c B : Nat) (d : D) (h : D) (hh : HandI h) (hr : r ≤ 90) (hc : c ≤ 90) (hd : PrG k r c B d) (hB : B ≤ 1000) : ∃ (e h' : D), F__law_resized [.me, .int k.p, d] h = .ok e h' ∧ PrG k r c (B + 5) e ∧ HandI h' := by
  obtain ⟨P, rfl, hP⟩ := hd
  obtain ⟨x, h1, e1, x0, hx, i1⟩ := E_unlikeI k h hh
  obtain ⟨y, h2, e2, y0, hy, i2⟩ := E_unlikeI k h1 i1
  have hm := ht_mul k x y
  have e3 := fun h => E_times k x y h (by omega)
  have xy : x * y ≠ 0 := mul_ne x0 y0
  have e4 := fun h => E_over k P.a (x * y) h xy (by have := hP.a; omega)
  have e5 := fun h => E_over k P.b (x * y) h xy (by have := hP.b; omega)
  have t0 := fun h => E_lscaled k r x P.u h (by omega) (fun j hj => by have := hP.u j hj; omega)
  have t1 := fun h => E_lscaled k c y P.v h (by omega) (fun j hj => by have := hP.v j hj; omega)
  have j0 : oIx (P.d r c) (.int 0) = some (erow k r P.u) := rfl
  have j1 : oIx (P.d r c) (.int 1) = some (erow k c P.v) := rfl
  have j2 : oIx (P.d r c) (.int 2) = some (enc k P.a) := rfl
  have j3 : oIx (P.d r c) (.int 3) = some (enc k P.b) := rfl
  have f2 : ∀ a b : k.K, frzL [enc k a, enc k b] = [enc k a, enc k b] := fun a b => frzL_2 (enc_fr k a) (enc_fr k b)
  have oi := ht_inv k (x * y)
  refine ⟨(⟨fun j => x * P.u j, fun j => y * P.v j, P.a * Fd.inv (x * y), P.b * Fd.inv (x * y)⟩ : Pr4 k).d r c, h2, ?_, ⟨_, rfl, ⟨fun i hi => ?_, fun j hj => ?_, ?_, ?_⟩⟩, i2⟩
  · unfold F__law_resized
    push_cast [enc_vd, enc_vm, prd_vd, prd_vm, e1, e2, e3, e4, e5, t0, t1, j0, j1, j2, j3, f2]
    rfl
  · have := ht_mul k x (P.u i); have := hP.u i hi; show ht k (x * P.u i) ≤ _; omega
  · have := ht_mul k y (P.v j); have := hP.v j hj; show ht k (y * P.v j) ≤ _; omega
  · have := ht_mul k P.a (Fd.inv (x * y)); have := hP.a; show ht k (P.a * Fd.inv (x * y)) ≤ _; omega
  · have := ht_mul k P.b (Fd.inv (x * y)); have := hP.b; show ht k (P.b * Fd.inv (x * y)) ≤ _; omega
end Lw
set_option exponentiation.threshold 20000
namespace Lw
open PySem PySem.Spec L2 Fw Pd Dz
theorem sIns_ok {k : EF Pl} {fi f : EF D} {δ : DE} {h h1 h2 h3 : D} {p : Pl} {ds : List D} {i : Int} {y : D} (ek : k δ h = .ok p h1) (ep : plD δ p = some (.hl ds)) (e1 : fi δ h1 = .ok (.int i) h2) (e2 : f δ h2 = .ok y h3) (sz : ds.length ≤ 900) (i0 : 0 ≤ i) (i1 : i ≤ ds.length) : sIns k fi f δ h = .nx (plS δ p (.hl (ds.take i.toNat ++ [y] ++ ds.drop i.toNat))) h3 := by
  have sz : szOk ds.length = true := sz_ok (by omega)
  unfold sIns
  simp only [ek, fl_okE, ep, e1, e2, sz, decide_eq_true i0, decide_eq_true i1, Bool.and_self, if_true]
theorem ins_g {k : Fg} {r c B : Nat} {ds : List D} {y : D} (i : Nat) (hd : ∀ x ∈ ds, PrG k r c B x) (hy : PrG k r c B y) : ∀ x ∈ ds.take i ++ [y] ++ ds.drop i, PrG k r c B x := fun x hx => by
  rcases List.mem_append.mp hx with hx | hx
  · rcases List.mem_append.mp hx with hx | hx
    · exact hd x (List.mem_of_mem_take hx)
    · rw [List.mem_singleton.mp hx]; exact hy
  · exact hd x (List.mem_of_mem_drop hx)
theorem ins_l {ds : List D} {y : D} {i : Nat} (h : i ≤ ds.length) : (ds.take i ++ [y] ++ ds.drop i).length = ds.length + 1 := by
  rw [List.length_append, List.length_append, List.length_take, List.length_drop, List.length_singleton]
  omega
def o1B : SF := (sIns (pV 5) (eCall 2 F__law_take [] (eCons (eVm 0) (eCons (eOp oAdd (eLenP (pV 5)) (eC (.int 1))) eNil))) (eCall 3 F__law_resized [] (eCons (eVm 0) (eCons (eVm 1) (eCons (eVm 6) eNil)))))
def o2B : SF := (sSeq (sSet 8 (eFz (eOn oTimes (eTup (eCons (eCall 2 F__law_num [] (eCons (eVm 1) (eCons (eC (.int 0)) eNil))) eNil)) (eV 3))))
    (sSeq (sSet 9 (eTup (eCons (eV 8) (eCons (eCall 3 F__law_numbers_31 [] (eCons (eVm 0) (eCons (eVm 1) (eCons (eVm 4) eNil)))) (eCons (eCall 2 F__law_num [] (eCons (eVm 1) (eCons (eC (.int 1)) eNil))) (eCons (eCall 2 F__law_number [] (eCons (eVm 0) (eCons (eVm 1) eNil))) eNil))))))
    (sIns (pV 5) (eCall 2 F__law_take [] (eCons (eVm 0) (eCons (eOp oAdd (eLenP (pV 5)) (eC (.int 1))) eNil))) (eV 9))))
theorem o1_step (k : Fg) (r c B m : Nat) (hr : r ≤ 90) (hc : c ≤ 90) (hB : B ≤ 1000) (hm : m ≤ 100) (x2 x3 x4 : Option D) (ds : List D) (hl : ds.length = m) (hd : ∀ x ∈ ds, PrG k r c (B + 5) x) (y : D) (hy : PrG k r c B y) (t : List (Option D)) (h : D) (hh : HandI h) :
    ∃ ds' h2, o1B ([some .me, some (.int k.p), x2, x3, x4, some (.hl ds), some y] ++ t) h = .nx ([some .me, some (.int k.p), x2, x3, x4, some (.hl ds'), some y] ++ t) h2 ∧ ds'.length = m + 1 ∧ (∀ x ∈ ds', PrG k r c (B + 5) x) ∧ HandI h2 := by
  obtain ⟨i, h1, e1, i0, i1, ih1⟩ := E_take ((ds.length : Int) + 1) h hh (by omega) (by omega)
  obtain ⟨z, h2, e2, hz, ih2⟩ := E_resized31 k r c B y h1 ih1 hr hc hy hB
  have fy := hy.fr
  have vy : ∀ h, vmD (some (some y)) h = .ok y h := fun h => vmD_fr fy
  refine ⟨_, h2, ?_, (ins_l (y := z) (i := i.toNat) (by omega)).trans (by omega), ins_g _ hd hz, ih2⟩
  refine (sIns_ok (p := (5, [])) (h1 := h) (h2 := h1) (i := i) (y := z) (ds := ds) ?_ rfl ?_ ?_ (by omega) i0 (by omega)).trans rfl
  · push_cast []
  · push_cast [e1]
  · push_cast [vy, e2]
theorem o2_step (k : Fg) (r c B m : Nat) (hr : r ≤ 90) (hc : c ≤ 90) (hB : 2 ≤ B) (hm : m ≤ 100) (x2 : Option D) (ds : List D) (hl : ds.length = m) (hd : ∀ x ∈ ds, PrG k r c B x) (x6 x7 x8 x9 : Option D) (t : List (Option D)) (h : D) (hh : HandI h) :
    ∃ ds' h2 y8 y9, o2B ([some .me, some (.int k.p), x2, some (.int (r : Int)), some (.int (c : Int)), some (.hl ds), x6, x7, x8, x9] ++ t) h = .nx ([some .me, some (.int k.p), x2, some (.int (r : Int)), some (.int (c : Int)), some (.hl ds'), x6, x7, y8, y9] ++ t) h2 ∧ ds'.length = m + 1 ∧ (∀ x ∈ ds', PrG k r c B x) ∧ HandI h2 := by
  have ez := fun h => E_numz k h
  have e1 := fun h => ht_num1 k h
  have tr := times_n k r (by omega)
  obtain ⟨v, h1, e2, hv, i1⟩ := E_nums31 k c h hh (by omega)
  obtain ⟨b, h2, e3, hb, i2⟩ := E_number k h1 i1
  obtain ⟨i, h3, e4, i0, i1, ih3⟩ := E_take ((ds.length : Int) + 1) h2 i2 (by omega) (by omega)
  have z1 : ht k (0 : k.K) ≤ 2 := Nat.le_trans (ht_zero k) (by omega)
  have o1 : ht k (1 : k.K) ≤ 2 := Nat.le_trans (ht_one k) (by omega)
  have hy : PrG k r c B ((⟨fun _ => 0, v, 1, b⟩ : Pr4 k).d r c) := ⟨_, rfl, (⟨fun i _ => z1, hv, o1, hb⟩ : SmP r c (⟨fun _ => 0, v, 1, b⟩ : Pr4 k) 2).mono hB⟩
  refine ⟨_, h3, some (erow k r fun _ => 0), some ((⟨fun _ => 0, v, 1, b⟩ : Pr4 k).d r c), ?_, (ins_l (y := (⟨fun _ => 0, v, 1, b⟩ : Pr4 k).d r c) (i := i.toNat) (by omega)).trans (by omega), ins_g _ hd hy, ih3⟩
  have st := fun (δ : DE) (hδ : δ = [some .me, some (.int k.p), x2, some (.int (r : Int)), some (.int (c : Int)), some (.hl ds), x6, x7, some (erow k r fun _ => 0), some ((⟨fun _ => 0, v, 1, b⟩ : Pr4 k).d r c)] ++ t) => sIns_ok (k := pV 5) (fi := eCall 2 F__law_take [] (eCons (eVm 0) (eCons (eOp oAdd (eLenP (pV 5)) (eC (.int 1))) eNil))) (f := eV 9) (δ := δ) (h := h2) (p := (5, [])) (h1 := h2) (h2 := h3) (h3 := h3) (i := i) (y := (⟨fun _ => 0, v, 1, b⟩ : Pr4 k).d r c) (ds := ds) (by subst hδ; push_cast []) (by subst hδ; rfl) (by subst hδ; push_cast [e4]) (by subst hδ; push_cast [prd_vd]) (by omega) i0 (by omega)
  have st := st _ rfl
  unfold o2B
  unfold Pr4.d at st ⊢
  push_cast [enc_vd, enc_vm, erow_vd, erow_vm, ez, e1, tr, sfz_m, e2, e3]
  exact st
theorem sPop_ok {bind : D → DE → Option DE} {k : EF Pl} {fi : EF D} {δ δ2 : DE} {h h1 h2 : D} {p : Pl} {ds : List D} {i : Int} {j : Nat} {y : D} (ek : k δ h = .ok p h1) (ep : plD δ p = some (.hl ds)) (e1 : fi δ h1 = .ok (.int i) h2) (ei : ixN ds.length i = some j) (ej : ds[j]? = some y) (fy : y.fr = true) (sz : ds.length ≤ 900) (eb : bind y (plS δ p (.hl (ds.eraseIdx j))) = some δ2) : sPop bind k fi δ h = .nx δ2 h2 := by
  have sz : szOk ds.length = true := sz_ok (by omega)
  unfold sPop
  simp only [ek, fl_okE, ep, e1, ei, ej, sz, fy, Bool.and_self, if_true, eb]
def o3I : SF := (sIf (eT (eOp oEq (eV 10) (eC (.int 0)))) (sIns (pV 5) (eV 11) (eTup (eCons (eV 12) (eCons (eV 13) (eCons (eV 14) (eCons (eCall 3 F__law_plus [] (eCons (eVm 1) (eCons (eVm 15) (eCons (eCall 2 F__law_num [] (eCons (eVm 1) (eCons (eC (.int 1)) eNil))) eNil)))) eNil)))))) sNil)
def o3B : SF := (sIf (eAnd (eTruP (pV 5)) (eT (eOp oLt (eV 10) (eC (.int 2))))) (sSeq (sSet 11 (eCall 2 F__law_take [] (eCons (eVm 0) (eCons (eLenP (pV 5)) eNil))))
    (sSeq (sPop (bTp [(bNm 12), (bNm 13), (bNm 14), (bNm 15)]) (pV 5) (eV 11)) o3I)) sNil)
theorem o3_step (k : Fg) (r c B m : Nat) (hr : r ≤ 90) (hc : c ≤ 90) (hB : B ≤ 1000) (hm : m ≤ 100) (q : Int) (x2 x3 x4 : Option D) (ds : List D) (hl : ds.length = m) (hd : ∀ x ∈ ds, PrG k r c B x) (x6 x7 x8 x9 x11 x12 x13 x14 x15 : Option D) (h : D) (hh : HandI h) :
    ∃ ds' h2 y11 y12 y13 y14 y15, o3B [some .me, some (.int k.p), x2, x3, x4, some (.hl ds), x6, x7, x8, x9, some (.int q), x11, x12, x13, x14, x15] h = .nx [some .me, some (.int k.p), x2, x3, x4, some (.hl ds'), x6, x7, x8, x9, some (.int q), y11, y12, y13, y14, y15] h2 ∧ ds'.length ≤ m ∧ (∀ x ∈ ds', PrG k r c (B + 3) x) ∧ HandI h2 := by
  have hd3 : ∀ x ∈ ds, PrG k r c (B + 3) x := fun x hx => (hd x hx).mono (by omega)
  by_cases c1 : 1 ≤ ds.length ∧ q < 2
  · obtain ⟨c0, c2⟩ := c1
    have ne : (!ds.isEmpty) = true := by
      cases ds with
      | nil => simp at c0
      | cons a b => rfl
    obtain ⟨i, h1, e1, i0, i1, ih1⟩ := E_take (ds.length : Int) h hh (by omega) (by omega)
    obtain ⟨a, rfl⟩ : ∃ a : Nat, i = a := ⟨i.toNat, by omega⟩
    have ha : a < ds.length := by omega
    obtain ⟨l, el⟩ : ∃ l, ds[a]? = some l := ⟨_, List.getElem?_eq_getElem ha⟩
    obtain ⟨P, eP, hP⟩ := hd l (List.mem_of_getElem? el)
    have le : (ds.eraseIdx a).length = ds.length - 1 := List.length_eraseIdx_of_lt ha
    have he : ∀ x ∈ ds.eraseIdx a, PrG k r c (B + 3) x := fun x hx => hd3 x (List.mem_of_mem_eraseIdx hx)
    have ix : ixN ds.length (a : Int) = some a := (ixN_ok (by omega) (by omega)).trans (by rw [Int.toNat_natCast])
    have st := sPop_ok (bind := bTp [(bNm 12), (bNm 13), (bNm 14), (bNm 15)]) (k := pV 5) (fi := eV 11) (δ := [some .me, some (.int k.p), x2, x3, x4, some (.hl ds), x6, x7, x8, x9, some (.int q), some (.int (a : Int)), x12, x13, x14, x15]) (h := h1) (h1 := h1) (h2 := h1) (p := (5, [])) (ds := ds) (i := (a : Int)) (j := a) (y := l)
      (δ2 := [some .me, some (.int k.p), x2, x3, x4, some (.hl (ds.eraseIdx a)), x6, x7, x8, x9, some (.int q), some (.int (a : Int)), some (erow k r P.u), some (erow k c P.v), some (enc k P.a), some (enc k P.b)]) (by push_cast []) rfl (by push_cast []) ix el (by rw [eP]; rfl) (by omega) (by rw [eP]; rfl)
    by_cases d0 : q = 0
    · subst d0
      have ep := fun h => E_plus k P.b 1 h (by have := hP.b; have := ht_one k; omega)
      have en := fun h => ht_num1 k h
      have hy : PrG k r c (B + 3) ((⟨P.u, P.v, P.a, P.b + 1⟩ : Pr4 k).d r c) := by
        have hP' := hP.mono (show B ≤ B + 3 by omega)
        refine ⟨_, rfl, ⟨hP'.u, hP'.v, hP'.a, ?_⟩⟩
        have := ht_add k P.b 1
        have := ht_one k
        have := hP.b
        show ht k (P.b + 1) ≤ _
        omega
      have si := sIns_ok (k := pV 5) (fi := eV 11) (f := eTup (eCons (eV 12) (eCons (eV 13) (eCons (eV 14) (eCons (eCall 3 F__law_plus [] (eCons (eVm 1) (eCons (eVm 15) (eCons (eCall 2 F__law_num [] (eCons (eVm 1) (eCons (eC (.int 1)) eNil))) eNil)))) eNil))))) (δ := [some .me, some (.int k.p), x2, x3, x4, some (.hl (ds.eraseIdx a)), x6, x7, x8, x9, some (.int 0), some (.int (a : Int)), some (erow k r P.u), some (erow k c P.v), some (enc k P.a), some (enc k P.b)]) (h := h1) (h1 := h1) (h2 := h1) (h3 := h1) (p := (5, [])) (ds := ds.eraseIdx a) (i := (a : Int)) (y := (⟨P.u, P.v, P.a, P.b + 1⟩ : Pr4 k).d r c) (by push_cast []) rfl (by push_cast []) (by
        unfold Pr4.d
        push_cast [enc_vd, enc_vm, erow_vd, en, ep]) (by omega) (by omega) (by omega)
      refine ⟨_, h1, some (.int (a : Int)), some (erow k r P.u), some (erow k c P.v), some (enc k P.a), some (enc k P.b), ?_, Nat.le_of_eq ((ins_l (y := (⟨P.u, P.v, P.a, P.b + 1⟩ : Pr4 k).d r c) (i := (a : Int).toNat) (by omega)).trans (by omega)), ins_g _ he hy, ih1⟩
      unfold o3B o3I
      push_cast [eTruP_a, ne, e1, st]
      exact si
    · refine ⟨_, h1, some (.int (a : Int)), some (erow k r P.u), some (erow k c P.v), some (enc k P.a), some (enc k P.b), ?_, by rw [le]; omega, he, ih1⟩
      unfold o3B o3I
      push_cast [eTruP_a, ne, c2, e1, st, d0]
  · refine ⟨ds, h, x11, x12, x13, x14, x15, ?_, by omega, hd3, hh⟩
    unfold o3B
    by_cases c2 : 1 ≤ ds.length
    · have q3 : ¬ q < 2 := fun z => c1 ⟨c2, z⟩
      have ne : (!ds.isEmpty) = true := by
        cases ds with
        | nil => simp at c2
        | cons a b => rfl
      push_cast [eTruP_a, ne, q3]
    · obtain rfl : ds = [] := by
        cases ds with
        | nil => rfl
        | cons a b => exact absurd (show 1 ≤ b.length + 1 by omega) c2
      push_cast [eTruP_a, List.isEmpty_nil]
theorem E_others31 (k : Fg) (r c n B : Nat) (P : Nat → Pr4 k) (h : D) (hh : HandI h) (hr : r ≤ 90) (hc : c ≤ 90) (hn : n ≤ 5) (hP : ∀ t, t < n → SmP r c (P t) B) (hB : B ≤ 900) : ∃ (m : Nat) (Q : Nat → Pr4 k) (h' : D), F__law_others [.me, .int k.p, .lst (gen n fun i => (P i).d r c), .int (r : Int), .int (c : Int)] h = .ok (.lst (gen m fun i => (Q i).d r c)) h' ∧ m ≤ 7 ∧ (∀ t, t < m → SmP r c (Q t) (B + 8)) ∧ HandI h' := by
  obtain ⟨L, eL⟩ : ∃ L, L = D.lst (gen n fun i => (P i).d r c) := ⟨_, rfl⟩
  have iL : itS L = some (gen n fun i => (P i).d r c) := by rw [eL]; rfl
  have vL : ∀ h, vD (some (some L)) h = .ok L h := fun h => by rw [eL]; rfl
  rw [← eL]
  obtain ⟨δ1, h1, e1, ds1, dl1, hd1, y6, ed1, i1⟩ := for_draw (bind := bNm 6) (body := o1B) (d := fun i => (P i).d r c) (n := n) (h := h) (δ := [some .me, some (.int k.p), some L, some (.int (r : Int)), some (.int (c : Int)), some (.hl []), none, none, none, none, none, none, none, none, none, none])
    (fun m δ h' => ∃ ds : List D, ds.length = m ∧ (∀ x ∈ ds, PrG k r c (B + 5) x) ∧ ∃ y6, δ = [some .me, some (.int k.p), some L, some (.int (r : Int)), some (.int (c : Int)), some (.hl ds), y6, none, none, none, none, none, none, none, none, none] ∧ HandI h') (fun m hm δ h' ⟨ds, dl, hd, y6, ed, ih⟩ => by
      subst ed
      obtain ⟨ds', h2, e, l, g, ih⟩ := o1_step k r c B m hr hc (by omega) (by omega) (some L) (some (.int (r : Int))) (some (.int (c : Int))) ds dl hd ((P m).d r c) ⟨_, rfl, hP m hm⟩ [none, none, none, none, none, none, none, none, none] h' ih
      exact ⟨_, rfl, _, h2, e, ds', l, g, _, rfl, ih⟩) ⟨[], rfl, (fun x hx => nomatch hx), none, rfl, hh⟩
  subst ed1
  obtain ⟨s, h2, e2, s0, s1, i2⟩ := E_take 3 h1 i1 (by decide) (by decide)
  obtain ⟨s, rfl⟩ : ∃ t : Nat, s = t := ⟨s.toNat, by omega⟩
  obtain ⟨δ3, h3, e3, ds3, dl3, hd3, y7, y8, y9, ed3, i3⟩ := for_draw (bind := bNm 7) (body := o2B) (d := fun a => .int (a : Int)) (n := s) (h := h2) (δ := [some .me, some (.int k.p), some L, some (.int (r : Int)), some (.int (c : Int)), some (.hl ds1), y6, none, none, none, none, none, none, none, none, none])
    (fun m δ h' => ∃ ds : List D, ds.length = n + m ∧ (∀ x ∈ ds, PrG k r c (B + 5) x) ∧ ∃ y7 y8 y9, δ = [some .me, some (.int k.p), some L, some (.int (r : Int)), some (.int (c : Int)), some (.hl ds), y6, y7, y8, y9, none, none, none, none, none, none] ∧ HandI h') (fun m hm δ h' ⟨ds, dl, hd, y7, y8, y9, ed, ih⟩ => by
      subst ed
      obtain ⟨ds', h2, z8, z9, e, l, g, ih⟩ := o2_step k r c (B + 5) (n + m) hr hc (by omega) (by omega) (some L) ds dl hd y6 (some (.int (m : Int))) y8 y9 [none, none, none, none, none, none] h' ih
      exact ⟨_, rfl, _, h2, e, ds', l, g, _, _, _, rfl, ih⟩) ⟨ds1, dl1, hd1, none, none, none, rfl, i2⟩
  subst ed3
  obtain ⟨q, h4, e4, q0, q1, i4⟩ := E_take 6 h3 i3 (by decide) (by decide)
  obtain ⟨ds5, h5, y11, y12, y13, y14, y15, e5, dl5, hd5, i5⟩ := o3_step k r c (B + 5) (n + s) hr hc (by omega) (by omega) q (some L) (some (.int (r : Int))) (some (.int (c : Int))) ds3 dl3 hd3 y6 y7 y8 y9 none none none none none h4 i4
  obtain ⟨Q, eQ, hQ⟩ := prd_gen hd5
  have fz := frz_prds hd5
  refine ⟨ds5.length, Q, h5, ?_, by omega, hQ, i5⟩
  rw [← eQ]
  have un : F__law_others = runF 16 (sSeq (sSet 5 (eLst eNil)) (sSeq (sFor (iSeq (eV 2)) (bNm 6) o1B) (sSeq (sFor (iRg rg1 (eCons (eCall 2 F__law_take [] (eCons (eVm 0) (eCons (eC (.int 3)) eNil))) eNil)) (bNm 7) o2B) (sSeq (sSet 10 (eCall 2 F__law_take [] (eCons (eVm 0) (eCons (eC (.int 6)) eNil)))) (sSeq o3B (sFrz 5 (sRet (eV 5)))))))) := rfl
  rw [un]
  push_cast [vL, iL, e1, e2, e3, e4, e5, fz]
end Lw
set_option exponentiation.threshold 20000
namespace Lw
open PySem PySem.Spec L2 Fw Pd Dz
abbrev T31 := Nat × Nat × Sd
def fD31 : Option T31 → D
  | some z => .lst [.int (z.1 : Int), .int (z.2.1 : Int), .str (sdS z.2.2)]
  | none => .non
def orE (o z : Option T31) : Option T31 := match o with
  | some y => some y
  | none => z
theorem orE_a (a b c : Option T31) : orE (orE a b) c = orE a (orE b c) := by cases a <;> rfl
theorem orE_n (a : Option T31) : orE a none = a := by cases a <;> rfl
def sd1 {k : Fg} (r c : Nat) (P : Nat → Pr4 k) (i j : Nat) (w : Sd) : Option T31 := if (shr r c w (P i) (P j)).isSome then some (i, j, w) else none
theorem firstJ_c {k : Fg} {r c : Nat} {P : Nat → Pr4 k} {i j : Nat} {js : List Nat} : firstJ r c P i (j :: js) = orE (orE (orE (sd1 r c P i j .l) (sd1 r c P i j .r)) (sd1 r c P i j .n)) (firstJ r c P i js) := by
  conv => lhs; unfold firstJ
  unfold fwS sd1
  cases (shr r c .l (P i) (P j)).isSome <;> cases (shr r c .r (P i) (P j)).isSome <;> cases (shr r c .n (P i) (P j)).isSome <;> rfl
theorem findP_c {k : Fg} {r c : Nat} {P : Nat → Pr4 k} {i : Nat} {js : List Nat} : findP r c P (i :: js) = orE (firstJ r c P i js) (findP r c P js) := by
  conv => lhs; unfold findP
  cases firstJ r c P i js <;> rfl
def acB : SF := (sSeq (sIf (eAnd (eT (eOp oIsN (eV 4) (eC .non))) (eT (eOp oNotN (eCall 4 F__law_shares [] (eCons (eVm 1) (eCons (eOp oIx (eAtV 2 "products") (eV 6)) (eCons (eOp oIx (eAtV 2 "products") (eV 7)) (eCons (eVm 8) eNil))))) (eC .non)))) (sSet 4 (eFz (eLst (eCons (eV 6) (eCons (eV 7) (eCons (eV 8) eNil)))))) sNil)
    (sSeq (sSet 9 (eIf (eT (eOp oEq (eV 3) (eC (.int 0)))) (eTup (eCons (eV 6) (eCons (eV 7) eNil))) (eTup (eCons (eV 7) (eCons (eV 6) eNil)))))
    (sIf (eNot (eTru (eCall 5 F__law_couple_holds [] (eCons (eVm 1) (eCons (eVm 2) (eCons (eOp oIx (eV 9) (eC (.int 0))) (eCons (eOp oIx (eV 9) (eC (.int 1))) (eCons (eVm 8) eNil)))))))) (sRet (eC (.bl false))) sNil)))
structure Cp (k : Fg) (r c n : Nat) (P : Nat → Pr4 k) (x : D) : Prop where
  vm : ∀ h, vmD (some (some x)) h = .ok x h
  ps : ∀ h, atvD (some (some x)) "products" h = .ok (.tup (gen n fun i => (P i).d r c)) h
  sh : ∀ i j w h, i < n → j < n → F__law_shares [.int k.p, (P i).d r c, (P j).d r c, .str (sdS w)] h = .ok (szD k (shr r c w (P i) (P j))) h
  ch : ∀ i j w h, i < n → j < n → i ≠ j → F__law_couple_holds [.int k.p, x, .int (i : Int), .int (j : Int), .str (sdS w)] h = .ok (.bl true) h
theorem ac_step {k : Fg} {r c n : Nat} {P : Nat → Pr4 k} {x : D} (C : Cp k r c n P x) (q : Int) (o : Option T31) (i j : Nat) (w : Sd) (hi : i < n) (hj : j < n) (ij : i ≠ j) (x5 y9 y10 : Option D) (h : D) :
    ∃ z9, acB [some .me, some (.int k.p), some x, some (.int q), some (fD31 o), x5, some (.int (i : Int)), some (.int (j : Int)), some (.str (sdS w)), y9, y10] h = .nx [some .me, some (.int k.p), some x, some (.int q), some (fD31 (orE o (sd1 r c P i j w))), x5, some (.int (i : Int)), some (.int (j : Int)), some (.str (sdS w)), z9, y10] h := by
  have xm := C.vm
  have xp := C.ps
  have pi := ix_gen (f := fun t => (P t).d r c) hi
  have pj := ix_gen (f := fun t => (P t).d r c) hj
  have e1 := C.sh i j w h hi hj
  have e2 := C.ch i j w h hi hj ij
  have e3 := C.ch j i w h hj hi (Ne.symm ij)
  have fin : ∀ o2, ∃ z9, (sSeq (sSet 9 (eIf (eT (eOp oEq (eV 3) (eC (.int 0)))) (eTup (eCons (eV 6) (eCons (eV 7) eNil))) (eTup (eCons (eV 7) (eCons (eV 6) eNil)))))
    (sIf (eNot (eTru (eCall 5 F__law_couple_holds [] (eCons (eVm 1) (eCons (eVm 2) (eCons (eOp oIx (eV 9) (eC (.int 0))) (eCons (eOp oIx (eV 9) (eC (.int 1))) (eCons (eVm 8) eNil)))))))) (sRet (eC (.bl false))) sNil)) [some .me, some (.int k.p), some x, some (.int q), some (fD31 o2), x5, some (.int (i : Int)), some (.int (j : Int)), some (.str (sdS w)), y9, y10] h = .nx [some .me, some (.int k.p), some x, some (.int q), some (fD31 o2), x5, some (.int (i : Int)), some (.int (j : Int)), some (.str (sdS w)), z9, y10] h := fun o2 => by
    by_cases q0 : q = 0
    · subst q0
      refine ⟨some (.tup [.int (i : Int), .int (j : Int)]), ?_⟩
      push_cast [xm, e2]
    · refine ⟨some (.tup [.int (j : Int), .int (i : Int)]), ?_⟩
      push_cast [xm, e3, q0]
  cases o with
  | some z =>
    obtain ⟨z9, e⟩ := fin (some z)
    refine ⟨z9, ?_⟩
    show acB [some .me, some (.int k.p), some x, some (.int q), some (.lst [.int (z.1 : Int), .int (z.2.1 : Int), .str (sdS z.2.2)]), x5, some (.int (i : Int)), some (.int (j : Int)), some (.str (sdS w)), y9, y10] h = _
    refine Eq.trans ?_ e
    unfold acB fD31
    push_cast []
  | none =>
    cases s : shr r c w (P i) (P j) with
    | none =>
      have e4 : sd1 r c P i j w = none := by unfold sd1; rw [s]; rfl
      rw [s] at e1
      have e1 : F__law_shares [.int k.p, (P i).d r c, (P j).d r c, .str (sdS w)] h = .ok .non h := e1
      obtain ⟨z9, e⟩ := fin none
      refine ⟨z9, ?_⟩
      rw [e4]
      refine Eq.trans ?_ e
      unfold acB fD31
      push_cast [xm, xp, pi, pj, e1]
    | some t =>
      have e4 : sd1 r c P i j w = some (i, j, w) := by unfold sd1; rw [s]; rfl
      rw [s] at e1
      have e1 : F__law_shares [.int k.p, (P i).d r c, (P j).d r c, .str (sdS w)] h = .ok (enc k t) h := e1
      obtain ⟨z9, e⟩ := fin (some (i, j, w))
      refine ⟨z9, ?_⟩
      rw [e4]
      refine Eq.trans ?_ e
      have fz : frzL [D.int (i : Int), .int (j : Int), .str (sdS w)] = [D.int (i : Int), .int (j : Int), .str (sdS w)] := rfl
      unfold acB fD31
      push_cast [xm, xp, pi, pj, e1, notN_encM, fz]
def acJ : SF := sFor (iSeq (eTup (eCons (eC (.str "left")) (eCons (eC (.str "right")) (eCons (eC (.str "numbers")) eNil))))) (bNm 8) acB
theorem ac_j {k : Fg} {r c n : Nat} {P : Nat → Pr4 k} {x : D} (C : Cp k r c n P x) (q : Int) (o : Option T31) (i j : Nat) (hi : i < n) (hj : j < n) (ij : i ≠ j) (x5 y8 y9 y10 : Option D) (h : D) :
    ∃ z8 z9, acJ [some .me, some (.int k.p), some x, some (.int q), some (fD31 o), x5, some (.int (i : Int)), some (.int (j : Int)), y8, y9, y10] h = .nx [some .me, some (.int k.p), some x, some (.int q), some (fD31 (orE o (orE (orE (sd1 r c P i j .l) (sd1 r c P i j .r)) (sd1 r c P i j .n)))), x5, some (.int (i : Int)), some (.int (j : Int)), z8, z9, y10] h := by
  obtain ⟨a9, e1⟩ := ac_step C q o i j .l hi hj ij x5 y9 y10 h
  obtain ⟨b9, e2⟩ := ac_step C q (orE o (sd1 r c P i j .l)) i j .r hi hj ij x5 a9 y10 h
  obtain ⟨c9, e3⟩ := ac_step C q (orE (orE o (sd1 r c P i j .l)) (sd1 r c P i j .r)) i j .n hi hj ij x5 b9 y10 h
  have f : forGo (bNm 8) acB [.str (sdS .l), .str (sdS .r), .str (sdS .n)] [some .me, some (.int k.p), some x, some (.int q), some (fD31 o), x5, some (.int (i : Int)), some (.int (j : Int)), y8, y9, y10] h = .nx [some .me, some (.int k.p), some x, some (.int q), some (fD31 (orE (orE (orE o (sd1 r c P i j .l)) (sd1 r c P i j .r)) (sd1 r c P i j .n))), x5, some (.int (i : Int)), some (.int (j : Int)), some (.str (sdS .n)), c9, y10] h := forGo_n rfl e1 (forGo_n rfl e2 (forGo_n rfl e3 rfl))
  refine ⟨some (.str (sdS .n)), c9, ?_⟩
  rw [← orE_a, ← orE_a]
  have f : forGo (bNm 8) acB [.str "left", .str "right", .str "numbers"] [some .me, some (.int k.p), some x, some (.int q), some (fD31 o), x5, some (.int (i : Int)), some (.int (j : Int)), y8, y9, y10] h = _ := f
  unfold acJ
  push_cast [f]
def acI : SF := sFor (iRg rg2 (eCons (eOp oAdd (eV 6) (eC (.int 1))) (eCons (eV 5) eNil))) (bNm 7) acJ
theorem ac_i {k : Fg} {r c n : Nat} {P : Nat → Pr4 k} {x : D} (C : Cp k r c n P x) (q : Int) (o : Option T31) (i m : Nat) (hi : i < n) (em : i + 1 + m = n) (hn : n ≤ 900) (y7 y8 y9 y10 : Option D) (h : D) :
    ∃ z7 z8 z9, acI [some .me, some (.int k.p), some x, some (.int q), some (fD31 o), some (.int (n : Int)), some (.int (i : Int)), y7, y8, y9, y10] h = .nx [some .me, some (.int k.p), some x, some (.int q), some (fD31 (orE o (firstJ r c P i (List.range' (i + 1) m)))), some (.int (n : Int)), some (.int (i : Int)), z7, z8, z9, y10] h := by
  obtain ⟨δ', h', e, eh, o2, ⟨eo, z7, z8, z9, ed⟩⟩ := for_draw (bind := bNm 7) (body := acJ) (d := fun t => .int ((i + 1 + t : Nat) : Int)) (n := m) (h := h) (δ := [some .me, some (.int k.p), some x, some (.int q), some (fD31 o), some (.int (n : Int)), some (.int (i : Int)), y7, y8, y9, y10])
    (fun t δ h' => h' = h ∧ ∃ o2, orE o2 (firstJ r c P i (List.range' (i + 1 + t) (m - t))) = orE o (firstJ r c P i (List.range' (i + 1) m)) ∧ ∃ z7 z8 z9, δ = [some .me, some (.int k.p), some x, some (.int q), some (fD31 o2), some (.int (n : Int)), some (.int (i : Int)), z7, z8, z9, y10]) (fun t ht δ h' ⟨eh, o2, eo, z7, z8, z9, ed⟩ => by
      subst ed eh
      obtain ⟨w8, w9, e⟩ := ac_j C q o2 i (i + 1 + t) hi (by omega) (by omega) (some (.int (n : Int))) z8 z9 y10 h'
      refine ⟨_, rfl, _, h', e, rfl, _, ?_, some (.int ((i + 1 + t : Nat) : Int)), w8, w9, rfl⟩
      rw [← eo, show m - t = (m - (t + 1)) + 1 by omega, List.range'_succ, firstJ_c, orE_a]
      rfl) ⟨rfl, o, rfl, y7, y8, y9, rfl⟩
  subst ed eh
  rw [Nat.sub_self, List.range'_zero] at eo
  have eo : orE o2 none = _ := eo
  rw [orE_n] at eo
  rw [eo] at e
  refine ⟨z7, z8, z9, ?_⟩
  have ca : ((i : Int) + 1) = ((i + 1 : Nat) : Int) := by omega
  have rg := rg2_ok (i := ((i + 1 : Nat) : Int)) (j := (n : Int)) (by omega) (by omega) (by omega) (by omega)
  have tn : ((n : Int) - ((i + 1 : Nat) : Int)).toNat = m := by omega
  rw [tn] at rg
  have rg : rg2 [.int ((i + 1 : Nat) : Int), .int (n : Int)] = some (gen m fun t => .int ((i + 1 + t : Nat) : Int)) := by
    rw [rg]
    congr 1
  unfold acI
  push_cast [ca, rg, e]
theorem E_couples31 (k : Fg) (r c n : Nat) (P : Nat → Pr4 k) (B : Nat) (h : D) (hh : HandI h) (hr : sideP k r) (hc : sideP k c) (hn : n ≤ 5) (hP : ∀ t, t < n → SmP r c (P t) B) (B1 : 1 ≤ B) (hB : B ≤ 60) : ∃ h', F__law_all_couples [.me, .int k.p, prgD k r c n P] h = .ok (.bl true) h' ∧ HandI h' := by
  have hr5 := hr.2.1
  have hc5 := hc.2.1
  obtain ⟨q, h1, e1, q0, q1, i1⟩ := E_take 2 h hh (by decide) (by decide)
  have et := E_sharedside k r c n P h1 B (by omega) (by omega) (by omega) hP (by omega)
  have C : Cp k r c n P (prgD k r c n P) := ⟨fun h => rfl, fun h => rfl, fun i j w h hi hj => E_shares k r c (P i) (P j) w h B (by omega) (by omega) (hP i hi) (hP j hj) B1 (by omega), fun i j w h hi hj ij => E_couple31 k r c n P i j w h B hr hc hn hP B1 hB hi hj ij⟩
  obtain ⟨x, ex⟩ : ∃ x, x = prgD k r c n P := ⟨_, rfl⟩
  rw [← ex] at C et ⊢
  clear ex
  have xm := C.vm
  have xp := C.ps
  obtain ⟨δ', h', e, eh, o2, ⟨eo, z6, z7, z8, z9, ed⟩⟩ := for_draw (bind := bNm 6) (body := acI) (d := fun t => .int (t : Int)) (n := n) (h := h1) (δ := [some .me, some (.int k.p), some x, some (.int q), some (fD31 none), some (.int (n : Int)), none, none, none, none, none])
    (fun t δ h' => h' = h1 ∧ ∃ o2, orE o2 (findP r c P (List.range' t (n - t))) = findP r c P (List.range' 0 n) ∧ ∃ z6 z7 z8 z9, δ = [some .me, some (.int k.p), some x, some (.int q), some (fD31 o2), some (.int (n : Int)), z6, z7, z8, z9, none]) (fun t ht δ h' ⟨eh, o2, eo, z6, z7, z8, z9, ed⟩ => by
      subst ed eh
      obtain ⟨w7, w8, w9, e⟩ := ac_i C q o2 t (n - (t + 1)) ht (by omega) (by omega) z7 z8 z9 none h'
      refine ⟨_, rfl, _, h', e, rfl, _, ?_, some (.int (t : Int)), w7, w8, w9, rfl⟩
      rw [← eo, show n - t = (n - (t + 1)) + 1 by omega, List.range'_succ, findP_c, orE_a]) ⟨rfl, none, rfl, none, none, none, none, rfl⟩
  subst ed eh
  rw [Nat.sub_self, List.range'_zero] at eo
  have eo : orE o2 none = _ := eo
  rw [orE_n, ← List.range_eq_range', ← findP_fil] at eo
  have eo : o2 = findP r c P (dpl r c n P) := eo
  rw [← eo] at et
  refine ⟨h', ?_, i1⟩
  have un : F__law_all_couples = runF 11 (sSeq (sSet 3 (eCall 2 F__law_take [] (eCons (eVm 0) (eCons (eC (.int 2)) eNil))))
    (sSeq (sSet 4 (eC .non))
    (sSeq (sSet 5 (eBi kLen (eCons (eAtV 2 "products") eNil)))
    (sSeq (sFor (iRg rg1 (eCons (eV 5) eNil)) (bNm 6) acI)
    (sSeq (sSet 10 (eCall 1 F_shared_side [] (eCons (eVm 2) eNil)))
    (sSeq (sIf (eT (eOp oIsN (eV 4) (eC .non))) (sRet (eOp oIsN (eV 10) (eC .non))) sNil)
    (sRet (eB (eAnd (eT (eIsC (msOf [("Pair", false), ("Program", false), ("Match", false), ("Shared", true), ("Figures", false)]) false (eV 10))) (eT (eCall 2 (F__law_exact_31 6) [] (eCons (eTup (eCons (eAtV 10 "first") (eCons (eAtV 10 "second") (eCons (eAtV 10 "side") eNil)))) (eCons (eVm 4) eNil))))))))))))) := rfl
  rw [un]
  cases o2 with
  | none =>
    have et : F_shared_side [x] h' = .ok .non h' := et
    have e : forGo (bNm 6) acI (gen n fun t => .int (t : Int)) [some .me, some (.int k.p), some x, some (.int q), some .non, some (.int (n : Int)), none, none, none, none, none] h' = .nx [some .me, some (.int k.p), some x, some (.int q), some .non, some (.int (n : Int)), z6, z7, z8, z9, none] h' := e
    push_cast [xm, xp, e1, e, et]
  | some z =>
    have et : F_shared_side [x] h' = .ok (shD z) h' := et
    have e : forGo (bNm 6) acI (gen n fun t => .int (t : Int)) [some .me, some (.int k.p), some x, some (.int q), some .non, some (.int (n : Int)), none, none, none, none, none] h' = .nx [some .me, some (.int k.p), some x, some (.int q), some (.lst [.int (z.1 : Int), .int (z.2.1 : Int), .str (sdS z.2.2)]), some (.int (n : Int)), z6, z7, z8, z9, none] h' := e
    have ei : ∀ (δ0 : List (Option D)) h, eIsC (msOf [("Pair", false), ("Program", false), ("Match", false), ("Shared", true), ("Figures", false)]) false (eV 10) [some .me, some (.int k.p), some x, some (.int q), some (.lst [.int (z.1 : Int), .int (z.2.1 : Int), .str (sdS z.2.2)]), some (.int (n : Int)), z6, z7, z8, z9, some (shD z)] h = .ok (.bl true) h := fun _ h => rfl
    have ei := ei []
    have a1 : ∀ h, atvD (some (some (shD z))) "first" h = .ok (.int (z.1 : Int)) h := fun h => rfl
    have a2 : ∀ h, atvD (some (some (shD z))) "second" h = .ok (.int (z.2.1 : Int)) h := fun h => rfl
    have a3 : ∀ h, atvD (some (some (shD z))) "side" h = .ok (.str (sdS z.2.2)) h := fun h => rfl
    have so : PyData.strOk (sdS z.2.2) = true := by cases z.2.2 <;> decide +kernel
    have xx : F__law_exact_31 6 [.tup [.int (z.1 : Int), .int (z.2.1 : Int), .str (sdS z.2.2)], .lst [.int (z.1 : Int), .int (z.2.1 : Int), .str (sdS z.2.2)]] h' = .ok (.bl true) h' := exact_x 6 _ _ h' (xr_le (n := 2) (.inr (.inr ⟨_, [.int (z.1 : Int), .int (z.2.1 : Int), .str (sdS z.2.2)], true, rfl, rfl, rfl, by show 3 ≤ 900; omega, fun i x y hx hy => by
      match i, hx, hy with
      | 0, hx, hy => cases hx; cases hy; exact xr_int 0 _
      | 1, hx, hy => cases hx; cases hy; exact xr_int 0 _
      | 2, hx, hy => cases hx; cases hy; exact xr_str 0 so
      | i + 3, hx, hy => simp at hx⟩)) (by omega))
    push_cast [xm, xp, e1, e, et, ↓ei, a1, a2, a3, xx]
end Lw
set_option exponentiation.threshold 20000
namespace Lw
open PySem PySem.Spec L2 Fw Pd Dz
theorem mt_len {sim : Nat → Nat → Bool} : ∀ {L M : List Nat} {ms R}, mt sim L M = some (ms, R) → ms.length = L.length
  | [], M, ms, R, e => by cases e; rfl
  | a :: L, M, ms, R, e => by
    unfold mt at e
    split at e
    · cases e
    · rename_i j _
      cases q : mt sim L (M.filter fun x => decide (x ≠ j)) with
      | none => rw [q] at e; cases e
      | some z =>
        rw [q] at e
        cases e
        show z.1.length + 1 = L.length + 1
        rw [mt_len (ms := z.1) (R := z.2) q]
end Lw
open PySem PySem.Spec L2 Fw Pd Dz Lw in
theorem M31.law_true : Fw.LawB 7 N31.B_law := fun cs t h1 h2 h3 h4 => by
  have hh := hand_0 cs t h1 h2 h3 h4
  generalize hand0 cs t = h at hh
  obtain ⟨k, g1, e1, i1⟩ := E_figures h hh
  obtain ⟨r, g2, e2, hr, i2⟩ := E_size21 k g1 i1
  obtain ⟨c, g3, e3, hc, i3⟩ := E_size21 k g2 i2
  have r5 := hr.2.1
  have c5 := hc.2.1
  obtain ⟨n, P, g4, e4, hn, hP, i4⟩ := E_prods31 k r c g3 i3 (by omega) (by omega)
  obtain ⟨m, Q, g5, e5, hm, hQ, i5⟩ := E_others31 k r c n 12 P g4 i4 (by omega) (by omega) hn hP (by omega)
  have hP' : ∀ t, t < n → SmP r c (P t) 20 := fun t ht => (hP t ht).mono (by omega)
  have o1 := fun h => E_alikeP k r c n m P Q h 20 (by omega) (by omega) (by omega) (by omega) hP' hQ (by omega)
  have o2 := fun h => E_alikeP k r c m n Q P h 20 (by omega) (by omega) (by omega) (by omega) hQ hP' (by omega)
  have l1 := fun h => E_lmatches k r c n m P Q h 20 (by omega) (by omega) (by omega) (by omega) hP' hQ (by omega) (by omega)
  have l2 := fun h => E_lmatches k r c m n Q P h 20 (by omega) (by omega) (by omega) (by omega) hQ hP' (by omega) (by omega)
  have m1 := fun h => E_matched k r c P Q (mt (simB r c P Q) (dpl r c n P) (dpl r c m Q)) h fun ms L' e => by
    have := mt_len e
    have := dpl_len (r := r) (c := c) (n := n) (P := P)
    omega
  have m2 := fun h => E_matched k r c Q P (mt (simB r c Q P) (dpl r c m Q) (dpl r c n P)) h fun ms L' e => by
    have := mt_len e
    have := dpl_len (r := r) (c := c) (n := m) (P := Q)
    omega
  obtain ⟨g6, e6, i6⟩ := E_couples31 k r c n P 12 g5 i5 hr hc hn hP (by omega) (by omega)
  have x1 := X_prds31 k true r c n P g6 (by omega) (by omega) (by omega)
  have x2 := X_prds31 k true r c m Q g6 (by omega) (by omega) (by omega)
  have p1 := E_prog k true r c n (fun i => (P i).d r c) P hr hc (by omega) fun i _ => ⟨false, false, rfl⟩
  have p2 := E_prog k false r c m (fun i => (Q i).d r c) Q hr hc (by omega) fun i _ => ⟨false, false, rfl⟩
  have p3 := E_prog k false c r 0 (fun i => (Q i).d c r) Q hc hr (by omega) fun i _ => ⟨false, false, rfl⟩
  obtain ⟨LP, eLP⟩ : ∃ L, L = D.lst (gen n fun i => (P i).d r c) := ⟨_, rfl⟩
  obtain ⟨LQ, eLQ⟩ : ∃ L, L = D.lst (gen m fun i => (Q i).d r c) := ⟨_, rfl⟩
  have vLP : ∀ h, vD (some (some LP)) h = .ok LP h := fun h => by rw [eLP]; rfl
  have vLQ : ∀ h, vD (some (some LQ)) h = .ok LQ h := fun h => by rw [eLQ]; rfl
  have wLP : ∀ h, vmD (some (some LP)) h = .ok LP h := fun h => by rw [eLP]; rfl
  have wLQ : ∀ h, vmD (some (some LQ)) h = .ok LQ h := fun h => by rw [eLQ]; rfl
  have kLP : Fw.kList [LP] = some (.hl (gen n fun i => (P i).d r c)) := by rw [eLP]; rfl
  have kLQ : Fw.kTup [LQ] = some (.tup (gen m fun i => (Q i).d r c)) := by rw [eLQ]; rfl
  rw [← eLP] at e4 e5 l1 l2
  rw [← eLQ] at e5 l1 l2
  have mf : ∀ (xs : List (Option D)) (g : D), eMake "Figures" 2 F_Figures___init__ [] (eCons (eV 2) eNil) (none :: some .me :: some (.int k.p) :: xs) g = .ok (fig k) g := fun xs g => E_make k _ g 2 rfl
  have fzP : frzL (gen n fun i => (P i).d r c) = gen n fun i => (P i).d r c := frzL_gen fun i => rfl
  have q1 : ∀ (x7 x8 : Option D) (g : D), eMake "Program" 5 F_Program___init__ [] (eCons (eMake "Figures" 2 F_Figures___init__ [] (eCons (eV 2) eNil)) (eCons (eV 3) (eCons (eV 4) (eCons (eFz (eBi kList (eCons (eV 5) eNil))) eNil)))) [none, some .me, some (.int k.p), some (.int (r : Int)), some (.int (c : Int)), some LP, some LQ, x7, x8] g = .ok (prgD k r c n P) g := fun x7 x8 g =>
    eMake_ok (ds := [fig k, .int (r : Int), .int (c : Int), .lst (gen n fun i => (P i).d r c)]) (h1 := g) (by push_cast [↓mf, vLP, kLP]) p1 rfl
  have q2 : ∀ (x7 x8 : Option D) (g : D), eMake "Program" 5 F_Program___init__ [] (eCons (eMake "Figures" 2 F_Figures___init__ [] (eCons (eV 2) eNil)) (eCons (eV 3) (eCons (eV 4) (eCons (eBi kTup (eCons (eV 6) eNil)) eNil)))) [none, some .me, some (.int k.p), some (.int (r : Int)), some (.int (c : Int)), some LP, some LQ, x7, x8] g = .ok (prgD k r c m Q) g := fun x7 x8 g =>
    eMake_ok (ds := [fig k, .int (r : Int), .int (c : Int), .tup (gen m fun i => (Q i).d r c)]) (h1 := g) (by push_cast [↓mf, vLQ, kLQ]) p2 rfl
  have q3 : ∀ (x7 x8 : Option D) (g : D), eMake "Program" 5 F_Program___init__ [] (eCons (eMake "Figures" 2 F_Figures___init__ [] (eCons (eV 2) eNil)) (eCons (eV 4) (eCons (eV 3) (eCons (eTup eNil) eNil)))) [none, some .me, some (.int k.p), some (.int (r : Int)), some (.int (c : Int)), some LP, some LQ, x7, x8] g = .ok (prgD k c r 0 Q) g := fun x7 x8 g =>
    eMake_ok (ds := [fig k, .int (c : Int), .int (r : Int), .tup []]) (h1 := g) (by push_cast [↓mf]) p3 rfl
  have no := fun (ne : r ≠ c) h => E_alikeN k r c n P Q h ne
  obtain ⟨X, eX⟩ : ∃ X, X = prgD k r c n P := ⟨_, rfl⟩
  obtain ⟨Y, eY⟩ : ∃ Y, Y = prgD k r c m Q := ⟨_, rfl⟩
  obtain ⟨Z, eZ⟩ : ∃ Z, Z = prgD k c r 0 Q := ⟨_, rfl⟩
  have vX : ∀ h, vmD (some (some X)) h = .ok X h := fun h => by rw [eX]; rfl
  have vY : ∀ h, vmD (some (some Y)) h = .ok Y h := fun h => by rw [eY]; rfl
  have aX : ∀ h, atvD (some (some X)) "products" h = .ok (.tup (gen n fun i => (P i).d r c)) h := fun h => by rw [eX]; rfl
  have aY : ∀ h, atvD (some (some Y)) "products" h = .ok (.tup (gen m fun i => (Q i).d r c)) h := fun h => by rw [eY]; rfl
  have x1 : F__law_exact_31 6 [.tup (gen n fun i => (P i).d r c), LP] g6 = .ok (.bl true) g6 := by rw [eLP]; exact x1
  have x2 : F__law_exact_31 6 [.tup (gen m fun i => (Q i).d r c), LQ] g6 = .ok (.bl true) g6 := by rw [eLQ]; exact x2
  simp only [← eX, ← eY, ← eZ] at q1 q2 q3 o1 o2 e6 no
  refine ⟨g6, ?_⟩
  show N31.B_law [none, some .me, none, none, none, none, none, none, none] h = _
  unfold N31.B_law
  by_cases ne : r = c
  · subst ne
    push_cast [e1, e2, e3, e4, e5, vLP, vLQ, wLP, wLQ, ↓q1, ↓q2, vX, vY, o1, o2, l1, l2, m1, m2, e6, aX, aY, x1, x2]
  · have z : ¬ (r : Int) = (c : Int) := by omega
    have no := no ne
    push_cast [e1, e2, e3, e4, e5, vLP, vLQ, wLP, wLQ, ↓q1, ↓q2, ↓q3, vX, vY, o1, o2, l1, l2, m1, m2, z, no, e6, aX, aY, x1, x2]
open PySem PySem.W PySem.Calls PyProof.Rows
set_option maxRecDepth 100000 in
set_option maxHeartbeats 0 in
theorem PySem.Challenge.cw_sparedproducts_k31_whole_programs_alike_holds : PySem.Challenge.rw_sparedproducts_k31_whole_programs_alike.Holds := by
  w_on; o_law
  refine HandSHeadRun.head_imp (r := OpenLaw.row PySem.Challenge.rw_sparedproducts_k31_whole_programs_alike) (q := view (OpenLaw.row PySem.Challenge.rw_sparedproducts_k31_whole_programs_alike).prog [109]) (H := X31.hk) (ob := X31.ob) (M := 20000) (loose := X31.loose) (d := HandSHeadRun.topDef (OpenLaw.row PySem.Challenge.rw_sparedproducts_k31_whole_programs_alike).prog 109) (kwd := []) X31.ob_eq
    X31.run (by kernel_rfl) (by kernel_rfl) (by kernel_rfl) (by rfl) (by first | assumption | decide +kernel) (by decide +kernel) ⟨rfl, rfl, rfl, rfl, rfl, by decide +kernel⟩ ?hw ?hc
  case hw => w_witness2
  case hc =>
    refine L2.walk_ofE (l := PySem.Challenge.rw_sparedproducts_k31_whole_programs_alike) (n := 63) (k := 13) (x := "_law_script") (CX := L2.CX0) rfl (by decide) (by kernel_rfl) ⟨rfl, by decide, by decide⟩ ?F (fun _ _ _ _ z => z)
    intro w mg fa h Y G hmg0
    obtain ⟨K, KX, k, c⟩ := Y
    have T : Fw.Fs N31.tb K mg := Fw.Fs.of KX G k c
    have hmg : mg ("law" : PySem.Str) = some (.ref fa) := by
      have e : (HandSHeadRun.topDef (OpenLaw.row PySem.Challenge.rw_sparedproducts_k31_whole_programs_alike).prog 109).name = ("law" : PySem.Str) := by kernel_rfl
      rw [← e]
      exact hmg0
    have e := hmg.symm.trans (T.gl 79 "law" rfl)
    cases e
    obtain ⟨fd, hb, hF⟩ := N31.law_ok (P := (PySem.Challenge.rw_sparedproducts_k31_whole_programs_alike).prog) (w := w) T M31.law_true
    exact ⟨K, fd, Fw.spLaw K, KX, hb, fun H a ns hl _ hS => ⟨a, ns, rfl, hS, hl, fun _ => rfl⟩, fun base _ _ => hF base⟩
