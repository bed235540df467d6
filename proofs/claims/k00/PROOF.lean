import PyProof.Rows.All
import Wide.All
import OpenK.AllK
import Wide.FinOn
import KE.KStateDown
import KE.KExcIs
import HandS.ForExc
import HandS.ExcInit
import HandS.ExcField
import HandS.ExcValue
import HandS.HeadHook2
import HandS.HeadEnd
import HandS.Head2
import HandS.Wide
import HandS.Evl
import HandS.IsInst
import HandS.Gcd
import HandS.Style
import HandS.Defaults
import HandS.Conv
import HandS.ExcOwn
import HandS.Comp
import HandS.MakeKw
import HandS.SlotsOwn
import HandS.OwnEq
import HandS.Words
import HandS.Head3
import PySem.Challenge.RW_sparedproducts_k00_whole_numbers_reckone
set_option Elab.async false
set_option linter.all false
set_option maxRecDepth 100000
set_option maxHeartbeats 0
namespace Kx
open PySem PySem.Spec PyProof.Rows L2
/-- what is asked of an error class at C, a child of the class at P -/
structure Er (K : PySem.W.Frag) (P C : Addr) : Prop where
  ox : OexC K C
  mro : ∃ cd, PySem.W.clsIn K C = some cd ∧ cd.mro = .ref C :: .ref P :: PySem.HandSPX.veTail
  ga : PySem.W.findIn K (.ref C) "__getattribute__" = some (some (.builtin "BaseException.__getattribute__"))
  gg : PySem.W.findIn K (.ref C) "__getattr__" = some none
  hd : PySem.W.hasDictIn K C = true
  ca : PySem.W.findIn K (.ref C) "__class__" = some (some (.builtin "object.__class__"))
/-- what is asked of object.__class__ -/
structure Gt (K : PySem.W.Frag) : Prop where
  hn : PySem.W.specialIn K (.builtin "object.__class__") "__get__" = some (some (.builtin "getset_descriptor.__get__"))
  ht : PySem.W.takesIn K (.builtin "object.__class__") = some true
section
variable {K : PySem.W.Frag} {P C D : Addr}
theorem Er.xf (e : Er K P C) : XfC K C := ⟨e.ga, e.gg, e.ox.exC, e.hd⟩
theorem Er.mroIn (e : Er K P C) (b : Value) : PySem.W.mroIn K C b = some ((Value.ref C :: .ref P :: PySem.HandSPX.veTail).contains b) := by
  obtain ⟨cd, h1, h2⟩ := e.mro
  unfold PySem.W.mroIn
  rw [h1, Option.bind_some, h2]
  rfl
theorem Er.kit (e : Er K P C) (g : Gt K) {x : Addr} {ox : Obj} {od : Option Obj} : PySem.W.KitX K (.ref x) (.ref C) (fun h => PySem.W.InstAt h x ox C od) :=
  PySem.W.kitx_exc (by obtain ⟨cd, h1, _⟩ := e.mro; rw [h1]; rfl) e.ga e.gg e.ox.exC e.ca g.hn g.ht (by rw [e.mroIn]; rfl)
/-- isinstance of an instance of C against the class at D -/
theorem Er.one (e : Er K P C) (d : Er K P D) (hP : D ≠ P) : PySem.W.kitOne K (.ref C) (.ref D) = some (decide (C = D)) := by
  unfold PySem.W.kitOne
  by_cases h : C = D
  · subst h
    rw [if_pos (beq_self_eq_true _), decide_eq_true rfl]
  · have hb : (Value.ref C == Value.ref D) = false := beq_eq_false_iff_ne.mpr fun z => h (Value.ref.inj z)
    rw [if_neg (by rw [hb]; exact Bool.false_ne_true), decide_eq_false h]
    unfold PySem.W.kitCls
    obtain ⟨cd, h1, _⟩ := d.mro
    have z : ((PySem.W.clsIn K D).isSome && PySem.W.typeIn K (.ref D) == some (.type "type")) = true := by rw [h1, d.ox.tyC]; rfl
    show (if ((PySem.W.clsIn K D).isSome && PySem.W.typeIn K (.ref D) == some (.type "type")) = true then PySem.W.subIn K (.ref C) (.ref D) else none) = some false
    rw [if_pos z]
    show PySem.W.mroIn K C (.ref D) = some false
    rw [e.mroIn]
    have h2 : (Value.ref D == Value.ref C) = false := beq_eq_false_iff_ne.mpr fun z => h (Value.ref.inj z).symm
    have h3 : (Value.ref D == Value.ref P) = false := beq_eq_false_iff_ne.mpr fun z => hP (Value.ref.inj z)
    rw [List.contains_cons, List.contains_cons, h2, h3]
    rfl
/-- .. against their parent -/
theorem Er.up (e : Er K P C) (hP : (PySem.W.clsIn K P).isSome = true ∧ PySem.W.typeIn K (.ref P) = some (.type "type")) (h : C ≠ P) : PySem.W.kitOne K (.ref C) (.ref P) = some true := by
  unfold PySem.W.kitOne
  have hb : (Value.ref C == Value.ref P) = false := beq_eq_false_iff_ne.mpr fun z => h (Value.ref.inj z)
  rw [if_neg (by rw [hb]; exact Bool.false_ne_true)]
  have z : ((PySem.W.clsIn K P).isSome && PySem.W.typeIn K (.ref P) == some (.type "type")) = true := by rw [hP.1, hP.2]; rfl
  show (if ((PySem.W.clsIn K P).isSome && PySem.W.typeIn K (.ref P) == some (.type "type")) = true then PySem.W.subIn K (.ref C) (.ref P) else none) = some true
  rw [if_pos z]
  show PySem.W.mroIn K C (.ref P) = some true
  rw [e.mroIn, List.contains_cons, List.contains_cons, beq_self_eq_true, Bool.true_or, Bool.or_true]
theorem Er.ve (e : Er K P C) : PySem.W.kitOne K (.ref C) (.type "ValueError") = some true := by
  unfold PySem.W.kitOne
  rw [if_neg (by rw [show (Value.ref C == Value.type "ValueError") = false from rfl]; exact Bool.false_ne_true)]
  show (if PySem.W.kitMeta "ValueError" = true then PySem.W.subIn K (.ref C) (.type "ValueError") else none) = some true
  rw [if_pos (by decide +kernel)]
  show PySem.W.mroIn K C (.type "ValueError") = some true
  rw [e.mroIn]
  rfl
end
/-- at a an exception of the class at C whose fields are fs -/
def ExAt (H : Hp) (a C : Addr) (fs : List (Str × V)) : Prop := (fs = [] ∧ H a = some (exo a C none)) ∨ ∃ d, H a = some (exo a C (some d)) ∧ H d = some (exd d fs)
theorem ExAt.same {H H' : Hp} {a C : Addr} {fs : List (Str × V)} (s : Same H H') (e : ExAt H a C fs) : ExAt H' a C fs := by
  rcases e with ⟨h, e⟩ | ⟨d, e1, e2⟩
  · exact .inl ⟨h, s _ _ e⟩
  · exact .inr ⟨d, s _ _ e1, s _ _ e2⟩
section
variable {X : Cx} {P C : Addr} {pins : List (Addr × Obj)} {σ : L2.St} {H : Hp} {s : Shared}
theorem ExAt.inst {a : Addr} {fs : List (Str × V)} (I : Inv X pins σ H s) (e : ExAt H a C fs) :
    ∃ (ox : Obj) (od : Option Obj), PySem.W.InstAt s.heap a ox C od ∧ ∀ n v, fs.lookup n = some v → ∃ (o : Obj) (u : Value), od = some o ∧ PySem.W.lookIn n o = some (some u) ∧ RelV v u := by
  rcases e with ⟨rfl, e⟩ | ⟨d, e1, e2⟩
  · obtain ⟨t1, ho⟩ := exo_at I.hok e
    exact ⟨_, none, ⟨ho, rfl, rfl, trivial⟩, fun n v h => nomatch h⟩
  · obtain ⟨t1, ho⟩ := exo_at I.hok e1
    obtain ⟨mA, hns, rel⟩ := exd_at I.hok e2
    obtain ⟨od, hod, hl⟩ := lookIn_ns hns
    refine ⟨_, some od, ⟨ho, rfl, rfl, hod⟩, fun n v h => ?_⟩
    obtain ⟨u, hu, ru⟩ := RelO.some_of (v := v) (o := mA n) (by rw [← h]; exact rel n)
    exact ⟨od, u, rfl, by rw [hl, hu], ru⟩
/-- isinstance(e, c), e such an exception -/
def rIsX (K : PySem.W.Frag) (P : Addr) : List V → Hp → VK → Prop := fun xs H Q => ∃ (a C : Addr) (fs : List (Str × V)) (c : V) (cv : Value) (b : Bool), xs = [.ref a, c] ∧ ExAt H a C fs ∧ Er K P C ∧ ClsW c cv ∧ PySem.W.kitOne K (.ref C) cv = some b ∧ Q (.bl b) H
where ClsW : V → Value → Prop
  | .ty n, u => u = .type n
  | .ref C, u => u = .ref C
  | _, _ => False
theorem call_isX (g : Gt X.K) : CallR X (.builtin "isinstance") (rIsX X.K P) := by
  intro pins s σ H xs us Q I r h
  obtain ⟨a, C, fs, c, cv, b, rfl, ea, er, hc, e, q⟩ := h
  obtain ⟨u1, u2, rfl, r1, r2⟩ := vals2 r
  cases (show u1 = Value.ref a from r1)
  have e2 : u2 = cv := by
    cases c with
    | ty n => exact (show u2 = Value.type n from r2).trans (show cv = Value.type n from hc).symm
    | ref D => exact (show u2 = Value.ref D from r2).trans (show cv = Value.ref D from hc).symm
    | _ => exact False.elim hc
  subst e2
  obtain ⟨ox, od, J, _⟩ := ea.inst I
  exact PySem.W.kia_one (er.kit g) I.kIn J e (fun z => nomatch z) fun tk => ⟨.bl b, H, I.tok tk, rfl, q⟩
/-- e.f, e such an exception -/
def tXv (K : PySem.W.Frag) (P : Addr) (f : Str) (te : TE) : TE := fun σ H Q => te σ H fun x H1 => ∃ (a C : Addr) (fs : List (Str × V)) (v : V), x = .ref a ∧ ExAt H1 a C fs ∧ Er K P C ∧ PySem.W.findIn K (.ref C) f = some none ∧ fs.lookup f = some v ∧ Q v H1
theorem pe_xv {e : Expr} {te : TE} {f : Str} {pos : Pos} (he : PE X e te) (hb : attributeBase e f X.env (eval e X.env) = eval e X.env := by rfl) : PE X (.Attribute e f pos) (tXv X.K P f te) := by
  refine ⟨fun pins s σ H Q I h => attr_of hb (thn (he.run pins s σ H _ I h) fun u s1 hh => ?_)⟩
  obtain ⟨x, H1, I1, rx, a, C, fs, v, ex, ea, er, hno, hl, q⟩ := hh
  subst ex
  cases (show u = Value.ref a from rx)
  obtain ⟨ox, od, J, hv⟩ := ea.inst I1
  obtain ⟨o, u, rfl, hu, ru⟩ := hv f v hl
  exact PySem.HandSPX.exc_get I1.kIn J er.ga er.gg er.ox.exC (PySem.W.findObj_own er.hd hno rfl hu) (handed_of ru) ⟨v, H1, I1.tok _, ru, q⟩
/-- C(), no __init__ of its own -/
theorem pe_bare {x : Str} {p pos : Pos} (q : PySem.W.excIn X.K C PySem.HandSPX.veTail "ValueError.__new__" = true) (gC : X.mg x = some (.ref C)) (kC : PySem.W.keepIn X.K (.ref C) = true) (hg : Gl X x) (hdb : (x == ("__debug__" : Str)) = false := by decide) :
    PE X (.Call (.Name x p) [] [] pos) (fun _ H Q => ∀ a, H a = none → Q (.ref a) (upd H a (exo a C none))) := by
  refine ⟨fun pins s σ H Q I h => wpAny_Call_Name_kw (ld_glob I hg gC (PySem.W.callWith_K0 I.kIn kC ?_) hdb)⟩
  show wpAny _ _ (call (.ref C) []) _ _ _
  obtain ⟨bm, N, nm, qn, bs, hdct, sn, sub, ab, col, dd, k0, k1, k2, k3, k5, mN, hC, hN, hni, T⟩ := exc_obj I.kIn q
  refine wpAny_call_exc_subT PySem.F.excBase_ValueError T hC hN hni (fun h' a hm => ?_) (Nat.zero_le _)
  have hn : H a = none := I.hok.gone hm.new
  obtain ⟨t, ht, _, _⟩ := hm.there
  exact ⟨.ref a, _, I.laidN hm.keeps hm.new hn (exo_ok ht), rfl, h a hn⟩
end
end Kx
namespace Kf
open PySem PySem.Spec PyProof.Rows L2 Kx
def erB (K : PySem.W.Frag) (P C : Addr) : Bool :=
  (match K.lookup C with
    | some ⟨.type t, _, .cls cd, sl⟩ => (match sl.toList with
      | [_, _, _, _, some (.builtin n), _] => t == "type" && (cd.mro == (Value.ref C :: .ref P :: PySem.HandSPX.veTail) && (n == "ValueError.__new__" && (!cd.hasDel && cd.hasDict)))
      | _ => false)
    | _ => false) &&
  (He.eqO (PySem.W.findIn K (.ref C) "__setattr__") (some (some (.builtin "object.__setattr__"))) &&
  (He.eqO (PySem.W.findIn K (.ref C) "__getattribute__") (some (some (.builtin "BaseException.__getattribute__"))) &&
  (He.eqO (PySem.W.findIn K (.ref C) "__getattr__") (some none) &&
  (He.eqO (PySem.W.findIn K (.ref C) "__class__") (some (some (.builtin "object.__class__"))) &&
  (decide (PySem.W.typeIn K (.ref C) = some (.type "type")) && PySem.W.keepIn K (.ref C))))))
theorem erB_ok {K : PySem.W.Frag} {P C : Addr} (h : erB K P C = true) : Er K P C := by
  obtain ⟨h1, h⟩ := He.ba h
  obtain ⟨h2, h⟩ := He.ba h
  obtain ⟨h3, h⟩ := He.ba h
  obtain ⟨h4, h⟩ := He.ba h
  obtain ⟨h5, h⟩ := He.ba h
  obtain ⟨h6, h7⟩ := He.ba h
  cases e : K.lookup C with
  | none =>
    rw [e] at h1
    cases h1
  | some o =>
    obtain ⟨oc, od, dt, sl⟩ := o
    rw [e] at h1
    cases oc with
    | type t =>
      cases dt with
      | cls cd =>
        obtain ⟨sl⟩ := sl
        match sl, h1, e with
        | [k0, k1, k2, k3, some (.builtin n), k5], h1, e =>
          obtain ⟨g1, g⟩ := He.ba (show (t == "type" && (cd.mro == (Value.ref C :: .ref P :: PySem.HandSPX.veTail) && (n == "ValueError.__new__" && (!cd.hasDel && cd.hasDict)))) = true from h1)
          obtain ⟨g2, g⟩ := He.ba g
          obtain ⟨g3, g⟩ := He.ba g
          obtain ⟨g4, g5⟩ := He.ba g
          obtain ⟨nm, bs, mro, ns, qn, hd, sn, sub, ab, col, del⟩ := cd
          have e1 : t = "type" := eq_of_beq g1
          have e2 : mro = Value.ref C :: .ref P :: PySem.HandSPX.veTail := beq_iff_eq.mp g2
          have e3 : n = "ValueError.__new__" := eq_of_beq g3
          have e4 : del = false := by
            cases del with
            | false => rfl
            | true => cases g4
          have e5 : hd = true := g5
          subst e1 e2 e3 e4 e5
          have hcl : PySem.W.clsIn K C = some { name := nm, bases := bs, mro := Value.ref C :: .ref P :: PySem.HandSPX.veTail, ns := ns, qualname := qn, hasDict := true, slotNames := sn, subclasses := sub, abstract := ab, collection := col, hasDel := false } := by
            unfold PySem.W.clsIn
            rw [e] <;> rfl
          have hsub : PySem.W.subIn K (.ref C) (.type "BaseException") = some true := by
            show PySem.W.mroIn K C (.type "BaseException") = some true
            unfold PySem.W.mroIn
            rw [hcl]
            rfl
          exact ⟨⟨⟨nm, qn, ns, bs, .ref P :: PySem.HandSPX.veTail, sn, sub, ab, col, od, k0, k1, k2, k3, k5, e, rfl⟩, He.eqO_ok h2, hsub, of_decide_eq_true h6, h7⟩, ⟨_, hcl, rfl⟩, He.eqO_ok h3, He.eqO_ok h4, by unfold PySem.W.hasDictIn; rw [hcl]; rfl, He.eqO_ok h5⟩
      | _ => cases h1
    | _ => cases dt <;> cases h1
/-- the hook: a check of the written part, and the defs -/
def hookX (n : Nat) (ck : PySem.W.Frag → Bool) (fn : List He.DefD) : PySem.W.Hook where
  α := Bool × He.AlD
  obs := fun s => (ck (He.frG s.heap.get? (He.asD s.heap.get? n)), He.obsD [] fn (He.frG s.heap.get? (He.asD s.heap.get? n)))
  val := fun _ => (true, He.valD fn)
  says := fun _ h => ∃ K : PySem.W.Frag, K.In h ∧ ck K = true ∧ He.SaysD [] fn K
  of := fun _ _ e => ⟨_, He.frG_in, (Prod.mk.inj e).1, (Prod.mk.inj e).2⟩
  keeps := fun _ _ _ ⟨K, hK, c⟩ k => ⟨K, PySem.W.Frag.In.keeps hK k, c⟩
def obX (n : Nat) (ck : PySem.W.Frag → Bool) (fn : List He.DefD) (g : Addr → Option Obj) : Bool × He.AlD := (ck (He.frG g (He.asD g n)), He.obsD [] fn (He.frG g (He.asD g n)))
theorem obX_eq {n : Nat} {ck : PySem.W.Frag → Bool} {fn : List He.DefD} {g : Addr → Option Obj} {s : Shared} (h : ∀ a, g a = s.heap.get? a) : obX n ck fn g = (hookX n ck fn).obs s := by
  have e : g = s.heap.get? := funext h
  rw [e] <;> rfl
end Kf
namespace Ky
open PySem PySem.Spec PyProof.Rows L2 Kx
/-- __init__ of the class at C keeps what it is handed, under names fl gives -/
def spIn (C : Addr) (n : Nat) (fl : List V → List (Str × V)) : Sp := fun vs H Q _ => ∃ (a : Addr) (xs : List V), vs = .ref a :: xs ∧ xs.length = n ∧ H a = some (exo a C none) ∧
  ∀ (d : Addr) (H' : Hp), H d = none → (∀ b o, b ≠ a → H b = some o → H' b = some o) → H' a = some (exo a C (some d)) → H' d = some (exd d (fl xs)) → Q .non H'
def fl1 (f : Str) : List V → List (Str × V)
  | [x] => [(f, x)]
  | _ => []
def fl2 (f g : Str) : List V → List (Str × V)
  | [x, y] => [(g, y), (f, x)]
  | _ => []
section
variable {X : Cx} {K : PySem.W.Frag} {P C : Addr}
/-- the reading of: self.f = (slot 1) -/
theorem rd1 {f : Str} {Q : VK} {E : XK} {vs : List V} {H : Hp} {N : List Str} (hN : N.length = 2) (er : Er K P C) (n1 : PySem.W.findIn K (.ref C) f = some none) (h : spIn C 1 (fl1 f) vs H Q E) :
    tOst K f (tVar 0) (tVar 1) { nx := fun _ H' => Q .non H', rt := Q } (start N vs) H := by
  obtain ⟨a, xs, rfl, hl, ha, k⟩ := h
  match xs, hl, k with
  | [x], _, k =>
    refine ⟨x, rfl, .ref a, rfl, a, C, rfl, er.ox, n1, .inl ⟨ha, fun d hd hne => ?_⟩⟩
    refine k d _ hd (fun b o hb e => ?_) upd_same ?_
    · rw [upd_ne hb, upd_ne (ne_of_none e hd)]
      exact e
    · rw [upd_ne hne, upd_same]
      rfl
/-- .. self.f = (slot 1); self.g = (slot 2) -/
theorem rd2 {f g : Str} {Q : VK} {E : XK} {vs : List V} {H : Hp} {N : List Str} (hN : N.length = 3) (er : Er K P C) (n1 : PySem.W.findIn K (.ref C) f = some none) (n2 : PySem.W.findIn K (.ref C) g = some none) (h : spIn C 2 (fl2 f g) vs H Q E) :
    tSeq (tOst K f (tVar 0) (tVar 1)) (tOst K g (tVar 0) (tVar 2)) { nx := fun _ H' => Q .non H', rt := Q } (start N vs) H := by
  obtain ⟨a, xs, rfl, hl, ha, k⟩ := h
  match xs, hl, k with
  | [x, y], _, k =>
    refine ⟨x, rfl, .ref a, rfl, a, C, rfl, er.ox, n1, .inl ⟨ha, fun d hd hne => ?_⟩⟩
    refine ⟨y, rfl, .ref a, rfl, a, C, rfl, er.ox, n2, .inr ⟨d, [(f, x)], upd_same, by rw [upd_ne hne, upd_same], by show 1 ≤ 900; decide, ?_⟩⟩
    refine k d _ hd (fun b o hb e => ?_) ?_ upd_same
    · rw [upd_ne (ne_of_none e hd), upd_ne hb, upd_ne (ne_of_none e hd)]
      exact e
    · rw [upd_ne hne.symm, upd_same]
/-- C(e, ..) as a value -/
def tMkV (C : Addr) (sp : Sp) (ta : TA) : TE := fun σ H Q => ta σ H fun vs H1 => ∀ a, H1 a = none → sp (.ref a :: vs) (upd H1 a (exo a C none)) (fun v H2 => v = .non ∧ Q (.ref a) H2) (fun _ _ _ => False)
theorem pe_oex {CX : CXT} {x : Str} {fI : Addr} {k : Nat} {fd : FuncData} {ps : List Str} {sp : Sp} {e : Expr} {es : List Expr} {ta : TA} {p pos : Pos} (T : OexC X.K C) (iC : PySem.W.findIn X.K (.ref C) "__init__" = some (some (.ref fI))) (tI : PySem.W.typeIn X.K (.ref fI) = some (.type "function"))
    (F1 : FnOk X.prog X.w X.K X.mg X.base CX k fI fd ps sp) (hr : Room (k + 1) X.A) (hb : L2.Binds X.K fd ps []) (hx : Passes CX X (fun _ _ _ => False)) (hg : Gl X x) (hm : X.mg x = some (.ref C)) (ha : PA X (e :: es) ta) (hps : ps.length ≤ 100)
    (hdb : (x == ("__debug__" : Str)) = false := by decide) (he : starEach (e :: es) X.env = (false, eval e X.env) :: starEach es X.env := by rfl) (hpl : (backTo pos (starEach es X.env)).any (·.1) = false := by rfl) :
    PE X (.Call (.Name x p) (e :: es) [] pos) (tMkV C sp ta) := by
  refine ⟨fun pins s σ H Q I h => wpAny_Call_Name_kw (ld_glob I hg hm (PySem.W.callWith_K (h₀ := X.base) I.ok.mod.kin T.kC (thn (ha.run pos pins s σ H _ I h) fun us s1 ⟨vs, H1, I1, r1, q1⟩ => ⟨I1.kIn, ?_⟩) he hpl) hdb)⟩
  obtain ⟨nm, q, N, bs, bm, sn, sub, ab, col, dd, k0, k1, k2, k3, k5, hC, hbm⟩ := T.cls
  show wpAny _ _ (call (.ref C) us) _ _ _
  obtain ⟨hp, g, dr, tk, os⟩ := s1
  have hn : H1 (hp.objs.size + 1) = none := I1.hok.fresh (Nat.le_succ _)
  have hq := q1 (hp.objs.size + 1) hn
  have I2 : Inv X pins σ (upd H1 (hp.objs.size + 1) (exo (hp.objs.size + 1) C none)) ⟨(hp.push (PySem.W.kdv_tup us)).push (PySem.HandSPX.excO C hp.objs.size), g, dr, tk, os⟩ :=
    I1.laid (t' := tk) (a := hp.objs.size + 1) (fun b o e => Heap.get?_push_of_some _ (Heap.get?_push_of_some _ e)) (Nat.le_succ _) (exo_ok (t1 := hp.objs.size) (by heap_get))
  have r2 : Vals (V.ref (hp.objs.size + 1) :: vs) (Value.ref (hp.objs.size + 1) :: us) := .cons rfl r1
  have hl : (Value.ref (hp.objs.size + 1) :: us).length = ps.length := by
    rw [← r2.length]
    exact F1.len _ _ _ _ hq
  have hus : us.length ≤ sizeLine := by
    rw [List.length_cons] at hl
    rw [sizeLine_eq]
    omega
  have hb2 := hb ⟨(hp.push (PySem.W.kdv_tup us)).push (PySem.HandSPX.excO C hp.objs.size), g, dr, tk, os⟩ (Value.ref (hp.objs.size + 1) :: us) I2.kIn (by rw [List.append_nil]; exact hl)
  rw [List.append_nil] at hb2
  refine wpAny_call (PySem.HandSPX.call_own F.excBase_ValueError (fun Y => PySem.HandSPX.refsVE_contains Y bm hbm) (I1.kIn _ _ hC) (PySem.W.looks_findIn I1.kIn iC) (fun self => PySem.W.bind_fn I1.kIn self tI) hus ?_)
  refine codeAny_mono (F1.run _ X.stack _ _ ⟨Value.ref (hp.objs.size + 1) :: us, []⟩ _ _ _ (fun _ _ _ => False) (hr.make C us []) (I2.env0.make C us []) hb2 r2 hq) fun r s' hq' => ?_
  cases r with
  | error er => exact hx pins σ _ _ er s' I2 hq'
  | ok fl =>
    cases fl with
    | ret u =>
      obtain ⟨v, H', I3, rv, ev, q3⟩ := I2.after hq'
      subst ev
      exact ⟨rv, .ref (hp.objs.size + 1), H', I3, rfl, q3⟩
    | next => exact False.elim hq'
    | brk => exact False.elim hq'
    | cont => exact False.elim hq'
end
end Ky
namespace Kq
open PySem PySem.Spec PyProof.Rows L2
def top (i : Nat) : Stmt := PySem.Challenge.pw_sparedproducts_k00_whole_numbers_reckone.main.body.getD i (.Pass ⟨0, 0, 0, 0⟩)
abbrev FnP (K : PySem.W.Frag) (x : Str) (st : Stmt) (f : Addr) (fd : FuncData) : Prop := FunD K x x (defArgs st) (defBody st) (defScope st) [] [] f fd
abbrev sHand : Stmt := top 24
abbrev sMixed : Stmt := top 25
abbrev sTake : Stmt := top 26
/-- a hand at a: its cells at c -/
structure HandAt (H : Hp) (a c : Addr) (cs : List Int) (p g t : Int) : Prop where
  l : H a = some (.lst [.ref c, .int p, .int g, .int t])
  c : H c = some (.lst (cs.map V.int))
  n : ∀ z ∈ cs, 0 ≤ z
  le : cs.length ≤ 63
  p0 : 0 ≤ p
  p1 : p ≤ cs.length
  g0 : 0 ≤ g
  t0 : 0 ≤ t
  t1 : t < 2147483648
theorem HandAt.ne {H : Hp} {a c : Addr} {cs : List Int} {p g t : Int} (h : HandAt H a c cs p g t) : c ≠ a := fun z => by
  have e := h.l
  rw [← z, h.c] at e
  have e2 := HO.lst.inj (Option.some.inj e)
  cases cs with
  | nil => cases e2
  | cons y ys => cases e2
theorem HandAt.same {H H' : Hp} {a c : Addr} {cs : List Int} {p g t : Int} (s : Same H H') (h : HandAt H a c cs p g t) : HandAt H' a c cs p g t :=
  ⟨s _ _ h.l, s _ _ h.c, h.n, h.le, h.p0, h.p1, h.g0, h.t0, h.t1⟩
def spHand (K : PySem.W.Frag) : Sp := fun vs H Q _ => ∃ (s : Addr) (ns : List Int), vs = [.ref s] ∧ SqL K H s (ns.map V.int) ∧ ns.length ≤ 63 ∧
  ∀ (a c : Addr) (cs : List Int) (t : Int) (H' : Hp), Same H H' → HandAt H' a c cs 0 0 t → Q (.ref a) H'
def spMixed : Sp := fun vs H Q _ => ∃ n t : Int, vs = [.int n, .int t] ∧ 0 ≤ n ∧ n < 2 ^ 40 ∧ 0 ≤ t ∧ t < 2 ^ 40 ∧ ∀ r : Int, 0 ≤ r → Q (.int r) H
/-- all but the hand's own list is as it was -/
def But (a : Addr) (H H' : Hp) : Prop := ∀ b o, b ≠ a → H b = some o → H' b = some o
def spTake : Sp := fun vs H Q _ => ∃ (a c : Addr) (cs : List Int) (p g t m : Int), vs = [.ref a, .int m] ∧ HandAt H a c cs p g t ∧ 0 < m ∧ m < 2 ^ 64 ∧
  ∀ (r p' g' t' : Int) (H' : Hp), 0 ≤ r → r < m → But a H H' → HandAt H' a c cs p' g' t' → Q (.int r) H'
/-- the names of the module -/
structure Tx (mg : Str → Option Value) (fM : Addr) : Prop where
  len : mg "len" = none
  int : mg "int" = none
  abs : mg "abs" = none
  mixed : mg "_law_mixed" = some (.ref fM)
section
variable {P : Program} {w : World} {K : PySem.W.Frag} {mg : Str → Option Value} {base : Heap} {f fM : Addr} {fd fdM : FuncData}
theorem scH : FnScope ["_law_script", "_law_total", "_law_cells", "_law_cell"] ["_law_script"] (defScope sHand) := ⟨rfl, rfl, rfl, by decide +kernel, rfl, by decide +kernel, by decide +kernel⟩
theorem scM : FnScope ["_law_number", "_law_turn", "_law_once", "_law_twice"] ["_law_number", "_law_turn"] (defScope sMixed) := ⟨rfl, rfl, rfl, by decide +kernel, rfl, by decide +kernel, by decide +kernel⟩
theorem scT : FnScope ["_law_hand_here", "_law_many", "_law_cell", "_law_rest"] ["_law_hand_here", "_law_many"] (defScope sTake) := ⟨rfl, rfl, rfl, by decide +kernel, rfl, by decide +kernel, by decide +kernel⟩
theorem ok_hand (F : FnP K "_law_hand" sHand f fd) (T : Tx mg fM) : FnOk P w K mg base CX0 1 f fd ["_law_script"] (spHand K) := by
  refine F.ok scH (fun vs H Q E h => ?_) (fun cdv A outer s H vs Q E hr h => ?_)
  · obtain ⟨a, ns, rfl, _⟩ := h
    rfl
  · obtain ⟨a, ns, rfl, hS, hlen, k⟩ := h
    refine ⟨_, PSs.nox (pss_cons (ps_set (i := 1) scH.nd rfl (Or.inl rfl) (pe_op op_add (pe_callB call_len (by rfl) T.len PySem.boot_len (pa_cons (pv 0) pa_nil)) pe_int))
      (pss_cons (ps_set (i := 2) scH.nd rfl (Or.inl rfl) (pe_lst pa_nil))
      (pss_cons (ps_for PassesOwn.never rfl (pi_list (pv 0)) (pg_name (i := 3) scH.nd rfl (Or.inl rfl))
        (pss_cons (ps_set (i := 1) scH.nd rfl (Or.inl rfl) (pe_op op_mod (pe_callTy call_int1 (by rfl) T.int PyProof.Rows.boot_int (pa_cons (pe_op op_add (pe_op op_mul (pv 1) pe_int) (pe_callTy call_int1 (by rfl) T.int PyProof.Rows.boot_int (pa_cons (pv 3) pa_nil))) pa_nil)) pe_int))
        (pss_one (ps_expr (pe_bm PySem.F.plainAttrs_list PySem.F.slot_list_append PySem.F.type_list_append mt_append (pv 2) (pa_cons (pe_callB call_abs (by rfl) T.abs (by decide +kernel) (pa_cons (pe_callTy call_int1 (by rfl) T.int PyProof.Rows.boot_int (pa_cons (pv 3) pa_nil)) pa_nil)) pa_nil))))))
      (pss_one (ps_ret (pe_lst (pa_cons (pv 2) (pa_cons pe_int (pa_cons pe_int (pa_cons (pv 1) pa_nil)))))))))), ?_⟩
    have hn2 : (ns.map V.int).length ≤ 63 := by rw [List.length_map]; exact hlen
    refine ⟨_, rfl, _, _, rfl, Or.inl ⟨_, hS, rfl⟩, _, _, rfl, rfl, Nat.zero_le _, fun c hc => ?_⟩
    have s0 : Same H (upd H c (.lst [])) := fun b o e => by
      rw [upd_ne (ne_of_none e hc)]
      exact e
    refine ⟨_, rfl, a, rfl, ⟨_, s0.seq hS⟩, for_list (K := K) (a := a) (xs := ns.map V.int) (fun i σ H2 => ∃ (cs : List Int) (t : Int) (v : Option V), σ = [some (.ref a), some (.int t), some (.ref c), v] ∧ Same H H2 ∧ H2 c = some (.lst (cs.map V.int)) ∧ (∀ z ∈ cs, 0 ≤ z) ∧ cs.length = i ∧ 0 ≤ t ∧ t < 2147483648)
      ⟨[], _, none, rfl, s0, upd_same, (fun z hz => nomatch hz), rfl, by omega, by omega⟩ (fun i σ H2 _ ⟨_, _, _, _, s2, _⟩ => s2.seq hS) ?_ ?_⟩
    · rintro i y σ H2 hi ⟨cs, t, v, rfl, s2, h2, hz, hk, t0, t1⟩
      obtain ⟨z, rfl⟩ : ∃ z, y = V.int z := by
        rw [List.getElem?_map] at hi
        cases e : ns[i]? with
        | none =>
          rw [e] at hi
          cases hi
        | some z =>
          rw [e] at hi
          exact ⟨z, (Option.some.inj hi).symm⟩
      have hil : i < (ns.map V.int).length := (List.getElem?_eq_some_iff.mp hi).1
      refine ⟨_, rfl, _, _, rfl, rfl, .inr ⟨by decide, by decide⟩, _, rfl, .inl ⟨_, rfl, _, _, rfl, rfl, .inl ⟨_, rfl, _, _, rfl, rfl, (by show (0 : Int) < 2147483563; decide), ?_⟩⟩⟩
      refine ⟨_, rfl, .inl ⟨rfl, _, SqL.of h2⟩, _, rfl, .inl ⟨_, rfl, _, rfl, c, _, _, rfl, rfl, h2, ?_, ?_⟩⟩
      · rw [List.length_map]
        exact small1000 (by omega)
      · refine ⟨cs ++ [if z < 0 then -z else z], _, _, rfl, ?_, ?_, ?_, ?_, ?_, ?_⟩
        · intro b o e
          by_cases hb : b = c
          · rw [hb, hc] at e
            cases e
          · rw [upd_ne hb]
            exact s2 b o e
        · rw [upd_same, List.map_append]
          rfl
        · intro x hx
          rcases List.mem_append.mp hx with hx | hx
          · exact hz x hx
          · rw [List.mem_singleton.mp hx]
            split <;> omega
        · rw [List.length_append, hk]
          rfl
        · exact Int.emod_nonneg _ (by decide)
        · exact Int.lt_trans (Int.emod_lt_of_pos _ (by decide)) (by decide)
    · rintro σ H2 ⟨cs, t, v, rfl, s2, h2, hz, hk, t0, t1⟩
      refine ⟨_, rfl, _, rfl, (by show 4 ≤ sizeLine; decide), fun p hp => ?_⟩
      have hcp : c ≠ p := ne_of_none h2 hp
      refine k p c cs t _ (fun b o e => ?_) ⟨upd_same, by rw [upd_ne hcp]; exact h2, hz, by omega, by omega, by omega, by omega, t0, t1⟩
      rw [upd_ne (ne_of_none (s2 b o e) hp)]
      exact s2 b o e
theorem ok_mixed (F : FnP K "_law_mixed" sMixed f fd) (T : Tx mg fM) : FnOk P w K mg base CX0 1 f fd ["_law_number", "_law_turn"] spMixed := by
  refine F.ok scM (fun vs H Q E h => ?_) (fun cdv A outer s H vs Q E hr h => ?_)
  · obtain ⟨n, t, rfl, _⟩ := h
    rfl
  · obtain ⟨n, t, rfl, n0, n1, t0, t1, k⟩ := h
    refine ⟨_, PSs.nox (pss_cons (ps_set (i := 2) scM.nd rfl (Or.inl rfl) (pe_op op_mod (pe_callTy call_int1 (by rfl) T.int PyProof.Rows.boot_int (pa_cons (pe_op op_add (pe_op op_add (pe_op op_mul (pv 0) pe_int) (pe_op op_mul (pv 1) pe_int)) pe_int) pa_nil)) pe_int))
      (pss_cons (ps_set (i := 3) scM.nd rfl (Or.inl rfl) (pe_op op_mod (pe_callTy call_int1 (by rfl) T.int PyProof.Rows.boot_int (pa_cons (pe_op op_add (pe_op op_add (pe_op op_mul (pv 2) (pv 2)) (pe_op op_mul (pv 1) pe_int)) (pe_op op_fdiv (pv 2) pe_int)) pa_nil)) pe_int))
      (pss_one (ps_ret (pe_op op_fdiv (pe_callTy call_int1 (by rfl) T.int PyProof.Rows.boot_int (pa_cons (pe_op op_mod (pe_callTy call_int1 (by rfl) T.int PyProof.Rows.boot_int (pa_cons (pe_op op_add (pe_op op_mul (pv 3) pe_int) (pe_op op_fdiv (pv 2) pe_int)) pa_nil)) pe_int) pa_nil)) pe_int))))), ?_⟩
    -- once
    refine ⟨_, rfl, _, _, rfl, rfl, .inr ⟨by decide, by decide⟩, _, rfl, _, _, rfl, rfl, .inr ⟨by decide, by decide⟩, _, _, rfl, rfl, _, _, rfl, rfl, .inl ⟨_, rfl, _, _, rfl, rfl, (by show (0 : Int) < 2147483399; decide), ?_⟩⟩
    generalize ho : (n * 39373 + t * 6151 + 50021) % 2147483399 = o
    have o0 : 0 ≤ o := by rw [← ho]; exact Int.emod_nonneg _ (by decide)
    have o1 : o < 2147483399 := by rw [← ho]; exact Int.emod_lt_of_pos _ (by decide)
    refine ⟨_, rfl, _, rfl, _, _, rfl, rfl, .inl ⟨by omega, by omega⟩, _, rfl, _, _, rfl, rfl, .inr ⟨by decide, by decide⟩, _, _, rfl, rfl, _, rfl, _, _, rfl, rfl, ⟨by decide, by decide⟩, _, _, rfl, rfl, .inl ⟨_, rfl, _, _, rfl, rfl, (by show (0 : Int) < 2147483629; decide), ?_⟩⟩
    generalize ht : (o * o + t * 81071 + o / 137) % 2147483629 = u
    have u0 : 0 ≤ u := by rw [← ht]; exact Int.emod_nonneg _ (by decide)
    refine ⟨_, rfl, _, _, rfl, rfl, .inr ⟨by decide, by decide⟩, _, rfl, _, _, rfl, rfl, ⟨by decide, by decide⟩, _, _, rfl, rfl, .inl ⟨_, rfl, _, _, rfl, rfl, (by show (0 : Int) < 2147483587; decide), .inl ⟨_, rfl, _, _, rfl, rfl, ⟨by decide, by decide⟩, ?_⟩⟩⟩
    exact k _ (Int.ediv_nonneg (Int.emod_nonneg _ (by decide)) (by decide))
theorem iteT' {b : Bool} {A B : Prop} (h : b = true) (k : A) : if b = true then A else B := by
  rw [if_pos h]
  exact k
theorem iteF' {b : Bool} {A B : Prop} (h : b = false) (k : B) : if b = true then A else B := by
  rw [if_neg (by rw [h]; exact Bool.false_ne_true)]
  exact k
theorem in_rest {x m : Int} (h : 0 < m) : 0 ≤ x % m ∧ x % m < m := ⟨Int.emod_nonneg _ (by omega), Int.emod_lt_of_pos _ h⟩
theorem div_ok {x m : Int} (h : 0 < m) (h2 : m < 2 ^ 64) : CDivW x m := wide_div (b := 64) h (by omega) (by decide) (by decide)
theorem ten18 : (10 : Int) ^ (18 : Int).toNat = 1000000000000000000 := by decide
theorem ok_take (F : FnP K "_law_take" sTake f fd) (FM : FnP K "_law_mixed" sMixed fM fdM) (T : Tx mg fM) : FnOk P w K mg base CX0 2 f fd ["_law_hand_here", "_law_many"] spTake := by
  have GM : FnOk P w K mg base CX0 1 fM fdM ["_law_number", "_law_turn"] spMixed := ok_mixed FM T
  have bM : Binds K fdM ["_law_number", "_law_turn"] [] := FM.bindsN fun _ _ _ _ _ _ us hl => match us, hl with | [_, _], _ => rfl
  refine F.ok scT (fun vs H Q E h => ?_) (fun cdv A outer s H vs Q E hr h => ?_)
  · obtain ⟨a, c, cs, p, g, t, m, rfl, _⟩ := h
    rfl
  · obtain ⟨a, c, cs, p, g, t, m, rfl, hh, m0, m1, k⟩ := h
    refine ⟨_, PSs.nox (Evl.pss_cut (ps_if (PW.pt (pw_and (pt_cmpR op_eq (pe_ix ix_list (pv 0) pe_int (fun _ _ => rfl)) pe_int (nomark _)) (pw_and1 (pt_cmpR op_lt (pe_ix ix_list (pv 0) pe_int (fun _ _ => rfl)) (pe_callB call_len (by rfl) T.len PySem.boot_len (pa_cons (pe_ix ix_list (pv 0) pe_int (fun _ _ => rfl)) pa_nil)) (nomark _)))))
        (pss_cons (ps_set (i := 2) scT.nd rfl (Or.inl rfl) (pe_ix ix_list (pe_ix ix_list (pv 0) pe_int (fun _ _ => rfl)) (pe_ix ix_list (pv 0) pe_int (fun _ _ => rfl)) (fun _ _ => rfl)))
        (pss_cons (ps_asg (pe_op op_add (pe_ix ix_list (pv 0) pe_int (fun _ _ => rfl)) pe_int) (pg_sub (pv 0) pe_int set_list))
        (pss_cons (ps_if (pt_cmpR op_lt (pv 2) (pe_op op_pow pe_int pe_int) (nomark _)) (pss_one (ps_ret (pe_op op_mod (pe_callTy call_int1 (by rfl) T.int PyProof.Rows.boot_int (pa_cons (pe_call GM hr rfl T.mixed FM.kp bM .nil pass0 (pa_cons (pe_op op_mod (pe_callTy call_int1 (by rfl) T.int PyProof.Rows.boot_int (pa_cons (pv 2) pa_nil)) pe_int) (pa_cons (pe_ix ix_list (pv 0) pe_int (fun _ _ => rfl)) pa_nil))) pa_nil)) (pv 1)))) pss_nil)
        (pss_one (ps_asg (pv 2) (pg_sub (pv 0) pe_int set_list)))))) pss_nil)
      (pss_cons (ps_if (pt_cmpR op_gt (pe_ix ix_list (pv 0) pe_int (fun _ _ => rfl)) pe_int (nomark _))
        (pss_cons (ps_set (i := 3) scT.nd rfl (Or.inl rfl) (pe_ix ix_list (pv 0) pe_int (fun _ _ => rfl)))
        (pss_cons (ps_asg (pe_op op_fdivW (pe_callTy call_int1 (by rfl) T.int PyProof.Rows.boot_int (pa_cons (pv 3) pa_nil)) (pv 1)) (pg_sub (pv 0) pe_int set_list))
        (pss_one (ps_ret (pe_op op_mod (pe_callTy call_int1 (by rfl) T.int PyProof.Rows.boot_int (pa_cons (pv 3) pa_nil)) (pv 1)))))) pss_nil)
      (pss_cons (ps_asg (pe_op op_mod (pe_callTy call_int1 (by rfl) T.int PyProof.Rows.boot_int (pa_cons (pe_op op_add (pe_ix ix_list (pv 0) pe_int (fun _ _ => rfl)) pe_int) pa_nil)) pe_int) (pg_sub (pv 0) pe_int set_list))
      (pss_one (ps_ret (pe_op op_mod (pe_callTy call_int1 (by rfl) T.int PyProof.Rows.boot_int (pa_cons (pe_call GM hr rfl T.mixed FM.kp bM .nil pass0 (pa_cons (pe_ix ix_list (pv 0) pe_int (fun _ _ => rfl)) (pa_cons (pe_ix ix_list (pv 0) pe_int (fun _ _ => rfl)) pa_nil))) pa_nil)) (pv 1))))))), ?_⟩
    have gm : ∀ x : Int, 0 ≤ x % m ∧ x % m < m := fun x => in_rest m0
    have h63 : (cs.map V.int).length ≤ 63 := by rw [List.length_map]; exact hh.le
    refine ⟨fun σ' H' => ∃ (p' g' : Int) (v : Option V), σ' = [some (.ref a), some (.int m), v, none] ∧ But a H H' ∧ HandAt H' a c cs p' g' t, ?_, ?_⟩
    · refine ⟨_, rfl, _, _, _, _, rfl, rfl, SqL.of hh.l, rfl, rfl, _, rfl, ?_⟩
      by_cases hg : g = 0
      · subst hg
        refine iteT' (decide_eq_true rfl) ?_
        refine ⟨_, rfl, _, _, _, _, rfl, rfl, SqL.of hh.l, rfl, _, rfl, _, _, _, _, rfl, rfl, SqL.of hh.l, rfl, _, _, rfl, Or.inl ⟨_, SqL.of hh.c, rfl⟩, _, _, rfl, rfl, _, rfl, ?_⟩
        rw [List.length_map]
        by_cases hp : p < (cs.length : Int)
        · refine iteT' (decide_eq_true hp) ?_
          obtain ⟨j, rfl⟩ : ∃ j : Nat, p = (j : Int) := ⟨p.toNat, by have := hh.p0; omega⟩
          have hj : j < cs.length := by omega
          have hv : (cs.map V.int)[j]? = some (.int cs[j]) := by rw [List.getElem?_map, List.getElem?_eq_getElem hj]; rfl
          have hz : 0 ≤ cs[j] := hh.n _ (List.getElem_mem hj)
          have hca : c ≠ a := hh.ne
          refine ⟨_, rfl, _, _, _, _, rfl, rfl, SqL.of hh.l, rfl, _, rfl, _, _, _, _, rfl, rfl, SqL.of hh.l, rfl, _, _, _, _, rfl, rfl, SqL.of hh.c, atI_nat hv, ?_⟩
          refine ⟨_, rfl, _, _, _, _, rfl, rfl, SqL.of hh.l, rfl, _, _, rfl, rfl, _, rfl, _, _, _, _, rfl, rfl, hh.l, rfl, ?_⟩
          have hh2 : HandAt (upd H a (.lst [.ref c, .int ((j : Int) + 1), .int 0, .int t])) a c cs ((j : Int) + 1) 0 t := ⟨upd_same, by rw [upd_ne hca]; exact hh.c, hh.n, hh.le, by omega, by omega, by omega, hh.t0, hh.t1⟩
          have b2 : But a H (upd H a (.lst [.ref c, .int ((j : Int) + 1), .int 0, .int t])) := fun b o hb e => by rw [upd_ne hb]; exact e
          refine ⟨_, rfl, _, _, rfl, rfl, ⟨by decide, by decide, by decide⟩, _, _, rfl, rfl, _, rfl, ?_⟩
          rw [ten18]
          by_cases hl : cs[j] < 1000000000000000000
          · refine iteT' (decide_eq_true hl) ?_
            have r0 : 0 ≤ cs[j] % 2147483399 := Int.emod_nonneg _ (by decide)
            have r1 : cs[j] % 2147483399 < 2147483399 := Int.emod_lt_of_pos _ (by decide)
            have := hh.le
            refine ⟨_, rfl, .inl ⟨_, rfl, _, _, rfl, rfl, (by show (0 : Int) < 2147483399; decide), _, rfl, _, _, _, _, rfl, rfl, SqL.of hh2.l, rfl, _, _, rfl, r0, by omega, by omega, by omega, fun r hr0 => .inl ⟨_, rfl, _, rfl, _, _, rfl, rfl, m0, ?_⟩⟩⟩
            exact k _ _ _ _ _ (gm r).1 (gm r).2 b2 hh2
          · refine iteF' (decide_eq_false hl) ?_
            refine ⟨_, rfl, _, rfl, _, _, _, _, rfl, rfl, hh2.l, rfl, (j : Int) + 1, cs[j], _, rfl, fun b o hb e => ?_, ?_⟩
            · rw [upd_ne hb]
              exact b2 b o hb e
            · exact ⟨upd_same, by rw [upd_ne hca]; exact hh2.c, hh2.n, hh2.le, hh2.p0, hh2.p1, hz, hh2.t0, hh2.t1⟩
        · refine iteF' (decide_eq_false hp) ?_
          exact ⟨_, _, _, rfl, fun _ _ _ e => e, hh⟩
      · refine iteF' (decide_eq_false fun z => hg (V.int.inj z)) ?_
        exact ⟨_, _, _, rfl, fun _ _ _ e => e, hh⟩
    · rintro σ' H' ⟨p', g', v, rfl, b1, h1⟩
      have hca : c ≠ a := h1.ne
      refine ⟨_, rfl, _, _, _, _, rfl, rfl, SqL.of h1.l, rfl, _, _, rfl, rfl, _, rfl, ?_⟩
      by_cases hg : 0 < g'
      · refine iteT' (decide_eq_true hg) ?_
        refine ⟨_, rfl, _, _, _, _, rfl, rfl, SqL.of h1.l, rfl, _, rfl, .inl ⟨_, rfl, _, rfl, _, _, rfl, rfl, div_ok m0 m1, _, rfl, _, _, _, _, rfl, rfl, h1.l, rfl, ?_⟩⟩
        refine ⟨_, rfl, .inl ⟨_, rfl, _, rfl, _, _, rfl, rfl, m0, ?_⟩⟩
        refine k _ p' (g' / m) t _ (gm g').1 (gm g').2 (fun b o hb e => ?_) ⟨upd_same, by rw [upd_ne hca]; exact h1.c, h1.n, h1.le, h1.p0, h1.p1, Int.ediv_nonneg (by omega) (by omega), h1.t0, h1.t1⟩
        rw [upd_ne hb]
        exact b1 b o hb e
      · refine iteF' (decide_eq_false hg) ?_
        have r0 : 0 ≤ (t + 1) % 2147483549 := Int.emod_nonneg _ (by decide)
        have r1 : (t + 1) % 2147483549 < 2147483549 := Int.emod_lt_of_pos _ (by decide)
        refine ⟨_, rfl, _, _, _, _, rfl, rfl, SqL.of h1.l, rfl, _, _, rfl, rfl, .inl ⟨_, rfl, _, _, rfl, rfl, (by show (0 : Int) < 2147483549; decide), _, rfl, _, _, _, _, rfl, rfl, h1.l, rfl, ?_⟩⟩
        have h2 : HandAt (upd H' a (.lst [.ref c, .int p', .int g', .int ((t + 1) % 2147483549)])) a c cs p' g' ((t + 1) % 2147483549) := ⟨upd_same, by rw [upd_ne hca]; exact h1.c, h1.n, h1.le, h1.p0, h1.p1, h1.g0, r0, by omega⟩
        have := h1.le
        have := h1.p1
        refine ⟨_, rfl, _, _, _, _, rfl, rfl, SqL.of h2.l, rfl, _, rfl, _, _, _, _, rfl, rfl, SqL.of h2.l, rfl, _, _, rfl, r0, by omega, h1.p0, by omega, fun r hr0 => .inl ⟨_, rfl, _, rfl, _, _, rfl, rfl, m0, ?_⟩⟩
        refine k _ _ _ _ _ (gm r).1 (gm r).2 (fun b o hb e => ?_) h2
        rw [upd_ne hb]
        exact b1 b o hb e
end
end Kq
set_option exponentiation.threshold 20000
namespace Dz
open PySem PySem.Spec PyProof.Rows L2
def tyD : PyData → String
  | .none => "NoneType"
  | .bool _ => "bool"
  | .int _ => "int"
  | .str _ => "str"
  | .list _ => "list"
  | .tuple _ => "tuple"
  | .dict _ => "dict"
def isaB (t c : String) : Bool := t == c || (t == "bool" && c == "int")
theorem kit_bi {K : PySem.W.Frag} (d : PyData) {c : String} (hc : c = "int" ∨ c = "bool" ∨ c = "list" ∨ c = "tuple") : PySem.W.kitOne K (.type (tyD d)) (.type c) = some (isaB (tyD d) c) := by
  rcases hc with rfl | rfl | rfl | rfl <;> cases d <;> kernel_rfl
/-- a tuple or a list of classes -/
theorem kit_lt {K : PySem.W.Frag} (d : PyData) : PySem.W.kitAny K (.type (tyD d)) [.type "list", .type "tuple"] = some (isaB (tyD d) "list" || isaB (tyD d) "tuple") := by
  unfold PySem.W.kitAny
  rw [kit_bi d (.inr (.inr (.inl rfl)))]
  unfold PySem.W.kitAny
  rw [kit_bi d (.inr (.inr (.inr rfl)))]
  unfold PySem.W.kitAny
  cases d <;> rfl
mutual
theorem dp_same {K : PySem.W.Frag} {H H' : Hp} (s : Same H H') : ∀ (d : PyData) (v : V), Dp K H v d → Dp K H' v d
  | .none, _, h => by cases h; exact .non
  | .bool b, _, h => by cases h; exact .bl b
  | .int i, _, h => by cases h; exact .int i
  | .str x, _, h => by cases h; exact .str x
  | .list ds, _, h => by
    cases h with
    | lst hs ha => exact .lst (Evl.ex_l s hs) (dp_sameAll s ds _ ha)
  | .tuple ds, _, h => by
    cases h with
    | tup hs ha => exact .tup (Evl.ex_t s hs) (dp_sameAll s ds _ ha)
  | .dict _, _, h => by cases h
theorem dp_sameAll {K : PySem.W.Frag} {H H' : Hp} (s : Same H H') : ∀ (ds : List PyData) (vs : List V), DpAll K H vs ds → DpAll K H' vs ds
  | [], _, h => by cases h; exact .nil
  | d :: ds, _, h => by
    cases h with
    | cons h1 h2 => exact .cons (dp_same s d _ h1) (dp_sameAll s ds _ h2)
end
section
variable {K : PySem.W.Frag} {H : Hp} {v : V} {d : PyData}
theorem ty_dp (h : Dp K H v d) : TyX K H v (.type (tyD d)) := by
  cases h with
  | non => exact .base .non
  | bl b => exact .base (.bl b)
  | int i => exact .base (.int i)
  | str x => exact .base (.str x)
  | lst hs _ =>
    rcases hs with (hs | ⟨o, hs⟩) | ⟨o, its, n, hk, hc, _⟩
    · exact .base (.lst hs)
    · exact .base (.frz hs)
    · exact .kList hk hc
  | tup hs _ =>
    rcases hs with (hs | ⟨o, hs⟩) | ⟨o, its, n, hk, hc, _⟩
    · exact .base (.tup hs)
    · exact .fTuple hs
    · exact .kTuple hk hc
/-- isinstance(v, c): what is asked -/
theorem rd_isi {c : String} {Q : VK} (h : Dp K H v d) (hc : c = "int" ∨ c = "bool" ∨ c = "list" ∨ c = "tuple") (q : Q (.bl (isaB (tyD d) c)) H) : rIsi K [v, .ty c] H Q :=
  ⟨v, .ty c, _, _, _, rfl, .ty c, ty_dp h, kit_bi d hc, q⟩
theorem rd_lt {p : Addr} {Q : VK} (h : Dp K H v d) (hp : H p = some (.tup [.ty "list", .ty "tuple"])) (q : Q (.bl (isaB (tyD d) "list" || isaB (tyD d) "tuple")) H) : rIsiT K [v, .ref p] H Q :=
  ⟨v, p, _, _, [.type "list", .type "tuple"], _, rfl, hp, .cons (.ty _) (.cons (.ty _) .nil), ty_dp h, kit_lt d, q⟩
end
/-- whole numbers, texts, None, couples of these .. -/
def Fine (d : PyData) : Prop := SeqAt.shaped d = true
theorem ifT {b : Bool} {A B : Prop} (h : b = true) (k : A) : if b = true then A else B := by
  rw [if_pos h]
  exact k
theorem ifF {b : Bool} {A B : Prop} (h : b = false) (k : B) : if b = true then A else B := by
  rw [if_neg (by rw [h]; exact Bool.false_ne_true)]
  exact k
theorem same_new {H : Hp} {a : Addr} {o : HO} (h : H a = none) : Same H (upd H a o) := fun b u e => by
  rw [upd_ne (ne_of_none e h)]
  exact e
/-- the limits of is_whole -/
def Lim : V → Option Int → Prop
  | .non, o => o = none
  | .int i, o => o = some i
  | _, _ => False
def wholeD : PyData → Option Int → Option Int → Bool
  | .int i, l, h => l.all (fun z => decide (z ≤ i)) && h.all (fun z => decide (i ≤ z))
  | _, _, _ => false
def ratioD : PyData → Bool
  | .tuple [.int t, .int b] => decide (1 ≤ b) && (Nat.gcd t.natAbs b.natAbs == 1)
  | _ => false
theorem dec1 (g : Nat) : decide (V.int (g : Int) = V.int 1) = (g == 1) := by
  by_cases z : g = 1
  · rw [z]
    rfl
  · rw [decide_eq_false fun q => z (by have := V.int.inj q; omega), beq_eq_false_iff_ne.mpr z]
/-- top and bottom in lowest terms -/
def divi (t b : Int) : Int := if b < 0 then -((Nat.gcd t.natAbs b.natAbs : Nat) : Int) else ((Nat.gcd t.natAbs b.natAbs : Nat) : Int)
def lowT (t b : Int) : Int := t.fdiv (divi t b)
def lowB (t b : Int) : Int := b.fdiv (divi t b)
/-- small enough for every deed: below a thousand bits and some -/
def Sm (i : Int) : Prop := i.natAbs < 2 ^ 1000
def Sm4 (i : Int) : Prop := i.natAbs < 2 ^ 4000
theorem divi_ne {t b : Int} (h : b ≠ 0) : divi t b ≠ 0 := by
  have h1 : 0 < Nat.gcd t.natAbs b.natAbs := Nat.gcd_pos_of_pos_right _ (by omega)
  unfold divi
  split <;> omega
theorem divi_abs {t b : Int} : (divi t b).natAbs = Nat.gcd t.natAbs b.natAbs := by
  unfold divi
  split <;> omega
theorem divi_le {t b : Int} (h : b ≠ 0) : (divi t b).natAbs ≤ b.natAbs := by
  rw [divi_abs]
  exact Nat.gcd_le_right _ (by omega)
/-- // by a wide number that is not 0 -/
def CDivZ (_ j : Int) : Prop := j ≠ 0 ∧ j.natAbs.log2 < 9000
theorem op_fdivZ {X : Cx} : OpR X (binaryOp .FloorDiv) (rI CDivZ fun i j => .int (i.fdiv j)) := opI fun _ _ _ _ _ _ _ hc q => floordiv_int hc.1 q (.inl (PyProof.noPylong_of_log2 hc.2))
theorem log_of {i : Int} {n : Nat} (h0 : 0 < n) (h : i.natAbs < 2 ^ n) : i.natAbs.log2 < n := PySem.Flt.log2_lt_of h0 h
end Dz
namespace Dz
open PySem PySem.Spec PyProof.Rows L2
theorem dp_tup {K : PySem.W.Frag} {H : Hp} {v : V} {ds : List PyData} (h : Dp K H v (.tuple ds)) : ∃ a xs, v = .ref a ∧ SqT K H a xs ∧ DpAll K H xs ds := by
  cases h with
  | tup hs ha => exact ⟨_, _, rfl, hs, ha⟩
theorem dpAll_cons {K : PySem.W.Frag} {H : Hp} {xs : List V} {d : PyData} {ds : List PyData} (h : DpAll K H xs (d :: ds)) : ∃ x r, xs = x :: r ∧ Dp K H x d ∧ DpAll K H r ds := by
  cases h with
  | cons h1 h2 => exact ⟨_, _, rfl, h1, h2⟩
theorem dpAll_nil {K : PySem.W.Frag} {H : Hp} {xs : List V} (h : DpAll K H xs []) : xs = [] := by
  cases h
  rfl
theorem dp_int {K : PySem.W.Frag} {H : Hp} {v : V} {i : Int} (h : Dp K H v (.int i)) : v = .int i := by
  cases h
  rfl
theorem dp_two {K : PySem.W.Frag} {H : Hp} {v : V} {t b : Int} (h : Dp K H v (.tuple [.int t, .int b])) : ∃ a, v = .ref a ∧ SqT K H a [.int t, .int b] := by
  obtain ⟨a, xs, e, hs, ha⟩ := dp_tup h
  obtain ⟨u, r, rfl, hu, hr⟩ := dpAll_cons ha
  obtain ⟨u2, r2, rfl, hu2, hr2⟩ := dpAll_cons hr
  have e3 := dpAll_nil hr2
  subst e3
  rw [dp_int hu, dp_int hu2] at hs
  exact ⟨a, e, hs⟩
theorem dp_of2 {K : PySem.W.Frag} {H : Hp} {a : Addr} {t b : Int} (hs : SqT K H a [.int t, .int b]) : Dp K H (.ref a) (.tuple [.int t, .int b]) := .tup hs (.cons (.int t) (.cons (.int b) .nil))
end Dz
set_option exponentiation.threshold 20000

namespace Ra
open PySem PySem.Spec PyProof.Rows L2 Dz
def top (i : Nat) : Stmt := PySem.Challenge.pw_sparedproducts_k00_whole_numbers_reckone.main.body.getD i (.Pass ⟨0, 0, 0, 0⟩)
abbrev FnP (K : PySem.W.Frag) (x : Str) (st : Stmt) (dvs : List V) (f : Addr) (fd : FuncData) : Prop := FunD K x x (defArgs st) (defBody st) (defScope st) dvs [] f fd
/-- the names of the module that stand for built-in things -/
structure Bn (mg : Str → Option Value) : Prop where
  len : mg "len" = none
  int : mg "int" = none
  abs : mg "abs" = none
  isinstance : mg "isinstance" = none
  bool : mg "bool" = none
  tuple : mg "tuple" = none
  list : mg "list" = none
  range : mg "range" = none
  ve : mg "ValueError" = none
  gcd : mg "gcd" = some (.builtin "math.gcd")
def spWhole (K : PySem.W.Frag) : Sp := fun vs H Q _ => ∃ (x lo hi : V) (d : PyData) (l h : Option Int), vs = [x, lo, hi] ∧ Dp K H x d ∧ Lim lo l ∧ Lim hi h ∧ Q (.bl (wholeD d l h)) H
def spSeq (K : PySem.W.Frag) : Sp := fun vs H Q _ => ∃ (x : V) (d : PyData), vs = [x] ∧ Dp K H x d ∧ ∀ H', Same H H' → Q (.bl (isaB (tyD d) "list" || isaB (tyD d) "tuple")) H'
def spGcd : Sp := fun vs H Q _ => ∃ a b : Int, vs = [.int a, .int b] ∧ Q (.int ((Nat.gcd a.natAbs b.natAbs : Nat) : Int)) H
def spRatio (K : PySem.W.Frag) : Sp := fun vs H Q _ => ∃ (x : V) (d : PyData), vs = [x] ∧ Dp K H x d ∧ Q (.bl (ratioD d)) H
/-- top over bottom in lowest terms, as a new couple -/
def spLow : Sp := fun vs H Q _ => ∃ t b : Int, vs = [.int t, .int b] ∧ b ≠ 0 ∧ Sm4 b ∧ ∀ p, H p = none → Q (.ref p) (upd H p (.tup [.int (lowT t b), .int (lowB t b)]))
/-- a deed of two ratios -/
def spDeed (K : PySem.W.Frag) (ft fb : Int → Int → Int → Int → Int) : Sp := fun vs H Q _ => ∃ (x y : Addr) (a b c d : Int), vs = [.ref x, .ref y] ∧ SqT K H x [.int a, .int b] ∧ SqT K H y [.int c, .int d] ∧ Sm a ∧ Sm b ∧ Sm c ∧ Sm d ∧ b ≠ 0 ∧ d ≠ 0 ∧
  ∀ p, H p = none → Q (.ref p) (upd H p (.tup [.int (lowT (ft a b c d) (fb a b c d)), .int (lowB (ft a b c d) (fb a b c d))]))
def plusT (a b c d : Int) : Int := a * d + c * b
def minusT (a b c d : Int) : Int := a * d - c * b
def timesT (a _ c _ : Int) : Int := a * c
def bothB (_ b _ d : Int) : Int := b * d
def cmpR (a b c d : Int) : Int := if a * d = c * b then 0 else if a * d < c * b then -1 else 1
def spCmp (K : PySem.W.Frag) : Sp := fun vs H Q _ => ∃ (x y : Addr) (a b c d : Int), vs = [.ref x, .ref y] ∧ SqT K H x [.int a, .int b] ∧ SqT K H y [.int c, .int d] ∧ Sm a ∧ Sm b ∧ Sm c ∧ Sm d ∧ Q (.int (cmpR a b c d)) H
theorem sm_mul {i j : Int} (a : Sm i) (b : Sm j) : CMulW i j := wide_mul a b (by decide) (by decide) (by decide)
theorem sm_prod {i j : Int} (a : Sm i) (b : Sm j) : (i * j).natAbs < 2 ^ 2000 := wide_lt a b
theorem sm4_of {i : Int} (a : i.natAbs < 2 ^ 2000) : Sm4 i := Nat.lt_of_lt_of_le a (Nat.pow_le_pow_right (by decide) (by decide))
theorem bothB_ne {b d : Int} (hb : b ≠ 0) (hd : d ≠ 0) : b * d ≠ 0 := Int.mul_ne_zero hb hd
section
variable {P : Program} {w : World} {K : PySem.W.Frag} {mg : Str → Option Value} {base : Heap} {f fL fW : Addr} {fd fdL fdW : FuncData}
theorem sc_is_whole : FnScope ["thing", "low", "high"] ["thing", "low", "high"] (defScope (top 8)) := ⟨rfl, rfl, rfl, by decide +kernel, rfl, by decide +kernel, by decide +kernel⟩
theorem ok_is_whole (F : FnP K "is_whole" (top 8) [.non, .non] f fd) (tx : Bn mg) : FnOk P w K mg base CX0 1 f fd ["thing", "low", "high"] (spWhole K) := by
  refine F.ok sc_is_whole (fun vs H Q E h => ?_) (fun cdv A outer s H vs Q E hr h => ?_)
  · obtain ⟨x, lo, hi, d, l, h, rfl, _⟩ := h; rfl
  · obtain ⟨x, lo, hi, d, l, u, rfl, hd, hl, hu, k⟩ := h
    refine ⟨_, PSs.nox (pss_cons (ps_if (PW.pt (pw_or (pt_not (pt_val (pe_callB call_isi (by rfl) tx.isinstance PyProof.Rows.boot_isinstance (pa_cons (pv 0) (pa_cons (pe_bltn (v := .ty "int") (by rfl) tx.int (by decide +kernel) rfl) pa_nil))))) (pw_or1 (pt_val (pe_callB call_isi (by rfl) tx.isinstance PyProof.Rows.boot_isinstance (pa_cons (pv 0) (pa_cons (pe_bltn (v := .ty "bool") (by rfl) tx.bool (by decide +kernel) rfl) pa_nil))))))) (pss_one (ps_ret pe_bl)) pss_nil)
      (pss_one (ps_ret (pe_and (pe_or (pe_cmpR op_isN (pv 1) pe_non (by rfl)) (pe_one (pe_cmpR op_ge (pv 0) (pv 1) (by rfl)))) (pe_one (pe_or (pe_cmpR op_isN (pv 2) pe_non (by rfl)) (pe_one (pe_cmpR op_le (pv 0) (pv 2) (by rfl))))))))), ?_⟩
    refine ⟨_, rfl, _, _, _, _, _, rfl, .ty _, ty_dp hd, kit_bi d (.inl rfl), _, rfl, ?_⟩
    cases d with
    | int i =>
      cases hd
      refine ifF rfl ⟨_, rfl, _, _, _, _, _, rfl, .ty _, ty_dp (.int i), kit_bi (.int i) (.inr (.inl rfl)), _, rfl, ifF rfl ?_⟩
      cases lo with
      | non =>
        have el : l = none := hl
        subst el
        refine ⟨_, rfl, rfl, _, rfl, ifT (decide_eq_true rfl) ⟨_, rfl, ifT rfl ?_⟩⟩
        cases hi with
        | non =>
          have eu : u = none := hu
          subst eu
          exact ⟨_, rfl, rfl, _, rfl, ifT (decide_eq_true rfl) k⟩
        | int z =>
          have eu : u = some z := hu
          subst eu
          exact ⟨_, rfl, rfl, _, rfl, ifF (decide_eq_false fun z => nomatch z) ⟨_, rfl, _, rfl, _, _, rfl, rfl, k⟩⟩
        | _ => exact hu.elim
      | int y =>
        have el : l = some y := hl
        subst el
        refine ⟨_, rfl, rfl, _, rfl, ifF (decide_eq_false fun z => nomatch z) ⟨_, rfl, _, rfl, _, _, rfl, rfl, _, rfl, ?_⟩⟩
        by_cases hy : y ≤ i
        · refine ifT (decide_eq_true hy) ?_
          have e1 : ((some y).all fun z => decide (z ≤ i)) = true := decide_eq_true hy
          have k2 : Q (.bl (u.all fun z => decide (i ≤ z))) H := by
            have k3 : Q (.bl (((some y).all fun z => decide (z ≤ i)) && (u.all fun z => decide (i ≤ z)))) H := k
            rw [e1, Bool.true_and] at k3
            exact k3
          cases hi with
          | non =>
            have eu : u = none := hu
            subst eu
            exact ⟨_, rfl, rfl, _, rfl, ifT (decide_eq_true rfl) k2⟩
          | int z =>
            have eu : u = some z := hu
            subst eu
            exact ⟨_, rfl, rfl, _, rfl, ifF (decide_eq_false fun z => nomatch z) ⟨_, rfl, _, rfl, _, _, rfl, rfl, k2⟩⟩
          | _ => exact hu.elim
        · refine ifF (decide_eq_false hy) ?_
          have e1 : ((some y).all fun z => decide (z ≤ i)) = false := decide_eq_false hy
          have k3 : Q (.bl (((some y).all fun z => decide (z ≤ i)) && (u.all fun z => decide (i ≤ z)))) H := k
          rw [e1, Bool.false_and] at k3
          exact k3
      | _ => exact hl.elim
    | bool b =>
      cases hd
      refine ifF rfl ⟨_, rfl, _, _, _, _, _, rfl, .ty _, ty_dp (.bl b), kit_bi (.bool b) (.inr (.inl rfl)), _, rfl, ifT rfl ?_⟩
      exact k
    | dict _ => cases hd
    | _ => exact ifT rfl k
theorem sc_is_sequence : FnScope ["thing"] ["thing"] (defScope (top 9)) := ⟨rfl, rfl, rfl, by decide +kernel, rfl, by decide +kernel, by decide +kernel⟩
theorem ok_is_sequence (F : FnP K "is_sequence" (top 9) [] f fd) (tx : Bn mg) : FnOk P w K mg base CX0 1 f fd ["thing"] (spSeq K) := by
  refine F.ok sc_is_sequence (fun vs H Q E h => ?_) (fun cdv A outer s H vs Q E hr h => ?_)
  · obtain ⟨x, d, rfl, _⟩ := h; rfl
  · obtain ⟨x, d, rfl, hd, k⟩ := h
    refine ⟨_, PSs.nox (pss_one (ps_ret (pe_callB call_isiT (by rfl) tx.isinstance PyProof.Rows.boot_isinstance (pa_cons (pv 0) (pa_cons (pe_tup (pa_cons (pe_bltn (v := .ty "list") (by rfl) tx.list (by decide +kernel) rfl) (pa_cons (pe_bltn (v := .ty "tuple") (by rfl) tx.tuple (by decide +kernel) rfl) pa_nil))) pa_nil))))), ?_⟩
    exact ⟨_, rfl, by show 2 ≤ sizeLine; decide, fun p hp => ⟨_, p, _, _, _, _, rfl, upd_same, .cons (.ty _) (.cons (.ty _) .nil), ty_dp (dp_same (same_new hp) _ _ hd), kit_lt d, k _ (same_new hp)⟩⟩
theorem sc_common_divisor : FnScope ["one", "other"] ["one", "other"] (defScope (top 10)) := ⟨rfl, rfl, rfl, by decide +kernel, rfl, by decide +kernel, by decide +kernel⟩
theorem ok_common_divisor (F : FnP K "common_divisor" (top 10) [] f fd) (tx : Bn mg) : FnOk P w K mg base CX0 1 f fd ["one", "other"] spGcd := by
  refine F.ok sc_common_divisor (fun vs H Q E h => ?_) (fun cdv A outer s H vs Q E hr h => ?_)
  · obtain ⟨a, b, rfl, _⟩ := h; rfl
  · obtain ⟨a, b, rfl, k⟩ := h
    refine ⟨_, PSs.nox (pss_one (ps_ret (pe_callBfun cr_gcd (by rfl) tx.gcd (pa_cons (pv 0) (pa_cons (pv 1) pa_nil))))), ?_⟩
    exact ⟨_, rfl, _, rfl, _, _, rfl, k⟩
theorem binds_whole (FW : FnP K "is_whole" (top 8) [.non, .non] fW fdW) : (∃ ds, Vals [.non, .non] ds ∧ L2.Binds K fdW ["thing", "low", "high"] ds) ∧ (∃ ds, Vals [.non] ds ∧ L2.Binds K fdW ["thing", "low", "high"] ds) ∧ L2.Binds K fdW ["thing", "low", "high"] [] := by
  refine ⟨FW.binds1 1 0 (by simp) rfl fun T kV doc pm an cdv ct us its h1 h2 => ?_, FW.binds1 2 1 (by simp) rfl fun T kV doc pm an cdv ct us its h1 h2 => ?_, ?_⟩
  · match us, its, h1, h2 with
    | [_], [_, _], _, _ => exact ⟨_, rfl, rfl⟩
  · match us, its, h1, h2 with
    | [_, _], [_, _], _, _ => exact ⟨_, rfl, by kernel_rfl⟩
  · obtain ⟨ds, r, b⟩ := FW.binds1 (ps := ["thing", "low", "high"]) 3 2 (by simp) rfl fun T kV doc pm an cdv ct us its h1 h2 => by
      match us, its, h1, h2 with
      | [_, _, _], [_, _], _, _ => exact ⟨_, rfl, by kernel_rfl⟩
    cases r
    exact b
theorem sc_is_ratio : FnScope ["thing", "top", "bottom"] ["thing"] (defScope (top 11)) := ⟨rfl, rfl, rfl, by decide +kernel, rfl, by decide +kernel, by decide +kernel⟩
theorem ok_is_ratio (F : FnP K "is_ratio" (top 11) [] f fd) (tx : Bn mg) (FW : FnP K "is_whole" (top 8) [.non, .non] fW fdW) (mW : mg "is_whole" = some (.ref fW)) : FnOk P w K mg base CX0 2 f fd ["thing"] (spRatio K) := by
  have GW : FnOk P w K mg base CX0 1 fW fdW ["thing", "low", "high"] (spWhole K) := ok_is_whole FW tx
  obtain ⟨⟨ds1, dW1, bW1⟩, ⟨ds2, dW2, bW2⟩, _⟩ := binds_whole FW
  refine F.ok sc_is_ratio (fun vs H Q E h => ?_) (fun cdv A outer s H vs Q E hr h => ?_)
  · obtain ⟨x, d, rfl, _⟩ := h; rfl
  · obtain ⟨x, d, rfl, hd, k⟩ := h
    refine ⟨_, PSs.nox (pss_cons (ps_if (PW.pt (pw_or (pt_not (pt_val (pe_callB call_isi (by rfl) tx.isinstance PyProof.Rows.boot_isinstance (pa_cons (pv 0) (pa_cons (pe_bltn (v := .ty "tuple") (by rfl) tx.tuple (by decide +kernel) rfl) pa_nil))))) (pw_or1 (pt_cmpR op_ne (pe_callB call_len_seq (by rfl) tx.len PySem.boot_len (pa_cons (pv 0) pa_nil)) pe_int (by rfl))))) (pss_one (ps_ret pe_bl)) pss_nil)
      (pss_cons (ps_asg (pv 0) (pg_tup rfl (pgs_cons (pg_name (i := 1) sc_is_ratio.nd rfl (Or.inl rfl)) (pgs_cons (pg_name (i := 2) sc_is_ratio.nd rfl (Or.inl rfl)) pgs_nil))))
      (pss_one (ps_ret (pe_and (pe_call GW hr (by rfl) mW FW.kp bW1 dW1 pass0 (pa_cons (pv 1) pa_nil)) (pe_and (pe_call GW hr (by rfl) mW FW.kp bW2 dW2 pass0 (pa_cons (pv 2) (pa_cons pe_int pa_nil))) (pe_one (pe_cmpR op_eq (pe_callBfun cr_gcd (by rfl) tx.gcd (pa_cons (pv 1) (pa_cons (pv 2) pa_nil))) pe_int (by rfl))))))))), ?_⟩
    refine ⟨_, rfl, _, _, _, _, _, rfl, .ty _, ty_dp hd, kit_bi d (.inr (.inr (.inr rfl))), _, rfl, ?_⟩
    cases d with
    | tuple ds =>
      cases hd with
      | @tup a xs _ hs ha =>
        refine ifF rfl ⟨_, rfl, a, xs, rfl, .inr hs, rfl, _, rfl, ?_⟩
        have hlen : xs.length = ds.length := by
          have go : ∀ {xs : List V} {ds : List PyData}, DpAll K H xs ds → xs.length = ds.length := by
            intro xs ds h
            induction ds generalizing xs with
            | nil => cases h; rfl
            | cons d ds ih =>
              cases h with
              | cons h1 h2 => rw [List.length_cons, List.length_cons, ih h2]
          exact go ha
        match xs, ds, ha, hlen with
        | [], [], _, _ => exact ifT rfl k
        | [_], [d0], _, _ =>
          have e : ratioD (.tuple [d0]) = false := by cases d0 <;> rfl
          rw [e] at k
          exact ifT rfl k
        | _ :: _ :: _ :: r, d0 :: d1 :: d2 :: r2, _, _ =>
          refine ifT ?_ ?_
          · have z : ¬ ((((r.length + 1 + 1 + 1 : Nat)) : Int) = 2) := by omega
            show (!decide (V.int ((r.length + 1 + 1 + 1 : Nat) : Int) = V.int 2)) = true
            rw [decide_eq_false fun e => z (V.int.inj e)]
            rfl
          · have e : ratioD (.tuple (d0 :: d1 :: d2 :: r2)) = false := by cases d0 <;> first | rfl | (cases d1 <;> rfl)
            rw [e] at k
            exact k
        | [x, y], [dx, dy], .cons hx (.cons hy .nil), _ =>
          refine ifF rfl ?_
          refine ⟨_, rfl, a, [x, y], rfl, hs, rfl, x, [y], rfl, y, [], rfl, rfl, ?_⟩
          refine ⟨_, rfl, x, .non, .non, dx, none, none, rfl, hx, rfl, rfl, _, rfl, ?_⟩
          cases dx with
          | int i =>
            cases hx
            refine ifT rfl ?_
            refine ⟨_, rfl, y, .int 1, .non, dy, some 1, none, rfl, hy, rfl, rfl, _, rfl, ?_⟩
            cases dy with
            | int j =>
              cases hy
              by_cases h1 : 1 ≤ j
              · refine ifT (by show (decide ((1 : Int) ≤ j) && true) = true; rw [decide_eq_true h1]; rfl) ?_
                refine ⟨_, rfl, _, rfl, _, _, rfl, rfl, ?_⟩
                have k2 : Q (.bl (decide (1 ≤ j) && (Nat.gcd i.natAbs j.natAbs == 1))) H := k
                rw [decide_eq_true h1, Bool.true_and, ← dec1] at k2
                exact k2
              · refine ifF (by show (decide ((1 : Int) ≤ j) && true) = false; rw [decide_eq_false h1]; rfl) ?_
                have k2 : Q (.bl (decide (1 ≤ j) && (Nat.gcd i.natAbs j.natAbs == 1))) H := k
                rw [decide_eq_false h1, Bool.false_and] at k2
                have e : wholeD (.int j) (some 1) none = false := by
                  show (decide ((1 : Int) ≤ j) && true) = false
                  rw [decide_eq_false h1]
                  rfl
                first
                  | exact k2
                  | (rw [e]; exact k2)
            | dict _ => cases hy
            | _ => exact ifF rfl k
          | dict _ => cases hx
          | _ => exact ifF rfl k
    | dict _ => cases hd
    | _ => exact ifT rfl k
theorem sc_low : FnScope ["top", "bottom", "divisor"] ["top", "bottom"] (defScope (top 13)) := ⟨rfl, rfl, rfl, by decide +kernel, rfl, by decide +kernel, by decide +kernel⟩
theorem ok_low (F : FnP K "in_lowest_terms" (top 13) [] f fd) (tx : Bn mg) : FnOk P w K mg base CX0 1 f fd ["top", "bottom"] spLow := by
  refine F.ok sc_low (fun vs H Q E h => ?_) (fun cdv A outer s H vs Q E hr h => ?_)
  · obtain ⟨a, b, rfl, _⟩ := h; rfl
  · obtain ⟨t, b, rfl, hb, sb, k⟩ := h
    have hz : CDivZ 0 (divi t b) := ⟨divi_ne hb, log_of (by decide) (Nat.lt_of_le_of_lt (divi_le hb) (Nat.lt_of_lt_of_le sb (Nat.pow_le_pow_right (by decide) (by decide : 4000 ≤ 9000))))⟩
    refine ⟨_, PSs.nox (pss_cons (ps_set (i := 2) sc_low.nd rfl (Or.inl rfl) (pe_callBfun cr_gcd (by rfl) tx.gcd (pa_cons (pv 0) (pa_cons (pv 1) pa_nil))))
      (pss_cons (ps_if (pt_cmpR op_lt (pv 1) pe_int (by rfl)) (pss_one (ps_set (i := 2) sc_low.nd rfl (Or.inl rfl) (pe_un un_neg (pv 2)))) pss_nil)
      (pss_one (ps_ret (pe_tup (pa_cons (pe_op op_fdivZ (pv 0) (pv 2)) (pa_cons (pe_op op_fdivZ (pv 1) (pv 2)) pa_nil))))))), ?_⟩
    refine ⟨_, rfl, _, rfl, _, _, rfl, ?_⟩
    refine ⟨_, rfl, _, _, rfl, rfl, _, rfl, ?_⟩
    have fin : ∀ g : Int, g = divi t b → CDivZ 0 g ∧ ∀ p, H p = none → Q (.ref p) (upd H p (.tup [.int (t.fdiv g), .int (b.fdiv g)])) := fun g e => by
      subst e
      exact ⟨hz, k⟩
    by_cases h0 : b < 0
    · obtain ⟨z, k2⟩ := fin (-((Nat.gcd t.natAbs b.natAbs : Nat) : Int)) (by unfold divi; rw [if_pos h0])
      refine ifT (decide_eq_true h0) ?_
      exact ⟨_, rfl, _, rfl, _, rfl, _, rfl, _, _, rfl, rfl, z, _, rfl, _, rfl, _, _, rfl, rfl, z, by show 2 ≤ sizeLine; decide, fun p hp => k2 p hp⟩
    · obtain ⟨z, k2⟩ := fin ((Nat.gcd t.natAbs b.natAbs : Nat) : Int) (by unfold divi; rw [if_neg h0])
      refine ifF (decide_eq_false h0) ?_
      exact ⟨_, rfl, _, rfl, _, _, rfl, rfl, z, _, rfl, _, rfl, _, _, rfl, rfl, z, by show 2 ≤ sizeLine; decide, fun p hp => k2 p hp⟩
theorem sc_ratio_plus : FnScope ["one", "other"] ["one", "other"] (defScope (top 14)) := ⟨rfl, rfl, rfl, by decide +kernel, rfl, by decide +kernel, by decide +kernel⟩
theorem ok_ratio_plus (F : FnP K "ratio_plus" (top 14) [] f fd) (tx : Bn mg) (FL : FnP K "in_lowest_terms" (top 13) [] fL fdL) (mL : mg "in_lowest_terms" = some (.ref fL)) : FnOk P w K mg base CX0 2 f fd ["one", "other"] (spDeed K plusT bothB) := by
  have GL : FnOk P w K mg base CX0 1 fL fdL ["top", "bottom"] spLow := ok_low FL tx
  have bL : L2.Binds K fdL ["top", "bottom"] [] := FL.bindsN fun _ _ _ _ _ _ us hl => match us, hl with | [_, _], _ => rfl
  refine F.ok sc_ratio_plus (fun vs H Q E h => ?_) (fun cdv A outer s H vs Q E hr h => ?_)
  · obtain ⟨x, y, a, b, c, d, rfl, _⟩ := h; rfl
  · obtain ⟨x, y, a, b, c, d, rfl, hx, hy, sa, sb, sc, sd, nb, nd, k⟩ := h
    refine ⟨_, PSs.nox (pss_one (ps_ret (pe_call GL hr (by rfl) mL FL.kp bL .nil pass0 (pa_cons (pe_op op_add (pe_op op_mulW (pe_ix ix_tup (pv 0) pe_int (fun _ _ => rfl)) (pe_ix ix_tup (pv 1) pe_int (fun _ _ => rfl))) (pe_op op_mulW (pe_ix ix_tup (pv 1) pe_int (fun _ _ => rfl)) (pe_ix ix_tup (pv 0) pe_int (fun _ _ => rfl)))) (pa_cons (pe_op op_mulW (pe_ix ix_tup (pv 0) pe_int (fun _ _ => rfl)) (pe_ix ix_tup (pv 1) pe_int (fun _ _ => rfl))) pa_nil))))), ?_⟩
    exact ⟨_, rfl, _, _, _, _, rfl, rfl, hx, rfl, _, rfl, _, _, _, _, rfl, rfl, hy, rfl, _, _, rfl, rfl, sm_mul sa sd, _, rfl, _, _, _, _, rfl, rfl, hy, rfl, _, rfl, _, _, _, _, rfl, rfl, hx, rfl, _, _, rfl, rfl, sm_mul sc sb, _, _, rfl, rfl, _, rfl, _, _, _, _, rfl, rfl, hx, rfl, _, rfl, _, _, _, _, rfl, rfl, hy, rfl, _, _, rfl, rfl, sm_mul sb sd, _, _, rfl, bothB_ne nb nd, sm4_of (sm_prod sb sd), k⟩
theorem sc_ratio_minus : FnScope ["one", "other"] ["one", "other"] (defScope (top 15)) := ⟨rfl, rfl, rfl, by decide +kernel, rfl, by decide +kernel, by decide +kernel⟩
theorem ok_ratio_minus (F : FnP K "ratio_minus" (top 15) [] f fd) (tx : Bn mg) (FL : FnP K "in_lowest_terms" (top 13) [] fL fdL) (mL : mg "in_lowest_terms" = some (.ref fL)) : FnOk P w K mg base CX0 2 f fd ["one", "other"] (spDeed K minusT bothB) := by
  have GL : FnOk P w K mg base CX0 1 fL fdL ["top", "bottom"] spLow := ok_low FL tx
  have bL : L2.Binds K fdL ["top", "bottom"] [] := FL.bindsN fun _ _ _ _ _ _ us hl => match us, hl with | [_, _], _ => rfl
  refine F.ok sc_ratio_minus (fun vs H Q E h => ?_) (fun cdv A outer s H vs Q E hr h => ?_)
  · obtain ⟨x, y, a, b, c, d, rfl, _⟩ := h; rfl
  · obtain ⟨x, y, a, b, c, d, rfl, hx, hy, sa, sb, sc, sd, nb, nd, k⟩ := h
    refine ⟨_, PSs.nox (pss_one (ps_ret (pe_call GL hr (by rfl) mL FL.kp bL .nil pass0 (pa_cons (pe_op op_sub (pe_op op_mulW (pe_ix ix_tup (pv 0) pe_int (fun _ _ => rfl)) (pe_ix ix_tup (pv 1) pe_int (fun _ _ => rfl))) (pe_op op_mulW (pe_ix ix_tup (pv 1) pe_int (fun _ _ => rfl)) (pe_ix ix_tup (pv 0) pe_int (fun _ _ => rfl)))) (pa_cons (pe_op op_mulW (pe_ix ix_tup (pv 0) pe_int (fun _ _ => rfl)) (pe_ix ix_tup (pv 1) pe_int (fun _ _ => rfl))) pa_nil))))), ?_⟩
    exact ⟨_, rfl, _, _, _, _, rfl, rfl, hx, rfl, _, rfl, _, _, _, _, rfl, rfl, hy, rfl, _, _, rfl, rfl, sm_mul sa sd, _, rfl, _, _, _, _, rfl, rfl, hy, rfl, _, rfl, _, _, _, _, rfl, rfl, hx, rfl, _, _, rfl, rfl, sm_mul sc sb, _, _, rfl, rfl, _, rfl, _, _, _, _, rfl, rfl, hx, rfl, _, rfl, _, _, _, _, rfl, rfl, hy, rfl, _, _, rfl, rfl, sm_mul sb sd, _, _, rfl, bothB_ne nb nd, sm4_of (sm_prod sb sd), k⟩
theorem sc_ratio_times : FnScope ["one", "other"] ["one", "other"] (defScope (top 16)) := ⟨rfl, rfl, rfl, by decide +kernel, rfl, by decide +kernel, by decide +kernel⟩
theorem ok_ratio_times (F : FnP K "ratio_times" (top 16) [] f fd) (tx : Bn mg) (FL : FnP K "in_lowest_terms" (top 13) [] fL fdL) (mL : mg "in_lowest_terms" = some (.ref fL)) : FnOk P w K mg base CX0 2 f fd ["one", "other"] (spDeed K timesT bothB) := by
  have GL : FnOk P w K mg base CX0 1 fL fdL ["top", "bottom"] spLow := ok_low FL tx
  have bL : L2.Binds K fdL ["top", "bottom"] [] := FL.bindsN fun _ _ _ _ _ _ us hl => match us, hl with | [_, _], _ => rfl
  refine F.ok sc_ratio_times (fun vs H Q E h => ?_) (fun cdv A outer s H vs Q E hr h => ?_)
  · obtain ⟨x, y, a, b, c, d, rfl, _⟩ := h; rfl
  · obtain ⟨x, y, a, b, c, d, rfl, hx, hy, sa, sb, sc, sd, nb, nd, k⟩ := h
    refine ⟨_, PSs.nox (pss_one (ps_ret (pe_call GL hr (by rfl) mL FL.kp bL .nil pass0 (pa_cons (pe_op op_mulW (pe_ix ix_tup (pv 0) pe_int (fun _ _ => rfl)) (pe_ix ix_tup (pv 1) pe_int (fun _ _ => rfl))) (pa_cons (pe_op op_mulW (pe_ix ix_tup (pv 0) pe_int (fun _ _ => rfl)) (pe_ix ix_tup (pv 1) pe_int (fun _ _ => rfl))) pa_nil))))), ?_⟩
    exact ⟨_, rfl, _, _, _, _, rfl, rfl, hx, rfl, _, rfl, _, _, _, _, rfl, rfl, hy, rfl, _, _, rfl, rfl, sm_mul sa sc, _, rfl, _, _, _, _, rfl, rfl, hx, rfl, _, rfl, _, _, _, _, rfl, rfl, hy, rfl, _, _, rfl, rfl, sm_mul sb sd, _, _, rfl, bothB_ne nb nd, sm4_of (sm_prod sb sd), k⟩
theorem sc_ratio_compare : FnScope ["one", "other", "left", "right"] ["one", "other"] (defScope (top 18)) := ⟨rfl, rfl, rfl, by decide +kernel, rfl, by decide +kernel, by decide +kernel⟩
theorem ok_ratio_compare (F : FnP K "ratio_compare" (top 18) [] f fd)  : FnOk P w K mg base CX0 1 f fd ["one", "other"] (spCmp K) := by
  refine F.ok sc_ratio_compare (fun vs H Q E h => ?_) (fun cdv A outer s H vs Q E hr h => ?_)
  · obtain ⟨x, y, a, b, c, d, rfl, _⟩ := h; rfl
  · obtain ⟨x, y, a, b, c, d, rfl, hx, hy, sa, sb, sc, sd, k⟩ := h
    refine ⟨_, PSs.nox (pss_cons (ps_set (i := 2) sc_ratio_compare.nd rfl (Or.inl rfl) (pe_op op_mulW (pe_ix ix_tup (pv 0) pe_int (fun _ _ => rfl)) (pe_ix ix_tup (pv 1) pe_int (fun _ _ => rfl))))
      (pss_cons (ps_set (i := 3) sc_ratio_compare.nd rfl (Or.inl rfl) (pe_op op_mulW (pe_ix ix_tup (pv 1) pe_int (fun _ _ => rfl)) (pe_ix ix_tup (pv 0) pe_int (fun _ _ => rfl))))
      (pss_cons (ps_if (pt_cmpR op_eq (pv 2) (pv 3) (by rfl)) (pss_one (ps_ret pe_int)) pss_nil)
      (pss_one (ps_ret (pe_ifExp (pt_cmpR op_lt (pv 2) (pv 3) (by rfl)) (pe_un un_neg pe_int) pe_int)))))), ?_⟩
    refine ⟨_, rfl, _, _, _, _, rfl, rfl, hx, rfl, _, rfl, _, _, _, _, rfl, rfl, hy, rfl, _, _, rfl, rfl, sm_mul sa sd, _, rfl, _, _, _, _, rfl, rfl, hy, rfl, _, rfl, _, _, _, _, rfl, rfl, hx, rfl, _, _, rfl, rfl, sm_mul sc sb, _, rfl, _, rfl, rfl, _, rfl, ?_⟩
    by_cases h1 : a * d = c * b
    · refine ifT (decide_eq_true (congrArg V.int h1)) ?_
      have e : cmpR a b c d = 0 := if_pos h1
      rw [e] at k
      exact k
    · refine ifF (decide_eq_false fun z => h1 (V.int.inj z)) ⟨_, rfl, _, rfl, _, _, rfl, rfl, _, rfl, ?_⟩
      by_cases h2 : a * d < c * b
      · refine ifT (decide_eq_true h2) ⟨_, rfl, ?_⟩
        have e : cmpR a b c d = -1 := by unfold cmpR; rw [if_neg h1, if_pos h2]
        rw [e] at k
        exact k
      · refine ifF (decide_eq_false h2) ?_
        have e : cmpR a b c d = 1 := by unfold cmpR; rw [if_neg h1, if_neg h2]
        rw [e] at k
        exact k
end
end Ra
set_option maxHeartbeats 2000000
set_option exponentiation.threshold 20000
namespace Mt
open PySem PySem.Spec L2 Dz
theorem divi_dvd_t {t b : Int} : divi t b ∣ t := by
  have h : ((Nat.gcd t.natAbs b.natAbs : Nat) : Int) ∣ t := Int.ofNat_dvd_left.mpr (Nat.gcd_dvd_left ..)
  unfold divi
  split
  · exact Int.neg_dvd.mpr h
  · exact h
theorem divi_dvd_b {t b : Int} : divi t b ∣ b := by
  have h : ((Nat.gcd t.natAbs b.natAbs : Nat) : Int) ∣ b := Int.ofNat_dvd_left.mpr (Nat.gcd_dvd_right ..)
  unfold divi
  split
  · exact Int.neg_dvd.mpr h
  · exact h
theorem lowT_abs {t b : Int} : (lowT t b).natAbs = t.natAbs / Nat.gcd t.natAbs b.natAbs := by
  unfold lowT
  rw [Int.fdiv_eq_ediv_of_dvd divi_dvd_t, Int.natAbs_ediv_of_dvd divi_dvd_t, divi_abs]
theorem lowB_abs {t b : Int} : (lowB t b).natAbs = b.natAbs / Nat.gcd t.natAbs b.natAbs := by
  unfold lowB
  rw [Int.fdiv_eq_ediv_of_dvd divi_dvd_b, Int.natAbs_ediv_of_dvd divi_dvd_b, divi_abs]
theorem lowB_pos {t b : Int} (h : b ≠ 0) : 1 ≤ lowB t b := by
  have e : lowB t b * divi t b = b := by
    unfold lowB
    rw [Int.fdiv_eq_ediv_of_dvd divi_dvd_b]
    exact Int.ediv_mul_cancel divi_dvd_b
  have g : 0 < Nat.gcd t.natAbs b.natAbs := Nat.gcd_pos_of_pos_right _ (by omega)
  by_cases h0 : b < 0
  · have d : divi t b < 0 := by unfold divi; rw [if_pos h0]; omega
    refine Classical.byContradiction fun z => ?_
    have z2 : 0 ≤ lowB t b * divi t b := Int.mul_nonneg_of_nonpos_of_nonpos (by omega) (by omega)
    omega
  · have d : 0 < divi t b := by unfold divi; rw [if_neg h0]; omega
    refine Classical.byContradiction fun z => ?_
    have z2 : lowB t b * divi t b ≤ 0 := Int.mul_nonpos_of_nonpos_of_nonneg (by omega) (by omega)
    omega
theorem low_gcd {t b : Int} (h : b ≠ 0) : Nat.gcd (lowT t b).natAbs (lowB t b).natAbs = 1 := by
  rw [lowT_abs, lowB_abs]
  exact Nat.gcd_div_gcd_div_gcd_of_pos_right (by omega)
/-- a couple in lowest terms is a ratio -/
def Low (t b : Int) : Prop := 1 ≤ b ∧ Nat.gcd t.natAbs b.natAbs = 1
theorem low_low {t b : Int} (h : b ≠ 0) : Low (lowT t b) (lowB t b) := ⟨lowB_pos h, low_gcd h⟩
theorem ratioD_low {t b : Int} (h : Low t b) : ratioD (.tuple [.int t, .int b]) = true := by
  show (decide (1 ≤ b) && (Nat.gcd t.natAbs b.natAbs == 1)) = true
  rw [decide_eq_true h.1, h.2]
  rfl
theorem lowT_le {t b : Int} : (lowT t b).natAbs ≤ t.natAbs := by
  rw [lowT_abs]
  exact Nat.div_le_self ..
theorem lowB_le {t b : Int} : (lowB t b).natAbs ≤ b.natAbs := by
  rw [lowB_abs]
  exact Nat.div_le_self ..
/-- a drawn fraction -/
structure Frac (t b : Int) : Prop where
  low : Low t b
  t1 : t.natAbs ≤ 1000000000
  b1 : b ≤ 12
theorem frac_low {t b : Int} (h1 : t.natAbs ≤ 1000000000) (h2 : 1 ≤ b) (h3 : b ≤ 12) : Frac (lowT t b) (lowB t b) := by
  refine ⟨low_low (by omega), Nat.le_trans lowT_le h1, ?_⟩
  have := lowB_le (t := t) (b := b)
  omega
theorem pow64 : (2 : Nat) ^ 64 ≤ 2 ^ 1000 := Nat.pow_le_pow_right (by decide) (by decide)
theorem sm_of {i : Int} (h : i.natAbs < 2 ^ 64) : Sm i := Nat.lt_of_lt_of_le h pow64
theorem sm4_of64 {i : Int} (h : i.natAbs < 2 ^ 64) : Sm4 i := Nat.lt_of_lt_of_le h (Nat.pow_le_pow_right (by decide) (by decide))
theorem Frac.smT {t b : Int} (h : Frac t b) : Sm t := sm_of (by have := h.t1; omega)
theorem Frac.smB {t b : Int} (h : Frac t b) : Sm b := sm_of (by have := h.b1; have := h.low.1; omega)
theorem Frac.ne {t b : Int} (h : Frac t b) : b ≠ 0 := by have := h.low.1; omega
theorem mul_lt64 {i j : Int} (hi : i.natAbs ≤ 2 ^ 31) (hj : j.natAbs ≤ 2 ^ 31) : (i * j).natAbs ≤ 2 ^ 62 := by
  rw [Int.natAbs_mul]
  exact Nat.le_trans (Nat.mul_le_mul hi hj) (by decide)
theorem Frac.a31 {t b : Int} (h : Frac t b) : t.natAbs ≤ 2 ^ 31 := by have := h.t1; omega
theorem Frac.b31 {t b : Int} (h : Frac t b) : b.natAbs ≤ 2 ^ 31 := by have := h.b1; have := h.low.1; omega
theorem half {x y : Nat} (hy : 0 < y) (h : y ≤ x) : 2 * (x % y) ≤ x := by
  have h1 := Nat.mod_lt x hy
  have h2 := Nat.div_add_mod x y
  have h3 : 1 ≤ x / y := Nat.div_pos h hy
  have h4 : y * 1 ≤ y * (x / y) := Nat.mul_le_mul_left y h3
  omega
theorem step_lt {x y n : Nat} (hy : 0 < y) (h : y ≤ x) (hl : x * y < 2 ^ (n + 1)) : y * (x % y) < 2 ^ n := by
  have h1 := half hy h
  have h2 : y * (2 * (x % y)) ≤ y * x := Nat.mul_le_mul_left y h1
  have e : y * (2 * (x % y)) = 2 * (y * (x % y)) := by
    rw [← Nat.mul_assoc, Nat.mul_comm y 2, Nat.mul_assoc]
  rw [e, Nat.mul_comm y x] at h2
  rw [Nat.pow_succ] at hl
  omega
theorem gcd_step (x y : Nat) : Nat.gcd y (x % y) = Nat.gcd x y := by
  rw [Nat.gcd_comm x y, Nat.gcd_rec y x, Nat.gcd_comm]
theorem undo {i j r p : Int} (h0 : 0 ≤ i) (h1 : i < p) (h : j * r % p = 1) : i * r % p * j % p = i := by
  have e : i * r % p * j % p = i * r * j % p := by
    rw [Int.mul_emod (i * r % p) j p, Int.emod_emod_of_dvd _ (Int.dvd_refl p), ← Int.mul_emod]
  have e2 : i * r * j = i * (j * r) := by
    rw [Int.mul_assoc, Int.mul_comm r j]
  rw [e, e2, Int.mul_emod, h, Int.mul_one, Int.emod_emod_of_dvd _ (Int.dvd_refl p), Int.emod_eq_of_lt h0 h1]
theorem undo0 {a b r p : Int} (h : b % p * r % p = 1) : (a % p * r % p * b - a) % p = 0 := by
  have e : a % p * r % p * b % p = a % p := by
    rw [Int.mul_emod (a % p * r % p) b p, Int.emod_emod_of_dvd _ (Int.dvd_refl p), ← Int.mul_emod]
    have e2 : a % p * r * b % p = a % p * (b % p * r) % p := by
      rw [Int.mul_assoc, Int.mul_emod (a % p) (r * b) p, Int.mul_comm r b, Int.mul_emod b r p, Int.mul_emod (a % p) (b % p * r) p, Int.mul_emod (b % p) r p]
      rw [Int.emod_emod_of_dvd b (Int.dvd_refl p)]
    rw [e2, Int.mul_emod, h, Int.mul_one, Int.emod_emod_of_dvd _ (Int.dvd_refl p), Int.emod_emod_of_dvd _ (Int.dvd_refl p)]
  rw [Int.sub_emod, e, Int.sub_self, Int.zero_emod]
end Mt
namespace Re
open PySem PySem.Spec PyProof.Rows L2 Kx Ky
section
variable {X : Cx} {C : Addr}
theorem pmk_bare {x : Str} {p pos : Pos} (q : PySem.W.excIn X.K C PySem.HandSPX.veTail "ValueError.__new__" = true) (gC : X.mg x = some (.ref C)) (kC : PySem.W.keepIn X.K (.ref C) = true) (r : Raises X (.ref C)) (hg : Gl X x) (hdb : (x == ("__debug__" : Str)) = false := by decide) :
    PMk X (.Call (.Name x p) [] [] pos) (fun _ H Q => Q (.ref C) none H) := by
  intro pins s σ H Q I h
  refine wpAny_Call_Name_kw (ld_glob I hg gC (PySem.W.callWith_K0 I.kIn kC ?_) hdb)
  show wpAny _ _ (call (.ref C) []) _ _ _
  obtain ⟨bm, N, nm, qn, bs, hdct, sn, sub, ab, col, dd, k0, k1, k2, k3, k5, mN, hC, hN, hni, T⟩ := exc_obj I.kIn q
  exact wpAny_call_exc_subT PySem.F.excBase_ValueError T hC hN hni (fun h' e hm => mk_of I hm r h (I.hok.gone hm.new)) (Nat.zero_le _)
end
/-- what the held exception is: of the class at C; its dict, where it has one, holds fs -/
def Hd (H : Hp) (cls : Value) (d : Option Addr) (C : Addr) : Prop := cls = .ref C ∧ (d = none ∨ ∃ dd fs, d = some dd ∧ H dd = some (.xd fs))
/-- isinstance(e, c), e the exception that a suite holds -/
def rIsS (K : PySem.W.Frag) (P a : Addr) (cls : Value) (d : Option Addr) : List V → Hp → VK → Prop := fun xs H Q => ∃ (C : Addr) (c : V) (cv : Value) (b : Bool), xs = [.ref a, c] ∧ Hd H cls d C ∧ Er K P C ∧ rIsX.ClsW c cv ∧ PySem.W.kitOne K (.ref C) cv = some b ∧ Q (.bl b) H
theorem call_isS {X : Cx} {P a : Addr} {oe : Obj} {cls : Value} {d : Option Addr} {pn : List (Addr × Obj)} (g : Gt X.K) (hz : Zc cls d oe) (hf : ∃ vs, oe.data = .fields vs) : CallR (X.suite a ((a, oe) :: pn)) (.builtin "isinstance") (rIsS X.K P a cls d) := by
  intro pins s σ H xs us Q I r h
  obtain ⟨C, c, cv, b, rfl, ⟨rfl, hd⟩, er, hc, e, q⟩ := h
  obtain ⟨u1, u2, rfl, r1, r2⟩ := vals2 r
  cases (show u1 = Value.ref a from r1)
  have e2 : u2 = cv := by
    cases c with
    | ty n => exact (show u2 = Value.type n from r2).trans (show cv = Value.type n from hc).symm
    | ref D => exact (show u2 = Value.ref D from r2).trans (show cv = Value.ref D from hc).symm
    | _ => exact False.elim hc
  subst e2
  obtain ⟨ho, _⟩ := I.pin (a, oe) (List.mem_append_left _ (List.mem_cons_self ..))
  obtain ⟨vs, hv⟩ := hf
  have no : PySem.W.notCls oe = true := by unfold PySem.W.notCls; rw [hv] <;> rfl
  have fin : ∀ od, PySem.W.InstAt s.heap a oe C od → wpAny (model X.prog X.w) (X.suite a ((a, oe) :: pn)).A (call (.builtin "isinstance") [.ref a, u2]) (EP (X.suite a ((a, oe) :: pn)) pins σ Q) (X.suite a ((a, oe) :: pn)).xe s := fun od J =>
    PySem.W.kia_one (er.kit g) I.kIn J e (fun z => nomatch z) fun tk => ⟨.bl b, H, I.tok tk, rfl, q⟩
  rcases hd with rfl | ⟨dd, fs, rfl, hd⟩
  · exact fin none ⟨ho, hz.1, no, by rw [hz.2]; trivial⟩
  · obtain ⟨mA, hns, rel⟩ := (show ObjOk X.prog X.w H s.heap dd (.xd fs) from I.hok dd _ hd)
    obtain ⟨od, hod, _⟩ := lookIn_ns hns
    exact fin (some od) ⟨ho, hz.1, no, by rw [hz.2]; exact hod⟩
end Re
namespace Re
open PySem PySem.Spec PyProof.Rows L2 Kx Ky
theorem same_in {H H' : Hp} {a : Addr} {o : HO} (h : H a = none) (k : ∀ b u, b ≠ a → (upd H a o) b = some u → H' b = some u) : Same H H' := fun b u e =>
  k b u (ne_of_none e h) (by rw [upd_ne (ne_of_none e h)]; exact e)
theorem same_gone {H H' : Hp} {a d : Addr} {o o2 : HO} (ha : H a = none) (hd : H d = none) (k : ∀ b u, b ≠ a → (upd H a o) b = some u → H' b = some u) : Same H (upd (del H' a) d o2) := fun b u e => by
  rw [upd_ne (ne_of_none e hd), del_ne (ne_of_none e ha)]
  exact same_in ha k b u e
/-- what is asked where an error with one field is raised -/
theorem rd_mk1 {C : Addr} {f : Str} {v : V} {H : Hp} {Q : XK} (k : ∀ d H', Same H H' → H' d = some (.xd [(f, v)]) → Q (.ref C) (some d) H') :
    [v].length ≤ 1000 ∧ ∀ a, H a = none → spIn C 1 (fl1 f) (.ref a :: ([v] ++ [])) (upd H a (exo a C none))
      (fun v' H2 => v' = .non ∧ ∃ (d : Addr) (fs : List (Str × V)), H2 a = some (exo a C (some d)) ∧ H2 d = some (exd d fs) ∧ H d = none ∧ Q (.ref C) (some d) (upd (del H2 a) d (.xd fs))) (fun _ _ _ => False) := by
  refine ⟨by show 1 ≤ 1000; decide, fun a ha => ⟨a, [v], rfl, rfl, upd_same, fun q H1 hq kq e1 e2 => ⟨rfl, q, _, e1, e2, ?_, ?_⟩⟩⟩
  · have hqa : q ≠ a := fun z => by
      rw [z, upd_same] at hq
      cases hq
    rw [upd_ne hqa] at hq
    exact hq
  · have hqa : q ≠ a := fun z => by
      rw [z, upd_same] at hq
      cases hq
    rw [upd_ne hqa] at hq
    exact k q _ (same_gone ha hq kq) upd_same
end Re
set_option exponentiation.threshold 20000

namespace Rb
open PySem PySem.Spec PyProof.Rows L2 Dz Ra Kx Ky Re
/-- an error class without an __init__ of its own: where it stands, what may be asked of it -/
structure Eb (K : PySem.W.Frag) (mg : Str → Option Value) (P : Addr) (x : Str) (C : Addr) : Prop where
  er : Er K P C
  m : mg x = some (.ref C)
  q : PySem.W.excIn K C PySem.HandSPX.veTail "ValueError.__new__" = true
/-- one with one field f -/
structure Ei (P : Program) (w : World) (K : PySem.W.Frag) (mg : Str → Option Value) (base : Heap) (gP : Addr) (x f : Str) (C : Addr) : Prop where
  er : Er K gP C
  m : mg x = some (.ref C)
  no : PySem.W.findIn K (.ref C) f = some none
  ini : ∃ (fI : Addr) (fd : FuncData), PySem.W.findIn K (.ref C) "__init__" = some (some (.ref fI)) ∧ PySem.W.typeIn K (.ref fI) = some (.type "function") ∧ FnOk P w K mg base CX0 1 fI fd ["self", f] (spIn C 1 (fl1 f)) ∧ L2.Binds K fd ["self", f] []
theorem Eb.raises {K : PySem.W.Frag} {mg : Str → Option Value} {P C : Addr} {x : Str} (e : Eb K mg P x C) {X : Cx} (hK : X.K = K) : Raises X (.ref C) := raises_own (by rw [hK]; exact e.er.ox.exC) (by rw [hK]; exact e.er.ox.tyC)
def spOver (K : PySem.W.Frag) (cD : Addr) : Sp := fun vs H Q E => ∃ (x y : Addr) (a b c d : Int), vs = [.ref x, .ref y] ∧ SqT K H x [.int a, .int b] ∧ SqT K H y [.int c, .int d] ∧ Sm a ∧ Sm b ∧ Sm c ∧ Sm d ∧ b ≠ 0 ∧ d ≠ 0 ∧
  (c = 0 → E (.ref cD) none H) ∧ (c ≠ 0 → ∀ p, H p = none → Q (.ref p) (upd H p (.tup [.int (lowT (a * d) (b * c)), .int (lowB (a * d) (b * c))])))
def spMake (K : PySem.W.Frag) (cR : Addr) : Sp := fun vs H Q E => ∃ (x y : V) (dx dy : PyData), vs = [x, y] ∧ Dp K H x dx ∧ Dp K H y dy ∧ (∀ b, dy = .int b → Sm4 b) ∧
  (wholeD dx none none = false → ∀ d H', Same H H' → H' d = some (.xd [("what", .str "top")]) → E (.ref cR) (some d) H') ∧
  (wholeD dx none none = true → (wholeD dy none none = false ∨ dy = .int 0) → ∀ d H', Same H H' → H' d = some (.xd [("what", .str "bottom")]) → E (.ref cR) (some d) H') ∧
  (∀ t b, dx = .int t → dy = .int b → b ≠ 0 → ∀ p, H p = none → Q (.ref p) (upd H p (.tup [.int (lowT t b), .int (lowB t b)])))
def Six (p : Int) : Prop := p = 2 ∨ p = 3 ∨ p = 5 ∨ p = 7 ∨ p = 11 ∨ p = 13
/-- the rest that undoes n by p -/
def spUndone (cD : Addr) : Sp := fun vs H Q E => ∃ n p : Int, vs = [.int n, .int p] ∧ Six p ∧ 0 ≤ n ∧ n < p ∧ (n = 0 → E (.ref cD) none H) ∧ (n ≠ 0 → ∀ r, 1 ≤ r → r < p → n * r % p = 1 → Q (.int r) H)
theorem six_undone {p n : Int} (h : Six p) (h0 : 0 ≤ n) (h1 : n < p) (h2 : n ≠ 0) : ∃ r : Nat, 1 ≤ r ∧ (r : Int) < p ∧ n * r % p = 1 := by
  have go : ∀ q : Nat, (q = 2 ∨ q = 3 ∨ q = 5 ∨ q = 7 ∨ q = 11 ∨ q = 13) → ∀ m : Nat, m < q → m ≠ 0 → ∃ r : Nat, r < 14 ∧ 1 ≤ r ∧ r < q ∧ m * r % q = 1 := by
    intro q hq
    rcases hq with rfl | rfl | rfl | rfl | rfl | rfl <;> decide
  obtain ⟨q, rfl⟩ : ∃ q : Nat, p = (q : Int) := ⟨p.toNat, by rcases h with h | h | h | h | h | h <;> omega⟩
  obtain ⟨m, rfl⟩ : ∃ m : Nat, n = (m : Int) := ⟨n.toNat, by omega⟩
  obtain ⟨r, _, r1, r2, r3⟩ := go q (by rcases h with h | h | h | h | h | h <;> omega) m (by omega) (by omega)
  refine ⟨r, r1, by omega, ?_⟩
  have e : ((m * r % q : Nat) : Int) = ((1 : Nat) : Int) := congrArg _ r3
  rw [Int.natCast_emod, Int.natCast_mul] at e
  exact e
section
variable {P : Program} {w : World} {K : PySem.W.Frag} {mg : Str → Option Value} {base : Heap} {f fL fW cD cR gP : Addr} {fd fdL fdW : FuncData}
theorem sc_ratio_over : FnScope ["one", "other"] ["one", "other"] (defScope (top 17)) := ⟨rfl, rfl, rfl, by decide +kernel, rfl, by decide +kernel, by decide +kernel⟩
theorem ok_ratio_over (F : FnP K "ratio_over" (top 17) [] f fd) (tx : Bn mg) (FL : FnP K "in_lowest_terms" (top 13) [] fL fdL) (mL : mg "in_lowest_terms" = some (.ref fL)) (eD : Eb K mg gP "DividedByNought" cD) : FnOk P w K mg base (L2.CX P w) 2 f fd ["one", "other"] (spOver K cD) := by
  have GL : FnOk P w K mg base CX0 1 fL fdL ["top", "bottom"] spLow := ok_low FL tx
  have bL : L2.Binds K fdL ["top", "bottom"] [] := FL.bindsN fun _ _ _ _ _ _ us hl => match us, hl with | [_, _], _ => rfl
  refine F.ok sc_ratio_over (fun vs H Q E h => ?_) (fun cdv A outer s H vs Q E hr h => ?_)
  · obtain ⟨x, y, a, b, c, d, rfl, _⟩ := h; rfl
  · obtain ⟨x, y, a, b, c, d, rfl, hx, hy, sa, sb, sc, sd, nb, nd, kE, kQ⟩ := h
    have hr1 : Room 1 _ := hr
    refine ⟨_, (pss_cons (ps_if (pt_cmpR op_eq (pe_ix ix_tup (pv 1) pe_int (fun _ _ => rfl)) pe_int (by rfl)) (pss_one (ps_raise rfl (takes_of rfl rfl rfl rfl) (pmk_bare eD.q eD.m eD.er.ox.kC (eD.raises rfl) (by rfl)))) pss_nil)
      (pss_one (ps_ret (pe_call GL hr1 (by rfl) mL FL.kp bL .nil pass0 (pa_cons (pe_op op_mulW (pe_ix ix_tup (pv 0) pe_int (fun _ _ => rfl)) (pe_ix ix_tup (pv 1) pe_int (fun _ _ => rfl))) (pa_cons (pe_op op_mulW (pe_ix ix_tup (pv 0) pe_int (fun _ _ => rfl)) (pe_ix ix_tup (pv 1) pe_int (fun _ _ => rfl))) pa_nil)))))), ?_⟩
    refine ⟨_, rfl, _, _, _, _, rfl, rfl, hy, rfl, rfl, _, rfl, ?_⟩
    by_cases hc : c = 0
    · subst hc
      exact ifT (decide_eq_true rfl) (kE rfl)
    · refine ifF (decide_eq_false fun z => hc (V.int.inj z)) ?_
      exact ⟨_, rfl, _, _, _, _, rfl, rfl, hx, rfl, _, rfl, _, _, _, _, rfl, rfl, hy, rfl, _, _, rfl, rfl, sm_mul sa sd, _, rfl, _, _, _, _, rfl, rfl, hx, rfl, _, rfl, _, _, _, _, rfl, rfl, hy, rfl, _, _, rfl, rfl, sm_mul sb sc, _, _, rfl, bothB_ne nb hc, sm4_of (sm_prod sb sc), kQ hc⟩
theorem sc_make_ratio : FnScope ["top", "bottom"] ["top", "bottom"] (defScope (top 12)) := ⟨rfl, rfl, rfl, by decide +kernel, rfl, by decide +kernel, by decide +kernel⟩
theorem ok_make_ratio (F : FnP K "make_ratio" (top 12) [.int 1] f fd) (tx : Bn mg) (FL : FnP K "in_lowest_terms" (top 13) [] fL fdL) (mL : mg "in_lowest_terms" = some (.ref fL)) (FW : FnP K "is_whole" (top 8) [.non, .non] fW fdW) (mW : mg "is_whole" = some (.ref fW)) (eR : Ei P w K mg base gP "BadRatio" "what" cR) : FnOk P w K mg base (L2.CX P w) 3 f fd ["top", "bottom"] (spMake K cR) := by
  have GL : FnOk P w K mg base CX0 1 fL fdL ["top", "bottom"] spLow := ok_low FL tx
  have bL : L2.Binds K fdL ["top", "bottom"] [] := FL.bindsN fun _ _ _ _ _ _ us hl => match us, hl with | [_, _], _ => rfl
  have GW : FnOk P w K mg base CX0 1 fW fdW ["thing", "low", "high"] (spWhole K) := ok_is_whole FW tx
  obtain ⟨⟨ds1, dW1, bW1⟩, ⟨ds2, dW2, bW2⟩, bW3⟩ := binds_whole FW
  obtain ⟨eRfI, eRfd, eRiC, eRtI, eRG, eRb⟩ := eR.ini
  refine F.ok sc_make_ratio (fun vs H Q E h => ?_) (fun cdv A outer s H vs Q E hr h => ?_)
  · obtain ⟨x, y, dx, dy, rfl, _⟩ := h; rfl
  · obtain ⟨x, y, dx, dy, rfl, hx, hy, sz, kT, kB, kQ⟩ := h
    have hr2 : Room 2 _ := hr
    have hr1 : Room 1 _ := hr.mono (by decide)
    refine ⟨_, (pss_cons (ps_if (pt_not (pt_val (pe_call GW hr1 (by rfl) mW FW.kp bW1 dW1 pass0 (pa_cons (pv 0) pa_nil)))) (pss_one (ps_raise rfl (takes_of rfl rfl rfl rfl) (pmk_oex eR.er.ox eRiC eRtI eRG hr2 eRb .nil pass0 (by rfl) eR.m (pa_cons pe_str pa_nil)))) pss_nil)
      (pss_cons (ps_if (PW.pt (pw_or (pt_not (pt_val (pe_call GW hr1 (by rfl) mW FW.kp bW1 dW1 pass0 (pa_cons (pv 1) pa_nil)))) (pw_or1 (pt_cmpR op_eq (pv 1) pe_int (by rfl))))) (pss_one (ps_raise rfl (takes_of rfl rfl rfl rfl) (pmk_oex eR.er.ox eRiC eRtI eRG hr2 eRb .nil pass0 (by rfl) eR.m (pa_cons pe_str pa_nil)))) pss_nil)
      (pss_one (ps_ret (pe_call GL hr1 (by rfl) mL FL.kp bL .nil pass0 (pa_cons (pv 0) (pa_cons (pv 1) pa_nil))))))), ?_⟩
    refine ⟨_, rfl, x, .non, .non, dx, none, none, rfl, hx, rfl, rfl, _, rfl, ?_⟩
    by_cases hw : wholeD dx none none = true
    · refine ifF (by rw [hw]; rfl) ?_
      refine ⟨_, rfl, y, .non, .non, dy, none, none, rfl, hy, rfl, rfl, _, rfl, ?_⟩
      cases dy with
      | int b =>
        cases hy
        refine ifF rfl ⟨_, rfl, rfl, _, rfl, ?_⟩
        by_cases hb : b = 0
        · subst hb
          refine ifT (decide_eq_true rfl) ?_
          exact rd_mk1 fun d H' s e => kB hw (.inr rfl) d H' s e
        · refine ifF (decide_eq_false fun z => hb (V.int.inj z)) ?_
          cases dx with
          | int t =>
            cases hx
            exact ⟨_, rfl, _, rfl, t, b, rfl, hb, sz b rfl, kQ t b rfl rfl hb⟩
          | dict _ => cases hx
          | _ => cases hw
      | dict _ => cases hy
      | _ =>
        refine ifT rfl ?_
        exact ifT rfl (rd_mk1 fun d H' s e => kB hw (.inl rfl) d H' s e)
    · have hw2 : wholeD dx none none = false := by
        cases e : wholeD dx none none with
        | false => rfl
        | true => exact absurd e hw
      refine ifT (by rw [hw2]; rfl) ?_
      exact rd_mk1 fun d H' s e => kT hw2 d H' s e
theorem sc_undone_rest : FnScope ["number", "prime", "rest"] ["number", "prime"] (defScope (top 21)) := ⟨rfl, rfl, rfl, by decide +kernel, rfl, by decide +kernel, by decide +kernel⟩
theorem ok_undone_rest (F : FnP K "undone_rest" (top 21) [] f fd) (tx : Bn mg) (eD : Eb K mg gP "DividedByNought" cD) : FnOk P w K mg base (L2.CX P w) 1 f fd ["number", "prime"] (spUndone cD) := by
  refine F.ok sc_undone_rest (fun vs H Q E h => ?_) (fun cdv A outer s H vs Q E hr h => ?_)
  · obtain ⟨n, p, rfl, _⟩ := h; rfl
  · obtain ⟨n, p, rfl, hp, n0, n1, kE, kQ⟩ := h
    have p2 : 2 ≤ p ∧ p ≤ 13 := by rcases hp with h | h | h | h | h | h <;> omega
    refine ⟨_, (pss_cons (ps_for (passes_of rfl) rfl (pi_range2 (by rfl) tx.range (pa_cons pe_int (pa_cons (pv 1) pa_nil))) (pg_name (i := 2) sc_undone_rest.nd rfl (Or.inl rfl)) (pss_one (ps_if (pt_cmpR op_eq (pe_op op_mod (pe_op op_mul (pv 0) (pv 2)) (pv 1)) pe_int (by rfl)) (pss_one (ps_ret (pv 2))) pss_nil)))
      (pss_one (ps_raise rfl (takes_of rfl rfl rfl rfl) (pmk_bare eD.q eD.m eD.er.ox.kC (eD.raises rfl) (by rfl))))), ?_⟩
    refine ⟨_, rfl, 1, p, rfl, ⟨by omega, by omega, by omega, by omega⟩, for_range (fun i σ H2 => H2 = H ∧ (∃ v, σ = [some (.int n), some (.int p), v]) ∧ ∀ j : Nat, j < i → ¬ n * (1 + (j : Int)) % p = 1) ⟨rfl, ⟨none, rfl⟩, fun j hj => absurd hj (Nat.not_lt_zero j)⟩ ?_ ?_⟩
    · rintro i σ H2 hi ⟨rfl, ⟨v, rfl⟩, hn⟩
      refine ⟨_, rfl, _, rfl, _, _, rfl, rfl, .inl ⟨by omega, by omega⟩, _, rfl, _, _, rfl, rfl, by omega, rfl, _, rfl, ?_⟩
      by_cases h1 : n * (1 + (i : Int)) % p = 1
      · refine ifT (decide_eq_true (congrArg V.int h1)) ⟨_, rfl, ?_⟩
        by_cases h0 : n = 0
        · subst h0
          rw [Int.zero_mul, Int.zero_emod] at h1
          omega
        · exact kQ h0 _ (by omega) (by omega) h1
      · refine ifF (decide_eq_false fun z => h1 (V.int.inj z)) ⟨rfl, ⟨_, rfl⟩, fun j hj => ?_⟩
        by_cases e : j = i
        · rw [e]
          exact h1
        · exact hn j (by omega)
    · rintro σ H2 ⟨rfl, ⟨v, rfl⟩, hn⟩
      by_cases h0 : n = 0
      · exact kE h0
      · obtain ⟨r, r1, r2, r3⟩ := six_undone hp n0 n1 h0
        exfalso
        refine hn (r - 1) (by omega) ?_
        have e : (1 + ((r - 1 : Nat) : Int)) = (r : Int) := by omega
        rw [e]
        exact r3
end
end Rb
set_option exponentiation.threshold 20000

namespace Rc
open PySem PySem.Spec PyProof.Rows L2 Dz Ra Kx Ky Re Rb
abbrev FnM (K : PySem.W.Frag) (m : Str) (st : Stmt) (f : Addr) (fd : FuncData) : Prop := FunD K m ("Figures." ++ m) (defArgs st) (defBody st) (defScope st) [] [] f fd
def Off (p : Int) : Prop := p = 0 ∨ Six p
theorem off_pos {p : Int} (h : Off p) (h0 : p ≠ 0) : 0 < p ∧ p ≤ 13 := by
  rcases h with h | h | h | h | h | h | h <;> omega
theorem off_le {p : Int} (h : Off p) : 0 ≤ p ∧ p ≤ 13 := by
  rcases h with h | h | h | h | h | h | h <;> omega
def offV : List V := [.int 0, .int 2, .int 3, .int 5, .int 7, .int 11, .int 13]
theorem off_in {p : Int} (h : Off p) : inV (.int p) offV = true := by
  rcases h with rfl | h
  · rfl
  · rcases h with rfl | rfl | rfl | rfl | rfl | rfl <;> rfl
theorem off_no {p : Int} (h : ¬ Off p) : inV (.int p) offV = false := by
  cases e : inV (.int p) offV with
  | false => rfl
  | true =>
    exfalso
    apply h
    have e2 : (decide ((0 : Int) = p) || (decide ((2 : Int) = p) || (decide ((3 : Int) = p) || (decide ((5 : Int) = p) || (decide ((7 : Int) = p) || (decide ((11 : Int) = p) || (decide ((13 : Int) = p) || false))))))) = true := by
      first
        | exact e
        | (unfold inV offV at e; simp only [List.any_cons, List.any_nil, eqV] at e ⊢; simpa using e)
    simp only [Bool.or_eq_true, decide_eq_true_eq, Bool.false_eq_true, or_false] at e2
    unfold Off Six
    omega
/-- the attributes of a Figures, in the order of __init__ -/
def flds (p : Int) (z o : V) : List (Str × V) := putF "one" o (putF "zero" z (putF "prime" (.int p) []))
theorem n1 : ¬ (("prime" : Str) = "zero") := by decide +kernel
theorem n2 : ¬ (("prime" : Str) = "one") := by decide +kernel
theorem n3 : ¬ (("zero" : Str) = "one") := by decide +kernel
theorem fl_prime {p : Int} {z o : V} : (flds p z o).lookup ("prime" : Str) = some (.int p) := by
  unfold flds
  rw [lookup_putF, if_neg n2, lookup_putF, if_neg n1, lookup_putF, if_pos rfl]
theorem fl_zero {p : Int} {z o : V} : (flds p z o).lookup ("zero" : Str) = some z := by
  unfold flds
  rw [lookup_putF, if_neg n3, lookup_putF, if_pos rfl]
theorem fl_one {p : Int} {z o : V} : (flds p z o).lookup ("one" : Str) = some o := by
  unfold flds
  rw [lookup_putF, if_pos rfl]
theorem fl_no {p : Int} {z o : V} {m : Str} (h1 : ¬ m = "prime") (h2 : ¬ m = "zero") (h3 : ¬ m = "one") : (flds p z o).lookup m = none := by
  unfold flds
  rw [lookup_putF, if_neg h3, lookup_putF, if_neg h2, lookup_putF, if_neg h1]
  rfl
def ZeroOne (H : Hp) (p : Int) (z o : V) : Prop := (p = 0 ∧ ∃ za oa, z = .ref za ∧ o = .ref oa ∧ H za = some (.tup [.int 0, .int 1]) ∧ H oa = some (.tup [.int 1, .int 1])) ∨ (p ≠ 0 ∧ z = .int 0 ∧ o = .int 1)
/-- a Figures of the prime p at a -/
def FigAt (C : Addr) (H : Hp) (a : Addr) (p : Int) : Prop := Off p ∧ ∃ dx z o, H a = some (.ins C dx (flds p z o)) ∧ ZeroOne H p z o
theorem FigAt.same {C : Addr} {H H' : Hp} {a : Addr} {p : Int} (s : Same H H') (h : FigAt C H a p) : FigAt C H' a p := by
  obtain ⟨op, dx, z, o, ha, hz⟩ := h
  refine ⟨op, dx, z, o, s _ _ ha, ?_⟩
  rcases hz with ⟨e, za, oa, e1, e2, h1, h2⟩ | hz
  · exact .inl ⟨e, za, oa, e1, e2, s _ _ h1, s _ _ h2⟩
  · exact .inr hz
/-- what is asked of the class Figures -/
structure Fg (K : PySem.W.Frag) (C : Addr) : Prop where
  cl : Cls K C
  nP : NoAttr K C "prime"
  nZ : NoAttr K C "zero"
  nO : NoAttr K C "one"
  ca : PySem.W.findIn K (.ref C) "__class__" = some (some (.builtin "object.__class__"))
  hn : PySem.W.specialIn K (.builtin "object.__class__") "__get__" = some (some (.builtin "getset_descriptor.__get__"))
  ht : PySem.W.takesIn K (.builtin "object.__class__") = some true
  hm : PySem.W.mroIn K C (.type "object") = some true
  me : PySem.W.kitOne K (.ref C) (.ref C) = some true
def spInit (K : PySem.W.Frag) (C cF : Addr) : Sp := fun vs H Q E => ∃ (a dx : Addr) (x : V) (d : PyData), vs = [.ref a, x] ∧ H a = some (.ins C dx []) ∧ Dp K H x d ∧
  ((∀ p, d = .int p → ¬ Off p) → ∀ d' H', Same H H' → H' d' = some (.xd [("prime", x)]) → E (.ref cF) (some d') H') ∧
  (∀ p, d = .int p → Off p → ∀ H', (∀ b o, b ≠ a → H b = some o → H' b = some o) → FigAt C H' a p → Q .non H')
/-- numbers below a bound that every deed takes -/
def Lo (i : Int) : Prop := -(2 ^ 60) < i ∧ i < 2 ^ 60
theorem Lo.wide {i : Int} (h : Lo i) : -(2 ^ 64) < i ∧ i < 2 ^ 64 := by
  obtain ⟨h1, h2⟩ := h
  omega
theorem lo13 {i : Int} (h0 : 0 ≤ i) (h1 : i < 14) : Lo i := ⟨by omega, by omega⟩
/-- two numbers of the figures handed in: couples of the prime 0, ints else -/
def Two (K : PySem.W.Frag) (H : Hp) (p : Int) (x y : V) (k0 : Int → Int → Int → Int → Prop) (k1 : Int → Int → Prop) : Prop :=
  (p = 0 → ∃ xa ya a b c d, x = .ref xa ∧ y = .ref ya ∧ SqT K H xa [.int a, .int b] ∧ SqT K H ya [.int c, .int d] ∧ Sm a ∧ Sm b ∧ Sm c ∧ Sm d ∧ b ≠ 0 ∧ d ≠ 0 ∧ k0 a b c d) ∧
  (p ≠ 0 → ∃ i j, x = .int i ∧ y = .int j ∧ Lo i ∧ Lo j ∧ k1 i j)
def newLow (Q : VK) (H : Hp) (t b : Int) : Prop := ∀ q, H q = none → Q (.ref q) (upd H q (.tup [.int (lowT t b), .int (lowB t b)]))
def spTwo (K : PySem.W.Frag) (C : Addr) (ft fb : Int → Int → Int → Int → Int) (g : Int → Int → Int) : Sp := fun vs H Q _ => ∃ (s : Addr) (x y : V) (p : Int), vs = [.ref s, x, y] ∧ FigAt C H s p ∧
  Two K H p x y (fun a b c d => newLow Q H (ft a b c d) (fb a b c d)) (fun i j => Q (.int (g i j % p)) H)
def cmpI (i j : Int) : Int := if i = j then 0 else if i < j then -1 else 1
def spCmpF (K : PySem.W.Frag) (C : Addr) : Sp := fun vs H Q _ => ∃ (s : Addr) (x y : V) (p : Int), vs = [.ref s, x, y] ∧ FigAt C H s p ∧
  Two K H p x y (fun a b c d => Q (.int (cmpR a b c d)) H) (fun i j => Q (.int (cmpI i j)) H)
def spOverF (K : PySem.W.Frag) (C cD : Addr) : Sp := fun vs H Q E => ∃ (s : Addr) (x y : V) (p : Int), vs = [.ref s, x, y] ∧ FigAt C H s p ∧
  Two K H p x y (fun a b c d => (c = 0 → E (.ref cD) none H) ∧ (c ≠ 0 → newLow Q H (a * d) (b * c))) (fun i j => 0 ≤ j ∧ j < p ∧ (j = 0 → E (.ref cD) none H) ∧ (j ≠ 0 → ∀ r, 1 ≤ r → r < p → j * r % p = 1 → Q (.int (i * r % p)) H))
def spNeg (K : PySem.W.Frag) (C : Addr) : Sp := fun vs H Q _ => ∃ (s : Addr) (x : V) (p : Int), vs = [.ref s, x] ∧ FigAt C H s p ∧
  (p = 0 → ∃ xa a b, x = .ref xa ∧ SqT K H xa [.int a, .int b] ∧ ∀ q, H q = none → Q (.ref q) (upd H q (.tup [.int (-a), .int b]))) ∧ (p ≠ 0 → ∃ i, x = .int i ∧ Q (.int (-i % p)) H)
def spWhl (C : Addr) : Sp := fun vs H Q _ => ∃ (s : Addr) (i p : Int), vs = [.ref s, .int i] ∧ FigAt C H s p ∧
  (p = 0 → ∀ q, H q = none → Q (.ref q) (upd H q (.tup [.int i, .int 1]))) ∧ (p ≠ 0 → Q (.int (i % p)) H)
def spNumOf (K : PySem.W.Frag) (C cN : Addr) : Sp := fun vs H Q E => ∃ (s xa : Addr) (a b p : Int), vs = [.ref s, .ref xa] ∧ FigAt C H s p ∧ SqT K H xa [.int a, .int b] ∧
  (p = 0 → Q (.ref xa) H) ∧ (p ≠ 0 → b % p = 0 → E (.ref cN) none H) ∧ (p ≠ 0 → b % p ≠ 0 → ∀ r, 1 ≤ r → r < p → b % p * r % p = 1 → Q (.int (a % p * r % p)) H)
def numD (p : Int) (d : PyData) : Bool := if p = 0 then ratioD d else wholeD d (some 0) (some (p - 1))
def spIsNum (K : PySem.W.Frag) (C : Addr) : Sp := fun vs H Q _ => ∃ (s : Addr) (x : V) (d : PyData) (p : Int), vs = [.ref s, x] ∧ FigAt C H s p ∧ Dp K H x d ∧ Q (.bl (numD p d)) H
def spAll (C : Addr) : Sp := fun vs H Q _ => ∃ (s : Addr) (p : Int), vs = [.ref s] ∧ FigAt C H s p ∧ ∀ q, H q = none → Q (.ref q) (upd H q (.tup (rgV 0 p)))
def spEqF (C : Addr) : Sp := fun vs H Q _ => ∃ (a b : Addr) (p q : Int), vs = [.ref a, .ref b] ∧ FigAt C H a p ∧ FigAt C H b q ∧ Q (.bl (decide (p = q))) H
section
variable {P : Program} {w : World} {K : PySem.W.Frag} {mg : Str → Option Value} {base : Heap} {C cD cN cF gP f f2 fO oA : Addr} {fd fd2 fdO : FuncData}
theorem sc_plus : FnScope ["self", "one", "other"] ["self", "one", "other"] (defScope (inClass (top 22) 2)) := ⟨rfl, rfl, rfl, by decide +kernel, rfl, by decide +kernel, by decide +kernel⟩
theorem ok_plus (F : FnM K "plus" (inClass (top 22) 2) f fd) (fg : Fg K C) {f1 : Addr} {fd1 : FuncData} (G1 : FnOk P w K mg base CX0 2 f1 fd1 ["one", "other"] (spDeed K plusT bothB)) (m1 : mg "ratio_plus" = some (.ref f1)) (kp1 : PySem.W.keepIn K (.ref f1) = true) (b1 : L2.Binds K fd1 ["one", "other"] []) : FnOk P w K mg base CX0 3 f fd ["self", "one", "other"] (spTwo K C plusT bothB (fun i j => i + j)) := by
  refine F.ok sc_plus (fun vs H Q E h => ?_) (fun cdv A outer s0 H vs Q E hr h => ?_)
  · obtain ⟨s, x, y, p, rfl, _⟩ := h; rfl
  · obtain ⟨s, x, y, p, rfl, ⟨op, dx, z, o, ha, hz⟩, k0, k1⟩ := h
    have hr1 : Room 2 _ := hr
    refine ⟨_, PSs.nox (pss_cons (ps_if (pt_cmpR op_eq (pe_fld (pv 0) rfl) pe_int (by rfl)) (pss_one (ps_ret (pe_call G1 hr1 (by rfl) m1 kp1 b1 .nil pass0 (pa_cons (pv 1) (pa_cons (pv 2) pa_nil))))) pss_nil)
      (pss_one (ps_ret (pe_op op_mod (pe_op op_add (pv 1) (pv 2)) (pe_fld (pv 0) rfl))))), ?_⟩
    refine ⟨_, rfl, s, C, dx, _, _, rfl, ha, fg.cl, fg.nP, fl_prime, rfl, _, rfl, ?_⟩
    by_cases hp : p = 0
    · subst hp
      obtain ⟨xa, ya, a, b, c, d, rfl, rfl, hx, hy, sa, sb, sc, sd, nb, nd, k⟩ := k0 rfl
      exact ifT (decide_eq_true rfl) ⟨_, rfl, _, rfl, xa, ya, a, b, c, d, rfl, hx, hy, sa, sb, sc, sd, nb, nd, k⟩
    · refine ifF (decide_eq_false fun z => hp (V.int.inj z)) ?_
      obtain ⟨i, j, rfl, rfl, hi, hj, k⟩ := k1 hp
      have p0 : 0 < p := (off_pos op hp).1
      exact ⟨_, rfl, _, rfl, _, _, rfl, rfl, _, rfl, s, C, dx, _, _, rfl, ha, fg.cl, fg.nP, fl_prime, _, _, rfl, rfl, p0, k⟩
theorem sc_minus : FnScope ["self", "one", "other"] ["self", "one", "other"] (defScope (inClass (top 22) 3)) := ⟨rfl, rfl, rfl, by decide +kernel, rfl, by decide +kernel, by decide +kernel⟩
theorem ok_minus (F : FnM K "minus" (inClass (top 22) 3) f fd) (fg : Fg K C) {f1 : Addr} {fd1 : FuncData} (G1 : FnOk P w K mg base CX0 2 f1 fd1 ["one", "other"] (spDeed K minusT bothB)) (m1 : mg "ratio_minus" = some (.ref f1)) (kp1 : PySem.W.keepIn K (.ref f1) = true) (b1 : L2.Binds K fd1 ["one", "other"] []) : FnOk P w K mg base CX0 3 f fd ["self", "one", "other"] (spTwo K C minusT bothB (fun i j => i - j)) := by
  refine F.ok sc_minus (fun vs H Q E h => ?_) (fun cdv A outer s0 H vs Q E hr h => ?_)
  · obtain ⟨s, x, y, p, rfl, _⟩ := h; rfl
  · obtain ⟨s, x, y, p, rfl, ⟨op, dx, z, o, ha, hz⟩, k0, k1⟩ := h
    have hr1 : Room 2 _ := hr
    refine ⟨_, PSs.nox (pss_cons (ps_if (pt_cmpR op_eq (pe_fld (pv 0) rfl) pe_int (by rfl)) (pss_one (ps_ret (pe_call G1 hr1 (by rfl) m1 kp1 b1 .nil pass0 (pa_cons (pv 1) (pa_cons (pv 2) pa_nil))))) pss_nil)
      (pss_one (ps_ret (pe_op op_mod (pe_op op_sub (pv 1) (pv 2)) (pe_fld (pv 0) rfl))))), ?_⟩
    refine ⟨_, rfl, s, C, dx, _, _, rfl, ha, fg.cl, fg.nP, fl_prime, rfl, _, rfl, ?_⟩
    by_cases hp : p = 0
    · subst hp
      obtain ⟨xa, ya, a, b, c, d, rfl, rfl, hx, hy, sa, sb, sc, sd, nb, nd, k⟩ := k0 rfl
      exact ifT (decide_eq_true rfl) ⟨_, rfl, _, rfl, xa, ya, a, b, c, d, rfl, hx, hy, sa, sb, sc, sd, nb, nd, k⟩
    · refine ifF (decide_eq_false fun z => hp (V.int.inj z)) ?_
      obtain ⟨i, j, rfl, rfl, hi, hj, k⟩ := k1 hp
      have p0 : 0 < p := (off_pos op hp).1
      exact ⟨_, rfl, _, rfl, _, _, rfl, rfl, _, rfl, s, C, dx, _, _, rfl, ha, fg.cl, fg.nP, fl_prime, _, _, rfl, rfl, p0, k⟩
theorem sc_times : FnScope ["self", "one", "other"] ["self", "one", "other"] (defScope (inClass (top 22) 4)) := ⟨rfl, rfl, rfl, by decide +kernel, rfl, by decide +kernel, by decide +kernel⟩
theorem ok_times (F : FnM K "times" (inClass (top 22) 4) f fd) (fg : Fg K C) {f1 : Addr} {fd1 : FuncData} (G1 : FnOk P w K mg base CX0 2 f1 fd1 ["one", "other"] (spDeed K timesT bothB)) (m1 : mg "ratio_times" = some (.ref f1)) (kp1 : PySem.W.keepIn K (.ref f1) = true) (b1 : L2.Binds K fd1 ["one", "other"] []) : FnOk P w K mg base CX0 3 f fd ["self", "one", "other"] (spTwo K C timesT bothB (fun i j => i * j)) := by
  refine F.ok sc_times (fun vs H Q E h => ?_) (fun cdv A outer s0 H vs Q E hr h => ?_)
  · obtain ⟨s, x, y, p, rfl, _⟩ := h; rfl
  · obtain ⟨s, x, y, p, rfl, ⟨op, dx, z, o, ha, hz⟩, k0, k1⟩ := h
    have hr1 : Room 2 _ := hr
    refine ⟨_, PSs.nox (pss_cons (ps_if (pt_cmpR op_eq (pe_fld (pv 0) rfl) pe_int (by rfl)) (pss_one (ps_ret (pe_call G1 hr1 (by rfl) m1 kp1 b1 .nil pass0 (pa_cons (pv 1) (pa_cons (pv 2) pa_nil))))) pss_nil)
      (pss_one (ps_ret (pe_op op_mod (pe_op op_mul (pv 1) (pv 2)) (pe_fld (pv 0) rfl))))), ?_⟩
    refine ⟨_, rfl, s, C, dx, _, _, rfl, ha, fg.cl, fg.nP, fl_prime, rfl, _, rfl, ?_⟩
    by_cases hp : p = 0
    · subst hp
      obtain ⟨xa, ya, a, b, c, d, rfl, rfl, hx, hy, sa, sb, sc, sd, nb, nd, k⟩ := k0 rfl
      exact ifT (decide_eq_true rfl) ⟨_, rfl, _, rfl, xa, ya, a, b, c, d, rfl, hx, hy, sa, sb, sc, sd, nb, nd, k⟩
    · refine ifF (decide_eq_false fun z => hp (V.int.inj z)) ?_
      obtain ⟨i, j, rfl, rfl, hi, hj, k⟩ := k1 hp
      have p0 : 0 < p := (off_pos op hp).1
      exact ⟨_, rfl, _, rfl, _, _, rfl, rfl, .inl hi.wide, _, rfl, s, C, dx, _, _, rfl, ha, fg.cl, fg.nP, fl_prime, _, _, rfl, rfl, p0, k⟩
theorem sc_compare : FnScope ["self", "one", "other"] ["self", "one", "other"] (defScope (inClass (top 22) 7)) := ⟨rfl, rfl, rfl, by decide +kernel, rfl, by decide +kernel, by decide +kernel⟩
theorem ok_compare (F : FnM K "compare" (inClass (top 22) 7) f fd) (fg : Fg K C) {f1 : Addr} {fd1 : FuncData} (G1 : FnOk P w K mg base CX0 1 f1 fd1 ["one", "other"] (spCmp K)) (m1 : mg "ratio_compare" = some (.ref f1)) (kp1 : PySem.W.keepIn K (.ref f1) = true) (b1 : L2.Binds K fd1 ["one", "other"] []) : FnOk P w K mg base CX0 2 f fd ["self", "one", "other"] (spCmpF K C) := by
  refine F.ok sc_compare (fun vs H Q E h => ?_) (fun cdv A outer s0 H vs Q E hr h => ?_)
  · obtain ⟨s, x, y, p, rfl, _⟩ := h; rfl
  · obtain ⟨s, x, y, p, rfl, ⟨op, dx, z, o, ha, hz⟩, k0, k1⟩ := h
    have hr1 : Room 1 _ := hr.mono (by decide)
    refine ⟨_, PSs.nox (pss_cons (ps_if (pt_cmpR op_eq (pe_fld (pv 0) rfl) pe_int (by rfl)) (pss_one (ps_ret (pe_call G1 hr1 (by rfl) m1 kp1 b1 .nil pass0 (pa_cons (pv 1) (pa_cons (pv 2) pa_nil))))) pss_nil)
      (pss_cons (ps_if (pt_cmpR op_eq (pv 1) (pv 2) (by rfl)) (pss_one (ps_ret pe_int)) pss_nil)
      (pss_one (ps_ret (pe_ifExp (pt_cmpR op_lt (pv 1) (pv 2) (by rfl)) (pe_un un_neg pe_int) pe_int))))), ?_⟩
    refine ⟨_, rfl, s, C, dx, _, _, rfl, ha, fg.cl, fg.nP, fl_prime, rfl, _, rfl, ?_⟩
    by_cases hp : p = 0
    · subst hp
      obtain ⟨xa, ya, a, b, c, d, rfl, rfl, hx, hy, sa, sb, sc, sd, nb, nd, k⟩ := k0 rfl
      exact ifT (decide_eq_true rfl) ⟨_, rfl, _, rfl, xa, ya, a, b, c, d, rfl, hx, hy, sa, sb, sc, sd, k⟩
    · refine ifF (decide_eq_false fun z => hp (V.int.inj z)) ?_
      obtain ⟨i, j, rfl, rfl, _, _, k⟩ := k1 hp
      refine ⟨_, rfl, _, rfl, rfl, _, rfl, ?_⟩
      by_cases h1 : i = j
      · refine ifT (decide_eq_true (congrArg V.int h1)) ?_
        have e : cmpI i j = 0 := if_pos h1
        rw [e] at k
        exact k
      · refine ifF (decide_eq_false fun z => h1 (V.int.inj z)) ⟨_, rfl, _, rfl, _, _, rfl, rfl, _, rfl, ?_⟩
        by_cases h2 : i < j
        · refine ifT (decide_eq_true h2) ⟨_, rfl, ?_⟩
          have e : cmpI i j = -1 := by unfold cmpI; rw [if_neg h1, if_pos h2]
          rw [e] at k
          exact k
        · refine ifF (decide_eq_false h2) ?_
          have e : cmpI i j = 1 := by unfold cmpI; rw [if_neg h1, if_neg h2]
          rw [e] at k
          exact k
theorem sc_over : FnScope ["self", "one", "other"] ["self", "one", "other"] (defScope (inClass (top 22) 5)) := ⟨rfl, rfl, rfl, by decide +kernel, rfl, by decide +kernel, by decide +kernel⟩
theorem ok_over (F : FnM K "over" (inClass (top 22) 5) f fd) (fg : Fg K C) {f1 : Addr} {fd1 : FuncData} (G1 : FnOk P w K mg base (L2.CX P w) 2 f1 fd1 ["one", "other"] (spOver K cD)) (m1 : mg "ratio_over" = some (.ref f1)) (kp1 : PySem.W.keepIn K (.ref f1) = true) (b1 : L2.Binds K fd1 ["one", "other"] []) {f2 : Addr} {fd2 : FuncData} (G2 : FnOk P w K mg base (L2.CX P w) 1 f2 fd2 ["number", "prime"] (spUndone cD)) (m2 : mg "undone_rest" = some (.ref f2)) (kp2 : PySem.W.keepIn K (.ref f2) = true) (b2 : L2.Binds K fd2 ["number", "prime"] []) : FnOk P w K mg base (L2.CX P w) 3 f fd ["self", "one", "other"] (spOverF K C cD) := by
  refine F.ok sc_over (fun vs H Q E h => ?_) (fun cdv A outer s0 H vs Q E hr h => ?_)
  · obtain ⟨s, x, y, p, rfl, _⟩ := h; rfl
  · obtain ⟨s, x, y, p, rfl, ⟨op, dx, z, o, ha, hz⟩, k0, k1⟩ := h
    have hr1 : Room 2 _ := hr
    have hr2 : Room 1 _ := hr.mono (by decide)
    refine ⟨_, (pss_cons (ps_if (pt_cmpR op_eq (pe_fld (pv 0) rfl) pe_int (by rfl)) (pss_one (ps_ret (pe_call G1 hr1 (by rfl) m1 kp1 b1 .nil (passes_call (takes_of rfl rfl rfl rfl) (fun _ _ _ _ h => h)) (pa_cons (pv 1) (pa_cons (pv 2) pa_nil))))) pss_nil)
      (pss_one (ps_ret (pe_op op_mod (pe_op op_mul (pv 1) (pe_call G2 hr2 (by rfl) m2 kp2 b2 .nil (passes_call (takes_of rfl rfl rfl rfl) (fun _ _ _ _ h => h)) (pa_cons (pv 2) (pa_cons (pe_fld (pv 0) rfl) pa_nil)))) (pe_fld (pv 0) rfl))))), ?_⟩
    refine ⟨_, rfl, s, C, dx, _, _, rfl, ha, fg.cl, fg.nP, fl_prime, rfl, _, rfl, ?_⟩
    by_cases hp : p = 0
    · subst hp
      obtain ⟨xa, ya, a, b, c, d, rfl, rfl, hx, hy, sa, sb, sc, sd, nb, nd, kE, kQ⟩ := k0 rfl
      exact ifT (decide_eq_true rfl) ⟨_, rfl, _, rfl, xa, ya, a, b, c, d, rfl, hx, hy, sa, sb, sc, sd, nb, nd, kE, kQ⟩
    · refine ifF (decide_eq_false fun z => hp (V.int.inj z)) ?_
      obtain ⟨i, j, rfl, rfl, hi, hj, j0, jp, kE, kQ⟩ := k1 hp
      have sx : Six p := op.resolve_left hp
      have p0 : 0 < p := (off_pos op hp).1
      refine ⟨_, rfl, _, rfl, _, rfl, s, C, dx, _, _, rfl, ha, fg.cl, fg.nP, fl_prime, j, p, rfl, sx, j0, jp, kE, fun h0 r r1 r2 r3 => ⟨_, _, rfl, rfl, .inl hi.wide, _, rfl, s, C, dx, _, _, rfl, ha, fg.cl, fg.nP, fl_prime, _, _, rfl, rfl, p0, kQ h0 r r1 r2 r3⟩⟩
theorem sc_negative : FnScope ["self", "one"] ["self", "one"] (defScope (inClass (top 22) 6)) := ⟨rfl, rfl, rfl, by decide +kernel, rfl, by decide +kernel, by decide +kernel⟩
theorem ok_negative (F : FnM K "negative" (inClass (top 22) 6) f fd) (fg : Fg K C)  : FnOk P w K mg base CX0 1 f fd ["self", "one"] (spNeg K C) := by
  refine F.ok sc_negative (fun vs H Q E h => ?_) (fun cdv A outer s0 H vs Q E hr h => ?_)
  · obtain ⟨s, x, p, rfl, _⟩ := h; rfl
  · obtain ⟨s, x, p, rfl, ⟨op, dx, z, o, ha, hz⟩, k0, k1⟩ := h
    refine ⟨_, PSs.nox (pss_cons (ps_if (pt_cmpR op_eq (pe_fld (pv 0) rfl) pe_int (by rfl)) (pss_one (ps_ret (pe_tup (pa_cons (pe_un un_neg (pe_ix ix_tup (pv 1) pe_int (fun _ _ => rfl))) (pa_cons (pe_ix ix_tup (pv 1) pe_int (fun _ _ => rfl)) pa_nil))))) pss_nil)
      (pss_one (ps_ret (pe_op op_mod (pe_un un_neg (pv 1)) (pe_fld (pv 0) rfl))))), ?_⟩
    refine ⟨_, rfl, s, C, dx, _, _, rfl, ha, fg.cl, fg.nP, fl_prime, rfl, _, rfl, ?_⟩
    by_cases hp : p = 0
    · subst hp
      obtain ⟨xa, a, b, rfl, hx, k⟩ := k0 rfl
      exact ifT (decide_eq_true rfl) ⟨_, rfl, _, _, _, _, rfl, rfl, hx, rfl, _, rfl, _, rfl, _, _, _, _, rfl, rfl, hx, rfl, by show 2 ≤ sizeLine; decide, k⟩
    · refine ifF (decide_eq_false fun z => hp (V.int.inj z)) ?_
      obtain ⟨i, rfl, k⟩ := k1 hp
      have p0 : 0 < p := (off_pos op hp).1
      exact ⟨_, rfl, _, rfl, _, rfl, s, C, dx, _, _, rfl, ha, fg.cl, fg.nP, fl_prime, _, _, rfl, rfl, p0, k⟩
theorem sc_whole_number : FnScope ["self", "many"] ["self", "many"] (defScope (inClass (top 22) 8)) := ⟨rfl, rfl, rfl, by decide +kernel, rfl, by decide +kernel, by decide +kernel⟩
theorem ok_whole_number (F : FnM K "whole_number" (inClass (top 22) 8) f fd) (fg : Fg K C)  : FnOk P w K mg base CX0 1 f fd ["self", "many"] (spWhl C) := by
  refine F.ok sc_whole_number (fun vs H Q E h => ?_) (fun cdv A outer s0 H vs Q E hr h => ?_)
  · obtain ⟨s, i, p, rfl, _⟩ := h; rfl
  · obtain ⟨s, i, p, rfl, ⟨op, dx, z, o, ha, hz⟩, k0, k1⟩ := h
    refine ⟨_, PSs.nox (pss_cons (ps_if (pt_cmpR op_eq (pe_fld (pv 0) rfl) pe_int (by rfl)) (pss_one (ps_ret (pe_tup (pa_cons (pv 1) (pa_cons pe_int pa_nil))))) pss_nil)
      (pss_one (ps_ret (pe_op op_mod (pv 1) (pe_fld (pv 0) rfl))))), ?_⟩
    refine ⟨_, rfl, s, C, dx, _, _, rfl, ha, fg.cl, fg.nP, fl_prime, rfl, _, rfl, ?_⟩
    by_cases hp : p = 0
    · subst hp
      exact ifT (decide_eq_true rfl) ⟨_, rfl, by show 2 ≤ sizeLine; decide, k0 rfl⟩
    · refine ifF (decide_eq_false fun z => hp (V.int.inj z)) ?_
      have p0 : 0 < p := (off_pos op hp).1
      exact ⟨_, rfl, _, rfl, s, C, dx, _, _, rfl, ha, fg.cl, fg.nP, fl_prime, _, _, rfl, rfl, p0, k1 hp⟩
theorem sc_number_of : FnScope ["self", "ratio", "top", "bottom"] ["self", "ratio"] (defScope (inClass (top 22) 9)) := ⟨rfl, rfl, rfl, by decide +kernel, rfl, by decide +kernel, by decide +kernel⟩
theorem ok_number_of (F : FnM K "number_of" (inClass (top 22) 9) f fd) (fg : Fg K C) (eN : Eb K mg gP "BadNumber" cN) (mO : Meth K C "over" fO) (GO : FnOk P w K mg base (L2.CX P w) 3 fO fdO ["self", "one", "other"] (spOverF K C cD)) (bO : L2.Binds K fdO ["self", "one", "other"] []) : FnOk P w K mg base (L2.CX P w) 4 f fd ["self", "ratio"] (spNumOf K C cN) := by
  refine F.ok sc_number_of (fun vs H Q E h => ?_) (fun cdv A outer s0 H vs Q E hr h => ?_)
  · obtain ⟨s, xa, a, b, p, rfl, _⟩ := h; rfl
  · obtain ⟨s, xa, a, b, p, rfl, fa, hx, k0, kE, kQ⟩ := h
    obtain ⟨op, dx, z, o, ha, hz⟩ := id fa
    have hr3 : Room 3 _ := hr
    refine ⟨_, (pss_cons (ps_if (pt_cmpR op_eq (pe_fld (pv 0) rfl) pe_int (by rfl)) (pss_one (ps_ret (pv 1))) pss_nil)
      (pss_cons (ps_asg (pv 1) (pg_tup rfl (pgs_cons (pg_name (i := 2) sc_number_of.nd rfl (Or.inl rfl)) (pgs_cons (pg_name (i := 3) sc_number_of.nd rfl (Or.inl rfl)) pgs_nil))))
      (pss_cons (ps_if (pt_cmpR op_eq (pe_op op_mod (pv 3) (pe_fld (pv 0) rfl)) pe_int (by rfl)) (pss_one (ps_raise rfl (takes_of rfl rfl rfl rfl) (pmk_bare eN.q eN.m eN.er.ox.kC (eN.raises rfl) (by rfl)))) pss_nil)
      (pss_one (ps_ret (pe_meth (pv 0) fg.cl mO GO hr3 bO .nil (passes_call (takes_of rfl rfl rfl rfl) (fun _ _ _ _ h => h)) (pa_cons (pe_op op_mod (pv 2) (pe_fld (pv 0) rfl)) (pa_cons (pe_op op_mod (pv 3) (pe_fld (pv 0) rfl)) pa_nil)))))))), ?_⟩
    refine ⟨_, rfl, s, C, dx, _, _, rfl, ha, fg.cl, fg.nP, fl_prime, rfl, _, rfl, ?_⟩
    by_cases hp : p = 0
    · subst hp
      exact ifT (decide_eq_true rfl) ⟨_, rfl, k0 rfl⟩
    · refine ifF (decide_eq_false fun z => hp (V.int.inj z)) ?_
      have p0 : 0 < p := (off_pos op hp).1
      refine ⟨_, rfl, xa, [.int a, .int b], rfl, hx, rfl, .int a, [.int b], rfl, .int b, [], rfl, rfl, ?_⟩
      refine ⟨_, rfl, _, rfl, s, C, dx, _, _, rfl, ha, fg.cl, fg.nP, fl_prime, _, _, rfl, rfl, p0, rfl, _, rfl, ?_⟩
      by_cases hb : b % p = 0
      · exact ifT (decide_eq_true (congrArg V.int hb)) (kE hp hb)
      · refine ifF (decide_eq_false fun z => hb (V.int.inj z)) ?_
        have b0 : 0 ≤ b % p := Int.emod_nonneg _ hp
        have b1 : b % p < p := Int.emod_lt_of_pos _ p0
        have a0 : 0 ≤ a % p := Int.emod_nonneg _ hp
        have a1 : a % p < p := Int.emod_lt_of_pos _ p0
        have p1 : p ≤ 13 := (off_pos op hp).2
        exact ⟨_, rfl, s, dx, _, rfl, ha, fl_no (by decide +kernel) (by decide +kernel) (by decide +kernel), _, rfl, _, rfl, s, C, dx, _, _, rfl, ha, fg.cl, fg.nP, fl_prime, _, _, rfl, rfl, p0, _, rfl, _, rfl, s, C, dx, _, _, rfl, ha, fg.cl, fg.nP, fl_prime, _, _, rfl, rfl, p0, s, _, _, p, rfl, fa, fun h => absurd h hp, fun _ => ⟨_, _, rfl, rfl, lo13 a0 (by omega), lo13 b0 (by omega), b0, b1, fun h => absurd h hb, fun _ r r1 r2 r3 => kQ hp hb r r1 r2 r3⟩⟩
theorem sc_is_number : FnScope ["self", "thing"] ["self", "thing"] (defScope (inClass (top 22) 10)) := ⟨rfl, rfl, rfl, by decide +kernel, rfl, by decide +kernel, by decide +kernel⟩
theorem ok_is_number (F : FnM K "is_number" (inClass (top 22) 10) f fd) (fg : Fg K C) {f1 : Addr} {fd1 : FuncData} (G1 : FnOk P w K mg base CX0 2 f1 fd1 ["thing"] (spRatio K)) (m1 : mg "is_ratio" = some (.ref f1)) (kp1 : PySem.W.keepIn K (.ref f1) = true) (b1 : L2.Binds K fd1 ["thing"] []) {f2 : Addr} {fd2 : FuncData} (G2 : FnOk P w K mg base CX0 1 f2 fd2 ["thing", "low", "high"] (spWhole K)) (m2 : mg "is_whole" = some (.ref f2)) (kp2 : PySem.W.keepIn K (.ref f2) = true) (b2 : L2.Binds K fd2 ["thing", "low", "high"] []) : FnOk P w K mg base CX0 3 f fd ["self", "thing"] (spIsNum K C) := by
  refine F.ok sc_is_number (fun vs H Q E h => ?_) (fun cdv A outer s0 H vs Q E hr h => ?_)
  · obtain ⟨s, x, d, p, rfl, _⟩ := h; rfl
  · obtain ⟨s, x, d, p, rfl, ⟨op, dx, z, o, ha, hz⟩, hd, k⟩ := h
    have hr1 : Room 2 _ := hr
    have hr2 : Room 1 _ := hr.mono (by decide)
    refine ⟨_, PSs.nox (pss_cons (ps_if (pt_cmpR op_eq (pe_fld (pv 0) rfl) pe_int (by rfl)) (pss_one (ps_ret (pe_call G1 hr1 (by rfl) m1 kp1 b1 .nil pass0 (pa_cons (pv 1) pa_nil)))) pss_nil)
      (pss_one (ps_ret (pe_call G2 hr2 (by rfl) m2 kp2 b2 .nil pass0 (pa_cons (pv 1) (pa_cons pe_int (pa_cons (pe_op op_sub (pe_fld (pv 0) rfl) pe_int) pa_nil))))))), ?_⟩
    refine ⟨_, rfl, s, C, dx, _, _, rfl, ha, fg.cl, fg.nP, fl_prime, rfl, _, rfl, ?_⟩
    by_cases hp : p = 0
    · subst hp
      have e : numD 0 d = ratioD d := if_pos rfl
      rw [e] at k
      exact ifT (decide_eq_true rfl) ⟨_, rfl, x, d, rfl, hd, k⟩
    · refine ifF (decide_eq_false fun z => hp (V.int.inj z)) ?_
      have e : numD p d = wholeD d (some 0) (some (p - 1)) := if_neg hp
      rw [e] at k
      exact ⟨_, rfl, _, rfl, s, C, dx, _, _, rfl, ha, fg.cl, fg.nP, fl_prime, _, _, rfl, rfl, x, .int 0, .int (p - 1), d, some 0, some (p - 1), rfl, hd, rfl, rfl, k⟩
theorem sc_all_numbers : FnScope ["self"] ["self"] (defScope (inClass (top 22) 11)) := ⟨rfl, rfl, rfl, by decide +kernel, rfl, by decide +kernel, by decide +kernel⟩
theorem ok_all_numbers (F : FnM K "all_numbers" (inClass (top 22) 11) f fd) (fg : Fg K C) (tx : Bn mg) : FnOk P w K mg base CX0 1 f fd ["self"] (spAll C) := by
  refine F.ok sc_all_numbers (fun vs H Q E h => ?_) (fun cdv A outer s0 H vs Q E hr h => ?_)
  · obtain ⟨s, p, rfl, _⟩ := h; rfl
  · obtain ⟨s, p, rfl, ⟨op, dx, z, o, ha, hz⟩, k⟩ := h
    have p0 : 0 ≤ p ∧ p ≤ 13 := off_le op
    refine ⟨_, PSs.nox (pss_one (ps_ret (pe_tupRg rfl (by rfl) tx.tuple (prg_1 (by rfl) tx.range (pe_fld (pv 0) rfl))))), ?_⟩
    exact ⟨_, rfl, s, C, dx, _, _, rfl, ha, fg.cl, fg.nP, fl_prime, _, rfl, .of_le (by omega) (by omega) (by omega) (by omega), k⟩
theorem sc_eq : FnScope ["self", "other"] ["self", "other"] (defScope (inClass (top 22) 1)) := ⟨rfl, rfl, rfl, by decide +kernel, rfl, by decide +kernel, by decide +kernel⟩
theorem ok_eq (F : FnM K "__eq__" (inClass (top 22) 1) f fd) (fg : Fg K C) (tx : Bn mg) (mC : mg "Figures" = some (.ref C)) : FnOk P w K mg base CX0 1 f fd ["self", "other"] (spEqF C) := by
  refine F.ok sc_eq (fun vs H Q E h => ?_) (fun cdv A outer s0 H vs Q E hr h => ?_)
  · obtain ⟨a, b, p, q, rfl, _⟩ := h; rfl
  · obtain ⟨a, b, p, q, rfl, ⟨op, dx, z, o, ha, hz⟩, ⟨op2, dy, z2, o2, hb, hz2⟩, k⟩ := h
    refine ⟨_, PSs.nox (pss_one (ps_ret (pe_and (pe_callB call_isi (by rfl) tx.isinstance PyProof.Rows.boot_isinstance (pa_cons (pv 1) (pa_cons (pe_glob (v := .ref C) (by rfl) mC rfl) pa_nil))) (pe_one (pe_cmpR op_eq (pe_fld (pv 0) rfl) (pe_fld (pv 1) rfl) (by rfl)))))), ?_⟩
    refine ⟨_, rfl, _, _, _, _, _, rfl, .own C, .base (.ins hb fg.cl fg.ca fg.hn fg.ht fg.hm), fg.me, _, rfl, ifT rfl ?_⟩
    refine ⟨_, rfl, a, C, dx, _, _, rfl, ha, fg.cl, fg.nP, fl_prime, _, rfl, b, C, dy, _, _, rfl, hb, fg.cl, fg.nP, fl_prime, rfl, ?_⟩
    have e : decide (V.int p = V.int q) = decide (p = q) := by
      by_cases h : p = q
      · rw [decide_eq_true h, decide_eq_true (congrArg V.int h)]
      · rw [decide_eq_false h, decide_eq_false fun z => h (V.int.inj z)]
    rw [e]
    exact k
theorem sc_finit : FnScope ["self", "prime"] ["self", "prime"] (defScope (inClass (top 22) 0)) := ⟨rfl, rfl, rfl, by decide +kernel, rfl, by decide +kernel, by decide +kernel⟩
theorem ok_finit (F : FnM K "__init__" (inClass (top 22) 0) f fd) (fg : Fg K C) {f1 : Addr} {fd1 : FuncData} {ds1 : List Value} (G1 : FnOk P w K mg base CX0 1 f1 fd1 ["thing", "low", "high"] (spWhole K)) (m1 : mg "is_whole" = some (.ref f1)) (kp1 : PySem.W.keepIn K (.ref f1) = true) (b1 : L2.Binds K fd1 ["thing", "low", "high"] ds1) (d1 : Vals [.non, .non] ds1) (mO : mg "OFFERED" = some (.ref oA)) (hO : ∀ H, SqT K H oA offV) (eF : Ei P w K mg base gP "BadFigures" "prime" cF) : FnOk P w K mg base (L2.CX P w) 3 f fd ["self", "prime"] (spInit K C cF) := by
  obtain ⟨eFfI, eFfd, eFiC, eFtI, eFG, eFb⟩ := eF.ini
  refine F.ok sc_finit (fun vs H Q E h => ?_) (fun cdv A outer s0 H vs Q E hr h => ?_)
  · obtain ⟨a, dx, x, d, rfl, _⟩ := h; rfl
  · obtain ⟨a, dx, x, d, rfl, ha, hd, kE, kQ⟩ := h
    have hr1 : Room 1 _ := hr.mono (by decide)
    have hr2 : Room 2 _ := hr
    refine ⟨_, (pss_cons (ps_if (PW.pt (pw_or (pt_not (pt_val (pe_call G1 hr1 (by rfl) m1 kp1 b1 d1 pass0 (pa_cons (pv 1) pa_nil)))) (pw_or1 (pt_cmpR op_notIn_seq (pv 1) (pe_glob (v := .ref oA) (by rfl) mO rfl) (by rfl))))) (pss_one (ps_raise rfl (takes_of rfl rfl rfl rfl) (pmk_oex eF.er.ox eFiC eFtI eFG hr2 eFb .nil pass0 (by rfl) eF.m (pa_cons (pv 1) pa_nil)))) pss_nil)
      (pss_cons (ps_fld (pv 0) (pv 1) rfl)
      (pss_cons (ps_fld (pv 0) (pe_ifExp (pt_cmpR op_eq (pv 1) pe_int (by rfl)) (pe_tup (pa_cons pe_int (pa_cons pe_int pa_nil))) pe_int) rfl)
      (pss_one (ps_fld (pv 0) (pe_ifExp (pt_cmpR op_eq (pv 1) pe_int (by rfl)) (pe_tup (pa_cons pe_int (pa_cons pe_int pa_nil))) pe_int) rfl))))), ?_⟩
    refine ⟨_, rfl, x, .non, .non, d, none, none, rfl, hd, rfl, rfl, _, rfl, ?_⟩
    cases d with
    | int p =>
      cases hd
      refine ifF rfl ⟨_, rfl, oA, offV, rfl, .inr (hO _), rfl, rfl, _, rfl, ?_⟩
      by_cases hp : Off p
      · refine ifF (by show (!inV (.int p) offV) = false; rw [off_in hp]; rfl) ?_
        refine ⟨_, rfl, _, rfl, a, C, dx, [], rfl, ha, fg.cl, fg.nP, by show 0 < 1000; decide, ?_⟩
        have l1 : ∀ {v : V}, (putF "prime" v []).length < 1000 := fun {v} => by show 1 < 1000; decide
        have l2 : ∀ {v z : V}, (putF "zero" z (putF "prime" v [])).length < 1000 := fun {v z} => Nat.lt_of_le_of_lt (length_putF _ _ _) (by show 2 < 1000; decide)
        by_cases h0 : p = 0
        · subst h0
          refine ⟨_, rfl, rfl, _, rfl, ifT (decide_eq_true rfl) ⟨by show 2 ≤ sizeLine; decide, fun z hz => ?_⟩⟩
          have hza : z ≠ a := fun e => by
            rw [e, upd_same] at hz
            cases hz
          have hz0 : H z = none := by
            rw [upd_ne hza] at hz
            exact hz
          refine ⟨_, rfl, a, C, dx, _, rfl, (by rw [upd_ne hza.symm, upd_same]), fg.cl, fg.nZ, l1, ?_⟩
          refine ⟨_, rfl, rfl, _, rfl, ifT (decide_eq_true rfl) ⟨by show 2 ≤ sizeLine; decide, fun q hq => ?_⟩⟩
          have hqa : q ≠ a := fun e => by
            rw [e, upd_same] at hq
            cases hq
          have hqz : q ≠ z := fun e => by
            rw [e, upd_ne hza, upd_same] at hq
            cases hq
          have hq0 : H q = none := by
            rw [upd_ne hqa, upd_ne hqz, upd_ne hqa] at hq
            exact hq
          refine ⟨_, rfl, a, C, dx, _, rfl, (by rw [upd_ne hqa.symm, upd_same]), fg.cl, fg.nO, l2, ?_⟩
          refine kQ 0 rfl hp _ (fun b o hb e => ?_) ⟨hp, dx, .ref z, .ref q, upd_same, .inl ⟨rfl, z, q, rfl, rfl, ?_, ?_⟩⟩
          · rw [upd_ne hb, upd_ne (ne_of_none e hq0), upd_ne hb, upd_ne (ne_of_none e hz0), upd_ne hb]
            exact e
          · rw [upd_ne hza, upd_ne hqz.symm, upd_ne hza, upd_same]
          · rw [upd_ne hqa, upd_same]
        · refine ⟨_, rfl, rfl, _, rfl, ifF (decide_eq_false fun z => h0 (V.int.inj z)) ?_⟩
          refine ⟨_, rfl, a, C, dx, _, rfl, upd_same, fg.cl, fg.nZ, l1, ?_⟩
          refine ⟨_, rfl, rfl, _, rfl, ifF (decide_eq_false fun z => h0 (V.int.inj z)) ?_⟩
          refine ⟨_, rfl, a, C, dx, _, rfl, upd_same, fg.cl, fg.nO, l2, ?_⟩
          refine kQ p rfl hp _ (fun b o hb e => ?_) ⟨hp, dx, .int 0, .int 1, upd_same, .inr ⟨h0, rfl, rfl⟩⟩
          rw [upd_ne hb, upd_ne hb, upd_ne hb]
          exact e
      · refine ifT (by show (!inV (.int p) offV) = true; rw [off_no hp]; rfl) ?_
        exact ⟨_, rfl, rd_mk1 fun d' H' s e => kE (fun q h => by cases h; exact hp) d' H' s e⟩
    | dict _ => cases hd
    | _ => exact ifT rfl (ifT rfl ⟨_, rfl, rd_mk1 fun d' H' s e => kE (fun q h => by cases h) d' H' s e⟩)
end
end Rc
set_option exponentiation.threshold 20000

namespace Rd
open PySem PySem.Spec PyProof.Rows L2 Dz Ra Mt
open Kq (HandAt But spTake)
def spGcdL : Sp := fun vs H Q _ => ∃ a b : Int, vs = [.int a, .int b] ∧ Sm4 a ∧ Sm4 b ∧ Q (.int ((Nat.gcd a.natAbs b.natAbs : Nat) : Int)) H
def spLowL : Sp := fun vs H Q _ => ∃ t b : Int, vs = [.int t, .int b] ∧ b ≠ 0 ∧ Sm4 t ∧ Sm4 b ∧ ∀ p, H p = none → Q (.ref p) (upd H p (.tup [.int (lowT t b), .int (lowB t b)]))
/-- a draw: a whole number between lo and hi -/
def spDraw (lo hi : Int) : Sp := fun vs H Q _ => ∃ (a c : Addr) (cs : List Int) (p g t : Int), vs = [.ref a] ∧ HandAt H a c cs p g t ∧
  ∀ (r p' g' t' : Int) (H' : Hp), lo ≤ r → r ≤ hi → But a H H' → HandAt H' a c cs p' g' t' → Q (.int r) H'
def spFrac : Sp := fun vs H Q _ => ∃ (a c : Addr) (cs : List Int) (p g t : Int), vs = [.ref a] ∧ HandAt H a c cs p g t ∧
  ∀ (q : Addr) (x y p' g' t' : Int) (H' : Hp), Frac x y → H' q = some (.tup [.int x, .int y]) → But a H H' → HandAt H' a c cs p' g' t' → Q (.ref q) H'
def spDrawn : Sp := fun vs H Q _ => ∃ (a c : Addr) (cs : List Int) (p g t m : Int), vs = [.ref a, .int m] ∧ HandAt H a c cs p g t ∧ 0 ≤ m ∧ m ≤ 13 ∧
  (m = 0 → ∀ (q : Addr) (x y p' g' t' : Int) (H' : Hp), Frac x y → H' q = some (.tup [.int x, .int y]) → But a H H' → HandAt H' a c cs p' g' t' → Q (.ref q) H') ∧
  (m ≠ 0 → ∀ (r p' g' t' : Int) (H' : Hp), 0 ≤ r → r < m → But a H H' → HandAt H' a c cs p' g' t' → Q (.int r) H')
def spWholeL (K : PySem.W.Frag) : Sp := fun vs H Q _ => ∃ (x : V) (d : PyData), vs = [x] ∧ Dp K H x d ∧ Q (.bl (wholeD d none none)) H
def sgn (n : Int) : Int := if n < 0 then -1 else if 0 < n then 1 else 0
def spSign : Sp := fun vs H Q _ => ∃ n : Int, vs = [.int n] ∧ Q (.int (sgn n)) H
/-- an int, or a couple of ints -/
def Numb (d : PyData) : Prop := (∃ i, d = .int i) ∨ ∃ t b, d = .tuple [.int t, .int b]
def spSame (K : PySem.W.Frag) : Sp := fun vs H Q _ => ∃ (x y : V) (d : PyData), vs = [x, y] ∧ Dp K H x d ∧ Dp K H y d ∧ Numb d ∧ Q (.bl true) H
theorem numb_sh {d : PyData} (h : Numb d) : SeqAt.shaped d = true ∧ PyData.eqv d d = true := by
  rcases h with ⟨i, rfl⟩ | ⟨t, b, rfl⟩
  · exact ⟨by rfl, by show (i == i) = true; exact beq_self_eq_true i⟩
  · exact ⟨by rfl, by show ((t == t) && ((b == b) && true)) = true; rw [beq_self_eq_true, beq_self_eq_true]; rfl⟩
theorem But.trans {a : Addr} {H H1 H2 : Hp} (x : But a H H1) (y : But a H1 H2) : But a H H2 := fun b o hb e => y b o hb (x b o hb e)
theorem But.new {a p : Addr} {H : Hp} {o : HO} (h : H p = none) : But a H (upd H p o) := fun b u _ e => by
  rw [upd_ne (ne_of_none e h)]
  exact e
theorem ten9 : (10 : Int) ^ (9 : Int).toNat = 1000000000 := by decide
theorem ten8 : (10 : Int) ^ (8 : Int).toNat = 100000000 := by decide
section
variable {P : Program} {w : World} {K : PySem.W.Frag} {mg : Str → Option Value} {base : Heap} {f : Addr} {fd : FuncData}
theorem sc__law_gcd : FnScope ["_law_one", "_law_other", "_law_a", "_law_b", "_law_k", "_law_rest"] ["_law_one", "_law_other"] (defScope (top 27)) := ⟨rfl, rfl, rfl, by decide +kernel, rfl, by decide +kernel, by decide +kernel⟩
theorem ok__law_gcd (F : FnP K "_law_gcd" (top 27) [] f fd) (tx : Bn mg) : FnOk P w K mg base CX0 1 f fd ["_law_one", "_law_other"] spGcdL := by
  refine F.ok sc__law_gcd (fun vs H Q E h => ?_) (fun cdv A outer s H vs Q E hr h => ?_)
  · obtain ⟨a, b, rfl, _⟩ := h; rfl
  · obtain ⟨a, b, rfl, sa, sb, k⟩ := h
    refine ⟨_, PSs.nox (pss_cons (ps_set (i := 2) sc__law_gcd.nd rfl (Or.inl rfl) (pe_callB call_abs (by rfl) tx.abs (by decide +kernel) (pa_cons (pv 0) pa_nil)))
      (pss_cons (ps_set (i := 3) sc__law_gcd.nd rfl (Or.inl rfl) (pe_callB call_abs (by rfl) tx.abs (by decide +kernel) (pa_cons (pv 1) pa_nil)))
      (pss_cons (ps_for PassesOwn.never rfl (pi_range1 (by rfl) tx.range (pa_cons pe_int pa_nil)) (pg_name (i := 4) sc__law_gcd.nd rfl (Or.inl rfl)) (pss_cons (ps_if (pt_cmpR op_eq (pv 3) pe_int (by rfl)) (pss_one (ps_ret (pv 2))) pss_nil)
      (pss_cons (ps_set (i := 5) sc__law_gcd.nd rfl (Or.inl rfl) (pe_op op_mod (pe_callTy call_int1 (by rfl) tx.int PyProof.Rows.boot_int (pa_cons (pv 2) pa_nil)) (pv 3)))
      (pss_cons (ps_set (i := 2) sc__law_gcd.nd rfl (Or.inl rfl) (pv 3))
      (pss_one (ps_set (i := 3) sc__law_gcd.nd rfl (Or.inl rfl) (pv 5)))))))
      (pss_one (ps_ret pe_int))))), ?_⟩
    refine ⟨_, rfl, a, rfl, _, rfl, b, rfl, ?_⟩
    have ea : (if a < 0 then -a else a) = ((a.natAbs : Nat) : Int) := by split <;> omega
    have eb : (if b < 0 then -b else b) = ((b.natAbs : Nat) : Int) := by split <;> omega
    have bound : a.natAbs * b.natAbs < 2 ^ 8000 := by
      have := Nat.mul_lt_mul'' sa sb
      rw [← Nat.pow_add] at this
      exact this
    refine ⟨60000, rfl, by decide, by decide, for_range (n := 60000) (fun i σ H2 => H2 = H ∧ ∃ (x y : Nat) (u v : Option V), σ = [some (.int a), some (.int b), some (.int x), some (.int y), u, v] ∧ Nat.gcd x y = Nat.gcd a.natAbs b.natAbs ∧ ((i = 0 ∧ x * y < 2 ^ 8000) ∨ (y ≤ x ∧ i ≤ 8001 ∧ x * y < 2 ^ (8001 - i)))) ?_ ?_ ?_⟩
    · refine ⟨rfl, a.natAbs, b.natAbs, none, none, ?_, rfl, .inl ⟨rfl, bound⟩⟩
      show [some (V.int a), some (V.int b), some (V.int (if a < 0 then -a else a)), some (V.int (if b < 0 then -b else b)), none, none] = _
      rw [ea, eb]
    · rintro i σ H2 hi ⟨rfl, x, y, u, v, rfl, hg, hb⟩
      refine ⟨_, rfl, rfl, _, rfl, ?_⟩
      by_cases hy : y = 0
      · subst hy
        refine ifT (decide_eq_true rfl) ⟨_, rfl, ?_⟩
        rw [Nat.gcd_zero_right] at hg
        rw [← hg] at k
        exact k
      · refine ifF (decide_eq_false fun z => hy (by have := V.int.inj z; omega)) ?_
        refine ⟨_, rfl, .inl ⟨_, rfl, _, rfl, _, _, rfl, rfl, by omega, _, rfl, _, rfl, rfl, y, x % y, _, _, rfl, ?_, ?_⟩⟩
        · rw [gcd_step]
          exact hg
        · have hm : x % y < y := Nat.mod_lt x (by omega)
          refine .inr ⟨Nat.le_of_lt hm, ?_, ?_⟩
          · rcases hb with ⟨rfl, _⟩ | ⟨_, h1, h2⟩
            · omega
            · refine Classical.byContradiction fun z => ?_
              have e : 8001 - i = 0 := by omega
              rw [e] at h2
              have hx : 0 < x := by omega
              have := Nat.mul_pos hx (show 0 < y by omega)
              omega
          · rcases hb with ⟨rfl, h1⟩ | ⟨h0, h1, h2⟩
            · show y * (x % y) < 2 ^ 8000
              refine Nat.lt_of_le_of_lt ?_ h1
              rw [Nat.mul_comm x y]
              exact Nat.mul_le_mul_left y (Nat.mod_le x y)
            · by_cases hz : i = 8001
              · subst hz
                have hx : 0 < x := by omega
                have := Nat.mul_pos hx (show 0 < y by omega)
                have h3 : x * y < 1 := h2
                omega
              · have e : 8001 - i = (8001 - (i + 1)) + 1 := by omega
                rw [e] at h2
                exact step_lt (by omega) h0 h2
    · rintro σ H2 ⟨rfl, x, y, u, v, rfl, hg, hb⟩
      exfalso
      rcases hb with ⟨h, _⟩ | ⟨_, h, _⟩ <;> omega
theorem sc__law_ratio : FnScope ["_law_top_here", "_law_bottom", "_law_common"] ["_law_top_here", "_law_bottom"] (defScope (top 28)) := ⟨rfl, rfl, rfl, by decide +kernel, rfl, by decide +kernel, by decide +kernel⟩
theorem ok__law_ratio (F : FnP K "_law_ratio" (top 28) [] f fd) {fG : Addr} {fdG : FuncData} (GG : FnOk P w K mg base CX0 1 fG fdG ["_law_one", "_law_other"] spGcdL) (mG : mg "_law_gcd" = some (.ref fG)) (kpG : PySem.W.keepIn K (.ref fG) = true) (bG : L2.Binds K fdG ["_law_one", "_law_other"] []) : FnOk P w K mg base CX0 2 f fd ["_law_top_here", "_law_bottom"] spLowL := by
  refine F.ok sc__law_ratio (fun vs H Q E h => ?_) (fun cdv A outer s H vs Q E hr h => ?_)
  · obtain ⟨a, b, rfl, _⟩ := h; rfl
  · obtain ⟨t, b, rfl, hb, st, sb, k⟩ := h
    have hrG : Room 1 _ := hr
    have hz : CDivZ 0 (divi t b) := ⟨divi_ne hb, log_of (by decide) (Nat.lt_of_le_of_lt (divi_le hb) (Nat.lt_of_lt_of_le sb (Nat.pow_le_pow_right (by decide) (by decide : 4000 ≤ 9000))))⟩
    refine ⟨_, PSs.nox (pss_cons (ps_set (i := 2) sc__law_ratio.nd rfl (Or.inl rfl) (pe_call GG hrG (by rfl) mG kpG bG .nil pass0 (pa_cons (pv 0) (pa_cons (pv 1) pa_nil))))
      (pss_cons (ps_if (pt_cmpR op_lt (pv 1) pe_int (by rfl)) (pss_one (ps_set (i := 2) sc__law_ratio.nd rfl (Or.inl rfl) (pe_un un_neg (pv 2)))) pss_nil)
      (pss_one (ps_ret (pe_tup (pa_cons (pe_op op_fdivZ (pv 0) (pv 2)) (pa_cons (pe_op op_fdivZ (pv 1) (pv 2)) pa_nil))))))), ?_⟩
    refine ⟨_, rfl, _, rfl, _, _, rfl, st, sb, ?_⟩
    refine ⟨_, rfl, _, _, rfl, rfl, _, rfl, ?_⟩
    have fin : ∀ g : Int, g = divi t b → CDivZ 0 g ∧ ∀ p, H p = none → Q (.ref p) (upd H p (.tup [.int (t.fdiv g), .int (b.fdiv g)])) := fun g e => by
      subst e
      exact ⟨hz, k⟩
    by_cases h0 : b < 0
    · obtain ⟨z, k2⟩ := fin (-((Nat.gcd t.natAbs b.natAbs : Nat) : Int)) (by unfold divi; rw [if_pos h0])
      refine ifT (decide_eq_true h0) ?_
      exact ⟨_, rfl, _, rfl, _, rfl, _, rfl, _, _, rfl, rfl, z, _, rfl, _, rfl, _, _, rfl, rfl, z, by show 2 ≤ sizeLine; decide, fun p hp => k2 p hp⟩
    · obtain ⟨z, k2⟩ := fin ((Nat.gcd t.natAbs b.natAbs : Nat) : Int) (by unfold divi; rw [if_neg h0])
      refine ifF (decide_eq_false h0) ?_
      exact ⟨_, rfl, _, rfl, _, _, rfl, rfl, z, _, rfl, _, rfl, _, _, rfl, rfl, z, by show 2 ≤ sizeLine; decide, fun p hp => k2 p hp⟩
theorem sc__law_top : FnScope ["_law_hand_here"] ["_law_hand_here"] (defScope (top 29)) := ⟨rfl, rfl, rfl, by decide +kernel, rfl, by decide +kernel, by decide +kernel⟩
theorem ok__law_top (F : FnP K "_law_top" (top 29) [] f fd) {fT : Addr} {fdT : FuncData} (GT : FnOk P w K mg base CX0 2 fT fdT ["_law_hand_here", "_law_many"] spTake) (mT : mg "_law_take" = some (.ref fT)) (kpT : PySem.W.keepIn K (.ref fT) = true) (bT : L2.Binds K fdT ["_law_hand_here", "_law_many"] []) : FnOk P w K mg base CX0 3 f fd ["_law_hand_here"] (spDraw (-1000000000) 1000000000) := by
  refine F.ok sc__law_top (fun vs H Q E h => ?_) (fun cdv A outer s H vs Q E hr h => ?_)
  · obtain ⟨a, c, cs, p, g, t, rfl, _⟩ := h; rfl
  · obtain ⟨a, c, cs, p, g, t, rfl, hh, k⟩ := h
    have hrT : Room 2 _ := hr
    refine ⟨_, PSs.nox (pss_cons (ps_if (pt_cmpR op_eq (pe_call GT hrT (by rfl) mT kpT bT .nil pass0 (pa_cons (pv 0) (pa_cons pe_int pa_nil))) pe_int (by rfl)) (pss_one (ps_ret (pe_op op_sub (pe_call GT hrT (by rfl) mT kpT bT .nil pass0 (pa_cons (pv 0) (pa_cons (pe_op op_pow pe_int pe_int) pa_nil))) (pe_op op_mul pe_int (pe_op op_pow pe_int pe_int))))) pss_nil)
      (pss_one (ps_ret (pe_op op_sub (pe_call GT hrT (by rfl) mT kpT bT .nil pass0 (pa_cons (pv 0) (pa_cons pe_int pa_nil))) pe_int)))), ?_⟩
    refine ⟨_, rfl, a, c, cs, _, _, _, _, rfl, hh, by decide, by decide, fun r p1 g1 t1 H1 _ _ b1 h1 => ⟨rfl, _, rfl, ?_⟩⟩
    by_cases h0 : r = 0
    · refine ifT (decide_eq_true (congrArg V.int h0)) ?_
      refine ⟨_, rfl, _, _, rfl, rfl, ⟨by decide, by decide, by decide⟩, a, c, cs, _, _, _, _, rfl, h1, by rw [ten9]; decide, by rw [ten9]; decide, fun r2 p2 g2 t2 H2 r0 r1 b2 h2 => ?_⟩
      rw [ten9] at r1
      refine ⟨_, _, rfl, rfl, ⟨by decide, by decide, by decide⟩, _, _, rfl, rfl, .inl ⟨by decide, by decide⟩, _, _, rfl, rfl, ?_⟩
      rw [ten8]
      exact k _ _ _ _ _ (by omega) (by omega) (But.trans b1 b2) h2
    · refine ifF (decide_eq_false fun z => h0 (V.int.inj z)) ?_
      refine ⟨_, rfl, a, c, cs, _, _, _, _, rfl, h1, by decide, by decide, fun r2 p2 g2 t2 H2 r0 r1 b2 h2 => ⟨_, _, rfl, rfl, ?_⟩⟩
      exact k _ _ _ _ _ (by omega) (by omega) (But.trans b1 b2) h2
theorem sc__law_fraction : FnScope ["_law_hand_here"] ["_law_hand_here"] (defScope (top 30)) := ⟨rfl, rfl, rfl, by decide +kernel, rfl, by decide +kernel, by decide +kernel⟩
theorem ok__law_fraction (F : FnP K "_law_fraction" (top 30) [] f fd) {fT : Addr} {fdT : FuncData} (GT : FnOk P w K mg base CX0 2 fT fdT ["_law_hand_here", "_law_many"] spTake) (mT : mg "_law_take" = some (.ref fT)) (kpT : PySem.W.keepIn K (.ref fT) = true) (bT : L2.Binds K fdT ["_law_hand_here", "_law_many"] []) {fO : Addr} {fdO : FuncData} (GO : FnOk P w K mg base CX0 3 fO fdO ["_law_hand_here"] (spDraw (-1000000000) 1000000000)) (mO : mg "_law_top" = some (.ref fO)) (kpO : PySem.W.keepIn K (.ref fO) = true) (bO : L2.Binds K fdO ["_law_hand_here"] []) {fR : Addr} {fdR : FuncData} (GR : FnOk P w K mg base CX0 2 fR fdR ["_law_top_here", "_law_bottom"] spLowL) (mR : mg "_law_ratio" = some (.ref fR)) (kpR : PySem.W.keepIn K (.ref fR) = true) (bR : L2.Binds K fdR ["_law_top_here", "_law_bottom"] []) : FnOk P w K mg base CX0 4 f fd ["_law_hand_here"] spFrac := by
  refine F.ok sc__law_fraction (fun vs H Q E h => ?_) (fun cdv A outer s H vs Q E hr h => ?_)
  · obtain ⟨a, c, cs, p, g, t, rfl, _⟩ := h; rfl
  · obtain ⟨a, c, cs, p, g, t, rfl, hh, k⟩ := h
    have hrT : Room 2 _ := hr.mono (by decide)
    have hrO : Room 3 _ := hr
    have hrR : Room 2 _ := hr.mono (by decide)
    refine ⟨_, PSs.nox (pss_one (ps_ret (pe_call GR hrR (by rfl) mR kpR bR .nil pass0 (pa_cons (pe_call GO hrO (by rfl) mO kpO bO .nil pass0 (pa_cons (pv 0) pa_nil)) (pa_cons (pe_op op_add pe_int (pe_call GT hrT (by rfl) mT kpT bT .nil pass0 (pa_cons (pv 0) (pa_cons pe_int pa_nil)))) pa_nil))))), ?_⟩
    refine ⟨_, rfl, a, c, cs, _, _, _, rfl, hh, fun r p1 g1 t1 H1 l0 l1 b1 h1 => ⟨_, rfl, a, c, cs, _, _, _, _, rfl, h1, by decide, by decide, fun r2 p2 g2 t2 H2 r0 r1 b2 h2 => ⟨_, _, rfl, rfl, ?_⟩⟩⟩
    refine ⟨_, _, rfl, by omega, sm4_of64 (by omega), sm4_of64 (by omega), fun q hq => ?_⟩
    have hqa : q ≠ a := (ne_of_none h2.l hq).symm
    exact k q _ _ _ _ _ _ (frac_low (by omega) (by omega) (by omega)) upd_same (But.trans b1 (But.trans b2 (But.new hq))) (h2.same (same_new hq))
theorem sc__law_drawn : FnScope ["_law_hand_here", "_law_p"] ["_law_hand_here", "_law_p"] (defScope (top 31)) := ⟨rfl, rfl, rfl, by decide +kernel, rfl, by decide +kernel, by decide +kernel⟩
theorem ok__law_drawn (F : FnP K "_law_drawn" (top 31) [] f fd) {fT : Addr} {fdT : FuncData} (GT : FnOk P w K mg base CX0 2 fT fdT ["_law_hand_here", "_law_many"] spTake) (mT : mg "_law_take" = some (.ref fT)) (kpT : PySem.W.keepIn K (.ref fT) = true) (bT : L2.Binds K fdT ["_law_hand_here", "_law_many"] []) {fF : Addr} {fdF : FuncData} (GF : FnOk P w K mg base CX0 4 fF fdF ["_law_hand_here"] spFrac) (mF : mg "_law_fraction" = some (.ref fF)) (kpF : PySem.W.keepIn K (.ref fF) = true) (bF : L2.Binds K fdF ["_law_hand_here"] []) : FnOk P w K mg base CX0 5 f fd ["_law_hand_here", "_law_p"] spDrawn := by
  refine F.ok sc__law_drawn (fun vs H Q E h => ?_) (fun cdv A outer s H vs Q E hr h => ?_)
  · obtain ⟨a, c, cs, p, g, t, m, rfl, _⟩ := h; rfl
  · obtain ⟨a, c, cs, p, g, t, m, rfl, hh, m0, m1, k0, k1⟩ := h
    have hrT : Room 2 _ := hr.mono (by decide)
    have hrF : Room 4 _ := hr
    refine ⟨_, PSs.nox (pss_cons (ps_if (pt_cmpR op_eq (pv 1) pe_int (by rfl)) (pss_one (ps_ret (pe_call GF hrF (by rfl) mF kpF bF .nil pass0 (pa_cons (pv 0) pa_nil)))) pss_nil)
      (pss_one (ps_ret (pe_call GT hrT (by rfl) mT kpT bT .nil pass0 (pa_cons (pv 0) (pa_cons (pv 1) pa_nil)))))), ?_⟩
    refine ⟨_, rfl, rfl, _, rfl, ?_⟩
    by_cases hm : m = 0
    · exact ifT (decide_eq_true (congrArg V.int hm)) ⟨_, rfl, a, c, cs, _, _, _, rfl, hh, k0 hm⟩
    · exact ifF (decide_eq_false fun z => hm (V.int.inj z)) ⟨_, rfl, _, rfl, a, c, cs, _, _, _, _, rfl, hh, by omega, by omega, k1 hm⟩
theorem sc__law_whole : FnScope ["_law_thing"] ["_law_thing"] (defScope (top 33)) := ⟨rfl, rfl, rfl, by decide +kernel, rfl, by decide +kernel, by decide +kernel⟩
theorem ok__law_whole (F : FnP K "_law_whole" (top 33) [] f fd) (tx : Bn mg) : FnOk P w K mg base CX0 1 f fd ["_law_thing"] (spWholeL K) := by
  refine F.ok sc__law_whole (fun vs H Q E h => ?_) (fun cdv A outer s H vs Q E hr h => ?_)
  · obtain ⟨x, d, rfl, _⟩ := h; rfl
  · obtain ⟨x, d, rfl, hd, k⟩ := h
    refine ⟨_, PSs.nox (pss_one (ps_ret (pe_and (pe_callB call_isi (by rfl) tx.isinstance PyProof.Rows.boot_isinstance (pa_cons (pv 0) (pa_cons (pe_bltn (v := .ty "int") (by rfl) tx.int (by decide +kernel) rfl) pa_nil))) (pe_one (pe_not (pe_callB call_isi (by rfl) tx.isinstance PyProof.Rows.boot_isinstance (pa_cons (pv 0) (pa_cons (pe_bltn (v := .ty "bool") (by rfl) tx.bool (by decide +kernel) rfl) pa_nil)))))))), ?_⟩
    refine ⟨_, rfl, _, _, _, _, _, rfl, .ty _, ty_dp hd, kit_bi d (.inl rfl), _, rfl, ?_⟩
    cases d with
    | int i =>
      cases hd
      exact ifT rfl ⟨_, rfl, _, _, _, _, _, rfl, .ty _, ty_dp (.int i), kit_bi (.int i) (.inr (.inl rfl)), _, rfl, k⟩
    | bool b =>
      cases hd
      exact ifT rfl ⟨_, rfl, _, _, _, _, _, rfl, .ty _, ty_dp (.bl b), kit_bi (.bool b) (.inr (.inl rfl)), _, rfl, k⟩
    | dict _ => cases hd
    | _ => exact ifF rfl k
theorem sc__law_sign : FnScope ["_law_number"] ["_law_number"] (defScope (top 34)) := ⟨rfl, rfl, rfl, by decide +kernel, rfl, by decide +kernel, by decide +kernel⟩
theorem ok__law_sign (F : FnP K "_law_sign" (top 34) [] f fd) (tx : Bn mg) : FnOk P w K mg base CX0 1 f fd ["_law_number"] spSign := by
  refine F.ok sc__law_sign (fun vs H Q E h => ?_) (fun cdv A outer s H vs Q E hr h => ?_)
  · obtain ⟨n, rfl, _⟩ := h; rfl
  · obtain ⟨n, rfl, k⟩ := h
    refine ⟨_, PSs.nox (pss_cons (ps_if (pt_cmpR op_lt (pv 0) pe_int (by rfl)) (pss_one (ps_ret (pe_un un_neg pe_int))) pss_nil)
      (pss_one (ps_ret (pe_callTy call_int1 (by rfl) tx.int PyProof.Rows.boot_int (pa_cons (pe_cmpR op_gt (pv 0) pe_int (by rfl)) pa_nil))))), ?_⟩
    refine ⟨_, rfl, _, _, rfl, rfl, _, rfl, ?_⟩
    by_cases h0 : n < 0
    · have e : sgn n = -1 := if_pos h0
      rw [e] at k
      exact ifT (decide_eq_true h0) ⟨_, rfl, k⟩
    · refine ifF (decide_eq_false h0) ⟨_, rfl, _, _, rfl, rfl, .inr ⟨_, rfl, ?_⟩⟩
      by_cases h1 : 0 < n
      · have e : sgn n = 1 := by unfold sgn; rw [if_neg h0, if_pos h1]
        rw [e] at k
        rw [decide_eq_true h1]
        exact k
      · have e : sgn n = 0 := by unfold sgn; rw [if_neg h0, if_neg h1]
        rw [e] at k
        rw [decide_eq_false h1]
        exact k
theorem sc__law_same : FnScope ["_law_told", "_law_due"] ["_law_told", "_law_due"] (defScope (top 32)) := ⟨rfl, rfl, rfl, by decide +kernel, rfl, by decide +kernel, by decide +kernel⟩
theorem ok__law_same (F : FnP K "_law_same" (top 32) [] f fd) (tx : Bn mg) {fW : Addr} {fdW : FuncData} (GW : FnOk P w K mg base CX0 1 fW fdW ["_law_thing"] (spWholeL K)) (mW : mg "_law_whole" = some (.ref fW)) (kpW : PySem.W.keepIn K (.ref fW) = true) (bW : L2.Binds K fdW ["_law_thing"] []) : FnOk P w K mg base CX0 2 f fd ["_law_told", "_law_due"] (spSame K) := by
  refine F.ok sc__law_same (fun vs H Q E h => ?_) (fun cdv A outer s H vs Q E hr h => ?_)
  · obtain ⟨x, y, d, rfl, _⟩ := h; rfl
  · obtain ⟨x, y, d, rfl, hx, hy, hn, k⟩ := h
    have hrW : Room 1 _ := hr
    have hu := hr.units
    obtain ⟨sh, eq⟩ := numb_sh hn
    refine ⟨_, PSs.nox (pss_cons (ps_if (pt_val (pe_callB call_isi (by rfl) tx.isinstance PyProof.Rows.boot_isinstance (pa_cons (pv 1) (pa_cons (pe_bltn (v := .ty "tuple") (by rfl) tx.tuple (by decide +kernel) rfl) pa_nil)))) (pss_one (ps_ret (pe_and (pe_callB call_isi (by rfl) tx.isinstance PyProof.Rows.boot_isinstance (pa_cons (pv 0) (pa_cons (pe_bltn (v := .ty "tuple") (by rfl) tx.tuple (by decide +kernel) rfl) pa_nil))) (pe_and (pe_cmpR op_eq (pe_callB call_len_seq (by rfl) tx.len PySem.boot_len (pa_cons (pv 0) pa_nil)) pe_int (by rfl)) (pe_and (pe_call GW hrW (by rfl) mW kpW bW .nil pass0 (pa_cons (pe_ix ix_tup (pv 0) pe_int (fun _ _ => rfl)) pa_nil)) (pe_and (pe_call GW hrW (by rfl) mW kpW bW .nil pass0 (pa_cons (pe_ix ix_tup (pv 0) pe_int (fun _ _ => rfl)) pa_nil)) (pe_one (pe_cmpR (op_eqD hu) (pv 0) (pv 1) (by rfl))))))))) pss_nil)
      (pss_one (ps_ret (pe_and (pe_call GW hrW (by rfl) mW kpW bW .nil pass0 (pa_cons (pv 0) pa_nil)) (pe_one (pe_cmpR (op_eqD hu) (pv 0) (pv 1) (by rfl))))))), ?_⟩
    refine ⟨_, rfl, _, _, _, _, _, rfl, .ty _, ty_dp hy, kit_bi d (.inr (.inr (.inr rfl))), _, rfl, ?_⟩
    rcases hn with ⟨i, rfl⟩ | ⟨t, b, rfl⟩
    · refine ifF rfl ⟨_, rfl, x, .int i, rfl, hx, _, rfl, ifT rfl ⟨_, rfl, _, rfl, _, _, hx, hy, sh, sh, ?_⟩⟩
      rw [eq]
      exact k
    · obtain ⟨a, rfl, hs⟩ := dp_two hx
      have hd := dp_of2 hs
      refine ifT rfl ⟨_, rfl, _, _, _, _, _, rfl, .ty _, ty_dp hd, kit_bi (.tuple [.int t, .int b]) (.inr (.inr (.inr rfl))), _, rfl, ifT rfl ?_⟩
      refine ⟨_, rfl, a, _, rfl, .inr hs, rfl, _, rfl, ifT rfl ?_⟩
      refine ⟨_, rfl, _, _, _, _, rfl, rfl, hs, rfl, _, .int t, rfl, .int t, _, rfl, ifT rfl ?_⟩
      refine ⟨_, rfl, _, _, _, _, rfl, rfl, hs, rfl, _, .int b, rfl, .int b, _, rfl, ifT rfl ?_⟩
      refine ⟨_, rfl, _, rfl, _, _, hd, hy, sh, sh, ?_⟩
      rw [eq]
      exact k
end
end Rd
set_option exponentiation.threshold 20000

namespace Rf
open PySem PySem.Spec PyProof.Rows L2 Dz Ra Mt Kx Ky Re Rb Rc Rd
open Kq (HandAt But spTake)
/-- the four errors, side by side -/
structure Es (P : Program) (w : World) (K : PySem.W.Frag) (mg : Str → Option Value) (base : Heap) (gP cR cD cF cN : Addr) : Prop where
  gt : Gt K
  eD : Eb K mg gP "DividedByNought" cD
  eN : Eb K mg gP "BadNumber" cN
  eR : Ei P w K mg base gP "BadRatio" "what" cR
  eF : Ei P w K mg base gP "BadFigures" "prime" cF
  mP : mg "PairError" = some (.ref gP)
  xD : PySem.W.exmOne K (.ref cD) (.ref cD) = some true
  xDP : PySem.W.exmOne K (.ref cD) (.ref gP) = some true
  xR : PySem.W.exmOne K (.ref cR) (.ref cR) = some true
  xN : PySem.W.exmOne K (.ref cN) (.ref cN) = some true
  xF : PySem.W.exmOne K (.ref cF) (.ref cF) = some true
  kDN : PySem.W.kitOne K (.ref cD) (.ref cN) = some false
  kDD : PySem.W.kitOne K (.ref cD) (.ref cD) = some true
  kND : PySem.W.kitOne K (.ref cN) (.ref cD) = some false
  kNV : PySem.W.kitOne K (.ref cN) (.type "ValueError") = some true
  kFP : PySem.W.kitOne K (.ref cF) (.ref gP) = some true
  kFN : PySem.W.kitOne K (.ref cF) (.ref cN) = some false
theorem lk1 {f : Str} {v : V} : ([(f, v)] : List (Str × V)).lookup f = some v := by
  rw [List.lookup_cons, beq_self_eq_true]
theorem pe_cls {X : Cx} {x : Str} {C : Addr} {pos : Pos} (hg : Gl X x) (hm : X.mg x = some (.ref C)) (hd : (x == ("__debug__" : Str)) = false := by decide) : PE X (.Name x pos) (tC (.ref C)) := pe_glob (v := .ref C) hg hm rfl hd
theorem op_eqDK {X : Cx} {K : PySem.W.Frag} (hK : X.K = K) (hu : X.A.units + 64 < cLine) : OpR X (compareOp .Eq) (rEqD K) := by
  subst hK
  exact op_eqD hu
/-- True, and all that stood stands -/
def spT2 (K : PySem.W.Frag) (ok : Hp → List V → Prop) : Sp := fun vs H Q _ => ok H vs ∧ ∀ H', Same H H' → Q (.bl true) H'
/-- two drawn fractions -/
def TwoR (K : PySem.W.Frag) (H : Hp) (vs : List V) : Prop := ∃ x y a b c d, vs = [.ref x, .ref y] ∧ SqT K H x [.int a, .int b] ∧ SqT K H y [.int c, .int d] ∧ Frac a b ∧ Frac c d
def MadeR (K : PySem.W.Frag) (H : Hp) (vs : List V) : Prop := ∃ x y dx dy, vs = [x, y] ∧ Dp K H x dx ∧ Dp K H y dy ∧ (∀ t, dx = .int t → t.natAbs < 2 ^ 64) ∧ (∀ b, dy = .int b → b.natAbs < 2 ^ 64)
/-- a Figures of a prime, the prime, two of its rests -/
def RestR (C : Addr) (H : Hp) (vs : List V) : Prop := ∃ s p i j, vs = [.ref s, .int p, .int i, .int j] ∧ FigAt C H s p ∧ p ≠ 0 ∧ 0 ≤ i ∧ i < p ∧ 0 ≤ j ∧ j < p
def FracR (K : PySem.W.Frag) (C : Addr) (H : Hp) (vs : List V) : Prop := ∃ s x y a b c d, vs = [.ref s, .ref x, .ref y] ∧ FigAt C H s 0 ∧ SqT K H x [.int a, .int b] ∧ SqT K H y [.int c, .int d] ∧ Frac a b ∧ Frac c d
/-- couples of a list: told and due, both the same couple in lowest terms -/
def PairsL (H : Hp) (ps : List Addr) : Prop := ∀ p ∈ ps, ∃ t d x y, H p = some (.tup [.ref t, .ref d]) ∧ H t = some (.tup [.int x, .int y]) ∧ H d = some (.tup [.int x, .int y]) ∧ Low x y
theorem cmp_sgn (a b c d : Int) : cmpR a b c d = sgn (a * d - c * b) := by
  unfold cmpR sgn
  generalize a * d = x
  generalize c * b = y
  split <;> split <;> try split <;> try split
  all_goals omega
theorem ne_cmp (a b c d : Int) : (!decide (V.int (cmpR a b c d) = V.int (sgn (a * d - c * b)))) = false := by
  rw [cmp_sgn, decide_eq_true rfl]
  rfl
theorem cmpI_sgn (i j : Int) : cmpI i j = sgn (i - j) := by
  unfold cmpI sgn
  split <;> split <;> try split <;> try split
  all_goals omega
theorem m64 {i j : Int} (hi : i.natAbs ≤ 2 ^ 31) (hj : j.natAbs ≤ 2 ^ 31) : CMulW i j := wide_mul (a := 64) (b := 64) (Nat.lt_of_le_of_lt hi (by decide)) (Nat.lt_of_le_of_lt hj (by decide)) (by decide) (by decide) (by decide)
theorem p64 {i j : Int} (hi : i.natAbs ≤ 2 ^ 31) (hj : j.natAbs ≤ 2 ^ 31) : Sm4 (i * j) := Nat.lt_of_le_of_lt (mul_lt64 hi hj) (Nat.lt_of_lt_of_le (by decide : 2 ^ 62 < 2 ^ 63) (Nat.pow_le_pow_right (by decide) (by decide)))
theorem s64 {x y : Int} (hx : x.natAbs ≤ 2 ^ 62) (hy : y.natAbs ≤ 2 ^ 62) : Sm4 (x + y) ∧ Sm4 (x - y) := by
  have h : (2 : Nat) ^ 64 ≤ 2 ^ 4000 := Nat.pow_le_pow_right (by decide) (by decide)
  constructor
  · exact Nat.lt_of_lt_of_le (show (x + y).natAbs < 2 ^ 64 by omega) h
  · exact Nat.lt_of_lt_of_le (show (x - y).natAbs < 2 ^ 64 by omega) h
section
variable {P : Program} {w : World} {K : PySem.W.Frag} {mg : Str → Option Value} {base : Heap} {f gP cR cD cF cN C : Addr} {fd : FuncData}
theorem sc__law_ratios : FnScope ["_law_one", "_law_other", "_law_both", "_law_told", "_law_due", "_law_order", "_law_quotient", "_law_refused_here", "e"] ["_law_one", "_law_other"] (defScope (top 35)) := ⟨rfl, rfl, rfl, by decide +kernel, rfl, by decide +kernel, by decide +kernel⟩
theorem ok__law_ratios (F : FnP K "_law_ratios" (top 35) [] f fd) (tx : Bn mg) (es : Es P w K mg base gP cR cD cF cN) {f1 : Addr} {fd1 : FuncData} (G1 : FnOk P w K mg base CX0 2 f1 fd1 ["one", "other"] (spDeed K plusT bothB)) (m1 : mg "ratio_plus" = some (.ref f1)) (kp1 : PySem.W.keepIn K (.ref f1) = true) (b1 : L2.Binds K fd1 ["one", "other"] []) {f2 : Addr} {fd2 : FuncData} (G2 : FnOk P w K mg base CX0 2 f2 fd2 ["one", "other"] (spDeed K minusT bothB)) (m2 : mg "ratio_minus" = some (.ref f2)) (kp2 : PySem.W.keepIn K (.ref f2) = true) (b2 : L2.Binds K fd2 ["one", "other"] []) {f3 : Addr} {fd3 : FuncData} (G3 : FnOk P w K mg base CX0 2 f3 fd3 ["one", "other"] (spDeed K timesT bothB)) (m3 : mg "ratio_times" = some (.ref f3)) (kp3 : PySem.W.keepIn K (.ref f3) = true) (b3 : L2.Binds K fd3 ["one", "other"] []) {f4 : Addr} {fd4 : FuncData} (G4 : FnOk P w K mg base CX0 1 f4 fd4 ["one", "other"] (spCmp K)) (m4 : mg "ratio_compare" = some (.ref f4)) (kp4 : PySem.W.keepIn K (.ref f4) = true) (b4 : L2.Binds K fd4 ["one", "other"] []) {f5 : Addr} {fd5 : FuncData} (G5 : FnOk P w K mg base (L2.CX P w) 2 f5 fd5 ["one", "other"] (spOver K cD)) (m5 : mg "ratio_over" = some (.ref f5)) (kp5 : PySem.W.keepIn K (.ref f5) = true) (b5 : L2.Binds K fd5 ["one", "other"] []) {f6 : Addr} {fd6 : FuncData} (G6 : FnOk P w K mg base CX0 2 f6 fd6 ["thing"] (spRatio K)) (m6 : mg "is_ratio" = some (.ref f6)) (kp6 : PySem.W.keepIn K (.ref f6) = true) (b6 : L2.Binds K fd6 ["thing"] []) {fL : Addr} {fdL : FuncData} (GL : FnOk P w K mg base CX0 2 fL fdL ["_law_top_here", "_law_bottom"] spLowL) (mL : mg "_law_ratio" = some (.ref fL)) (kpL : PySem.W.keepIn K (.ref fL) = true) (bL : L2.Binds K fdL ["_law_top_here", "_law_bottom"] []) {fW : Addr} {fdW : FuncData} (GW : FnOk P w K mg base CX0 1 fW fdW ["_law_thing"] (spWholeL K)) (mW : mg "_law_whole" = some (.ref fW)) (kpW : PySem.W.keepIn K (.ref fW) = true) (bW : L2.Binds K fdW ["_law_thing"] []) {fS : Addr} {fdS : FuncData} (GS : FnOk P w K mg base CX0 2 fS fdS ["_law_told", "_law_due"] (spSame K)) (mS : mg "_law_same" = some (.ref fS)) (kpS : PySem.W.keepIn K (.ref fS) = true) (bS : L2.Binds K fdS ["_law_told", "_law_due"] []) {fN : Addr} {fdN : FuncData} (GN : FnOk P w K mg base CX0 1 fN fdN ["_law_number"] spSign) (mN : mg "_law_sign" = some (.ref fN)) (kpN : PySem.W.keepIn K (.ref fN) = true) (bN : L2.Binds K fdN ["_law_number"] []) : FnOk P w K mg base CX0 3 f fd ["_law_one", "_law_other"] (spT2 K (TwoR K)) := by
  refine F.ok sc__law_ratios (fun vs H Q E h => ?_) (fun cdv A outer s H vs Q E hr h => ?_)
  · obtain ⟨⟨x, y, a, b, c, d, rfl, _⟩, _⟩ := h; rfl
  · obtain ⟨⟨x, y, a, b, c, d, rfl, hx, hy, ha, hc⟩, k⟩ := h
    have hr1 : Room 2 _ := hr.mono (by decide)
    have hr2 : Room 2 _ := hr.mono (by decide)
    have hr3 : Room 2 _ := hr.mono (by decide)
    have hr4 : Room 1 _ := hr.mono (by decide)
    have hr5 : Room 2 _ := hr.mono (by decide)
    have hr6 : Room 2 _ := hr.mono (by decide)
    have hrL : Room 2 _ := hr.mono (by decide)
    have hrS : Room 2 _ := hr.mono (by decide)
    have hrW : Room 1 _ := hr.mono (by decide)
    have hrN : Room 1 _ := hr.mono (by decide)
    have hb31 := ha.b31
    have hd31 := hc.b31
    have l1 := low_low (t := plusT a b c d) (bothB_ne ha.ne hc.ne)
    have l2 := low_low (t := minusT a b c d) (bothB_ne ha.ne hc.ne)
    have l3 := low_low (t := timesT a b c d) (bothB_ne ha.ne hc.ne)
    refine ⟨_, PSs.nox (Evl.pss_cut (ps_set (i := 2) sc__law_ratios.nd rfl (Or.inl rfl) (pe_lst (pa_cons (pe_tup (pa_cons (pe_call G1 hr1 (by rfl) m1 kp1 b1 .nil pass0 (pa_cons (pv 0) (pa_cons (pv 1) pa_nil))) (pa_cons (pe_call GL hrL (by rfl) mL kpL bL .nil pass0 (pa_cons (pe_op op_add (pe_op op_mulW (pe_ix ix_tup (pv 0) pe_int (fun _ _ => rfl)) (pe_ix ix_tup (pv 1) pe_int (fun _ _ => rfl))) (pe_op op_mulW (pe_ix ix_tup (pv 1) pe_int (fun _ _ => rfl)) (pe_ix ix_tup (pv 0) pe_int (fun _ _ => rfl)))) (pa_cons (pe_op op_mulW (pe_ix ix_tup (pv 0) pe_int (fun _ _ => rfl)) (pe_ix ix_tup (pv 1) pe_int (fun _ _ => rfl))) pa_nil))) pa_nil))) (pa_cons (pe_tup (pa_cons (pe_call G2 hr2 (by rfl) m2 kp2 b2 .nil pass0 (pa_cons (pv 0) (pa_cons (pv 1) pa_nil))) (pa_cons (pe_call GL hrL (by rfl) mL kpL bL .nil pass0 (pa_cons (pe_op op_sub (pe_op op_mulW (pe_ix ix_tup (pv 0) pe_int (fun _ _ => rfl)) (pe_ix ix_tup (pv 1) pe_int (fun _ _ => rfl))) (pe_op op_mulW (pe_ix ix_tup (pv 1) pe_int (fun _ _ => rfl)) (pe_ix ix_tup (pv 0) pe_int (fun _ _ => rfl)))) (pa_cons (pe_op op_mulW (pe_ix ix_tup (pv 0) pe_int (fun _ _ => rfl)) (pe_ix ix_tup (pv 1) pe_int (fun _ _ => rfl))) pa_nil))) pa_nil))) (pa_cons (pe_tup (pa_cons (pe_call G3 hr3 (by rfl) m3 kp3 b3 .nil pass0 (pa_cons (pv 0) (pa_cons (pv 1) pa_nil))) (pa_cons (pe_call GL hrL (by rfl) mL kpL bL .nil pass0 (pa_cons (pe_op op_mulW (pe_ix ix_tup (pv 0) pe_int (fun _ _ => rfl)) (pe_ix ix_tup (pv 1) pe_int (fun _ _ => rfl))) (pa_cons (pe_op op_mulW (pe_ix ix_tup (pv 0) pe_int (fun _ _ => rfl)) (pe_ix ix_tup (pv 1) pe_int (fun _ _ => rfl))) pa_nil))) pa_nil))) pa_nil)))))
      (pss_cons (ps_for PassesOwn.never rfl (pi_list (pv 2)) (pg_tup rfl (pgs_cons (pg_name (i := 3) sc__law_ratios.nd rfl (Or.inl rfl)) (pgs_cons (pg_name (i := 4) sc__law_ratios.nd rfl (Or.inl rfl)) pgs_nil))) (pss_one (ps_if (PW.pt (pw_or (pt_not (pt_val (pe_call GS hrS (by rfl) mS kpS bS .nil pass0 (pa_cons (pv 3) (pa_cons (pv 4) pa_nil))))) (pw_or1 (pt_not (pt_val (pe_call G6 hr6 (by rfl) m6 kp6 b6 .nil pass0 (pa_cons (pv 3) pa_nil))))))) (pss_one (ps_ret pe_bl)) pss_nil)))
      (pss_cons (ps_set (i := 5) sc__law_ratios.nd rfl (Or.inl rfl) (pe_call G4 hr4 (by rfl) m4 kp4 b4 .nil pass0 (pa_cons (pv 0) (pa_cons (pv 1) pa_nil))))
      (pss_cons (ps_if (PW.pt (pw_or (pt_not (pt_val (pe_call GW hrW (by rfl) mW kpW bW .nil pass0 (pa_cons (pv 5) pa_nil)))) (pw_or1 (pt_cmpR op_ne (pv 5) (pe_call GN hrN (by rfl) mN kpN bN .nil pass0 (pa_cons (pe_op op_sub (pe_op op_mulW (pe_ix ix_tup (pv 0) pe_int (fun _ _ => rfl)) (pe_ix ix_tup (pv 1) pe_int (fun _ _ => rfl))) (pe_op op_mulW (pe_ix ix_tup (pv 1) pe_int (fun _ _ => rfl)) (pe_ix ix_tup (pv 0) pe_int (fun _ _ => rfl)))) pa_nil)) (by rfl))))) (pss_one (ps_ret pe_bl)) pss_nil)
      (pss_cons (ps_set (i := 6) sc__law_ratios.nd rfl (Or.inl rfl) pe_non)
      (pss_cons (ps_set (i := 7) sc__law_ratios.nd rfl (Or.inl rfl) pe_bl)
      (pss_cons (ps_try_as (i := 8) (c := (.ref cD)) (Wout := fun _ _ _ _ => False) rfl rfl sc__law_ratios.nd rfl rfl ⟨rfl, by decide, .inl es.eD.m⟩ takes0
        (fun W pn xe tk _ => (pss_one (ps_set (i := 6) sc__law_ratios.nd rfl (Or.inl rfl) (pe_callS G5 hr5 (by rfl) m5 kp5 b5 (fun σ => passAt tk σ) (pa_cons (pv 0) (pa_cons (pv 1) pa_nil))))))
        (fun a oe cls dd pn hz hf => (pss_one (ps_set (i := 7) sc__law_ratios.nd rfl (Or.inl rfl) (pe_not (pe_callB (call_isS (P := gP) es.gt hz hf) (by rfl) tx.isinstance PyProof.Rows.boot_isinstance (pa_cons (pv 8) (pa_cons (pe_cls (by rfl) es.eN.m) pa_nil))))))))
      (pss_cons (ps_if (pt_cmpR op_eq (pe_ix ix_tup (pv 1) pe_int (fun _ _ => rfl)) pe_int (by rfl)) (pss_one (ps_ret (pv 7))) pss_nil)
      (pss_one (ps_ret (pe_call GS hrS (by rfl) mS kpS bS .nil pass0 (pa_cons (pv 6) (pa_cons (pe_call GL hrL (by rfl) mL kpL bL .nil pass0 (pa_cons (pe_op op_mulW (pe_ix ix_tup (pv 0) pe_int (fun _ _ => rfl)) (pe_ix ix_tup (pv 1) pe_int (fun _ _ => rfl))) (pa_cons (pe_op op_mulW (pe_ix ix_tup (pv 0) pe_int (fun _ _ => rfl)) (pe_ix ix_tup (pv 1) pe_int (fun _ _ => rfl))) pa_nil))) pa_nil))))))))))))), ?_⟩
    refine ⟨fun σ2 H2 => ∃ (L : Addr) (ps : List Addr), σ2 = [some (.ref x), some (.ref y), some (.ref L), none, none, none, none, none, none] ∧ Same H H2 ∧ H2 L = some (.lst (ps.map V.ref)) ∧ ps.length ≤ 10 ∧ PairsL H2 ps, ?_, ?_⟩
    · have r0 : Same H H := Same.refl H
      refine ⟨_, rfl, _, rfl, x, y, a, b, c, d, rfl, Evl.ex_t r0 hx, Evl.ex_t r0 hy, ha.smT, ha.smB, hc.smT, hc.smB, ha.ne, hc.ne, fun t1 ht1 => ?_⟩
      have nt1 := same_new (o := (.tup [.int (lowT (plusT a b c d) (bothB a b c d)), .int (lowB (plusT a b c d) (bothB a b c d))])) ht1
      have s1a := (r0).trans nt1
      refine ⟨_, rfl, _, _, _, _, rfl, rfl, (Evl.ex_t s1a hx), rfl, _, rfl, _, _, _, _, rfl, rfl, (Evl.ex_t s1a hy), rfl, _, _, rfl, rfl, m64 ha.a31 hc.b31, _, rfl, _, _, _, _, rfl, rfl, (Evl.ex_t s1a hy), rfl, _, rfl, _, _, _, _, rfl, rfl, (Evl.ex_t s1a hx), rfl, _, _, rfl, rfl, m64 hc.a31 ha.b31, _, _, rfl, rfl, _, rfl, _, _, _, _, rfl, rfl, (Evl.ex_t s1a hx), rfl, _, rfl, _, _, _, _, rfl, rfl, (Evl.ex_t s1a hy), rfl, _, _, rfl, rfl, m64 ha.b31 hc.b31, _, _, rfl, bothB_ne ha.ne hc.ne, (s64 (mul_lt64 ha.a31 hc.b31) (mul_lt64 hc.a31 ha.b31)).1, p64 hb31 hd31, fun u1 hu1 => ?_⟩
      have nu1 := same_new (o := (.tup [.int (lowT (plusT a b c d) (bothB a b c d)), .int (lowB (plusT a b c d) (bothB a b c d))])) hu1
      have s1b := s1a.trans nu1
      refine ⟨by show 2 ≤ sizeLine; decide, fun v1 hv1 => ?_⟩
      have nv1 := same_new (o := .tup [.ref t1, .ref u1]) hv1
      have s1 := s1b.trans nv1
      refine ⟨_, rfl, _, rfl, x, y, a, b, c, d, rfl, Evl.ex_t s1 hx, Evl.ex_t s1 hy, ha.smT, ha.smB, hc.smT, hc.smB, ha.ne, hc.ne, fun t2 ht2 => ?_⟩
      have nt2 := same_new (o := (.tup [.int (lowT (minusT a b c d) (bothB a b c d)), .int (lowB (minusT a b c d) (bothB a b c d))])) ht2
      have s2a := (s1).trans nt2
      refine ⟨_, rfl, _, _, _, _, rfl, rfl, (Evl.ex_t s2a hx), rfl, _, rfl, _, _, _, _, rfl, rfl, (Evl.ex_t s2a hy), rfl, _, _, rfl, rfl, m64 ha.a31 hc.b31, _, rfl, _, _, _, _, rfl, rfl, (Evl.ex_t s2a hy), rfl, _, rfl, _, _, _, _, rfl, rfl, (Evl.ex_t s2a hx), rfl, _, _, rfl, rfl, m64 hc.a31 ha.b31, _, _, rfl, rfl, _, rfl, _, _, _, _, rfl, rfl, (Evl.ex_t s2a hx), rfl, _, rfl, _, _, _, _, rfl, rfl, (Evl.ex_t s2a hy), rfl, _, _, rfl, rfl, m64 ha.b31 hc.b31, _, _, rfl, bothB_ne ha.ne hc.ne, (s64 (mul_lt64 ha.a31 hc.b31) (mul_lt64 hc.a31 ha.b31)).2, p64 hb31 hd31, fun u2 hu2 => ?_⟩
      have nu2 := same_new (o := (.tup [.int (lowT (minusT a b c d) (bothB a b c d)), .int (lowB (minusT a b c d) (bothB a b c d))])) hu2
      have s2b := s2a.trans nu2
      refine ⟨by show 2 ≤ sizeLine; decide, fun v2 hv2 => ?_⟩
      have nv2 := same_new (o := .tup [.ref t2, .ref u2]) hv2
      have s2 := s2b.trans nv2
      refine ⟨_, rfl, _, rfl, x, y, a, b, c, d, rfl, Evl.ex_t s2 hx, Evl.ex_t s2 hy, ha.smT, ha.smB, hc.smT, hc.smB, ha.ne, hc.ne, fun t3 ht3 => ?_⟩
      have nt3 := same_new (o := (.tup [.int (lowT (timesT a b c d) (bothB a b c d)), .int (lowB (timesT a b c d) (bothB a b c d))])) ht3
      have s3a := (s2).trans nt3
      refine ⟨_, rfl, _, _, _, _, rfl, rfl, (Evl.ex_t s3a hx), rfl, _, rfl, _, _, _, _, rfl, rfl, (Evl.ex_t s3a hy), rfl, _, _, rfl, rfl, m64 ha.a31 hc.a31, _, rfl, _, _, _, _, rfl, rfl, (Evl.ex_t s3a hx), rfl, _, rfl, _, _, _, _, rfl, rfl, (Evl.ex_t s3a hy), rfl, _, _, rfl, rfl, m64 ha.b31 hc.b31, _, _, rfl, bothB_ne ha.ne hc.ne, p64 ha.a31 hc.a31, p64 hb31 hd31, fun u3 hu3 => ?_⟩
      have nu3 := same_new (o := (.tup [.int (lowT (timesT a b c d) (bothB a b c d)), .int (lowB (timesT a b c d) (bothB a b c d))])) hu3
      have s3b := s3a.trans nu3
      refine ⟨by show 2 ≤ sizeLine; decide, fun v3 hv3 => ?_⟩
      have nv3 := same_new (o := .tup [.ref t3, .ref u3]) hv3
      have s3 := s3b.trans nv3
      refine ⟨by show 3 ≤ sizeLine; decide, fun L hL => ?_⟩
      have nL := same_new (o := .lst [.ref v1, .ref v2, .ref v3]) hL
      have c9 := nv3.trans nL
      have c8 := nu3.trans c9
      have c7 := nt3.trans c8
      have c6 := nv2.trans c7
      have c5 := nu2.trans c6
      have c4 := nt2.trans c5
      have c3 := nv1.trans c4
      have c2 := nu1.trans c3
      refine ⟨L, [v1, v2, v3], rfl, s3.trans nL, upd_same, by show 3 ≤ 10; decide, ?_⟩
      intro p hp
      rcases List.mem_cons.mp hp with rfl | hp
      · exact ⟨t1, u1, _, _, c4 _ _ upd_same, c2 _ _ upd_same, c3 _ _ upd_same, l1⟩
      rcases List.mem_cons.mp hp with rfl | hp
      · exact ⟨t2, u2, _, _, c7 _ _ upd_same, c5 _ _ upd_same, c6 _ _ upd_same, l2⟩
      rcases List.mem_cons.mp hp with rfl | hp
      · exact ⟨t3, u3, _, _, nL _ _ upd_same, c8 _ _ upd_same, c9 _ _ upd_same, l3⟩
      · cases hp
    · rintro σ2 H2 ⟨L, ps, rfl, s2, hL, hps, pl⟩
      refine ⟨_, rfl, L, rfl, ⟨_, SqL.of hL⟩, for_list (xs := ps.map V.ref) (fun i σ H3 => (∃ u v, σ = [some (.ref x), some (.ref y), some (.ref L), u, v, none, none, none, none]) ∧ Same H2 H3) ⟨⟨none, none, rfl⟩, Same.refl _⟩ ?_ ?_ ?_⟩
      · rintro i σ H3 hi ⟨_, s3⟩
        exact SqL.of (s3 _ _ hL)
      · rintro i z σ H3 hz ⟨⟨u, v, rfl⟩, s3⟩
        rw [List.getElem?_map] at hz
        obtain ⟨p, hp, rfl⟩ := Option.map_eq_some_iff.mp hz
        obtain ⟨t, d2, e, g, hpt, ht, hd2, low⟩ := pl p (List.mem_of_getElem? hp)
        have nb : Numb (.tuple [.int e, .int g]) := .inr ⟨e, g, rfl⟩
        refine ⟨p, [.ref t, .ref d2], rfl, SqT.of (s3 _ _ hpt), rfl, .ref t, [.ref d2], rfl, .ref d2, [], rfl, rfl, ?_⟩
        refine ⟨_, rfl, _, rfl, .ref t, .ref d2, _, rfl, dp_of2 (SqT.of (s3 _ _ ht)), dp_of2 (SqT.of (s3 _ _ hd2)), nb, _, rfl, ifF rfl ?_⟩
        refine ⟨_, rfl, .ref t, _, rfl, dp_of2 (SqT.of (s3 _ _ ht)), _, rfl, ifF (by rw [ratioD_low low]; rfl) ?_⟩
        exact ⟨⟨_, _, rfl⟩, s3⟩
      · rintro σ H3 ⟨⟨u, v, rfl⟩, s3⟩
        have s4 := s2.trans s3
        have hx := Evl.ex_t s4 hx
        have hy := Evl.ex_t s4 hy
        refine ⟨_, rfl, _, rfl, x, y, a, b, c, d, rfl, hx, hy, ha.smT, ha.smB, hc.smT, hc.smB, ?_⟩
        refine ⟨_, rfl, _, _, rfl, .int _, _, rfl, ifF rfl ⟨_, rfl, _, rfl, _, _, _, _, rfl, rfl, hx, rfl, _, rfl, _, _, _, _, rfl, rfl, hy, rfl, _, _, rfl, rfl, m64 ha.a31 hc.b31, _, rfl, _, _, _, _, rfl, rfl, hy, rfl, _, rfl, _, _, _, _, rfl, rfl, hx, rfl, _, _, rfl, rfl, m64 hc.a31 ha.b31, _, _, rfl, rfl, _, rfl, rfl, _, rfl, ?_⟩⟩
        refine ifF (ne_cmp a b c d) ?_
        refine ⟨_, rfl, _, rfl, x, y, a, b, c, d, rfl, hx, hy, ha.smT, ha.smB, hc.smT, hc.smB, ha.ne, hc.ne, fun hc0 => ?_, fun hc0 q hq => ?_⟩
        · refine ⟨true, es.xD, fun _ a2 ha2 => ?_, fun z => by cases z⟩
          refine ⟨_, rfl, cD, .ref cN, .ref cN, _, rfl, ⟨rfl, .inl rfl⟩, es.eD.er, rfl, es.kDN, ?_⟩
          subst hc0
          refine ⟨_, rfl, _, rfl, _, _, _, _, rfl, rfl, hy, rfl, rfl, _, rfl, ifT (decide_eq_true rfl) ?_⟩
          exact ⟨_, rfl, k _ s4⟩
        · have s5 := same_new (o := .tup [.int (lowT (a * d) (b * c)), .int (lowB (a * d) (b * c))]) hq
          have hx := Evl.ex_t s5 hx
          have hy := Evl.ex_t s5 hy
          refine ⟨_, rfl, _, _, _, _, rfl, rfl, hy, rfl, rfl, _, rfl, ifF (decide_eq_false fun z => hc0 (V.int.inj z)) ?_⟩
          refine ⟨_, rfl, _, rfl, _, _, _, _, rfl, rfl, hx, rfl, _, rfl, _, _, _, _, rfl, rfl, hy, rfl, _, _, rfl, rfl, m64 ha.a31 hc.b31, _, rfl, _, _, _, _, rfl, rfl, hx, rfl, _, rfl, _, _, _, _, rfl, rfl, hy, rfl, _, _, rfl, rfl, m64 ha.b31 hc.a31, _, _, rfl, bothB_ne ha.ne hc0, p64 ha.a31 hc.b31, p64 ha.b31 hc.a31, fun u hu => ?_⟩
          have s6 := same_new (o := .tup [.int (lowT (a * d) (b * c)), .int (lowB (a * d) (b * c))]) hu
          exact ⟨.ref q, .ref u, _, rfl, dp_of2 (SqT.of (s6 _ _ upd_same)), dp_of2 (SqT.of upd_same), .inr ⟨_, _, rfl⟩, k _ ((s4.trans s5).trans s6)⟩
end
end Rf
set_option exponentiation.threshold 20000

namespace Rg
open PySem PySem.Spec PyProof.Rows L2 Dz Ra Mt Kx Ky Re Rb Rc Rd Rf
open Kq (HandAt But spTake)
section
variable {P : Program} {w : World} {K : PySem.W.Frag} {mg : Str → Option Value} {base : Heap} {f gP cR cD cF cN C : Addr} {fd : FuncData}
theorem sc__law_made : FnScope ["_law_top_here", "_law_bottom", "_law_told", "_law_what", "e"] ["_law_top_here", "_law_bottom"] (defScope (top 36)) := ⟨rfl, rfl, rfl, by decide +kernel, rfl, by decide +kernel, by decide +kernel⟩
theorem ok__law_made (F : FnP K "_law_made" (top 36) [] f fd) (tx : Bn mg) (es : Es P w K mg base gP cR cD cF cN) {f1 : Addr} {fd1 : FuncData} (G1 : FnOk P w K mg base (L2.CX P w) 3 f1 fd1 ["top", "bottom"] (spMake K cR)) (m1 : mg "make_ratio" = some (.ref f1)) (kp1 : PySem.W.keepIn K (.ref f1) = true) (b1 : L2.Binds K fd1 ["top", "bottom"] []) {fL : Addr} {fdL : FuncData} (GL : FnOk P w K mg base CX0 2 fL fdL ["_law_top_here", "_law_bottom"] spLowL) (mL : mg "_law_ratio" = some (.ref fL)) (kpL : PySem.W.keepIn K (.ref fL) = true) (bL : L2.Binds K fdL ["_law_top_here", "_law_bottom"] []) {fW : Addr} {fdW : FuncData} (GW : FnOk P w K mg base CX0 1 fW fdW ["_law_thing"] (spWholeL K)) (mW : mg "_law_whole" = some (.ref fW)) (kpW : PySem.W.keepIn K (.ref fW) = true) (bW : L2.Binds K fdW ["_law_thing"] []) {fS : Addr} {fdS : FuncData} (GS : FnOk P w K mg base CX0 2 fS fdS ["_law_told", "_law_due"] (spSame K)) (mS : mg "_law_same" = some (.ref fS)) (kpS : PySem.W.keepIn K (.ref fS) = true) (bS : L2.Binds K fdS ["_law_told", "_law_due"] []) : FnOk P w K mg base CX0 4 f fd ["_law_top_here", "_law_bottom"] (spT2 K (MadeR K)) := by
  refine F.ok sc__law_made (fun vs H Q E h => ?_) (fun cdv A outer s H vs Q E hr h => ?_)
  · obtain ⟨⟨x, y, dx, dy, rfl, _⟩, _⟩ := h; rfl
  · obtain ⟨⟨x, y, dx, dy, rfl, hx, hy, bt, bb⟩, k⟩ := h
    have hr1 : Room 3 _ := hr
    have hrL : Room 2 _ := hr.mono (by decide)
    have hrS : Room 2 _ := hr.mono (by decide)
    have hrW : Room 1 _ := hr.mono (by decide)
    refine ⟨_, PSs.nox (pss_cons (ps_set (i := 2) sc__law_made.nd rfl (Or.inl rfl) pe_non)
      (pss_cons (ps_set (i := 3) sc__law_made.nd rfl (Or.inl rfl) pe_non)
      (Evl.pss_cut (ps_try_as (i := 4) (c := (.ref cR)) (Wout := fun _ _ _ _ => False) rfl rfl sc__law_made.nd rfl rfl ⟨rfl, by decide, .inl es.eR.m⟩ takes0
        (fun W pn xe tk _ => (pss_one (ps_set (i := 2) sc__law_made.nd rfl (Or.inl rfl) (pe_callS G1 hr1 (by rfl) m1 kp1 b1 (fun σ => passAt tk σ) (pa_cons (pv 0) (pa_cons (pv 1) pa_nil))))))
        (fun a oe cls dd pn hz hf => (pss_one (ps_set (i := 3) sc__law_made.nd rfl (Or.inl rfl) (pe_xf es.eR.er.xf es.eR.no hz hf (pv 4))))))
      (pss_cons (ps_if (pt_not (pt_val (pe_call GW hrW (by rfl) mW kpW bW .nil pass0 (pa_cons (pv 0) pa_nil)))) (pss_one (ps_ret (pe_cmpR op_eq (pv 3) pe_str (by rfl)))) pss_nil)
      (pss_cons (ps_if (PW.pt (pw_or (pt_not (pt_val (pe_call GW hrW (by rfl) mW kpW bW .nil pass0 (pa_cons (pv 1) pa_nil)))) (pw_or1 (pt_cmpR op_eq (pv 1) pe_int (by rfl))))) (pss_one (ps_ret (pe_cmpR op_eq (pv 3) pe_str (by rfl)))) pss_nil)
      (pss_one (ps_ret (pe_and (pe_cmpR op_isN (pv 3) pe_non (by rfl)) (pe_one (pe_call GS hrS (by rfl) mS kpS bS .nil pass0 (pa_cons (pv 2) (pa_cons (pe_call GL hrL (by rfl) mL kpL bL .nil pass0 (pa_cons (pv 0) (pa_cons (pv 1) pa_nil))) pa_nil)))))))))))), ?_⟩
    refine ⟨fun σ2 H2 => ∃ (tv wv : V) (ee : Option V), σ2 = [some x, some y, some tv, some wv, ee] ∧ Same H H2 ∧ (wholeD dx none none = false → wv = .str "top") ∧ (wholeD dx none none = true → (wholeD dy none none = false ∨ dy = .int 0) → wv = .str "bottom") ∧ (∀ t b, dx = .int t → dy = .int b → b ≠ 0 → wv = .non ∧ ∃ q, tv = .ref q ∧ H2 q = some (.tup [.int (lowT t b), .int (lowB t b)])), ?_, ?_⟩
    · refine ⟨_, rfl, _, rfl, x, y, dx, dy, rfl, hx, hy, fun b e => sm4_of64 (bb b e), fun h0 d H' s hd => ?_, fun h1 h0 d H' s hd => ?_, fun t b e1 e2 hb q hq => ?_⟩
      · refine ⟨true, es.xR, fun _ a2 ha2 => ?_, fun z => by cases z⟩
        refine ⟨_, rfl, rfl, rfl, d, _, _, rfl, hd, lk1, ?_⟩
        refine ⟨.non, .str "top", _, rfl, s, fun _ => rfl, fun z => (Bool.false_ne_true (h0.symm.trans z)).elim, fun t b e1 => ?_⟩
        subst e1
        cases h0
      · refine ⟨true, es.xR, fun _ a2 ha2 => ?_, fun z => by cases z⟩
        refine ⟨_, rfl, rfl, rfl, d, _, _, rfl, hd, lk1, ?_⟩
        refine ⟨.non, .str "bottom", _, rfl, s, fun z => (Bool.false_ne_true (z.symm.trans h1)).elim, fun _ _ => rfl, fun t b e1 e2 hb => ?_⟩
        subst e1 e2
        rcases h0 with h0 | h0
        · cases h0
        · exact absurd (PyData.int.inj h0) hb
      · subst e1 e2
        refine ⟨.ref q, .non, _, rfl, same_new hq, fun z => (nomatch z), fun _ h0 => ?_, fun t2 b2 e1 e2 _ => ?_⟩
        · rcases h0 with h0 | h0
          · cases h0
          · exact absurd (PyData.int.inj h0) hb
        · cases e1
          cases e2
          exact ⟨rfl, q, rfl, upd_same⟩
    · rintro σ2 H2 ⟨tv, wv, ee, rfl, s2, k1, k2, k3⟩
      have hx2 := dp_same s2 _ _ hx
      have hy2 := dp_same s2 _ _ hy
      refine ⟨_, rfl, x, dx, rfl, hx2, _, rfl, ?_⟩
      by_cases hw : wholeD dx none none = true
      · refine ifF (by rw [hw]; rfl) ?_
        refine ⟨_, rfl, y, dy, rfl, hy2, _, rfl, ?_⟩
        cases dy with
        | int b =>
          cases hy
          refine ifF rfl ⟨_, rfl, rfl, _, rfl, ?_⟩
          by_cases hb : b = 0
          · subst hb
            refine ifT (decide_eq_true rfl) ?_
            obtain rfl := k2 hw (.inr rfl)
            refine ⟨_, rfl, rfl, ?_⟩
            exact k _ s2
          · refine ifF (decide_eq_false fun z => hb (V.int.inj z)) ?_
            cases dx with
            | int t =>
              cases hx
              obtain ⟨rfl, q, rfl, hq⟩ := k3 t b rfl rfl hb
              refine ⟨_, rfl, rfl, _, rfl, ifT (decide_eq_true rfl) ?_⟩
              refine ⟨_, rfl, _, rfl, _, rfl, t, b, rfl, hb, sm4_of64 (bt t rfl), sm4_of64 (bb b rfl), fun u hu => ?_⟩
              have s3 := same_new (o := .tup [.int (lowT t b), .int (lowB t b)]) hu
              exact ⟨.ref q, .ref u, _, rfl, dp_of2 (SqT.of (s3 _ _ hq)), dp_of2 (SqT.of upd_same), .inr ⟨_, _, rfl⟩, k _ (s2.trans s3)⟩
            | dict _ => cases hx
            | _ => cases hw
        | dict _ => cases hy
        | _ =>
          refine ifT rfl ?_
          refine ifT rfl ?_
          obtain rfl := k2 hw (.inl rfl)
          refine ⟨_, rfl, rfl, ?_⟩
          exact k _ s2
      · have hw2 : wholeD dx none none = false := by
          cases e : wholeD dx none none with
          | false => rfl
          | true => exact absurd e hw
        refine ifT (by rw [hw2]; rfl) ?_
        obtain rfl := k1 hw2
        refine ⟨_, rfl, rfl, ?_⟩
        exact k _ s2
end
end Rg
namespace Rm
open PySem PySem.Spec PyProof.Rows L2
/-- nothing gets out -/
theorem passN {X : Cx} : Passes (L2.CX X.prog X.w) X E0 := by
  intro a b c d e f I h
  obtain ⟨_, _, _, _, _, _, _, _, _, _, _, _, no⟩ := h
  exact no.elim
section
variable {X : Cx} {CT : CXT} {n : Nat} {g C : Addr} {fd : FuncData} {ps : List Str} {sp : Sp} {E : L2.St → XK} {m x : Str} {p pos ap : Pos} {e o : Expr} {es : List Expr} {ta : TE} {t : TA}
def tMT (C : Addr) (m : Str) (sp : Sp) (E : L2.St → XK) (ta : TE) (t : TA) : TE := fun σ H Q =>
  ta σ H fun x H1 => ∃ a dx fs, x = .ref a ∧ H1 a = some (.ins C dx fs) ∧ fs.lookup m = none ∧
    t σ H1 fun vs H2 => sp (x :: vs) H2 Q (E σ)
/-- o.m(..) within a try -/
theorem pe_methT {pl : Sem Bool} (ho : PE X o ta) (c : Cls X.K C) (M : Meth X.K C m g)
    (F : FnOk X.prog X.w X.K X.mg X.base CT n g fd ps sp) (hr : Room n X.A) (B : L2.Binds X.K fd ps [])
    (hx : ∀ σ, PassesAt CT X σ (E σ)) (ha : PA X (e :: es) t)
    (h1 : starEach (e :: es) X.env = (false, eval e X.env) :: starEach es X.env := by rfl)
    (h2 : (backTo pos (starEach es X.env)).any (·.1) = false := by rfl)
    (h3 : eval (.Call (.Attribute o m ap) (e :: es) [] pos) X.env = (eval o X.env >>= fun ov => standAt ap.atName >>= fun _ => holding [ov] (getMethod ov m pl) >>= fun fo => callWith pos fo.1 fo.2 (backTo pos (starEach (e :: es) X.env)) (backToKw pos (keywordEach [] X.env))) := by rfl) :
    PE X (.Call (.Attribute o m ap) (e :: es) [] pos) (tMT C m sp E ta t) := by
  constructor
  intro pins s σ H Q I h
  refine PySem.W.methodCall_KW (pl := pl) (thn (ho.run pins s σ H _ I h) ?_) h3
  rintro u s1 ⟨y, H1, I1, ry, a, dx, fs, ey, ea, l, q⟩
  subst ey
  cases (show u = Value.ref a from ry)
  refine getmeth_ok I1 ea c M l (PySem.W.callWith_K (first := [.ref a]) (h₀ := X.base) I.ok.mod.kin M.kp (thn (ha.run pos pins s1 σ H1 _ I1 q) ?_) h1 h2)
  rintro us s2 ⟨vs, H2, I2, r, q2⟩
  exact ⟨I2.kIn, run_fnS (us := .ref a :: us) (vs := .ref a :: vs) F hr B (hx σ) I2 (.cons rfl r) q2⟩
def tMkT (C : Addr) (sp : Sp) (E : L2.St → XK) (t : TA) : TE := fun σ H Q =>
  t σ H fun vs H1 => ∀ x dx, H1 x = none → H1 dx = none → dx ≠ x →
    sp (.ref x :: vs) (upd (upd H1 dx (.own x)) x (.ins C dx [])) (fun v H2 => v = .non ∧ Q (.ref x) H2) (E σ)
/-- C(..) within a try -/
theorem pe_makeT (M : Mk X.K C g) (F : FnOk X.prog X.w X.K X.mg X.base CT n g fd ps sp) (hr : Room (n + 1) X.A) (hg : Gl X x) (hm : X.mg x = some (.ref C)) (B : L2.Binds X.K fd ps [])
    (hx : ∀ σ, PassesAt CT X σ (E σ)) (ha : PA X (e :: es) t) (hdb : (x == ("__debug__" : Str)) = false := by decide)
    (h1 : starEach (e :: es) X.env = (false, eval e X.env) :: starEach es X.env := by rfl)
    (h2 : (backTo pos (starEach es X.env)).any (·.1) = false := by rfl) :
    PE X (.Call (.Name x p) (e :: es) [] pos) (tMkT C sp E t) := by
  constructor
  intro pins s0 σ H0 Q I0 h0
  refine wpAny_Call_Name_kw (ld_glob I0 hg hm (PySem.W.callWith_K (h₀ := X.base) I0.ok.mod.kin M.kp (thn (ha.run pos pins s0 σ H0 _ I0 h0) ?_) h1 h2) hdb)
  rintro us s ⟨vs, H, I, r, h⟩
  refine ⟨I.kIn, ?_⟩
  show wpAny _ _ (call (.ref C) us) _ _ _
  have q := h (s.heap.objs.size + 1) s.heap.objs.size (I.hok.fresh (Nat.le_succ _)) (I.hok.fresh (Nat.le_refl _)) (Nat.ne_of_lt (Nat.lt_succ_self _))
  have I2 := Inv.made (C := C) I
  have r2 : Vals (V.ref (s.heap.objs.size + 1) :: vs) (Value.ref (s.heap.objs.size + 1) :: us) := .cons rfl r
  have hl : (Value.ref (s.heap.objs.size + 1) :: us).length = ps.length := by
    rw [← r2.length]
    exact F.len _ _ _ _ q
  have b2 := B _ (Value.ref (s.heap.objs.size + 1) :: us) I2.kIn (by rw [List.append_nil]; exact hl)
  rw [List.append_nil] at b2
  have run := F.run _ X.stack _ _ ⟨Value.ref (s.heap.objs.size + 1) :: us, []⟩ _ _ _ (E σ) (hr.make C us []) (I2.env0.make C us []) b2 r2 q
  refine wpAny_call (make_map (f := g) I.kIn M.makes M.init (beq_iff_eq.mp M.fn) (codeAny_mono run ?_))
  intro z s' hz
  cases z with
  | error er => exact hx σ pins _ _ er s' I2 hz
  | ok fl =>
    cases fl with
    | ret u =>
      obtain ⟨v, H', I3, rv, ev, q3⟩ := I2.after hz
      subst ev
      exact ⟨rv, V.ref (s.heap.objs.size + 1), H', I3, rfl, q3⟩
    | _ => exact False.elim hz
end
end Rm
set_option exponentiation.threshold 20000

namespace Rh
open PySem PySem.Spec PyProof.Rows L2 Dz Ra Mt Kx Ky Re Rb Rc Rd Rf Rm
open Kq (HandAt But spTake)
/-- couples of a list: told and due, the same int -/
def PairsI (H : Hp) (ps : List Addr) : Prop := ∀ p ∈ ps, ∃ z : Int, H p = some (.tup [.int z, .int z])
theorem neg_mod {p i : Int} : -i % p = (p - i) % p := by
  rw [Int.sub_eq_add_neg, Int.add_emod_left]
theorem nm (m : Str) (h : (m == ("prime" : Str) || m == ("zero" : Str) || m == ("one" : Str)) = false) {p : Int} {z o : V} : (flds p z o).lookup m = none := by
  simp only [Bool.or_eq_false_iff] at h
  refine fl_no ?_ ?_ ?_ <;> intro e <;> subst e <;> simp at h
section
variable {P : Program} {w : World} {K : PySem.W.Frag} {mg : Str → Option Value} {base : Heap} {f gP cR cD cF cN C : Addr} {fd : FuncData}
theorem sc__law_rests : FnScope ["_law_figures", "_law_p", "_law_one", "_law_other", "_law_dues", "_law_told", "_law_due", "_law_quotient", "_law_refused_here", "e"] ["_law_figures", "_law_p", "_law_one", "_law_other"] (defScope (top 37)) := ⟨rfl, rfl, rfl, by decide +kernel, rfl, by decide +kernel, by decide +kernel⟩
theorem ok__law_rests (F : FnP K "_law_rests" (top 37) [] f fd) (tx : Bn mg) (es : Es P w K mg base gP cR cD cF cN) (fg : Fg K C) {f1 : Addr} {fd1 : FuncData} (G1 : FnOk P w K mg base CX0 3 f1 fd1 ["self", "one", "other"] (spTwo K C plusT bothB (fun i j => i + j))) (m1 : Meth K C "plus" f1) (b1 : L2.Binds K fd1 ["self", "one", "other"] []) {f2 : Addr} {fd2 : FuncData} (G2 : FnOk P w K mg base CX0 3 f2 fd2 ["self", "one", "other"] (spTwo K C minusT bothB (fun i j => i - j))) (m2 : Meth K C "minus" f2) (b2 : L2.Binds K fd2 ["self", "one", "other"] []) {f3 : Addr} {fd3 : FuncData} (G3 : FnOk P w K mg base CX0 3 f3 fd3 ["self", "one", "other"] (spTwo K C timesT bothB (fun i j => i * j))) (m3 : Meth K C "times" f3) (b3 : L2.Binds K fd3 ["self", "one", "other"] []) {f4 : Addr} {fd4 : FuncData} (G4 : FnOk P w K mg base CX0 1 f4 fd4 ["self", "one"] (spNeg K C)) (m4 : Meth K C "negative" f4) (b4 : L2.Binds K fd4 ["self", "one"] []) {f5 : Addr} {fd5 : FuncData} (G5 : FnOk P w K mg base CX0 2 f5 fd5 ["self", "one", "other"] (spCmpF K C)) (m5 : Meth K C "compare" f5) (b5 : L2.Binds K fd5 ["self", "one", "other"] []) {f6 : Addr} {fd6 : FuncData} (G6 : FnOk P w K mg base (L2.CX P w) 3 f6 fd6 ["self", "one", "other"] (spOverF K C cD)) (m6 : Meth K C "over" f6) (b6 : L2.Binds K fd6 ["self", "one", "other"] []) {fW : Addr} {fdW : FuncData} (GW : FnOk P w K mg base CX0 1 fW fdW ["_law_thing"] (spWholeL K)) (mW : mg "_law_whole" = some (.ref fW)) (kpW : PySem.W.keepIn K (.ref fW) = true) (bW : L2.Binds K fdW ["_law_thing"] []) {fS : Addr} {fdS : FuncData} (GS : FnOk P w K mg base CX0 2 fS fdS ["_law_told", "_law_due"] (spSame K)) (mS : mg "_law_same" = some (.ref fS)) (kpS : PySem.W.keepIn K (.ref fS) = true) (bS : L2.Binds K fdS ["_law_told", "_law_due"] []) {fN : Addr} {fdN : FuncData} (GN : FnOk P w K mg base CX0 1 fN fdN ["_law_number"] spSign) (mN : mg "_law_sign" = some (.ref fN)) (kpN : PySem.W.keepIn K (.ref fN) = true) (bN : L2.Binds K fdN ["_law_number"] []) : FnOk P w K mg base CX0 4 f fd ["_law_figures", "_law_p", "_law_one", "_law_other"] (spT2 K (RestR C)) := by
  refine F.ok sc__law_rests (fun vs H Q E h => ?_) (fun cdv A outer s H vs Q E hr h => ?_)
  · obtain ⟨⟨s, p, i, j, rfl, _⟩, _⟩ := h; rfl
  · obtain ⟨⟨s, p, i, j, rfl, fig, hp, i0, i1, j0, j1⟩, k⟩ := h
    obtain ⟨op, dx, zv, ov, hs, hz1⟩ := fig
    have fig : FigAt C H s p := ⟨op, dx, zv, ov, hs, hz1⟩
    obtain ⟨p0, p13⟩ := off_pos op hp
    have li : Lo i := lo13 i0 (by omega)
    have lj : Lo j := lo13 j0 (by omega)
    have hr1 : Room 3 _ := hr
    have hr2 : Room 3 _ := hr
    have hr3 : Room 3 _ := hr
    have hr4 : Room 1 _ := hr.mono (by decide)
    have hr5 : Room 2 _ := hr.mono (by decide)
    have hr6 : Room 3 _ := hr
    have hrS : Room 2 _ := hr.mono (by decide)
    have hrW : Room 1 _ := hr.mono (by decide)
    have hrN : Room 1 _ := hr.mono (by decide)
    refine ⟨_, PSs.nox (Evl.pss_cut (ps_set (i := 4) sc__law_rests.nd rfl (Or.inl rfl) (pe_lst (pa_cons (pe_tup (pa_cons (pe_meth (pv 0) fg.cl m1 G1 hr1 b1 .nil pass0 (pa_cons (pv 2) (pa_cons (pv 3) pa_nil))) (pa_cons (pe_op op_mod (pe_callTy call_int1 (by rfl) tx.int PyProof.Rows.boot_int (pa_cons (pe_op op_add (pv 2) (pv 3)) pa_nil)) (pv 1)) pa_nil))) (pa_cons (pe_tup (pa_cons (pe_meth (pv 0) fg.cl m2 G2 hr2 b2 .nil pass0 (pa_cons (pv 2) (pa_cons (pv 3) pa_nil))) (pa_cons (pe_op op_mod (pe_callTy call_int1 (by rfl) tx.int PyProof.Rows.boot_int (pa_cons (pe_op op_sub (pv 2) (pv 3)) pa_nil)) (pv 1)) pa_nil))) (pa_cons (pe_tup (pa_cons (pe_meth (pv 0) fg.cl m3 G3 hr3 b3 .nil pass0 (pa_cons (pv 2) (pa_cons (pv 3) pa_nil))) (pa_cons (pe_op op_mod (pe_callTy call_int1 (by rfl) tx.int PyProof.Rows.boot_int (pa_cons (pe_op op_mul (pv 2) (pv 3)) pa_nil)) (pv 1)) pa_nil))) (pa_cons (pe_tup (pa_cons (pe_meth (pv 0) fg.cl m4 G4 hr4 b4 .nil pass0 (pa_cons (pv 2) pa_nil)) (pa_cons (pe_op op_mod (pe_callTy call_int1 (by rfl) tx.int PyProof.Rows.boot_int (pa_cons (pe_op op_sub (pv 1) (pv 2)) pa_nil)) (pv 1)) pa_nil))) (pa_cons (pe_tup (pa_cons (pe_meth (pv 0) fg.cl m5 G5 hr5 b5 .nil pass0 (pa_cons (pv 2) (pa_cons (pv 3) pa_nil))) (pa_cons (pe_call GN hrN (by rfl) mN kpN bN .nil pass0 (pa_cons (pe_op op_sub (pv 2) (pv 3)) pa_nil)) pa_nil))) pa_nil)))))))
      (pss_cons (ps_for PassesOwn.never rfl (pi_list (pv 4)) (pg_tup rfl (pgs_cons (pg_name (i := 5) sc__law_rests.nd rfl (Or.inl rfl)) (pgs_cons (pg_name (i := 6) sc__law_rests.nd rfl (Or.inl rfl)) pgs_nil))) (pss_one (ps_if (pt_not (pt_val (pe_call GS hrS (by rfl) mS kpS bS .nil pass0 (pa_cons (pv 5) (pa_cons (pv 6) pa_nil))))) (pss_one (ps_ret pe_bl)) pss_nil)))
      (pss_cons (ps_set (i := 7) sc__law_rests.nd rfl (Or.inl rfl) pe_non)
      (pss_cons (ps_set (i := 8) sc__law_rests.nd rfl (Or.inl rfl) pe_bl)
      (pss_cons (ps_try_as (i := 9) (c := (.ref gP)) (Wout := fun _ _ _ _ => False) rfl rfl sc__law_rests.nd rfl rfl ⟨rfl, by decide, .inl es.mP⟩ takes0
        (fun W pn xe tk _ => (pss_one (ps_set (i := 7) sc__law_rests.nd rfl (Or.inl rfl) (pe_methT (pv 0) fg.cl m6 G6 hr6 b6 (fun σ => passAt tk σ) (pa_cons (pv 2) (pa_cons (pv 3) pa_nil))))))
        (fun a oe cls dd pn hz hf => (pss_one (ps_set (i := 8) sc__law_rests.nd rfl (Or.inl rfl) (pe_callB (call_isS (P := gP) es.gt hz hf) (by rfl) tx.isinstance PyProof.Rows.boot_isinstance (pa_cons (pv 9) (pa_cons (pe_cls (by rfl) es.eD.m) pa_nil)))))))
      (pss_cons (ps_if (pt_cmpR op_eq (pv 3) pe_int (by rfl)) (pss_one (ps_ret (pv 8))) pss_nil)
      (pss_one (ps_ret (pe_and (pe_call GW hrW (by rfl) mW kpW bW .nil pass0 (pa_cons (pv 7) pa_nil)) (pe_and (pe_chain op_le op_lt pe_int (pv 7) (pv 1)) (pe_one (pe_cmpR op_eq (pe_op op_mod (pe_callTy call_int1 (by rfl) tx.int PyProof.Rows.boot_int (pa_cons (pe_op op_mul (pv 7) (pv 3)) pa_nil)) (pv 1)) (pv 2) (by rfl))))))))))))), ?_⟩
    refine ⟨fun σ2 H2 => ∃ (L : Addr) (ps : List Addr), σ2 = [some (.ref s), some (.int p), some (.int i), some (.int j), some (.ref L), none, none, none, none, none] ∧ Same H H2 ∧ H2 L = some (.lst (ps.map V.ref)) ∧ PairsI H2 ps, ?_, ?_⟩
    · have r0 : Same H H := Same.refl H
      refine ⟨_, rfl, s, dx, _, rfl, r0 _ _ hs, (nm "plus" (by decide +kernel)), _, rfl, _, rfl, s, _, _, p, rfl, fig.same r0, fun z => absurd z hp, fun _ => ⟨i, j, rfl, rfl, li, lj, ?_⟩⟩
      refine ⟨_, rfl, _, rfl, _, _, rfl, rfl, .inl ⟨_, rfl, _, rfl, _, _, rfl, rfl, p0, ?_⟩⟩
      refine ⟨by show 2 ≤ sizeLine; decide, fun v1 hv1 => ?_⟩
      have n1 := same_new (o := .tup [.int ((i + j) % p), .int ((i + j) % p)]) hv1
      have s1 := (r0).trans n1
      refine ⟨_, rfl, s, dx, _, rfl, s1 _ _ hs, (nm "minus" (by decide +kernel)), _, rfl, _, rfl, s, _, _, p, rfl, fig.same s1, fun z => absurd z hp, fun _ => ⟨i, j, rfl, rfl, li, lj, ?_⟩⟩
      refine ⟨_, rfl, _, rfl, _, _, rfl, rfl, .inl ⟨_, rfl, _, rfl, _, _, rfl, rfl, p0, ?_⟩⟩
      refine ⟨by show 2 ≤ sizeLine; decide, fun v2 hv2 => ?_⟩
      have n2 := same_new (o := .tup [.int ((i - j) % p), .int ((i - j) % p)]) hv2
      have s2 := (s1).trans n2
      refine ⟨_, rfl, s, dx, _, rfl, s2 _ _ hs, (nm "times" (by decide +kernel)), _, rfl, _, rfl, s, _, _, p, rfl, fig.same s2, fun z => absurd z hp, fun _ => ⟨i, j, rfl, rfl, li, lj, ?_⟩⟩
      refine ⟨_, rfl, _, rfl, _, _, rfl, rfl, .inl li.wide, .inl ⟨_, rfl, _, rfl, _, _, rfl, rfl, p0, ?_⟩⟩
      refine ⟨by show 2 ≤ sizeLine; decide, fun v3 hv3 => ?_⟩
      have n3 := same_new (o := .tup [.int (i * j % p), .int (i * j % p)]) hv3
      have s3 := (s2).trans n3
      refine ⟨_, rfl, s, dx, _, rfl, s3 _ _ hs, (nm "negative" (by decide +kernel)), _, rfl, s, _, p, rfl, fig.same s3, fun z => absurd z hp, fun _ => ⟨i, rfl, ?_⟩⟩
      refine ⟨_, rfl, _, rfl, _, _, rfl, rfl, .inl ⟨_, rfl, _, rfl, _, _, rfl, rfl, p0, ?_⟩⟩
      rw [neg_mod]
      refine ⟨by show 2 ≤ sizeLine; decide, fun v4 hv4 => ?_⟩
      have n4 := same_new (o := .tup [.int ((p - i) % p), .int ((p - i) % p)]) hv4
      have s4 := s3.trans n4
      refine ⟨_, rfl, s, dx, _, rfl, s4 _ _ hs, (nm "compare" (by decide +kernel)), _, rfl, _, rfl, s, _, _, p, rfl, fig.same s4, fun z => absurd z hp, fun _ => ⟨i, j, rfl, rfl, li, lj, ?_⟩⟩
      refine ⟨_, rfl, _, rfl, _, _, rfl, rfl, _, rfl, ?_⟩
      rw [cmpI_sgn]
      refine ⟨by show 2 ≤ sizeLine; decide, fun v5 hv5 => ?_⟩
      have n5 := same_new (o := .tup [.int (sgn (i - j)), .int (sgn (i - j))]) hv5
      have s5 := s4.trans n5
      refine ⟨by show 5 ≤ sizeLine; decide, fun L hL => ?_⟩
      have nL := same_new (o := .lst [.ref v1, .ref v2, .ref v3, .ref v4, .ref v5]) hL
      have c5 := n5.trans nL
      have c4 := n4.trans c5
      have c3 := n3.trans c4
      have c2 := n2.trans c3
      refine ⟨L, [v1, v2, v3, v4, v5], rfl, s5.trans nL, upd_same, ?_⟩
      intro q hq
      rcases List.mem_cons.mp hq with rfl | hq
      · exact ⟨_, c2 _ _ upd_same⟩
      rcases List.mem_cons.mp hq with rfl | hq
      · exact ⟨_, c3 _ _ upd_same⟩
      rcases List.mem_cons.mp hq with rfl | hq
      · exact ⟨_, c4 _ _ upd_same⟩
      rcases List.mem_cons.mp hq with rfl | hq
      · exact ⟨_, c5 _ _ upd_same⟩
      rcases List.mem_cons.mp hq with rfl | hq
      · exact ⟨_, nL _ _ upd_same⟩
      · cases hq
    · rintro σ2 H2 ⟨L, ps, rfl, s2, hL, pl⟩
      refine ⟨_, rfl, L, rfl, ⟨_, SqL.of hL⟩, for_list (xs := ps.map V.ref) (fun n σ H3 => (∃ u v, σ = [some (.ref s), some (.int p), some (.int i), some (.int j), some (.ref L), u, v, none, none, none]) ∧ Same H2 H3) ⟨⟨none, none, rfl⟩, Same.refl _⟩ ?_ ?_ ?_⟩
      · rintro n σ H3 hi ⟨_, s3⟩
        exact SqL.of (s3 _ _ hL)
      · rintro n z σ H3 hz ⟨⟨u, v, rfl⟩, s3⟩
        rw [List.getElem?_map] at hz
        obtain ⟨q, hq, rfl⟩ := Option.map_eq_some_iff.mp hz
        obtain ⟨e, hpt⟩ := pl q (List.mem_of_getElem? hq)
        refine ⟨q, [.int e, .int e], rfl, SqT.of (s3 _ _ hpt), rfl, .int e, [.int e], rfl, .int e, [], rfl, rfl, ?_⟩
        refine ⟨_, rfl, _, rfl, .int e, .int e, _, rfl, .int e, .int e, .inl ⟨e, rfl⟩, _, rfl, ifF rfl ?_⟩
        exact ⟨⟨_, _, rfl⟩, s3⟩
      · rintro σ H3 ⟨⟨u, v, rfl⟩, s3⟩
        have s4 := s2.trans s3
        refine ⟨_, rfl, s, dx, _, rfl, s4 _ _ hs, (nm "over" (by decide +kernel)), _, rfl, _, rfl, s, _, _, p, rfl, fig.same s4, fun z => absurd z hp, fun _ => ⟨i, j, rfl, rfl, li, lj, j0, j1, fun hj => ?_, fun hj r r1 r2 r3 => ?_⟩⟩
        · refine ⟨true, es.xDP, fun _ a2 ha2 => ?_, fun z => by cases z⟩
          refine ⟨_, rfl, cD, .ref cD, .ref cD, _, rfl, ⟨rfl, .inl rfl⟩, es.eD.er, rfl, es.kDD, ?_⟩
          subst hj
          refine ⟨_, rfl, rfl, _, rfl, ifT (decide_eq_true rfl) ?_⟩
          exact ⟨_, rfl, k _ s4⟩
        · refine ⟨_, rfl, rfl, _, rfl, ifF (decide_eq_false fun z => hj (V.int.inj z)) ?_⟩
          have q0 := Int.emod_nonneg (i * r) (show p ≠ 0 by omega)
          have q1 := Int.emod_lt_of_pos (i * r) p0
          have q2 := undo i0 i1 r3
          have lq : Lo (i * r % p) := lo13 q0 (by omega)
          refine ⟨_, rfl, .int _, _, rfl, .int _, _, rfl, ifT rfl ?_⟩
          refine ⟨_, rfl, _, _, rfl, rfl, _, rfl, ifT (decide_eq_true q0) ?_⟩
          refine ⟨_, rfl, _, _, rfl, rfl, _, rfl, ifT (decide_eq_true q1) ?_⟩
          refine ⟨_, rfl, _, rfl, _, _, rfl, rfl, .inl lq.wide, .inl ⟨_, rfl, _, rfl, _, _, rfl, rfl, p0, _, rfl, rfl, ?_⟩⟩
          show Q (.bl (decide (V.int (i * r % p * j % p) = V.int i))) H3
          rw [q2, decide_eq_true rfl]
          exact k _ s4
end
end Rh
set_option exponentiation.threshold 20000

namespace Ri
open PySem PySem.Spec PyProof.Rows L2 Dz Ra Mt Kx Ky Re Rb Rc Rd Rf Rm Rh
open Kq (HandAt But spTake)
theorem ne2 (x y : Int) : (!PyData.eqv (.tuple [.int x, .int y]) (.tuple [.int x, .int y])) = false := by
  rw [(numb_sh (.inr ⟨x, y, rfl⟩)).2]
  rfl
section
variable {P : Program} {w : World} {K : PySem.W.Frag} {mg : Str → Option Value} {base : Heap} {f gP cR cD cF cN C : Addr} {fd : FuncData}
theorem sc__law_fractions : FnScope ["_law_figures", "_law_one", "_law_other"] ["_law_figures", "_law_one", "_law_other"] (defScope (top 38)) := ⟨rfl, rfl, rfl, by decide +kernel, rfl, by decide +kernel, by decide +kernel⟩
theorem ok__law_fractions (F : FnP K "_law_fractions" (top 38) [] f fd) (tx : Bn mg) (es : Es P w K mg base gP cR cD cF cN) (fg : Fg K C) {f1 : Addr} {fd1 : FuncData} (G1 : FnOk P w K mg base CX0 3 f1 fd1 ["self", "one", "other"] (spTwo K C plusT bothB (fun i j => i + j))) (m1 : Meth K C "plus" f1) (b1 : L2.Binds K fd1 ["self", "one", "other"] []) {f2 : Addr} {fd2 : FuncData} (G2 : FnOk P w K mg base CX0 3 f2 fd2 ["self", "one", "other"] (spTwo K C minusT bothB (fun i j => i - j))) (m2 : Meth K C "minus" f2) (b2 : L2.Binds K fd2 ["self", "one", "other"] []) {f3 : Addr} {fd3 : FuncData} (G3 : FnOk P w K mg base CX0 3 f3 fd3 ["self", "one", "other"] (spTwo K C timesT bothB (fun i j => i * j))) (m3 : Meth K C "times" f3) (b3 : L2.Binds K fd3 ["self", "one", "other"] []) {f4 : Addr} {fd4 : FuncData} (G4 : FnOk P w K mg base CX0 1 f4 fd4 ["self", "one"] (spNeg K C)) (m4 : Meth K C "negative" f4) (b4 : L2.Binds K fd4 ["self", "one"] []) {f5 : Addr} {fd5 : FuncData} (G5 : FnOk P w K mg base CX0 2 f5 fd5 ["self", "one", "other"] (spCmpF K C)) (m5 : Meth K C "compare" f5) (b5 : L2.Binds K fd5 ["self", "one", "other"] []) {f6 : Addr} {fd6 : FuncData} (G6 : FnOk P w K mg base (L2.CX P w) 3 f6 fd6 ["self", "one", "other"] (spOverF K C cD)) (m6 : Meth K C "over" f6) (b6 : L2.Binds K fd6 ["self", "one", "other"] []) {fA : Addr} {fdA : FuncData} (GA : FnOk P w K mg base CX0 2 fA fdA ["one", "other"] (spDeed K plusT bothB)) (mA : mg "ratio_plus" = some (.ref fA)) (kpA : PySem.W.keepIn K (.ref fA) = true) (bA : L2.Binds K fdA ["one", "other"] []) {fB : Addr} {fdB : FuncData} (GB : FnOk P w K mg base CX0 2 fB fdB ["one", "other"] (spDeed K minusT bothB)) (mB : mg "ratio_minus" = some (.ref fB)) (kpB : PySem.W.keepIn K (.ref fB) = true) (bB : L2.Binds K fdB ["one", "other"] []) {fC : Addr} {fdC : FuncData} (GC : FnOk P w K mg base CX0 2 fC fdC ["one", "other"] (spDeed K timesT bothB)) (mC : mg "ratio_times" = some (.ref fC)) (kpC : PySem.W.keepIn K (.ref fC) = true) (bC : L2.Binds K fdC ["one", "other"] []) {fD : Addr} {fdD : FuncData} (GD : FnOk P w K mg base CX0 1 fD fdD ["one", "other"] (spCmp K)) (mD : mg "ratio_compare" = some (.ref fD)) (kpD : PySem.W.keepIn K (.ref fD) = true) (bD : L2.Binds K fdD ["one", "other"] []) {fE : Addr} {fdE : FuncData} (GE : FnOk P w K mg base (L2.CX P w) 2 fE fdE ["one", "other"] (spOver K cD)) (mE : mg "ratio_over" = some (.ref fE)) (kpE : PySem.W.keepIn K (.ref fE) = true) (bE : L2.Binds K fdE ["one", "other"] []) {fS : Addr} {fdS : FuncData} (GS : FnOk P w K mg base CX0 2 fS fdS ["_law_told", "_law_due"] (spSame K)) (mS : mg "_law_same" = some (.ref fS)) (kpS : PySem.W.keepIn K (.ref fS) = true) (bS : L2.Binds K fdS ["_law_told", "_law_due"] []) : FnOk P w K mg base CX0 4 f fd ["_law_figures", "_law_one", "_law_other"] (spT2 K (FracR K C)) := by
  refine F.ok sc__law_fractions (fun vs H Q E h => ?_) (fun cdv A outer s H vs Q E hr h => ?_)
  · obtain ⟨⟨s, x, y, a, b, c, d, rfl, _⟩, _⟩ := h; rfl
  · obtain ⟨⟨s, x, y, a, b, c, d, rfl, fig, hx, hy, ha, hc⟩, k⟩ := h
    obtain ⟨op, dx, zv, ov, hs, hz1⟩ := fig
    have fig : FigAt C H s 0 := ⟨op, dx, zv, ov, hs, hz1⟩
    have hr1 : Room 3 _ := hr
    have hr2 : Room 3 _ := hr
    have hr3 : Room 3 _ := hr
    have hr4 : Room 1 _ := hr.mono (by decide)
    have hr5 : Room 2 _ := hr.mono (by decide)
    have hr6 : Room 3 _ := hr
    have hrA : Room 2 _ := hr.mono (by decide)
    have hrB : Room 2 _ := hr.mono (by decide)
    have hrC : Room 2 _ := hr.mono (by decide)
    have hrD : Room 1 _ := hr.mono (by decide)
    have hrE : Room 2 _ := hr.mono (by decide)
    have hrS : Room 2 _ := hr.mono (by decide)
    have hu := hr.units
    refine ⟨_, PSs.nox (pss_cons (ps_if (PW.pt (pw_or (pt_cmpR (op_neD hu) (pe_meth (pv 0) fg.cl m1 G1 hr1 b1 .nil pass0 (pa_cons (pv 1) (pa_cons (pv 2) pa_nil))) (pe_call GA hrA (by rfl) mA kpA bA .nil pass0 (pa_cons (pv 1) (pa_cons (pv 2) pa_nil))) (by rfl)) (pw_or1 (pt_cmpR (op_neD hu) (pe_meth (pv 0) fg.cl m2 G2 hr2 b2 .nil pass0 (pa_cons (pv 1) (pa_cons (pv 2) pa_nil))) (pe_call GB hrB (by rfl) mB kpB bB .nil pass0 (pa_cons (pv 1) (pa_cons (pv 2) pa_nil))) (by rfl))))) (pss_one (ps_ret pe_bl)) pss_nil)
      (pss_cons (ps_if (PW.pt (pw_or (pt_cmpR (op_neD hu) (pe_meth (pv 0) fg.cl m3 G3 hr3 b3 .nil pass0 (pa_cons (pv 1) (pa_cons (pv 2) pa_nil))) (pe_call GC hrC (by rfl) mC kpC bC .nil pass0 (pa_cons (pv 1) (pa_cons (pv 2) pa_nil))) (by rfl)) (pw_or1 (pt_cmpR op_ne (pe_meth (pv 0) fg.cl m5 G5 hr5 b5 .nil pass0 (pa_cons (pv 1) (pa_cons (pv 2) pa_nil))) (pe_call GD hrD (by rfl) mD kpD bD .nil pass0 (pa_cons (pv 1) (pa_cons (pv 2) pa_nil))) (by rfl))))) (pss_one (ps_ret pe_bl)) pss_nil)
      (pss_cons (ps_if (pt_not (pt_val (pe_call GS hrS (by rfl) mS kpS bS .nil pass0 (pa_cons (pe_meth (pv 0) fg.cl m4 G4 hr4 b4 .nil pass0 (pa_cons (pv 1) pa_nil)) (pa_cons (pe_tup (pa_cons (pe_un un_neg (pe_ix ix_tup (pv 1) pe_int (fun _ _ => rfl))) (pa_cons (pe_ix ix_tup (pv 1) pe_int (fun _ _ => rfl)) pa_nil))) pa_nil))))) (pss_one (ps_ret pe_bl)) pss_nil)
      (pss_cons (ps_if (pt_cmpR op_eq (pe_ix ix_tup (pv 2) pe_int (fun _ _ => rfl)) pe_int (by rfl)) (pss_cons (ps_try_only (c := (.ref cD)) (Wout := fun _ _ _ _ => False) rfl rfl ⟨rfl, by decide, .inl es.eD.m⟩ takes0
        (fun W pn xe tk _ => (pss_one (ps_expr (pe_methT (pv 0) fg.cl m6 G6 hr6 b6 (fun σ => passAt tk σ) (pa_cons (pv 1) (pa_cons (pv 2) pa_nil))))))
        (fun a oe cls dd pn hz hf => (pss_one (ps_ret pe_bl))))
      (pss_one (ps_ret pe_bl))) pss_nil)
      (pss_one (ps_ret (pe_cmpR (op_eqD hu) (pe_meth (pv 0) fg.cl m6 G6 hr6 b6 .nil passN (pa_cons (pv 1) (pa_cons (pv 2) pa_nil))) (pe_call GE hrE (by rfl) mE kpE bE .nil passN (pa_cons (pv 1) (pa_cons (pv 2) pa_nil))) (by rfl)))))))), ?_⟩
    have r0 : Same H H := Same.refl H
    refine ⟨_, rfl, s, dx, _, rfl, r0 _ _ hs, (nm "plus" (by decide +kernel)), _, rfl, _, rfl, s, _, _, 0, rfl, fig.same r0, fun _ => ⟨x, y, a, b, c, d, rfl, rfl, Evl.ex_t r0 hx, Evl.ex_t r0 hy, ha.smT, ha.smB, hc.smT, hc.smB, ha.ne, hc.ne, fun t1 ht1 => ?_⟩, fun z => absurd rfl z⟩
    have n1 := same_new (o := .tup [.int (lowT (plusT a b c d) (bothB a b c d)), .int (lowB (plusT a b c d) (bothB a b c d))]) ht1
    have s1a := (r0).trans n1
    refine ⟨_, rfl, _, rfl, x, y, a, b, c, d, rfl, Evl.ex_t s1a hx, Evl.ex_t s1a hy, ha.smT, ha.smB, hc.smT, hc.smB, ha.ne, hc.ne, fun u1 hu1 => ?_⟩
    have m1 := same_new (o := .tup [.int (lowT (plusT a b c d) (bothB a b c d)), .int (lowB (plusT a b c d) (bothB a b c d))]) hu1
    have s1 := s1a.trans m1
    refine ⟨_, _, dp_of2 (SqT.of (m1 _ _ upd_same)), dp_of2 (SqT.of upd_same), rfl, rfl, _, rfl, ifF (ne2 _ _) ?_⟩
    refine ⟨_, rfl, s, dx, _, rfl, s1 _ _ hs, (nm "minus" (by decide +kernel)), _, rfl, _, rfl, s, _, _, 0, rfl, fig.same s1, fun _ => ⟨x, y, a, b, c, d, rfl, rfl, Evl.ex_t s1 hx, Evl.ex_t s1 hy, ha.smT, ha.smB, hc.smT, hc.smB, ha.ne, hc.ne, fun t2 ht2 => ?_⟩, fun z => absurd rfl z⟩
    have n2 := same_new (o := .tup [.int (lowT (minusT a b c d) (bothB a b c d)), .int (lowB (minusT a b c d) (bothB a b c d))]) ht2
    have s2a := (s1).trans n2
    refine ⟨_, rfl, _, rfl, x, y, a, b, c, d, rfl, Evl.ex_t s2a hx, Evl.ex_t s2a hy, ha.smT, ha.smB, hc.smT, hc.smB, ha.ne, hc.ne, fun u2 hu2 => ?_⟩
    have m2 := same_new (o := .tup [.int (lowT (minusT a b c d) (bothB a b c d)), .int (lowB (minusT a b c d) (bothB a b c d))]) hu2
    have s2 := s2a.trans m2
    refine ⟨_, _, dp_of2 (SqT.of (m2 _ _ upd_same)), dp_of2 (SqT.of upd_same), rfl, rfl, _, rfl, ifF (ne2 _ _) ?_⟩
    refine ⟨_, rfl, s, dx, _, rfl, s2 _ _ hs, (nm "times" (by decide +kernel)), _, rfl, _, rfl, s, _, _, 0, rfl, fig.same s2, fun _ => ⟨x, y, a, b, c, d, rfl, rfl, Evl.ex_t s2 hx, Evl.ex_t s2 hy, ha.smT, ha.smB, hc.smT, hc.smB, ha.ne, hc.ne, fun t3 ht3 => ?_⟩, fun z => absurd rfl z⟩
    have n3 := same_new (o := .tup [.int (lowT (timesT a b c d) (bothB a b c d)), .int (lowB (timesT a b c d) (bothB a b c d))]) ht3
    have s3a := (s2).trans n3
    refine ⟨_, rfl, _, rfl, x, y, a, b, c, d, rfl, Evl.ex_t s3a hx, Evl.ex_t s3a hy, ha.smT, ha.smB, hc.smT, hc.smB, ha.ne, hc.ne, fun u3 hu3 => ?_⟩
    have m3 := same_new (o := .tup [.int (lowT (timesT a b c d) (bothB a b c d)), .int (lowB (timesT a b c d) (bothB a b c d))]) hu3
    have s3 := s3a.trans m3
    refine ⟨_, _, dp_of2 (SqT.of (m3 _ _ upd_same)), dp_of2 (SqT.of upd_same), rfl, rfl, _, rfl, ifF (ne2 _ _) ?_⟩
    refine ⟨_, rfl, s, dx, _, rfl, s3 _ _ hs, (nm "compare" (by decide +kernel)), _, rfl, _, rfl, s, _, _, 0, rfl, fig.same s3, fun _ => ⟨x, y, a, b, c, d, rfl, rfl, Evl.ex_t s3 hx, Evl.ex_t s3 hy, ha.smT, ha.smB, hc.smT, hc.smB, ha.ne, hc.ne, ?_⟩, fun z => absurd rfl z⟩
    refine ⟨_, rfl, _, rfl, x, y, a, b, c, d, rfl, Evl.ex_t s3 hx, Evl.ex_t s3 hy, ha.smT, ha.smB, hc.smT, hc.smB, rfl, _, rfl, ifF (by show (!decide (V.int (cmpR a b c d) = V.int (cmpR a b c d))) = false; rw [decide_eq_true rfl]; rfl) ?_⟩
    refine ⟨_, rfl, s, dx, _, rfl, s3 _ _ hs, (nm "negative" (by decide +kernel)), _, rfl, s, _, 0, rfl, fig.same s3, fun _ => ⟨x, a, b, rfl, Evl.ex_t s3 hx, fun t4 ht4 => ?_⟩, fun z => absurd rfl z⟩
    have n4 := same_new (o := .tup [.int (-a), .int b]) ht4
    have s4a := s3.trans n4
    refine ⟨_, rfl, _, _, _, _, rfl, rfl, Evl.ex_t s4a hx, rfl, _, rfl, _, rfl, _, _, _, _, rfl, rfl, Evl.ex_t s4a hx, rfl, by show 2 ≤ sizeLine; decide, fun u4 hu4 => ?_⟩
    have m4 := same_new (o := .tup [.int (-a), .int b]) hu4
    have s4 := s4a.trans m4
    refine ⟨.ref t4, .ref u4, _, rfl, dp_of2 (SqT.of (m4 _ _ upd_same)), dp_of2 (SqT.of upd_same), .inr ⟨_, _, rfl⟩, _, rfl, ifF rfl ?_⟩
    refine ⟨_, rfl, _, _, _, _, rfl, rfl, Evl.ex_t s4 hy, rfl, rfl, _, rfl, ?_⟩
    by_cases h0 : c = 0
    · subst h0
      refine ifT (decide_eq_true rfl) ?_
      refine ⟨_, rfl, s, dx, _, rfl, s4 _ _ hs, (nm "over" (by decide +kernel)), _, rfl, _, rfl, s, _, _, 0, rfl, fig.same s4, fun _ => ⟨x, y, a, b, 0, d, rfl, rfl, Evl.ex_t s4 hx, Evl.ex_t s4 hy, ha.smT, ha.smB, hc.smT, hc.smB, ha.ne, hc.ne, fun _ => ?_, fun z => absurd rfl z⟩, fun z => absurd rfl z⟩
      refine ⟨true, es.xD, fun _ a2 ha2 => ?_, fun z => by cases z⟩
      exact k _ s4
    · refine ifF (decide_eq_false fun z => h0 (V.int.inj z)) ?_
      refine ⟨_, rfl, s, dx, _, rfl, s4 _ _ hs, (nm "over" (by decide +kernel)), _, rfl, _, rfl, s, _, _, 0, rfl, fig.same s4, fun _ => ⟨x, y, a, b, c, d, rfl, rfl, Evl.ex_t s4 hx, Evl.ex_t s4 hy, ha.smT, ha.smB, hc.smT, hc.smB, ha.ne, hc.ne, fun z => absurd z h0, fun _ t5 ht5 => ?_⟩, fun z => absurd rfl z⟩
      have n5 := same_new (o := .tup [.int (lowT (a * d) (b * c)), .int (lowB (a * d) (b * c))]) ht5
      have s5a := s4.trans n5
      refine ⟨_, rfl, _, rfl, x, y, a, b, c, d, rfl, Evl.ex_t s5a hx, Evl.ex_t s5a hy, ha.smT, ha.smB, hc.smT, hc.smB, ha.ne, hc.ne, fun z => absurd z h0, fun _ u5 hu5 => ?_⟩
      have m5 := same_new (o := .tup [.int (lowT (a * d) (b * c)), .int (lowB (a * d) (b * c))]) hu5
      refine ⟨_, _, dp_of2 (SqT.of (m5 _ _ upd_same)), dp_of2 (SqT.of upd_same), rfl, rfl, ?_⟩
      rw [(numb_sh (.inr ⟨_, _, rfl⟩)).2]
      exact k _ (s5a.trans m5)
end
end Ri
set_option exponentiation.threshold 20000

namespace Rj
open PySem PySem.Spec PyProof.Rows L2 Dz Ra Mt Kx Ky Re Rb Rc Rd Rf Rm Rh
open Kq (HandAt But spTake)
def rg (n : Nat) : List V := (List.range n).map fun i => V.int (0 + (i : Nat))
def rgD (n : Nat) : PyData := .tuple ((List.range n).map fun i => PyData.int (0 + (i : Nat)))
theorem rg_succ (n : Nat) : rg (n + 1) = rg n ++ [V.int (0 + (n : Nat))] := by
  unfold rg
  rw [List.range_succ, List.map_append]
  rfl
theorem rg_V (p : Int) : rgV 0 p = rg p.toNat := by
  unfold rgV rg
  rw [Int.sub_zero]
theorem dp_ints {K : PySem.W.Frag} {H : Hp} (l : List Nat) : DpAll K H (l.map fun i => V.int (0 + (i : Nat))) (l.map fun i => PyData.int (0 + (i : Nat))) := by
  induction l with
  | nil => exact .nil
  | cons i l ih => exact .cons (.int _) ih
theorem dp_rg {K : PySem.W.Frag} {H : Hp} {a : Addr} {n : Nat} (h : SqT K H a (rg n)) : Dp K H (.ref a) (rgD n) := .tup h (dp_ints _)
theorem rg_ok {p : Int} (h : Off p) : SeqAt.shaped (rgD p.toNat) = true ∧ PyData.eqv (rgD p.toNat) (rgD p.toNat) = true := by
  rcases h with rfl | rfl | rfl | rfl | rfl | rfl | rfl <;> exact ⟨by decide +kernel, by decide +kernel⟩
theorem same_at {H H' : Hp} {a : Addr} {o : HO} (s : Same H H') (h : H a = none) : Same H (upd H' a o) := fun b u e => by
  rw [upd_ne (ne_of_none e h)]
  exact s b u e
def ReadR (K : PySem.W.Frag) (C : Addr) (H : Hp) (vs : List V) : Prop := ∃ s x p a b i, vs = [.ref s, .int p, .ref x, .int i] ∧ FigAt C H s p ∧ SqT K H x [.int a, .int b] ∧ Frac a b
section
variable {P : Program} {w : World} {K : PySem.W.Frag} {mg : Str → Option Value} {base : Heap} {f gP cR cD cF cN C : Addr} {fd : FuncData}
theorem sc__law_read : FnScope ["_law_figures", "_law_p", "_law_ratio_here", "_law_many", "_law_whole_here", "_law_k", "_law_told", "_law_refused_here", "e"] ["_law_figures", "_law_p", "_law_ratio_here", "_law_many"] (defScope (top 39)) := ⟨rfl, rfl, rfl, by decide +kernel, rfl, by decide +kernel, by decide +kernel⟩
theorem ok__law_read (F : FnP K "_law_read" (top 39) [] f fd) (tx : Bn mg) (es : Es P w K mg base gP cR cD cF cN) (fg : Fg K C) {f1 : Addr} {fd1 : FuncData} (G1 : FnOk P w K mg base CX0 1 f1 fd1 ["self", "many"] (spWhl C)) (m1 : Meth K C "whole_number" f1) (b1 : L2.Binds K fd1 ["self", "many"] []) {f2 : Addr} {fd2 : FuncData} (G2 : FnOk P w K mg base (L2.CX P w) 4 f2 fd2 ["self", "ratio"] (spNumOf K C cN)) (m2 : Meth K C "number_of" f2) (b2 : L2.Binds K fd2 ["self", "ratio"] []) {f3 : Addr} {fd3 : FuncData} (G3 : FnOk P w K mg base CX0 1 f3 fd3 ["self"] (spAll C)) (m3 : Meth K C "all_numbers" f3) (b3 : L2.Binds K fd3 ["self"] []) {fW : Addr} {fdW : FuncData} (GW : FnOk P w K mg base CX0 1 fW fdW ["_law_thing"] (spWholeL K)) (mW : mg "_law_whole" = some (.ref fW)) (kpW : PySem.W.keepIn K (.ref fW) = true) (bW : L2.Binds K fdW ["_law_thing"] []) {fS : Addr} {fdS : FuncData} (GS : FnOk P w K mg base CX0 2 fS fdS ["_law_told", "_law_due"] (spSame K)) (mS : mg "_law_same" = some (.ref fS)) (kpS : PySem.W.keepIn K (.ref fS) = true) (bS : L2.Binds K fdS ["_law_told", "_law_due"] []) : FnOk P w K mg base CX0 5 f fd ["_law_figures", "_law_p", "_law_ratio_here", "_law_many"] (spT2 K (ReadR K C)) := by
  refine F.ok sc__law_read (fun vs H Q E h => ?_) (fun cdv A outer s H vs Q E hr h => ?_)
  · obtain ⟨⟨s, x, p, a, b, i, rfl, _⟩, _⟩ := h; rfl
  · obtain ⟨⟨s, x, p, a, b, i, rfl, fig, hx, hf⟩, k⟩ := h
    obtain ⟨op, dx, zv, ov, hs, hz1⟩ := fig
    have fig : FigAt C H s p := ⟨op, dx, zv, ov, hs, hz1⟩
    have hr1 : Room 1 _ := hr.mono (by decide)
    have hr2 : Room 4 _ := hr
    have hr3 : Room 1 _ := hr.mono (by decide)
    have hrS : Room 2 _ := hr.mono (by decide)
    have hrW : Room 1 _ := hr.mono (by decide)
    have hu := hr.units
    refine ⟨_, PSs.nox (pss_cons (ps_set (i := 4) sc__law_read.nd rfl (Or.inl rfl) (pe_meth (pv 0) fg.cl m1 G1 hr1 b1 .nil pass0 (pa_cons (pv 3) pa_nil)))
      (pss_cons (ps_if (pt_cmpR op_eq (pv 1) pe_int (by rfl)) (pss_one (ps_ret (pe_and (pe_call GS hrS (by rfl) mS kpS bS .nil pass0 (pa_cons (pv 4) (pa_cons (pe_tup (pa_cons (pv 3) (pa_cons pe_int pa_nil))) pa_nil))) (pe_and (pe_call GS hrS (by rfl) mS kpS bS .nil pass0 (pa_cons (pe_meth (pv 0) fg.cl m2 G2 hr2 b2 .nil passN (pa_cons (pv 2) pa_nil)) (pa_cons (pv 2) pa_nil))) (pe_one (pe_cmpR (op_eqD hu) (pe_meth0 (pv 0) fg.cl m3 G3 hr3 b3 .nil pass0) (pe_tup pa_nil) (by rfl))))))) pss_nil)
      (pss_cons (ps_if (PW.pt (pw_or (pt_not (pt_val (pe_call GS hrS (by rfl) mS kpS bS .nil pass0 (pa_cons (pv 4) (pa_cons (pe_op op_mod (pe_callTy call_int1 (by rfl) tx.int PyProof.Rows.boot_int (pa_cons (pv 3) pa_nil)) (pv 1)) pa_nil))))) (pw_or1 (pt_cmpR (op_neD hu) (pe_meth0 (pv 0) fg.cl m3 G3 hr3 b3 .nil pass0) (pe_callTy call_tuple_of (by rfl) tx.tuple PyProof.Rows.boot_tuple (pa_cons (pe_lc (own := [("_law_k", 5)]) (g := gName 5) (tt := tYes) rfl sc__law_read.nd (pi_range1 (by rfl) tx.range (pa_cons (pv 1) pa_nil)) (blkOk_by (own := [("_law_k", 5)]) (N := ["_law_figures", "_law_p", "_law_ratio_here", "_law_many", "_law_whole_here", "_law_k", "_law_told", "_law_refused_here", "e"]) (sc := defScope (top 39)) (by decide +kernel)) (fun _ _ _ _ _ => pg_name (i := 5) sc__law_read.nd rfl (Or.inl rfl)) (fun _ _ _ _ _ => pts_nil) (fun _ _ _ _ _ => (pv 5))) pa_nil)) (by rfl))))) (pss_one (ps_ret pe_bl)) pss_nil)
      (pss_cons (ps_set (i := 6) sc__law_read.nd rfl (Or.inl rfl) pe_non)
      (pss_cons (ps_set (i := 7) sc__law_read.nd rfl (Or.inl rfl) pe_bl)
      (pss_cons (ps_try_as (i := 8) (c := (.ref cN)) (Wout := fun _ _ _ _ => False) rfl rfl sc__law_read.nd rfl rfl ⟨rfl, by decide, .inl es.eN.m⟩ takes0
        (fun W pn xe tk _ => (pss_one (ps_set (i := 6) sc__law_read.nd rfl (Or.inl rfl) (pe_methT (pv 0) fg.cl m2 G2 hr2 b2 (fun σ => passAt tk σ) (pa_cons (pv 2) pa_nil)))))
        (fun a oe cls dd pn hz hf => (pss_one (ps_set (i := 7) sc__law_read.nd rfl (Or.inl rfl) (pe_and (pe_callB (call_isS (P := gP) es.gt hz hf) (by rfl) tx.isinstance PyProof.Rows.boot_isinstance (pa_cons (pv 8) (pa_cons (pe_bltn (v := .ty "ValueError") (by rfl) tx.ve (by decide +kernel) rfl) pa_nil))) (pe_one (pe_not (pe_callB (call_isS (P := gP) es.gt hz hf) (by rfl) tx.isinstance PyProof.Rows.boot_isinstance (pa_cons (pv 8) (pa_cons (pe_cls (by rfl) es.eD.m) pa_nil))))))))))
      (pss_cons (ps_if (pt_cmpR op_eq (pe_op op_mod (pe_callTy call_int1 (by rfl) tx.int PyProof.Rows.boot_int (pa_cons (pe_ix ix_tup (pv 2) pe_int (fun _ _ => rfl)) pa_nil)) (pv 1)) pe_int (by rfl)) (pss_one (ps_ret (pv 7))) pss_nil)
      (pss_one (ps_ret (pe_and (pe_call GW hrW (by rfl) mW kpW bW .nil pass0 (pa_cons (pv 6) pa_nil)) (pe_and (pe_chain op_le op_lt pe_int (pv 6) (pv 1)) (pe_one (pe_cmpR op_eq (pe_op op_mod (pe_callTy call_int1 (by rfl) tx.int PyProof.Rows.boot_int (pa_cons (pe_op op_sub (pe_op op_mul (pv 6) (pe_ix ix_tup (pv 2) pe_int (fun _ _ => rfl))) (pe_ix ix_tup (pv 2) pe_int (fun _ _ => rfl))) pa_nil)) (pv 1)) pe_int (by rfl)))))))))))))), ?_⟩
    have r0 : Same H H := Same.refl H
    refine ⟨_, rfl, s, dx, _, rfl, r0 _ _ hs, (nm "whole_number" (by decide +kernel)), _, rfl, s, i, p, rfl, fig, fun e0 q hq => ?_, fun hp => ?_⟩
    · subst e0
      have n1 := same_new (o := .tup [.int i, .int 1]) hq
      refine ⟨_, rfl, rfl, _, rfl, ifT (decide_eq_true rfl) ?_⟩
      refine ⟨_, rfl, _, rfl, by show 2 ≤ sizeLine; decide, fun u hu => ?_⟩
      have n2 := same_new (o := .tup [.int i, .int 1]) hu
      have s2 := n1.trans n2
      refine ⟨.ref q, .ref u, _, rfl, dp_of2 (SqT.of (n2 _ _ upd_same)), dp_of2 (SqT.of upd_same), .inr ⟨_, _, rfl⟩, _, rfl, ifT rfl ?_⟩
      refine ⟨_, rfl, s, dx, _, rfl, s2 _ _ hs, (nm "number_of" (by decide +kernel)), _, rfl, s, x, a, b, 0, rfl, fig.same s2, Evl.ex_t s2 hx, fun _ => ?_, fun z => absurd rfl z, fun z => absurd rfl z⟩
      refine ⟨_, rfl, .ref x, .ref x, _, rfl, dp_of2 (Evl.ex_t s2 hx), dp_of2 (Evl.ex_t s2 hx), .inr ⟨_, _, rfl⟩, _, rfl, ifT rfl ?_⟩
      refine ⟨_, rfl, s, dx, _, rfl, s2 _ _ hs, (nm "all_numbers" (by decide +kernel)), s, 0, rfl, fig.same s2, fun v hv => ?_⟩
      have n3 := same_new (o := .tup []) hv
      have s3 := s2.trans n3
      refine ⟨by show 0 ≤ sizeLine; decide, fun e he => ?_⟩
      have n4 := same_new (o := .tup []) he
      refine ⟨.tuple [], .tuple [], .tup (SqT.of (n4 _ _ upd_same)) .nil, .tup (SqT.of upd_same) .nil, rfl, rfl, ?_⟩
      exact k _ (s3.trans n4)
    · obtain ⟨p0, p13⟩ := off_pos op hp
      refine ⟨_, rfl, rfl, _, rfl, ifF (decide_eq_false fun z => hp (V.int.inj z)) ?_⟩
      refine ⟨_, rfl, _, rfl, .inl ⟨_, rfl, _, rfl, _, _, rfl, rfl, p0, ?_⟩⟩
      refine ⟨.int _, .int _, _, rfl, .int _, .int _, .inl ⟨_, rfl⟩, _, rfl, ifF rfl ?_⟩
      refine ⟨_, rfl, s, dx, _, rfl, r0 _ _ hs, (nm "all_numbers" (by decide +kernel)), s, p, rfl, fig, fun v hv => ?_⟩
      have n1 := same_new (o := .tup (rgV 0 p)) hv
      refine ⟨_, rfl, p, rfl, by omega, by omega, fun D hD => lc_range (lo := 0) (n := p.toNat) (fun n H3 => Same (upd H v (.tup (rgV 0 p))) H3 ∧ H3 D = some (.lst (rg n))) ⟨same_new hD, upd_same⟩ ?_ ?_⟩
      · rintro n H3 hn ⟨s3, h3⟩
        refine ⟨rfl, _, rfl, rg n, h3, ?_, same_at s3 hD, ?_⟩
        · have e : (rg n).length = n := by
            unfold rg
            rw [List.length_map, List.length_range]
          rw [e, sizeLine_eq]
          omega
        · rw [upd_same, rg_succ]
      · rintro H3 ⟨s3, h3⟩
        refine ⟨D, rg p.toNat, rfl, .inl ⟨SqL.of h3, fun l hl => ?_⟩⟩
        have n4 := same_new (o := .tup (rg p.toNat)) hl
        have s4 := (n1.trans s3).trans n4
        obtain ⟨sh, eq⟩ := rg_ok op
        refine ⟨rgD p.toNat, rgD p.toNat, dp_rg (SqT.of (n4 _ _ (s3 _ _ (by rw [upd_same, rg_V])))), dp_rg (SqT.of upd_same), sh, sh, _, rfl, ifF (by rw [eq]; rfl) ?_⟩
        refine ⟨_, rfl, s, dx, _, rfl, s4 _ _ hs, (nm "number_of" (by decide +kernel)), _, rfl, s, x, a, b, p, rfl, fig.same s4, Evl.ex_t s4 hx, fun z => absurd z hp, fun _ hb => ?_, fun _ hb r r1 r2 r3 => ?_⟩
        · refine ⟨true, es.xN, fun _ a2 ha2 => ?_, fun z => by cases z⟩
          refine ⟨_, rfl, cN, .ty "ValueError", .type "ValueError", _, rfl, ⟨rfl, .inl rfl⟩, es.eN.er, rfl, es.kNV, _, rfl, ifT rfl ?_⟩
          refine ⟨_, rfl, cN, .ref cD, .ref cD, _, rfl, ⟨rfl, .inl rfl⟩, es.eN.er, rfl, es.kND, ?_⟩
          refine ⟨_, rfl, _, rfl, _, _, _, _, rfl, rfl, Evl.ex_t s4 hx, rfl, .inl ⟨_, rfl, _, rfl, _, _, rfl, rfl, p0, rfl, _, rfl, ifT (decide_eq_true (congrArg V.int hb)) ?_⟩⟩
          exact ⟨_, rfl, k _ s4⟩
        · refine ⟨_, rfl, _, _, _, _, rfl, rfl, Evl.ex_t s4 hx, rfl, .inl ⟨_, rfl, _, rfl, _, _, rfl, rfl, p0, rfl, _, rfl, ifF (decide_eq_false fun z => hb (V.int.inj z)) ?_⟩⟩
          have q0 := Int.emod_nonneg (a % p * r) (show p ≠ 0 by omega)
          have q1 := Int.emod_lt_of_pos (a % p * r) p0
          have q2 := undo0 (a := a) r3
          have lq : Lo (a % p * r % p) := lo13 q0 (by omega)
          refine ⟨_, rfl, .int _, _, rfl, .int _, _, rfl, ifT rfl ?_⟩
          refine ⟨_, rfl, _, _, rfl, rfl, _, rfl, ifT (decide_eq_true q0) ?_⟩
          refine ⟨_, rfl, _, _, rfl, rfl, _, rfl, ifT (decide_eq_true q1) ?_⟩
          refine ⟨_, rfl, _, rfl, _, _, _, _, rfl, rfl, Evl.ex_t s4 hx, rfl, _, _, rfl, rfl, .inl lq.wide, ?_⟩
          refine ⟨_, rfl, _, _, _, _, rfl, rfl, Evl.ex_t s4 hx, rfl, _, _, rfl, rfl, .inl ⟨_, rfl, _, rfl, _, _, rfl, rfl, p0, rfl, ?_⟩⟩
          show Q (.bl (decide (V.int ((a % p * r % p * b - a) % p) = V.int 0))) _
          rw [q2, decide_eq_true rfl]
          exact k _ s4
end
end Rj
set_option exponentiation.threshold 20000

namespace Rk
open PySem PySem.Spec PyProof.Rows L2 Dz Ra Mt Kx Ky Re Rb Rc Rd Rf Rm Rh Rj
open Kq (HandAt But spTake)
theorem oc {α : Type} {Q : α → Prop} {v : α} {xs : List α} (h : Q v) (t : ∀ u ∈ xs, Q u) : ∀ u ∈ (v :: xs), Q u := List.forall_mem_cons.mpr ⟨h, t⟩
/-- no number, whatever the figures -/
def Odd (K : PySem.W.Frag) (H : Hp) (v : V) : Prop := ∃ d, Dp K H v d ∧ ∀ p, numD p d = false
theorem odd_of {K : PySem.W.Frag} {H : Hp} {v : V} {d : PyData} (h : Dp K H v d) (h0 : ratioD d = false) (h1 : ∀ x, wholeD d (some 0) x = false) : Odd K H v := ⟨d, h, fun p => by
  unfold numD
  split
  · exact h0
  · exact h1 _⟩
def NumbR (K : PySem.W.Frag) (C : Addr) (H : Hp) (vs : List V) : Prop := ∃ s x dx p i, vs = [.ref s, .int p, x, .int i] ∧ FigAt C H s p ∧ Dp K H x dx ∧ numD p dx = true
theorem num_int {p i : Int} (hp : p ≠ 0) : numD p (.int i) = (decide (0 ≤ i) && decide (i ≤ p - 1)) := by
  unfold numD
  rw [if_neg hp]
  rfl
theorem off_two {p : Int} (h : Off p) (h0 : p ≠ 0) : 2 ≤ p := by
  rcases h with h | h | h | h | h | h | h <;> omega
section
variable {P : Program} {w : World} {K : PySem.W.Frag} {mg : Str → Option Value} {base : Heap} {f gP cR cD cF cN C : Addr} {fd : FuncData}
theorem sc__law_numbers : FnScope ["_law_figures", "_law_p", "_law_one", "_law_many", "_law_odd", "_law_thing"] ["_law_figures", "_law_p", "_law_one", "_law_many"] (defScope (top 40)) := ⟨rfl, rfl, rfl, by decide +kernel, rfl, by decide +kernel, by decide +kernel⟩
theorem ok__law_numbers (F : FnP K "_law_numbers" (top 40) [] f fd) (tx : Bn mg) (es : Es P w K mg base gP cR cD cF cN) (fg : Fg K C) {f1 : Addr} {fd1 : FuncData} (G1 : FnOk P w K mg base CX0 3 f1 fd1 ["self", "thing"] (spIsNum K C)) (m1 : Meth K C "is_number" f1) (b1 : L2.Binds K fd1 ["self", "thing"] []) : FnOk P w K mg base CX0 4 f fd ["_law_figures", "_law_p", "_law_one", "_law_many"] (spT2 K (NumbR K C)) := by
  refine F.ok sc__law_numbers (fun vs H Q E h => ?_) (fun cdv A outer s H vs Q E hr h => ?_)
  · obtain ⟨⟨s, x, dx, p, i, rfl, _⟩, _⟩ := h; rfl
  · obtain ⟨⟨s, x, ex, p, i, rfl, fig, hx, hn⟩, k⟩ := h
    obtain ⟨op, dx, zv, ov, hs, hz1⟩ := fig
    have fig : FigAt C H s p := ⟨op, dx, zv, ov, hs, hz1⟩
    have hr1 : Room 3 _ := hr
    refine ⟨_, PSs.nox (Evl.pss_cut (ps_set (i := 4) sc__law_numbers.nd rfl (Or.inl rfl) (pe_lst (pa_cons pe_non (pa_cons pe_str (pa_cons pe_bl (pa_cons pe_bl (pa_cons (pe_lst (pa_cons pe_int (pa_cons pe_int pa_nil))) (pa_cons (pe_tup (pa_cons pe_int (pa_cons pe_int pa_nil))) (pa_cons (pe_tup (pa_cons pe_int (pa_cons pe_int pa_nil))) (pa_cons (pe_tup (pa_cons pe_int (pa_cons (pe_un un_neg pe_int) pa_nil))) (pa_cons (pe_tup (pa_cons pe_bl (pa_cons pe_int pa_nil))) (pa_cons (pe_tup (pa_cons pe_int (pa_cons pe_bl pa_nil))) (pa_cons (pe_un un_neg pe_int) (pa_cons (pe_tup (pa_cons pe_int (pa_cons pe_int (pa_cons pe_int pa_nil)))) (pa_cons (pe_lst (pa_cons pe_int (pa_cons pe_int pa_nil))) pa_nil)))))))))))))))
      (pss_cons (ps_for PassesOwn.never rfl (pi_list (pv 4)) (pg_name (i := 5) sc__law_numbers.nd rfl (Or.inl rfl)) (pss_one (ps_if (pt_cmpR op_notBl (pe_meth (pv 0) fg.cl m1 G1 hr1 b1 .nil pass0 (pa_cons (pv 5) pa_nil)) pe_bl (by rfl)) (pss_one (ps_ret pe_bl)) pss_nil)))
      (pss_cons (ps_if (PW.pt (pw_or (pt_cmpR op_notBl (pe_meth (pv 0) fg.cl m1 G1 hr1 b1 .nil pass0 (pa_cons (pv 2) pa_nil)) pe_bl (by rfl)) (pw_or1 (pt_cmpR op_ne (pe_meth (pv 0) fg.cl m1 G1 hr1 b1 .nil pass0 (pa_cons (pv 3) pa_nil)) (pe_and (pe_cmpR op_gt (pv 1) pe_int (by rfl)) (pe_one (pe_chain op_le op_lt pe_int (pv 3) (pv 1)))) (by rfl))))) (pss_one (ps_ret pe_bl)) pss_nil)
      (pss_one (ps_ret (pe_and (pe_meth (pv 0) fg.cl m1 G1 hr1 b1 .nil pass0 (pa_cons (pe_fld (pv 0) rfl) pa_nil)) (pe_and (pe_meth (pv 0) fg.cl m1 G1 hr1 b1 .nil pass0 (pa_cons (pe_fld (pv 0) rfl) pa_nil)) (pe_one (pe_cmpR op_eq (pe_meth (pv 0) fg.cl m1 G1 hr1 b1 .nil pass0 (pa_cons (pe_tup (pa_cons pe_int (pa_cons pe_int pa_nil))) pa_nil)) (pe_cmpR op_eq (pv 1) pe_int (by rfl)) (by rfl)))))))))), ?_⟩
    refine ⟨fun σ2 H2 => ∃ (L : Addr) (xs : List V), σ2 = [some (.ref s), some (.int p), some x, some (.int i), some (.ref L), none] ∧ Same H H2 ∧ H2 L = some (.lst xs) ∧ ∀ v ∈ xs, Odd K H2 v, ?_, ?_⟩
    · have s0 : Same H H := Same.refl H
      refine ⟨by show 2 ≤ sizeLine; decide, fun a1 h1 => ?_⟩
      have n1 := same_new (o := .lst [.int 1, .int 2]) h1
      have s1 := s0.trans n1
      refine ⟨by show 2 ≤ sizeLine; decide, fun a2 h2 => ?_⟩
      have n2 := same_new (o := .tup [.int 2, .int 4]) h2
      have s2 := s1.trans n2
      refine ⟨by show 2 ≤ sizeLine; decide, fun a3 h3 => ?_⟩
      have n3 := same_new (o := .tup [.int 1, .int 0]) h3
      have s3 := s2.trans n3
      refine ⟨_, rfl, by show 2 ≤ sizeLine; decide, fun a4 h4 => ?_⟩
      have n4 := same_new (o := .tup [.int 3, .int (-1)]) h4
      have s4 := s3.trans n4
      refine ⟨by show 2 ≤ sizeLine; decide, fun a5 h5 => ?_⟩
      have n5 := same_new (o := .tup [.bl true, .int 1]) h5
      have s5 := s4.trans n5
      refine ⟨by show 2 ≤ sizeLine; decide, fun a6 h6 => ?_⟩
      have n6 := same_new (o := .tup [.int 1, .bl true]) h6
      have s6 := s5.trans n6
      refine ⟨_, rfl, ?_⟩
      refine ⟨by show 3 ≤ sizeLine; decide, fun a7 h7 => ?_⟩
      have n7 := same_new (o := .tup [.int 1, .int 2, .int 1]) h7
      have s7 := s6.trans n7
      refine ⟨by show 2 ≤ sizeLine; decide, fun a8 h8 => ?_⟩
      have n8 := same_new (o := .lst [.int 0, .int 1]) h8
      have s8 := s7.trans n8
      refine ⟨by show 13 ≤ sizeLine; decide, fun L hL => ?_⟩
      have nL := same_new (o := .lst [.non, .str "1", .bl true, .bl false, .ref a1, .ref a2, .ref a3, .ref a4, .ref a5, .ref a6, .int (-1), .ref a7, .ref a8]) hL
      have c8 := nL
      have c7 := n8.trans c8
      have c6 := n7.trans c7
      have c5 := n6.trans c6
      have c4 := n5.trans c5
      have c3 := n4.trans c4
      have c2 := n3.trans c3
      have c1 := n2.trans c2
      exact ⟨L, _, rfl, s8.trans nL, upd_same, (oc (odd_of .non rfl (fun _ => rfl)) (oc (odd_of (.str "1") rfl (fun _ => rfl)) (oc (odd_of (.bl true) rfl (fun _ => rfl)) (oc (odd_of (.bl false) rfl (fun _ => rfl)) (oc (odd_of (d := .list _) (.lst (SqL.of (c1 _ _ upd_same)) (.cons (.int 1) (.cons (.int 2) .nil))) (by decide +kernel) (fun _ => rfl)) (oc (odd_of (d := .tuple _) (.tup (SqT.of (c2 _ _ upd_same)) (.cons (.int 2) (.cons (.int 4) .nil))) (by decide +kernel) (fun _ => rfl)) (oc (odd_of (d := .tuple _) (.tup (SqT.of (c3 _ _ upd_same)) (.cons (.int 1) (.cons (.int 0) .nil))) (by decide +kernel) (fun _ => rfl)) (oc (odd_of (d := .tuple _) (.tup (SqT.of (c4 _ _ upd_same)) (.cons (.int 3) (.cons (.int (-1)) .nil))) (by decide +kernel) (fun _ => rfl)) (oc (odd_of (d := .tuple _) (.tup (SqT.of (c5 _ _ upd_same)) (.cons (.bl true) (.cons (.int 1) .nil))) (by decide +kernel) (fun _ => rfl)) (oc (odd_of (d := .tuple _) (.tup (SqT.of (c6 _ _ upd_same)) (.cons (.int 1) (.cons (.bl true) .nil))) (by decide +kernel) (fun _ => rfl)) (oc (odd_of (.int (-1)) rfl (fun _ => rfl)) (oc (odd_of (d := .tuple _) (.tup (SqT.of (c7 _ _ upd_same)) (.cons (.int 1) (.cons (.int 2) (.cons (.int 1) .nil)))) (by decide +kernel) (fun _ => rfl)) (oc (odd_of (d := .list _) (.lst (SqL.of (c8 _ _ upd_same)) (.cons (.int 0) (.cons (.int 1) .nil))) (by decide +kernel) (fun _ => rfl)) (fun _ z => nomatch z))))))))))))))⟩
    · rintro σ2 H2 ⟨L, xs, rfl, s2, hL, od⟩
      refine ⟨_, rfl, L, rfl, ⟨_, SqL.of hL⟩, for_list (xs := xs) (fun n σ H3 => (∃ u, σ = [some (.ref s), some (.int p), some x, some (.int i), some (.ref L), u]) ∧ Same H2 H3) ⟨⟨none, rfl⟩, Same.refl _⟩ ?_ ?_ ?_⟩
      · rintro n σ H3 hi ⟨_, s3⟩
        exact SqL.of (s3 _ _ hL)
      · rintro n z σ H3 hz ⟨⟨u, rfl⟩, s3⟩
        obtain ⟨d, hd, hno⟩ := od z (List.mem_of_getElem? hz)
        have s4 := s2.trans s3
        refine ⟨_, rfl, s, dx, _, rfl, s4 _ _ hs, (nm "is_number" (by decide +kernel)), _, rfl, s, z, d, p, rfl, fig.same s4, dp_same s3 _ _ hd, _, _, rfl, rfl, _, rfl, ifF (by rw [hno]; rfl) ?_⟩
        exact ⟨⟨_, rfl⟩, s3⟩
      · rintro σ H3 ⟨⟨u, rfl⟩, s3⟩
        have s4 := s2.trans s3
        refine ⟨_, rfl, s, dx, _, rfl, s4 _ _ hs, (nm "is_number" (by decide +kernel)), _, rfl, s, x, ex, p, rfl, fig.same s4, dp_same s4 _ _ hx, _, _, rfl, rfl, _, rfl, ifF (by rw [hn]; rfl) ?_⟩
        refine ⟨_, rfl, s, dx, _, rfl, s4 _ _ hs, (nm "is_number" (by decide +kernel)), _, rfl, s, .int i, .int i, p, rfl, fig.same s4, .int i, ?_⟩
        have nb : ∀ b2 : Bool, numD p (.int i) = b2 → (!decide (V.bl (numD p (.int i)) = V.bl b2)) = false := fun b2 e => by
          rw [e, decide_eq_true rfl]
          rfl
        by_cases hp : p = 0
        · subst hp
          refine ⟨_, rfl, _, _, rfl, rfl, _, rfl, ifF (by decide) ?_⟩
          refine ⟨rfl, _, rfl, ifF (nb _ rfl) ?_⟩
          rcases hz1 with ⟨_, za, oa, rfl, rfl, hza, hoa⟩ | ⟨z, _⟩
          · refine ⟨_, rfl, s, dx, _, rfl, s4 _ _ hs, (nm "is_number" (by decide +kernel)), _, rfl, s, C, dx, _, _, rfl, s4 _ _ hs, fg.cl, fg.nZ, fl_zero, s, _, _, 0, rfl, fig.same s4, dp_of2 (SqT.of (s4 _ _ hza)), _, rfl, ifT (by decide +kernel) ?_⟩
            refine ⟨_, rfl, s, dx, _, rfl, s4 _ _ hs, (nm "is_number" (by decide +kernel)), _, rfl, s, C, dx, _, _, rfl, s4 _ _ hs, fg.cl, fg.nO, fl_one, s, _, _, 0, rfl, fig.same s4, dp_of2 (SqT.of (s4 _ _ hoa)), _, rfl, ifT (by decide +kernel) ?_⟩
            refine ⟨_, rfl, s, dx, _, rfl, s4 _ _ hs, (nm "is_number" (by decide +kernel)), by show 2 ≤ sizeLine; decide, fun q hq => ?_⟩
            have n5 := same_new (o := .tup [.int 3, .int 2]) hq
            refine ⟨s, _, _, 0, rfl, fig.same (s4.trans n5), dp_of2 (SqT.of upd_same), ?_⟩
            refine ⟨_, rfl, rfl, rfl, ?_⟩
            exact k _ (s4.trans n5)
          · exact absurd rfl z
        · obtain ⟨p0, p13⟩ := off_pos op hp
          have p2 : 2 ≤ p := off_two op hp
          refine ⟨_, rfl, _, _, rfl, rfl, _, rfl, ifT (decide_eq_true p0) ?_⟩
          obtain ⟨_, ez, eo⟩ : p ≠ 0 ∧ zv = .int 0 ∧ ov = .int 1 := by
            rcases hz1 with ⟨z, _⟩ | z
            · exact absurd z hp
            · exact z
          subst ez eo
          have w0 : numD p (.int 0) = true := by
            rw [num_int hp, decide_eq_true (show (0 : Int) ≤ 0 by omega), decide_eq_true (show 0 ≤ p - 1 by omega)]
            rfl
          have w1 : numD p (.int 1) = true := by
            rw [num_int hp, decide_eq_true (show (0 : Int) ≤ 1 by omega), decide_eq_true (show 1 ≤ p - 1 by omega)]
            rfl
          have w2 : numD p (.tuple [.int 3, .int 2]) = false := by
            unfold numD
            rw [if_neg hp]
            rfl
          by_cases h0 : 0 ≤ i
          · refine ⟨_, rfl, _, _, rfl, rfl, _, rfl, ifT (decide_eq_true h0) ⟨_, rfl, _, _, rfl, rfl, ?_⟩⟩
            have e : numD p (.int i) = decide (i < p) := by
              rw [num_int hp, decide_eq_true h0, Bool.true_and]
              by_cases h1 : i < p
              · rw [decide_eq_true h1, decide_eq_true (show i ≤ p - 1 by omega)]
              · rw [decide_eq_false h1, decide_eq_false (show ¬ i ≤ p - 1 by omega)]
            refine ⟨rfl, _, rfl, ifF (nb _ e) ?_⟩
            refine ⟨_, rfl, s, dx, _, rfl, s4 _ _ hs, (nm "is_number" (by decide +kernel)), _, rfl, s, C, dx, _, _, rfl, s4 _ _ hs, fg.cl, fg.nZ, fl_zero, s, _, _, p, rfl, fig.same s4, .int 0, _, rfl, ifT w0 ?_⟩
            refine ⟨_, rfl, s, dx, _, rfl, s4 _ _ hs, (nm "is_number" (by decide +kernel)), _, rfl, s, C, dx, _, _, rfl, s4 _ _ hs, fg.cl, fg.nO, fl_one, s, _, _, p, rfl, fig.same s4, .int 1, _, rfl, ifT w1 ?_⟩
            refine ⟨_, rfl, s, dx, _, rfl, s4 _ _ hs, (nm "is_number" (by decide +kernel)), by show 2 ≤ sizeLine; decide, fun q hq => ?_⟩
            have n5 := same_new (o := .tup [.int 3, .int 2]) hq
            refine ⟨s, _, _, p, rfl, fig.same (s4.trans n5), dp_of2 (SqT.of upd_same), ?_⟩
            refine ⟨_, rfl, rfl, rfl, ?_⟩
            rw [w2]
            show Q (.bl (decide (V.bl false = V.bl (decide (V.int p = V.int 0))))) _
            rw [decide_eq_false fun z => hp (V.int.inj z), decide_eq_true rfl]
            exact k _ (s4.trans n5)
          · refine ⟨_, rfl, _, _, rfl, rfl, _, rfl, ifF (decide_eq_false h0) ?_⟩
            have e : numD p (.int i) = false := by
              rw [num_int hp, decide_eq_false h0, Bool.false_and]
            refine ⟨rfl, _, rfl, ifF (nb _ e) ?_⟩
            refine ⟨_, rfl, s, dx, _, rfl, s4 _ _ hs, (nm "is_number" (by decide +kernel)), _, rfl, s, C, dx, _, _, rfl, s4 _ _ hs, fg.cl, fg.nZ, fl_zero, s, _, _, p, rfl, fig.same s4, .int 0, _, rfl, ifT w0 ?_⟩
            refine ⟨_, rfl, s, dx, _, rfl, s4 _ _ hs, (nm "is_number" (by decide +kernel)), _, rfl, s, C, dx, _, _, rfl, s4 _ _ hs, fg.cl, fg.nO, fl_one, s, _, _, p, rfl, fig.same s4, .int 1, _, rfl, ifT w1 ?_⟩
            refine ⟨_, rfl, s, dx, _, rfl, s4 _ _ hs, (nm "is_number" (by decide +kernel)), by show 2 ≤ sizeLine; decide, fun q hq => ?_⟩
            have n5 := same_new (o := .tup [.int 3, .int 2]) hq
            refine ⟨s, _, _, p, rfl, fig.same (s4.trans n5), dp_of2 (SqT.of upd_same), ?_⟩
            refine ⟨_, rfl, rfl, rfl, ?_⟩
            rw [w2]
            show Q (.bl (decide (V.bl false = V.bl (decide (V.int p = V.int 0))))) _
            rw [decide_eq_false fun z => hp (V.int.inj z), decide_eq_true rfl]
            exact k _ (s4.trans n5)
end
end Rk
namespace Rn
open PySem PySem.Spec PyProof.Rows L2 Dz Ra
theorem vals_take {vs : List V} {us : List Value} (r : Vals vs us) (n : Nat) : Vals (vs.take n) (us.take n) := by
  induction r generalizing n with
  | nil => rw [List.take_nil, List.take_nil]; exact .nil
  | cons h t ih =>
    cases n with
    | zero => exact .nil
    | succ n => exact .cons h (ih n)
theorem whole_high {K : PySem.W.Frag} {f : Addr} {fd : FuncData} (FW : FnP K "is_whole" (top 8) [.non, .non] f fd) :
    ∃ its : List Value, KBn K fd ["thing", "low", "high"] 1 ["high"] (fun us ws => us ++ (its.take 1 ++ ws)) (fun vs zs => vs ++ (([.non, .non] : List V).take 1 ++ zs)) := by
  refine FW.kbindsD 1 ["high"] (fun us ds ws => us ++ (ds.take 1 ++ ws)) (by simp) (fun r1 r2 r3 => r1.append ((vals_take r2 1).append r3)) ?_
  intro T kV doc pm an cdv ct us its ws h1 h2 h3
  match us, its, ws, h1, h2, h3 with
  | [u], [a, b], [w], _, _, _ => exact ⟨_, rfl, by kernel_rfl⟩
end Rn
set_option exponentiation.threshold 20000

namespace Rl
open PySem PySem.Spec PyProof.Rows L2 Dz Ra Mt Kx Ky Re Rb Rc Rd Rf Rm Rh Rj Rn
open Kq (HandAt But spTake)
def KindR (H : Hp) (vs : List V) : Prop := ∃ a b i : Int, vs = [.int a, .int b, .int i] ∧ a.natAbs < 2 ^ 64 ∧ i.natAbs < 2 ^ 64
theorem neb {a b : Bool} (e : a = b) : (!decide (V.bl a = V.bl b)) = false := by
  rw [e, decide_eq_true rfl]
  rfl
section
variable {P : Program} {w : World} {K : PySem.W.Frag} {mg : Str → Option Value} {base : Heap} {f gP cR cD cF cN C fQ : Addr} {fd fdQ : FuncData}
theorem sc__law_kinds : FnScope ["_law_least", "_law_most", "_law_many", "_law_told"] ["_law_least", "_law_most", "_law_many"] (defScope (top 41)) := ⟨rfl, rfl, rfl, by decide +kernel, rfl, by decide +kernel, by decide +kernel⟩
theorem ok__law_kinds (F : FnP K "_law_kinds" (top 41) [] f fd) (tx : Bn mg) (FQ : FnP K "is_whole" (top 8) [.non, .non] fQ fdQ) (mQ : mg "is_whole" = some (.ref fQ)) {f1 : Addr} {fd1 : FuncData} (G1 : FnOk P w K mg base CX0 1 f1 fd1 ["thing"] (spSeq K)) (m1 : mg "is_sequence" = some (.ref f1)) (kp1 : PySem.W.keepIn K (.ref f1) = true) (b1 : L2.Binds K fd1 ["thing"] []) {f2 : Addr} {fd2 : FuncData} (G2 : FnOk P w K mg base CX0 1 f2 fd2 ["one", "other"] spGcd) (m2 : mg "common_divisor" = some (.ref f2)) (kp2 : PySem.W.keepIn K (.ref f2) = true) (b2 : L2.Binds K fd2 ["one", "other"] []) {f3 : Addr} {fd3 : FuncData} (G3 : FnOk P w K mg base CX0 2 f3 fd3 ["thing"] (spRatio K)) (m3 : mg "is_ratio" = some (.ref f3)) (kp3 : PySem.W.keepIn K (.ref f3) = true) (b3 : L2.Binds K fd3 ["thing"] []) {fW : Addr} {fdW : FuncData} (GW : FnOk P w K mg base CX0 1 fW fdW ["_law_thing"] (spWholeL K)) (mW : mg "_law_whole" = some (.ref fW)) (kpW : PySem.W.keepIn K (.ref fW) = true) (bW : L2.Binds K fdW ["_law_thing"] []) {fG : Addr} {fdG : FuncData} (GG : FnOk P w K mg base CX0 1 fG fdG ["_law_one", "_law_other"] spGcdL) (mG : mg "_law_gcd" = some (.ref fG)) (kpG : PySem.W.keepIn K (.ref fG) = true) (bG : L2.Binds K fdG ["_law_one", "_law_other"] []) : FnOk P w K mg base CX0 3 f fd ["_law_least", "_law_most", "_law_many"] (spT2 K KindR) := by
  refine F.ok sc__law_kinds (fun vs H Q E h => ?_) (fun cdv A outer s H vs Q E hr h => ?_)
  · obtain ⟨⟨a, b, i, rfl, _⟩, _⟩ := h; rfl
  · obtain ⟨⟨a, b, i, rfl, sa, si⟩, k⟩ := h
    have GQ : FnOk P w K mg base CX0 1 fQ fdQ ["thing", "low", "high"] (spWhole K) := ok_is_whole FQ tx
    obtain ⟨⟨ds1, dQ1, bQ1⟩, ⟨ds2, dQ2, bQ2⟩, bQ3⟩ := binds_whole FQ
    obtain ⟨its4, bQ4⟩ := whole_high FQ
    have hrQ : Room 1 _ := hr.mono (by decide)
    have hr1 : Room 1 _ := hr.mono (by decide)
    have hr2 : Room 1 _ := hr.mono (by decide)
    have hr3 : Room 2 _ := hr
    have hrW : Room 1 _ := hr.mono (by decide)
    have hrG : Room 1 _ := hr.mono (by decide)
    refine ⟨_, PSs.nox (Evl.pss_cut (ps_if (PW.pt (pw_or (pt_cmpR op_ne (pe_call GQ hrQ (by rfl) mQ FQ.kp bQ3 .nil pass0 (pa_cons (pv 2) (pa_cons (pv 0) (pa_cons (pv 1) pa_nil)))) (pe_chain op_le op_le (pv 0) (pv 2) (pv 1)) (by rfl)) (pw_or1 (pt_cmpR op_ne (pe_call GQ hrQ (by rfl) mQ FQ.kp bQ3 .nil pass0 (pa_cons (pv 2) (pa_cons pe_non (pa_cons (pv 1) pa_nil)))) (pe_cmpR op_le (pv 2) (pv 1) (by rfl)) (by rfl))))) (pss_one (ps_ret pe_bl)) pss_nil)
      (pss_cons (ps_if (PW.pt (pw_or (pt_cmpR op_ne (pe_callN GQ hrQ (by rfl) mQ FQ.kp bQ4 pass0 (pa_cons (pv 2) pa_nil) (pk_cons (pv 1) pk_nil)) (pe_cmpR op_le (pv 2) (pv 1) (by rfl)) (by rfl)) (pw_or (pt_cmpR op_ne (pe_call GQ hrQ (by rfl) mQ FQ.kp bQ2 dQ2 pass0 (pa_cons (pv 2) (pa_cons (pv 0) pa_nil))) (pe_cmpR op_le (pv 0) (pv 2) (by rfl)) (by rfl)) (pw_or1 (pt_cmpR op_notBl (pe_call GQ hrQ (by rfl) mQ FQ.kp bQ1 dQ1 pass0 (pa_cons (pv 2) pa_nil)) pe_bl (by rfl)))))) (pss_one (ps_ret pe_bl)) pss_nil)
      (pss_cons (ps_if (PW.pt (pw_or (pt_val (pe_call GQ hrQ (by rfl) mQ FQ.kp bQ1 dQ1 pass0 (pa_cons pe_bl pa_nil))) (pw_or (pt_val (pe_call GQ hrQ (by rfl) mQ FQ.kp bQ1 dQ1 pass0 (pa_cons pe_str pa_nil))) (pw_or (pt_val (pe_call GQ hrQ (by rfl) mQ FQ.kp bQ1 dQ1 pass0 (pa_cons pe_non pa_nil))) (pw_or (pt_val (pe_call GQ hrQ (by rfl) mQ FQ.kp bQ1 dQ1 pass0 (pa_cons (pe_tup (pa_cons (pv 2) (pa_cons pe_int pa_nil))) pa_nil))) (pw_or1 (pt_val (pe_call GQ hrQ (by rfl) mQ FQ.kp bQ3 .nil pass0 (pa_cons pe_bl (pa_cons pe_int (pa_cons pe_int pa_nil))))))))))) (pss_one (ps_ret pe_bl)) pss_nil)
      (pss_cons (ps_if (PW.pt (pw_or (pt_not (pt_val (pe_call G1 hr1 (by rfl) m1 kp1 b1 .nil pass0 (pa_cons (pe_lst pa_nil) pa_nil)))) (pw_or (pt_not (pt_val (pe_call G1 hr1 (by rfl) m1 kp1 b1 .nil pass0 (pa_cons (pe_tup (pa_cons (pv 2) pa_nil)) pa_nil)))) (pw_or (pt_val (pe_call G1 hr1 (by rfl) m1 kp1 b1 .nil pass0 (pa_cons pe_str pa_nil))) (pw_or (pt_val (pe_call G1 hr1 (by rfl) m1 kp1 b1 .nil pass0 (pa_cons (pv 2) pa_nil))) (pw_or1 (pt_val (pe_call G1 hr1 (by rfl) m1 kp1 b1 .nil pass0 (pa_cons pe_non pa_nil))))))))) (pss_one (ps_ret pe_bl)) pss_nil)
      (pss_cons (ps_set (i := 3) sc__law_kinds.nd rfl (Or.inl rfl) (pe_call G2 hr2 (by rfl) m2 kp2 b2 .nil pass0 (pa_cons (pv 0) (pa_cons (pv 2) pa_nil))))
      (pss_cons (ps_if (PW.pt (pw_and (pt_cmpR op_eq (pv 0) pe_int (by rfl)) (pw_and1 (pt_cmpR op_eq (pv 2) pe_int (by rfl))))) (pss_one (ps_ret (pe_cmpR op_eq (pv 3) pe_int (by rfl)))) pss_nil)
      (pss_one (ps_ret (pe_and (pe_call GW hrW (by rfl) mW kpW bW .nil pass0 (pa_cons (pv 3) pa_nil)) (pe_and (pe_cmpR op_eq (pv 3) (pe_call GG hrG (by rfl) mG kpG bG .nil pass0 (pa_cons (pv 0) (pa_cons (pv 2) pa_nil))) (by rfl)) (pe_and (pe_cmpR op_isBl (pe_call G3 hr3 (by rfl) m3 kp3 b3 .nil pass0 (pa_cons (pe_lst (pa_cons (pv 2) (pa_cons pe_int pa_nil))) pa_nil)) pe_bl (by rfl)) (pe_one (pe_call G3 hr3 (by rfl) m3 kp3 b3 .nil pass0 (pa_cons (pe_tup (pa_cons (pv 2) (pa_cons pe_int pa_nil))) pa_nil)))))))))))))), ?_⟩
    refine ⟨fun σ2 H2 => σ2 = [some (.int a), some (.int b), some (.int i), none] ∧ H2 = H, ?_, ?_⟩
    · refine ⟨_, rfl, _, rfl, _, rfl, .int i, .int a, .int b, .int i, some a, some b, rfl, .int i, rfl, rfl, ?_⟩
      by_cases h0 : a ≤ i
      · refine ⟨_, rfl, _, rfl, _, _, rfl, rfl, _, rfl, ifT (decide_eq_true h0) ⟨_, rfl, _, _, rfl, rfl, rfl, _, rfl, ifF (neb ?_) ?_⟩⟩
        · show (decide (a ≤ i) && decide (i ≤ b)) = decide (i ≤ b)
          rw [decide_eq_true h0, Bool.true_and]
        · refine ⟨_, rfl, _, rfl, .int i, .non, .int b, .int i, none, some b, rfl, .int i, rfl, rfl, ?_⟩
          exact ⟨_, rfl, _, rfl, _, _, rfl, rfl, rfl, _, rfl, ifF (neb rfl) ⟨rfl, rfl⟩⟩
      · refine ⟨_, rfl, _, rfl, _, _, rfl, rfl, _, rfl, ifF (decide_eq_false h0) ⟨rfl, _, rfl, ifF (neb ?_) ?_⟩⟩
        · show (decide (a ≤ i) && decide (i ≤ b)) = false
          rw [decide_eq_false h0, Bool.false_and]
        · refine ⟨_, rfl, _, rfl, .int i, .non, .int b, .int i, none, some b, rfl, .int i, rfl, rfl, ?_⟩
          exact ⟨_, rfl, _, rfl, _, _, rfl, rfl, rfl, _, rfl, ifF (neb rfl) ⟨rfl, rfl⟩⟩
    · rintro σ2 H2 ⟨rfl, rfl⟩
      refine ⟨_, rfl, _, rfl, rfl, rfl, .int i, .non, .int b, .int i, none, some b, rfl, .int i, rfl, rfl, ?_⟩
      refine ⟨_, rfl, _, rfl, _, _, rfl, rfl, rfl, _, rfl, ifF (neb rfl) ?_⟩
      refine ⟨_, rfl, _, rfl, .int i, .int a, .non, .int i, some a, none, rfl, .int i, rfl, rfl, ?_⟩
      refine ⟨_, rfl, _, rfl, _, _, rfl, rfl, rfl, _, rfl, ifF (neb (Bool.and_true _)) ?_⟩
      refine ⟨_, rfl, .int i, .non, .non, .int i, none, none, rfl, .int i, rfl, rfl, _, _, rfl, rfl, _, rfl, ifF rfl ?_⟩
      refine ⟨.bl true, .non, .non, .bool true, none, none, rfl, .bl true, rfl, rfl, _, rfl, ifF rfl ?_⟩
      refine ⟨.str "3", .non, .non, .str "3", none, none, rfl, .str "3", rfl, rfl, _, rfl, ifF rfl ?_⟩
      refine ⟨.non, .non, .non, .none, none, none, rfl, .non, rfl, rfl, _, rfl, ifF rfl ?_⟩
      refine ⟨_, rfl, by show 2 ≤ sizeLine; decide, fun q hq => ?_⟩
      have s1 := same_new (o := .tup [.int i, .int 1]) hq
      refine ⟨.ref q, .non, .non, .tuple [.int i, .int 1], none, none, rfl, dp_of2 (SqT.of upd_same), rfl, rfl, _, rfl, ifF rfl ?_⟩
      refine ⟨.bl false, .int 0, .int 1, .bool false, some 0, some 1, rfl, .bl false, rfl, rfl, _, rfl, ifF rfl ?_⟩
      refine ⟨by show 0 ≤ sizeLine; decide, fun q2 hq2 => ?_⟩
      have s2 := s1.trans (same_new (o := .lst []) hq2)
      refine ⟨.ref q2, .list [], rfl, .lst (SqL.of upd_same) .nil, fun H3 s3 => ⟨_, rfl, ifF rfl ?_⟩⟩
      refine ⟨_, rfl, by show 1 ≤ sizeLine; decide, fun q4 hq4 => ?_⟩
      have s4 := (s2.trans s3).trans (same_new (o := .tup [.int i]) hq4)
      refine ⟨.ref q4, .tuple [.int i], rfl, .tup (SqT.of upd_same) (.cons (.int i) .nil), fun H5 s5 => ⟨_, rfl, ifF rfl ?_⟩⟩
      refine ⟨.str "ab", .str "ab", rfl, .str "ab", fun H6 s6 => ⟨_, rfl, ifF rfl ?_⟩⟩
      refine ⟨_, rfl, .int i, .int i, rfl, .int i, fun H7 s7 => ⟨_, rfl, ifF rfl ?_⟩⟩
      refine ⟨.non, .none, rfl, .non, fun H8 s8 => ⟨_, rfl, ifF rfl ?_⟩⟩
      have s9 := (((s4.trans s5).trans s6).trans s7).trans s8
      refine ⟨_, rfl, _, rfl, a, i, rfl, ?_⟩
      refine ⟨_, rfl, rfl, _, rfl, ?_⟩
      by_cases ha : a = 0
      · subst ha
        refine ifT (decide_eq_true rfl) ⟨_, rfl, rfl, _, rfl, ?_⟩
        by_cases hi : i = 0
        · subst hi
          refine ifT (decide_eq_true rfl) ?_
          exact ⟨_, rfl, rfl, k _ s9⟩
        · refine ifF (decide_eq_false fun z => hi (V.int.inj z)) ?_
          refine ⟨_, rfl, .int _, _, rfl, .int _, _, rfl, ifT rfl ?_⟩
          refine ⟨_, rfl, _, rfl, _, rfl, _, i, rfl, sm4_of64 sa, sm4_of64 si, rfl, _, rfl, ifT (decide_eq_true rfl) ?_⟩
          refine ⟨_, rfl, by show 2 ≤ sizeLine; decide, fun q9 hq9 => ?_⟩
          have s10 := s9.trans (same_new (o := .lst [.int i, .int 1]) hq9)
          refine ⟨.ref q9, .list [.int i, .int 1], rfl, .lst (SqL.of upd_same) (.cons (.int i) (.cons (.int 1) .nil)), _, _, rfl, rfl, _, rfl, ifT rfl ?_⟩
          refine ⟨_, rfl, by show 2 ≤ sizeLine; decide, fun q10 hq10 => ?_⟩
          have s11 := s10.trans (same_new (o := .tup [.int i, .int 1]) hq10)
          refine ⟨.ref q10, .tuple [.int i, .int 1], rfl, dp_of2 (SqT.of upd_same), ?_⟩
          rw [ratioD_low ⟨by decide, Nat.gcd_one_right _⟩]
          exact k _ s11
      · refine ifF (decide_eq_false fun z => ha (V.int.inj z)) ?_
        refine ⟨_, rfl, .int _, _, rfl, .int _, _, rfl, ifT rfl ?_⟩
        refine ⟨_, rfl, _, rfl, _, rfl, _, i, rfl, sm4_of64 sa, sm4_of64 si, rfl, _, rfl, ifT (decide_eq_true rfl) ?_⟩
        refine ⟨_, rfl, by show 2 ≤ sizeLine; decide, fun q9 hq9 => ?_⟩
        have s10 := s9.trans (same_new (o := .lst [.int i, .int 1]) hq9)
        refine ⟨.ref q9, .list [.int i, .int 1], rfl, .lst (SqL.of upd_same) (.cons (.int i) (.cons (.int 1) .nil)), _, _, rfl, rfl, _, rfl, ifT rfl ?_⟩
        refine ⟨_, rfl, by show 2 ≤ sizeLine; decide, fun q10 hq10 => ?_⟩
        have s11 := s10.trans (same_new (o := .tup [.int i, .int 1]) hq10)
        refine ⟨.ref q10, .tuple [.int i, .int 1], rfl, dp_of2 (SqT.of upd_same), ?_⟩
        rw [ratioD_low ⟨by decide, Nat.gcd_one_right _⟩]
        exact k _ s11
end
end Rl
set_option exponentiation.threshold 20000

namespace Ro
open PySem PySem.Spec PyProof.Rows L2 Dz Ra Mt Kx Ky Re Rb Rc Rd Rf Rm Rh Rj
open Kq (HandAt But spTake)
def WrongR (K : PySem.W.Frag) (H : Hp) (vs : List V) : Prop := ∃ x d, vs = [x] ∧ Dp K H x d ∧ SeqAt.shaped d = true ∧ PyData.eqv d d = true ∧ ∀ p, d = .int p → ¬ Off p
section
variable {P : Program} {w : World} {K : PySem.W.Frag} {mg : Str → Option Value} {base : Heap} {f gP cR cD cF cN C fI : Addr} {fd fdI : FuncData}
theorem sc__law_refused : FnScope ["_law_prime", "e"] ["_law_prime"] (defScope (top 42)) := ⟨rfl, rfl, rfl, by decide +kernel, rfl, by decide +kernel, by decide +kernel⟩
theorem ok__law_refused (F : FnP K "_law_refused" (top 42) [] f fd) (tx : Bn mg) (es : Es P w K mg base gP cR cD cF cN) (MI : Mk K C fI) (GI : FnOk P w K mg base (L2.CX P w) 3 fI fdI ["self", "prime"] (spInit K C cF)) (mC : mg "Figures" = some (.ref C)) (bI : L2.Binds K fdI ["self", "prime"] []) : FnOk P w K mg base CX0 5 f fd ["_law_prime"] (spT2 K (WrongR K)) := by
  refine F.ok sc__law_refused (fun vs H Q E h => ?_) (fun cdv A outer s H vs Q E hr h => ?_)
  · obtain ⟨⟨x, d, rfl, _⟩, _⟩ := h; rfl
  · obtain ⟨⟨x, d, rfl, hx, sh, eq, no⟩, k⟩ := h
    have hrI : Room 4 _ := hr
    have hu := hr.units
    refine ⟨_, PSs.nox (pss_cons (ps_try_as (i := 1) (c := (.ref cF)) (Wout := fun _ _ _ _ => False) rfl rfl sc__law_refused.nd rfl rfl ⟨rfl, by decide, .inl es.eF.m⟩ takes0
        (fun W pn xe tk _ => (pss_one (ps_expr (pe_makeT MI GI hrI (by rfl) mC bI (fun σ => passAt tk σ) (pa_cons (pv 0) pa_nil)))))
        (fun a oe cls dd pn hz hf => (pss_one (ps_ret (pe_and (pe_cmpR (op_eqDK (K := K) rfl hu) (pe_xf es.eF.er.xf es.eF.no hz hf (pv 1)) (pv 0) (by rfl)) (pe_and (pe_callB (call_isS (P := gP) es.gt hz hf) (by rfl) tx.isinstance PyProof.Rows.boot_isinstance (pa_cons (pv 1) (pa_cons (pe_cls (by rfl) es.mP) pa_nil))) (pe_one (pe_not (pe_callB (call_isS (P := gP) es.gt hz hf) (by rfl) tx.isinstance PyProof.Rows.boot_isinstance (pa_cons (pv 1) (pa_cons (pe_cls (by rfl) es.eN.m) pa_nil)))))))))))
      (pss_one (ps_ret pe_bl))), ?_⟩
    refine ⟨_, rfl, fun a dx ha hdx hne => ?_⟩
    have s1 := same_new (o := .own a) hdx
    have s2 : Same H (upd (upd H dx (.own a)) a (.ins C dx [])) := same_at s1 ha
    refine ⟨a, dx, x, d, rfl, upd_same, dp_same s2 _ _ hx, fun _ d' H' s3 hd' => ?_, fun p e ho => absurd ho (no p e)⟩
    refine ⟨true, es.xF, fun _ a2 ha2 => ?_, fun z => by cases z⟩
    have s4 := s2.trans s3
    refine ⟨_, rfl, rfl, rfl, d', _, _, rfl, hd', lk1, _, rfl, _, _, dp_same s4 _ _ hx, dp_same s4 _ _ hx, sh, sh, _, rfl, ifT eq ?_⟩
    refine ⟨_, rfl, cF, .ref gP, .ref gP, _, rfl, ⟨rfl, .inr ⟨d', _, rfl, hd'⟩⟩, es.eF.er, rfl, es.kFP, _, rfl, ifT rfl ?_⟩
    refine ⟨_, rfl, cF, .ref cN, .ref cN, _, rfl, ⟨rfl, .inr ⟨d', _, rfl, hd'⟩⟩, es.eF.er, rfl, es.kFN, ?_⟩
    exact ⟨_, rfl, k _ s4⟩
end
end Ro
namespace Rp
open SlX
open PySem PySem.Spec PyProof.Rows L2
section
variable {X : Cx} {CT : CXT} {n : Nat} {C g : Addr} {sp : Sp}
def rOwnI (C : Addr) (sp : Sp) : R2 := fun x y H Q =>
  ∃ a b dx dy fs gs, x = .ref a ∧ y = .ref b ∧ H a = some (.ins C dx fs) ∧ H b = some (.ins C dy gs) ∧ sp [.ref a, .ref b] H Q L2.E0
theorem op_ownI (find : PySem.W.findIn X.K (.ref C) "__eq__" = some (some (.ref g))) (isf : PySem.W.isFn X.K (.ref g) = true)
    (F : FnR X.prog X.w X.K X.mg X.base CT n g sp) (room : Room n X.A) (out : Passes CT X L2.E0) : OpR X (compareOp .Eq) (rOwnI C sp) := by
  intro pins s σ H x y v u Q I rx ry h
  obtain ⟨a, b, dx, dy, fs, gs, ex, ey, ha, hb, q⟩ := h
  subst ex ey
  cases (show v = Value.ref a from rx)
  cases (show u = Value.ref b from ry)
  obtain ⟨mA, J0, _⟩ := ins_get I.hok ha
  obtain ⟨mB, J1, _⟩ := ins_get I.hok hb
  obtain ⟨od, J, _⟩ := J0.look
  obtain ⟨od', J', _⟩ := J1.look
  obtain ⟨m, hF⟩ := I.fr
  show wpAny (model X.prog X.w) X.A (richCompare .Eq (.ref a) (.ref b)) (EP X pins σ Q) X.xe s
  have nf : PySem.W.notFirst X.K C (.ref C) = true := by
    unfold PySem.W.notFirst
    simp
  refine PySem.W.cmp_K (op := .Eq) (tb := .ref C) room.units0 hF I.ok.mod.kin J J'.type nf find isf ?_
  have run := run_fnR (us := [.ref a, .ref b]) (vs := [.ref a, .ref b]) F room out I (.cons rfl (.cons rfl .nil)) q
  refine wpAny_mono (wpAny_call run) ?_ fun _ _ x => x
  rintro w s' ⟨z, H', I', rz, qz⟩
  exact cmpback rz ⟨z, H', I', rz, qz⟩
end
end Rp
set_option exponentiation.threshold 20000
namespace Rq
open PySem PySem.Spec PyProof.Rows L2 Dz Ra Mt Kx Ky Re Rb Rc Rd Rf Rm Rh Rj Rk Rl
open Kq (HandAt But spTake spHand)
def Row (p : Int) (H : Hp) (v : V) : Prop := (p = 0 ∧ ∃ q x y, v = .ref q ∧ H q = some (.tup [.int x, .int y]) ∧ Frac x y) ∨ (p ≠ 0 ∧ ∃ i, v = .int i ∧ 0 ≤ i ∧ i < p)
section
variable {H H' : Hp} {a : Addr} {l : List V}
theorem but_tup {t : List V} {x : Addr} (hl : H a = some (.lst l)) (b : But a H H') (h : H x = some (.tup t)) : H' x = some (.tup t) := by
  refine b x _ (fun z => ?_) h
  rw [z, hl] at h
  cases h
theorem But.updA {o : HO} : But a H (upd H a o) := fun b u hb e => by
  rw [upd_ne hb]
  exact e
theorem but_same (s : Same H H') : But a H H' := fun b o _ e => s b o e
theorem _root_.Rc.FigAt.but {C s : Addr} {p : Int} (h : FigAt C H s p) (hl : H a = some (.lst l)) (b : But a H H') : FigAt C H' s p := by
  obtain ⟨op, dx, z, o, hs, hz⟩ := h
  refine ⟨op, dx, z, o, b s _ (fun e => ?_) hs, ?_⟩
  · rw [e, hl] at hs
    cases hs
  rcases hz with ⟨e, za, oa, e1, e2, h1, h2⟩ | hz
  · exact .inl ⟨e, za, oa, e1, e2, but_tup hl b h1, but_tup hl b h2⟩
  · exact .inr hz
theorem Row.but {p : Int} {v : V} (h : Row p H v) (hl : H a = some (.lst l)) (b : But a H H') : Row p H' v := by
  rcases h with ⟨e, q, x, y, rfl, hq, hf⟩ | h
  · exact .inl ⟨e, q, x, y, rfl, but_tup hl b hq, hf⟩
  · exact .inr h
theorem Row.same {p : Int} {v : V} (s : Same H H') (h : Row p H v) : Row p H' v := by
  rcases h with ⟨e, q, x, y, rfl, hq, hf⟩ | h
  · exact .inl ⟨e, q, x, y, rfl, s _ _ hq, hf⟩
  · exact .inr h
end
theorem frac01 : Frac 0 1 := ⟨⟨by decide, by decide⟩, by decide, by decide⟩
theorem zero_row {C s : Addr} {p : Int} {H : Hp} (h : FigAt C H s p) : ∃ dx z o, H s = some (.ins C dx (flds p z o)) ∧ Row p H z := by
  obtain ⟨op, dx, z, o, hs, hz⟩ := h
  refine ⟨dx, z, o, hs, ?_⟩
  rcases hz with ⟨e, za, oa, e1, e2, h1, h2⟩ | ⟨e, e1, e2⟩
  · exact .inl ⟨e, za, 0, 1, e1, h1, frac01⟩
  · exact .inr ⟨e, 0, e1, by omega, (off_pos op e).1⟩
theorem row_num {K : PySem.W.Frag} {p : Int} {v : V} {H : Hp} (op : Off p) (h : Row p H v) : ∃ d, Dp K H v d ∧ numD p d = true := by
  rcases h with ⟨rfl, q, x, y, rfl, hq, hf⟩ | ⟨hp, i, rfl, h0, h1⟩
  · exact ⟨_, dp_of2 (SqT.of hq), by unfold numD; rw [if_pos rfl]; exact ratioD_low hf.low⟩
  · refine ⟨_, .int i, ?_⟩
    rw [num_int hp, decide_eq_true h0, decide_eq_true (show i ≤ p - 1 by omega)]
    rfl
/-- the hand at a, the figures at F, the rows at R -/
structure Wd (C a c : Addr) (cs : List Int) (F R : Addr) (p : Int) (xs : List V) (H : Hp) : Prop where
  hand : ∃ i g t, HandAt H a c cs i g t
  fig : FigAt C H F p
  rows : H R = some (.lst xs)
  row : ∀ v ∈ xs, Row p H v
  ra : R ≠ a
section
variable {C a c F R : Addr} {cs : List Int} {p : Int} {xs : List V} {H H' : Hp}
theorem Wd.same (s : Same H H') (h : Wd C a c cs F R p xs H) : Wd C a c cs F R p xs H' := by
  obtain ⟨⟨i, g, t, h1⟩, h2, h3, h4, h5⟩ := h
  exact ⟨⟨i, g, t, h1.same s⟩, h2.same s, s _ _ h3, fun v hv => (h4 v hv).same s, h5⟩
theorem Wd.but {i g t : Int} (h : Wd C a c cs F R p xs H) (b : But a H H') (n : HandAt H' a c cs i g t) : Wd C a c cs F R p xs H' := by
  obtain ⟨⟨i, g, t, h1⟩, h2, h3, h4, h5⟩ := h
  exact ⟨⟨_, _, _, n⟩, h2.but h1.l b, b _ _ h5 h3, fun v hv => (h4 v hv).but h1.l b, h5⟩
/-- one turn of the rows -/
theorem turn {D : Addr} {acc : List V} {n : Nat} {H4 : Hp} {v : V} {i g t i2 g2 t2 : Int} (da : D ≠ a) (dc : D ≠ c) (hn : n < 100) (hD : H D = some (.lst acc)) (hl : acc.length = n) (hh : HandAt H a c cs i g t) (fig : FigAt C H F p) (rs : ∀ v ∈ acc, Row p H v)
    (b : But a H H4) (h4 : HandAt H4 a c cs i2 g2 t2) (r : Row p H4 v) : ∃ acc, H4 D = some (.lst acc) ∧ acc.length < sizeLine ∧ (∃ acc2 i g t, (upd H4 D (.lst (acc ++ [v]))) D = some (.lst acc2) ∧ acc2.length = n + 1 ∧ HandAt (upd H4 D (.lst (acc ++ [v]))) a c cs i g t ∧ FigAt C (upd H4 D (.lst (acc ++ [v]))) F p ∧ ∀ v2 ∈ acc2, Row p (upd H4 D (.lst (acc ++ [v]))) v2) := by
  have e4 : H4 D = some (.lst acc) := b _ _ da hD
  have bu : But D H4 (upd H4 D (.lst (acc ++ [v]))) := But.updA
  refine ⟨acc, e4, by rw [sizeLine_eq]; omega, acc ++ [v], i2, g2, t2, upd_same, by rw [List.length_append, hl]; rfl, ?_, (fig.but hh.l b).but e4 bu, ?_⟩
  · exact ⟨bu _ _ da.symm h4.l, bu _ _ dc.symm h4.c, h4.n, h4.le, h4.p0, h4.p1, h4.g0, h4.t0, h4.t1⟩
  · intro v2 hv
    rcases List.mem_append.mp hv with hv | hv
    · exact ((rs v2 hv).but hh.l b).but e4 bu
    · cases List.mem_singleton.mp hv
      exact r.but e4 bu
end
theorem same_init {H H' : Hp} {x dx C : Addr} (hx : H x = none) (hdx : H dx = none) (k : ∀ b o, b ≠ x → (upd (upd H dx (.own x)) x (.ins C dx [])) b = some o → H' b = some o) : Same H H' := fun b o e => by
  have n1 := ne_of_none e hx
  have n2 := ne_of_none e hdx
  refine k b o n1 ?_
  rw [upd_ne n1, upd_ne n2]
  exact e
/-- the prime that the first draw picks -/
theorem pickP {r : Int} (h0 : 0 ≤ r) (h1 : r < 9) : ∃ p, atI [V.int 0, V.int 5, V.int 3, V.int 7, V.int 2, V.int 13, V.int 0, V.int 11, V.int 5] r = some (.int p) ∧ Off p := by
  have hc : r = 0 ∨ r = 1 ∨ r = 2 ∨ r = 3 ∨ r = 4 ∨ r = 5 ∨ r = 6 ∨ r = 7 ∨ r = 8 := by omega
  rcases hc with rfl | rfl | rfl | rfl | rfl | rfl | rfl | rfl | rfl <;> exact ⟨_, rfl, by unfold Rc.Off Rb.Six; omega⟩
/-- a top or a bottom -/
def Made (K : PySem.W.Frag) (H : Hp) (v : V) (d : PyData) : Prop := Dp K H v d ∧ ∀ t, d = .int t → t.natAbs < 2 ^ 64
theorem pickT {K : PySem.W.Frag} {r t m : Int} (h0 : 0 ≤ r) (h1 : r < 6) (ht : t.natAbs < 2 ^ 64) (hm : m.natAbs < 2 ^ 64) : ∃ v d, atI [V.int t, V.bl true, V.str "1", V.non, V.int 0, V.int m] r = some v ∧ (∀ H, Dp K H v d) ∧ ∀ t, d = .int t → t.natAbs < 2 ^ 64 := by
  have hc : r = 0 ∨ r = 1 ∨ r = 2 ∨ r = 3 ∨ r = 4 ∨ r = 5 := by omega
  rcases hc with rfl | rfl | rfl | rfl | rfl | rfl
  · exact ⟨_, _, rfl, fun _ => .int t, fun t2 e => by cases e; exact ht⟩
  · exact ⟨_, _, rfl, fun _ => .bl true, fun t2 e => by cases e⟩
  · exact ⟨_, _, rfl, fun _ => .str "1", fun t2 e => by cases e⟩
  · exact ⟨_, _, rfl, fun _ => .non, fun t2 e => by cases e⟩
  · exact ⟨_, _, rfl, fun _ => .int 0, fun t2 e => by cases e; decide⟩
  · exact ⟨_, _, rfl, fun _ => .int m, fun t2 e => by cases e; exact hm⟩
theorem pickB {K : PySem.W.Frag} {H : Hp} {q : Addr} {r t : Int} (h0 : 0 ≤ r) (h1 : r < 6) (ht : t.natAbs < 2 ^ 64) (hq : H q = some (.tup [.int 1, .int 1])) : ∃ v d, atI [V.int t, V.bl false, V.int 0, V.ref q, V.int (-1), V.int 12] r = some v ∧ Dp K H v d ∧ ∀ t, d = .int t → t.natAbs < 2 ^ 64 := by
  have hc : r = 0 ∨ r = 1 ∨ r = 2 ∨ r = 3 ∨ r = 4 ∨ r = 5 := by omega
  rcases hc with rfl | rfl | rfl | rfl | rfl | rfl
  · exact ⟨_, _, rfl, .int t, fun t2 e => by cases e; exact ht⟩
  · exact ⟨_, _, rfl, .bl false, fun t2 e => by cases e⟩
  · exact ⟨_, _, rfl, .int 0, fun t2 e => by cases e; decide⟩
  · exact ⟨_, _, rfl, dp_of2 (SqT.of hq), fun t2 e => by cases e⟩
  · exact ⟨_, _, rfl, .int (-1), fun t2 e => by cases e; decide⟩
  · exact ⟨_, _, rfl, .int 12, fun t2 e => by cases e; decide⟩
theorem pickW {K : PySem.W.Frag} {H : Hp} {q : Addr} {r : Int} (h0 : 0 ≤ r) (h1 : r < 14) (hq : H q = some (.tup [.int 5, .int 1])) : ∃ v d, atI [V.int 1, V.int 4, V.int 6, V.int 9, V.int 10, V.int 12, V.int 14, V.int 17, V.bl true, V.str "5", V.non, V.int (-5), V.ref q, V.int 169] r = some v ∧ Dp K H v d ∧ SeqAt.shaped d = true ∧ PyData.eqv d d = true ∧ ∀ p, d = .int p → ¬ Off p := by
  have no : ∀ i : Int, (i = 1 ∨ i = 4 ∨ i = 6 ∨ i = 9 ∨ i = 10 ∨ i = 12 ∨ i = 14 ∨ i = 17 ∨ i = -5 ∨ i = 169) → ∀ p, PyData.int i = .int p → ¬ Off p := fun i hi p e => by
    cases e
    unfold Rc.Off Rb.Six
    omega
  have hc : r = 0 ∨ r = 1 ∨ r = 2 ∨ r = 3 ∨ r = 4 ∨ r = 5 ∨ r = 6 ∨ r = 7 ∨ r = 8 ∨ r = 9 ∨ r = 10 ∨ r = 11 ∨ r = 12 ∨ r = 13 := by omega
  rcases hc with rfl | rfl | rfl | rfl | rfl | rfl | rfl | rfl | rfl | rfl | rfl | rfl | rfl | rfl
  · exact ⟨_, _, rfl, .int _, rfl, rfl, no _ (by omega)⟩
  · exact ⟨_, _, rfl, .int _, rfl, rfl, no _ (by omega)⟩
  · exact ⟨_, _, rfl, .int _, rfl, rfl, no _ (by omega)⟩
  · exact ⟨_, _, rfl, .int _, rfl, rfl, no _ (by omega)⟩
  · exact ⟨_, _, rfl, .int _, rfl, rfl, no _ (by omega)⟩
  · exact ⟨_, _, rfl, .int _, rfl, rfl, no _ (by omega)⟩
  · exact ⟨_, _, rfl, .int _, rfl, rfl, no _ (by omega)⟩
  · exact ⟨_, _, rfl, .int _, rfl, rfl, no _ (by omega)⟩
  · exact ⟨_, _, rfl, .bl _, rfl, rfl, fun p e => by cases e⟩
  · exact ⟨_, _, rfl, .str _, by decide +kernel, by decide +kernel, fun p e => by cases e⟩
  · exact ⟨_, _, rfl, .non, rfl, rfl, fun p e => by cases e⟩
  · exact ⟨_, _, rfl, .int _, rfl, rfl, no _ (by omega)⟩
  · exact ⟨_, _, rfl, dp_of2 (SqT.of hq), rfl, rfl, fun p e => by cases e⟩
  · exact ⟨_, _, rfl, .int _, rfl, rfl, no _ (by omega)⟩
theorem divi1 (i : Int) : divi i 1 = 1 := by
  unfold divi
  rw [if_neg (by decide), show (1 : Int).natAbs = 1 from rfl, Nat.gcd_one_right]
  rfl
theorem low1 (i : Int) : lowT i 1 = i ∧ lowB i 1 = 1 := by
  unfold lowT lowB
  rw [divi1]
  exact ⟨Int.fdiv_one i, by decide⟩
end Rq
set_option exponentiation.threshold 20000

namespace Rs
open PySem PySem.Spec PyProof.Rows L2 Dz Ra Mt Kx Ky Re Rb Rc Rd Rf Rm Rh Rj Rk Rl Ro Rp Rq Ri
open Kq (HandAt But spTake spHand)
theorem at0 {x : V} {xs : List V} : atI (x :: xs) 0 = some x := by
  simp [atI, ixN]
theorem ten12 : (10 : Int) ^ (12 : Int).toNat = 1000000000000 := by decide
theorem ten11 : (10 : Int) ^ (11 : Int).toNat = 100000000000 := by decide
def spLaw (K : PySem.W.Frag) : Sp := fun vs H Q _ => ∃ (s : Addr) (ns : List Int), vs = [.ref s] ∧ SqL K H s (ns.map V.int) ∧ ns.length ≤ 63 ∧ ∀ H', Q (.bl true) H'
section
variable {P : Program} {w : World} {K : PySem.W.Frag} {mg : Str → Option Value} {base : Heap} {f gP cR cD cF cN C fI fE : Addr} {fd fdI fdE : FuncData}
theorem sc_law : FnScope ["_law_script", "_law_hand_here", "_law_p", "_law_figures", "_law_rows", "_law_k", "_law_one", "_law_other", "_law_many", "_law_first", "_law_second", "_law_top_here", "_law_bottom", "_law_wrong"] ["_law_script"] (defScope (top 43)) := ⟨rfl, rfl, rfl, by decide +kernel, rfl, by decide +kernel, by decide +kernel⟩
theorem ok_law (F : FnP K "law" (top 43) [] f fd) (tx : Bn mg) (es : Es P w K mg base gP cR cD cF cN) (fg : Fg K C) (MI : Mk K C fI) (GI : FnOk P w K mg base (L2.CX P w) 3 fI fdI ["self", "prime"] (spInit K C cF)) (mC : mg "Figures" = some (.ref C)) (bI : L2.Binds K fdI ["self", "prime"] []) (ef : PySem.W.findIn K (.ref C) "__eq__" = some (some (.ref fE))) (ei : PySem.W.isFn K (.ref fE) = true) (RE : FnR P w K mg base CX0 1 fE (spEqF C)) {fH : Addr} {fdH : FuncData} (GH : FnOk P w K mg base CX0 1 fH fdH ["_law_script"] (spHand K)) (mH : mg "_law_hand" = some (.ref fH)) (kpH : PySem.W.keepIn K (.ref fH) = true) (bH : L2.Binds K fdH ["_law_script"] []) {fT : Addr} {fdT : FuncData} (GT : FnOk P w K mg base CX0 2 fT fdT ["_law_hand_here", "_law_many"] spTake) (mT : mg "_law_take" = some (.ref fT)) (kpT : PySem.W.keepIn K (.ref fT) = true) (bT : L2.Binds K fdT ["_law_hand_here", "_law_many"] []) {fS : Addr} {fdS : FuncData} (GS : FnOk P w K mg base CX0 2 fS fdS ["_law_told", "_law_due"] (spSame K)) (mS : mg "_law_same" = some (.ref fS)) (kpS : PySem.W.keepIn K (.ref fS) = true) (bS : L2.Binds K fdS ["_law_told", "_law_due"] []) {fD : Addr} {fdD : FuncData} (GD : FnOk P w K mg base CX0 5 fD fdD ["_law_hand_here", "_law_p"] spDrawn) (mD : mg "_law_drawn" = some (.ref fD)) (kpD : PySem.W.keepIn K (.ref fD) = true) (bD : L2.Binds K fdD ["_law_hand_here", "_law_p"] []) {f1 : Addr} {fd1 : FuncData} (G1 : FnOk P w K mg base CX0 3 f1 fd1 ["_law_one", "_law_other"] (spT2 K (TwoR K))) (m1 : mg "_law_ratios" = some (.ref f1)) (kp1 : PySem.W.keepIn K (.ref f1) = true) (b1 : L2.Binds K fd1 ["_law_one", "_law_other"] []) {f2 : Addr} {fd2 : FuncData} (G2 : FnOk P w K mg base CX0 4 f2 fd2 ["_law_figures", "_law_one", "_law_other"] (spT2 K (FracR K C))) (m2 : mg "_law_fractions" = some (.ref f2)) (kp2 : PySem.W.keepIn K (.ref f2) = true) (b2 : L2.Binds K fd2 ["_law_figures", "_law_one", "_law_other"] []) {f3 : Addr} {fd3 : FuncData} (G3 : FnOk P w K mg base CX0 4 f3 fd3 ["_law_figures", "_law_p", "_law_one", "_law_other"] (spT2 K (RestR C))) (m3 : mg "_law_rests" = some (.ref f3)) (kp3 : PySem.W.keepIn K (.ref f3) = true) (b3 : L2.Binds K fd3 ["_law_figures", "_law_p", "_law_one", "_law_other"] []) {f4 : Addr} {fd4 : FuncData} (G4 : FnOk P w K mg base CX0 4 f4 fd4 ["_law_hand_here"] spFrac) (m4 : mg "_law_fraction" = some (.ref f4)) (kp4 : PySem.W.keepIn K (.ref f4) = true) (b4 : L2.Binds K fd4 ["_law_hand_here"] []) {f5 : Addr} {fd5 : FuncData} (G5 : FnOk P w K mg base CX0 5 f5 fd5 ["_law_figures", "_law_p", "_law_ratio_here", "_law_many"] (spT2 K (ReadR K C))) (m5 : mg "_law_read" = some (.ref f5)) (kp5 : PySem.W.keepIn K (.ref f5) = true) (b5 : L2.Binds K fd5 ["_law_figures", "_law_p", "_law_ratio_here", "_law_many"] []) {f6 : Addr} {fd6 : FuncData} (G6 : FnOk P w K mg base CX0 4 f6 fd6 ["_law_figures", "_law_p", "_law_one", "_law_many"] (spT2 K (NumbR K C))) (m6 : mg "_law_numbers" = some (.ref f6)) (kp6 : PySem.W.keepIn K (.ref f6) = true) (b6 : L2.Binds K fd6 ["_law_figures", "_law_p", "_law_one", "_law_many"] []) {f7 : Addr} {fd7 : FuncData} (G7 : FnOk P w K mg base CX0 3 f7 fd7 ["_law_least", "_law_most", "_law_many"] (spT2 K KindR)) (m7 : mg "_law_kinds" = some (.ref f7)) (kp7 : PySem.W.keepIn K (.ref f7) = true) (b7 : L2.Binds K fd7 ["_law_least", "_law_most", "_law_many"] []) {f8 : Addr} {fd8 : FuncData} (G8 : FnOk P w K mg base CX0 3 f8 fd8 ["_law_hand_here"] (spDraw (-1000000000) 1000000000)) (m8 : mg "_law_top" = some (.ref f8)) (kp8 : PySem.W.keepIn K (.ref f8) = true) (b8 : L2.Binds K fd8 ["_law_hand_here"] []) {f9 : Addr} {fd9 : FuncData} (G9 : FnOk P w K mg base CX0 4 f9 fd9 ["_law_top_here", "_law_bottom"] (spT2 K (MadeR K))) (m9 : mg "_law_made" = some (.ref f9)) (kp9 : PySem.W.keepIn K (.ref f9) = true) (b9 : L2.Binds K fd9 ["_law_top_here", "_law_bottom"] []) {fM : Addr} {fdM : FuncData} {dsM : List Value} (GM : FnOk P w K mg base (L2.CX P w) 3 fM fdM ["top", "bottom"] (spMake K cR)) (mM : mg "make_ratio" = some (.ref fM)) (kpM : PySem.W.keepIn K (.ref fM) = true) (bM1 : L2.Binds K fdM ["top", "bottom"] dsM) (dM1 : Vals [.int 1] dsM) {fR : Addr} {fdR : FuncData} (GR : FnOk P w K mg base CX0 5 fR fdR ["_law_prime"] (spT2 K (WrongR K))) (mR : mg "_law_refused" = some (.ref fR)) (kpR : PySem.W.keepIn K (.ref fR) = true) (bR : L2.Binds K fdR ["_law_prime"] []) : FnOk P w K mg base CX0 6 f fd ["_law_script"] (spLaw K) := by
  refine F.ok sc_law (fun vs H Q E h => ?_) (fun cdv A outer s H vs Q E hr h => ?_)
  · obtain ⟨s, ns, rfl, _⟩ := h; rfl
  · obtain ⟨s, ns, rfl, hS, hlen, k⟩ := h
    have hrH : Room 1 _ := hr.mono (by decide)
    have hrT : Room 2 _ := hr.mono (by decide)
    have hrS : Room 2 _ := hr.mono (by decide)
    have hrD : Room 5 _ := hr.mono (by decide)
    have hr1 : Room 3 _ := hr.mono (by decide)
    have hr2 : Room 4 _ := hr.mono (by decide)
    have hr3 : Room 4 _ := hr.mono (by decide)
    have hr4 : Room 4 _ := hr.mono (by decide)
    have hr5 : Room 5 _ := hr.mono (by decide)
    have hr6 : Room 4 _ := hr.mono (by decide)
    have hr7 : Room 3 _ := hr.mono (by decide)
    have hr8 : Room 3 _ := hr.mono (by decide)
    have hr9 : Room 4 _ := hr.mono (by decide)
    have hrM : Room 3 _ := hr.mono (by decide)
    have hrR : Room 5 _ := hr.mono (by decide)
    have hrI : Room 4 _ := hr.mono (by decide)
    have hrE : Room 1 _ := hr.mono (by decide)
    have hu := hr.units
    refine ⟨_, PSs.nox (pss_cons (ps_set (i := 1) sc_law.nd rfl (Or.inr rfl) (pe_call GH hrH (by rfl) mH kpH bH .nil pass0 (pa_cons (pv 0) pa_nil)))
      (pss_cons (ps_set (i := 2) sc_law.nd rfl (Or.inr rfl) (pe_ix ix_tup (pe_tup (pa_cons pe_int (pa_cons pe_int (pa_cons pe_int (pa_cons pe_int (pa_cons pe_int (pa_cons pe_int (pa_cons pe_int (pa_cons pe_int (pa_cons pe_int pa_nil)))))))))) (pe_call GT hrT (by rfl) mT kpT bT .nil pass0 (pa_cons (pv 1) (pa_cons pe_int pa_nil))) (fun _ _ => rfl)))
      (pss_cons (ps_set (i := 3) sc_law.nd rfl (Or.inl rfl) (pe_make MI GI hrI (by rfl) mC bI .nil passN (pa_cons (pv 2) pa_nil)))
      (Evl.pss_cut (ps_if (PW.pt (pw_or (pt_cmpR op_ne (pe_fld (pv 3) rfl) (pv 2) (by rfl)) (pw_or (pt_not (pt_val (pe_call GS hrS (by rfl) mS kpS bS .nil pass0 (pa_cons (pe_fld (pv 3) rfl) (pa_cons (pe_ifExp (pt_cmpR op_eq (pv 2) pe_int (by rfl)) (pe_tup (pa_cons pe_int (pa_cons pe_int pa_nil))) pe_int) pa_nil))))) (pw_or1 (pt_not (pt_val (pe_call GS hrS (by rfl) mS kpS bS .nil pass0 (pa_cons (pe_fld (pv 3) rfl) (pa_cons (pe_ifExp (pt_cmpR op_eq (pv 2) pe_int (by rfl)) (pe_tup (pa_cons pe_int (pa_cons pe_int pa_nil))) pe_int) pa_nil))))))))) (pss_one (ps_ret pe_bl)) pss_nil)
      (Evl.pss_cut (ps_set (i := 4) sc_law.nd rfl (Or.inl rfl) (pe_op op_cat (pe_lc (own := [("_law_k", 5)]) (g := gName 5) (tt := tYes) rfl sc_law.nd (pi_range1 (by rfl) tx.range (pa_cons (pe_op op_add pe_int (pe_call GT hrT (by rfl) mT kpT bT .nil pass0 (pa_cons (pv 1) (pa_cons pe_int pa_nil)))) pa_nil)) (blkOk_by (own := [("_law_k", 5)]) (N := ["_law_script", "_law_hand_here", "_law_p", "_law_figures", "_law_rows", "_law_k", "_law_one", "_law_other", "_law_many", "_law_first", "_law_second", "_law_top_here", "_law_bottom", "_law_wrong"]) (sc := defScope (top 43)) (by decide +kernel)) (fun _ _ _ _ _ => pg_name (i := 5) sc_law.nd rfl (Or.inl rfl)) (fun _ _ _ _ _ => pts_nil) (fun _ _ _ _ _ => (pe_call GD hrD (by rfl) mD kpD bD .nil pass0 (pa_cons (pv 1) (pa_cons (pv 2) pa_nil))))) (pe_lst (pa_cons (pe_fld (pv 3) rfl) pa_nil))))
      (Evl.pss_cut (ps_for PassesOwn.never rfl (pi_list (pv 4)) (pg_name (i := 6) sc_law.nd rfl (Or.inl rfl)) (pss_one (ps_for PassesOwn.never rfl (pi_list (pv 4)) (pg_name (i := 7) sc_law.nd rfl (Or.inl rfl)) (pss_cons (ps_if (PW.pt (pw_and (pt_cmpR op_eq (pv 2) pe_int (by rfl)) (pw_and1 (pt_not (PW.pt (pw_and (pt_val (pe_call G1 hr1 (by rfl) m1 kp1 b1 .nil pass0 (pa_cons (pv 6) (pa_cons (pv 7) pa_nil)))) (pw_and1 (pt_val (pe_call G2 hr2 (by rfl) m2 kp2 b2 .nil pass0 (pa_cons (pv 3) (pa_cons (pv 6) (pa_cons (pv 7) pa_nil)))))))))))) (pss_one (ps_ret pe_bl)) pss_nil)
      (pss_one (ps_if (PW.pt (pw_and (pt_cmpR op_gt (pv 2) pe_int (by rfl)) (pw_and1 (pt_not (pt_val (pe_call G3 hr3 (by rfl) m3 kp3 b3 .nil pass0 (pa_cons (pv 3) (pa_cons (pv 2) (pa_cons (pv 6) (pa_cons (pv 7) pa_nil)))))))))) (pss_one (ps_ret pe_bl)) pss_nil))))))
      (Evl.pss_cut (ps_set (i := 8) sc_law.nd rfl (Or.inl rfl) (pe_ifExp (pt_cmpR op_eq (pe_call GT hrT (by rfl) mT kpT bT .nil pass0 (pa_cons (pv 1) (pa_cons pe_int pa_nil))) pe_int (by rfl)) (pe_op op_sub (pe_call GT hrT (by rfl) mT kpT bT .nil pass0 (pa_cons (pv 1) (pa_cons (pe_op op_pow pe_int pe_int) pa_nil))) (pe_op op_mul pe_int (pe_op op_pow pe_int pe_int))) (pe_op op_sub (pe_call GT hrT (by rfl) mT kpT bT .nil pass0 (pa_cons (pv 1) (pa_cons pe_int pa_nil))) pe_int)))
      (pss_cons (ps_set (i := 9) sc_law.nd rfl (Or.inl rfl) (pe_call G4 hr4 (by rfl) m4 kp4 b4 .nil pass0 (pa_cons (pv 1) pa_nil)))
      (Evl.pss_cut (ps_set (i := 10) sc_law.nd rfl (Or.inl rfl) (pe_call G4 hr4 (by rfl) m4 kp4 b4 .nil pass0 (pa_cons (pv 1) pa_nil)))
      (Evl.pss_cut (ps_if (PW.pt (pw_or (pt_not (pt_val (pe_call G1 hr1 (by rfl) m1 kp1 b1 .nil pass0 (pa_cons (pv 9) (pa_cons (pv 10) pa_nil))))) (pw_or (pt_not (pt_val (pe_call G5 hr5 (by rfl) m5 kp5 b5 .nil pass0 (pa_cons (pv 3) (pa_cons (pv 2) (pa_cons (pv 9) (pa_cons (pv 8) pa_nil))))))) (pw_or1 (pt_not (pt_val (pe_call G5 hr5 (by rfl) m5 kp5 b5 .nil pass0 (pa_cons (pv 3) (pa_cons (pv 2) (pa_cons (pv 10) (pa_cons (pe_un un_neg (pv 8)) pa_nil))))))))))) (pss_one (ps_ret pe_bl)) pss_nil)
      (Evl.pss_cut (ps_if (PW.pt (pw_or (pt_not (pt_val (pe_call G6 hr6 (by rfl) m6 kp6 b6 .nil pass0 (pa_cons (pv 3) (pa_cons (pv 2) (pa_cons (pe_ix ix_list (pv 4) pe_int (fun _ _ => rfl)) (pa_cons (pv 8) pa_nil))))))) (pw_or1 (pt_not (pt_val (pe_call G7 hr7 (by rfl) m7 kp7 b7 .nil pass0 (pa_cons (pe_op op_sub (pe_call GT hrT (by rfl) mT kpT bT .nil pass0 (pa_cons (pv 1) (pa_cons pe_int pa_nil))) pe_int) (pa_cons (pe_op op_sub (pe_call GT hrT (by rfl) mT kpT bT .nil pass0 (pa_cons (pv 1) (pa_cons pe_int pa_nil))) pe_int) (pa_cons (pv 8) pa_nil))))))))) (pss_one (ps_ret pe_bl)) pss_nil)
      (pss_cons (ps_set (i := 11) sc_law.nd rfl (Or.inl rfl) (pe_ix ix_tup (pe_tup (pa_cons (pe_call G8 hr8 (by rfl) m8 kp8 b8 .nil pass0 (pa_cons (pv 1) pa_nil)) (pa_cons pe_bl (pa_cons pe_str (pa_cons pe_non (pa_cons pe_int (pa_cons (pv 8) pa_nil))))))) (pe_call GT hrT (by rfl) mT kpT bT .nil pass0 (pa_cons (pv 1) (pa_cons pe_int pa_nil))) (fun _ _ => rfl)))
      (Evl.pss_cut (ps_set (i := 12) sc_law.nd rfl (Or.inl rfl) (pe_ix ix_tup (pe_tup (pa_cons (pe_call G8 hr8 (by rfl) m8 kp8 b8 .nil pass0 (pa_cons (pv 1) pa_nil)) (pa_cons pe_bl (pa_cons pe_int (pa_cons (pe_tup (pa_cons pe_int (pa_cons pe_int pa_nil))) (pa_cons (pe_un un_neg pe_int) (pa_cons pe_int pa_nil))))))) (pe_call GT hrT (by rfl) mT kpT bT .nil pass0 (pa_cons (pv 1) (pa_cons pe_int pa_nil))) (fun _ _ => rfl)))
      (Evl.pss_cut (ps_if (PW.pt (pw_or (pt_not (pt_val (pe_call G9 hr9 (by rfl) m9 kp9 b9 .nil pass0 (pa_cons (pv 11) (pa_cons (pv 12) pa_nil))))) (pw_or (pt_not (pt_val (pe_call G9 hr9 (by rfl) m9 kp9 b9 .nil pass0 (pa_cons (pv 8) (pa_cons (pe_un un_neg pe_int) pa_nil))))) (pw_or1 (pt_cmpR (op_neD hu) (pe_call GM hrM (by rfl) mM kpM bM1 dM1 passN (pa_cons (pv 8) pa_nil)) (pe_tup (pa_cons (pv 8) (pa_cons pe_int pa_nil))) (by rfl)))))) (pss_one (ps_ret pe_bl)) pss_nil)
      (pss_cons (ps_set (i := 13) sc_law.nd rfl (Or.inl rfl) (pe_ix ix_tup (pe_tup (pa_cons pe_int (pa_cons pe_int (pa_cons pe_int (pa_cons pe_int (pa_cons pe_int (pa_cons pe_int (pa_cons pe_int (pa_cons pe_int (pa_cons pe_bl (pa_cons pe_str (pa_cons pe_non (pa_cons (pe_un un_neg pe_int) (pa_cons (pe_tup (pa_cons pe_int (pa_cons pe_int pa_nil))) (pa_cons pe_int pa_nil))))))))))))))) (pe_call GT hrT (by rfl) mT kpT bT .nil pass0 (pa_cons (pv 1) (pa_cons pe_int pa_nil))) (fun _ _ => rfl)))
      (pss_one (ps_ret (pe_and (pe_call GR hrR (by rfl) mR kpR bR .nil pass0 (pa_cons (pv 13) pa_nil)) (pe_and (pe_cmpR (op_ownI ef ei RE hrE pass0) (pe_make MI GI hrI (by rfl) mC bI .nil passN (pa_cons (pv 2) pa_nil)) (pv 3) (by rfl)) (pe_one (pe_not (pe_cmpR (op_ownI ef ei RE hrE pass0) (pe_make MI GI hrI (by rfl) mC bI .nil passN (pa_cons (pv 2) pa_nil)) (pe_make MI GI hrI (by rfl) mC bI .nil passN (pa_cons (pe_ifExp (pt_cmpR op_ne (pv 2) pe_int (by rfl)) pe_int pe_int) pa_nil)) (by rfl))))))))))))))))))))))), ?_⟩
    refine ⟨_, rfl, s, ns, rfl, hS, hlen, fun a c cs t0 H1 s1 h1 => ?_⟩
    refine ⟨by show 9 ≤ sizeLine; decide, fun q hq => ?_⟩
    have n1 := same_new (o := .tup [.int 0, .int 5, .int 3, .int 7, .int 2, .int 13, .int 0, .int 11, .int 5]) hq
    refine ⟨_, rfl, a, c, cs, _, _, _, _, rfl, h1.same n1, by decide, by decide, fun r p1 g1 t1 H2 r0 r1 b2 h2 => ?_⟩
    have hq2 : H2 q = some (.tup [.int 0, .int 5, .int 3, .int 7, .int 2, .int 13, .int 0, .int 11, .int 5]) := but_tup (h1.same n1).l b2 upd_same
    obtain ⟨p, ep, op⟩ := pickP r0 r1
    refine ⟨q, _, r, .int p, rfl, rfl, SqT.of hq2, ep, ?_⟩
    refine ⟨_, rfl, fun F dx hF0 hdx hne => ?_⟩
    refine ⟨F, dx, .int p, .int p, rfl, upd_same, .int p, fun no => absurd op (no _ rfl), fun p' e op' H3 k3 f3 => ?_⟩
    obtain rfl := PyData.int.inj e
    have s3 : Same H2 H3 := same_init hF0 hdx k3
    have h3 := h2.same s3
    refine ⟨rfl, ?_⟩
    refine ⟨fun σ' H' => σ' = [some (.ref s), some (.ref a), some (.int p), some (.ref F), none, none, none, none, none, none, none, none, none, none] ∧ (∃ i g t, HandAt H' a c cs i g t) ∧ FigAt C H' F p, ?_, ?_⟩
    · obtain ⟨_, dx, zv, ov, hF, hz⟩ := f3
      have fig : FigAt C H3 F p := ⟨op, dx, zv, ov, hF, hz⟩
      refine ⟨_, rfl, F, C, dx, _, _, rfl, hF, fg.cl, fg.nP, fl_prime, _, rfl, rfl, _, rfl, ifF (by rw [decide_eq_true rfl]; rfl) ?_⟩
      rcases hz with ⟨rfl, za, oa, rfl, rfl, hza, hoa⟩ | ⟨hp, rfl, rfl⟩
      · refine ⟨_, rfl, F, C, dx, _, _, rfl, hF, fg.cl, fg.nZ, fl_zero, _, rfl, rfl, _, rfl, ifT (decide_eq_true rfl) ⟨by show 2 ≤ sizeLine; decide, fun u hu => ?_⟩⟩
        have m1 := same_new (o := .tup [.int 0, .int 1]) hu
        refine ⟨.ref za, .ref u, _, rfl, dp_of2 (SqT.of (m1 _ _ hza)), dp_of2 (SqT.of upd_same), .inr ⟨_, _, rfl⟩, _, rfl, ifF rfl ?_⟩
        have hF := m1 _ _ hF
        refine ⟨_, rfl, F, C, dx, _, _, rfl, hF, fg.cl, fg.nO, fl_one, _, rfl, rfl, _, rfl, ifT (decide_eq_true rfl) ⟨by show 2 ≤ sizeLine; decide, fun u2 hu2 => ?_⟩⟩
        have m2 := same_new (o := .tup [.int 1, .int 1]) hu2
        refine ⟨.ref oa, .ref u2, _, rfl, dp_of2 (SqT.of (m2 _ _ (m1 _ _ hoa))), dp_of2 (SqT.of upd_same), .inr ⟨_, _, rfl⟩, _, rfl, ifF rfl ?_⟩
        exact ⟨rfl, ⟨_, _, _, h3.same (m1.trans m2)⟩, fig.same (m1.trans m2)⟩
      · refine ⟨_, rfl, F, C, dx, _, _, rfl, hF, fg.cl, fg.nZ, fl_zero, _, rfl, rfl, _, rfl, ifF (decide_eq_false fun z => hp (V.int.inj z)) ?_⟩
        refine ⟨.int 0, .int 0, _, rfl, .int 0, .int 0, .inl ⟨_, rfl⟩, _, rfl, ifF rfl ?_⟩
        refine ⟨_, rfl, F, C, dx, _, _, rfl, hF, fg.cl, fg.nO, fl_one, _, rfl, rfl, _, rfl, ifF (decide_eq_false fun z => hp (V.int.inj z)) ?_⟩
        refine ⟨.int 1, .int 1, _, rfl, .int 1, .int 1, .inl ⟨_, rfl⟩, _, rfl, ifF rfl ?_⟩
        exact ⟨rfl, ⟨_, _, _, h3⟩, fig⟩
    clear k3 hne hF0 hdx hq2 h2 b2 r0 r1 n1 hq h1 s1
    rintro σ4 H4 ⟨rfl, ⟨i4, g4, t4, h4⟩, f4⟩
    obtain ⟨p0, p13⟩ := off_le op
    refine ⟨fun σ' H' => ∃ (R : Addr) (xs : List V), σ' = [some (.ref s), some (.ref a), some (.int p), some (.ref F), some (.ref R), none, none, none, none, none, none, none, none, none] ∧ Wd C a c cs F R p xs H' ∧ xs ≠ [], ?_, ?_⟩
    · refine ⟨_, rfl, a, c, cs, _, _, _, _, rfl, h4, by decide, by decide, fun r i5 g5 t5 H5 r0 r1 b5 h5 => ?_⟩
      have f5 := f4.but h4.l b5
      refine ⟨_, _, rfl, rfl, _, rfl, by omega, by omega, fun D hD => ?_⟩
      have da : D ≠ a := (ne_of_none h5.l hD).symm
      have dc : D ≠ c := (ne_of_none h5.c hD).symm
      have nD := same_new (o := .lst []) hD
      refine lc_range (lo := 0) (n := (2 + r).toNat) (fun n H' => ∃ acc i g t, H' D = some (.lst acc) ∧ acc.length = n ∧ HandAt H' a c cs i g t ∧ FigAt C H' F p ∧ ∀ v ∈ acc, Row p H' v) ⟨[], _, _, _, upd_same, rfl, h5.same nD, f5.same nD, fun v hv => by cases hv⟩ ?_ ?_
      · rintro n H6 hn ⟨acc, i6, g6, t6, hD6, hl, h6, f6, rs⟩
        refine ⟨rfl, ?_⟩
        refine ⟨_, rfl, _, rfl, a, c, cs, _, _, _, p, rfl, h6, p0, p13, fun hp qq x y i7 g7 t7 H7 hf hq b7 h7 => ?_, fun hp z i7 g7 t7 H7 z0 z1 b7 h7 => ?_⟩
        · exact turn da dc (by omega) hD6 hl h6 f6 rs b7 h7 (.inl ⟨hp, qq, x, y, rfl, hq, hf⟩)
        · exact turn da dc (by omega) hD6 hl h6 f6 rs b7 h7 (.inr ⟨hp, z, rfl, z0, z1⟩)
      · rintro H6 ⟨acc, i6, g6, t6, hD6, hl, h6, f6, rs⟩
        obtain ⟨dx, zv, ov, hF, rz⟩ := zero_row f6
        refine ⟨_, rfl, F, C, dx, _, _, rfl, hF, fg.cl, fg.nZ, fl_zero, by show 1 ≤ sizeLine; decide, fun Z hZ => ?_⟩
        have nZ := same_new (o := .lst [zv]) hZ
        refine ⟨D, Z, acc, [zv], rfl, rfl, nZ _ _ hD6, upd_same, by rw [hl, sizeLine_eq]; show (2 + r).toNat + 1 ≤ _; omega, fun R hR => ?_⟩
        have nR := nZ.trans (same_new (o := .lst (acc ++ [zv])) hR)
        refine ⟨R, acc ++ [zv], rfl, ⟨⟨_, _, _, h6.same nR⟩, f6.same nR, upd_same, fun v hv => ?_, fun e => ?_⟩, by simp⟩
        · rcases List.mem_append.mp hv with hv | hv
          · exact (rs v hv).same nR
          · cases List.mem_singleton.mp hv
            exact rz.same nR
        · rw [e, nZ _ _ h6.l] at hR
          cases hR
    clear h4 f4
    rintro σ5 H5 ⟨R, xs, rfl, w5, hne⟩
    refine ⟨fun σ' H' => (∃ u v, σ' = [some (.ref s), some (.ref a), some (.int p), some (.ref F), some (.ref R), none, u, v, none, none, none, none, none, none]) ∧ Wd C a c cs F R p xs H', ?_, ?_⟩
    · refine ⟨_, rfl, R, rfl, ⟨_, SqL.of w5.rows⟩, for_list (xs := xs) (fun n σ' H' => (∃ u v, σ' = [some (.ref s), some (.ref a), some (.int p), some (.ref F), some (.ref R), none, u, v, none, none, none, none, none, none]) ∧ Same H5 H') ⟨⟨none, none, rfl⟩, Same.refl _⟩ ?_ ?_ ?_⟩
      · rintro n σ' H6 hn ⟨_, s6⟩
        exact SqL.of (s6 _ _ w5.rows)
      · rintro n x σ' H6 hx ⟨⟨u, v, rfl⟩, s6⟩
        have rx := w5.row x (List.mem_of_getElem? hx)
        refine ⟨_, rfl, R, rfl, ⟨_, SqL.of (s6 _ _ w5.rows)⟩, for_list (xs := xs) (fun n σ' H' => (∃ v, σ' = [some (.ref s), some (.ref a), some (.int p), some (.ref F), some (.ref R), none, some x, v, none, none, none, none, none, none]) ∧ Same H5 H') ⟨⟨v, rfl⟩, s6⟩ ?_ ?_ ?_⟩
        · rintro m σ' H7 hm ⟨_, s7⟩
          exact SqL.of (s7 _ _ w5.rows)
        · rintro m y σ' H7 hy ⟨⟨v2, rfl⟩, s7⟩
          have ry := w5.row y (List.mem_of_getElem? hy)
          have fig := w5.fig.same s7
          refine ⟨_, rfl, rfl, _, rfl, ?_⟩
          rcases rx with ⟨hp, qx, x1, x2, rfl, hqx, fx⟩ | ⟨hp, i, rfl, i0, i1⟩
          · rcases ry with ⟨_, qy, y1, y2, rfl, hqy, fy⟩ | ⟨z, _⟩
            · subst hp
              refine ifT (decide_eq_true rfl) ?_
              refine ⟨_, rfl, _, rfl, ⟨qx, qy, _, _, _, _, rfl, SqT.of (s7 _ _ hqx), SqT.of (s7 _ _ hqy), fx, fy⟩, fun H8 s8 => ⟨_, rfl, ifT rfl ?_⟩⟩
              have s78 := s7.trans s8
              refine ⟨_, rfl, _, rfl, _, rfl, ⟨F, qx, qy, _, _, _, _, rfl, fig.same s8, SqT.of (s78 _ _ hqx), SqT.of (s78 _ _ hqy), fx, fy⟩, fun H9 s9 => ⟨_, rfl, ifF rfl ?_⟩⟩
              exact ⟨_, rfl, _, _, rfl, rfl, _, rfl, ifF (by decide) ⟨⟨_, rfl⟩, s78.trans s9⟩⟩
            · exact absurd hp z
          · rcases ry with ⟨z, _⟩ | ⟨_, j, rfl, j0, j1⟩
            · exact absurd z hp
            · refine ifF (decide_eq_false fun z => hp (V.int.inj z)) ?_
              refine ⟨_, rfl, _, _, rfl, rfl, _, rfl, ifT (decide_eq_true (show 0 < p by omega)) ?_⟩
              refine ⟨_, rfl, _, rfl, _, rfl, _, rfl, ⟨F, p, i, j, rfl, fig, hp, i0, i1, j0, j1⟩, fun H8 s8 => ⟨_, rfl, ifF rfl ?_⟩⟩
              exact ⟨⟨_, rfl⟩, s7.trans s8⟩
        · rintro σ' H7 ⟨⟨v2, rfl⟩, s7⟩
          exact ⟨⟨_, _, rfl⟩, s7⟩
      · rintro σ' H6 ⟨⟨u, v, rfl⟩, s6⟩
        exact ⟨⟨u, v, rfl⟩, w5.same s6⟩
    rintro σ6 H6 ⟨⟨u, v, rfl⟩, w6⟩
    refine ⟨fun σ' H' => (∃ i, σ' = [some (.ref s), some (.ref a), some (.int p), some (.ref F), some (.ref R), none, u, v, some (.int i), none, none, none, none, none] ∧ i.natAbs ≤ 500000000000) ∧ Wd C a c cs F R p xs H', ?_, ?_⟩
    · obtain ⟨i6, g6, t6, h6⟩ := w6.hand
      refine ⟨_, rfl, a, c, cs, _, _, _, _, rfl, h6, by decide, by decide, fun r i7 g7 t7 H7 _ _ b7 h7 => ⟨rfl, _, rfl, ?_⟩⟩
      by_cases h0 : r = 0
      · refine ifT (decide_eq_true (congrArg V.int h0)) ?_
        refine ⟨_, rfl, _, _, rfl, rfl, ⟨by decide, by decide, by decide⟩, a, c, cs, _, _, _, _, rfl, h7, by rw [ten12]; decide, by rw [ten12]; decide, fun r2 i8 g8 t8 H8 r0 r1 b8 h8 => ?_⟩
        rw [ten12] at r1
        refine ⟨_, _, rfl, rfl, ⟨by decide, by decide, by decide⟩, _, _, rfl, rfl, .inl ⟨by decide, by decide⟩, _, _, rfl, rfl, ?_⟩
        refine ⟨⟨_, rfl, ?_⟩, w6.but (But.trans b7 b8) h8⟩
        rw [ten11]
        omega
      · refine ifF (decide_eq_false fun z => h0 (V.int.inj z)) ?_
        refine ⟨_, rfl, a, c, cs, _, _, _, _, rfl, h7, by decide, by decide, fun r2 i8 g8 t8 H8 r0 r1 b8 h8 => ⟨_, _, rfl, rfl, ?_⟩⟩
        exact ⟨⟨_, rfl, by omega⟩, w6.but (But.trans b7 b8) h8⟩
    rintro σ7 H7 ⟨⟨i, rfl, ib⟩, w7⟩
    have i64 : i.natAbs < 2 ^ 64 := by omega
    obtain ⟨i7, g7, t7, h7⟩ := w7.hand
    refine ⟨_, rfl, a, c, cs, _, _, _, rfl, h7, fun q1 x1 y1 i8 g8 t8 H8 fr1 hq1 b8 h8 => ?_⟩
    have w8 := w7.but b8 h8
    refine ⟨fun σ' H' => ∃ q2 x2 y2, σ' = [some (.ref s), some (.ref a), some (.int p), some (.ref F), some (.ref R), none, u, v, some (.int i), some (.ref q1), some (.ref q2), none, none, none] ∧ H' q1 = some (.tup [.int x1, .int y1]) ∧ H' q2 = some (.tup [.int x2, .int y2]) ∧ Frac x2 y2 ∧ Wd C a c cs F R p xs H', ?_, ?_⟩
    · refine ⟨_, rfl, a, c, cs, _, _, _, rfl, h8, fun q2 x2 y2 i9 g9 t9 H9 fr2 hq2 b9 h9 => ?_⟩
      exact ⟨q2, x2, y2, rfl, but_tup h8.l b9 hq1, hq2, fr2, w8.but b9 h9⟩
    clear h7 b8 h8 hq1 w8
    rintro σ9 H9 ⟨q2, x2, y2, rfl, hq1, hq2, fr2, w9⟩
    refine ⟨fun σ' H' => σ' = [some (.ref s), some (.ref a), some (.int p), some (.ref F), some (.ref R), none, u, v, some (.int i), some (.ref q1), some (.ref q2), none, none, none] ∧ Wd C a c cs F R p xs H', ?_, ?_⟩
    · refine ⟨_, rfl, _, rfl, ⟨q1, q2, _, _, _, _, rfl, SqT.of hq1, SqT.of hq2, fr1, fr2⟩, fun H10 s10 => ⟨_, rfl, ifF rfl ?_⟩⟩
      refine ⟨_, rfl, _, rfl, _, rfl, _, rfl, ⟨F, q1, p, _, _, i, rfl, w9.fig.same s10, SqT.of (s10 _ _ hq1), fr1⟩, fun H11 s11 => ⟨_, rfl, ifF rfl ?_⟩⟩
      have s11 := s10.trans s11
      refine ⟨_, rfl, _, rfl, _, rfl, _, rfl, _, rfl, ⟨F, q2, p, _, _, -i, rfl, w9.fig.same s11, SqT.of (s11 _ _ hq2), fr2⟩, fun H12 s12 => ⟨_, rfl, ifF rfl ?_⟩⟩
      exact ⟨rfl, w9.same (s11.trans s12)⟩
    rintro σ10 H10 ⟨rfl, w10⟩
    refine ⟨fun σ' H' => σ' = [some (.ref s), some (.ref a), some (.int p), some (.ref F), some (.ref R), none, u, v, some (.int i), some (.ref q1), some (.ref q2), none, none, none] ∧ Wd C a c cs F R p xs H', ?_, ?_⟩
    · obtain ⟨x0, xr, rfl⟩ : ∃ x0 xr, xs = x0 :: xr := by
        cases xs with
        | nil => exact absurd rfl hne
        | cons x0 xr => exact ⟨x0, xr, rfl⟩
      obtain ⟨d0, dp0, num0⟩ := row_num (K := K) op (w10.row x0 (List.mem_cons_self ..))
      refine ⟨_, rfl, _, rfl, _, rfl, R, _, 0, x0, rfl, rfl, SqL.of w10.rows, at0, _, rfl, ⟨F, x0, d0, p, i, rfl, w10.fig, dp0, num0⟩, fun H11 s11 => ⟨_, rfl, ifF rfl ?_⟩⟩
      have w11 := w10.same s11
      obtain ⟨i11, g11, t11, h11⟩ := w11.hand
      refine ⟨_, rfl, a, c, cs, _, _, _, _, rfl, h11, by decide, by decide, fun r i12 g12 t12 H12 r0 r1 b12 h12 => ⟨_, _, rfl, rfl, ?_⟩⟩
      refine ⟨_, rfl, a, c, cs, _, _, _, _, rfl, h12, by decide, by decide, fun r2 i13 g13 t13 H13 r20 r21 b13 h13 => ⟨_, _, rfl, rfl, ?_⟩⟩
      refine ⟨_, rfl, ⟨_, _, i, rfl, by omega, i64⟩, fun H14 s14 => ⟨_, rfl, ifF rfl ?_⟩⟩
      exact ⟨rfl, (w11.but (But.trans b12 b13) h13).same s14⟩
    rintro σ11 H11 ⟨rfl, w11⟩
    obtain ⟨i11, g11, t11, h11⟩ := w11.hand
    refine ⟨_, rfl, a, c, cs, _, _, _, rfl, h11, fun tv i12 g12 t12 H12 tl th b12 h12 => ?_⟩
    refine ⟨_, rfl, by show 6 ≤ sizeLine; decide, fun q hq => ?_⟩
    have n12 := same_new (o := .tup [.int tv, .bl true, .str "1", .non, .int 0, .int i]) hq
    have h12n := h12.same n12
    refine ⟨_, rfl, a, c, cs, _, _, _, _, rfl, h12n, by decide, by decide, fun r i13 g13 t13 H13 r0 r1 b13 h13 => ?_⟩
    have w13 := ((w11.but b12 h12).same n12).but b13 h13
    obtain ⟨x, dx, ex, dpx, bx⟩ := pickT (K := K) r0 r1 (show tv.natAbs < 2 ^ 64 by omega) i64
    refine ⟨q, _, r, x, rfl, rfl, SqT.of (but_tup h12n.l b13 upd_same), ex, ?_⟩
    refine ⟨fun σ' H' => ∃ y dy, σ' = [some (.ref s), some (.ref a), some (.int p), some (.ref F), some (.ref R), none, u, v, some (.int i), some (.ref q1), some (.ref q2), some x, some y, none] ∧ Dp K H' y dy ∧ (∀ t, dy = .int t → t.natAbs < 2 ^ 64) ∧ Wd C a c cs F R p xs H', ?_, ?_⟩
    · refine ⟨_, rfl, a, c, cs, _, _, _, rfl, h13, fun bv i14 g14 t14 H14 bl bh b14 h14 => ?_⟩
      refine ⟨by show 2 ≤ sizeLine; decide, fun q3 hq3 => ?_⟩
      have n14 := same_new (o := .tup [.int 1, .int 1]) hq3
      refine ⟨_, rfl, by show 6 ≤ sizeLine; decide, fun q4 hq4 => ?_⟩
      have n15 := same_new (o := .tup [.int bv, .bl false, .int 0, .ref q3, .int (-1), .int 12]) hq4
      have h15 := (h14.same n14).same n15
      refine ⟨_, rfl, a, c, cs, _, _, _, _, rfl, h15, by decide, by decide, fun r2 i16 g16 t16 H16 r20 r21 b16 h16 => ?_⟩
      obtain ⟨y, dy, ey, dpy, by_⟩ := pickB (K := K) (H := H16) (q := q3) r20 r21 (show bv.natAbs < 2 ^ 64 by omega) (but_tup h15.l b16 (n15 _ _ upd_same))
      refine ⟨q4, _, r2, y, rfl, rfl, SqT.of (but_tup h15.l b16 upd_same), ey, ?_⟩
      exact ⟨y, dy, rfl, dpy, by_, (((w13.but b14 h14).same n14).same n15).but b16 h16⟩
    clear h13 b13 r0 r1 h12n n12 hq h12 b12 tl th h11 w11 w13
    rintro σ14 H14 ⟨y, dy, rfl, dpy, by_, w14⟩
    refine ⟨fun σ' H' => σ' = [some (.ref s), some (.ref a), some (.int p), some (.ref F), some (.ref R), none, u, v, some (.int i), some (.ref q1), some (.ref q2), some x, some y, none] ∧ Wd C a c cs F R p xs H', ?_, ?_⟩
    · refine ⟨_, rfl, _, rfl, ⟨x, y, dx, dy, rfl, dpx _, dpy, bx, by_⟩, fun H15 s15 => ⟨_, rfl, ifF rfl ?_⟩⟩
      refine ⟨_, rfl, _, rfl, ⟨.int i, .int (-7), .int i, .int (-7), rfl, .int i, .int _, fun t e => by cases e; exact i64, fun t e => by cases e; decide⟩, fun H16 s16 => ⟨_, rfl, ifF rfl ?_⟩⟩
      refine ⟨_, rfl, .int i, .int 1, .int i, .int 1, rfl, .int i, .int 1, fun b e => by cases e; exact sm4_of64 (by decide), fun z => (nomatch z), fun _ z => (by rcases z with z | z <;> cases z), fun t b e1 e2 hb q3 hq3 => ?_⟩
      cases e1
      cases e2
      rw [(low1 i).1, (low1 i).2]
      have n17 := same_new (o := .tup [.int i, .int 1]) hq3
      refine ⟨_, rfl, by show 2 ≤ sizeLine; decide, fun q4 hq4 => ?_⟩
      have n18 := same_new (o := .tup [.int i, .int 1]) hq4
      refine ⟨_, _, dp_of2 (SqT.of (n18 _ _ upd_same)), dp_of2 (SqT.of upd_same), rfl, rfl, _, rfl, ifF (ne2 _ _) ?_⟩
      exact ⟨rfl, w14.same (((s15.trans s16).trans n17).trans n18)⟩
    rintro σ15 H15 ⟨rfl, w15⟩
    obtain ⟨i15, g15, t15, h15⟩ := w15.hand
    refine ⟨_, rfl, by show 2 ≤ sizeLine; decide, fun q3 hq3 => ?_⟩
    have n15 := same_new (o := .tup [.int 5, .int 1]) hq3
    refine ⟨by show 14 ≤ sizeLine; decide, fun q4 hq4 => ?_⟩
    have n16 := same_new (o := .tup [.int 1, .int 4, .int 6, .int 9, .int 10, .int 12, .int 14, .int 17, .bl true, .str "5", .non, .int (-5), .ref q3, .int 169]) hq4
    have h16 := (h15.same n15).same n16
    refine ⟨_, rfl, a, c, cs, _, _, _, _, rfl, h16, by decide, by decide, fun r i17 g17 t17 H17 r0 r1 b17 h17 => ?_⟩
    have w17 := ((w15.same n15).same n16).but b17 h17
    obtain ⟨wv, wd, ew, dpw, sh, eq, no⟩ := pickW (K := K) (H := H17) (q := q3) r0 r1 (but_tup h16.l b17 (n16 _ _ upd_same))
    refine ⟨q4, _, r, wv, rfl, rfl, SqT.of (but_tup h16.l b17 upd_same), ew, ?_⟩
    refine ⟨_, rfl, ⟨wv, wd, rfl, dpw, sh, eq, no⟩, fun H18 s18 => ⟨_, rfl, ifT rfl ?_⟩⟩
    have figF := w17.fig.same s18
    refine ⟨_, rfl, fun A1 dA hA0 hA1 neA => ?_⟩
    refine ⟨A1, dA, .int p, .int p, rfl, upd_same, .int p, fun no => absurd op (no _ rfl), fun p' e op' H19 kA fA => ?_⟩
    obtain rfl := PyData.int.inj e
    have sA : Same H18 H19 := same_init hA0 hA1 kA
    refine ⟨rfl, ?_⟩
    have figF := figF.same sA
    obtain ⟨_, dxA, zvA, ovA, hA, _⟩ := id fA
    obtain ⟨_, dxF, zvF, ovF, hF, _⟩ := id figF
    refine ⟨_, rfl, A1, F, _, _, _, _, rfl, rfl, hA, hF, A1, F, p, p, rfl, fA, figF, _, rfl, ifT (decide_eq_true rfl) ?_⟩
    refine ⟨_, rfl, fun B1 dB hB0 hB1 neB => ?_⟩
    refine ⟨B1, dB, .int p, .int p, rfl, upd_same, .int p, fun no => absurd op (no _ rfl), fun p' e op' H20 kB fB => ?_⟩
    obtain rfl := PyData.int.inj e
    have sB : Same H19 H20 := same_init hB0 hB1 kB
    refine ⟨rfl, ?_⟩
    refine ⟨_, rfl, rfl, _, rfl, ?_⟩
    by_cases h2 : p = 2
    · refine ifF (by rw [h2]; rfl) ?_
      refine fun C1 dC hC0 hC1 neC => ?_
      refine ⟨C1, dC, .int 3, .int 3, rfl, upd_same, .int 3, fun no => absurd (show Rc.Off 3 by unfold Rc.Off Rb.Six; omega) (no _ rfl), fun p' e op' H21 kC fC => ?_⟩
      obtain rfl := PyData.int.inj e
      have sC : Same H20 H21 := same_init hC0 hC1 kC
      refine ⟨rfl, ?_⟩
      have fB := fB.same sC
      obtain ⟨_, dxB, zvB, ovB, hB, _⟩ := id fB
      obtain ⟨_, dxC, zvC, ovC, hC, _⟩ := id fC
      refine ⟨B1, C1, _, _, _, _, rfl, rfl, hB, hC, B1, C1, p, 3, rfl, fB, fC, ?_⟩
      rw [decide_eq_false (show ¬ p = 3 by omega)]
      exact ⟨_, rfl, k _⟩
    · refine ifT (by rw [decide_eq_false fun z => h2 (V.int.inj z)]; rfl) ?_
      refine fun C1 dC hC0 hC1 neC => ?_
      refine ⟨C1, dC, .int 2, .int 2, rfl, upd_same, .int 2, fun no => absurd (show Rc.Off 2 by unfold Rc.Off Rb.Six; omega) (no _ rfl), fun p' e op' H21 kC fC => ?_⟩
      obtain rfl := PyData.int.inj e
      have sC : Same H20 H21 := same_init hC0 hC1 kC
      refine ⟨rfl, ?_⟩
      have fB := fB.same sC
      obtain ⟨_, dxB, zvB, ovB, hB, _⟩ := id fB
      obtain ⟨_, dxC, zvC, ovC, hC, _⟩ := id fC
      refine ⟨B1, C1, _, _, _, _, rfl, rfl, hB, hC, B1, C1, p, 2, rfl, fB, fC, ?_⟩
      rw [decide_eq_false h2]
      exact ⟨_, rfl, k _⟩
end
end Rs
namespace Rx
open PySem PySem.Spec PyProof.Rows L2 Kx Kf

open Ra (top)
def globs : List Str := (["is_whole", "is_sequence", "common_divisor", "is_ratio", "make_ratio", "in_lowest_terms", "ratio_plus", "ratio_minus", "ratio_times", "ratio_over", "ratio_compare", "undone_rest"] : List Str) ++ (["OFFERED", "Figures", "PairError", "BadRatio", "DividedByNought", "BadFigures", "BadNumber"] : List Str)
def laws : List Str := ["_law_hand", "_law_mixed", "_law_take", "_law_gcd", "_law_ratio", "_law_top", "_law_fraction", "_law_drawn", "_law_same", "_law_whole", "_law_sign", "_law_ratios", "_law_made", "_law_rests", "_law_fractions", "_law_read", "_law_numbers", "_law_kinds", "_law_refused", "law"]
def frees : List Str := ["len", "int", "abs", "isinstance", "bool", "tuple", "list", "range", "ValueError"]
def meths : List Str := ["plus", "minus", "times", "over", "negative", "compare", "whole_number", "number_of", "is_number", "all_numbers"]
def glB (K : PySem.W.Frag) (x : Str) : Bool := (He.Fa.glo x).ok K
def frB (K : PySem.W.Frag) (x : Str) : Bool := (He.Fa.free x).ok K
def gtB (K : PySem.W.Frag) : Bool := He.eqO (PySem.W.specialIn K (.builtin "object.__class__") "__get__") (some (some (.builtin "getset_descriptor.__get__"))) && decide (PySem.W.takesIn K (.builtin "object.__class__") = some true)
def bareB (K : PySem.W.Frag) (x : Str) : Bool := PySem.W.excIn K (He.ga K x) PySem.HandSPX.veTail "ValueError.__new__"
def initB (K : PySem.W.Frag) (x f : Str) : Bool := He.eqO (PySem.W.findIn K (.ref (He.ga K x)) "__init__") (some (some (.ref (He.ma K (He.ga K x) "__init__")))) && (decide (PySem.W.typeIn K (.ref (He.ma K (He.ga K x) "__init__")) = some (.type "function")) && He.eqO (PySem.W.findIn K (.ref (He.ga K x)) f) (some none))
def exB (K : PySem.W.Frag) (x y : Str) : Bool := decide (PySem.W.exmOne K (.ref (He.ga K x)) (.ref (He.ga K y)) = some true)
def kiB (K : PySem.W.Frag) (x y : Str) (b : Bool) : Bool := decide (PySem.W.kitOne K (.ref (He.ga K x)) (.ref (He.ga K y)) = some b)
def figB (K : PySem.W.Frag) : Bool := (He.Fa.cls "Figures").ok K && ((He.Fa.noat "Figures" "prime").ok K && ((He.Fa.noat "Figures" "zero").ok K && ((He.Fa.noat "Figures" "one").ok K && (He.eqO (PySem.W.findIn K (.ref (He.ga K "Figures")) "__class__") (some (some (.builtin "object.__class__"))) &&
  (decide (PySem.W.mroIn K (He.ga K "Figures") (.type "object") = some true) && (kiB K "Figures" "Figures" true && ((He.Fa.mkr "Figures").ok K && (meths.all (fun m => (He.Fa.meth "Figures" m).ok K) && (He.Fa.meth "Figures" "__eq__").ok K))))))))
def errB (K : PySem.W.Frag) : Bool := (["BadRatio", "DividedByNought", "BadFigures", "BadNumber"] : List Str).all (fun x => erB K (He.ga K "PairError") (He.ga K x)) && ((["DividedByNought", "BadNumber"] : List Str).all (bareB K) && (initB K "BadRatio" "what" && initB K "BadFigures" "prime"))
def kitB (K : PySem.W.Frag) : Bool := exB K "DividedByNought" "DividedByNought" && (exB K "DividedByNought" "PairError" && (exB K "BadRatio" "BadRatio" && (exB K "BadNumber" "BadNumber" && (exB K "BadFigures" "BadFigures" &&
  (kiB K "DividedByNought" "BadNumber" false && (kiB K "DividedByNought" "DividedByNought" true && (kiB K "BadNumber" "DividedByNought" false && (decide (PySem.W.kitOne K (.ref (He.ga K "BadNumber")) (.type "ValueError") = some true) && (kiB K "BadFigures" "PairError" true && kiB K "BadFigures" "BadNumber" false)))))))))
def offD : List He.Dv := [.int 0, .int 2, .int 3, .int 5, .int 7, .int 11, .int 13]
def gcdB (K : PySem.W.Frag) : Bool := He.eqO (PySem.W.nsIn K mainGlobals "gcd") (some (some (.builtin "math.gcd")))
def ck (K : PySem.W.Frag) : Bool := laws.all (glB K) && (globs.all (glB K) && (frees.all (frB K) && (gtB K && (figB K && (errB K && (kitB K && (He.tupB K "OFFERED" offD && gcdB K)))))))
def fnA : List He.DefD := [⟨("is_whole", none), "is_whole", "is_whole", defArgs (top 8), defBody (top 8), defScope (top 8), [.non, .non], []⟩,
  ⟨("is_sequence", none), "is_sequence", "is_sequence", defArgs (top 9), defBody (top 9), defScope (top 9), [], []⟩,
  ⟨("common_divisor", none), "common_divisor", "common_divisor", defArgs (top 10), defBody (top 10), defScope (top 10), [], []⟩,
  ⟨("is_ratio", none), "is_ratio", "is_ratio", defArgs (top 11), defBody (top 11), defScope (top 11), [], []⟩,
  ⟨("make_ratio", none), "make_ratio", "make_ratio", defArgs (top 12), defBody (top 12), defScope (top 12), [.int 1], []⟩,
  ⟨("in_lowest_terms", none), "in_lowest_terms", "in_lowest_terms", defArgs (top 13), defBody (top 13), defScope (top 13), [], []⟩,
  ⟨("ratio_plus", none), "ratio_plus", "ratio_plus", defArgs (top 14), defBody (top 14), defScope (top 14), [], []⟩,
  ⟨("ratio_minus", none), "ratio_minus", "ratio_minus", defArgs (top 15), defBody (top 15), defScope (top 15), [], []⟩,
  ⟨("ratio_times", none), "ratio_times", "ratio_times", defArgs (top 16), defBody (top 16), defScope (top 16), [], []⟩,
  ⟨("ratio_over", none), "ratio_over", "ratio_over", defArgs (top 17), defBody (top 17), defScope (top 17), [], []⟩,
  ⟨("ratio_compare", none), "ratio_compare", "ratio_compare", defArgs (top 18), defBody (top 18), defScope (top 18), [], []⟩,
  ⟨("undone_rest", none), "undone_rest", "undone_rest", defArgs (top 21), defBody (top 21), defScope (top 21), [], []⟩,
  ⟨("_law_hand", none), "_law_hand", "_law_hand", defArgs (top 24), defBody (top 24), defScope (top 24), [], []⟩,
  ⟨("_law_mixed", none), "_law_mixed", "_law_mixed", defArgs (top 25), defBody (top 25), defScope (top 25), [], []⟩,
  ⟨("_law_take", none), "_law_take", "_law_take", defArgs (top 26), defBody (top 26), defScope (top 26), [], []⟩]
def fnB : List He.DefD := [⟨("_law_gcd", none), "_law_gcd", "_law_gcd", defArgs (top 27), defBody (top 27), defScope (top 27), [], []⟩,
  ⟨("_law_ratio", none), "_law_ratio", "_law_ratio", defArgs (top 28), defBody (top 28), defScope (top 28), [], []⟩,
  ⟨("_law_top", none), "_law_top", "_law_top", defArgs (top 29), defBody (top 29), defScope (top 29), [], []⟩,
  ⟨("_law_fraction", none), "_law_fraction", "_law_fraction", defArgs (top 30), defBody (top 30), defScope (top 30), [], []⟩,
  ⟨("_law_drawn", none), "_law_drawn", "_law_drawn", defArgs (top 31), defBody (top 31), defScope (top 31), [], []⟩,
  ⟨("_law_same", none), "_law_same", "_law_same", defArgs (top 32), defBody (top 32), defScope (top 32), [], []⟩,
  ⟨("_law_whole", none), "_law_whole", "_law_whole", defArgs (top 33), defBody (top 33), defScope (top 33), [], []⟩,
  ⟨("_law_sign", none), "_law_sign", "_law_sign", defArgs (top 34), defBody (top 34), defScope (top 34), [], []⟩,
  ⟨("_law_ratios", none), "_law_ratios", "_law_ratios", defArgs (top 35), defBody (top 35), defScope (top 35), [], []⟩,
  ⟨("_law_made", none), "_law_made", "_law_made", defArgs (top 36), defBody (top 36), defScope (top 36), [], []⟩,
  ⟨("_law_rests", none), "_law_rests", "_law_rests", defArgs (top 37), defBody (top 37), defScope (top 37), [], []⟩,
  ⟨("_law_fractions", none), "_law_fractions", "_law_fractions", defArgs (top 38), defBody (top 38), defScope (top 38), [], []⟩,
  ⟨("_law_read", none), "_law_read", "_law_read", defArgs (top 39), defBody (top 39), defScope (top 39), [], []⟩,
  ⟨("_law_numbers", none), "_law_numbers", "_law_numbers", defArgs (top 40), defBody (top 40), defScope (top 40), [], []⟩,
  ⟨("_law_kinds", none), "_law_kinds", "_law_kinds", defArgs (top 41), defBody (top 41), defScope (top 41), [], []⟩]
def fnC : List He.DefD := [⟨("_law_refused", none), "_law_refused", "_law_refused", defArgs (top 42), defBody (top 42), defScope (top 42), [], []⟩,
  ⟨("law", none), "law", "law", defArgs (top 43), defBody (top 43), defScope (top 43), [], []⟩,
  ⟨("Figures", some "__init__"), "__init__", "Figures.__init__", defArgs (inClass (top 22) 0), defBody (inClass (top 22) 0), defScope (inClass (top 22) 0), [], []⟩,
  ⟨("Figures", some "__eq__"), "__eq__", "Figures.__eq__", defArgs (inClass (top 22) 1), defBody (inClass (top 22) 1), defScope (inClass (top 22) 1), [], []⟩,
  ⟨("Figures", some "plus"), "plus", "Figures.plus", defArgs (inClass (top 22) 2), defBody (inClass (top 22) 2), defScope (inClass (top 22) 2), [], []⟩,
  ⟨("Figures", some "minus"), "minus", "Figures.minus", defArgs (inClass (top 22) 3), defBody (inClass (top 22) 3), defScope (inClass (top 22) 3), [], []⟩,
  ⟨("Figures", some "times"), "times", "Figures.times", defArgs (inClass (top 22) 4), defBody (inClass (top 22) 4), defScope (inClass (top 22) 4), [], []⟩,
  ⟨("Figures", some "over"), "over", "Figures.over", defArgs (inClass (top 22) 5), defBody (inClass (top 22) 5), defScope (inClass (top 22) 5), [], []⟩,
  ⟨("Figures", some "negative"), "negative", "Figures.negative", defArgs (inClass (top 22) 6), defBody (inClass (top 22) 6), defScope (inClass (top 22) 6), [], []⟩,
  ⟨("Figures", some "compare"), "compare", "Figures.compare", defArgs (inClass (top 22) 7), defBody (inClass (top 22) 7), defScope (inClass (top 22) 7), [], []⟩,
  ⟨("Figures", some "whole_number"), "whole_number", "Figures.whole_number", defArgs (inClass (top 22) 8), defBody (inClass (top 22) 8), defScope (inClass (top 22) 8), [], []⟩,
  ⟨("Figures", some "number_of"), "number_of", "Figures.number_of", defArgs (inClass (top 22) 9), defBody (inClass (top 22) 9), defScope (inClass (top 22) 9), [], []⟩,
  ⟨("Figures", some "is_number"), "is_number", "Figures.is_number", defArgs (inClass (top 22) 10), defBody (inClass (top 22) 10), defScope (inClass (top 22) 10), [], []⟩,
  ⟨("Figures", some "all_numbers"), "all_numbers", "Figures.all_numbers", defArgs (inClass (top 22) 11), defBody (inClass (top 22) 11), defScope (inClass (top 22) 11), [], []⟩,
  ⟨("BadRatio", some "__init__"), "__init__", "BadRatio.__init__", defArgs (inClass (top 3) 0), defBody (inClass (top 3) 0), defScope (inClass (top 3) 0), [], []⟩,
  ⟨("BadFigures", some "__init__"), "__init__", "BadFigures.__init__", defArgs (inClass (top 5) 0), defBody (inClass (top 5) 0), defScope (inClass (top 5) 0), [], []⟩]
def fn : List He.DefD := fnA ++ (fnB ++ fnC)
def loose : List Str := (["PairError", "BadRatio", "DividedByNought", "BadFigures", "BadNumber", "is_whole", "is_sequence", "common_divisor", "is_ratio", "make_ratio", "in_lowest_terms", "ratio_plus", "ratio_minus", "ratio_times", "ratio_over", "ratio_compare", "undone_rest", "Figures", "_law_hand", "_law_mixed", "_law_take", "_law_gcd", "_law_ratio", "_law_top", "_law_fraction", "_law_drawn", "_law_same", "_law_whole", "_law_sign", "_law_ratios"] : List Str) ++ (["_law_made", "_law_rests", "_law_fractions", "_law_read", "_law_numbers", "_law_kinds", "_law_refused", "OFFERED", "gcd"] : List Str)
abbrev R : PySem.W.OpenRow := PySem.W.OpenLaw.row PySem.Challenge.rw_sparedproducts_k00_whole_numbers_reckone
abbrev hk : PySem.W.Hook := hookX 6 ck fn
def ob (s : PySem.W.SharedT) : Bool × He.AlD := obX 6 ck fn (HandSHeadRun.getT s)
theorem ob_eq (s : PySem.W.SharedT) : ob s = hk.obs s.abs := obX_eq (HandSHeadRun.getT_eq s)
theorem run (w : World) : HandSHeadRun.RunEqI R (PySem.W.view R.prog [43]) hk ob 20000 loose w := by
  unfold HandSHeadRun.RunEqI
  kernel_rfl
end Rx
namespace Ry
open PySem PySem.Spec PyProof.Rows L2 Dz Ra Mt Kx Kf Ky Re Rb Rc Rd Rf Rm Rg Rh Ri Rj Rk Rl Rn Ro Rp Rq Rs Rx
open Kq (HandAt But spTake spHand ok_hand ok_take ok_mixed Tx)
theorem init1 {P : Program} {w : World} {K : PySem.W.Frag} {mg : Str → Option Value} {base : Heap} {gP C : Addr} {fd : FuncData} {x n : Str} (er : Er K gP C) (m : mg x = some (.ref C)) (c : initB K x n = true) (hC : C = He.ga K x)
    (G : FnOk P w K mg base CX0 1 (He.ma K (He.ga K x) "__init__") fd ["self", n] (spIn C 1 (fl1 n))) (b : L2.Binds K fd ["self", n] []) : Ei P w K mg base gP x n C := by
  subst hC
  obtain ⟨c1, c⟩ := He.ba c
  obtain ⟨c2, c3⟩ := He.ba c
  exact ⟨er, m, He.eqO_ok c3, _, _, He.eqO_ok c1, of_decide_eq_true c2, G, b⟩
theorem len2 {C : Addr} {fl : List V → List (Str × V)} {vs : List V} {H : Hp} {Q : VK} {E : XK} (h : spIn C 1 fl vs H Q E) : vs.length = 2 := by
  obtain ⟨a, xs, rfl, hl, _⟩ := h
  rw [List.length_cons, hl]
theorem binds_make {K : PySem.W.Frag} {f : Addr} {fd : FuncData} (F : FnP K "make_ratio" (top 12) [.int 1] f fd) : (∃ ds, Vals [.int 1] ds ∧ L2.Binds K fd ["top", "bottom"] ds) ∧ L2.Binds K fd ["top", "bottom"] [] := by
  refine ⟨F.binds1 1 0 (by simp) rfl fun T kV doc pm an cdv ct us its h1 h2 => ?_, ?_⟩
  · match us, its, h1, h2 with
    | [_], [_], _, _ => exact ⟨_, rfl, rfl⟩
  · obtain ⟨ds, r, b⟩ := F.binds1 (ps := ["top", "bottom"]) 2 1 (by simp) rfl fun T kV doc pm an cdv ct us its h1 h2 => by
      match us, its, h1, h2 with
      | [_, _], [_], _, _ => exact ⟨_, rfl, by kernel_rfl⟩
    cases r
    exact b
theorem facts {P : Program} {w : World} {K : PySem.W.Frag} {h : Heap} {mg : Str → Option Value} {f : Addr} (X : K.In h) (G : h.Ns mainGlobals mg) (hfa : mg ("law" : Str) = some (.ref f)) (k : ck K = true) (c : He.SaysD [] Rx.fn K) :
    ∃ fd : FuncData, (∀ (s : Shared) (v : Value), BindsTo s fd ⟨[v], []⟩ [("_law_script", v)]) ∧ ∀ base : Heap, K.In base → base.Ns mainGlobals mg → FnOk P w K mg base CX0 6 f fd ["_law_script"] (spLaw K) := by
  obtain ⟨k1, k⟩ := He.ba k
  obtain ⟨k2, k⟩ := He.ba k
  obtain ⟨k3, k⟩ := He.ba k
  obtain ⟨k4, k⟩ := He.ba k
  obtain ⟨k5, k⟩ := He.ba k
  obtain ⟨k6, k⟩ := He.ba k
  obtain ⟨k7, k⟩ := He.ba k
  obtain ⟨k8, k9⟩ := He.ba k
  have ml : ∀ (i : Nat) (x : Str), laws[i]? = some x → mg x = some (.ref (He.ga K x)) := fun i x e => He.glo_ok X G (List.all_eq_true.mp k1 x (List.mem_of_getElem? e))
  have mm : ∀ (i : Nat) (x : Str), globs[i]? = some x → mg x = some (.ref (He.ga K x)) := fun i x e => He.glo_ok X G (List.all_eq_true.mp k2 x (List.mem_of_getElem? e))
  have fr : ∀ (i : Nat) (x : Str), Rx.frees[i]? = some x → mg x = none := fun i x e => He.free_ok X G (List.all_eq_true.mp k3 x (List.mem_of_getElem? e))
  have mgcd : mg "gcd" = some (.builtin "math.gcd") := PySem.W.mg_of X G (He.eqO_ok k9)
  have hO : ∀ H, SqT K H (He.ga K "OFFERED") offV := fun H => He.tupB_ok k8 H
  obtain ⟨g1, g2⟩ := He.ba k4
  have gt : Gt K := ⟨He.eqO_ok g1, of_decide_eq_true g2⟩
  obtain ⟨f1, k5⟩ := He.ba k5
  obtain ⟨f2, k5⟩ := He.ba k5
  obtain ⟨f3, k5⟩ := He.ba k5
  obtain ⟨f4, k5⟩ := He.ba k5
  obtain ⟨f5, k5⟩ := He.ba k5
  obtain ⟨f6, k5⟩ := He.ba k5
  obtain ⟨f7, k5⟩ := He.ba k5
  obtain ⟨f8, k5⟩ := He.ba k5
  obtain ⟨f9, f10⟩ := He.ba k5
  have fg : Fg K (He.ga K "Figures") := ⟨He.cls_ok f1, He.noat_ok f2, He.noat_ok f3, He.noat_ok f4, He.eqO_ok f5, He.eqO_ok g1, of_decide_eq_true g2, of_decide_eq_true f6, of_decide_eq_true f7⟩
  have MI := He.mkr_ok f8
  have me : ∀ (i : Nat) (m : Str), meths[i]? = some m → Meth K (He.ga K "Figures") m (He.ma K (He.ga K "Figures") m) := fun i m e => He.meth_ok (List.all_eq_true.mp f9 m (List.mem_of_getElem? e))
  have mEq := He.meth_ok f10
  obtain ⟨e1, k6⟩ := He.ba k6
  obtain ⟨e2, k6⟩ := He.ba k6
  obtain ⟨e3, e4⟩ := He.ba k6
  have erD := erB_ok (List.all_eq_true.mp e1 "DividedByNought" (List.mem_of_getElem? (i := 1) rfl))
  have erN := erB_ok (List.all_eq_true.mp e1 "BadNumber" (List.mem_of_getElem? (i := 3) rfl))
  have erR := erB_ok (List.all_eq_true.mp e1 "BadRatio" (List.mem_of_getElem? (i := 0) rfl))
  have erF := erB_ok (List.all_eq_true.mp e1 "BadFigures" (List.mem_of_getElem? (i := 2) rfl))
  obtain ⟨x1, k7⟩ := He.ba k7
  obtain ⟨x2, k7⟩ := He.ba k7
  obtain ⟨x3, k7⟩ := He.ba k7
  obtain ⟨x4, k7⟩ := He.ba k7
  obtain ⟨x5, k7⟩ := He.ba k7
  obtain ⟨x6, k7⟩ := He.ba k7
  obtain ⟨x7, k7⟩ := He.ba k7
  obtain ⟨x8, k7⟩ := He.ba k7
  obtain ⟨x9, k7⟩ := He.ba k7
  obtain ⟨x10, x11⟩ := He.ba k7
  obtain ⟨fd_is_whole, D_is_whole⟩ := c.def_ 0 rfl
  obtain ⟨fd_is_sequence, D_is_sequence⟩ := c.def_ 1 rfl
  obtain ⟨fd_common_divisor, D_common_divisor⟩ := c.def_ 2 rfl
  obtain ⟨fd_is_ratio, D_is_ratio⟩ := c.def_ 3 rfl
  obtain ⟨fd_make_ratio, D_make_ratio⟩ := c.def_ 4 rfl
  obtain ⟨fd_in_lowest_terms, D_in_lowest_terms⟩ := c.def_ 5 rfl
  obtain ⟨fd_ratio_plus, D_ratio_plus⟩ := c.def_ 6 rfl
  obtain ⟨fd_ratio_minus, D_ratio_minus⟩ := c.def_ 7 rfl
  obtain ⟨fd_ratio_times, D_ratio_times⟩ := c.def_ 8 rfl
  obtain ⟨fd_ratio_over, D_ratio_over⟩ := c.def_ 9 rfl
  obtain ⟨fd_ratio_compare, D_ratio_compare⟩ := c.def_ 10 rfl
  obtain ⟨fd_undone_rest, D_undone_rest⟩ := c.def_ 11 rfl
  obtain ⟨fd__law_hand, D__law_hand⟩ := c.def_ 12 rfl
  obtain ⟨fd__law_mixed, D__law_mixed⟩ := c.def_ 13 rfl
  obtain ⟨fd__law_take, D__law_take⟩ := c.def_ 14 rfl
  obtain ⟨fd__law_gcd, D__law_gcd⟩ := c.def_ 15 rfl
  obtain ⟨fd__law_ratio, D__law_ratio⟩ := c.def_ 16 rfl
  obtain ⟨fd__law_top, D__law_top⟩ := c.def_ 17 rfl
  obtain ⟨fd__law_fraction, D__law_fraction⟩ := c.def_ 18 rfl
  obtain ⟨fd__law_drawn, D__law_drawn⟩ := c.def_ 19 rfl
  obtain ⟨fd__law_same, D__law_same⟩ := c.def_ 20 rfl
  obtain ⟨fd__law_whole, D__law_whole⟩ := c.def_ 21 rfl
  obtain ⟨fd__law_sign, D__law_sign⟩ := c.def_ 22 rfl
  obtain ⟨fd__law_ratios, D__law_ratios⟩ := c.def_ 23 rfl
  obtain ⟨fd__law_made, D__law_made⟩ := c.def_ 24 rfl
  obtain ⟨fd__law_rests, D__law_rests⟩ := c.def_ 25 rfl
  obtain ⟨fd__law_fractions, D__law_fractions⟩ := c.def_ 26 rfl
  obtain ⟨fd__law_read, D__law_read⟩ := c.def_ 27 rfl
  obtain ⟨fd__law_numbers, D__law_numbers⟩ := c.def_ 28 rfl
  obtain ⟨fd__law_kinds, D__law_kinds⟩ := c.def_ 29 rfl
  obtain ⟨fd__law_refused, D__law_refused⟩ := c.def_ 30 rfl
  obtain ⟨fd_law, D_law⟩ := c.def_ 31 rfl
  obtain ⟨fd_F___init__, D_F___init__⟩ := c.def_ 32 rfl
  obtain ⟨fd_F___eq__, D_F___eq__⟩ := c.def_ 33 rfl
  obtain ⟨fd_F_plus, D_F_plus⟩ := c.def_ 34 rfl
  obtain ⟨fd_F_minus, D_F_minus⟩ := c.def_ 35 rfl
  obtain ⟨fd_F_times, D_F_times⟩ := c.def_ 36 rfl
  obtain ⟨fd_F_over, D_F_over⟩ := c.def_ 37 rfl
  obtain ⟨fd_F_negative, D_F_negative⟩ := c.def_ 38 rfl
  obtain ⟨fd_F_compare, D_F_compare⟩ := c.def_ 39 rfl
  obtain ⟨fd_F_whole_number, D_F_whole_number⟩ := c.def_ 40 rfl
  obtain ⟨fd_F_number_of, D_F_number_of⟩ := c.def_ 41 rfl
  obtain ⟨fd_F_is_number, D_F_is_number⟩ := c.def_ 42 rfl
  obtain ⟨fd_F_all_numbers, D_F_all_numbers⟩ := c.def_ 43 rfl
  obtain ⟨fd_BadRatio___init__, D_BadRatio___init__⟩ := c.def_ 44 rfl
  obtain ⟨fd_BadFigures___init__, D_BadFigures___init__⟩ := c.def_ 45 rfl
  have m_is_whole := mm 0 "is_whole" rfl
  have m_is_sequence := mm 1 "is_sequence" rfl
  have m_common_divisor := mm 2 "common_divisor" rfl
  have m_is_ratio := mm 3 "is_ratio" rfl
  have m_make_ratio := mm 4 "make_ratio" rfl
  have m_in_lowest_terms := mm 5 "in_lowest_terms" rfl
  have m_ratio_plus := mm 6 "ratio_plus" rfl
  have m_ratio_minus := mm 7 "ratio_minus" rfl
  have m_ratio_times := mm 8 "ratio_times" rfl
  have m_ratio_over := mm 9 "ratio_over" rfl
  have m_ratio_compare := mm 10 "ratio_compare" rfl
  have m_undone_rest := mm 11 "undone_rest" rfl
  have m_OFFERED := mm 12 "OFFERED" rfl
  have m_Figures := mm 13 "Figures" rfl
  have m_PairError := mm 14 "PairError" rfl
  have m_BadRatio := mm 15 "BadRatio" rfl
  have m_DividedByNought := mm 16 "DividedByNought" rfl
  have m_BadFigures := mm 17 "BadFigures" rfl
  have m_BadNumber := mm 18 "BadNumber" rfl
  have m__law_hand := ml 0 "_law_hand" rfl
  have m__law_mixed := ml 1 "_law_mixed" rfl
  have m__law_take := ml 2 "_law_take" rfl
  have m__law_gcd := ml 3 "_law_gcd" rfl
  have m__law_ratio := ml 4 "_law_ratio" rfl
  have m__law_top := ml 5 "_law_top" rfl
  have m__law_fraction := ml 6 "_law_fraction" rfl
  have m__law_drawn := ml 7 "_law_drawn" rfl
  have m__law_same := ml 8 "_law_same" rfl
  have m__law_whole := ml 9 "_law_whole" rfl
  have m__law_sign := ml 10 "_law_sign" rfl
  have m__law_ratios := ml 11 "_law_ratios" rfl
  have m__law_made := ml 12 "_law_made" rfl
  have m__law_rests := ml 13 "_law_rests" rfl
  have m__law_fractions := ml 14 "_law_fractions" rfl
  have m__law_read := ml 15 "_law_read" rfl
  have m__law_numbers := ml 16 "_law_numbers" rfl
  have m__law_kinds := ml 17 "_law_kinds" rfl
  have m__law_refused := ml 18 "_law_refused" rfl
  have m_law := ml 19 "law" rfl
  have m_F_plus := me 0 "plus" rfl
  have m_F_minus := me 1 "minus" rfl
  have m_F_times := me 2 "times" rfl
  have m_F_over := me 3 "over" rfl
  have m_F_negative := me 4 "negative" rfl
  have m_F_compare := me 5 "compare" rfl
  have m_F_whole_number := me 6 "whole_number" rfl
  have m_F_number_of := me 7 "number_of" rfl
  have m_F_is_number := me 8 "is_number" rfl
  have m_F_all_numbers := me 9 "all_numbers" rfl
  have e := hfa.symm.trans m_law
  cases e
  have tx : Bn mg := ⟨fr 0 _ rfl, fr 1 _ rfl, fr 2 _ rfl, fr 3 _ rfl, fr 4 _ rfl, fr 5 _ rfl, fr 6 _ rfl, fr 7 _ rfl, fr 8 _ rfl, mgcd⟩
  have th : Tx mg (He.ga K "_law_mixed") := ⟨tx.len, tx.int, tx.abs, m__law_mixed⟩
  have eD : Eb K mg (He.ga K "PairError") "DividedByNought" (He.ga K "DividedByNought") := ⟨erD, m_DividedByNought, List.all_eq_true.mp e2 "DividedByNought" (List.mem_of_getElem? (i := 0) rfl)⟩
  have eN : Eb K mg (He.ga K "PairError") "BadNumber" (He.ga K "BadNumber") := ⟨erN, m_BadNumber, List.all_eq_true.mp e2 "BadNumber" (List.mem_of_getElem? (i := 1) rfl)⟩
  have b_is_sequence := FunD.bindsN (ps := ["thing"]) D_is_sequence (fun _ _ _ _ _ _ us hl => match us, hl with | [_], _ => rfl)
  have b_common_divisor := FunD.bindsN (ps := ["one", "other"]) D_common_divisor (fun _ _ _ _ _ _ us hl => match us, hl with | [_, _], _ => rfl)
  have b_is_ratio := FunD.bindsN (ps := ["thing"]) D_is_ratio (fun _ _ _ _ _ _ us hl => match us, hl with | [_], _ => rfl)
  have b_in_lowest_terms := FunD.bindsN (ps := ["top", "bottom"]) D_in_lowest_terms (fun _ _ _ _ _ _ us hl => match us, hl with | [_, _], _ => rfl)
  have b_ratio_plus := FunD.bindsN (ps := ["one", "other"]) D_ratio_plus (fun _ _ _ _ _ _ us hl => match us, hl with | [_, _], _ => rfl)
  have b_ratio_minus := FunD.bindsN (ps := ["one", "other"]) D_ratio_minus (fun _ _ _ _ _ _ us hl => match us, hl with | [_, _], _ => rfl)
  have b_ratio_times := FunD.bindsN (ps := ["one", "other"]) D_ratio_times (fun _ _ _ _ _ _ us hl => match us, hl with | [_, _], _ => rfl)
  have b_ratio_over := FunD.bindsN (ps := ["one", "other"]) D_ratio_over (fun _ _ _ _ _ _ us hl => match us, hl with | [_, _], _ => rfl)
  have b_ratio_compare := FunD.bindsN (ps := ["one", "other"]) D_ratio_compare (fun _ _ _ _ _ _ us hl => match us, hl with | [_, _], _ => rfl)
  have b_undone_rest := FunD.bindsN (ps := ["number", "prime"]) D_undone_rest (fun _ _ _ _ _ _ us hl => match us, hl with | [_, _], _ => rfl)
  have b__law_hand := FunD.bindsN (ps := ["_law_script"]) D__law_hand (fun _ _ _ _ _ _ us hl => match us, hl with | [_], _ => rfl)
  have b__law_mixed := FunD.bindsN (ps := ["_law_number", "_law_turn"]) D__law_mixed (fun _ _ _ _ _ _ us hl => match us, hl with | [_, _], _ => rfl)
  have b__law_take := FunD.bindsN (ps := ["_law_hand_here", "_law_many"]) D__law_take (fun _ _ _ _ _ _ us hl => match us, hl with | [_, _], _ => rfl)
  have b__law_gcd := FunD.bindsN (ps := ["_law_one", "_law_other"]) D__law_gcd (fun _ _ _ _ _ _ us hl => match us, hl with | [_, _], _ => rfl)
  have b__law_ratio := FunD.bindsN (ps := ["_law_top_here", "_law_bottom"]) D__law_ratio (fun _ _ _ _ _ _ us hl => match us, hl with | [_, _], _ => rfl)
  have b__law_top := FunD.bindsN (ps := ["_law_hand_here"]) D__law_top (fun _ _ _ _ _ _ us hl => match us, hl with | [_], _ => rfl)
  have b__law_fraction := FunD.bindsN (ps := ["_law_hand_here"]) D__law_fraction (fun _ _ _ _ _ _ us hl => match us, hl with | [_], _ => rfl)
  have b__law_drawn := FunD.bindsN (ps := ["_law_hand_here", "_law_p"]) D__law_drawn (fun _ _ _ _ _ _ us hl => match us, hl with | [_, _], _ => rfl)
  have b__law_same := FunD.bindsN (ps := ["_law_told", "_law_due"]) D__law_same (fun _ _ _ _ _ _ us hl => match us, hl with | [_, _], _ => rfl)
  have b__law_whole := FunD.bindsN (ps := ["_law_thing"]) D__law_whole (fun _ _ _ _ _ _ us hl => match us, hl with | [_], _ => rfl)
  have b__law_sign := FunD.bindsN (ps := ["_law_number"]) D__law_sign (fun _ _ _ _ _ _ us hl => match us, hl with | [_], _ => rfl)
  have b__law_ratios := FunD.bindsN (ps := ["_law_one", "_law_other"]) D__law_ratios (fun _ _ _ _ _ _ us hl => match us, hl with | [_, _], _ => rfl)
  have b__law_made := FunD.bindsN (ps := ["_law_top_here", "_law_bottom"]) D__law_made (fun _ _ _ _ _ _ us hl => match us, hl with | [_, _], _ => rfl)
  have b__law_rests := FunD.bindsN (ps := ["_law_figures", "_law_p", "_law_one", "_law_other"]) D__law_rests (fun _ _ _ _ _ _ us hl => match us, hl with | [_, _, _, _], _ => rfl)
  have b__law_fractions := FunD.bindsN (ps := ["_law_figures", "_law_one", "_law_other"]) D__law_fractions (fun _ _ _ _ _ _ us hl => match us, hl with | [_, _, _], _ => rfl)
  have b__law_read := FunD.bindsN (ps := ["_law_figures", "_law_p", "_law_ratio_here", "_law_many"]) D__law_read (fun _ _ _ _ _ _ us hl => match us, hl with | [_, _, _, _], _ => rfl)
  have b__law_numbers := FunD.bindsN (ps := ["_law_figures", "_law_p", "_law_one", "_law_many"]) D__law_numbers (fun _ _ _ _ _ _ us hl => match us, hl with | [_, _, _, _], _ => rfl)
  have b__law_kinds := FunD.bindsN (ps := ["_law_least", "_law_most", "_law_many"]) D__law_kinds (fun _ _ _ _ _ _ us hl => match us, hl with | [_, _, _], _ => rfl)
  have b__law_refused := FunD.bindsN (ps := ["_law_prime"]) D__law_refused (fun _ _ _ _ _ _ us hl => match us, hl with | [_], _ => rfl)
  have b_law := FunD.bindsN (ps := ["_law_script"]) D_law (fun _ _ _ _ _ _ us hl => match us, hl with | [_], _ => rfl)
  have b_F___init__ := FunD.bindsN (ps := ["self", "prime"]) D_F___init__ (fun _ _ _ _ _ _ us hl => match us, hl with | [_, _], _ => rfl)
  have b_F___eq__ := FunD.bindsN (ps := ["self", "other"]) D_F___eq__ (fun _ _ _ _ _ _ us hl => match us, hl with | [_, _], _ => rfl)
  have b_F_plus := FunD.bindsN (ps := ["self", "one", "other"]) D_F_plus (fun _ _ _ _ _ _ us hl => match us, hl with | [_, _, _], _ => rfl)
  have b_F_minus := FunD.bindsN (ps := ["self", "one", "other"]) D_F_minus (fun _ _ _ _ _ _ us hl => match us, hl with | [_, _, _], _ => rfl)
  have b_F_times := FunD.bindsN (ps := ["self", "one", "other"]) D_F_times (fun _ _ _ _ _ _ us hl => match us, hl with | [_, _, _], _ => rfl)
  have b_F_over := FunD.bindsN (ps := ["self", "one", "other"]) D_F_over (fun _ _ _ _ _ _ us hl => match us, hl with | [_, _, _], _ => rfl)
  have b_F_negative := FunD.bindsN (ps := ["self", "one"]) D_F_negative (fun _ _ _ _ _ _ us hl => match us, hl with | [_, _], _ => rfl)
  have b_F_compare := FunD.bindsN (ps := ["self", "one", "other"]) D_F_compare (fun _ _ _ _ _ _ us hl => match us, hl with | [_, _, _], _ => rfl)
  have b_F_whole_number := FunD.bindsN (ps := ["self", "many"]) D_F_whole_number (fun _ _ _ _ _ _ us hl => match us, hl with | [_, _], _ => rfl)
  have b_F_number_of := FunD.bindsN (ps := ["self", "ratio"]) D_F_number_of (fun _ _ _ _ _ _ us hl => match us, hl with | [_, _], _ => rfl)
  have b_F_is_number := FunD.bindsN (ps := ["self", "thing"]) D_F_is_number (fun _ _ _ _ _ _ us hl => match us, hl with | [_, _], _ => rfl)
  have b_F_all_numbers := FunD.bindsN (ps := ["self"]) D_F_all_numbers (fun _ _ _ _ _ _ us hl => match us, hl with | [_], _ => rfl)
  have b_BadRatio___init__ := FunD.bindsN (ps := ["self", "what"]) D_BadRatio___init__ (fun _ _ _ _ _ _ us hl => match us, hl with | [_, _], _ => rfl)
  have b_BadFigures___init__ := FunD.bindsN (ps := ["self", "prime"]) D_BadFigures___init__ (fun _ _ _ _ _ _ us hl => match us, hl with | [_, _], _ => rfl)
  have bW := FunD.bindsA (ps := ["_law_script"]) D_law fun _ _ _ _ _ _ us hl => match us, hl with | [_], _ => rfl
  obtain ⟨⟨ds1, dW1, bW1⟩, ⟨ds2, dW2, bW2⟩, b_is_whole⟩ := binds_whole D_is_whole
  obtain ⟨⟨dsM, dM1, bM1⟩, b_make_ratio⟩ := binds_make D_make_ratio
  refine ⟨fd_law, fun s v => bW s [v] rfl, fun base _ _ => ?_⟩
  have nBadRatio := He.eqO_ok (He.ba (He.ba e3).2).2
  have GBadRatio : FnOk P w K mg base CX0 1 (He.ma K (He.ga K "BadRatio") "__init__") fd_BadRatio___init__ ["self", "what"] (spIn (He.ga K "BadRatio") 1 (fl1 "what")) := FunD.ok D_BadRatio___init__ (N := ["self", "what"]) ⟨rfl, rfl, rfl, by decide +kernel, rfl, by decide +kernel, by decide +kernel⟩ (fun vs H Q E h => len2 h) (fun cdv A outer s H vs Q E hr h => ⟨_, PSs.nox (pss_one (ps_ost (pv 0) (pv 1))), rd1 rfl erR nBadRatio h⟩)
  have iBadRatio : Ei P w K mg base (He.ga K "PairError") "BadRatio" "what" (He.ga K "BadRatio") := init1 erR m_BadRatio e3 rfl GBadRatio b_BadRatio___init__
  have nBadFigures := He.eqO_ok (He.ba (He.ba e4).2).2
  have GBadFigures : FnOk P w K mg base CX0 1 (He.ma K (He.ga K "BadFigures") "__init__") fd_BadFigures___init__ ["self", "prime"] (spIn (He.ga K "BadFigures") 1 (fl1 "prime")) := FunD.ok D_BadFigures___init__ (N := ["self", "prime"]) ⟨rfl, rfl, rfl, by decide +kernel, rfl, by decide +kernel, by decide +kernel⟩ (fun vs H Q E h => len2 h) (fun cdv A outer s H vs Q E hr h => ⟨_, PSs.nox (pss_one (ps_ost (pv 0) (pv 1))), rd1 rfl erF nBadFigures h⟩)
  have iBadFigures : Ei P w K mg base (He.ga K "PairError") "BadFigures" "prime" (He.ga K "BadFigures") := init1 erF m_BadFigures e4 rfl GBadFigures b_BadFigures___init__
  have es : Es P w K mg base (He.ga K "PairError") (He.ga K "BadRatio") (He.ga K "DividedByNought") (He.ga K "BadFigures") (He.ga K "BadNumber") := ⟨gt, eD, eN, iBadRatio, iBadFigures, m_PairError, of_decide_eq_true x1, of_decide_eq_true x2, of_decide_eq_true x3, of_decide_eq_true x4, of_decide_eq_true x5, of_decide_eq_true x6, of_decide_eq_true x7, of_decide_eq_true x8, of_decide_eq_true x9, of_decide_eq_true x10, of_decide_eq_true x11⟩
  have G_is_whole := ok_is_whole (P := P) (w := w) (base := base) (mg := mg) D_is_whole tx
  have G_is_sequence := ok_is_sequence (P := P) (w := w) (base := base) (mg := mg) D_is_sequence tx
  have G_common_divisor := ok_common_divisor (P := P) (w := w) (base := base) (mg := mg) D_common_divisor tx
  have G_is_ratio := ok_is_ratio (P := P) (w := w) (base := base) (mg := mg) D_is_ratio tx D_is_whole m_is_whole
  have G_ratio_plus := ok_ratio_plus (P := P) (w := w) (base := base) (mg := mg) D_ratio_plus tx D_in_lowest_terms m_in_lowest_terms
  have G_ratio_minus := ok_ratio_minus (P := P) (w := w) (base := base) (mg := mg) D_ratio_minus tx D_in_lowest_terms m_in_lowest_terms
  have G_ratio_times := ok_ratio_times (P := P) (w := w) (base := base) (mg := mg) D_ratio_times tx D_in_lowest_terms m_in_lowest_terms
  have G_ratio_compare := ok_ratio_compare (P := P) (w := w) (base := base) (mg := mg) D_ratio_compare
  have G_ratio_over := ok_ratio_over (P := P) (w := w) (base := base) (mg := mg) D_ratio_over tx D_in_lowest_terms m_in_lowest_terms eD
  have G_make_ratio := ok_make_ratio (P := P) (w := w) (base := base) (mg := mg) D_make_ratio tx D_in_lowest_terms m_in_lowest_terms D_is_whole m_is_whole iBadRatio
  have G_undone_rest := ok_undone_rest (P := P) (w := w) (base := base) (mg := mg) D_undone_rest tx eD
  have G_F_plus := ok_plus (P := P) (w := w) (base := base) (mg := mg) D_F_plus fg G_ratio_plus m_ratio_plus D_ratio_plus.kp b_ratio_plus
  have G_F_minus := ok_minus (P := P) (w := w) (base := base) (mg := mg) D_F_minus fg G_ratio_minus m_ratio_minus D_ratio_minus.kp b_ratio_minus
  have G_F_times := ok_times (P := P) (w := w) (base := base) (mg := mg) D_F_times fg G_ratio_times m_ratio_times D_ratio_times.kp b_ratio_times
  have G_F_compare := ok_compare (P := P) (w := w) (base := base) (mg := mg) D_F_compare fg G_ratio_compare m_ratio_compare D_ratio_compare.kp b_ratio_compare
  have G_F_over := ok_over (P := P) (w := w) (base := base) (mg := mg) D_F_over fg G_ratio_over m_ratio_over D_ratio_over.kp b_ratio_over G_undone_rest m_undone_rest D_undone_rest.kp b_undone_rest
  have G_F_negative := ok_negative (P := P) (w := w) (base := base) (mg := mg) D_F_negative fg
  have G_F_whole_number := ok_whole_number (P := P) (w := w) (base := base) (mg := mg) D_F_whole_number fg
  have G_F_number_of := ok_number_of (P := P) (w := w) (base := base) (mg := mg) D_F_number_of fg eN m_F_over G_F_over b_F_over
  have G_F_is_number := ok_is_number (P := P) (w := w) (base := base) (mg := mg) D_F_is_number fg G_is_ratio m_is_ratio D_is_ratio.kp b_is_ratio G_is_whole m_is_whole D_is_whole.kp b_is_whole
  have G_F_all_numbers := ok_all_numbers (P := P) (w := w) (base := base) (mg := mg) D_F_all_numbers fg tx
  have G_F___eq__ := ok_eq (P := P) (w := w) (base := base) (mg := mg) D_F___eq__ fg tx m_Figures
  have G_F___init__ := ok_finit (P := P) (w := w) (base := base) (mg := mg) D_F___init__ fg G_is_whole m_is_whole D_is_whole.kp bW1 dW1 m_OFFERED hO iBadFigures
  have G__law_hand := ok_hand (P := P) (w := w) (base := base) (mg := mg) D__law_hand th
  have G__law_take := ok_take (P := P) (w := w) (base := base) (mg := mg) D__law_take D__law_mixed th
  have G__law_gcd := ok__law_gcd (P := P) (w := w) (base := base) (mg := mg) D__law_gcd tx
  have G__law_ratio := ok__law_ratio (P := P) (w := w) (base := base) (mg := mg) D__law_ratio G__law_gcd m__law_gcd D__law_gcd.kp b__law_gcd
  have G__law_top := ok__law_top (P := P) (w := w) (base := base) (mg := mg) D__law_top G__law_take m__law_take D__law_take.kp b__law_take
  have G__law_fraction := ok__law_fraction (P := P) (w := w) (base := base) (mg := mg) D__law_fraction G__law_take m__law_take D__law_take.kp b__law_take G__law_top m__law_top D__law_top.kp b__law_top G__law_ratio m__law_ratio D__law_ratio.kp b__law_ratio
  have G__law_drawn := ok__law_drawn (P := P) (w := w) (base := base) (mg := mg) D__law_drawn G__law_take m__law_take D__law_take.kp b__law_take G__law_fraction m__law_fraction D__law_fraction.kp b__law_fraction
  have G__law_whole := ok__law_whole (P := P) (w := w) (base := base) (mg := mg) D__law_whole tx
  have G__law_sign := ok__law_sign (P := P) (w := w) (base := base) (mg := mg) D__law_sign tx
  have G__law_same := ok__law_same (P := P) (w := w) (base := base) (mg := mg) D__law_same tx G__law_whole m__law_whole D__law_whole.kp b__law_whole
  have G__law_ratios := ok__law_ratios (P := P) (w := w) (base := base) (mg := mg) D__law_ratios tx es G_ratio_plus m_ratio_plus D_ratio_plus.kp b_ratio_plus G_ratio_minus m_ratio_minus D_ratio_minus.kp b_ratio_minus G_ratio_times m_ratio_times D_ratio_times.kp b_ratio_times G_ratio_compare m_ratio_compare D_ratio_compare.kp b_ratio_compare G_ratio_over m_ratio_over D_ratio_over.kp b_ratio_over G_is_ratio m_is_ratio D_is_ratio.kp b_is_ratio G__law_ratio m__law_ratio D__law_ratio.kp b__law_ratio G__law_whole m__law_whole D__law_whole.kp b__law_whole G__law_same m__law_same D__law_same.kp b__law_same G__law_sign m__law_sign D__law_sign.kp b__law_sign
  have G__law_made := ok__law_made (P := P) (w := w) (base := base) (mg := mg) D__law_made tx es G_make_ratio m_make_ratio D_make_ratio.kp b_make_ratio G__law_ratio m__law_ratio D__law_ratio.kp b__law_ratio G__law_whole m__law_whole D__law_whole.kp b__law_whole G__law_same m__law_same D__law_same.kp b__law_same
  have G__law_rests := ok__law_rests (P := P) (w := w) (base := base) (mg := mg) D__law_rests tx es fg G_F_plus m_F_plus b_F_plus G_F_minus m_F_minus b_F_minus G_F_times m_F_times b_F_times G_F_negative m_F_negative b_F_negative G_F_compare m_F_compare b_F_compare G_F_over m_F_over b_F_over G__law_whole m__law_whole D__law_whole.kp b__law_whole G__law_same m__law_same D__law_same.kp b__law_same G__law_sign m__law_sign D__law_sign.kp b__law_sign
  have G__law_fractions := ok__law_fractions (P := P) (w := w) (base := base) (mg := mg) D__law_fractions tx es fg G_F_plus m_F_plus b_F_plus G_F_minus m_F_minus b_F_minus G_F_times m_F_times b_F_times G_F_negative m_F_negative b_F_negative G_F_compare m_F_compare b_F_compare G_F_over m_F_over b_F_over G_ratio_plus m_ratio_plus D_ratio_plus.kp b_ratio_plus G_ratio_minus m_ratio_minus D_ratio_minus.kp b_ratio_minus G_ratio_times m_ratio_times D_ratio_times.kp b_ratio_times G_ratio_compare m_ratio_compare D_ratio_compare.kp b_ratio_compare G_ratio_over m_ratio_over D_ratio_over.kp b_ratio_over G__law_same m__law_same D__law_same.kp b__law_same
  have G__law_read := ok__law_read (P := P) (w := w) (base := base) (mg := mg) D__law_read tx es fg G_F_whole_number m_F_whole_number b_F_whole_number G_F_number_of m_F_number_of b_F_number_of G_F_all_numbers m_F_all_numbers b_F_all_numbers G__law_whole m__law_whole D__law_whole.kp b__law_whole G__law_same m__law_same D__law_same.kp b__law_same
  have G__law_numbers := ok__law_numbers (P := P) (w := w) (base := base) (mg := mg) D__law_numbers tx es fg G_F_is_number m_F_is_number b_F_is_number
  have G__law_kinds := ok__law_kinds (P := P) (w := w) (base := base) (mg := mg) D__law_kinds tx D_is_whole m_is_whole G_is_sequence m_is_sequence D_is_sequence.kp b_is_sequence G_common_divisor m_common_divisor D_common_divisor.kp b_common_divisor G_is_ratio m_is_ratio D_is_ratio.kp b_is_ratio G__law_whole m__law_whole D__law_whole.kp b__law_whole G__law_gcd m__law_gcd D__law_gcd.kp b__law_gcd
  have G__law_refused := ok__law_refused (P := P) (w := w) (base := base) (mg := mg) D__law_refused tx es MI G_F___init__ m_Figures b_F___init__
  have RE : FnR P w K mg base CX0 1 (He.ma K (He.ga K "Figures") "__eq__") (spEqF (He.ga K "Figures")) := (FnOk.raw G_F___eq__ b_F___eq__ .nil).imp fun vs H Q E h => by rw [List.append_nil]; exact h
  exact ok_law D_law tx es fg MI G_F___init__ m_Figures b_F___init__ mEq.at_ mEq.fn RE G__law_hand m__law_hand D__law_hand.kp b__law_hand G__law_take m__law_take D__law_take.kp b__law_take G__law_same m__law_same D__law_same.kp b__law_same G__law_drawn m__law_drawn D__law_drawn.kp b__law_drawn G__law_ratios m__law_ratios D__law_ratios.kp b__law_ratios G__law_fractions m__law_fractions D__law_fractions.kp b__law_fractions G__law_rests m__law_rests D__law_rests.kp b__law_rests G__law_fraction m__law_fraction D__law_fraction.kp b__law_fraction G__law_read m__law_read D__law_read.kp b__law_read G__law_numbers m__law_numbers D__law_numbers.kp b__law_numbers G__law_kinds m__law_kinds D__law_kinds.kp b__law_kinds G__law_top m__law_top D__law_top.kp b__law_top G__law_made m__law_made D__law_made.kp b__law_made G_make_ratio m_make_ratio D_make_ratio.kp bM1 dM1 G__law_refused m__law_refused D__law_refused.kp b__law_refused
end Ry
open PySem PySem.W PySem.Calls PyProof.Rows
set_option maxRecDepth 100000 in
set_option maxHeartbeats 0 in
theorem PySem.Challenge.cw_sparedproducts_k00_whole_numbers_reckone_holds : PySem.Challenge.rw_sparedproducts_k00_whole_numbers_reckone.Holds := by
  w_on; o_law
  refine HandSHeadRun.head_imp (r := OpenLaw.row PySem.Challenge.rw_sparedproducts_k00_whole_numbers_reckone) (q := view (OpenLaw.row PySem.Challenge.rw_sparedproducts_k00_whole_numbers_reckone).prog [43]) (H := Rx.hk) (ob := Rx.ob) (M := 20000) (loose := Rx.loose) (d := HandSHeadRun.topDef (OpenLaw.row PySem.Challenge.rw_sparedproducts_k00_whole_numbers_reckone).prog 43) (kwd := []) Rx.ob_eq
    Rx.run (by kernel_rfl) (by kernel_rfl) (by kernel_rfl) (by rfl) (by first | assumption | decide +kernel) (by decide +kernel) ⟨rfl, rfl, rfl, rfl, rfl, by decide +kernel⟩ ?hw ?hc
  case hw => w_witness2
  case hc =>
    refine L2.walk_ofE (l := PySem.Challenge.rw_sparedproducts_k00_whole_numbers_reckone) (n := 63) (k := 6) (x := "_law_script") (CX := L2.CX0) rfl (by decide) (by kernel_rfl) ⟨rfl, by decide, by decide⟩ ?F (fun _ _ _ _ z => z)
    intro w mg fa h Y G hmg0
    obtain ⟨K, KX, k, c⟩ := Y
    have hmg : mg ("law" : PySem.Str) = some (.ref fa) := by
      have e : (HandSHeadRun.topDef (OpenLaw.row PySem.Challenge.rw_sparedproducts_k00_whole_numbers_reckone).prog 43).name = ("law" : PySem.Str) := by kernel_rfl
      rw [← e]
      exact hmg0
    obtain ⟨fd, hb, hF⟩ := Ry.facts (P := (PySem.Challenge.rw_sparedproducts_k00_whole_numbers_reckone).prog) (w := w) KX G hmg k c
    exact ⟨K, fd, Rs.spLaw K, KX, hb, fun H a ns hl _ hS => ⟨a, ns, rfl, hS, hl, fun _ => rfl⟩, hF⟩
