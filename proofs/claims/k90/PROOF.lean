import PyProof.Rows.All
import Wide.All
import OpenK.AllK
import Wide.FinOn
import KE.KStateDown
import KE.KExcIs
import HandS.ForExc
import HandS.ExcInit
import HandS.ExcField
import HandS.ExcValue
import HandS.HeadHook2
import HandS.HeadEnd
import HandS.Head2
import HandS.Wide
import HandS.Evl
import PySem.Challenge.RW_sparedproducts_k90_errors_side_by_side
set_option Elab.async false
set_option linter.all false
set_option maxRecDepth 100000
set_option maxHeartbeats 0
namespace Kx
open PySem PySem.Spec PyProof.Rows L2
/-- what is asked of an error class at C, a child of the class at P -/
structure Er (K : PySem.W.Frag) (P C : Addr) : Prop where
  ox : OexC K C
  mro : ∃ cd, PySem.W.clsIn K C = some cd ∧ cd.mro = .ref C :: .ref P :: PySem.HandSPX.veTail
  ga : PySem.W.findIn K (.ref C) "__getattribute__" = some (some (.builtin "BaseException.__getattribute__"))
  gg : PySem.W.findIn K (.ref C) "__getattr__" = some none
  hd : PySem.W.hasDictIn K C = true
  ca : PySem.W.findIn K (.ref C) "__class__" = some (some (.builtin "object.__class__"))
/-- what is asked of object.__class__ -/
structure Gt (K : PySem.W.Frag) : Prop where
  hn : PySem.W.specialIn K (.builtin "object.__class__") "__get__" = some (some (.builtin "getset_descriptor.__get__"))
  ht : PySem.W.takesIn K (.builtin "object.__class__") = some true
section
variable {K : PySem.W.Frag} {P C D : Addr}
theorem Er.xf (e : Er K P C) : XfC K C := ⟨e.ga, e.gg, e.ox.exC, e.hd⟩
theorem Er.mroIn (e : Er K P C) (b : Value) : PySem.W.mroIn K C b = some ((Value.ref C :: .ref P :: PySem.HandSPX.veTail).contains b) := by
  obtain ⟨cd, h1, h2⟩ := e.mro
  unfold PySem.W.mroIn
  rw [h1, Option.bind_some, h2]
  rfl
theorem Er.kit (e : Er K P C) (g : Gt K) {x : Addr} {ox : Obj} {od : Option Obj} : PySem.W.KitX K (.ref x) (.ref C) (fun h => PySem.W.InstAt h x ox C od) :=
  PySem.W.kitx_exc (by obtain ⟨cd, h1, _⟩ := e.mro; rw [h1]; rfl) e.ga e.gg e.ox.exC e.ca g.hn g.ht (by rw [e.mroIn]; rfl)
/-- isinstance of an instance of C against the class at D -/
theorem Er.one (e : Er K P C) (d : Er K P D) (hP : D ≠ P) : PySem.W.kitOne K (.ref C) (.ref D) = some (decide (C = D)) := by
  unfold PySem.W.kitOne
  by_cases h : C = D
  · subst h
    rw [if_pos (beq_self_eq_true _), decide_eq_true rfl]
  · have hb : (Value.ref C == Value.ref D) = false := beq_eq_false_iff_ne.mpr fun z => h (Value.ref.inj z)
    rw [if_neg (by rw [hb]; exact Bool.false_ne_true), decide_eq_false h]
    unfold PySem.W.kitCls
    obtain ⟨cd, h1, _⟩ := d.mro
    have z : ((PySem.W.clsIn K D).isSome && PySem.W.typeIn K (.ref D) == some (.type "type")) = true := by rw [h1, d.ox.tyC]; rfl
    show (if ((PySem.W.clsIn K D).isSome && PySem.W.typeIn K (.ref D) == some (.type "type")) = true then PySem.W.subIn K (.ref C) (.ref D) else none) = some false
    rw [if_pos z]
    show PySem.W.mroIn K C (.ref D) = some false
    rw [e.mroIn]
    have h2 : (Value.ref D == Value.ref C) = false := beq_eq_false_iff_ne.mpr fun z => h (Value.ref.inj z).symm
    have h3 : (Value.ref D == Value.ref P) = false := beq_eq_false_iff_ne.mpr fun z => hP (Value.ref.inj z)
    rw [List.contains_cons, List.contains_cons, h2, h3]
    rfl
/-- .. against their parent -/
theorem Er.up (e : Er K P C) (hP : (PySem.W.clsIn K P).isSome = true ∧ PySem.W.typeIn K (.ref P) = some (.type "type")) (h : C ≠ P) : PySem.W.kitOne K (.ref C) (.ref P) = some true := by
  unfold PySem.W.kitOne
  have hb : (Value.ref C == Value.ref P) = false := beq_eq_false_iff_ne.mpr fun z => h (Value.ref.inj z)
  rw [if_neg (by rw [hb]; exact Bool.false_ne_true)]
  have z : ((PySem.W.clsIn K P).isSome && PySem.W.typeIn K (.ref P) == some (.type "type")) = true := by rw [hP.1, hP.2]; rfl
  show (if ((PySem.W.clsIn K P).isSome && PySem.W.typeIn K (.ref P) == some (.type "type")) = true then PySem.W.subIn K (.ref C) (.ref P) else none) = some true
  rw [if_pos z]
  show PySem.W.mroIn K C (.ref P) = some true
  rw [e.mroIn, List.contains_cons, List.contains_cons, beq_self_eq_true, Bool.true_or, Bool.or_true]
theorem Er.ve (e : Er K P C) : PySem.W.kitOne K (.ref C) (.type "ValueError") = some true := by
  unfold PySem.W.kitOne
  rw [if_neg (by rw [show (Value.ref C == Value.type "ValueError") = false from rfl]; exact Bool.false_ne_true)]
  show (if PySem.W.kitMeta "ValueError" = true then PySem.W.subIn K (.ref C) (.type "ValueError") else none) = some true
  rw [if_pos (by decide +kernel)]
  show PySem.W.mroIn K C (.type "ValueError") = some true
  rw [e.mroIn]
  rfl
end
/-- at a an exception of the class at C whose fields are fs -/
def ExAt (H : Hp) (a C : Addr) (fs : List (Str × V)) : Prop := (fs = [] ∧ H a = some (exo a C none)) ∨ ∃ d, H a = some (exo a C (some d)) ∧ H d = some (exd d fs)
theorem ExAt.same {H H' : Hp} {a C : Addr} {fs : List (Str × V)} (s : Same H H') (e : ExAt H a C fs) : ExAt H' a C fs := by
  rcases e with ⟨h, e⟩ | ⟨d, e1, e2⟩
  · exact .inl ⟨h, s _ _ e⟩
  · exact .inr ⟨d, s _ _ e1, s _ _ e2⟩
section
variable {X : Cx} {P C : Addr} {pins : List (Addr × Obj)} {σ : L2.St} {H : Hp} {s : Shared}
theorem ExAt.inst {a : Addr} {fs : List (Str × V)} (I : Inv X pins σ H s) (e : ExAt H a C fs) :
    ∃ (ox : Obj) (od : Option Obj), PySem.W.InstAt s.heap a ox C od ∧ ∀ n v, fs.lookup n = some v → ∃ (o : Obj) (u : Value), od = some o ∧ PySem.W.lookIn n o = some (some u) ∧ RelV v u := by
  rcases e with ⟨rfl, e⟩ | ⟨d, e1, e2⟩
  · obtain ⟨t1, ho⟩ := exo_at I.hok e
    exact ⟨_, none, ⟨ho, rfl, rfl, trivial⟩, fun n v h => nomatch h⟩
  · obtain ⟨t1, ho⟩ := exo_at I.hok e1
    obtain ⟨mA, hns, rel⟩ := exd_at I.hok e2
    obtain ⟨od, hod, hl⟩ := lookIn_ns hns
    refine ⟨_, some od, ⟨ho, rfl, rfl, hod⟩, fun n v h => ?_⟩
    obtain ⟨u, hu, ru⟩ := RelO.some_of (v := v) (o := mA n) (by rw [← h]; exact rel n)
    exact ⟨od, u, rfl, by rw [hl, hu], ru⟩
/-- isinstance(e, c), e such an exception -/
def rIsX (K : PySem.W.Frag) (P : Addr) : List V → Hp → VK → Prop := fun xs H Q => ∃ (a C : Addr) (fs : List (Str × V)) (c : V) (cv : Value) (b : Bool), xs = [.ref a, c] ∧ ExAt H a C fs ∧ Er K P C ∧ ClsW c cv ∧ PySem.W.kitOne K (.ref C) cv = some b ∧ Q (.bl b) H
where ClsW : V → Value → Prop
  | .ty n, u => u = .type n
  | .ref C, u => u = .ref C
  | _, _ => False
theorem call_isX (g : Gt X.K) : CallR X (.builtin "isinstance") (rIsX X.K P) := by
  intro pins s σ H xs us Q I r h
  obtain ⟨a, C, fs, c, cv, b, rfl, ea, er, hc, e, q⟩ := h
  obtain ⟨u1, u2, rfl, r1, r2⟩ := vals2 r
  cases (show u1 = Value.ref a from r1)
  have e2 : u2 = cv := by
    cases c with
    | ty n => exact (show u2 = Value.type n from r2).trans (show cv = Value.type n from hc).symm
    | ref D => exact (show u2 = Value.ref D from r2).trans (show cv = Value.ref D from hc).symm
    | _ => exact False.elim hc
  subst e2
  obtain ⟨ox, od, J, _⟩ := ea.inst I
  exact PySem.W.kia_one (er.kit g) I.kIn J e (fun z => nomatch z) fun tk => ⟨.bl b, H, I.tok tk, rfl, q⟩
/-- e.f, e such an exception -/
def tXv (K : PySem.W.Frag) (P : Addr) (f : Str) (te : TE) : TE := fun σ H Q => te σ H fun x H1 => ∃ (a C : Addr) (fs : List (Str × V)) (v : V), x = .ref a ∧ ExAt H1 a C fs ∧ Er K P C ∧ PySem.W.findIn K (.ref C) f = some none ∧ fs.lookup f = some v ∧ Q v H1
theorem pe_xv {e : Expr} {te : TE} {f : Str} {pos : Pos} (he : PE X e te) (hb : attributeBase e f X.env (eval e X.env) = eval e X.env := by rfl) : PE X (.Attribute e f pos) (tXv X.K P f te) := by
  refine ⟨fun pins s σ H Q I h => attr_of hb (thn (he.run pins s σ H _ I h) fun u s1 hh => ?_)⟩
  obtain ⟨x, H1, I1, rx, a, C, fs, v, ex, ea, er, hno, hl, q⟩ := hh
  subst ex
  cases (show u = Value.ref a from rx)
  obtain ⟨ox, od, J, hv⟩ := ea.inst I1
  obtain ⟨o, u, rfl, hu, ru⟩ := hv f v hl
  exact PySem.HandSPX.exc_get I1.kIn J er.ga er.gg er.ox.exC (PySem.W.findObj_own er.hd hno rfl hu) (handed_of ru) ⟨v, H1, I1.tok _, ru, q⟩
/-- C(), no __init__ of its own -/
theorem pe_bare {x : Str} {p pos : Pos} (q : PySem.W.excIn X.K C PySem.HandSPX.veTail "ValueError.__new__" = true) (gC : X.mg x = some (.ref C)) (kC : PySem.W.keepIn X.K (.ref C) = true) (hg : Gl X x) (hdb : (x == ("__debug__" : Str)) = false := by decide) :
    PE X (.Call (.Name x p) [] [] pos) (fun _ H Q => ∀ a, H a = none → Q (.ref a) (upd H a (exo a C none))) := by
  refine ⟨fun pins s σ H Q I h => wpAny_Call_Name_kw (ld_glob I hg gC (PySem.W.callWith_K0 I.kIn kC ?_) hdb)⟩
  show wpAny _ _ (call (.ref C) []) _ _ _
  obtain ⟨bm, N, nm, qn, bs, hdct, sn, sub, ab, col, dd, k0, k1, k2, k3, k5, mN, hC, hN, hni, T⟩ := exc_obj I.kIn q
  refine wpAny_call_exc_subT PySem.F.excBase_ValueError T hC hN hni (fun h' a hm => ?_) (Nat.zero_le _)
  have hn : H a = none := I.hok.gone hm.new
  obtain ⟨t, ht, _, _⟩ := hm.there
  exact ⟨.ref a, _, I.laidN hm.keeps hm.new hn (exo_ok ht), rfl, h a hn⟩
end
end Kx
namespace Kf
open PySem PySem.Spec PyProof.Rows L2 Kx
def erB (K : PySem.W.Frag) (P C : Addr) : Bool :=
  (match K.lookup C with
    | some ⟨.type t, _, .cls cd, sl⟩ => (match sl.toList with
      | [_, _, _, _, some (.builtin n), _] => t == "type" && (cd.mro == (Value.ref C :: .ref P :: PySem.HandSPX.veTail) && (n == "ValueError.__new__" && (!cd.hasDel && cd.hasDict)))
      | _ => false)
    | _ => false) &&
  (He.eqO (PySem.W.findIn K (.ref C) "__setattr__") (some (some (.builtin "object.__setattr__"))) &&
  (He.eqO (PySem.W.findIn K (.ref C) "__getattribute__") (some (some (.builtin "BaseException.__getattribute__"))) &&
  (He.eqO (PySem.W.findIn K (.ref C) "__getattr__") (some none) &&
  (He.eqO (PySem.W.findIn K (.ref C) "__class__") (some (some (.builtin "object.__class__"))) &&
  (decide (PySem.W.typeIn K (.ref C) = some (.type "type")) && PySem.W.keepIn K (.ref C))))))
theorem erB_ok {K : PySem.W.Frag} {P C : Addr} (h : erB K P C = true) : Er K P C := by
  obtain ⟨h1, h⟩ := He.ba h
  obtain ⟨h2, h⟩ := He.ba h
  obtain ⟨h3, h⟩ := He.ba h
  obtain ⟨h4, h⟩ := He.ba h
  obtain ⟨h5, h⟩ := He.ba h
  obtain ⟨h6, h7⟩ := He.ba h
  cases e : K.lookup C with
  | none =>
    rw [e] at h1
    cases h1
  | some o =>
    obtain ⟨oc, od, dt, sl⟩ := o
    rw [e] at h1
    cases oc with
    | type t =>
      cases dt with
      | cls cd =>
        obtain ⟨sl⟩ := sl
        match sl, h1, e with
        | [k0, k1, k2, k3, some (.builtin n), k5], h1, e =>
          obtain ⟨g1, g⟩ := He.ba (show (t == "type" && (cd.mro == (Value.ref C :: .ref P :: PySem.HandSPX.veTail) && (n == "ValueError.__new__" && (!cd.hasDel && cd.hasDict)))) = true from h1)
          obtain ⟨g2, g⟩ := He.ba g
          obtain ⟨g3, g⟩ := He.ba g
          obtain ⟨g4, g5⟩ := He.ba g
          obtain ⟨nm, bs, mro, ns, qn, hd, sn, sub, ab, col, del⟩ := cd
          have e1 : t = "type" := eq_of_beq g1
          have e2 : mro = Value.ref C :: .ref P :: PySem.HandSPX.veTail := beq_iff_eq.mp g2
          have e3 : n = "ValueError.__new__" := eq_of_beq g3
          have e4 : del = false := by
            cases del with
            | false => rfl
            | true => cases g4
          have e5 : hd = true := g5
          subst e1 e2 e3 e4 e5
          have hcl : PySem.W.clsIn K C = some { name := nm, bases := bs, mro := Value.ref C :: .ref P :: PySem.HandSPX.veTail, ns := ns, qualname := qn, hasDict := true, slotNames := sn, subclasses := sub, abstract := ab, collection := col, hasDel := false } := by
            unfold PySem.W.clsIn
            rw [e] <;> rfl
          have hsub : PySem.W.subIn K (.ref C) (.type "BaseException") = some true := by
            show PySem.W.mroIn K C (.type "BaseException") = some true
            unfold PySem.W.mroIn
            rw [hcl]
            rfl
          exact ⟨⟨⟨nm, qn, ns, bs, .ref P :: PySem.HandSPX.veTail, sn, sub, ab, col, od, k0, k1, k2, k3, k5, e, rfl⟩, He.eqO_ok h2, hsub, of_decide_eq_true h6, h7⟩, ⟨_, hcl, rfl⟩, He.eqO_ok h3, He.eqO_ok h4, by unfold PySem.W.hasDictIn; rw [hcl]; rfl, He.eqO_ok h5⟩
      | _ => cases h1
    | _ => cases dt <;> cases h1
/-- the hook: a check of the written part, and the defs -/
def hookX (n : Nat) (ck : PySem.W.Frag → Bool) (fn : List He.DefD) : PySem.W.Hook where
  α := Bool × He.AlD
  obs := fun s => (ck (He.frG s.heap.get? (He.asD s.heap.get? n)), He.obsD [] fn (He.frG s.heap.get? (He.asD s.heap.get? n)))
  val := fun _ => (true, He.valD fn)
  says := fun _ h => ∃ K : PySem.W.Frag, K.In h ∧ ck K = true ∧ He.SaysD [] fn K
  of := fun _ _ e => ⟨_, He.frG_in, (Prod.mk.inj e).1, (Prod.mk.inj e).2⟩
  keeps := fun _ _ _ ⟨K, hK, c⟩ k => ⟨K, PySem.W.Frag.In.keeps hK k, c⟩
def obX (n : Nat) (ck : PySem.W.Frag → Bool) (fn : List He.DefD) (g : Addr → Option Obj) : Bool × He.AlD := (ck (He.frG g (He.asD g n)), He.obsD [] fn (He.frG g (He.asD g n)))
theorem obX_eq {n : Nat} {ck : PySem.W.Frag → Bool} {fn : List He.DefD} {g : Addr → Option Obj} {s : Shared} (h : ∀ a, g a = s.heap.get? a) : obX n ck fn g = (hookX n ck fn).obs s := by
  have e : g = s.heap.get? := funext h
  rw [e] <;> rfl
end Kf
namespace Kg
open PySem PySem.Spec PyProof.Rows L2 Kx Kf
def top (i : Nat) : Stmt := PySem.Challenge.pw_sparedproducts_k90_errors_side_by_side.main.body.getD i (.Pass ⟨0, 0, 0, 0⟩)

def bares : List Str := ["DividedByNought", "BadNumber", "Unlike", "NotOnce", "BadSize", "BadBlock", "NotApart", "NoEnd", "BadSide", "BadSplit", "NotSuch", "NotFractions", "TooWide", "BadTimes", "BadPairs", "NotShared", "NothingDone"]
def inits : List (Str × List Str) := [("BadRatio", ["what"]), ("BadFigures", ["prime"]), ("BadTable", ["index", "what"]), ("BadLetters", ["what", "index"]), ("BadPair", ["what"]), ("BadKept", ["what", "index"]), ("BadProgram", ["index", "what"]), ("BadText", ["place"]), ("BadPoly", ["index", "what"]), ("NotSquare", ["rows", "columns"]), ("BadChange", ["what"]), ("BadPoints", ["index"]), ("BadMany", ["most"]), ("NoPoint", ["index"]), ("BadChoice", ["block", "index"]), ("BadRow", ["what", "index"]), ("BadTaps", ["index"]), ("BadPrime", ["index"]), ("NotSmall", ["what"]), ("BadProducts", ["index"]), ("BadPlaces", ["index"]), ("BadCode", ["index", "what"]), ("BadEdit", ["index", "what"]), ("BadGoal", ["index"]), ("NotRight", ["cell"])]
/-- the errors in the order of the text -/
def errs : List Str := (["BadRatio", "DividedByNought", "BadFigures", "BadNumber", "BadTable", "BadLetters", "BadPair", "BadKept", "Unlike", "BadProgram", "BadText", "NotOnce", "BadSize", "BadPoly", "NotSquare", "BadChange", "BadPoints", "BadMany", "BadBlock", "NotApart", "NoEnd"] : List Str) ++ (["NoPoint", "BadChoice", "BadSide", "BadRow", "BadTaps", "BadSplit", "NotSuch", "NotFractions", "BadPrime", "TooWide", "BadTimes", "BadPairs", "NotShared", "NotSmall", "BadProducts", "BadPlaces", "BadCode", "BadEdit", "BadGoal", "NotRight", "NothingDone"] : List Str)
def parB (K : PySem.W.Frag) : Bool := He.eqO (PySem.W.nsIn K mainGlobals "PairError") (some (some (.ref (He.ga K "PairError")))) && ((PySem.W.clsIn K (He.ga K "PairError")).isSome && (decide (PySem.W.typeIn K (.ref (He.ga K "PairError")) = some (.type "type")) && decide (PySem.W.subIn K (.ref (He.ga K "PairError")) (.type "BaseException") = some true)))
def gtB (K : PySem.W.Frag) : Bool := He.eqO (PySem.W.specialIn K (.builtin "object.__class__") "__get__") (some (some (.builtin "getset_descriptor.__get__"))) && decide (PySem.W.takesIn K (.builtin "object.__class__") = some true)
def glB (K : PySem.W.Frag) (x : Str) : Bool := He.eqO (PySem.W.nsIn K mainGlobals x) (some (some (.ref (He.ga K x))))
def frB (K : PySem.W.Frag) (x : Str) : Bool := He.eqO (PySem.W.nsIn K mainGlobals x) (some none)
def oneB (K : PySem.W.Frag) (x : Str) : Bool := glB K x && erB K (He.ga K "PairError") (He.ga K x)
def bareB (K : PySem.W.Frag) (x : Str) : Bool := PySem.W.excIn K (He.ga K x) PySem.HandSPX.veTail "ValueError.__new__"
def initB (K : PySem.W.Frag) (x : Str × List Str) : Bool := He.eqO (PySem.W.findIn K (.ref (He.ga K x.1)) "__init__") (some (some (.ref (He.ma K (He.ga K x.1) "__init__")))) && (decide (PySem.W.typeIn K (.ref (He.ma K (He.ga K x.1) "__init__")) = some (.type "function")) && x.2.all fun f => He.eqO (PySem.W.findIn K (.ref (He.ga K x.1)) f) (some none))
/-- no address twice -/
def apart : List Addr → Bool
  | [] => true
  | a :: r => (r.all fun b => !Nat.beq a b) && apart r
def frees : List Str := ["len", "int", "abs", "isinstance", "ValueError"]
def laws : List Str := ["_law_hand", "_law_mixed", "_law_take", "_law_single", "_law_bare_first", "_law_bare_last", "_law_told_first", "_law_told_last", "_law_caught", "law"]
def ck (K : PySem.W.Frag) : Bool := laws.all (glB K) && (parB K && (gtB K && (errs.all (oneB K) && (bares.all (bareB K) && (inits.all (initB K) && (apart ((("PairError" : Str) :: errs).map (He.ga K)) && frees.all (frB K)))))))
def fnI : List He.DefD := [⟨("BadRatio", some "__init__"), "__init__", "BadRatio.__init__", defArgs (inClass (top 2) 0), defBody (inClass (top 2) 0), defScope (inClass (top 2) 0), [], []⟩,
  ⟨("BadFigures", some "__init__"), "__init__", "BadFigures.__init__", defArgs (inClass (top 4) 0), defBody (inClass (top 4) 0), defScope (inClass (top 4) 0), [], []⟩,
  ⟨("BadTable", some "__init__"), "__init__", "BadTable.__init__", defArgs (inClass (top 6) 0), defBody (inClass (top 6) 0), defScope (inClass (top 6) 0), [], []⟩,
  ⟨("BadLetters", some "__init__"), "__init__", "BadLetters.__init__", defArgs (inClass (top 7) 0), defBody (inClass (top 7) 0), defScope (inClass (top 7) 0), [], []⟩,
  ⟨("BadPair", some "__init__"), "__init__", "BadPair.__init__", defArgs (inClass (top 8) 0), defBody (inClass (top 8) 0), defScope (inClass (top 8) 0), [], []⟩,
  ⟨("BadKept", some "__init__"), "__init__", "BadKept.__init__", defArgs (inClass (top 9) 0), defBody (inClass (top 9) 0), defScope (inClass (top 9) 0), [], []⟩,
  ⟨("BadProgram", some "__init__"), "__init__", "BadProgram.__init__", defArgs (inClass (top 11) 0), defBody (inClass (top 11) 0), defScope (inClass (top 11) 0), [], []⟩,
  ⟨("BadText", some "__init__"), "__init__", "BadText.__init__", defArgs (inClass (top 12) 0), defBody (inClass (top 12) 0), defScope (inClass (top 12) 0), [], []⟩,
  ⟨("BadPoly", some "__init__"), "__init__", "BadPoly.__init__", defArgs (inClass (top 15) 0), defBody (inClass (top 15) 0), defScope (inClass (top 15) 0), [], []⟩,
  ⟨("NotSquare", some "__init__"), "__init__", "NotSquare.__init__", defArgs (inClass (top 16) 0), defBody (inClass (top 16) 0), defScope (inClass (top 16) 0), [], []⟩,
  ⟨("BadChange", some "__init__"), "__init__", "BadChange.__init__", defArgs (inClass (top 17) 0), defBody (inClass (top 17) 0), defScope (inClass (top 17) 0), [], []⟩,
  ⟨("BadPoints", some "__init__"), "__init__", "BadPoints.__init__", defArgs (inClass (top 18) 0), defBody (inClass (top 18) 0), defScope (inClass (top 18) 0), [], []⟩,
  ⟨("BadMany", some "__init__"), "__init__", "BadMany.__init__", defArgs (inClass (top 19) 0), defBody (inClass (top 19) 0), defScope (inClass (top 19) 0), [], []⟩,
  ⟨("NoPoint", some "__init__"), "__init__", "NoPoint.__init__", defArgs (inClass (top 23) 0), defBody (inClass (top 23) 0), defScope (inClass (top 23) 0), [], []⟩,
  ⟨("BadChoice", some "__init__"), "__init__", "BadChoice.__init__", defArgs (inClass (top 24) 0), defBody (inClass (top 24) 0), defScope (inClass (top 24) 0), [], []⟩,
  ⟨("BadRow", some "__init__"), "__init__", "BadRow.__init__", defArgs (inClass (top 26) 0), defBody (inClass (top 26) 0), defScope (inClass (top 26) 0), [], []⟩,
  ⟨("BadTaps", some "__init__"), "__init__", "BadTaps.__init__", defArgs (inClass (top 27) 0), defBody (inClass (top 27) 0), defScope (inClass (top 27) 0), [], []⟩,
  ⟨("BadPrime", some "__init__"), "__init__", "BadPrime.__init__", defArgs (inClass (top 31) 0), defBody (inClass (top 31) 0), defScope (inClass (top 31) 0), [], []⟩,
  ⟨("NotSmall", some "__init__"), "__init__", "NotSmall.__init__", defArgs (inClass (top 36) 0), defBody (inClass (top 36) 0), defScope (inClass (top 36) 0), [], []⟩,
  ⟨("BadProducts", some "__init__"), "__init__", "BadProducts.__init__", defArgs (inClass (top 37) 0), defBody (inClass (top 37) 0), defScope (inClass (top 37) 0), [], []⟩,
  ⟨("BadPlaces", some "__init__"), "__init__", "BadPlaces.__init__", defArgs (inClass (top 38) 0), defBody (inClass (top 38) 0), defScope (inClass (top 38) 0), [], []⟩,
  ⟨("BadCode", some "__init__"), "__init__", "BadCode.__init__", defArgs (inClass (top 39) 0), defBody (inClass (top 39) 0), defScope (inClass (top 39) 0), [], []⟩,
  ⟨("BadEdit", some "__init__"), "__init__", "BadEdit.__init__", defArgs (inClass (top 40) 0), defBody (inClass (top 40) 0), defScope (inClass (top 40) 0), [], []⟩,
  ⟨("BadGoal", some "__init__"), "__init__", "BadGoal.__init__", defArgs (inClass (top 41) 0), defBody (inClass (top 41) 0), defScope (inClass (top 41) 0), [], []⟩,
  ⟨("NotRight", some "__init__"), "__init__", "NotRight.__init__", defArgs (inClass (top 42) 0), defBody (inClass (top 42) 0), defScope (inClass (top 42) 0), [], []⟩]
def fnL : List He.DefD := [⟨("_law_hand", none), "_law_hand", "_law_hand", defArgs (top 45), defBody (top 45), defScope (top 45), [], []⟩,
  ⟨("_law_mixed", none), "_law_mixed", "_law_mixed", defArgs (top 46), defBody (top 46), defScope (top 46), [], []⟩,
  ⟨("_law_take", none), "_law_take", "_law_take", defArgs (top 47), defBody (top 47), defScope (top 47), [], []⟩,
  ⟨("_law_single", none), "_law_single", "_law_single", defArgs (top 48), defBody (top 48), defScope (top 48), [], []⟩,
  ⟨("_law_bare_first", none), "_law_bare_first", "_law_bare_first", defArgs (top 49), defBody (top 49), defScope (top 49), [], []⟩,
  ⟨("_law_bare_last", none), "_law_bare_last", "_law_bare_last", defArgs (top 50), defBody (top 50), defScope (top 50), [], []⟩,
  ⟨("_law_told_first", none), "_law_told_first", "_law_told_first", defArgs (top 51), defBody (top 51), defScope (top 51), [], []⟩,
  ⟨("_law_told_last", none), "_law_told_last", "_law_told_last", defArgs (top 52), defBody (top 52), defScope (top 52), [], []⟩,
  ⟨("_law_caught", none), "_law_caught", "_law_caught", defArgs (top 53), defBody (top 53), defScope (top 53), [], []⟩,
  ⟨("law", none), "law", "law", defArgs (top 54), defBody (top 54), defScope (top 54), [], []⟩]
def fn : List He.DefD := fnL ++ fnI
def loose : List Str := (["PairError", "BadRatio", "DividedByNought", "BadFigures", "BadNumber", "BadTable", "BadLetters", "BadPair", "BadKept", "Unlike", "BadProgram", "BadText", "NotOnce", "BadSize", "BadPoly", "NotSquare", "BadChange", "BadPoints", "BadMany", "BadBlock", "NotApart", "NoEnd", "NoPoint", "BadChoice", "BadSide", "BadRow", "BadTaps", "BadSplit", "NotSuch", "NotFractions"] : List Str) ++ (["BadPrime", "TooWide", "BadTimes", "BadPairs", "NotShared", "NotSmall", "BadProducts", "BadPlaces", "BadCode", "BadEdit", "BadGoal", "NotRight", "NothingDone", "_law_hand", "_law_mixed", "_law_take", "_law_single", "_law_bare_first", "_law_bare_last", "_law_told_first", "_law_told_last", "_law_caught"] : List Str)
abbrev R : PySem.W.OpenRow := PySem.W.OpenLaw.row PySem.Challenge.rw_sparedproducts_k90_errors_side_by_side
abbrev hk : PySem.W.Hook := hookX 6 ck fn
def ob (s : PySem.W.SharedT) : Bool × He.AlD := obX 6 ck fn (HandSHeadRun.getT s)
theorem ob_eq (s : PySem.W.SharedT) : ob s = hk.obs s.abs := obX_eq (HandSHeadRun.getT_eq s)
theorem run (w : World) : HandSHeadRun.RunEq R (PySem.W.view R.prog [54]) hk ob 20000 loose w := by
  intro os
  kernel_rfl
end Kg
namespace Kq
open PySem PySem.Spec PyProof.Rows L2
def top (i : Nat) : Stmt := PySem.Challenge.pw_sparedproducts_k90_errors_side_by_side.main.body.getD i (.Pass ⟨0, 0, 0, 0⟩)
abbrev FnP (K : PySem.W.Frag) (x : Str) (st : Stmt) (f : Addr) (fd : FuncData) : Prop := FunD K x x (defArgs st) (defBody st) (defScope st) [] [] f fd
abbrev sHand : Stmt := top 45
abbrev sMixed : Stmt := top 46
abbrev sTake : Stmt := top 47
/-- a hand at a: its cells at c -/
structure HandAt (H : Hp) (a c : Addr) (cs : List Int) (p g t : Int) : Prop where
  l : H a = some (.lst [.ref c, .int p, .int g, .int t])
  c : H c = some (.lst (cs.map V.int))
  n : ∀ z ∈ cs, 0 ≤ z
  le : cs.length ≤ 63
  p0 : 0 ≤ p
  p1 : p ≤ cs.length
  g0 : 0 ≤ g
  t0 : 0 ≤ t
  t1 : t < 2147483648
theorem HandAt.ne {H : Hp} {a c : Addr} {cs : List Int} {p g t : Int} (h : HandAt H a c cs p g t) : c ≠ a := fun z => by
  have e := h.l
  rw [← z, h.c] at e
  have e2 := HO.lst.inj (Option.some.inj e)
  cases cs with
  | nil => cases e2
  | cons y ys => cases e2
theorem HandAt.same {H H' : Hp} {a c : Addr} {cs : List Int} {p g t : Int} (s : Same H H') (h : HandAt H a c cs p g t) : HandAt H' a c cs p g t :=
  ⟨s _ _ h.l, s _ _ h.c, h.n, h.le, h.p0, h.p1, h.g0, h.t0, h.t1⟩
def spHand (K : PySem.W.Frag) : Sp := fun vs H Q _ => ∃ (s : Addr) (ns : List Int), vs = [.ref s] ∧ SqL K H s (ns.map V.int) ∧ ns.length ≤ 63 ∧
  ∀ (a c : Addr) (cs : List Int) (t : Int) (H' : Hp), Same H H' → HandAt H' a c cs 0 0 t → Q (.ref a) H'
def spMixed : Sp := fun vs H Q _ => ∃ n t : Int, vs = [.int n, .int t] ∧ 0 ≤ n ∧ n < 2 ^ 40 ∧ 0 ≤ t ∧ t < 2 ^ 40 ∧ ∀ r : Int, 0 ≤ r → Q (.int r) H
/-- all but the hand's own list is as it was -/
def But (a : Addr) (H H' : Hp) : Prop := ∀ b o, b ≠ a → H b = some o → H' b = some o
def spTake : Sp := fun vs H Q _ => ∃ (a c : Addr) (cs : List Int) (p g t m : Int), vs = [.ref a, .int m] ∧ HandAt H a c cs p g t ∧ 0 < m ∧ m < 2 ^ 64 ∧
  ∀ (r p' g' t' : Int) (H' : Hp), 0 ≤ r → r < m → But a H H' → HandAt H' a c cs p' g' t' → Q (.int r) H'
/-- the names of the module -/
structure Tx (mg : Str → Option Value) (fM : Addr) : Prop where
  len : mg "len" = none
  int : mg "int" = none
  abs : mg "abs" = none
  mixed : mg "_law_mixed" = some (.ref fM)
section
variable {P : Program} {w : World} {K : PySem.W.Frag} {mg : Str → Option Value} {base : Heap} {f fM : Addr} {fd fdM : FuncData}
theorem scH : FnScope ["_law_script", "_law_total", "_law_cells", "_law_cell"] ["_law_script"] (defScope sHand) := ⟨rfl, rfl, rfl, by decide +kernel, rfl, by decide +kernel, by decide +kernel⟩
theorem scM : FnScope ["_law_number", "_law_turn", "_law_once", "_law_twice"] ["_law_number", "_law_turn"] (defScope sMixed) := ⟨rfl, rfl, rfl, by decide +kernel, rfl, by decide +kernel, by decide +kernel⟩
theorem scT : FnScope ["_law_hand_here", "_law_many", "_law_cell", "_law_rest"] ["_law_hand_here", "_law_many"] (defScope sTake) := ⟨rfl, rfl, rfl, by decide +kernel, rfl, by decide +kernel, by decide +kernel⟩
theorem ok_hand (F : FnP K "_law_hand" sHand f fd) (T : Tx mg fM) : FnOk P w K mg base CX0 1 f fd ["_law_script"] (spHand K) := by
  refine F.ok scH (fun vs H Q E h => ?_) (fun cdv A outer s H vs Q E hr h => ?_)
  · obtain ⟨a, ns, rfl, _⟩ := h
    rfl
  · obtain ⟨a, ns, rfl, hS, hlen, k⟩ := h
    refine ⟨_, PSs.nox (pss_cons (ps_set (i := 1) scH.nd rfl (Or.inl rfl) (pe_op op_add (pe_callB call_len (by rfl) T.len PySem.boot_len (pa_cons (pv 0) pa_nil)) pe_int))
      (pss_cons (ps_set (i := 2) scH.nd rfl (Or.inl rfl) (pe_lst pa_nil))
      (pss_cons (ps_for PassesOwn.never rfl (pi_list (pv 0)) (pg_name (i := 3) scH.nd rfl (Or.inl rfl))
        (pss_cons (ps_set (i := 1) scH.nd rfl (Or.inl rfl) (pe_op op_mod (pe_callTy call_int1 (by rfl) T.int PyProof.Rows.boot_int (pa_cons (pe_op op_add (pe_op op_mul (pv 1) pe_int) (pe_callTy call_int1 (by rfl) T.int PyProof.Rows.boot_int (pa_cons (pv 3) pa_nil))) pa_nil)) pe_int))
        (pss_one (ps_expr (pe_bm PySem.F.plainAttrs_list PySem.F.slot_list_append PySem.F.type_list_append mt_append (pv 2) (pa_cons (pe_callB call_abs (by rfl) T.abs (by decide +kernel) (pa_cons (pe_callTy call_int1 (by rfl) T.int PyProof.Rows.boot_int (pa_cons (pv 3) pa_nil)) pa_nil)) pa_nil))))))
      (pss_one (ps_ret (pe_lst (pa_cons (pv 2) (pa_cons pe_int (pa_cons pe_int (pa_cons (pv 1) pa_nil)))))))))), ?_⟩
    have hn2 : (ns.map V.int).length ≤ 63 := by rw [List.length_map]; exact hlen
    refine ⟨_, rfl, _, _, rfl, Or.inl ⟨_, hS, rfl⟩, _, _, rfl, rfl, Nat.zero_le _, fun c hc => ?_⟩
    have s0 : Same H (upd H c (.lst [])) := fun b o e => by
      rw [upd_ne (ne_of_none e hc)]
      exact e
    refine ⟨_, rfl, a, rfl, ⟨_, s0.seq hS⟩, for_list (K := K) (a := a) (xs := ns.map V.int) (fun i σ H2 => ∃ (cs : List Int) (t : Int) (v : Option V), σ = [some (.ref a), some (.int t), some (.ref c), v] ∧ Same H H2 ∧ H2 c = some (.lst (cs.map V.int)) ∧ (∀ z ∈ cs, 0 ≤ z) ∧ cs.length = i ∧ 0 ≤ t ∧ t < 2147483648)
      ⟨[], _, none, rfl, s0, upd_same, (fun z hz => nomatch hz), rfl, by omega, by omega⟩ (fun i σ H2 _ ⟨_, _, _, _, s2, _⟩ => s2.seq hS) ?_ ?_⟩
    · rintro i y σ H2 hi ⟨cs, t, v, rfl, s2, h2, hz, hk, t0, t1⟩
      obtain ⟨z, rfl⟩ : ∃ z, y = V.int z := by
        rw [List.getElem?_map] at hi
        cases e : ns[i]? with
        | none =>
          rw [e] at hi
          cases hi
        | some z =>
          rw [e] at hi
          exact ⟨z, (Option.some.inj hi).symm⟩
      have hil : i < (ns.map V.int).length := (List.getElem?_eq_some_iff.mp hi).1
      refine ⟨_, rfl, _, _, rfl, rfl, .inr ⟨by decide, by decide⟩, _, rfl, .inl ⟨_, rfl, _, _, rfl, rfl, .inl ⟨_, rfl, _, _, rfl, rfl, (by show (0 : Int) < 2147483563; decide), ?_⟩⟩⟩
      refine ⟨_, rfl, .inl ⟨rfl, _, SqL.of h2⟩, _, rfl, .inl ⟨_, rfl, _, rfl, c, _, _, rfl, rfl, h2, ?_, ?_⟩⟩
      · rw [List.length_map]
        exact small1000 (by omega)
      · refine ⟨cs ++ [if z < 0 then -z else z], _, _, rfl, ?_, ?_, ?_, ?_, ?_, ?_⟩
        · intro b o e
          by_cases hb : b = c
          · rw [hb, hc] at e
            cases e
          · rw [upd_ne hb]
            exact s2 b o e
        · rw [upd_same, List.map_append]
          rfl
        · intro x hx
          rcases List.mem_append.mp hx with hx | hx
          · exact hz x hx
          · rw [List.mem_singleton.mp hx]
            split <;> omega
        · rw [List.length_append, hk]
          rfl
        · exact Int.emod_nonneg _ (by decide)
        · exact Int.lt_trans (Int.emod_lt_of_pos _ (by decide)) (by decide)
    · rintro σ H2 ⟨cs, t, v, rfl, s2, h2, hz, hk, t0, t1⟩
      refine ⟨_, rfl, _, rfl, (by show 4 ≤ sizeLine; decide), fun p hp => ?_⟩
      have hcp : c ≠ p := ne_of_none h2 hp
      refine k p c cs t _ (fun b o e => ?_) ⟨upd_same, by rw [upd_ne hcp]; exact h2, hz, by omega, by omega, by omega, by omega, t0, t1⟩
      rw [upd_ne (ne_of_none (s2 b o e) hp)]
      exact s2 b o e
theorem ok_mixed (F : FnP K "_law_mixed" sMixed f fd) (T : Tx mg fM) : FnOk P w K mg base CX0 1 f fd ["_law_number", "_law_turn"] spMixed := by
  refine F.ok scM (fun vs H Q E h => ?_) (fun cdv A outer s H vs Q E hr h => ?_)
  · obtain ⟨n, t, rfl, _⟩ := h
    rfl
  · obtain ⟨n, t, rfl, n0, n1, t0, t1, k⟩ := h
    refine ⟨_, PSs.nox (pss_cons (ps_set (i := 2) scM.nd rfl (Or.inl rfl) (pe_op op_mod (pe_callTy call_int1 (by rfl) T.int PyProof.Rows.boot_int (pa_cons (pe_op op_add (pe_op op_add (pe_op op_mul (pv 0) pe_int) (pe_op op_mul (pv 1) pe_int)) pe_int) pa_nil)) pe_int))
      (pss_cons (ps_set (i := 3) scM.nd rfl (Or.inl rfl) (pe_op op_mod (pe_callTy call_int1 (by rfl) T.int PyProof.Rows.boot_int (pa_cons (pe_op op_add (pe_op op_add (pe_op op_mul (pv 2) (pv 2)) (pe_op op_mul (pv 1) pe_int)) (pe_op op_fdiv (pv 2) pe_int)) pa_nil)) pe_int))
      (pss_one (ps_ret (pe_op op_fdiv (pe_callTy call_int1 (by rfl) T.int PyProof.Rows.boot_int (pa_cons (pe_op op_mod (pe_callTy call_int1 (by rfl) T.int PyProof.Rows.boot_int (pa_cons (pe_op op_add (pe_op op_mul (pv 3) pe_int) (pe_op op_fdiv (pv 2) pe_int)) pa_nil)) pe_int) pa_nil)) pe_int))))), ?_⟩
    -- once
    refine ⟨_, rfl, _, _, rfl, rfl, .inr ⟨by decide, by decide⟩, _, rfl, _, _, rfl, rfl, .inr ⟨by decide, by decide⟩, _, _, rfl, rfl, _, _, rfl, rfl, .inl ⟨_, rfl, _, _, rfl, rfl, (by show (0 : Int) < 2147483399; decide), ?_⟩⟩
    generalize ho : (n * 39373 + t * 6151 + 50021) % 2147483399 = o
    have o0 : 0 ≤ o := by rw [← ho]; exact Int.emod_nonneg _ (by decide)
    have o1 : o < 2147483399 := by rw [← ho]; exact Int.emod_lt_of_pos _ (by decide)
    refine ⟨_, rfl, _, rfl, _, _, rfl, rfl, .inl ⟨by omega, by omega⟩, _, rfl, _, _, rfl, rfl, .inr ⟨by decide, by decide⟩, _, _, rfl, rfl, _, rfl, _, _, rfl, rfl, ⟨by decide, by decide⟩, _, _, rfl, rfl, .inl ⟨_, rfl, _, _, rfl, rfl, (by show (0 : Int) < 2147483629; decide), ?_⟩⟩
    generalize ht : (o * o + t * 81071 + o / 137) % 2147483629 = u
    have u0 : 0 ≤ u := by rw [← ht]; exact Int.emod_nonneg _ (by decide)
    refine ⟨_, rfl, _, _, rfl, rfl, .inr ⟨by decide, by decide⟩, _, rfl, _, _, rfl, rfl, ⟨by decide, by decide⟩, _, _, rfl, rfl, .inl ⟨_, rfl, _, _, rfl, rfl, (by show (0 : Int) < 2147483587; decide), .inl ⟨_, rfl, _, _, rfl, rfl, ⟨by decide, by decide⟩, ?_⟩⟩⟩
    exact k _ (Int.ediv_nonneg (Int.emod_nonneg _ (by decide)) (by decide))
theorem iteT' {b : Bool} {A B : Prop} (h : b = true) (k : A) : if b = true then A else B := by
  rw [if_pos h]
  exact k
theorem iteF' {b : Bool} {A B : Prop} (h : b = false) (k : B) : if b = true then A else B := by
  rw [if_neg (by rw [h]; exact Bool.false_ne_true)]
  exact k
theorem in_rest {x m : Int} (h : 0 < m) : 0 ≤ x % m ∧ x % m < m := ⟨Int.emod_nonneg _ (by omega), Int.emod_lt_of_pos _ h⟩
theorem div_ok {x m : Int} (h : 0 < m) (h2 : m < 2 ^ 64) : CDivW x m := wide_div (b := 64) h (by omega) (by decide) (by decide)
theorem ten18 : (10 : Int) ^ (18 : Int).toNat = 1000000000000000000 := by decide
theorem ok_take (F : FnP K "_law_take" sTake f fd) (FM : FnP K "_law_mixed" sMixed fM fdM) (T : Tx mg fM) : FnOk P w K mg base CX0 2 f fd ["_law_hand_here", "_law_many"] spTake := by
  have GM : FnOk P w K mg base CX0 1 fM fdM ["_law_number", "_law_turn"] spMixed := ok_mixed FM T
  have bM : Binds K fdM ["_law_number", "_law_turn"] [] := FM.bindsN fun _ _ _ _ _ _ us hl => match us, hl with | [_, _], _ => rfl
  refine F.ok scT (fun vs H Q E h => ?_) (fun cdv A outer s H vs Q E hr h => ?_)
  · obtain ⟨a, c, cs, p, g, t, m, rfl, _⟩ := h
    rfl
  · obtain ⟨a, c, cs, p, g, t, m, rfl, hh, m0, m1, k⟩ := h
    refine ⟨_, PSs.nox (Evl.pss_cut (ps_if (PW.pt (pw_and (pt_cmpR op_eq (pe_ix ix_list (pv 0) pe_int (fun _ _ => rfl)) pe_int (nomark _)) (pw_and1 (pt_cmpR op_lt (pe_ix ix_list (pv 0) pe_int (fun _ _ => rfl)) (pe_callB call_len (by rfl) T.len PySem.boot_len (pa_cons (pe_ix ix_list (pv 0) pe_int (fun _ _ => rfl)) pa_nil)) (nomark _)))))
        (pss_cons (ps_set (i := 2) scT.nd rfl (Or.inl rfl) (pe_ix ix_list (pe_ix ix_list (pv 0) pe_int (fun _ _ => rfl)) (pe_ix ix_list (pv 0) pe_int (fun _ _ => rfl)) (fun _ _ => rfl)))
        (pss_cons (ps_asg (pe_op op_add (pe_ix ix_list (pv 0) pe_int (fun _ _ => rfl)) pe_int) (pg_sub (pv 0) pe_int set_list))
        (pss_cons (ps_if (pt_cmpR op_lt (pv 2) (pe_op op_pow pe_int pe_int) (nomark _)) (pss_one (ps_ret (pe_op op_mod (pe_callTy call_int1 (by rfl) T.int PyProof.Rows.boot_int (pa_cons (pe_call GM hr rfl T.mixed FM.kp bM .nil pass0 (pa_cons (pe_op op_mod (pe_callTy call_int1 (by rfl) T.int PyProof.Rows.boot_int (pa_cons (pv 2) pa_nil)) pe_int) (pa_cons (pe_ix ix_list (pv 0) pe_int (fun _ _ => rfl)) pa_nil))) pa_nil)) (pv 1)))) pss_nil)
        (pss_one (ps_asg (pv 2) (pg_sub (pv 0) pe_int set_list)))))) pss_nil)
      (pss_cons (ps_if (pt_cmpR op_gt (pe_ix ix_list (pv 0) pe_int (fun _ _ => rfl)) pe_int (nomark _))
        (pss_cons (ps_set (i := 3) scT.nd rfl (Or.inl rfl) (pe_ix ix_list (pv 0) pe_int (fun _ _ => rfl)))
        (pss_cons (ps_asg (pe_op op_fdivW (pe_callTy call_int1 (by rfl) T.int PyProof.Rows.boot_int (pa_cons (pv 3) pa_nil)) (pv 1)) (pg_sub (pv 0) pe_int set_list))
        (pss_one (ps_ret (pe_op op_mod (pe_callTy call_int1 (by rfl) T.int PyProof.Rows.boot_int (pa_cons (pv 3) pa_nil)) (pv 1)))))) pss_nil)
      (pss_cons (ps_asg (pe_op op_mod (pe_callTy call_int1 (by rfl) T.int PyProof.Rows.boot_int (pa_cons (pe_op op_add (pe_ix ix_list (pv 0) pe_int (fun _ _ => rfl)) pe_int) pa_nil)) pe_int) (pg_sub (pv 0) pe_int set_list))
      (pss_one (ps_ret (pe_op op_mod (pe_callTy call_int1 (by rfl) T.int PyProof.Rows.boot_int (pa_cons (pe_call GM hr rfl T.mixed FM.kp bM .nil pass0 (pa_cons (pe_ix ix_list (pv 0) pe_int (fun _ _ => rfl)) (pa_cons (pe_ix ix_list (pv 0) pe_int (fun _ _ => rfl)) pa_nil))) pa_nil)) (pv 1))))))), ?_⟩
    have gm : ∀ x : Int, 0 ≤ x % m ∧ x % m < m := fun x => in_rest m0
    have h63 : (cs.map V.int).length ≤ 63 := by rw [List.length_map]; exact hh.le
    refine ⟨fun σ' H' => ∃ (p' g' : Int) (v : Option V), σ' = [some (.ref a), some (.int m), v, none] ∧ But a H H' ∧ HandAt H' a c cs p' g' t, ?_, ?_⟩
    · refine ⟨_, rfl, _, _, _, _, rfl, rfl, SqL.of hh.l, rfl, rfl, _, rfl, ?_⟩
      by_cases hg : g = 0
      · subst hg
        refine iteT' (decide_eq_true rfl) ?_
        refine ⟨_, rfl, _, _, _, _, rfl, rfl, SqL.of hh.l, rfl, _, rfl, _, _, _, _, rfl, rfl, SqL.of hh.l, rfl, _, _, rfl, Or.inl ⟨_, SqL.of hh.c, rfl⟩, _, _, rfl, rfl, _, rfl, ?_⟩
        rw [List.length_map]
        by_cases hp : p < (cs.length : Int)
        · refine iteT' (decide_eq_true hp) ?_
          obtain ⟨j, rfl⟩ : ∃ j : Nat, p = (j : Int) := ⟨p.toNat, by have := hh.p0; omega⟩
          have hj : j < cs.length := by omega
          have hv : (cs.map V.int)[j]? = some (.int cs[j]) := by rw [List.getElem?_map, List.getElem?_eq_getElem hj]; rfl
          have hz : 0 ≤ cs[j] := hh.n _ (List.getElem_mem hj)
          have hca : c ≠ a := hh.ne
          refine ⟨_, rfl, _, _, _, _, rfl, rfl, SqL.of hh.l, rfl, _, rfl, _, _, _, _, rfl, rfl, SqL.of hh.l, rfl, _, _, _, _, rfl, rfl, SqL.of hh.c, atI_nat hv, ?_⟩
          refine ⟨_, rfl, _, _, _, _, rfl, rfl, SqL.of hh.l, rfl, _, _, rfl, rfl, _, rfl, _, _, _, _, rfl, rfl, hh.l, rfl, ?_⟩
          have hh2 : HandAt (upd H a (.lst [.ref c, .int ((j : Int) + 1), .int 0, .int t])) a c cs ((j : Int) + 1) 0 t := ⟨upd_same, by rw [upd_ne hca]; exact hh.c, hh.n, hh.le, by omega, by omega, by omega, hh.t0, hh.t1⟩
          have b2 : But a H (upd H a (.lst [.ref c, .int ((j : Int) + 1), .int 0, .int t])) := fun b o hb e => by rw [upd_ne hb]; exact e
          refine ⟨_, rfl, _, _, rfl, rfl, ⟨by decide, by decide, by decide⟩, _, _, rfl, rfl, _, rfl, ?_⟩
          rw [ten18]
          by_cases hl : cs[j] < 1000000000000000000
          · refine iteT' (decide_eq_true hl) ?_
            have r0 : 0 ≤ cs[j] % 2147483399 := Int.emod_nonneg _ (by decide)
            have r1 : cs[j] % 2147483399 < 2147483399 := Int.emod_lt_of_pos _ (by decide)
            have := hh.le
            refine ⟨_, rfl, .inl ⟨_, rfl, _, _, rfl, rfl, (by show (0 : Int) < 2147483399; decide), _, rfl, _, _, _, _, rfl, rfl, SqL.of hh2.l, rfl, _, _, rfl, r0, by omega, by omega, by omega, fun r hr0 => .inl ⟨_, rfl, _, rfl, _, _, rfl, rfl, m0, ?_⟩⟩⟩
            exact k _ _ _ _ _ (gm r).1 (gm r).2 b2 hh2
          · refine iteF' (decide_eq_false hl) ?_
            refine ⟨_, rfl, _, rfl, _, _, _, _, rfl, rfl, hh2.l, rfl, (j : Int) + 1, cs[j], _, rfl, fun b o hb e => ?_, ?_⟩
            · rw [upd_ne hb]
              exact b2 b o hb e
            · exact ⟨upd_same, by rw [upd_ne hca]; exact hh2.c, hh2.n, hh2.le, hh2.p0, hh2.p1, hz, hh2.t0, hh2.t1⟩
        · refine iteF' (decide_eq_false hp) ?_
          exact ⟨_, _, _, rfl, fun _ _ _ e => e, hh⟩
      · refine iteF' (decide_eq_false fun z => hg (V.int.inj z)) ?_
        exact ⟨_, _, _, rfl, fun _ _ _ e => e, hh⟩
    · rintro σ' H' ⟨p', g', v, rfl, b1, h1⟩
      have hca : c ≠ a := h1.ne
      refine ⟨_, rfl, _, _, _, _, rfl, rfl, SqL.of h1.l, rfl, _, _, rfl, rfl, _, rfl, ?_⟩
      by_cases hg : 0 < g'
      · refine iteT' (decide_eq_true hg) ?_
        refine ⟨_, rfl, _, _, _, _, rfl, rfl, SqL.of h1.l, rfl, _, rfl, .inl ⟨_, rfl, _, rfl, _, _, rfl, rfl, div_ok m0 m1, _, rfl, _, _, _, _, rfl, rfl, h1.l, rfl, ?_⟩⟩
        refine ⟨_, rfl, .inl ⟨_, rfl, _, rfl, _, _, rfl, rfl, m0, ?_⟩⟩
        refine k _ p' (g' / m) t _ (gm g').1 (gm g').2 (fun b o hb e => ?_) ⟨upd_same, by rw [upd_ne hca]; exact h1.c, h1.n, h1.le, h1.p0, h1.p1, Int.ediv_nonneg (by omega) (by omega), h1.t0, h1.t1⟩
        rw [upd_ne hb]
        exact b1 b o hb e
      · refine iteF' (decide_eq_false hg) ?_
        have r0 : 0 ≤ (t + 1) % 2147483549 := Int.emod_nonneg _ (by decide)
        have r1 : (t + 1) % 2147483549 < 2147483549 := Int.emod_lt_of_pos _ (by decide)
        refine ⟨_, rfl, _, _, _, _, rfl, rfl, SqL.of h1.l, rfl, _, _, rfl, rfl, .inl ⟨_, rfl, _, _, rfl, rfl, (by show (0 : Int) < 2147483549; decide), _, rfl, _, _, _, _, rfl, rfl, h1.l, rfl, ?_⟩⟩
        have h2 : HandAt (upd H' a (.lst [.ref c, .int p', .int g', .int ((t + 1) % 2147483549)])) a c cs p' g' ((t + 1) % 2147483549) := ⟨upd_same, by rw [upd_ne hca]; exact h1.c, h1.n, h1.le, h1.p0, h1.p1, h1.g0, r0, by omega⟩
        have := h1.le
        have := h1.p1
        refine ⟨_, rfl, _, _, _, _, rfl, rfl, SqL.of h2.l, rfl, _, rfl, _, _, _, _, rfl, rfl, SqL.of h2.l, rfl, _, _, rfl, r0, by omega, h1.p0, by omega, fun r hr0 => .inl ⟨_, rfl, _, rfl, _, _, rfl, rfl, m0, ?_⟩⟩
        refine k _ _ _ _ _ (gm r).1 (gm r).2 (fun b o hb e => ?_) h2
        rw [upd_ne hb]
        exact b1 b o hb e
end
end Kq
namespace Ky
open PySem PySem.Spec PyProof.Rows L2 Kx
/-- __init__ of the class at C keeps what it is handed, under names fl gives -/
def spIn (C : Addr) (n : Nat) (fl : List V → List (Str × V)) : Sp := fun vs H Q _ => ∃ (a : Addr) (xs : List V), vs = .ref a :: xs ∧ xs.length = n ∧ H a = some (exo a C none) ∧
  ∀ (d : Addr) (H' : Hp), H d = none → (∀ b o, b ≠ a → H b = some o → H' b = some o) → H' a = some (exo a C (some d)) → H' d = some (exd d (fl xs)) → Q .non H'
def fl1 (f : Str) : List V → List (Str × V)
  | [x] => [(f, x)]
  | _ => []
def fl2 (f g : Str) : List V → List (Str × V)
  | [x, y] => [(g, y), (f, x)]
  | _ => []
section
variable {X : Cx} {K : PySem.W.Frag} {P C : Addr}
/-- the reading of: self.f = (slot 1) -/
theorem rd1 {f : Str} {Q : VK} {E : XK} {vs : List V} {H : Hp} {N : List Str} (hN : N.length = 2) (er : Er K P C) (n1 : PySem.W.findIn K (.ref C) f = some none) (h : spIn C 1 (fl1 f) vs H Q E) :
    tOst K f (tVar 0) (tVar 1) { nx := fun _ H' => Q .non H', rt := Q } (start N vs) H := by
  obtain ⟨a, xs, rfl, hl, ha, k⟩ := h
  match xs, hl, k with
  | [x], _, k =>
    refine ⟨x, rfl, .ref a, rfl, a, C, rfl, er.ox, n1, .inl ⟨ha, fun d hd hne => ?_⟩⟩
    refine k d _ hd (fun b o hb e => ?_) upd_same ?_
    · rw [upd_ne hb, upd_ne (ne_of_none e hd)]
      exact e
    · rw [upd_ne hne, upd_same]
      rfl
/-- .. self.f = (slot 1); self.g = (slot 2) -/
theorem rd2 {f g : Str} {Q : VK} {E : XK} {vs : List V} {H : Hp} {N : List Str} (hN : N.length = 3) (er : Er K P C) (n1 : PySem.W.findIn K (.ref C) f = some none) (n2 : PySem.W.findIn K (.ref C) g = some none) (h : spIn C 2 (fl2 f g) vs H Q E) :
    tSeq (tOst K f (tVar 0) (tVar 1)) (tOst K g (tVar 0) (tVar 2)) { nx := fun _ H' => Q .non H', rt := Q } (start N vs) H := by
  obtain ⟨a, xs, rfl, hl, ha, k⟩ := h
  match xs, hl, k with
  | [x, y], _, k =>
    refine ⟨x, rfl, .ref a, rfl, a, C, rfl, er.ox, n1, .inl ⟨ha, fun d hd hne => ?_⟩⟩
    refine ⟨y, rfl, .ref a, rfl, a, C, rfl, er.ox, n2, .inr ⟨d, [(f, x)], upd_same, by rw [upd_ne hne, upd_same], by show 1 ≤ 900; decide, ?_⟩⟩
    refine k d _ hd (fun b o hb e => ?_) ?_ upd_same
    · rw [upd_ne (ne_of_none e hd), upd_ne hb, upd_ne (ne_of_none e hd)]
      exact e
    · rw [upd_ne hne.symm, upd_same]
/-- C(e, ..) as a value -/
def tMkV (C : Addr) (sp : Sp) (ta : TA) : TE := fun σ H Q => ta σ H fun vs H1 => ∀ a, H1 a = none → sp (.ref a :: vs) (upd H1 a (exo a C none)) (fun v H2 => v = .non ∧ Q (.ref a) H2) (fun _ _ _ => False)
theorem pe_oex {CX : CXT} {x : Str} {fI : Addr} {k : Nat} {fd : FuncData} {ps : List Str} {sp : Sp} {e : Expr} {es : List Expr} {ta : TA} {p pos : Pos} (T : OexC X.K C) (iC : PySem.W.findIn X.K (.ref C) "__init__" = some (some (.ref fI))) (tI : PySem.W.typeIn X.K (.ref fI) = some (.type "function"))
    (F1 : FnOk X.prog X.w X.K X.mg X.base CX k fI fd ps sp) (hr : Room (k + 1) X.A) (hb : L2.Binds X.K fd ps []) (hx : Passes CX X (fun _ _ _ => False)) (hg : Gl X x) (hm : X.mg x = some (.ref C)) (ha : PA X (e :: es) ta) (hps : ps.length ≤ 100)
    (hdb : (x == ("__debug__" : Str)) = false := by decide) (he : starEach (e :: es) X.env = (false, eval e X.env) :: starEach es X.env := by rfl) (hpl : (backTo pos (starEach es X.env)).any (·.1) = false := by rfl) :
    PE X (.Call (.Name x p) (e :: es) [] pos) (tMkV C sp ta) := by
  refine ⟨fun pins s σ H Q I h => wpAny_Call_Name_kw (ld_glob I hg hm (PySem.W.callWith_K (h₀ := X.base) I.ok.mod.kin T.kC (thn (ha.run pos pins s σ H _ I h) fun us s1 ⟨vs, H1, I1, r1, q1⟩ => ⟨I1.kIn, ?_⟩) he hpl) hdb)⟩
  obtain ⟨nm, q, N, bs, bm, sn, sub, ab, col, dd, k0, k1, k2, k3, k5, hC, hbm⟩ := T.cls
  show wpAny _ _ (call (.ref C) us) _ _ _
  obtain ⟨hp, g, dr, tk, os⟩ := s1
  have hn : H1 (hp.objs.size + 1) = none := I1.hok.fresh (Nat.le_succ _)
  have hq := q1 (hp.objs.size + 1) hn
  have I2 : Inv X pins σ (upd H1 (hp.objs.size + 1) (exo (hp.objs.size + 1) C none)) ⟨(hp.push (PySem.W.kdv_tup us)).push (PySem.HandSPX.excO C hp.objs.size), g, dr, tk, os⟩ :=
    I1.laid (t' := tk) (a := hp.objs.size + 1) (fun b o e => Heap.get?_push_of_some _ (Heap.get?_push_of_some _ e)) (Nat.le_succ _) (exo_ok (t1 := hp.objs.size) (by heap_get))
  have r2 : Vals (V.ref (hp.objs.size + 1) :: vs) (Value.ref (hp.objs.size + 1) :: us) := .cons rfl r1
  have hl : (Value.ref (hp.objs.size + 1) :: us).length = ps.length := by
    rw [← r2.length]
    exact F1.len _ _ _ _ hq
  have hus : us.length ≤ sizeLine := by
    rw [List.length_cons] at hl
    rw [sizeLine_eq]
    omega
  have hb2 := hb ⟨(hp.push (PySem.W.kdv_tup us)).push (PySem.HandSPX.excO C hp.objs.size), g, dr, tk, os⟩ (Value.ref (hp.objs.size + 1) :: us) I2.kIn (by rw [List.append_nil]; exact hl)
  rw [List.append_nil] at hb2
  refine wpAny_call (PySem.HandSPX.call_own F.excBase_ValueError (fun Y => PySem.HandSPX.refsVE_contains Y bm hbm) (I1.kIn _ _ hC) (PySem.W.looks_findIn I1.kIn iC) (fun self => PySem.W.bind_fn I1.kIn self tI) hus ?_)
  refine codeAny_mono (F1.run _ X.stack _ _ ⟨Value.ref (hp.objs.size + 1) :: us, []⟩ _ _ _ (fun _ _ _ => False) (hr.make C us []) (I2.env0.make C us []) hb2 r2 hq) fun r s' hq' => ?_
  cases r with
  | error er => exact hx pins σ _ _ er s' I2 hq'
  | ok fl =>
    cases fl with
    | ret u =>
      obtain ⟨v, H', I3, rv, ev, q3⟩ := I2.after hq'
      subst ev
      exact ⟨rv, .ref (hp.objs.size + 1), H', I3, rfl, q3⟩
    | next => exact False.elim hq'
    | brk => exact False.elim hq'
    | cont => exact False.elim hq'
end
end Ky
namespace Kl
open PySem PySem.Spec PyProof.Rows L2 Kx Kf Kg Ky
abbrev gP (K : PySem.W.Frag) : Addr := He.ga K "PairError"
structure Fx (K : PySem.W.Frag) (mg : Str → Option Value) : Prop where
  par : mg "PairError" = some (.ref (gP K))
  parC : (PySem.W.clsIn K (gP K)).isSome = true ∧ PySem.W.typeIn K (.ref (gP K)) = some (.type "type")
  parS : PySem.W.subIn K (.ref (gP K)) (.type "BaseException") = some true
  gt : Gt K
  m : ∀ x ∈ errs, mg x = some (.ref (He.ga K x))
  e : ∀ x ∈ errs, Er K (gP K) (He.ga K x)
  b : ∀ x ∈ bares, PySem.W.excIn K (He.ga K x) PySem.HandSPX.veTail "ValueError.__new__" = true
  i : ∀ p ∈ inits, PySem.W.findIn K (.ref (He.ga K p.1)) "__init__" = some (some (.ref (He.ma K (He.ga K p.1) "__init__"))) ∧ PySem.W.typeIn K (.ref (He.ma K (He.ga K p.1) "__init__")) = some (.type "function") ∧ ∀ f ∈ p.2, PySem.W.findIn K (.ref (He.ga K p.1)) f = some none
  a : apart ((("PairError" : Str) :: errs).map (He.ga K)) = true
  fr : ∀ x ∈ frees, mg x = none
  g : ∀ x ∈ laws, mg x = some (.ref (He.ga K x))
theorem fx_of {K : PySem.W.Frag} {h : Heap} {mg : Str → Option Value} (X : K.In h) (G : h.Ns mainGlobals mg) (c : ck K = true) : Fx K mg := by
  obtain ⟨c0, c⟩ := He.ba c
  obtain ⟨c1, c⟩ := He.ba c
  obtain ⟨c2, c⟩ := He.ba c
  obtain ⟨c3, c⟩ := He.ba c
  obtain ⟨c4, c⟩ := He.ba c
  obtain ⟨c5, c⟩ := He.ba c
  obtain ⟨c6, c7⟩ := He.ba c
  obtain ⟨p1, p⟩ := He.ba c1
  obtain ⟨p2, p⟩ := He.ba p
  obtain ⟨p3, p4⟩ := He.ba p
  obtain ⟨g1, g2⟩ := He.ba c2
  refine ⟨PySem.W.mg_of X G (He.eqO_ok p1), ⟨p2, of_decide_eq_true p3⟩, of_decide_eq_true p4, ⟨He.eqO_ok g1, of_decide_eq_true g2⟩, fun x hx => ?_, fun x hx => ?_, fun x hx => List.all_eq_true.mp c4 x hx, fun p hp => ?_, c6, fun x hx => PySem.W.mg_none_of X G (He.eqO_ok (List.all_eq_true.mp c7 x hx)), fun x hx => PySem.W.mg_of X G (He.eqO_ok (List.all_eq_true.mp c0 x hx))⟩
  · exact PySem.W.mg_of X G (He.eqO_ok (He.ba (List.all_eq_true.mp c3 x hx)).1)
  · exact erB_ok (He.ba (List.all_eq_true.mp c3 x hx)).2
  · obtain ⟨i1, i⟩ := He.ba (List.all_eq_true.mp c5 p hp)
    obtain ⟨i2, i3⟩ := He.ba i
    exact ⟨He.eqO_ok i1, of_decide_eq_true i2, fun f hf => He.eqO_ok (List.all_eq_true.mp i3 f hf)⟩
theorem apart_ix : ∀ {l : List Addr}, apart l = true → ∀ {i j : Nat} {a : Addr}, l[i]? = some a → l[j]? = some a → i = j
  | [], _, _, _, _, h, _ => by simp at h
  | b :: r, h, i, j, a, hi, hj => by
    obtain ⟨h1, h2⟩ := He.ba (show ((r.all fun c => !Nat.beq b c) && apart r) = true from h)
    have no : ∀ k : Nat, r[k]? = some b → False := fun k e => by
      have z := List.all_eq_true.mp h1 b (List.mem_of_getElem? e)
      rw [Nat.beq_refl] at z
      cases z
    cases i with
    | zero =>
      cases j with
      | zero => rfl
      | succ j =>
        have e : b = a := by simpa using hi
        subst e
        exact (no j (by simpa using hj)).elim
    | succ i =>
      cases j with
      | zero =>
        have e : b = a := by simpa using hj
        subst e
        exact (no i (by simpa using hi)).elim
      | succ j => rw [apart_ix h2 (i := i) (j := j) (by simpa using hi) (by simpa using hj)]
section
variable {K : PySem.W.Frag} {mg : Str → Option Value} {x y : Str} {k j : Nat}
theorem Fx.at_ (fx : Fx K mg) (hk : errs[k]? = some x) : ((("PairError" : Str) :: errs).map (He.ga K))[k + 1]? = some (He.ga K x) := by
  rw [List.getElem?_map, List.getElem?_cons_succ, hk]
  rfl
theorem Fx.ne (fx : Fx K mg) (hk : errs[k]? = some x) : He.ga K x ≠ gP K := fun z => by
  have h1 := fx.at_ hk
  rw [z] at h1
  have h2 := apart_ix fx.a (i := k + 1) (j := 0) h1 rfl
  omega
theorem Fx.er (fx : Fx K mg) (hk : errs[k]? = some x) : Er K (gP K) (He.ga K x) := fx.e x (List.mem_of_getElem? hk)
theorem Fx.mm (fx : Fx K mg) (hk : errs[k]? = some x) : mg x = some (.ref (He.ga K x)) := fx.m x (List.mem_of_getElem? hk)
theorem Fx.one (fx : Fx K mg) (hk : errs[k]? = some x) (hj : errs[j]? = some y) : PySem.W.kitOne K (.ref (He.ga K x)) (.ref (He.ga K y)) = some (decide (k = j)) := by
  rw [(fx.er hk).one (fx.er hj) (fx.ne hj)]
  by_cases h : k = j
  · subst h
    rw [hk] at hj
    cases hj
    rw [decide_eq_true rfl, decide_eq_true rfl]
  · rw [decide_eq_false h, decide_eq_false fun z => h ?_]
    have h1 := fx.at_ hk
    rw [z] at h1
    have h2 := apart_ix fx.a h1 (fx.at_ hj)
    omega
theorem Fx.up (fx : Fx K mg) (hk : errs[k]? = some x) : PySem.W.kitOne K (.ref (He.ga K x)) (.ref (gP K)) = some true := (fx.er hk).up fx.parC (fx.ne hk)
theorem Fx.exm (fx : Fx K mg) (hk : errs[k]? = some x) : PySem.W.exmOne K (.ref (He.ga K x)) (.ref (gP K)) = some true := by
  unfold PySem.W.exmOne
  rw [fx.parS, if_pos (by rfl)]
  have z := fx.up hk
  unfold PySem.W.kitOne at z
  have hb : (Value.ref (He.ga K x) == Value.ref (gP K)) = false := beq_eq_false_iff_ne.mpr fun z => fx.ne hk (Value.ref.inj z)
  rw [if_neg (by rw [hb]; exact Bool.false_ne_true)] at z
  exact z
end
def Ini1 (P : Program) (w : World) (K : PySem.W.Frag) (mg : Str → Option Value) (base : Heap) (x f : Str) : Prop := ∃ fd, FnOk P w K mg base CX0 1 (He.ma K (He.ga K x) "__init__") fd ["self", f] (spIn (He.ga K x) 1 (fl1 f)) ∧ L2.Binds K fd ["self", f] []
def Ini2 (P : Program) (w : World) (K : PySem.W.Frag) (mg : Str → Option Value) (base : Heap) (x f g : Str) : Prop := ∃ fd, FnOk P w K mg base CX0 1 (He.ma K (He.ga K x) "__init__") fd ["self", f, g] (spIn (He.ga K x) 2 (fl2 f g)) ∧ L2.Binds K fd ["self", f, g] []
section
variable {P : Program} {w : World} {K : PySem.W.Frag} {mg : Str → Option Value} {base : Heap} {f : Addr} {fd : FuncData}
theorem spIn_len {C : Addr} {n : Nat} {fl : List V → List (Str × V)} {vs : List V} {H : Hp} {Q : VK} {E : XK} (h : spIn C n fl vs H Q E) : vs.length = n + 1 := by
  obtain ⟨a, xs, rfl, hl, _⟩ := h
  rw [List.length_cons, hl]
abbrev FnI (K : PySem.W.Frag) (q : Str) (st : Stmt) (f : Addr) (fd : FuncData) : Prop := FunD K "__init__" q (defArgs st) (defBody st) (defScope st) [] [] f fd
theorem in_BadRatio (fx : Fx K mg) (F : FnI K "BadRatio.__init__" (inClass (top 2) 0) (He.ma K (He.ga K "BadRatio") "__init__") fd) : Ini1 P w K mg base "BadRatio" "what" := by
  have no := (fx.i ("BadRatio", ["what"]) (List.mem_of_getElem? (i := 0) rfl)).2.2
  refine ⟨fd, F.ok (N := ["self", "what"]) ⟨rfl, rfl, rfl, by decide +kernel, rfl, by decide +kernel, by decide +kernel⟩ (fun vs H Q E h => spIn_len h) (fun cdv A outer s H vs Q E hr h => ⟨_, PSs.nox (pss_one (ps_ost (pv 0) (pv 1))), rd1 rfl (fx.e "BadRatio" (List.mem_of_getElem? (i := 0) rfl)) (no _ (List.mem_cons_self ..)) h⟩), F.bindsN fun _ _ _ _ _ _ us hl => match us, hl with | [_, _], _ => rfl⟩
theorem in_BadFigures (fx : Fx K mg) (F : FnI K "BadFigures.__init__" (inClass (top 4) 0) (He.ma K (He.ga K "BadFigures") "__init__") fd) : Ini1 P w K mg base "BadFigures" "prime" := by
  have no := (fx.i ("BadFigures", ["prime"]) (List.mem_of_getElem? (i := 1) rfl)).2.2
  refine ⟨fd, F.ok (N := ["self", "prime"]) ⟨rfl, rfl, rfl, by decide +kernel, rfl, by decide +kernel, by decide +kernel⟩ (fun vs H Q E h => spIn_len h) (fun cdv A outer s H vs Q E hr h => ⟨_, PSs.nox (pss_one (ps_ost (pv 0) (pv 1))), rd1 rfl (fx.e "BadFigures" (List.mem_of_getElem? (i := 2) rfl)) (no _ (List.mem_cons_self ..)) h⟩), F.bindsN fun _ _ _ _ _ _ us hl => match us, hl with | [_, _], _ => rfl⟩
theorem in_BadTable (fx : Fx K mg) (F : FnI K "BadTable.__init__" (inClass (top 6) 0) (He.ma K (He.ga K "BadTable") "__init__") fd) : Ini2 P w K mg base "BadTable" "index" "what" := by
  have no := (fx.i ("BadTable", ["index", "what"]) (List.mem_of_getElem? (i := 2) rfl)).2.2
  refine ⟨fd, F.ok (N := ["self", "index", "what"]) ⟨rfl, rfl, rfl, by decide +kernel, rfl, by decide +kernel, by decide +kernel⟩ (fun vs H Q E h => spIn_len h) (fun cdv A outer s H vs Q E hr h => ⟨_, PSs.nox (pss_cons (ps_ost (pv 0) (pv 1)) (pss_one (ps_ost (pv 0) (pv 2)))), rd2 rfl (fx.e "BadTable" (List.mem_of_getElem? (i := 4) rfl)) (no _ (List.mem_cons_self ..)) (no _ (List.mem_cons_of_mem _ (List.mem_cons_self ..))) h⟩), F.bindsN fun _ _ _ _ _ _ us hl => match us, hl with | [_, _, _], _ => rfl⟩
theorem in_BadLetters (fx : Fx K mg) (F : FnI K "BadLetters.__init__" (inClass (top 7) 0) (He.ma K (He.ga K "BadLetters") "__init__") fd) : Ini2 P w K mg base "BadLetters" "what" "index" := by
  have no := (fx.i ("BadLetters", ["what", "index"]) (List.mem_of_getElem? (i := 3) rfl)).2.2
  refine ⟨fd, F.ok (N := ["self", "what", "index"]) ⟨rfl, rfl, rfl, by decide +kernel, rfl, by decide +kernel, by decide +kernel⟩ (fun vs H Q E h => spIn_len h) (fun cdv A outer s H vs Q E hr h => ⟨_, PSs.nox (pss_cons (ps_ost (pv 0) (pv 1)) (pss_one (ps_ost (pv 0) (pv 2)))), rd2 rfl (fx.e "BadLetters" (List.mem_of_getElem? (i := 5) rfl)) (no _ (List.mem_cons_self ..)) (no _ (List.mem_cons_of_mem _ (List.mem_cons_self ..))) h⟩), F.bindsN fun _ _ _ _ _ _ us hl => match us, hl with | [_, _, _], _ => rfl⟩
theorem in_BadPair (fx : Fx K mg) (F : FnI K "BadPair.__init__" (inClass (top 8) 0) (He.ma K (He.ga K "BadPair") "__init__") fd) : Ini1 P w K mg base "BadPair" "what" := by
  have no := (fx.i ("BadPair", ["what"]) (List.mem_of_getElem? (i := 4) rfl)).2.2
  refine ⟨fd, F.ok (N := ["self", "what"]) ⟨rfl, rfl, rfl, by decide +kernel, rfl, by decide +kernel, by decide +kernel⟩ (fun vs H Q E h => spIn_len h) (fun cdv A outer s H vs Q E hr h => ⟨_, PSs.nox (pss_one (ps_ost (pv 0) (pv 1))), rd1 rfl (fx.e "BadPair" (List.mem_of_getElem? (i := 6) rfl)) (no _ (List.mem_cons_self ..)) h⟩), F.bindsN fun _ _ _ _ _ _ us hl => match us, hl with | [_, _], _ => rfl⟩
theorem in_BadKept (fx : Fx K mg) (F : FnI K "BadKept.__init__" (inClass (top 9) 0) (He.ma K (He.ga K "BadKept") "__init__") fd) : Ini2 P w K mg base "BadKept" "what" "index" := by
  have no := (fx.i ("BadKept", ["what", "index"]) (List.mem_of_getElem? (i := 5) rfl)).2.2
  refine ⟨fd, F.ok (N := ["self", "what", "index"]) ⟨rfl, rfl, rfl, by decide +kernel, rfl, by decide +kernel, by decide +kernel⟩ (fun vs H Q E h => spIn_len h) (fun cdv A outer s H vs Q E hr h => ⟨_, PSs.nox (pss_cons (ps_ost (pv 0) (pv 1)) (pss_one (ps_ost (pv 0) (pv 2)))), rd2 rfl (fx.e "BadKept" (List.mem_of_getElem? (i := 7) rfl)) (no _ (List.mem_cons_self ..)) (no _ (List.mem_cons_of_mem _ (List.mem_cons_self ..))) h⟩), F.bindsN fun _ _ _ _ _ _ us hl => match us, hl with | [_, _, _], _ => rfl⟩
theorem in_BadProgram (fx : Fx K mg) (F : FnI K "BadProgram.__init__" (inClass (top 11) 0) (He.ma K (He.ga K "BadProgram") "__init__") fd) : Ini2 P w K mg base "BadProgram" "index" "what" := by
  have no := (fx.i ("BadProgram", ["index", "what"]) (List.mem_of_getElem? (i := 6) rfl)).2.2
  refine ⟨fd, F.ok (N := ["self", "index", "what"]) ⟨rfl, rfl, rfl, by decide +kernel, rfl, by decide +kernel, by decide +kernel⟩ (fun vs H Q E h => spIn_len h) (fun cdv A outer s H vs Q E hr h => ⟨_, PSs.nox (pss_cons (ps_ost (pv 0) (pv 1)) (pss_one (ps_ost (pv 0) (pv 2)))), rd2 rfl (fx.e "BadProgram" (List.mem_of_getElem? (i := 9) rfl)) (no _ (List.mem_cons_self ..)) (no _ (List.mem_cons_of_mem _ (List.mem_cons_self ..))) h⟩), F.bindsN fun _ _ _ _ _ _ us hl => match us, hl with | [_, _, _], _ => rfl⟩
theorem in_BadText (fx : Fx K mg) (F : FnI K "BadText.__init__" (inClass (top 12) 0) (He.ma K (He.ga K "BadText") "__init__") fd) : Ini1 P w K mg base "BadText" "place" := by
  have no := (fx.i ("BadText", ["place"]) (List.mem_of_getElem? (i := 7) rfl)).2.2
  refine ⟨fd, F.ok (N := ["self", "place"]) ⟨rfl, rfl, rfl, by decide +kernel, rfl, by decide +kernel, by decide +kernel⟩ (fun vs H Q E h => spIn_len h) (fun cdv A outer s H vs Q E hr h => ⟨_, PSs.nox (pss_one (ps_ost (pv 0) (pv 1))), rd1 rfl (fx.e "BadText" (List.mem_of_getElem? (i := 10) rfl)) (no _ (List.mem_cons_self ..)) h⟩), F.bindsN fun _ _ _ _ _ _ us hl => match us, hl with | [_, _], _ => rfl⟩
theorem in_BadPoly (fx : Fx K mg) (F : FnI K "BadPoly.__init__" (inClass (top 15) 0) (He.ma K (He.ga K "BadPoly") "__init__") fd) : Ini2 P w K mg base "BadPoly" "index" "what" := by
  have no := (fx.i ("BadPoly", ["index", "what"]) (List.mem_of_getElem? (i := 8) rfl)).2.2
  refine ⟨fd, F.ok (N := ["self", "index", "what"]) ⟨rfl, rfl, rfl, by decide +kernel, rfl, by decide +kernel, by decide +kernel⟩ (fun vs H Q E h => spIn_len h) (fun cdv A outer s H vs Q E hr h => ⟨_, PSs.nox (pss_cons (ps_ost (pv 0) (pv 1)) (pss_one (ps_ost (pv 0) (pv 2)))), rd2 rfl (fx.e "BadPoly" (List.mem_of_getElem? (i := 13) rfl)) (no _ (List.mem_cons_self ..)) (no _ (List.mem_cons_of_mem _ (List.mem_cons_self ..))) h⟩), F.bindsN fun _ _ _ _ _ _ us hl => match us, hl with | [_, _, _], _ => rfl⟩
theorem in_NotSquare (fx : Fx K mg) (F : FnI K "NotSquare.__init__" (inClass (top 16) 0) (He.ma K (He.ga K "NotSquare") "__init__") fd) : Ini2 P w K mg base "NotSquare" "rows" "columns" := by
  have no := (fx.i ("NotSquare", ["rows", "columns"]) (List.mem_of_getElem? (i := 9) rfl)).2.2
  refine ⟨fd, F.ok (N := ["self", "rows", "columns"]) ⟨rfl, rfl, rfl, by decide +kernel, rfl, by decide +kernel, by decide +kernel⟩ (fun vs H Q E h => spIn_len h) (fun cdv A outer s H vs Q E hr h => ⟨_, PSs.nox (pss_cons (ps_ost (pv 0) (pv 1)) (pss_one (ps_ost (pv 0) (pv 2)))), rd2 rfl (fx.e "NotSquare" (List.mem_of_getElem? (i := 14) rfl)) (no _ (List.mem_cons_self ..)) (no _ (List.mem_cons_of_mem _ (List.mem_cons_self ..))) h⟩), F.bindsN fun _ _ _ _ _ _ us hl => match us, hl with | [_, _, _], _ => rfl⟩
theorem in_BadChange (fx : Fx K mg) (F : FnI K "BadChange.__init__" (inClass (top 17) 0) (He.ma K (He.ga K "BadChange") "__init__") fd) : Ini1 P w K mg base "BadChange" "what" := by
  have no := (fx.i ("BadChange", ["what"]) (List.mem_of_getElem? (i := 10) rfl)).2.2
  refine ⟨fd, F.ok (N := ["self", "what"]) ⟨rfl, rfl, rfl, by decide +kernel, rfl, by decide +kernel, by decide +kernel⟩ (fun vs H Q E h => spIn_len h) (fun cdv A outer s H vs Q E hr h => ⟨_, PSs.nox (pss_one (ps_ost (pv 0) (pv 1))), rd1 rfl (fx.e "BadChange" (List.mem_of_getElem? (i := 15) rfl)) (no _ (List.mem_cons_self ..)) h⟩), F.bindsN fun _ _ _ _ _ _ us hl => match us, hl with | [_, _], _ => rfl⟩
theorem in_BadPoints (fx : Fx K mg) (F : FnI K "BadPoints.__init__" (inClass (top 18) 0) (He.ma K (He.ga K "BadPoints") "__init__") fd) : Ini1 P w K mg base "BadPoints" "index" := by
  have no := (fx.i ("BadPoints", ["index"]) (List.mem_of_getElem? (i := 11) rfl)).2.2
  refine ⟨fd, F.ok (N := ["self", "index"]) ⟨rfl, rfl, rfl, by decide +kernel, rfl, by decide +kernel, by decide +kernel⟩ (fun vs H Q E h => spIn_len h) (fun cdv A outer s H vs Q E hr h => ⟨_, PSs.nox (pss_one (ps_ost (pv 0) (pv 1))), rd1 rfl (fx.e "BadPoints" (List.mem_of_getElem? (i := 16) rfl)) (no _ (List.mem_cons_self ..)) h⟩), F.bindsN fun _ _ _ _ _ _ us hl => match us, hl with | [_, _], _ => rfl⟩
theorem in_BadMany (fx : Fx K mg) (F : FnI K "BadMany.__init__" (inClass (top 19) 0) (He.ma K (He.ga K "BadMany") "__init__") fd) : Ini1 P w K mg base "BadMany" "most" := by
  have no := (fx.i ("BadMany", ["most"]) (List.mem_of_getElem? (i := 12) rfl)).2.2
  refine ⟨fd, F.ok (N := ["self", "most"]) ⟨rfl, rfl, rfl, by decide +kernel, rfl, by decide +kernel, by decide +kernel⟩ (fun vs H Q E h => spIn_len h) (fun cdv A outer s H vs Q E hr h => ⟨_, PSs.nox (pss_one (ps_ost (pv 0) (pv 1))), rd1 rfl (fx.e "BadMany" (List.mem_of_getElem? (i := 17) rfl)) (no _ (List.mem_cons_self ..)) h⟩), F.bindsN fun _ _ _ _ _ _ us hl => match us, hl with | [_, _], _ => rfl⟩
theorem in_NoPoint (fx : Fx K mg) (F : FnI K "NoPoint.__init__" (inClass (top 23) 0) (He.ma K (He.ga K "NoPoint") "__init__") fd) : Ini1 P w K mg base "NoPoint" "index" := by
  have no := (fx.i ("NoPoint", ["index"]) (List.mem_of_getElem? (i := 13) rfl)).2.2
  refine ⟨fd, F.ok (N := ["self", "index"]) ⟨rfl, rfl, rfl, by decide +kernel, rfl, by decide +kernel, by decide +kernel⟩ (fun vs H Q E h => spIn_len h) (fun cdv A outer s H vs Q E hr h => ⟨_, PSs.nox (pss_one (ps_ost (pv 0) (pv 1))), rd1 rfl (fx.e "NoPoint" (List.mem_of_getElem? (i := 21) rfl)) (no _ (List.mem_cons_self ..)) h⟩), F.bindsN fun _ _ _ _ _ _ us hl => match us, hl with | [_, _], _ => rfl⟩
theorem in_BadChoice (fx : Fx K mg) (F : FnI K "BadChoice.__init__" (inClass (top 24) 0) (He.ma K (He.ga K "BadChoice") "__init__") fd) : Ini2 P w K mg base "BadChoice" "block" "index" := by
  have no := (fx.i ("BadChoice", ["block", "index"]) (List.mem_of_getElem? (i := 14) rfl)).2.2
  refine ⟨fd, F.ok (N := ["self", "block", "index"]) ⟨rfl, rfl, rfl, by decide +kernel, rfl, by decide +kernel, by decide +kernel⟩ (fun vs H Q E h => spIn_len h) (fun cdv A outer s H vs Q E hr h => ⟨_, PSs.nox (pss_cons (ps_ost (pv 0) (pv 1)) (pss_one (ps_ost (pv 0) (pv 2)))), rd2 rfl (fx.e "BadChoice" (List.mem_of_getElem? (i := 22) rfl)) (no _ (List.mem_cons_self ..)) (no _ (List.mem_cons_of_mem _ (List.mem_cons_self ..))) h⟩), F.bindsN fun _ _ _ _ _ _ us hl => match us, hl with | [_, _, _], _ => rfl⟩
theorem in_BadRow (fx : Fx K mg) (F : FnI K "BadRow.__init__" (inClass (top 26) 0) (He.ma K (He.ga K "BadRow") "__init__") fd) : Ini2 P w K mg base "BadRow" "what" "index" := by
  have no := (fx.i ("BadRow", ["what", "index"]) (List.mem_of_getElem? (i := 15) rfl)).2.2
  refine ⟨fd, F.ok (N := ["self", "what", "index"]) ⟨rfl, rfl, rfl, by decide +kernel, rfl, by decide +kernel, by decide +kernel⟩ (fun vs H Q E h => spIn_len h) (fun cdv A outer s H vs Q E hr h => ⟨_, PSs.nox (pss_cons (ps_ost (pv 0) (pv 1)) (pss_one (ps_ost (pv 0) (pv 2)))), rd2 rfl (fx.e "BadRow" (List.mem_of_getElem? (i := 24) rfl)) (no _ (List.mem_cons_self ..)) (no _ (List.mem_cons_of_mem _ (List.mem_cons_self ..))) h⟩), F.bindsN fun _ _ _ _ _ _ us hl => match us, hl with | [_, _, _], _ => rfl⟩
theorem in_BadTaps (fx : Fx K mg) (F : FnI K "BadTaps.__init__" (inClass (top 27) 0) (He.ma K (He.ga K "BadTaps") "__init__") fd) : Ini1 P w K mg base "BadTaps" "index" := by
  have no := (fx.i ("BadTaps", ["index"]) (List.mem_of_getElem? (i := 16) rfl)).2.2
  refine ⟨fd, F.ok (N := ["self", "index"]) ⟨rfl, rfl, rfl, by decide +kernel, rfl, by decide +kernel, by decide +kernel⟩ (fun vs H Q E h => spIn_len h) (fun cdv A outer s H vs Q E hr h => ⟨_, PSs.nox (pss_one (ps_ost (pv 0) (pv 1))), rd1 rfl (fx.e "BadTaps" (List.mem_of_getElem? (i := 25) rfl)) (no _ (List.mem_cons_self ..)) h⟩), F.bindsN fun _ _ _ _ _ _ us hl => match us, hl with | [_, _], _ => rfl⟩
theorem in_BadPrime (fx : Fx K mg) (F : FnI K "BadPrime.__init__" (inClass (top 31) 0) (He.ma K (He.ga K "BadPrime") "__init__") fd) : Ini1 P w K mg base "BadPrime" "index" := by
  have no := (fx.i ("BadPrime", ["index"]) (List.mem_of_getElem? (i := 17) rfl)).2.2
  refine ⟨fd, F.ok (N := ["self", "index"]) ⟨rfl, rfl, rfl, by decide +kernel, rfl, by decide +kernel, by decide +kernel⟩ (fun vs H Q E h => spIn_len h) (fun cdv A outer s H vs Q E hr h => ⟨_, PSs.nox (pss_one (ps_ost (pv 0) (pv 1))), rd1 rfl (fx.e "BadPrime" (List.mem_of_getElem? (i := 29) rfl)) (no _ (List.mem_cons_self ..)) h⟩), F.bindsN fun _ _ _ _ _ _ us hl => match us, hl with | [_, _], _ => rfl⟩
theorem in_NotSmall (fx : Fx K mg) (F : FnI K "NotSmall.__init__" (inClass (top 36) 0) (He.ma K (He.ga K "NotSmall") "__init__") fd) : Ini1 P w K mg base "NotSmall" "what" := by
  have no := (fx.i ("NotSmall", ["what"]) (List.mem_of_getElem? (i := 18) rfl)).2.2
  refine ⟨fd, F.ok (N := ["self", "what"]) ⟨rfl, rfl, rfl, by decide +kernel, rfl, by decide +kernel, by decide +kernel⟩ (fun vs H Q E h => spIn_len h) (fun cdv A outer s H vs Q E hr h => ⟨_, PSs.nox (pss_one (ps_ost (pv 0) (pv 1))), rd1 rfl (fx.e "NotSmall" (List.mem_of_getElem? (i := 34) rfl)) (no _ (List.mem_cons_self ..)) h⟩), F.bindsN fun _ _ _ _ _ _ us hl => match us, hl with | [_, _], _ => rfl⟩
theorem in_BadProducts (fx : Fx K mg) (F : FnI K "BadProducts.__init__" (inClass (top 37) 0) (He.ma K (He.ga K "BadProducts") "__init__") fd) : Ini1 P w K mg base "BadProducts" "index" := by
  have no := (fx.i ("BadProducts", ["index"]) (List.mem_of_getElem? (i := 19) rfl)).2.2
  refine ⟨fd, F.ok (N := ["self", "index"]) ⟨rfl, rfl, rfl, by decide +kernel, rfl, by decide +kernel, by decide +kernel⟩ (fun vs H Q E h => spIn_len h) (fun cdv A outer s H vs Q E hr h => ⟨_, PSs.nox (pss_one (ps_ost (pv 0) (pv 1))), rd1 rfl (fx.e "BadProducts" (List.mem_of_getElem? (i := 35) rfl)) (no _ (List.mem_cons_self ..)) h⟩), F.bindsN fun _ _ _ _ _ _ us hl => match us, hl with | [_, _], _ => rfl⟩
theorem in_BadPlaces (fx : Fx K mg) (F : FnI K "BadPlaces.__init__" (inClass (top 38) 0) (He.ma K (He.ga K "BadPlaces") "__init__") fd) : Ini1 P w K mg base "BadPlaces" "index" := by
  have no := (fx.i ("BadPlaces", ["index"]) (List.mem_of_getElem? (i := 20) rfl)).2.2
  refine ⟨fd, F.ok (N := ["self", "index"]) ⟨rfl, rfl, rfl, by decide +kernel, rfl, by decide +kernel, by decide +kernel⟩ (fun vs H Q E h => spIn_len h) (fun cdv A outer s H vs Q E hr h => ⟨_, PSs.nox (pss_one (ps_ost (pv 0) (pv 1))), rd1 rfl (fx.e "BadPlaces" (List.mem_of_getElem? (i := 36) rfl)) (no _ (List.mem_cons_self ..)) h⟩), F.bindsN fun _ _ _ _ _ _ us hl => match us, hl with | [_, _], _ => rfl⟩
theorem in_BadCode (fx : Fx K mg) (F : FnI K "BadCode.__init__" (inClass (top 39) 0) (He.ma K (He.ga K "BadCode") "__init__") fd) : Ini2 P w K mg base "BadCode" "index" "what" := by
  have no := (fx.i ("BadCode", ["index", "what"]) (List.mem_of_getElem? (i := 21) rfl)).2.2
  refine ⟨fd, F.ok (N := ["self", "index", "what"]) ⟨rfl, rfl, rfl, by decide +kernel, rfl, by decide +kernel, by decide +kernel⟩ (fun vs H Q E h => spIn_len h) (fun cdv A outer s H vs Q E hr h => ⟨_, PSs.nox (pss_cons (ps_ost (pv 0) (pv 1)) (pss_one (ps_ost (pv 0) (pv 2)))), rd2 rfl (fx.e "BadCode" (List.mem_of_getElem? (i := 37) rfl)) (no _ (List.mem_cons_self ..)) (no _ (List.mem_cons_of_mem _ (List.mem_cons_self ..))) h⟩), F.bindsN fun _ _ _ _ _ _ us hl => match us, hl with | [_, _, _], _ => rfl⟩
theorem in_BadEdit (fx : Fx K mg) (F : FnI K "BadEdit.__init__" (inClass (top 40) 0) (He.ma K (He.ga K "BadEdit") "__init__") fd) : Ini2 P w K mg base "BadEdit" "index" "what" := by
  have no := (fx.i ("BadEdit", ["index", "what"]) (List.mem_of_getElem? (i := 22) rfl)).2.2
  refine ⟨fd, F.ok (N := ["self", "index", "what"]) ⟨rfl, rfl, rfl, by decide +kernel, rfl, by decide +kernel, by decide +kernel⟩ (fun vs H Q E h => spIn_len h) (fun cdv A outer s H vs Q E hr h => ⟨_, PSs.nox (pss_cons (ps_ost (pv 0) (pv 1)) (pss_one (ps_ost (pv 0) (pv 2)))), rd2 rfl (fx.e "BadEdit" (List.mem_of_getElem? (i := 38) rfl)) (no _ (List.mem_cons_self ..)) (no _ (List.mem_cons_of_mem _ (List.mem_cons_self ..))) h⟩), F.bindsN fun _ _ _ _ _ _ us hl => match us, hl with | [_, _, _], _ => rfl⟩
theorem in_BadGoal (fx : Fx K mg) (F : FnI K "BadGoal.__init__" (inClass (top 41) 0) (He.ma K (He.ga K "BadGoal") "__init__") fd) : Ini1 P w K mg base "BadGoal" "index" := by
  have no := (fx.i ("BadGoal", ["index"]) (List.mem_of_getElem? (i := 23) rfl)).2.2
  refine ⟨fd, F.ok (N := ["self", "index"]) ⟨rfl, rfl, rfl, by decide +kernel, rfl, by decide +kernel, by decide +kernel⟩ (fun vs H Q E h => spIn_len h) (fun cdv A outer s H vs Q E hr h => ⟨_, PSs.nox (pss_one (ps_ost (pv 0) (pv 1))), rd1 rfl (fx.e "BadGoal" (List.mem_of_getElem? (i := 39) rfl)) (no _ (List.mem_cons_self ..)) h⟩), F.bindsN fun _ _ _ _ _ _ us hl => match us, hl with | [_, _], _ => rfl⟩
theorem in_NotRight (fx : Fx K mg) (F : FnI K "NotRight.__init__" (inClass (top 42) 0) (He.ma K (He.ga K "NotRight") "__init__") fd) : Ini1 P w K mg base "NotRight" "cell" := by
  have no := (fx.i ("NotRight", ["cell"]) (List.mem_of_getElem? (i := 24) rfl)).2.2
  refine ⟨fd, F.ok (N := ["self", "cell"]) ⟨rfl, rfl, rfl, by decide +kernel, rfl, by decide +kernel, by decide +kernel⟩ (fun vs H Q E h => spIn_len h) (fun cdv A outer s H vs Q E hr h => ⟨_, PSs.nox (pss_one (ps_ost (pv 0) (pv 1))), rd1 rfl (fx.e "NotRight" (List.mem_of_getElem? (i := 40) rfl)) (no _ (List.mem_cons_self ..)) h⟩), F.bindsN fun _ _ _ _ _ _ us hl => match us, hl with | [_, _], _ => rfl⟩
end
end Kl
namespace Km
open PySem PySem.Spec PyProof.Rows L2 Kx Kf Kg Ky Kl Kq
theorem pe_cls {X : Cx} {x : Str} {C : Addr} {pos : Pos} (hg : Gl X x) (hm : X.mg x = some (.ref C)) (hd : (x == ("__debug__" : Str)) = false := by decide) : PE X (.Name x pos) (tC (.ref C)) := pe_glob (v := .ref C) hg hm rfl hd
abbrev sSingle : Stmt := Kq.top 48
def spSingle (K : PySem.W.Frag) : Sp := fun vs H Q _ => ∃ (a : Addr) (k : Nat) (x : Str) (fs : List (Str × V)), vs = [.ref a] ∧ errs[k]? = some x ∧ ExAt H a (He.ga K x) fs ∧ Q (.bl true) H
theorem tot : ∀ k : Nat, k < 42 → ((((((((((((((((((((((((((((((((((((((((((0 + if decide (k = 0) = true then 1 else 0) + if decide (k = 1) = true then 1 else 0) + if decide (k = 2) = true then 1 else 0) + if decide (k = 3) = true then 1 else 0) + if decide (k = 4) = true then 1 else 0) + if decide (k = 5) = true then 1 else 0) + if decide (k = 6) = true then 1 else 0) + if decide (k = 7) = true then 1 else 0) + if decide (k = 8) = true then 1 else 0) + if decide (k = 9) = true then 1 else 0) + if decide (k = 10) = true then 1 else 0) + if decide (k = 11) = true then 1 else 0) + if decide (k = 12) = true then 1 else 0) + if decide (k = 13) = true then 1 else 0) + if decide (k = 14) = true then 1 else 0) + if decide (k = 15) = true then 1 else 0) + if decide (k = 16) = true then 1 else 0) + if decide (k = 17) = true then 1 else 0) + if decide (k = 18) = true then 1 else 0) + if decide (k = 19) = true then 1 else 0) + if decide (k = 20) = true then 1 else 0) + if decide (k = 21) = true then 1 else 0) + if decide (k = 22) = true then 1 else 0) + if decide (k = 23) = true then 1 else 0) + if decide (k = 24) = true then 1 else 0) + if decide (k = 25) = true then 1 else 0) + if decide (k = 26) = true then 1 else 0) + if decide (k = 27) = true then 1 else 0) + if decide (k = 28) = true then 1 else 0) + if decide (k = 29) = true then 1 else 0) + if decide (k = 30) = true then 1 else 0) + if decide (k = 31) = true then 1 else 0) + if decide (k = 32) = true then 1 else 0) + if decide (k = 33) = true then 1 else 0) + if decide (k = 34) = true then 1 else 0) + if decide (k = 35) = true then 1 else 0) + if decide (k = 36) = true then 1 else 0) + if decide (k = 37) = true then 1 else 0) + if decide (k = 38) = true then 1 else 0) + if decide (k = 39) = true then 1 else 0) + if decide (k = 40) = true then 1 else 0) + if decide (k = 41) = true then 1 else 0) = (1 : Int) := by decide +kernel
section
variable {P : Program} {w : World} {K : PySem.W.Frag} {mg : Str → Option Value} {base : Heap} {f fM : Addr} {fd fdM : FuncData}
theorem scS : FnScope ["_law_told", "_law_many"] ["_law_told"] (defScope sSingle) := ⟨rfl, rfl, rfl, by decide +kernel, rfl, by decide +kernel, by decide +kernel⟩
theorem errs_lt {k : Nat} {x : Str} (h : errs[k]? = some x) : k < 42 := (List.getElem?_eq_some_iff.mp h).1
theorem ok_single (F : FnP K "_law_single" sSingle f fd) (fx : Fx K mg) : FnOk P w K mg base CX0 1 f fd ["_law_told"] (spSingle K) := by
  have zi : mg "isinstance" = none := fx.fr _ (List.mem_of_getElem? (i := 3) rfl)
  have zn : mg "int" = none := fx.fr _ (List.mem_of_getElem? (i := 1) rfl)
  have zv : mg "ValueError" = none := fx.fr _ (List.mem_of_getElem? (i := 4) rfl)
  refine F.ok scS (fun vs H Q E h => ?_) (fun cdv A outer s H vs Q E hr h => ?_)
  · obtain ⟨a, k, x, fs, rfl, _⟩ := h
    rfl
  · obtain ⟨a, k, x, fs, rfl, hk, ea, kQ⟩ := h
    have er := fx.er hk
    refine ⟨_, PSs.nox (pss_cons (ps_if (PW.pt (pw_or (pt_not (pt_val (pe_callB (call_isX (P := gP K) fx.gt) (by rfl) zi PyProof.Rows.boot_isinstance (pa_cons (pv 0) (pa_cons (pe_cls (by rfl) fx.par) pa_nil))))) (pw_or1 (pt_not (pt_val (pe_callB (call_isX (P := gP K) fx.gt) (by rfl) zi PyProof.Rows.boot_isinstance (pa_cons (pv 0) (pa_cons (pe_bltn (v := .ty "ValueError") (by rfl) zv (by decide +kernel) rfl) pa_nil)))))))) (pss_one (ps_ret pe_bl)) pss_nil)
      (pss_cons (ps_set (i := 1) scS.nd rfl (Or.inl rfl) pe_int)
      (pss_cons (ps_set (i := 1) scS.nd rfl (Or.inl rfl) (pe_op op_add (pe_op op_add (pe_op op_add (pe_op op_add (pv 1) (pe_callTy call_int1 (by rfl) zn PyProof.Rows.boot_int (pa_cons (pe_callB (call_isX (P := gP K) fx.gt) (by rfl) zi PyProof.Rows.boot_isinstance (pa_cons (pv 0) (pa_cons (pe_cls (by rfl) (fx.mm (k := 0) rfl)) pa_nil))) pa_nil))) (pe_callTy call_int1 (by rfl) zn PyProof.Rows.boot_int (pa_cons (pe_callB (call_isX (P := gP K) fx.gt) (by rfl) zi PyProof.Rows.boot_isinstance (pa_cons (pv 0) (pa_cons (pe_cls (by rfl) (fx.mm (k := 1) rfl)) pa_nil))) pa_nil))) (pe_callTy call_int1 (by rfl) zn PyProof.Rows.boot_int (pa_cons (pe_callB (call_isX (P := gP K) fx.gt) (by rfl) zi PyProof.Rows.boot_isinstance (pa_cons (pv 0) (pa_cons (pe_cls (by rfl) (fx.mm (k := 2) rfl)) pa_nil))) pa_nil))) (pe_callTy call_int1 (by rfl) zn PyProof.Rows.boot_int (pa_cons (pe_callB (call_isX (P := gP K) fx.gt) (by rfl) zi PyProof.Rows.boot_isinstance (pa_cons (pv 0) (pa_cons (pe_cls (by rfl) (fx.mm (k := 3) rfl)) pa_nil))) pa_nil))))
      (pss_cons (ps_set (i := 1) scS.nd rfl (Or.inl rfl) (pe_op op_add (pe_op op_add (pe_op op_add (pe_op op_add (pv 1) (pe_callTy call_int1 (by rfl) zn PyProof.Rows.boot_int (pa_cons (pe_callB (call_isX (P := gP K) fx.gt) (by rfl) zi PyProof.Rows.boot_isinstance (pa_cons (pv 0) (pa_cons (pe_cls (by rfl) (fx.mm (k := 4) rfl)) pa_nil))) pa_nil))) (pe_callTy call_int1 (by rfl) zn PyProof.Rows.boot_int (pa_cons (pe_callB (call_isX (P := gP K) fx.gt) (by rfl) zi PyProof.Rows.boot_isinstance (pa_cons (pv 0) (pa_cons (pe_cls (by rfl) (fx.mm (k := 5) rfl)) pa_nil))) pa_nil))) (pe_callTy call_int1 (by rfl) zn PyProof.Rows.boot_int (pa_cons (pe_callB (call_isX (P := gP K) fx.gt) (by rfl) zi PyProof.Rows.boot_isinstance (pa_cons (pv 0) (pa_cons (pe_cls (by rfl) (fx.mm (k := 6) rfl)) pa_nil))) pa_nil))) (pe_callTy call_int1 (by rfl) zn PyProof.Rows.boot_int (pa_cons (pe_callB (call_isX (P := gP K) fx.gt) (by rfl) zi PyProof.Rows.boot_isinstance (pa_cons (pv 0) (pa_cons (pe_cls (by rfl) (fx.mm (k := 7) rfl)) pa_nil))) pa_nil))))
      (pss_cons (ps_set (i := 1) scS.nd rfl (Or.inl rfl) (pe_op op_add (pe_op op_add (pe_op op_add (pe_op op_add (pv 1) (pe_callTy call_int1 (by rfl) zn PyProof.Rows.boot_int (pa_cons (pe_callB (call_isX (P := gP K) fx.gt) (by rfl) zi PyProof.Rows.boot_isinstance (pa_cons (pv 0) (pa_cons (pe_cls (by rfl) (fx.mm (k := 8) rfl)) pa_nil))) pa_nil))) (pe_callTy call_int1 (by rfl) zn PyProof.Rows.boot_int (pa_cons (pe_callB (call_isX (P := gP K) fx.gt) (by rfl) zi PyProof.Rows.boot_isinstance (pa_cons (pv 0) (pa_cons (pe_cls (by rfl) (fx.mm (k := 9) rfl)) pa_nil))) pa_nil))) (pe_callTy call_int1 (by rfl) zn PyProof.Rows.boot_int (pa_cons (pe_callB (call_isX (P := gP K) fx.gt) (by rfl) zi PyProof.Rows.boot_isinstance (pa_cons (pv 0) (pa_cons (pe_cls (by rfl) (fx.mm (k := 10) rfl)) pa_nil))) pa_nil))) (pe_callTy call_int1 (by rfl) zn PyProof.Rows.boot_int (pa_cons (pe_callB (call_isX (P := gP K) fx.gt) (by rfl) zi PyProof.Rows.boot_isinstance (pa_cons (pv 0) (pa_cons (pe_cls (by rfl) (fx.mm (k := 11) rfl)) pa_nil))) pa_nil))))
      (pss_cons (ps_set (i := 1) scS.nd rfl (Or.inl rfl) (pe_op op_add (pe_op op_add (pe_op op_add (pe_op op_add (pv 1) (pe_callTy call_int1 (by rfl) zn PyProof.Rows.boot_int (pa_cons (pe_callB (call_isX (P := gP K) fx.gt) (by rfl) zi PyProof.Rows.boot_isinstance (pa_cons (pv 0) (pa_cons (pe_cls (by rfl) (fx.mm (k := 12) rfl)) pa_nil))) pa_nil))) (pe_callTy call_int1 (by rfl) zn PyProof.Rows.boot_int (pa_cons (pe_callB (call_isX (P := gP K) fx.gt) (by rfl) zi PyProof.Rows.boot_isinstance (pa_cons (pv 0) (pa_cons (pe_cls (by rfl) (fx.mm (k := 13) rfl)) pa_nil))) pa_nil))) (pe_callTy call_int1 (by rfl) zn PyProof.Rows.boot_int (pa_cons (pe_callB (call_isX (P := gP K) fx.gt) (by rfl) zi PyProof.Rows.boot_isinstance (pa_cons (pv 0) (pa_cons (pe_cls (by rfl) (fx.mm (k := 14) rfl)) pa_nil))) pa_nil))) (pe_callTy call_int1 (by rfl) zn PyProof.Rows.boot_int (pa_cons (pe_callB (call_isX (P := gP K) fx.gt) (by rfl) zi PyProof.Rows.boot_isinstance (pa_cons (pv 0) (pa_cons (pe_cls (by rfl) (fx.mm (k := 15) rfl)) pa_nil))) pa_nil))))
      (pss_cons (ps_set (i := 1) scS.nd rfl (Or.inl rfl) (pe_op op_add (pe_op op_add (pe_op op_add (pe_op op_add (pv 1) (pe_callTy call_int1 (by rfl) zn PyProof.Rows.boot_int (pa_cons (pe_callB (call_isX (P := gP K) fx.gt) (by rfl) zi PyProof.Rows.boot_isinstance (pa_cons (pv 0) (pa_cons (pe_cls (by rfl) (fx.mm (k := 16) rfl)) pa_nil))) pa_nil))) (pe_callTy call_int1 (by rfl) zn PyProof.Rows.boot_int (pa_cons (pe_callB (call_isX (P := gP K) fx.gt) (by rfl) zi PyProof.Rows.boot_isinstance (pa_cons (pv 0) (pa_cons (pe_cls (by rfl) (fx.mm (k := 17) rfl)) pa_nil))) pa_nil))) (pe_callTy call_int1 (by rfl) zn PyProof.Rows.boot_int (pa_cons (pe_callB (call_isX (P := gP K) fx.gt) (by rfl) zi PyProof.Rows.boot_isinstance (pa_cons (pv 0) (pa_cons (pe_cls (by rfl) (fx.mm (k := 18) rfl)) pa_nil))) pa_nil))) (pe_callTy call_int1 (by rfl) zn PyProof.Rows.boot_int (pa_cons (pe_callB (call_isX (P := gP K) fx.gt) (by rfl) zi PyProof.Rows.boot_isinstance (pa_cons (pv 0) (pa_cons (pe_cls (by rfl) (fx.mm (k := 19) rfl)) pa_nil))) pa_nil))))
      (pss_cons (ps_set (i := 1) scS.nd rfl (Or.inl rfl) (pe_op op_add (pe_op op_add (pe_op op_add (pe_op op_add (pv 1) (pe_callTy call_int1 (by rfl) zn PyProof.Rows.boot_int (pa_cons (pe_callB (call_isX (P := gP K) fx.gt) (by rfl) zi PyProof.Rows.boot_isinstance (pa_cons (pv 0) (pa_cons (pe_cls (by rfl) (fx.mm (k := 20) rfl)) pa_nil))) pa_nil))) (pe_callTy call_int1 (by rfl) zn PyProof.Rows.boot_int (pa_cons (pe_callB (call_isX (P := gP K) fx.gt) (by rfl) zi PyProof.Rows.boot_isinstance (pa_cons (pv 0) (pa_cons (pe_cls (by rfl) (fx.mm (k := 21) rfl)) pa_nil))) pa_nil))) (pe_callTy call_int1 (by rfl) zn PyProof.Rows.boot_int (pa_cons (pe_callB (call_isX (P := gP K) fx.gt) (by rfl) zi PyProof.Rows.boot_isinstance (pa_cons (pv 0) (pa_cons (pe_cls (by rfl) (fx.mm (k := 22) rfl)) pa_nil))) pa_nil))) (pe_callTy call_int1 (by rfl) zn PyProof.Rows.boot_int (pa_cons (pe_callB (call_isX (P := gP K) fx.gt) (by rfl) zi PyProof.Rows.boot_isinstance (pa_cons (pv 0) (pa_cons (pe_cls (by rfl) (fx.mm (k := 23) rfl)) pa_nil))) pa_nil))))
      (pss_cons (ps_set (i := 1) scS.nd rfl (Or.inl rfl) (pe_op op_add (pe_op op_add (pe_op op_add (pe_op op_add (pv 1) (pe_callTy call_int1 (by rfl) zn PyProof.Rows.boot_int (pa_cons (pe_callB (call_isX (P := gP K) fx.gt) (by rfl) zi PyProof.Rows.boot_isinstance (pa_cons (pv 0) (pa_cons (pe_cls (by rfl) (fx.mm (k := 24) rfl)) pa_nil))) pa_nil))) (pe_callTy call_int1 (by rfl) zn PyProof.Rows.boot_int (pa_cons (pe_callB (call_isX (P := gP K) fx.gt) (by rfl) zi PyProof.Rows.boot_isinstance (pa_cons (pv 0) (pa_cons (pe_cls (by rfl) (fx.mm (k := 25) rfl)) pa_nil))) pa_nil))) (pe_callTy call_int1 (by rfl) zn PyProof.Rows.boot_int (pa_cons (pe_callB (call_isX (P := gP K) fx.gt) (by rfl) zi PyProof.Rows.boot_isinstance (pa_cons (pv 0) (pa_cons (pe_cls (by rfl) (fx.mm (k := 26) rfl)) pa_nil))) pa_nil))) (pe_callTy call_int1 (by rfl) zn PyProof.Rows.boot_int (pa_cons (pe_callB (call_isX (P := gP K) fx.gt) (by rfl) zi PyProof.Rows.boot_isinstance (pa_cons (pv 0) (pa_cons (pe_cls (by rfl) (fx.mm (k := 27) rfl)) pa_nil))) pa_nil))))
      (pss_cons (ps_set (i := 1) scS.nd rfl (Or.inl rfl) (pe_op op_add (pe_op op_add (pe_op op_add (pe_op op_add (pv 1) (pe_callTy call_int1 (by rfl) zn PyProof.Rows.boot_int (pa_cons (pe_callB (call_isX (P := gP K) fx.gt) (by rfl) zi PyProof.Rows.boot_isinstance (pa_cons (pv 0) (pa_cons (pe_cls (by rfl) (fx.mm (k := 28) rfl)) pa_nil))) pa_nil))) (pe_callTy call_int1 (by rfl) zn PyProof.Rows.boot_int (pa_cons (pe_callB (call_isX (P := gP K) fx.gt) (by rfl) zi PyProof.Rows.boot_isinstance (pa_cons (pv 0) (pa_cons (pe_cls (by rfl) (fx.mm (k := 29) rfl)) pa_nil))) pa_nil))) (pe_callTy call_int1 (by rfl) zn PyProof.Rows.boot_int (pa_cons (pe_callB (call_isX (P := gP K) fx.gt) (by rfl) zi PyProof.Rows.boot_isinstance (pa_cons (pv 0) (pa_cons (pe_cls (by rfl) (fx.mm (k := 30) rfl)) pa_nil))) pa_nil))) (pe_callTy call_int1 (by rfl) zn PyProof.Rows.boot_int (pa_cons (pe_callB (call_isX (P := gP K) fx.gt) (by rfl) zi PyProof.Rows.boot_isinstance (pa_cons (pv 0) (pa_cons (pe_cls (by rfl) (fx.mm (k := 31) rfl)) pa_nil))) pa_nil))))
      (pss_cons (ps_set (i := 1) scS.nd rfl (Or.inl rfl) (pe_op op_add (pe_op op_add (pe_op op_add (pe_op op_add (pv 1) (pe_callTy call_int1 (by rfl) zn PyProof.Rows.boot_int (pa_cons (pe_callB (call_isX (P := gP K) fx.gt) (by rfl) zi PyProof.Rows.boot_isinstance (pa_cons (pv 0) (pa_cons (pe_cls (by rfl) (fx.mm (k := 32) rfl)) pa_nil))) pa_nil))) (pe_callTy call_int1 (by rfl) zn PyProof.Rows.boot_int (pa_cons (pe_callB (call_isX (P := gP K) fx.gt) (by rfl) zi PyProof.Rows.boot_isinstance (pa_cons (pv 0) (pa_cons (pe_cls (by rfl) (fx.mm (k := 33) rfl)) pa_nil))) pa_nil))) (pe_callTy call_int1 (by rfl) zn PyProof.Rows.boot_int (pa_cons (pe_callB (call_isX (P := gP K) fx.gt) (by rfl) zi PyProof.Rows.boot_isinstance (pa_cons (pv 0) (pa_cons (pe_cls (by rfl) (fx.mm (k := 34) rfl)) pa_nil))) pa_nil))) (pe_callTy call_int1 (by rfl) zn PyProof.Rows.boot_int (pa_cons (pe_callB (call_isX (P := gP K) fx.gt) (by rfl) zi PyProof.Rows.boot_isinstance (pa_cons (pv 0) (pa_cons (pe_cls (by rfl) (fx.mm (k := 35) rfl)) pa_nil))) pa_nil))))
      (pss_cons (ps_set (i := 1) scS.nd rfl (Or.inl rfl) (pe_op op_add (pe_op op_add (pe_op op_add (pe_op op_add (pv 1) (pe_callTy call_int1 (by rfl) zn PyProof.Rows.boot_int (pa_cons (pe_callB (call_isX (P := gP K) fx.gt) (by rfl) zi PyProof.Rows.boot_isinstance (pa_cons (pv 0) (pa_cons (pe_cls (by rfl) (fx.mm (k := 36) rfl)) pa_nil))) pa_nil))) (pe_callTy call_int1 (by rfl) zn PyProof.Rows.boot_int (pa_cons (pe_callB (call_isX (P := gP K) fx.gt) (by rfl) zi PyProof.Rows.boot_isinstance (pa_cons (pv 0) (pa_cons (pe_cls (by rfl) (fx.mm (k := 37) rfl)) pa_nil))) pa_nil))) (pe_callTy call_int1 (by rfl) zn PyProof.Rows.boot_int (pa_cons (pe_callB (call_isX (P := gP K) fx.gt) (by rfl) zi PyProof.Rows.boot_isinstance (pa_cons (pv 0) (pa_cons (pe_cls (by rfl) (fx.mm (k := 38) rfl)) pa_nil))) pa_nil))) (pe_callTy call_int1 (by rfl) zn PyProof.Rows.boot_int (pa_cons (pe_callB (call_isX (P := gP K) fx.gt) (by rfl) zi PyProof.Rows.boot_isinstance (pa_cons (pv 0) (pa_cons (pe_cls (by rfl) (fx.mm (k := 39) rfl)) pa_nil))) pa_nil))))
      (pss_cons (ps_set (i := 1) scS.nd rfl (Or.inl rfl) (pe_op op_add (pe_op op_add (pv 1) (pe_callTy call_int1 (by rfl) zn PyProof.Rows.boot_int (pa_cons (pe_callB (call_isX (P := gP K) fx.gt) (by rfl) zi PyProof.Rows.boot_isinstance (pa_cons (pv 0) (pa_cons (pe_cls (by rfl) (fx.mm (k := 40) rfl)) pa_nil))) pa_nil))) (pe_callTy call_int1 (by rfl) zn PyProof.Rows.boot_int (pa_cons (pe_callB (call_isX (P := gP K) fx.gt) (by rfl) zi PyProof.Rows.boot_isinstance (pa_cons (pv 0) (pa_cons (pe_cls (by rfl) (fx.mm (k := 41) rfl)) pa_nil))) pa_nil))))
      (pss_one (ps_ret (pe_cmpR op_eq (pv 1) pe_int (nomark _))))))))))))))))), ?_⟩
    refine ⟨_, rfl, a, _, fs, _, _, _, rfl, ea, er, rfl, fx.up hk, _, rfl, iteF' rfl ?_⟩
    refine ⟨_, rfl, a, _, fs, _, _, _, rfl, ea, er, rfl, er.ve, _, rfl, iteF' rfl ?_⟩
    refine ⟨_, rfl, ?_⟩
    refine ⟨_, rfl, a, _, fs, _, _, _, rfl, ea, er, rfl, fx.one (j := 0) hk rfl, .inr ⟨_, rfl, _, _, rfl, rfl, ?_⟩⟩
    refine ⟨_, rfl, a, _, fs, _, _, _, rfl, ea, er, rfl, fx.one (j := 1) hk rfl, .inr ⟨_, rfl, _, _, rfl, rfl, ?_⟩⟩
    refine ⟨_, rfl, a, _, fs, _, _, _, rfl, ea, er, rfl, fx.one (j := 2) hk rfl, .inr ⟨_, rfl, _, _, rfl, rfl, ?_⟩⟩
    refine ⟨_, rfl, a, _, fs, _, _, _, rfl, ea, er, rfl, fx.one (j := 3) hk rfl, .inr ⟨_, rfl, _, _, rfl, rfl, ?_⟩⟩
    refine ⟨_, rfl, ?_⟩
    refine ⟨_, rfl, a, _, fs, _, _, _, rfl, ea, er, rfl, fx.one (j := 4) hk rfl, .inr ⟨_, rfl, _, _, rfl, rfl, ?_⟩⟩
    refine ⟨_, rfl, a, _, fs, _, _, _, rfl, ea, er, rfl, fx.one (j := 5) hk rfl, .inr ⟨_, rfl, _, _, rfl, rfl, ?_⟩⟩
    refine ⟨_, rfl, a, _, fs, _, _, _, rfl, ea, er, rfl, fx.one (j := 6) hk rfl, .inr ⟨_, rfl, _, _, rfl, rfl, ?_⟩⟩
    refine ⟨_, rfl, a, _, fs, _, _, _, rfl, ea, er, rfl, fx.one (j := 7) hk rfl, .inr ⟨_, rfl, _, _, rfl, rfl, ?_⟩⟩
    refine ⟨_, rfl, ?_⟩
    refine ⟨_, rfl, a, _, fs, _, _, _, rfl, ea, er, rfl, fx.one (j := 8) hk rfl, .inr ⟨_, rfl, _, _, rfl, rfl, ?_⟩⟩
    refine ⟨_, rfl, a, _, fs, _, _, _, rfl, ea, er, rfl, fx.one (j := 9) hk rfl, .inr ⟨_, rfl, _, _, rfl, rfl, ?_⟩⟩
    refine ⟨_, rfl, a, _, fs, _, _, _, rfl, ea, er, rfl, fx.one (j := 10) hk rfl, .inr ⟨_, rfl, _, _, rfl, rfl, ?_⟩⟩
    refine ⟨_, rfl, a, _, fs, _, _, _, rfl, ea, er, rfl, fx.one (j := 11) hk rfl, .inr ⟨_, rfl, _, _, rfl, rfl, ?_⟩⟩
    refine ⟨_, rfl, ?_⟩
    refine ⟨_, rfl, a, _, fs, _, _, _, rfl, ea, er, rfl, fx.one (j := 12) hk rfl, .inr ⟨_, rfl, _, _, rfl, rfl, ?_⟩⟩
    refine ⟨_, rfl, a, _, fs, _, _, _, rfl, ea, er, rfl, fx.one (j := 13) hk rfl, .inr ⟨_, rfl, _, _, rfl, rfl, ?_⟩⟩
    refine ⟨_, rfl, a, _, fs, _, _, _, rfl, ea, er, rfl, fx.one (j := 14) hk rfl, .inr ⟨_, rfl, _, _, rfl, rfl, ?_⟩⟩
    refine ⟨_, rfl, a, _, fs, _, _, _, rfl, ea, er, rfl, fx.one (j := 15) hk rfl, .inr ⟨_, rfl, _, _, rfl, rfl, ?_⟩⟩
    refine ⟨_, rfl, ?_⟩
    refine ⟨_, rfl, a, _, fs, _, _, _, rfl, ea, er, rfl, fx.one (j := 16) hk rfl, .inr ⟨_, rfl, _, _, rfl, rfl, ?_⟩⟩
    refine ⟨_, rfl, a, _, fs, _, _, _, rfl, ea, er, rfl, fx.one (j := 17) hk rfl, .inr ⟨_, rfl, _, _, rfl, rfl, ?_⟩⟩
    refine ⟨_, rfl, a, _, fs, _, _, _, rfl, ea, er, rfl, fx.one (j := 18) hk rfl, .inr ⟨_, rfl, _, _, rfl, rfl, ?_⟩⟩
    refine ⟨_, rfl, a, _, fs, _, _, _, rfl, ea, er, rfl, fx.one (j := 19) hk rfl, .inr ⟨_, rfl, _, _, rfl, rfl, ?_⟩⟩
    refine ⟨_, rfl, ?_⟩
    refine ⟨_, rfl, a, _, fs, _, _, _, rfl, ea, er, rfl, fx.one (j := 20) hk rfl, .inr ⟨_, rfl, _, _, rfl, rfl, ?_⟩⟩
    refine ⟨_, rfl, a, _, fs, _, _, _, rfl, ea, er, rfl, fx.one (j := 21) hk rfl, .inr ⟨_, rfl, _, _, rfl, rfl, ?_⟩⟩
    refine ⟨_, rfl, a, _, fs, _, _, _, rfl, ea, er, rfl, fx.one (j := 22) hk rfl, .inr ⟨_, rfl, _, _, rfl, rfl, ?_⟩⟩
    refine ⟨_, rfl, a, _, fs, _, _, _, rfl, ea, er, rfl, fx.one (j := 23) hk rfl, .inr ⟨_, rfl, _, _, rfl, rfl, ?_⟩⟩
    refine ⟨_, rfl, ?_⟩
    refine ⟨_, rfl, a, _, fs, _, _, _, rfl, ea, er, rfl, fx.one (j := 24) hk rfl, .inr ⟨_, rfl, _, _, rfl, rfl, ?_⟩⟩
    refine ⟨_, rfl, a, _, fs, _, _, _, rfl, ea, er, rfl, fx.one (j := 25) hk rfl, .inr ⟨_, rfl, _, _, rfl, rfl, ?_⟩⟩
    refine ⟨_, rfl, a, _, fs, _, _, _, rfl, ea, er, rfl, fx.one (j := 26) hk rfl, .inr ⟨_, rfl, _, _, rfl, rfl, ?_⟩⟩
    refine ⟨_, rfl, a, _, fs, _, _, _, rfl, ea, er, rfl, fx.one (j := 27) hk rfl, .inr ⟨_, rfl, _, _, rfl, rfl, ?_⟩⟩
    refine ⟨_, rfl, ?_⟩
    refine ⟨_, rfl, a, _, fs, _, _, _, rfl, ea, er, rfl, fx.one (j := 28) hk rfl, .inr ⟨_, rfl, _, _, rfl, rfl, ?_⟩⟩
    refine ⟨_, rfl, a, _, fs, _, _, _, rfl, ea, er, rfl, fx.one (j := 29) hk rfl, .inr ⟨_, rfl, _, _, rfl, rfl, ?_⟩⟩
    refine ⟨_, rfl, a, _, fs, _, _, _, rfl, ea, er, rfl, fx.one (j := 30) hk rfl, .inr ⟨_, rfl, _, _, rfl, rfl, ?_⟩⟩
    refine ⟨_, rfl, a, _, fs, _, _, _, rfl, ea, er, rfl, fx.one (j := 31) hk rfl, .inr ⟨_, rfl, _, _, rfl, rfl, ?_⟩⟩
    refine ⟨_, rfl, ?_⟩
    refine ⟨_, rfl, a, _, fs, _, _, _, rfl, ea, er, rfl, fx.one (j := 32) hk rfl, .inr ⟨_, rfl, _, _, rfl, rfl, ?_⟩⟩
    refine ⟨_, rfl, a, _, fs, _, _, _, rfl, ea, er, rfl, fx.one (j := 33) hk rfl, .inr ⟨_, rfl, _, _, rfl, rfl, ?_⟩⟩
    refine ⟨_, rfl, a, _, fs, _, _, _, rfl, ea, er, rfl, fx.one (j := 34) hk rfl, .inr ⟨_, rfl, _, _, rfl, rfl, ?_⟩⟩
    refine ⟨_, rfl, a, _, fs, _, _, _, rfl, ea, er, rfl, fx.one (j := 35) hk rfl, .inr ⟨_, rfl, _, _, rfl, rfl, ?_⟩⟩
    refine ⟨_, rfl, ?_⟩
    refine ⟨_, rfl, a, _, fs, _, _, _, rfl, ea, er, rfl, fx.one (j := 36) hk rfl, .inr ⟨_, rfl, _, _, rfl, rfl, ?_⟩⟩
    refine ⟨_, rfl, a, _, fs, _, _, _, rfl, ea, er, rfl, fx.one (j := 37) hk rfl, .inr ⟨_, rfl, _, _, rfl, rfl, ?_⟩⟩
    refine ⟨_, rfl, a, _, fs, _, _, _, rfl, ea, er, rfl, fx.one (j := 38) hk rfl, .inr ⟨_, rfl, _, _, rfl, rfl, ?_⟩⟩
    refine ⟨_, rfl, a, _, fs, _, _, _, rfl, ea, er, rfl, fx.one (j := 39) hk rfl, .inr ⟨_, rfl, _, _, rfl, rfl, ?_⟩⟩
    refine ⟨_, rfl, ?_⟩
    refine ⟨_, rfl, a, _, fs, _, _, _, rfl, ea, er, rfl, fx.one (j := 40) hk rfl, .inr ⟨_, rfl, _, _, rfl, rfl, ?_⟩⟩
    refine ⟨_, rfl, a, _, fs, _, _, _, rfl, ea, er, rfl, fx.one (j := 41) hk rfl, .inr ⟨_, rfl, _, _, rfl, rfl, ?_⟩⟩
    refine ⟨_, rfl, rfl, ?_⟩
    have e := tot k (errs_lt hk)
    have e2 : decide (V.int _ = V.int 1) = true := decide_eq_true (congrArg V.int e)
    exact Eq.mp (congrArg (fun b => Q (.bl b) H) e2.symm) kQ
end
end Km
namespace Kn
open PySem PySem.Spec PyProof.Rows L2 Kx Kf Kg Ky Kl Kq Km
abbrev sBareF : Stmt := Kq.top 49
abbrev sBareL : Stmt := Kq.top 50
abbrev sToldF : Stmt := Kq.top 51
abbrev sToldL : Stmt := Kq.top 52
/-- all that stood stands, and True comes out -/
def spYes : Sp := fun vs H Q _ => vs = [] ∧ ∀ H', Same H H' → Q (.bl true) H'
/-- data that equals itself -/
structure Dat (K : PySem.W.Frag) (H : Hp) (v : V) (d : PyData) : Prop where
  dp : Dp K H v d
  sh : SeqAt.shaped d = true
  eq : PyData.eqv d d = true
  as : v = .non ∨ (∃ i, v = .int i) ∨ (∃ x, v = .str x) ∨ ∃ t i j, v = .ref t ∧ d = .tuple [.int i, .int j] ∧ SqT K H t [.int i, .int j]
theorem Dat.same {K : PySem.W.Frag} {H H' : Hp} {v : V} {d : PyData} (s : Same H H') (h : Dat K H v d) : Dat K H' v d := by
  obtain ⟨dp, sh, eq, as⟩ := h
  rcases as with rfl | ⟨i, rfl⟩ | ⟨x, rfl⟩ | ⟨t, i, j, rfl, rfl, ht⟩
  · cases dp
    exact ⟨.non, sh, eq, .inl rfl⟩
  · cases dp
    exact ⟨.int i, sh, eq, .inr (.inl ⟨i, rfl⟩)⟩
  · cases dp
    exact ⟨.str x, sh, eq, .inr (.inr (.inl ⟨x, rfl⟩))⟩
  · have h2 : SqT K H' t [.int i, .int j] := Evl.ex_t s ht
    exact ⟨.tup h2 (.cons (.int i) (.cons (.int j) .nil)), sh, eq, .inr (.inr (.inr ⟨t, i, j, rfl, rfl, h2⟩))⟩
def spTold (K : PySem.W.Frag) : Sp := fun vs H Q _ => ∃ (x y : V) (d e : PyData), vs = [x, y] ∧ Dat K H x d ∧ Dat K H y e ∧ ∀ H', Same H H' → Q (.bl true) H'
theorem lk1 {f : Str} {x : V} : (fl1 f [x]).lookup f = some x := by
  show ([(f, x)] : List (Str × V)).lookup f = some x
  rw [lookup_put, if_pos rfl]
theorem lk2a {f g : Str} {x y : V} (h : f ≠ g) : (fl2 f g [x, y]).lookup f = some x := by
  show ([(g, y), (f, x)] : List (Str × V)).lookup f = some x
  rw [lookup_put, if_neg h, lookup_put, if_pos rfl]
theorem lk2b {f g : Str} {x y : V} : (fl2 f g [x, y]).lookup g = some y := by
  show ([(g, y), (f, x)] : List (Str × V)).lookup g = some y
  rw [lookup_put, if_pos rfl]
theorem exNew {H : Hp} {a C : Addr} : ExAt (upd H a (exo a C none)) a C [] := .inl ⟨rfl, upd_same⟩
theorem same_new {H : Hp} {a : Addr} {o : HO} (h : H a = none) : Same H (upd H a o) := fun b u e => by
  rw [upd_ne (ne_of_none e h)]
  exact e
theorem same_in {H H' : Hp} {a : Addr} {o : HO} (h : H a = none) (k : ∀ b u, b ≠ a → (upd H a o) b = some u → H' b = some u) : Same H H' := fun b u e =>
  k b u (ne_of_none e h) (by rw [upd_ne (ne_of_none e h)]; exact e)
section
variable {P : Program} {w : World} {K : PySem.W.Frag} {mg : Str → Option Value} {base : Heap} {f fS : Addr} {fd fdS : FuncData}
theorem sc_bareF : FnScope ["_law_told"] [] (defScope sBareF) := ⟨rfl, rfl, rfl, by decide +kernel, rfl, by decide +kernel, by decide +kernel⟩
theorem ok_bareF (F : FnP K "_law_bare_first" sBareF f fd) (FS : FnP K "_law_single" sSingle fS fdS) (zs : mg "_law_single" = some (.ref fS)) (fx : Fx K mg) : FnOk P w K mg base CX0 2 f fd [] spYes := by
  have zi : mg "isinstance" = none := fx.fr _ (List.mem_of_getElem? (i := 3) rfl)
  have GS : FnOk P w K mg base CX0 1 fS fdS ["_law_told"] (spSingle K) := ok_single FS fx
  have bS : L2.Binds K fdS ["_law_told"] [] := FS.bindsN fun _ _ _ _ _ _ us hl => match us, hl with | [_], _ => rfl
  refine F.ok sc_bareF (fun vs H Q E h => ?_) (fun cdv A outer s H vs Q E hr1 h => ?_)
  · obtain ⟨rfl, _⟩ := h
    rfl
  · obtain ⟨rfl, k⟩ := h
    refine ⟨_, PSs.nox (pss_cons (ps_set (i := 0) sc_bareF.nd rfl (Or.inl rfl) (pe_bare (fx.b "DividedByNought" (List.mem_of_getElem? (i := 0) rfl)) (fx.mm (k := 1) rfl) (fx.er (k := 1) rfl).ox.kC (by rfl)))
      (pss_cons (ps_if (PW.pt (pw_or (pt_not (pt_val (pe_callB (call_isX (P := gP K) fx.gt) (by rfl) zi PyProof.Rows.boot_isinstance (pa_cons (pv 0) (pa_cons (pe_cls (by rfl) (fx.mm (k := 1) rfl)) pa_nil))))) (pw_or1 (pt_not (pt_val (pe_call GS hr1 (by rfl) zs FS.kp bS .nil pass0 (pa_cons (pv 0) pa_nil))))))) (pss_one (ps_ret pe_bl)) pss_nil)
      (pss_cons (ps_set (i := 0) sc_bareF.nd rfl (Or.inl rfl) (pe_bare (fx.b "BadNumber" (List.mem_of_getElem? (i := 1) rfl)) (fx.mm (k := 3) rfl) (fx.er (k := 3) rfl).ox.kC (by rfl)))
      (pss_cons (ps_if (PW.pt (pw_or (pt_not (pt_val (pe_callB (call_isX (P := gP K) fx.gt) (by rfl) zi PyProof.Rows.boot_isinstance (pa_cons (pv 0) (pa_cons (pe_cls (by rfl) (fx.mm (k := 3) rfl)) pa_nil))))) (pw_or1 (pt_not (pt_val (pe_call GS hr1 (by rfl) zs FS.kp bS .nil pass0 (pa_cons (pv 0) pa_nil))))))) (pss_one (ps_ret pe_bl)) pss_nil)
      (pss_cons (ps_set (i := 0) sc_bareF.nd rfl (Or.inl rfl) (pe_bare (fx.b "Unlike" (List.mem_of_getElem? (i := 2) rfl)) (fx.mm (k := 8) rfl) (fx.er (k := 8) rfl).ox.kC (by rfl)))
      (pss_cons (ps_if (PW.pt (pw_or (pt_not (pt_val (pe_callB (call_isX (P := gP K) fx.gt) (by rfl) zi PyProof.Rows.boot_isinstance (pa_cons (pv 0) (pa_cons (pe_cls (by rfl) (fx.mm (k := 8) rfl)) pa_nil))))) (pw_or1 (pt_not (pt_val (pe_call GS hr1 (by rfl) zs FS.kp bS .nil pass0 (pa_cons (pv 0) pa_nil))))))) (pss_one (ps_ret pe_bl)) pss_nil)
      (pss_cons (ps_set (i := 0) sc_bareF.nd rfl (Or.inl rfl) (pe_bare (fx.b "NotOnce" (List.mem_of_getElem? (i := 3) rfl)) (fx.mm (k := 11) rfl) (fx.er (k := 11) rfl).ox.kC (by rfl)))
      (pss_cons (ps_if (PW.pt (pw_or (pt_not (pt_val (pe_callB (call_isX (P := gP K) fx.gt) (by rfl) zi PyProof.Rows.boot_isinstance (pa_cons (pv 0) (pa_cons (pe_cls (by rfl) (fx.mm (k := 11) rfl)) pa_nil))))) (pw_or1 (pt_not (pt_val (pe_call GS hr1 (by rfl) zs FS.kp bS .nil pass0 (pa_cons (pv 0) pa_nil))))))) (pss_one (ps_ret pe_bl)) pss_nil)
      (pss_cons (ps_set (i := 0) sc_bareF.nd rfl (Or.inl rfl) (pe_bare (fx.b "BadSize" (List.mem_of_getElem? (i := 4) rfl)) (fx.mm (k := 12) rfl) (fx.er (k := 12) rfl).ox.kC (by rfl)))
      (pss_cons (ps_if (PW.pt (pw_or (pt_not (pt_val (pe_callB (call_isX (P := gP K) fx.gt) (by rfl) zi PyProof.Rows.boot_isinstance (pa_cons (pv 0) (pa_cons (pe_cls (by rfl) (fx.mm (k := 12) rfl)) pa_nil))))) (pw_or1 (pt_not (pt_val (pe_call GS hr1 (by rfl) zs FS.kp bS .nil pass0 (pa_cons (pv 0) pa_nil))))))) (pss_one (ps_ret pe_bl)) pss_nil)
      (pss_cons (ps_set (i := 0) sc_bareF.nd rfl (Or.inl rfl) (pe_bare (fx.b "BadBlock" (List.mem_of_getElem? (i := 5) rfl)) (fx.mm (k := 18) rfl) (fx.er (k := 18) rfl).ox.kC (by rfl)))
      (pss_cons (ps_if (PW.pt (pw_or (pt_not (pt_val (pe_callB (call_isX (P := gP K) fx.gt) (by rfl) zi PyProof.Rows.boot_isinstance (pa_cons (pv 0) (pa_cons (pe_cls (by rfl) (fx.mm (k := 18) rfl)) pa_nil))))) (pw_or1 (pt_not (pt_val (pe_call GS hr1 (by rfl) zs FS.kp bS .nil pass0 (pa_cons (pv 0) pa_nil))))))) (pss_one (ps_ret pe_bl)) pss_nil)
      (pss_cons (ps_set (i := 0) sc_bareF.nd rfl (Or.inl rfl) (pe_bare (fx.b "NotApart" (List.mem_of_getElem? (i := 6) rfl)) (fx.mm (k := 19) rfl) (fx.er (k := 19) rfl).ox.kC (by rfl)))
      (pss_cons (ps_if (PW.pt (pw_or (pt_not (pt_val (pe_callB (call_isX (P := gP K) fx.gt) (by rfl) zi PyProof.Rows.boot_isinstance (pa_cons (pv 0) (pa_cons (pe_cls (by rfl) (fx.mm (k := 19) rfl)) pa_nil))))) (pw_or1 (pt_not (pt_val (pe_call GS hr1 (by rfl) zs FS.kp bS .nil pass0 (pa_cons (pv 0) pa_nil))))))) (pss_one (ps_ret pe_bl)) pss_nil)
      (pss_cons (ps_set (i := 0) sc_bareF.nd rfl (Or.inl rfl) (pe_bare (fx.b "NoEnd" (List.mem_of_getElem? (i := 7) rfl)) (fx.mm (k := 20) rfl) (fx.er (k := 20) rfl).ox.kC (by rfl)))
      (pss_cons (ps_if (PW.pt (pw_or (pt_not (pt_val (pe_callB (call_isX (P := gP K) fx.gt) (by rfl) zi PyProof.Rows.boot_isinstance (pa_cons (pv 0) (pa_cons (pe_cls (by rfl) (fx.mm (k := 20) rfl)) pa_nil))))) (pw_or1 (pt_not (pt_val (pe_call GS hr1 (by rfl) zs FS.kp bS .nil pass0 (pa_cons (pv 0) pa_nil))))))) (pss_one (ps_ret pe_bl)) pss_nil)
      (pss_cons (ps_set (i := 0) sc_bareF.nd rfl (Or.inl rfl) (pe_bare (fx.b "BadSide" (List.mem_of_getElem? (i := 8) rfl)) (fx.mm (k := 23) rfl) (fx.er (k := 23) rfl).ox.kC (by rfl)))
      (pss_cons (ps_if (PW.pt (pw_or (pt_not (pt_val (pe_callB (call_isX (P := gP K) fx.gt) (by rfl) zi PyProof.Rows.boot_isinstance (pa_cons (pv 0) (pa_cons (pe_cls (by rfl) (fx.mm (k := 23) rfl)) pa_nil))))) (pw_or1 (pt_not (pt_val (pe_call GS hr1 (by rfl) zs FS.kp bS .nil pass0 (pa_cons (pv 0) pa_nil))))))) (pss_one (ps_ret pe_bl)) pss_nil)
      (pss_cons (ps_set (i := 0) sc_bareF.nd rfl (Or.inl rfl) (pe_bare (fx.b "BadSplit" (List.mem_of_getElem? (i := 9) rfl)) (fx.mm (k := 26) rfl) (fx.er (k := 26) rfl).ox.kC (by rfl)))
      (pss_cons (ps_if (PW.pt (pw_or (pt_not (pt_val (pe_callB (call_isX (P := gP K) fx.gt) (by rfl) zi PyProof.Rows.boot_isinstance (pa_cons (pv 0) (pa_cons (pe_cls (by rfl) (fx.mm (k := 26) rfl)) pa_nil))))) (pw_or1 (pt_not (pt_val (pe_call GS hr1 (by rfl) zs FS.kp bS .nil pass0 (pa_cons (pv 0) pa_nil))))))) (pss_one (ps_ret pe_bl)) pss_nil)
      (pss_one (ps_ret pe_bl)))))))))))))))))))))), ?_⟩
    refine fun a0 h0 => ?_
    have s1 := (Same.refl H).trans (same_new (o := exo a0 (He.ga K "DividedByNought") none) h0)
    refine ⟨_, rfl, a0, _, [], _, _, _, rfl, exNew, (fx.er (k := 1) rfl), rfl, fx.one (k := 1) (j := 1) rfl rfl, _, rfl, iteF' (by decide) ?_⟩
    refine ⟨_, rfl, a0, 1, "DividedByNought", [], rfl, rfl, exNew, _, rfl, iteF' rfl ?_⟩
    refine fun a1 h1 => ?_
    have s2 := (s1).trans (same_new (o := exo a1 (He.ga K "BadNumber") none) h1)
    refine ⟨_, rfl, a1, _, [], _, _, _, rfl, exNew, (fx.er (k := 3) rfl), rfl, fx.one (k := 3) (j := 3) rfl rfl, _, rfl, iteF' (by decide) ?_⟩
    refine ⟨_, rfl, a1, 3, "BadNumber", [], rfl, rfl, exNew, _, rfl, iteF' rfl ?_⟩
    refine fun a2 h2 => ?_
    have s3 := (s2).trans (same_new (o := exo a2 (He.ga K "Unlike") none) h2)
    refine ⟨_, rfl, a2, _, [], _, _, _, rfl, exNew, (fx.er (k := 8) rfl), rfl, fx.one (k := 8) (j := 8) rfl rfl, _, rfl, iteF' (by decide) ?_⟩
    refine ⟨_, rfl, a2, 8, "Unlike", [], rfl, rfl, exNew, _, rfl, iteF' rfl ?_⟩
    refine fun a3 h3 => ?_
    have s4 := (s3).trans (same_new (o := exo a3 (He.ga K "NotOnce") none) h3)
    refine ⟨_, rfl, a3, _, [], _, _, _, rfl, exNew, (fx.er (k := 11) rfl), rfl, fx.one (k := 11) (j := 11) rfl rfl, _, rfl, iteF' (by decide) ?_⟩
    refine ⟨_, rfl, a3, 11, "NotOnce", [], rfl, rfl, exNew, _, rfl, iteF' rfl ?_⟩
    refine fun a4 h4 => ?_
    have s5 := (s4).trans (same_new (o := exo a4 (He.ga K "BadSize") none) h4)
    refine ⟨_, rfl, a4, _, [], _, _, _, rfl, exNew, (fx.er (k := 12) rfl), rfl, fx.one (k := 12) (j := 12) rfl rfl, _, rfl, iteF' (by decide) ?_⟩
    refine ⟨_, rfl, a4, 12, "BadSize", [], rfl, rfl, exNew, _, rfl, iteF' rfl ?_⟩
    refine fun a5 h5 => ?_
    have s6 := (s5).trans (same_new (o := exo a5 (He.ga K "BadBlock") none) h5)
    refine ⟨_, rfl, a5, _, [], _, _, _, rfl, exNew, (fx.er (k := 18) rfl), rfl, fx.one (k := 18) (j := 18) rfl rfl, _, rfl, iteF' (by decide) ?_⟩
    refine ⟨_, rfl, a5, 18, "BadBlock", [], rfl, rfl, exNew, _, rfl, iteF' rfl ?_⟩
    refine fun a6 h6 => ?_
    have s7 := (s6).trans (same_new (o := exo a6 (He.ga K "NotApart") none) h6)
    refine ⟨_, rfl, a6, _, [], _, _, _, rfl, exNew, (fx.er (k := 19) rfl), rfl, fx.one (k := 19) (j := 19) rfl rfl, _, rfl, iteF' (by decide) ?_⟩
    refine ⟨_, rfl, a6, 19, "NotApart", [], rfl, rfl, exNew, _, rfl, iteF' rfl ?_⟩
    refine fun a7 h7 => ?_
    have s8 := (s7).trans (same_new (o := exo a7 (He.ga K "NoEnd") none) h7)
    refine ⟨_, rfl, a7, _, [], _, _, _, rfl, exNew, (fx.er (k := 20) rfl), rfl, fx.one (k := 20) (j := 20) rfl rfl, _, rfl, iteF' (by decide) ?_⟩
    refine ⟨_, rfl, a7, 20, "NoEnd", [], rfl, rfl, exNew, _, rfl, iteF' rfl ?_⟩
    refine fun a8 h8 => ?_
    have s9 := (s8).trans (same_new (o := exo a8 (He.ga K "BadSide") none) h8)
    refine ⟨_, rfl, a8, _, [], _, _, _, rfl, exNew, (fx.er (k := 23) rfl), rfl, fx.one (k := 23) (j := 23) rfl rfl, _, rfl, iteF' (by decide) ?_⟩
    refine ⟨_, rfl, a8, 23, "BadSide", [], rfl, rfl, exNew, _, rfl, iteF' rfl ?_⟩
    refine fun a9 h9 => ?_
    have s10 := (s9).trans (same_new (o := exo a9 (He.ga K "BadSplit") none) h9)
    refine ⟨_, rfl, a9, _, [], _, _, _, rfl, exNew, (fx.er (k := 26) rfl), rfl, fx.one (k := 26) (j := 26) rfl rfl, _, rfl, iteF' (by decide) ?_⟩
    refine ⟨_, rfl, a9, 26, "BadSplit", [], rfl, rfl, exNew, _, rfl, iteF' rfl ?_⟩
    exact k _ s10
theorem sc_bareL : FnScope ["_law_told"] [] (defScope sBareL) := ⟨rfl, rfl, rfl, by decide +kernel, rfl, by decide +kernel, by decide +kernel⟩
theorem ok_bareL (F : FnP K "_law_bare_last" sBareL f fd) (FS : FnP K "_law_single" sSingle fS fdS) (zs : mg "_law_single" = some (.ref fS)) (fx : Fx K mg) : FnOk P w K mg base CX0 2 f fd [] spYes := by
  have zi : mg "isinstance" = none := fx.fr _ (List.mem_of_getElem? (i := 3) rfl)
  have GS : FnOk P w K mg base CX0 1 fS fdS ["_law_told"] (spSingle K) := ok_single FS fx
  have bS : L2.Binds K fdS ["_law_told"] [] := FS.bindsN fun _ _ _ _ _ _ us hl => match us, hl with | [_], _ => rfl
  refine F.ok sc_bareL (fun vs H Q E h => ?_) (fun cdv A outer s H vs Q E hr1 h => ?_)
  · obtain ⟨rfl, _⟩ := h
    rfl
  · obtain ⟨rfl, k⟩ := h
    refine ⟨_, PSs.nox (pss_cons (ps_set (i := 0) sc_bareL.nd rfl (Or.inl rfl) (pe_bare (fx.b "NotSuch" (List.mem_of_getElem? (i := 10) rfl)) (fx.mm (k := 27) rfl) (fx.er (k := 27) rfl).ox.kC (by rfl)))
      (pss_cons (ps_if (PW.pt (pw_or (pt_not (pt_val (pe_callB (call_isX (P := gP K) fx.gt) (by rfl) zi PyProof.Rows.boot_isinstance (pa_cons (pv 0) (pa_cons (pe_cls (by rfl) (fx.mm (k := 27) rfl)) pa_nil))))) (pw_or1 (pt_not (pt_val (pe_call GS hr1 (by rfl) zs FS.kp bS .nil pass0 (pa_cons (pv 0) pa_nil))))))) (pss_one (ps_ret pe_bl)) pss_nil)
      (pss_cons (ps_set (i := 0) sc_bareL.nd rfl (Or.inl rfl) (pe_bare (fx.b "NotFractions" (List.mem_of_getElem? (i := 11) rfl)) (fx.mm (k := 28) rfl) (fx.er (k := 28) rfl).ox.kC (by rfl)))
      (pss_cons (ps_if (PW.pt (pw_or (pt_not (pt_val (pe_callB (call_isX (P := gP K) fx.gt) (by rfl) zi PyProof.Rows.boot_isinstance (pa_cons (pv 0) (pa_cons (pe_cls (by rfl) (fx.mm (k := 28) rfl)) pa_nil))))) (pw_or1 (pt_not (pt_val (pe_call GS hr1 (by rfl) zs FS.kp bS .nil pass0 (pa_cons (pv 0) pa_nil))))))) (pss_one (ps_ret pe_bl)) pss_nil)
      (pss_cons (ps_set (i := 0) sc_bareL.nd rfl (Or.inl rfl) (pe_bare (fx.b "TooWide" (List.mem_of_getElem? (i := 12) rfl)) (fx.mm (k := 30) rfl) (fx.er (k := 30) rfl).ox.kC (by rfl)))
      (pss_cons (ps_if (PW.pt (pw_or (pt_not (pt_val (pe_callB (call_isX (P := gP K) fx.gt) (by rfl) zi PyProof.Rows.boot_isinstance (pa_cons (pv 0) (pa_cons (pe_cls (by rfl) (fx.mm (k := 30) rfl)) pa_nil))))) (pw_or1 (pt_not (pt_val (pe_call GS hr1 (by rfl) zs FS.kp bS .nil pass0 (pa_cons (pv 0) pa_nil))))))) (pss_one (ps_ret pe_bl)) pss_nil)
      (pss_cons (ps_set (i := 0) sc_bareL.nd rfl (Or.inl rfl) (pe_bare (fx.b "BadTimes" (List.mem_of_getElem? (i := 13) rfl)) (fx.mm (k := 31) rfl) (fx.er (k := 31) rfl).ox.kC (by rfl)))
      (pss_cons (ps_if (PW.pt (pw_or (pt_not (pt_val (pe_callB (call_isX (P := gP K) fx.gt) (by rfl) zi PyProof.Rows.boot_isinstance (pa_cons (pv 0) (pa_cons (pe_cls (by rfl) (fx.mm (k := 31) rfl)) pa_nil))))) (pw_or1 (pt_not (pt_val (pe_call GS hr1 (by rfl) zs FS.kp bS .nil pass0 (pa_cons (pv 0) pa_nil))))))) (pss_one (ps_ret pe_bl)) pss_nil)
      (pss_cons (ps_set (i := 0) sc_bareL.nd rfl (Or.inl rfl) (pe_bare (fx.b "BadPairs" (List.mem_of_getElem? (i := 14) rfl)) (fx.mm (k := 32) rfl) (fx.er (k := 32) rfl).ox.kC (by rfl)))
      (pss_cons (ps_if (PW.pt (pw_or (pt_not (pt_val (pe_callB (call_isX (P := gP K) fx.gt) (by rfl) zi PyProof.Rows.boot_isinstance (pa_cons (pv 0) (pa_cons (pe_cls (by rfl) (fx.mm (k := 32) rfl)) pa_nil))))) (pw_or1 (pt_not (pt_val (pe_call GS hr1 (by rfl) zs FS.kp bS .nil pass0 (pa_cons (pv 0) pa_nil))))))) (pss_one (ps_ret pe_bl)) pss_nil)
      (pss_cons (ps_set (i := 0) sc_bareL.nd rfl (Or.inl rfl) (pe_bare (fx.b "NotShared" (List.mem_of_getElem? (i := 15) rfl)) (fx.mm (k := 33) rfl) (fx.er (k := 33) rfl).ox.kC (by rfl)))
      (pss_cons (ps_if (PW.pt (pw_or (pt_not (pt_val (pe_callB (call_isX (P := gP K) fx.gt) (by rfl) zi PyProof.Rows.boot_isinstance (pa_cons (pv 0) (pa_cons (pe_cls (by rfl) (fx.mm (k := 33) rfl)) pa_nil))))) (pw_or1 (pt_not (pt_val (pe_call GS hr1 (by rfl) zs FS.kp bS .nil pass0 (pa_cons (pv 0) pa_nil))))))) (pss_one (ps_ret pe_bl)) pss_nil)
      (pss_cons (ps_set (i := 0) sc_bareL.nd rfl (Or.inl rfl) (pe_bare (fx.b "NothingDone" (List.mem_of_getElem? (i := 16) rfl)) (fx.mm (k := 41) rfl) (fx.er (k := 41) rfl).ox.kC (by rfl)))
      (pss_cons (ps_if (PW.pt (pw_or (pt_not (pt_val (pe_callB (call_isX (P := gP K) fx.gt) (by rfl) zi PyProof.Rows.boot_isinstance (pa_cons (pv 0) (pa_cons (pe_cls (by rfl) (fx.mm (k := 41) rfl)) pa_nil))))) (pw_or1 (pt_not (pt_val (pe_call GS hr1 (by rfl) zs FS.kp bS .nil pass0 (pa_cons (pv 0) pa_nil))))))) (pss_one (ps_ret pe_bl)) pss_nil)
      (pss_one (ps_ret pe_bl)))))))))))))))), ?_⟩
    refine fun a0 h0 => ?_
    have s1 := (Same.refl H).trans (same_new (o := exo a0 (He.ga K "NotSuch") none) h0)
    refine ⟨_, rfl, a0, _, [], _, _, _, rfl, exNew, (fx.er (k := 27) rfl), rfl, fx.one (k := 27) (j := 27) rfl rfl, _, rfl, iteF' (by decide) ?_⟩
    refine ⟨_, rfl, a0, 27, "NotSuch", [], rfl, rfl, exNew, _, rfl, iteF' rfl ?_⟩
    refine fun a1 h1 => ?_
    have s2 := (s1).trans (same_new (o := exo a1 (He.ga K "NotFractions") none) h1)
    refine ⟨_, rfl, a1, _, [], _, _, _, rfl, exNew, (fx.er (k := 28) rfl), rfl, fx.one (k := 28) (j := 28) rfl rfl, _, rfl, iteF' (by decide) ?_⟩
    refine ⟨_, rfl, a1, 28, "NotFractions", [], rfl, rfl, exNew, _, rfl, iteF' rfl ?_⟩
    refine fun a2 h2 => ?_
    have s3 := (s2).trans (same_new (o := exo a2 (He.ga K "TooWide") none) h2)
    refine ⟨_, rfl, a2, _, [], _, _, _, rfl, exNew, (fx.er (k := 30) rfl), rfl, fx.one (k := 30) (j := 30) rfl rfl, _, rfl, iteF' (by decide) ?_⟩
    refine ⟨_, rfl, a2, 30, "TooWide", [], rfl, rfl, exNew, _, rfl, iteF' rfl ?_⟩
    refine fun a3 h3 => ?_
    have s4 := (s3).trans (same_new (o := exo a3 (He.ga K "BadTimes") none) h3)
    refine ⟨_, rfl, a3, _, [], _, _, _, rfl, exNew, (fx.er (k := 31) rfl), rfl, fx.one (k := 31) (j := 31) rfl rfl, _, rfl, iteF' (by decide) ?_⟩
    refine ⟨_, rfl, a3, 31, "BadTimes", [], rfl, rfl, exNew, _, rfl, iteF' rfl ?_⟩
    refine fun a4 h4 => ?_
    have s5 := (s4).trans (same_new (o := exo a4 (He.ga K "BadPairs") none) h4)
    refine ⟨_, rfl, a4, _, [], _, _, _, rfl, exNew, (fx.er (k := 32) rfl), rfl, fx.one (k := 32) (j := 32) rfl rfl, _, rfl, iteF' (by decide) ?_⟩
    refine ⟨_, rfl, a4, 32, "BadPairs", [], rfl, rfl, exNew, _, rfl, iteF' rfl ?_⟩
    refine fun a5 h5 => ?_
    have s6 := (s5).trans (same_new (o := exo a5 (He.ga K "NotShared") none) h5)
    refine ⟨_, rfl, a5, _, [], _, _, _, rfl, exNew, (fx.er (k := 33) rfl), rfl, fx.one (k := 33) (j := 33) rfl rfl, _, rfl, iteF' (by decide) ?_⟩
    refine ⟨_, rfl, a5, 33, "NotShared", [], rfl, rfl, exNew, _, rfl, iteF' rfl ?_⟩
    refine fun a6 h6 => ?_
    have s7 := (s6).trans (same_new (o := exo a6 (He.ga K "NothingDone") none) h6)
    refine ⟨_, rfl, a6, _, [], _, _, _, rfl, exNew, (fx.er (k := 41) rfl), rfl, fx.one (k := 41) (j := 41) rfl rfl, _, rfl, iteF' (by decide) ?_⟩
    refine ⟨_, rfl, a6, 41, "NothingDone", [], rfl, rfl, exNew, _, rfl, iteF' rfl ?_⟩
    exact k _ s7
end
end Kn
namespace Kn
open PySem PySem.Spec PyProof.Rows L2 Kx Kf Kg Ky Kl Kq Km
section
variable {P : Program} {w : World} {K : PySem.W.Frag} {mg : Str → Option Value} {base : Heap} {f fS : Addr} {fd fdS : FuncData}
theorem sc_toldF : FnScope ["_law_one", "_law_two", "_law_told"] ["_law_one", "_law_two"] (defScope sToldF) := ⟨rfl, rfl, rfl, by decide +kernel, rfl, by decide +kernel, by decide +kernel⟩
theorem ok_toldF (F : FnP K "_law_told_first" sToldF f fd) (FS : FnP K "_law_single" sSingle fS fdS) (zs : mg "_law_single" = some (.ref fS)) (fx : Fx K mg)
    (I0 : Ini1 P w K mg base "BadRatio" "what") (I1 : Ini1 P w K mg base "BadFigures" "prime") (I2 : Ini2 P w K mg base "BadTable" "index" "what") (I3 : Ini2 P w K mg base "BadLetters" "what" "index") (I4 : Ini1 P w K mg base "BadPair" "what") (I5 : Ini2 P w K mg base "BadKept" "what" "index") (I6 : Ini2 P w K mg base "BadProgram" "index" "what") (I7 : Ini1 P w K mg base "BadText" "place") (I8 : Ini2 P w K mg base "BadPoly" "index" "what") (I9 : Ini2 P w K mg base "NotSquare" "rows" "columns") (I10 : Ini1 P w K mg base "BadChange" "what") : FnOk P w K mg base CX0 3 f fd ["_law_one", "_law_two"] (spTold K) := by
  have zi : mg "isinstance" = none := fx.fr _ (List.mem_of_getElem? (i := 3) rfl)
  have GS : FnOk P w K mg base CX0 1 fS fdS ["_law_told"] (spSingle K) := ok_single FS fx
  have bS : L2.Binds K fdS ["_law_told"] [] := FS.bindsN fun _ _ _ _ _ _ us hl => match us, hl with | [_], _ => rfl
  obtain ⟨fd0, G0, b0⟩ := I0
  obtain ⟨fd1, G1, b1⟩ := I1
  obtain ⟨fd2, G2, b2⟩ := I2
  obtain ⟨fd3, G3, b3⟩ := I3
  obtain ⟨fd4, G4, b4⟩ := I4
  obtain ⟨fd5, G5, b5⟩ := I5
  obtain ⟨fd6, G6, b6⟩ := I6
  obtain ⟨fd7, G7, b7⟩ := I7
  obtain ⟨fd8, G8, b8⟩ := I8
  obtain ⟨fd9, G9, b9⟩ := I9
  obtain ⟨fd10, G10, b10⟩ := I10
  refine F.ok sc_toldF (fun vs H Q E h => ?_) (fun cdv A outer s H vs Q E hr h => ?_)
  · obtain ⟨x, y, d, e, rfl, _⟩ := h
    rfl
  · obtain ⟨x, y, d, e, rfl, dx, dy, k⟩ := h
    have hr1 : Room 1 _ := hr.mono (by decide)
    have hu := hr.units
    refine ⟨_, PSs.nox (pss_cons (ps_set (i := 2) sc_toldF.nd rfl (Or.inl rfl) (pe_oex (fx.er (k := 0) rfl).ox (fx.i ("BadRatio", ["what"]) (List.mem_of_getElem? (i := 0) rfl)).1 (fx.i ("BadRatio", ["what"]) (List.mem_of_getElem? (i := 0) rfl)).2.1 G0 hr b0 pass0 (by rfl) (fx.mm (k := 0) rfl) (pa_cons (pv 0) pa_nil) (by decide)))
      (Evl.pss_cut (ps_if (PW.pt (pw_or (pt_not (pt_val (pe_callB (call_isX (P := gP K) fx.gt) (by rfl) zi PyProof.Rows.boot_isinstance (pa_cons (pv 2) (pa_cons (pe_cls (by rfl) (fx.mm (k := 0) rfl)) pa_nil))))) (pw_or (pt_not (pt_val (pe_call GS hr1 (by rfl) zs FS.kp bS .nil pass0 (pa_cons (pv 2) pa_nil)))) (pw_or1 (pt_cmpR (op_neD hu) (pe_xv (P := gP K) (pv 2)) (pv 0) (nomark _)))))) (pss_one (ps_ret pe_bl)) pss_nil)
      (pss_cons (ps_set (i := 2) sc_toldF.nd rfl (Or.inl rfl) (pe_oex (fx.er (k := 2) rfl).ox (fx.i ("BadFigures", ["prime"]) (List.mem_of_getElem? (i := 1) rfl)).1 (fx.i ("BadFigures", ["prime"]) (List.mem_of_getElem? (i := 1) rfl)).2.1 G1 hr b1 pass0 (by rfl) (fx.mm (k := 2) rfl) (pa_cons (pv 0) pa_nil) (by decide)))
      (Evl.pss_cut (ps_if (PW.pt (pw_or (pt_not (pt_val (pe_callB (call_isX (P := gP K) fx.gt) (by rfl) zi PyProof.Rows.boot_isinstance (pa_cons (pv 2) (pa_cons (pe_cls (by rfl) (fx.mm (k := 2) rfl)) pa_nil))))) (pw_or (pt_not (pt_val (pe_call GS hr1 (by rfl) zs FS.kp bS .nil pass0 (pa_cons (pv 2) pa_nil)))) (pw_or1 (pt_cmpR (op_neD hu) (pe_xv (P := gP K) (pv 2)) (pv 0) (nomark _)))))) (pss_one (ps_ret pe_bl)) pss_nil)
      (pss_cons (ps_set (i := 2) sc_toldF.nd rfl (Or.inl rfl) (pe_oex (fx.er (k := 4) rfl).ox (fx.i ("BadTable", ["index", "what"]) (List.mem_of_getElem? (i := 2) rfl)).1 (fx.i ("BadTable", ["index", "what"]) (List.mem_of_getElem? (i := 2) rfl)).2.1 G2 hr b2 pass0 (by rfl) (fx.mm (k := 4) rfl) (pa_cons (pv 0) (pa_cons (pv 1) pa_nil)) (by decide)))
      (Evl.pss_cut (ps_if (PW.pt (pw_or (pt_not (pt_val (pe_callB (call_isX (P := gP K) fx.gt) (by rfl) zi PyProof.Rows.boot_isinstance (pa_cons (pv 2) (pa_cons (pe_cls (by rfl) (fx.mm (k := 4) rfl)) pa_nil))))) (pw_or (pt_not (pt_val (pe_call GS hr1 (by rfl) zs FS.kp bS .nil pass0 (pa_cons (pv 2) pa_nil)))) (pw_or (pt_cmpR (op_neD hu) (pe_xv (P := gP K) (pv 2)) (pv 0) (nomark _)) (pw_or1 (pt_cmpR (op_neD hu) (pe_xv (P := gP K) (pv 2)) (pv 1) (nomark _))))))) (pss_one (ps_ret pe_bl)) pss_nil)
      (pss_cons (ps_set (i := 2) sc_toldF.nd rfl (Or.inl rfl) (pe_oex (fx.er (k := 5) rfl).ox (fx.i ("BadLetters", ["what", "index"]) (List.mem_of_getElem? (i := 3) rfl)).1 (fx.i ("BadLetters", ["what", "index"]) (List.mem_of_getElem? (i := 3) rfl)).2.1 G3 hr b3 pass0 (by rfl) (fx.mm (k := 5) rfl) (pa_cons (pv 0) (pa_cons (pv 1) pa_nil)) (by decide)))
      (Evl.pss_cut (ps_if (PW.pt (pw_or (pt_not (pt_val (pe_callB (call_isX (P := gP K) fx.gt) (by rfl) zi PyProof.Rows.boot_isinstance (pa_cons (pv 2) (pa_cons (pe_cls (by rfl) (fx.mm (k := 5) rfl)) pa_nil))))) (pw_or (pt_not (pt_val (pe_call GS hr1 (by rfl) zs FS.kp bS .nil pass0 (pa_cons (pv 2) pa_nil)))) (pw_or (pt_cmpR (op_neD hu) (pe_xv (P := gP K) (pv 2)) (pv 0) (nomark _)) (pw_or1 (pt_cmpR (op_neD hu) (pe_xv (P := gP K) (pv 2)) (pv 1) (nomark _))))))) (pss_one (ps_ret pe_bl)) pss_nil)
      (pss_cons (ps_set (i := 2) sc_toldF.nd rfl (Or.inl rfl) (pe_oex (fx.er (k := 6) rfl).ox (fx.i ("BadPair", ["what"]) (List.mem_of_getElem? (i := 4) rfl)).1 (fx.i ("BadPair", ["what"]) (List.mem_of_getElem? (i := 4) rfl)).2.1 G4 hr b4 pass0 (by rfl) (fx.mm (k := 6) rfl) (pa_cons (pv 0) pa_nil) (by decide)))
      (Evl.pss_cut (ps_if (PW.pt (pw_or (pt_not (pt_val (pe_callB (call_isX (P := gP K) fx.gt) (by rfl) zi PyProof.Rows.boot_isinstance (pa_cons (pv 2) (pa_cons (pe_cls (by rfl) (fx.mm (k := 6) rfl)) pa_nil))))) (pw_or (pt_not (pt_val (pe_call GS hr1 (by rfl) zs FS.kp bS .nil pass0 (pa_cons (pv 2) pa_nil)))) (pw_or1 (pt_cmpR (op_neD hu) (pe_xv (P := gP K) (pv 2)) (pv 0) (nomark _)))))) (pss_one (ps_ret pe_bl)) pss_nil)
      (pss_cons (ps_set (i := 2) sc_toldF.nd rfl (Or.inl rfl) (pe_oex (fx.er (k := 7) rfl).ox (fx.i ("BadKept", ["what", "index"]) (List.mem_of_getElem? (i := 5) rfl)).1 (fx.i ("BadKept", ["what", "index"]) (List.mem_of_getElem? (i := 5) rfl)).2.1 G5 hr b5 pass0 (by rfl) (fx.mm (k := 7) rfl) (pa_cons (pv 0) (pa_cons (pv 1) pa_nil)) (by decide)))
      (Evl.pss_cut (ps_if (PW.pt (pw_or (pt_not (pt_val (pe_callB (call_isX (P := gP K) fx.gt) (by rfl) zi PyProof.Rows.boot_isinstance (pa_cons (pv 2) (pa_cons (pe_cls (by rfl) (fx.mm (k := 7) rfl)) pa_nil))))) (pw_or (pt_not (pt_val (pe_call GS hr1 (by rfl) zs FS.kp bS .nil pass0 (pa_cons (pv 2) pa_nil)))) (pw_or (pt_cmpR (op_neD hu) (pe_xv (P := gP K) (pv 2)) (pv 0) (nomark _)) (pw_or1 (pt_cmpR (op_neD hu) (pe_xv (P := gP K) (pv 2)) (pv 1) (nomark _))))))) (pss_one (ps_ret pe_bl)) pss_nil)
      (pss_cons (ps_set (i := 2) sc_toldF.nd rfl (Or.inl rfl) (pe_oex (fx.er (k := 9) rfl).ox (fx.i ("BadProgram", ["index", "what"]) (List.mem_of_getElem? (i := 6) rfl)).1 (fx.i ("BadProgram", ["index", "what"]) (List.mem_of_getElem? (i := 6) rfl)).2.1 G6 hr b6 pass0 (by rfl) (fx.mm (k := 9) rfl) (pa_cons (pv 0) (pa_cons (pv 1) pa_nil)) (by decide)))
      (Evl.pss_cut (ps_if (PW.pt (pw_or (pt_not (pt_val (pe_callB (call_isX (P := gP K) fx.gt) (by rfl) zi PyProof.Rows.boot_isinstance (pa_cons (pv 2) (pa_cons (pe_cls (by rfl) (fx.mm (k := 9) rfl)) pa_nil))))) (pw_or (pt_not (pt_val (pe_call GS hr1 (by rfl) zs FS.kp bS .nil pass0 (pa_cons (pv 2) pa_nil)))) (pw_or (pt_cmpR (op_neD hu) (pe_xv (P := gP K) (pv 2)) (pv 0) (nomark _)) (pw_or1 (pt_cmpR (op_neD hu) (pe_xv (P := gP K) (pv 2)) (pv 1) (nomark _))))))) (pss_one (ps_ret pe_bl)) pss_nil)
      (pss_cons (ps_set (i := 2) sc_toldF.nd rfl (Or.inl rfl) (pe_oex (fx.er (k := 10) rfl).ox (fx.i ("BadText", ["place"]) (List.mem_of_getElem? (i := 7) rfl)).1 (fx.i ("BadText", ["place"]) (List.mem_of_getElem? (i := 7) rfl)).2.1 G7 hr b7 pass0 (by rfl) (fx.mm (k := 10) rfl) (pa_cons (pv 0) pa_nil) (by decide)))
      (Evl.pss_cut (ps_if (PW.pt (pw_or (pt_not (pt_val (pe_callB (call_isX (P := gP K) fx.gt) (by rfl) zi PyProof.Rows.boot_isinstance (pa_cons (pv 2) (pa_cons (pe_cls (by rfl) (fx.mm (k := 10) rfl)) pa_nil))))) (pw_or (pt_not (pt_val (pe_call GS hr1 (by rfl) zs FS.kp bS .nil pass0 (pa_cons (pv 2) pa_nil)))) (pw_or1 (pt_cmpR (op_neD hu) (pe_xv (P := gP K) (pv 2)) (pv 0) (nomark _)))))) (pss_one (ps_ret pe_bl)) pss_nil)
      (pss_cons (ps_set (i := 2) sc_toldF.nd rfl (Or.inl rfl) (pe_oex (fx.er (k := 13) rfl).ox (fx.i ("BadPoly", ["index", "what"]) (List.mem_of_getElem? (i := 8) rfl)).1 (fx.i ("BadPoly", ["index", "what"]) (List.mem_of_getElem? (i := 8) rfl)).2.1 G8 hr b8 pass0 (by rfl) (fx.mm (k := 13) rfl) (pa_cons (pv 0) (pa_cons (pv 1) pa_nil)) (by decide)))
      (Evl.pss_cut (ps_if (PW.pt (pw_or (pt_not (pt_val (pe_callB (call_isX (P := gP K) fx.gt) (by rfl) zi PyProof.Rows.boot_isinstance (pa_cons (pv 2) (pa_cons (pe_cls (by rfl) (fx.mm (k := 13) rfl)) pa_nil))))) (pw_or (pt_not (pt_val (pe_call GS hr1 (by rfl) zs FS.kp bS .nil pass0 (pa_cons (pv 2) pa_nil)))) (pw_or (pt_cmpR (op_neD hu) (pe_xv (P := gP K) (pv 2)) (pv 0) (nomark _)) (pw_or1 (pt_cmpR (op_neD hu) (pe_xv (P := gP K) (pv 2)) (pv 1) (nomark _))))))) (pss_one (ps_ret pe_bl)) pss_nil)
      (pss_cons (ps_set (i := 2) sc_toldF.nd rfl (Or.inl rfl) (pe_oex (fx.er (k := 14) rfl).ox (fx.i ("NotSquare", ["rows", "columns"]) (List.mem_of_getElem? (i := 9) rfl)).1 (fx.i ("NotSquare", ["rows", "columns"]) (List.mem_of_getElem? (i := 9) rfl)).2.1 G9 hr b9 pass0 (by rfl) (fx.mm (k := 14) rfl) (pa_cons (pv 0) (pa_cons (pv 1) pa_nil)) (by decide)))
      (Evl.pss_cut (ps_if (PW.pt (pw_or (pt_not (pt_val (pe_callB (call_isX (P := gP K) fx.gt) (by rfl) zi PyProof.Rows.boot_isinstance (pa_cons (pv 2) (pa_cons (pe_cls (by rfl) (fx.mm (k := 14) rfl)) pa_nil))))) (pw_or (pt_not (pt_val (pe_call GS hr1 (by rfl) zs FS.kp bS .nil pass0 (pa_cons (pv 2) pa_nil)))) (pw_or (pt_cmpR (op_neD hu) (pe_xv (P := gP K) (pv 2)) (pv 0) (nomark _)) (pw_or1 (pt_cmpR (op_neD hu) (pe_xv (P := gP K) (pv 2)) (pv 1) (nomark _))))))) (pss_one (ps_ret pe_bl)) pss_nil)
      (pss_cons (ps_set (i := 2) sc_toldF.nd rfl (Or.inl rfl) (pe_oex (fx.er (k := 15) rfl).ox (fx.i ("BadChange", ["what"]) (List.mem_of_getElem? (i := 10) rfl)).1 (fx.i ("BadChange", ["what"]) (List.mem_of_getElem? (i := 10) rfl)).2.1 G10 hr b10 pass0 (by rfl) (fx.mm (k := 15) rfl) (pa_cons (pv 0) pa_nil) (by decide)))
      (Evl.pss_cut (ps_if (PW.pt (pw_or (pt_not (pt_val (pe_callB (call_isX (P := gP K) fx.gt) (by rfl) zi PyProof.Rows.boot_isinstance (pa_cons (pv 2) (pa_cons (pe_cls (by rfl) (fx.mm (k := 15) rfl)) pa_nil))))) (pw_or (pt_not (pt_val (pe_call GS hr1 (by rfl) zs FS.kp bS .nil pass0 (pa_cons (pv 2) pa_nil)))) (pw_or1 (pt_cmpR (op_neD hu) (pe_xv (P := gP K) (pv 2)) (pv 0) (nomark _)))))) (pss_one (ps_ret pe_bl)) pss_nil)
      (pss_one (ps_ret pe_bl)))))))))))))))))))))))), ?_⟩
    have go : ∃ t : Option V, start ["_law_one", "_law_two", "_law_told"] [x, y] = [some x, some y, t] ∧ Same H H := ⟨_, rfl, Same.refl H⟩
    generalize start ["_law_one", "_law_two", "_law_told"] [x, y] = σ0 at go ⊢
    obtain ⟨t0, rfl, s0⟩ := go

    refine ⟨_, rfl, fun a ha => ⟨a, [x], rfl, rfl, upd_same, fun q H1 hq kq e1 e2 => ⟨rfl, fun σ2 H2 => (∃ t, σ2 = [some x, some y, t]) ∧ Same H H2, ?_, ?_⟩⟩⟩
    · have s1 := (Same.refl H).trans (same_in ha kq)
      have ex : ExAt H1 a (He.ga K "BadRatio") (fl1 "what" [x]) := .inr ⟨q, e1, e2⟩
      refine ⟨_, rfl, a, _, _, _, _, _, rfl, ex, (fx.er (k := 0) rfl), rfl, fx.one (k := 0) (j := 0) rfl rfl, _, rfl, iteF' (by decide) ?_⟩
      refine ⟨_, rfl, a, 0, "BadRatio", _, rfl, rfl, ex, _, rfl, iteF' rfl ?_⟩
      refine ⟨_, rfl, a, _, _, _, rfl, ex, (fx.er (k := 0) rfl), ((fx.i ("BadRatio", ["what"]) (List.mem_of_getElem? (i := 0) rfl)).2.2 _ (List.mem_cons_self ..)), lk1, _, rfl, _, _, (dx.same s1).dp, (dx.same s1).dp, dx.sh, dx.sh, _, rfl, iteF' (by rw [dx.eq]; rfl) ?_⟩
      exact ⟨⟨_, rfl⟩, s1⟩
    rintro σ2 H2 ⟨⟨t, rfl⟩, s⟩
    refine ⟨_, rfl, fun a ha => ⟨a, [x], rfl, rfl, upd_same, fun q H1 hq kq e1 e2 => ⟨rfl, fun σ2 H2 => (∃ t, σ2 = [some x, some y, t]) ∧ Same H H2, ?_, ?_⟩⟩⟩
    · have s1 := (s).trans (same_in ha kq)
      have ex : ExAt H1 a (He.ga K "BadFigures") (fl1 "prime" [x]) := .inr ⟨q, e1, e2⟩
      refine ⟨_, rfl, a, _, _, _, _, _, rfl, ex, (fx.er (k := 2) rfl), rfl, fx.one (k := 2) (j := 2) rfl rfl, _, rfl, iteF' (by decide) ?_⟩
      refine ⟨_, rfl, a, 2, "BadFigures", _, rfl, rfl, ex, _, rfl, iteF' rfl ?_⟩
      refine ⟨_, rfl, a, _, _, _, rfl, ex, (fx.er (k := 2) rfl), ((fx.i ("BadFigures", ["prime"]) (List.mem_of_getElem? (i := 1) rfl)).2.2 _ (List.mem_cons_self ..)), lk1, _, rfl, _, _, (dx.same s1).dp, (dx.same s1).dp, dx.sh, dx.sh, _, rfl, iteF' (by rw [dx.eq]; rfl) ?_⟩
      exact ⟨⟨_, rfl⟩, s1⟩
    rintro σ2 H2 ⟨⟨t, rfl⟩, s⟩
    refine ⟨_, rfl, _, rfl, fun a ha => ⟨a, [x, y], rfl, rfl, upd_same, fun q H1 hq kq e1 e2 => ⟨rfl, fun σ2 H2 => (∃ t, σ2 = [some x, some y, t]) ∧ Same H H2, ?_, ?_⟩⟩⟩
    · have s1 := (s).trans (same_in ha kq)
      have ex : ExAt H1 a (He.ga K "BadTable") (fl2 "index" "what" [x, y]) := .inr ⟨q, e1, e2⟩
      refine ⟨_, rfl, a, _, _, _, _, _, rfl, ex, (fx.er (k := 4) rfl), rfl, fx.one (k := 4) (j := 4) rfl rfl, _, rfl, iteF' (by decide) ?_⟩
      refine ⟨_, rfl, a, 4, "BadTable", _, rfl, rfl, ex, _, rfl, iteF' rfl ?_⟩
      refine ⟨_, rfl, a, _, _, _, rfl, ex, (fx.er (k := 4) rfl), ((fx.i ("BadTable", ["index", "what"]) (List.mem_of_getElem? (i := 2) rfl)).2.2 _ (List.mem_cons_self ..)), (lk2a (by decide +kernel)), _, rfl, _, _, (dx.same s1).dp, (dx.same s1).dp, dx.sh, dx.sh, _, rfl, iteF' (by rw [dx.eq]; rfl) ?_⟩
      refine ⟨_, rfl, a, _, _, _, rfl, ex, (fx.er (k := 4) rfl), ((fx.i ("BadTable", ["index", "what"]) (List.mem_of_getElem? (i := 2) rfl)).2.2 _ (List.mem_cons_of_mem _ (List.mem_cons_self ..))), lk2b, _, rfl, _, _, (dy.same s1).dp, (dy.same s1).dp, dy.sh, dy.sh, _, rfl, iteF' (by rw [dy.eq]; rfl) ?_⟩
      exact ⟨⟨_, rfl⟩, s1⟩
    rintro σ2 H2 ⟨⟨t, rfl⟩, s⟩
    refine ⟨_, rfl, _, rfl, fun a ha => ⟨a, [x, y], rfl, rfl, upd_same, fun q H1 hq kq e1 e2 => ⟨rfl, fun σ2 H2 => (∃ t, σ2 = [some x, some y, t]) ∧ Same H H2, ?_, ?_⟩⟩⟩
    · have s1 := (s).trans (same_in ha kq)
      have ex : ExAt H1 a (He.ga K "BadLetters") (fl2 "what" "index" [x, y]) := .inr ⟨q, e1, e2⟩
      refine ⟨_, rfl, a, _, _, _, _, _, rfl, ex, (fx.er (k := 5) rfl), rfl, fx.one (k := 5) (j := 5) rfl rfl, _, rfl, iteF' (by decide) ?_⟩
      refine ⟨_, rfl, a, 5, "BadLetters", _, rfl, rfl, ex, _, rfl, iteF' rfl ?_⟩
      refine ⟨_, rfl, a, _, _, _, rfl, ex, (fx.er (k := 5) rfl), ((fx.i ("BadLetters", ["what", "index"]) (List.mem_of_getElem? (i := 3) rfl)).2.2 _ (List.mem_cons_self ..)), (lk2a (by decide +kernel)), _, rfl, _, _, (dx.same s1).dp, (dx.same s1).dp, dx.sh, dx.sh, _, rfl, iteF' (by rw [dx.eq]; rfl) ?_⟩
      refine ⟨_, rfl, a, _, _, _, rfl, ex, (fx.er (k := 5) rfl), ((fx.i ("BadLetters", ["what", "index"]) (List.mem_of_getElem? (i := 3) rfl)).2.2 _ (List.mem_cons_of_mem _ (List.mem_cons_self ..))), lk2b, _, rfl, _, _, (dy.same s1).dp, (dy.same s1).dp, dy.sh, dy.sh, _, rfl, iteF' (by rw [dy.eq]; rfl) ?_⟩
      exact ⟨⟨_, rfl⟩, s1⟩
    rintro σ2 H2 ⟨⟨t, rfl⟩, s⟩
    refine ⟨_, rfl, fun a ha => ⟨a, [x], rfl, rfl, upd_same, fun q H1 hq kq e1 e2 => ⟨rfl, fun σ2 H2 => (∃ t, σ2 = [some x, some y, t]) ∧ Same H H2, ?_, ?_⟩⟩⟩
    · have s1 := (s).trans (same_in ha kq)
      have ex : ExAt H1 a (He.ga K "BadPair") (fl1 "what" [x]) := .inr ⟨q, e1, e2⟩
      refine ⟨_, rfl, a, _, _, _, _, _, rfl, ex, (fx.er (k := 6) rfl), rfl, fx.one (k := 6) (j := 6) rfl rfl, _, rfl, iteF' (by decide) ?_⟩
      refine ⟨_, rfl, a, 6, "BadPair", _, rfl, rfl, ex, _, rfl, iteF' rfl ?_⟩
      refine ⟨_, rfl, a, _, _, _, rfl, ex, (fx.er (k := 6) rfl), ((fx.i ("BadPair", ["what"]) (List.mem_of_getElem? (i := 4) rfl)).2.2 _ (List.mem_cons_self ..)), lk1, _, rfl, _, _, (dx.same s1).dp, (dx.same s1).dp, dx.sh, dx.sh, _, rfl, iteF' (by rw [dx.eq]; rfl) ?_⟩
      exact ⟨⟨_, rfl⟩, s1⟩
    rintro σ2 H2 ⟨⟨t, rfl⟩, s⟩
    refine ⟨_, rfl, _, rfl, fun a ha => ⟨a, [x, y], rfl, rfl, upd_same, fun q H1 hq kq e1 e2 => ⟨rfl, fun σ2 H2 => (∃ t, σ2 = [some x, some y, t]) ∧ Same H H2, ?_, ?_⟩⟩⟩
    · have s1 := (s).trans (same_in ha kq)
      have ex : ExAt H1 a (He.ga K "BadKept") (fl2 "what" "index" [x, y]) := .inr ⟨q, e1, e2⟩
      refine ⟨_, rfl, a, _, _, _, _, _, rfl, ex, (fx.er (k := 7) rfl), rfl, fx.one (k := 7) (j := 7) rfl rfl, _, rfl, iteF' (by decide) ?_⟩
      refine ⟨_, rfl, a, 7, "BadKept", _, rfl, rfl, ex, _, rfl, iteF' rfl ?_⟩
      refine ⟨_, rfl, a, _, _, _, rfl, ex, (fx.er (k := 7) rfl), ((fx.i ("BadKept", ["what", "index"]) (List.mem_of_getElem? (i := 5) rfl)).2.2 _ (List.mem_cons_self ..)), (lk2a (by decide +kernel)), _, rfl, _, _, (dx.same s1).dp, (dx.same s1).dp, dx.sh, dx.sh, _, rfl, iteF' (by rw [dx.eq]; rfl) ?_⟩
      refine ⟨_, rfl, a, _, _, _, rfl, ex, (fx.er (k := 7) rfl), ((fx.i ("BadKept", ["what", "index"]) (List.mem_of_getElem? (i := 5) rfl)).2.2 _ (List.mem_cons_of_mem _ (List.mem_cons_self ..))), lk2b, _, rfl, _, _, (dy.same s1).dp, (dy.same s1).dp, dy.sh, dy.sh, _, rfl, iteF' (by rw [dy.eq]; rfl) ?_⟩
      exact ⟨⟨_, rfl⟩, s1⟩
    rintro σ2 H2 ⟨⟨t, rfl⟩, s⟩
    refine ⟨_, rfl, _, rfl, fun a ha => ⟨a, [x, y], rfl, rfl, upd_same, fun q H1 hq kq e1 e2 => ⟨rfl, fun σ2 H2 => (∃ t, σ2 = [some x, some y, t]) ∧ Same H H2, ?_, ?_⟩⟩⟩
    · have s1 := (s).trans (same_in ha kq)
      have ex : ExAt H1 a (He.ga K "BadProgram") (fl2 "index" "what" [x, y]) := .inr ⟨q, e1, e2⟩
      refine ⟨_, rfl, a, _, _, _, _, _, rfl, ex, (fx.er (k := 9) rfl), rfl, fx.one (k := 9) (j := 9) rfl rfl, _, rfl, iteF' (by decide) ?_⟩
      refine ⟨_, rfl, a, 9, "BadProgram", _, rfl, rfl, ex, _, rfl, iteF' rfl ?_⟩
      refine ⟨_, rfl, a, _, _, _, rfl, ex, (fx.er (k := 9) rfl), ((fx.i ("BadProgram", ["index", "what"]) (List.mem_of_getElem? (i := 6) rfl)).2.2 _ (List.mem_cons_self ..)), (lk2a (by decide +kernel)), _, rfl, _, _, (dx.same s1).dp, (dx.same s1).dp, dx.sh, dx.sh, _, rfl, iteF' (by rw [dx.eq]; rfl) ?_⟩
      refine ⟨_, rfl, a, _, _, _, rfl, ex, (fx.er (k := 9) rfl), ((fx.i ("BadProgram", ["index", "what"]) (List.mem_of_getElem? (i := 6) rfl)).2.2 _ (List.mem_cons_of_mem _ (List.mem_cons_self ..))), lk2b, _, rfl, _, _, (dy.same s1).dp, (dy.same s1).dp, dy.sh, dy.sh, _, rfl, iteF' (by rw [dy.eq]; rfl) ?_⟩
      exact ⟨⟨_, rfl⟩, s1⟩
    rintro σ2 H2 ⟨⟨t, rfl⟩, s⟩
    refine ⟨_, rfl, fun a ha => ⟨a, [x], rfl, rfl, upd_same, fun q H1 hq kq e1 e2 => ⟨rfl, fun σ2 H2 => (∃ t, σ2 = [some x, some y, t]) ∧ Same H H2, ?_, ?_⟩⟩⟩
    · have s1 := (s).trans (same_in ha kq)
      have ex : ExAt H1 a (He.ga K "BadText") (fl1 "place" [x]) := .inr ⟨q, e1, e2⟩
      refine ⟨_, rfl, a, _, _, _, _, _, rfl, ex, (fx.er (k := 10) rfl), rfl, fx.one (k := 10) (j := 10) rfl rfl, _, rfl, iteF' (by decide) ?_⟩
      refine ⟨_, rfl, a, 10, "BadText", _, rfl, rfl, ex, _, rfl, iteF' rfl ?_⟩
      refine ⟨_, rfl, a, _, _, _, rfl, ex, (fx.er (k := 10) rfl), ((fx.i ("BadText", ["place"]) (List.mem_of_getElem? (i := 7) rfl)).2.2 _ (List.mem_cons_self ..)), lk1, _, rfl, _, _, (dx.same s1).dp, (dx.same s1).dp, dx.sh, dx.sh, _, rfl, iteF' (by rw [dx.eq]; rfl) ?_⟩
      exact ⟨⟨_, rfl⟩, s1⟩
    rintro σ2 H2 ⟨⟨t, rfl⟩, s⟩
    refine ⟨_, rfl, _, rfl, fun a ha => ⟨a, [x, y], rfl, rfl, upd_same, fun q H1 hq kq e1 e2 => ⟨rfl, fun σ2 H2 => (∃ t, σ2 = [some x, some y, t]) ∧ Same H H2, ?_, ?_⟩⟩⟩
    · have s1 := (s).trans (same_in ha kq)
      have ex : ExAt H1 a (He.ga K "BadPoly") (fl2 "index" "what" [x, y]) := .inr ⟨q, e1, e2⟩
      refine ⟨_, rfl, a, _, _, _, _, _, rfl, ex, (fx.er (k := 13) rfl), rfl, fx.one (k := 13) (j := 13) rfl rfl, _, rfl, iteF' (by decide) ?_⟩
      refine ⟨_, rfl, a, 13, "BadPoly", _, rfl, rfl, ex, _, rfl, iteF' rfl ?_⟩
      refine ⟨_, rfl, a, _, _, _, rfl, ex, (fx.er (k := 13) rfl), ((fx.i ("BadPoly", ["index", "what"]) (List.mem_of_getElem? (i := 8) rfl)).2.2 _ (List.mem_cons_self ..)), (lk2a (by decide +kernel)), _, rfl, _, _, (dx.same s1).dp, (dx.same s1).dp, dx.sh, dx.sh, _, rfl, iteF' (by rw [dx.eq]; rfl) ?_⟩
      refine ⟨_, rfl, a, _, _, _, rfl, ex, (fx.er (k := 13) rfl), ((fx.i ("BadPoly", ["index", "what"]) (List.mem_of_getElem? (i := 8) rfl)).2.2 _ (List.mem_cons_of_mem _ (List.mem_cons_self ..))), lk2b, _, rfl, _, _, (dy.same s1).dp, (dy.same s1).dp, dy.sh, dy.sh, _, rfl, iteF' (by rw [dy.eq]; rfl) ?_⟩
      exact ⟨⟨_, rfl⟩, s1⟩
    rintro σ2 H2 ⟨⟨t, rfl⟩, s⟩
    refine ⟨_, rfl, _, rfl, fun a ha => ⟨a, [x, y], rfl, rfl, upd_same, fun q H1 hq kq e1 e2 => ⟨rfl, fun σ2 H2 => (∃ t, σ2 = [some x, some y, t]) ∧ Same H H2, ?_, ?_⟩⟩⟩
    · have s1 := (s).trans (same_in ha kq)
      have ex : ExAt H1 a (He.ga K "NotSquare") (fl2 "rows" "columns" [x, y]) := .inr ⟨q, e1, e2⟩
      refine ⟨_, rfl, a, _, _, _, _, _, rfl, ex, (fx.er (k := 14) rfl), rfl, fx.one (k := 14) (j := 14) rfl rfl, _, rfl, iteF' (by decide) ?_⟩
      refine ⟨_, rfl, a, 14, "NotSquare", _, rfl, rfl, ex, _, rfl, iteF' rfl ?_⟩
      refine ⟨_, rfl, a, _, _, _, rfl, ex, (fx.er (k := 14) rfl), ((fx.i ("NotSquare", ["rows", "columns"]) (List.mem_of_getElem? (i := 9) rfl)).2.2 _ (List.mem_cons_self ..)), (lk2a (by decide +kernel)), _, rfl, _, _, (dx.same s1).dp, (dx.same s1).dp, dx.sh, dx.sh, _, rfl, iteF' (by rw [dx.eq]; rfl) ?_⟩
      refine ⟨_, rfl, a, _, _, _, rfl, ex, (fx.er (k := 14) rfl), ((fx.i ("NotSquare", ["rows", "columns"]) (List.mem_of_getElem? (i := 9) rfl)).2.2 _ (List.mem_cons_of_mem _ (List.mem_cons_self ..))), lk2b, _, rfl, _, _, (dy.same s1).dp, (dy.same s1).dp, dy.sh, dy.sh, _, rfl, iteF' (by rw [dy.eq]; rfl) ?_⟩
      exact ⟨⟨_, rfl⟩, s1⟩
    rintro σ2 H2 ⟨⟨t, rfl⟩, s⟩
    refine ⟨_, rfl, fun a ha => ⟨a, [x], rfl, rfl, upd_same, fun q H1 hq kq e1 e2 => ⟨rfl, fun σ2 H2 => (∃ t, σ2 = [some x, some y, t]) ∧ Same H H2, ?_, ?_⟩⟩⟩
    · have s1 := (s).trans (same_in ha kq)
      have ex : ExAt H1 a (He.ga K "BadChange") (fl1 "what" [x]) := .inr ⟨q, e1, e2⟩
      refine ⟨_, rfl, a, _, _, _, _, _, rfl, ex, (fx.er (k := 15) rfl), rfl, fx.one (k := 15) (j := 15) rfl rfl, _, rfl, iteF' (by decide) ?_⟩
      refine ⟨_, rfl, a, 15, "BadChange", _, rfl, rfl, ex, _, rfl, iteF' rfl ?_⟩
      refine ⟨_, rfl, a, _, _, _, rfl, ex, (fx.er (k := 15) rfl), ((fx.i ("BadChange", ["what"]) (List.mem_of_getElem? (i := 10) rfl)).2.2 _ (List.mem_cons_self ..)), lk1, _, rfl, _, _, (dx.same s1).dp, (dx.same s1).dp, dx.sh, dx.sh, _, rfl, iteF' (by rw [dx.eq]; rfl) ?_⟩
      exact ⟨⟨_, rfl⟩, s1⟩
    rintro σ2 H2 ⟨⟨t, rfl⟩, s⟩
    exact k _ s

end
end Kn
namespace Kn
open PySem PySem.Spec PyProof.Rows L2 Kx Kf Kg Ky Kl Kq Km
section
variable {P : Program} {w : World} {K : PySem.W.Frag} {mg : Str → Option Value} {base : Heap} {f fS : Addr} {fd fdS : FuncData}
theorem sc_toldL : FnScope ["_law_one", "_law_two", "_law_told"] ["_law_one", "_law_two"] (defScope sToldL) := ⟨rfl, rfl, rfl, by decide +kernel, rfl, by decide +kernel, by decide +kernel⟩
theorem ok_toldL (F : FnP K "_law_told_last" sToldL f fd) (FS : FnP K "_law_single" sSingle fS fdS) (zs : mg "_law_single" = some (.ref fS)) (fx : Fx K mg)
    (I0 : Ini1 P w K mg base "BadPoints" "index") (I1 : Ini1 P w K mg base "BadMany" "most") (I2 : Ini1 P w K mg base "NoPoint" "index") (I3 : Ini2 P w K mg base "BadChoice" "block" "index") (I4 : Ini2 P w K mg base "BadRow" "what" "index") (I5 : Ini1 P w K mg base "BadTaps" "index") (I6 : Ini1 P w K mg base "BadPrime" "index") (I7 : Ini1 P w K mg base "NotSmall" "what") (I8 : Ini1 P w K mg base "BadProducts" "index") (I9 : Ini1 P w K mg base "BadPlaces" "index") (I10 : Ini2 P w K mg base "BadCode" "index" "what") (I11 : Ini2 P w K mg base "BadEdit" "index" "what") (I12 : Ini1 P w K mg base "BadGoal" "index") (I13 : Ini1 P w K mg base "NotRight" "cell") : FnOk P w K mg base CX0 3 f fd ["_law_one", "_law_two"] (spTold K) := by
  have zi : mg "isinstance" = none := fx.fr _ (List.mem_of_getElem? (i := 3) rfl)
  have GS : FnOk P w K mg base CX0 1 fS fdS ["_law_told"] (spSingle K) := ok_single FS fx
  have bS : L2.Binds K fdS ["_law_told"] [] := FS.bindsN fun _ _ _ _ _ _ us hl => match us, hl with | [_], _ => rfl
  obtain ⟨fd0, G0, b0⟩ := I0
  obtain ⟨fd1, G1, b1⟩ := I1
  obtain ⟨fd2, G2, b2⟩ := I2
  obtain ⟨fd3, G3, b3⟩ := I3
  obtain ⟨fd4, G4, b4⟩ := I4
  obtain ⟨fd5, G5, b5⟩ := I5
  obtain ⟨fd6, G6, b6⟩ := I6
  obtain ⟨fd7, G7, b7⟩ := I7
  obtain ⟨fd8, G8, b8⟩ := I8
  obtain ⟨fd9, G9, b9⟩ := I9
  obtain ⟨fd10, G10, b10⟩ := I10
  obtain ⟨fd11, G11, b11⟩ := I11
  obtain ⟨fd12, G12, b12⟩ := I12
  obtain ⟨fd13, G13, b13⟩ := I13
  refine F.ok sc_toldL (fun vs H Q E h => ?_) (fun cdv A outer s H vs Q E hr h => ?_)
  · obtain ⟨x, y, d, e, rfl, _⟩ := h
    rfl
  · obtain ⟨x, y, d, e, rfl, dx, dy, k⟩ := h
    have hr1 : Room 1 _ := hr.mono (by decide)
    have hu := hr.units
    refine ⟨_, PSs.nox (pss_cons (ps_set (i := 2) sc_toldL.nd rfl (Or.inl rfl) (pe_oex (fx.er (k := 16) rfl).ox (fx.i ("BadPoints", ["index"]) (List.mem_of_getElem? (i := 11) rfl)).1 (fx.i ("BadPoints", ["index"]) (List.mem_of_getElem? (i := 11) rfl)).2.1 G0 hr b0 pass0 (by rfl) (fx.mm (k := 16) rfl) (pa_cons (pv 0) pa_nil) (by decide)))
      (Evl.pss_cut (ps_if (PW.pt (pw_or (pt_not (pt_val (pe_callB (call_isX (P := gP K) fx.gt) (by rfl) zi PyProof.Rows.boot_isinstance (pa_cons (pv 2) (pa_cons (pe_cls (by rfl) (fx.mm (k := 16) rfl)) pa_nil))))) (pw_or (pt_not (pt_val (pe_call GS hr1 (by rfl) zs FS.kp bS .nil pass0 (pa_cons (pv 2) pa_nil)))) (pw_or1 (pt_cmpR (op_neD hu) (pe_xv (P := gP K) (pv 2)) (pv 0) (nomark _)))))) (pss_one (ps_ret pe_bl)) pss_nil)
      (pss_cons (ps_set (i := 2) sc_toldL.nd rfl (Or.inl rfl) (pe_oex (fx.er (k := 17) rfl).ox (fx.i ("BadMany", ["most"]) (List.mem_of_getElem? (i := 12) rfl)).1 (fx.i ("BadMany", ["most"]) (List.mem_of_getElem? (i := 12) rfl)).2.1 G1 hr b1 pass0 (by rfl) (fx.mm (k := 17) rfl) (pa_cons (pv 0) pa_nil) (by decide)))
      (Evl.pss_cut (ps_if (PW.pt (pw_or (pt_not (pt_val (pe_callB (call_isX (P := gP K) fx.gt) (by rfl) zi PyProof.Rows.boot_isinstance (pa_cons (pv 2) (pa_cons (pe_cls (by rfl) (fx.mm (k := 17) rfl)) pa_nil))))) (pw_or (pt_not (pt_val (pe_call GS hr1 (by rfl) zs FS.kp bS .nil pass0 (pa_cons (pv 2) pa_nil)))) (pw_or1 (pt_cmpR (op_neD hu) (pe_xv (P := gP K) (pv 2)) (pv 0) (nomark _)))))) (pss_one (ps_ret pe_bl)) pss_nil)
      (pss_cons (ps_set (i := 2) sc_toldL.nd rfl (Or.inl rfl) (pe_oex (fx.er (k := 21) rfl).ox (fx.i ("NoPoint", ["index"]) (List.mem_of_getElem? (i := 13) rfl)).1 (fx.i ("NoPoint", ["index"]) (List.mem_of_getElem? (i := 13) rfl)).2.1 G2 hr b2 pass0 (by rfl) (fx.mm (k := 21) rfl) (pa_cons (pv 0) pa_nil) (by decide)))
      (Evl.pss_cut (ps_if (PW.pt (pw_or (pt_not (pt_val (pe_callB (call_isX (P := gP K) fx.gt) (by rfl) zi PyProof.Rows.boot_isinstance (pa_cons (pv 2) (pa_cons (pe_cls (by rfl) (fx.mm (k := 21) rfl)) pa_nil))))) (pw_or (pt_not (pt_val (pe_call GS hr1 (by rfl) zs FS.kp bS .nil pass0 (pa_cons (pv 2) pa_nil)))) (pw_or1 (pt_cmpR (op_neD hu) (pe_xv (P := gP K) (pv 2)) (pv 0) (nomark _)))))) (pss_one (ps_ret pe_bl)) pss_nil)
      (pss_cons (ps_set (i := 2) sc_toldL.nd rfl (Or.inl rfl) (pe_oex (fx.er (k := 22) rfl).ox (fx.i ("BadChoice", ["block", "index"]) (List.mem_of_getElem? (i := 14) rfl)).1 (fx.i ("BadChoice", ["block", "index"]) (List.mem_of_getElem? (i := 14) rfl)).2.1 G3 hr b3 pass0 (by rfl) (fx.mm (k := 22) rfl) (pa_cons (pv 0) (pa_cons (pv 1) pa_nil)) (by decide)))
      (Evl.pss_cut (ps_if (PW.pt (pw_or (pt_not (pt_val (pe_callB (call_isX (P := gP K) fx.gt) (by rfl) zi PyProof.Rows.boot_isinstance (pa_cons (pv 2) (pa_cons (pe_cls (by rfl) (fx.mm (k := 22) rfl)) pa_nil))))) (pw_or (pt_not (pt_val (pe_call GS hr1 (by rfl) zs FS.kp bS .nil pass0 (pa_cons (pv 2) pa_nil)))) (pw_or (pt_cmpR (op_neD hu) (pe_xv (P := gP K) (pv 2)) (pv 0) (nomark _)) (pw_or1 (pt_cmpR (op_neD hu) (pe_xv (P := gP K) (pv 2)) (pv 1) (nomark _))))))) (pss_one (ps_ret pe_bl)) pss_nil)
      (pss_cons (ps_set (i := 2) sc_toldL.nd rfl (Or.inl rfl) (pe_oex (fx.er (k := 24) rfl).ox (fx.i ("BadRow", ["what", "index"]) (List.mem_of_getElem? (i := 15) rfl)).1 (fx.i ("BadRow", ["what", "index"]) (List.mem_of_getElem? (i := 15) rfl)).2.1 G4 hr b4 pass0 (by rfl) (fx.mm (k := 24) rfl) (pa_cons (pv 0) (pa_cons (pv 1) pa_nil)) (by decide)))
      (Evl.pss_cut (ps_if (PW.pt (pw_or (pt_not (pt_val (pe_callB (call_isX (P := gP K) fx.gt) (by rfl) zi PyProof.Rows.boot_isinstance (pa_cons (pv 2) (pa_cons (pe_cls (by rfl) (fx.mm (k := 24) rfl)) pa_nil))))) (pw_or (pt_not (pt_val (pe_call GS hr1 (by rfl) zs FS.kp bS .nil pass0 (pa_cons (pv 2) pa_nil)))) (pw_or (pt_cmpR (op_neD hu) (pe_xv (P := gP K) (pv 2)) (pv 0) (nomark _)) (pw_or1 (pt_cmpR (op_neD hu) (pe_xv (P := gP K) (pv 2)) (pv 1) (nomark _))))))) (pss_one (ps_ret pe_bl)) pss_nil)
      (pss_cons (ps_set (i := 2) sc_toldL.nd rfl (Or.inl rfl) (pe_oex (fx.er (k := 25) rfl).ox (fx.i ("BadTaps", ["index"]) (List.mem_of_getElem? (i := 16) rfl)).1 (fx.i ("BadTaps", ["index"]) (List.mem_of_getElem? (i := 16) rfl)).2.1 G5 hr b5 pass0 (by rfl) (fx.mm (k := 25) rfl) (pa_cons (pv 0) pa_nil) (by decide)))
      (Evl.pss_cut (ps_if (PW.pt (pw_or (pt_not (pt_val (pe_callB (call_isX (P := gP K) fx.gt) (by rfl) zi PyProof.Rows.boot_isinstance (pa_cons (pv 2) (pa_cons (pe_cls (by rfl) (fx.mm (k := 25) rfl)) pa_nil))))) (pw_or (pt_not (pt_val (pe_call GS hr1 (by rfl) zs FS.kp bS .nil pass0 (pa_cons (pv 2) pa_nil)))) (pw_or1 (pt_cmpR (op_neD hu) (pe_xv (P := gP K) (pv 2)) (pv 0) (nomark _)))))) (pss_one (ps_ret pe_bl)) pss_nil)
      (pss_cons (ps_set (i := 2) sc_toldL.nd rfl (Or.inl rfl) (pe_oex (fx.er (k := 29) rfl).ox (fx.i ("BadPrime", ["index"]) (List.mem_of_getElem? (i := 17) rfl)).1 (fx.i ("BadPrime", ["index"]) (List.mem_of_getElem? (i := 17) rfl)).2.1 G6 hr b6 pass0 (by rfl) (fx.mm (k := 29) rfl) (pa_cons (pv 0) pa_nil) (by decide)))
      (Evl.pss_cut (ps_if (PW.pt (pw_or (pt_not (pt_val (pe_callB (call_isX (P := gP K) fx.gt) (by rfl) zi PyProof.Rows.boot_isinstance (pa_cons (pv 2) (pa_cons (pe_cls (by rfl) (fx.mm (k := 29) rfl)) pa_nil))))) (pw_or (pt_not (pt_val (pe_call GS hr1 (by rfl) zs FS.kp bS .nil pass0 (pa_cons (pv 2) pa_nil)))) (pw_or1 (pt_cmpR (op_neD hu) (pe_xv (P := gP K) (pv 2)) (pv 0) (nomark _)))))) (pss_one (ps_ret pe_bl)) pss_nil)
      (pss_cons (ps_set (i := 2) sc_toldL.nd rfl (Or.inl rfl) (pe_oex (fx.er (k := 34) rfl).ox (fx.i ("NotSmall", ["what"]) (List.mem_of_getElem? (i := 18) rfl)).1 (fx.i ("NotSmall", ["what"]) (List.mem_of_getElem? (i := 18) rfl)).2.1 G7 hr b7 pass0 (by rfl) (fx.mm (k := 34) rfl) (pa_cons (pv 0) pa_nil) (by decide)))
      (Evl.pss_cut (ps_if (PW.pt (pw_or (pt_not (pt_val (pe_callB (call_isX (P := gP K) fx.gt) (by rfl) zi PyProof.Rows.boot_isinstance (pa_cons (pv 2) (pa_cons (pe_cls (by rfl) (fx.mm (k := 34) rfl)) pa_nil))))) (pw_or (pt_not (pt_val (pe_call GS hr1 (by rfl) zs FS.kp bS .nil pass0 (pa_cons (pv 2) pa_nil)))) (pw_or1 (pt_cmpR (op_neD hu) (pe_xv (P := gP K) (pv 2)) (pv 0) (nomark _)))))) (pss_one (ps_ret pe_bl)) pss_nil)
      (pss_cons (ps_set (i := 2) sc_toldL.nd rfl (Or.inl rfl) (pe_oex (fx.er (k := 35) rfl).ox (fx.i ("BadProducts", ["index"]) (List.mem_of_getElem? (i := 19) rfl)).1 (fx.i ("BadProducts", ["index"]) (List.mem_of_getElem? (i := 19) rfl)).2.1 G8 hr b8 pass0 (by rfl) (fx.mm (k := 35) rfl) (pa_cons (pv 0) pa_nil) (by decide)))
      (Evl.pss_cut (ps_if (PW.pt (pw_or (pt_not (pt_val (pe_callB (call_isX (P := gP K) fx.gt) (by rfl) zi PyProof.Rows.boot_isinstance (pa_cons (pv 2) (pa_cons (pe_cls (by rfl) (fx.mm (k := 35) rfl)) pa_nil))))) (pw_or (pt_not (pt_val (pe_call GS hr1 (by rfl) zs FS.kp bS .nil pass0 (pa_cons (pv 2) pa_nil)))) (pw_or1 (pt_cmpR (op_neD hu) (pe_xv (P := gP K) (pv 2)) (pv 0) (nomark _)))))) (pss_one (ps_ret pe_bl)) pss_nil)
      (pss_cons (ps_set (i := 2) sc_toldL.nd rfl (Or.inl rfl) (pe_oex (fx.er (k := 36) rfl).ox (fx.i ("BadPlaces", ["index"]) (List.mem_of_getElem? (i := 20) rfl)).1 (fx.i ("BadPlaces", ["index"]) (List.mem_of_getElem? (i := 20) rfl)).2.1 G9 hr b9 pass0 (by rfl) (fx.mm (k := 36) rfl) (pa_cons (pv 0) pa_nil) (by decide)))
      (Evl.pss_cut (ps_if (PW.pt (pw_or (pt_not (pt_val (pe_callB (call_isX (P := gP K) fx.gt) (by rfl) zi PyProof.Rows.boot_isinstance (pa_cons (pv 2) (pa_cons (pe_cls (by rfl) (fx.mm (k := 36) rfl)) pa_nil))))) (pw_or (pt_not (pt_val (pe_call GS hr1 (by rfl) zs FS.kp bS .nil pass0 (pa_cons (pv 2) pa_nil)))) (pw_or1 (pt_cmpR (op_neD hu) (pe_xv (P := gP K) (pv 2)) (pv 0) (nomark _)))))) (pss_one (ps_ret pe_bl)) pss_nil)
      (pss_cons (ps_set (i := 2) sc_toldL.nd rfl (Or.inl rfl) (pe_oex (fx.er (k := 37) rfl).ox (fx.i ("BadCode", ["index", "what"]) (List.mem_of_getElem? (i := 21) rfl)).1 (fx.i ("BadCode", ["index", "what"]) (List.mem_of_getElem? (i := 21) rfl)).2.1 G10 hr b10 pass0 (by rfl) (fx.mm (k := 37) rfl) (pa_cons (pv 0) (pa_cons (pv 1) pa_nil)) (by decide)))
      (Evl.pss_cut (ps_if (PW.pt (pw_or (pt_not (pt_val (pe_callB (call_isX (P := gP K) fx.gt) (by rfl) zi PyProof.Rows.boot_isinstance (pa_cons (pv 2) (pa_cons (pe_cls (by rfl) (fx.mm (k := 37) rfl)) pa_nil))))) (pw_or (pt_not (pt_val (pe_call GS hr1 (by rfl) zs FS.kp bS .nil pass0 (pa_cons (pv 2) pa_nil)))) (pw_or (pt_cmpR (op_neD hu) (pe_xv (P := gP K) (pv 2)) (pv 0) (nomark _)) (pw_or1 (pt_cmpR (op_neD hu) (pe_xv (P := gP K) (pv 2)) (pv 1) (nomark _))))))) (pss_one (ps_ret pe_bl)) pss_nil)
      (pss_cons (ps_set (i := 2) sc_toldL.nd rfl (Or.inl rfl) (pe_oex (fx.er (k := 38) rfl).ox (fx.i ("BadEdit", ["index", "what"]) (List.mem_of_getElem? (i := 22) rfl)).1 (fx.i ("BadEdit", ["index", "what"]) (List.mem_of_getElem? (i := 22) rfl)).2.1 G11 hr b11 pass0 (by rfl) (fx.mm (k := 38) rfl) (pa_cons (pv 0) (pa_cons (pv 1) pa_nil)) (by decide)))
      (Evl.pss_cut (ps_if (PW.pt (pw_or (pt_not (pt_val (pe_callB (call_isX (P := gP K) fx.gt) (by rfl) zi PyProof.Rows.boot_isinstance (pa_cons (pv 2) (pa_cons (pe_cls (by rfl) (fx.mm (k := 38) rfl)) pa_nil))))) (pw_or (pt_not (pt_val (pe_call GS hr1 (by rfl) zs FS.kp bS .nil pass0 (pa_cons (pv 2) pa_nil)))) (pw_or (pt_cmpR (op_neD hu) (pe_xv (P := gP K) (pv 2)) (pv 0) (nomark _)) (pw_or1 (pt_cmpR (op_neD hu) (pe_xv (P := gP K) (pv 2)) (pv 1) (nomark _))))))) (pss_one (ps_ret pe_bl)) pss_nil)
      (pss_cons (ps_set (i := 2) sc_toldL.nd rfl (Or.inl rfl) (pe_oex (fx.er (k := 39) rfl).ox (fx.i ("BadGoal", ["index"]) (List.mem_of_getElem? (i := 23) rfl)).1 (fx.i ("BadGoal", ["index"]) (List.mem_of_getElem? (i := 23) rfl)).2.1 G12 hr b12 pass0 (by rfl) (fx.mm (k := 39) rfl) (pa_cons (pv 0) pa_nil) (by decide)))
      (Evl.pss_cut (ps_if (PW.pt (pw_or (pt_not (pt_val (pe_callB (call_isX (P := gP K) fx.gt) (by rfl) zi PyProof.Rows.boot_isinstance (pa_cons (pv 2) (pa_cons (pe_cls (by rfl) (fx.mm (k := 39) rfl)) pa_nil))))) (pw_or (pt_not (pt_val (pe_call GS hr1 (by rfl) zs FS.kp bS .nil pass0 (pa_cons (pv 2) pa_nil)))) (pw_or1 (pt_cmpR (op_neD hu) (pe_xv (P := gP K) (pv 2)) (pv 0) (nomark _)))))) (pss_one (ps_ret pe_bl)) pss_nil)
      (pss_cons (ps_set (i := 2) sc_toldL.nd rfl (Or.inl rfl) (pe_oex (fx.er (k := 40) rfl).ox (fx.i ("NotRight", ["cell"]) (List.mem_of_getElem? (i := 24) rfl)).1 (fx.i ("NotRight", ["cell"]) (List.mem_of_getElem? (i := 24) rfl)).2.1 G13 hr b13 pass0 (by rfl) (fx.mm (k := 40) rfl) (pa_cons (pv 0) pa_nil) (by decide)))
      (Evl.pss_cut (ps_if (PW.pt (pw_or (pt_not (pt_val (pe_callB (call_isX (P := gP K) fx.gt) (by rfl) zi PyProof.Rows.boot_isinstance (pa_cons (pv 2) (pa_cons (pe_cls (by rfl) (fx.mm (k := 40) rfl)) pa_nil))))) (pw_or (pt_not (pt_val (pe_call GS hr1 (by rfl) zs FS.kp bS .nil pass0 (pa_cons (pv 2) pa_nil)))) (pw_or1 (pt_cmpR (op_neD hu) (pe_xv (P := gP K) (pv 2)) (pv 0) (nomark _)))))) (pss_one (ps_ret pe_bl)) pss_nil)
      (pss_one (ps_ret pe_bl)))))))))))))))))))))))))))))), ?_⟩
    have go : ∃ t : Option V, start ["_law_one", "_law_two", "_law_told"] [x, y] = [some x, some y, t] ∧ Same H H := ⟨_, rfl, Same.refl H⟩
    generalize start ["_law_one", "_law_two", "_law_told"] [x, y] = σ0 at go ⊢
    obtain ⟨t0, rfl, s0⟩ := go

    refine ⟨_, rfl, fun a ha => ⟨a, [x], rfl, rfl, upd_same, fun q H1 hq kq e1 e2 => ⟨rfl, fun σ2 H2 => (∃ t, σ2 = [some x, some y, t]) ∧ Same H H2, ?_, ?_⟩⟩⟩
    · have s1 := (Same.refl H).trans (same_in ha kq)
      have ex : ExAt H1 a (He.ga K "BadPoints") (fl1 "index" [x]) := .inr ⟨q, e1, e2⟩
      refine ⟨_, rfl, a, _, _, _, _, _, rfl, ex, (fx.er (k := 16) rfl), rfl, fx.one (k := 16) (j := 16) rfl rfl, _, rfl, iteF' (by decide) ?_⟩
      refine ⟨_, rfl, a, 16, "BadPoints", _, rfl, rfl, ex, _, rfl, iteF' rfl ?_⟩
      refine ⟨_, rfl, a, _, _, _, rfl, ex, (fx.er (k := 16) rfl), ((fx.i ("BadPoints", ["index"]) (List.mem_of_getElem? (i := 11) rfl)).2.2 _ (List.mem_cons_self ..)), lk1, _, rfl, _, _, (dx.same s1).dp, (dx.same s1).dp, dx.sh, dx.sh, _, rfl, iteF' (by rw [dx.eq]; rfl) ?_⟩
      exact ⟨⟨_, rfl⟩, s1⟩
    rintro σ2 H2 ⟨⟨t, rfl⟩, s⟩
    refine ⟨_, rfl, fun a ha => ⟨a, [x], rfl, rfl, upd_same, fun q H1 hq kq e1 e2 => ⟨rfl, fun σ2 H2 => (∃ t, σ2 = [some x, some y, t]) ∧ Same H H2, ?_, ?_⟩⟩⟩
    · have s1 := (s).trans (same_in ha kq)
      have ex : ExAt H1 a (He.ga K "BadMany") (fl1 "most" [x]) := .inr ⟨q, e1, e2⟩
      refine ⟨_, rfl, a, _, _, _, _, _, rfl, ex, (fx.er (k := 17) rfl), rfl, fx.one (k := 17) (j := 17) rfl rfl, _, rfl, iteF' (by decide) ?_⟩
      refine ⟨_, rfl, a, 17, "BadMany", _, rfl, rfl, ex, _, rfl, iteF' rfl ?_⟩
      refine ⟨_, rfl, a, _, _, _, rfl, ex, (fx.er (k := 17) rfl), ((fx.i ("BadMany", ["most"]) (List.mem_of_getElem? (i := 12) rfl)).2.2 _ (List.mem_cons_self ..)), lk1, _, rfl, _, _, (dx.same s1).dp, (dx.same s1).dp, dx.sh, dx.sh, _, rfl, iteF' (by rw [dx.eq]; rfl) ?_⟩
      exact ⟨⟨_, rfl⟩, s1⟩
    rintro σ2 H2 ⟨⟨t, rfl⟩, s⟩
    refine ⟨_, rfl, fun a ha => ⟨a, [x], rfl, rfl, upd_same, fun q H1 hq kq e1 e2 => ⟨rfl, fun σ2 H2 => (∃ t, σ2 = [some x, some y, t]) ∧ Same H H2, ?_, ?_⟩⟩⟩
    · have s1 := (s).trans (same_in ha kq)
      have ex : ExAt H1 a (He.ga K "NoPoint") (fl1 "index" [x]) := .inr ⟨q, e1, e2⟩
      refine ⟨_, rfl, a, _, _, _, _, _, rfl, ex, (fx.er (k := 21) rfl), rfl, fx.one (k := 21) (j := 21) rfl rfl, _, rfl, iteF' (by decide) ?_⟩
      refine ⟨_, rfl, a, 21, "NoPoint", _, rfl, rfl, ex, _, rfl, iteF' rfl ?_⟩
      refine ⟨_, rfl, a, _, _, _, rfl, ex, (fx.er (k := 21) rfl), ((fx.i ("NoPoint", ["index"]) (List.mem_of_getElem? (i := 13) rfl)).2.2 _ (List.mem_cons_self ..)), lk1, _, rfl, _, _, (dx.same s1).dp, (dx.same s1).dp, dx.sh, dx.sh, _, rfl, iteF' (by rw [dx.eq]; rfl) ?_⟩
      exact ⟨⟨_, rfl⟩, s1⟩
    rintro σ2 H2 ⟨⟨t, rfl⟩, s⟩
    refine ⟨_, rfl, _, rfl, fun a ha => ⟨a, [x, y], rfl, rfl, upd_same, fun q H1 hq kq e1 e2 => ⟨rfl, fun σ2 H2 => (∃ t, σ2 = [some x, some y, t]) ∧ Same H H2, ?_, ?_⟩⟩⟩
    · have s1 := (s).trans (same_in ha kq)
      have ex : ExAt H1 a (He.ga K "BadChoice") (fl2 "block" "index" [x, y]) := .inr ⟨q, e1, e2⟩
      refine ⟨_, rfl, a, _, _, _, _, _, rfl, ex, (fx.er (k := 22) rfl), rfl, fx.one (k := 22) (j := 22) rfl rfl, _, rfl, iteF' (by decide) ?_⟩
      refine ⟨_, rfl, a, 22, "BadChoice", _, rfl, rfl, ex, _, rfl, iteF' rfl ?_⟩
      refine ⟨_, rfl, a, _, _, _, rfl, ex, (fx.er (k := 22) rfl), ((fx.i ("BadChoice", ["block", "index"]) (List.mem_of_getElem? (i := 14) rfl)).2.2 _ (List.mem_cons_self ..)), (lk2a (by decide +kernel)), _, rfl, _, _, (dx.same s1).dp, (dx.same s1).dp, dx.sh, dx.sh, _, rfl, iteF' (by rw [dx.eq]; rfl) ?_⟩
      refine ⟨_, rfl, a, _, _, _, rfl, ex, (fx.er (k := 22) rfl), ((fx.i ("BadChoice", ["block", "index"]) (List.mem_of_getElem? (i := 14) rfl)).2.2 _ (List.mem_cons_of_mem _ (List.mem_cons_self ..))), lk2b, _, rfl, _, _, (dy.same s1).dp, (dy.same s1).dp, dy.sh, dy.sh, _, rfl, iteF' (by rw [dy.eq]; rfl) ?_⟩
      exact ⟨⟨_, rfl⟩, s1⟩
    rintro σ2 H2 ⟨⟨t, rfl⟩, s⟩
    refine ⟨_, rfl, _, rfl, fun a ha => ⟨a, [x, y], rfl, rfl, upd_same, fun q H1 hq kq e1 e2 => ⟨rfl, fun σ2 H2 => (∃ t, σ2 = [some x, some y, t]) ∧ Same H H2, ?_, ?_⟩⟩⟩
    · have s1 := (s).trans (same_in ha kq)
      have ex : ExAt H1 a (He.ga K "BadRow") (fl2 "what" "index" [x, y]) := .inr ⟨q, e1, e2⟩
      refine ⟨_, rfl, a, _, _, _, _, _, rfl, ex, (fx.er (k := 24) rfl), rfl, fx.one (k := 24) (j := 24) rfl rfl, _, rfl, iteF' (by decide) ?_⟩
      refine ⟨_, rfl, a, 24, "BadRow", _, rfl, rfl, ex, _, rfl, iteF' rfl ?_⟩
      refine ⟨_, rfl, a, _, _, _, rfl, ex, (fx.er (k := 24) rfl), ((fx.i ("BadRow", ["what", "index"]) (List.mem_of_getElem? (i := 15) rfl)).2.2 _ (List.mem_cons_self ..)), (lk2a (by decide +kernel)), _, rfl, _, _, (dx.same s1).dp, (dx.same s1).dp, dx.sh, dx.sh, _, rfl, iteF' (by rw [dx.eq]; rfl) ?_⟩
      refine ⟨_, rfl, a, _, _, _, rfl, ex, (fx.er (k := 24) rfl), ((fx.i ("BadRow", ["what", "index"]) (List.mem_of_getElem? (i := 15) rfl)).2.2 _ (List.mem_cons_of_mem _ (List.mem_cons_self ..))), lk2b, _, rfl, _, _, (dy.same s1).dp, (dy.same s1).dp, dy.sh, dy.sh, _, rfl, iteF' (by rw [dy.eq]; rfl) ?_⟩
      exact ⟨⟨_, rfl⟩, s1⟩
    rintro σ2 H2 ⟨⟨t, rfl⟩, s⟩
    refine ⟨_, rfl, fun a ha => ⟨a, [x], rfl, rfl, upd_same, fun q H1 hq kq e1 e2 => ⟨rfl, fun σ2 H2 => (∃ t, σ2 = [some x, some y, t]) ∧ Same H H2, ?_, ?_⟩⟩⟩
    · have s1 := (s).trans (same_in ha kq)
      have ex : ExAt H1 a (He.ga K "BadTaps") (fl1 "index" [x]) := .inr ⟨q, e1, e2⟩
      refine ⟨_, rfl, a, _, _, _, _, _, rfl, ex, (fx.er (k := 25) rfl), rfl, fx.one (k := 25) (j := 25) rfl rfl, _, rfl, iteF' (by decide) ?_⟩
      refine ⟨_, rfl, a, 25, "BadTaps", _, rfl, rfl, ex, _, rfl, iteF' rfl ?_⟩
      refine ⟨_, rfl, a, _, _, _, rfl, ex, (fx.er (k := 25) rfl), ((fx.i ("BadTaps", ["index"]) (List.mem_of_getElem? (i := 16) rfl)).2.2 _ (List.mem_cons_self ..)), lk1, _, rfl, _, _, (dx.same s1).dp, (dx.same s1).dp, dx.sh, dx.sh, _, rfl, iteF' (by rw [dx.eq]; rfl) ?_⟩
      exact ⟨⟨_, rfl⟩, s1⟩
    rintro σ2 H2 ⟨⟨t, rfl⟩, s⟩
    refine ⟨_, rfl, fun a ha => ⟨a, [x], rfl, rfl, upd_same, fun q H1 hq kq e1 e2 => ⟨rfl, fun σ2 H2 => (∃ t, σ2 = [some x, some y, t]) ∧ Same H H2, ?_, ?_⟩⟩⟩
    · have s1 := (s).trans (same_in ha kq)
      have ex : ExAt H1 a (He.ga K "BadPrime") (fl1 "index" [x]) := .inr ⟨q, e1, e2⟩
      refine ⟨_, rfl, a, _, _, _, _, _, rfl, ex, (fx.er (k := 29) rfl), rfl, fx.one (k := 29) (j := 29) rfl rfl, _, rfl, iteF' (by decide) ?_⟩
      refine ⟨_, rfl, a, 29, "BadPrime", _, rfl, rfl, ex, _, rfl, iteF' rfl ?_⟩
      refine ⟨_, rfl, a, _, _, _, rfl, ex, (fx.er (k := 29) rfl), ((fx.i ("BadPrime", ["index"]) (List.mem_of_getElem? (i := 17) rfl)).2.2 _ (List.mem_cons_self ..)), lk1, _, rfl, _, _, (dx.same s1).dp, (dx.same s1).dp, dx.sh, dx.sh, _, rfl, iteF' (by rw [dx.eq]; rfl) ?_⟩
      exact ⟨⟨_, rfl⟩, s1⟩
    rintro σ2 H2 ⟨⟨t, rfl⟩, s⟩
    refine ⟨_, rfl, fun a ha => ⟨a, [x], rfl, rfl, upd_same, fun q H1 hq kq e1 e2 => ⟨rfl, fun σ2 H2 => (∃ t, σ2 = [some x, some y, t]) ∧ Same H H2, ?_, ?_⟩⟩⟩
    · have s1 := (s).trans (same_in ha kq)
      have ex : ExAt H1 a (He.ga K "NotSmall") (fl1 "what" [x]) := .inr ⟨q, e1, e2⟩
      refine ⟨_, rfl, a, _, _, _, _, _, rfl, ex, (fx.er (k := 34) rfl), rfl, fx.one (k := 34) (j := 34) rfl rfl, _, rfl, iteF' (by decide) ?_⟩
      refine ⟨_, rfl, a, 34, "NotSmall", _, rfl, rfl, ex, _, rfl, iteF' rfl ?_⟩
      refine ⟨_, rfl, a, _, _, _, rfl, ex, (fx.er (k := 34) rfl), ((fx.i ("NotSmall", ["what"]) (List.mem_of_getElem? (i := 18) rfl)).2.2 _ (List.mem_cons_self ..)), lk1, _, rfl, _, _, (dx.same s1).dp, (dx.same s1).dp, dx.sh, dx.sh, _, rfl, iteF' (by rw [dx.eq]; rfl) ?_⟩
      exact ⟨⟨_, rfl⟩, s1⟩
    rintro σ2 H2 ⟨⟨t, rfl⟩, s⟩
    refine ⟨_, rfl, fun a ha => ⟨a, [x], rfl, rfl, upd_same, fun q H1 hq kq e1 e2 => ⟨rfl, fun σ2 H2 => (∃ t, σ2 = [some x, some y, t]) ∧ Same H H2, ?_, ?_⟩⟩⟩
    · have s1 := (s).trans (same_in ha kq)
      have ex : ExAt H1 a (He.ga K "BadProducts") (fl1 "index" [x]) := .inr ⟨q, e1, e2⟩
      refine ⟨_, rfl, a, _, _, _, _, _, rfl, ex, (fx.er (k := 35) rfl), rfl, fx.one (k := 35) (j := 35) rfl rfl, _, rfl, iteF' (by decide) ?_⟩
      refine ⟨_, rfl, a, 35, "BadProducts", _, rfl, rfl, ex, _, rfl, iteF' rfl ?_⟩
      refine ⟨_, rfl, a, _, _, _, rfl, ex, (fx.er (k := 35) rfl), ((fx.i ("BadProducts", ["index"]) (List.mem_of_getElem? (i := 19) rfl)).2.2 _ (List.mem_cons_self ..)), lk1, _, rfl, _, _, (dx.same s1).dp, (dx.same s1).dp, dx.sh, dx.sh, _, rfl, iteF' (by rw [dx.eq]; rfl) ?_⟩
      exact ⟨⟨_, rfl⟩, s1⟩
    rintro σ2 H2 ⟨⟨t, rfl⟩, s⟩
    refine ⟨_, rfl, fun a ha => ⟨a, [x], rfl, rfl, upd_same, fun q H1 hq kq e1 e2 => ⟨rfl, fun σ2 H2 => (∃ t, σ2 = [some x, some y, t]) ∧ Same H H2, ?_, ?_⟩⟩⟩
    · have s1 := (s).trans (same_in ha kq)
      have ex : ExAt H1 a (He.ga K "BadPlaces") (fl1 "index" [x]) := .inr ⟨q, e1, e2⟩
      refine ⟨_, rfl, a, _, _, _, _, _, rfl, ex, (fx.er (k := 36) rfl), rfl, fx.one (k := 36) (j := 36) rfl rfl, _, rfl, iteF' (by decide) ?_⟩
      refine ⟨_, rfl, a, 36, "BadPlaces", _, rfl, rfl, ex, _, rfl, iteF' rfl ?_⟩
      refine ⟨_, rfl, a, _, _, _, rfl, ex, (fx.er (k := 36) rfl), ((fx.i ("BadPlaces", ["index"]) (List.mem_of_getElem? (i := 20) rfl)).2.2 _ (List.mem_cons_self ..)), lk1, _, rfl, _, _, (dx.same s1).dp, (dx.same s1).dp, dx.sh, dx.sh, _, rfl, iteF' (by rw [dx.eq]; rfl) ?_⟩
      exact ⟨⟨_, rfl⟩, s1⟩
    rintro σ2 H2 ⟨⟨t, rfl⟩, s⟩
    refine ⟨_, rfl, _, rfl, fun a ha => ⟨a, [x, y], rfl, rfl, upd_same, fun q H1 hq kq e1 e2 => ⟨rfl, fun σ2 H2 => (∃ t, σ2 = [some x, some y, t]) ∧ Same H H2, ?_, ?_⟩⟩⟩
    · have s1 := (s).trans (same_in ha kq)
      have ex : ExAt H1 a (He.ga K "BadCode") (fl2 "index" "what" [x, y]) := .inr ⟨q, e1, e2⟩
      refine ⟨_, rfl, a, _, _, _, _, _, rfl, ex, (fx.er (k := 37) rfl), rfl, fx.one (k := 37) (j := 37) rfl rfl, _, rfl, iteF' (by decide) ?_⟩
      refine ⟨_, rfl, a, 37, "BadCode", _, rfl, rfl, ex, _, rfl, iteF' rfl ?_⟩
      refine ⟨_, rfl, a, _, _, _, rfl, ex, (fx.er (k := 37) rfl), ((fx.i ("BadCode", ["index", "what"]) (List.mem_of_getElem? (i := 21) rfl)).2.2 _ (List.mem_cons_self ..)), (lk2a (by decide +kernel)), _, rfl, _, _, (dx.same s1).dp, (dx.same s1).dp, dx.sh, dx.sh, _, rfl, iteF' (by rw [dx.eq]; rfl) ?_⟩
      refine ⟨_, rfl, a, _, _, _, rfl, ex, (fx.er (k := 37) rfl), ((fx.i ("BadCode", ["index", "what"]) (List.mem_of_getElem? (i := 21) rfl)).2.2 _ (List.mem_cons_of_mem _ (List.mem_cons_self ..))), lk2b, _, rfl, _, _, (dy.same s1).dp, (dy.same s1).dp, dy.sh, dy.sh, _, rfl, iteF' (by rw [dy.eq]; rfl) ?_⟩
      exact ⟨⟨_, rfl⟩, s1⟩
    rintro σ2 H2 ⟨⟨t, rfl⟩, s⟩
    refine ⟨_, rfl, _, rfl, fun a ha => ⟨a, [x, y], rfl, rfl, upd_same, fun q H1 hq kq e1 e2 => ⟨rfl, fun σ2 H2 => (∃ t, σ2 = [some x, some y, t]) ∧ Same H H2, ?_, ?_⟩⟩⟩
    · have s1 := (s).trans (same_in ha kq)
      have ex : ExAt H1 a (He.ga K "BadEdit") (fl2 "index" "what" [x, y]) := .inr ⟨q, e1, e2⟩
      refine ⟨_, rfl, a, _, _, _, _, _, rfl, ex, (fx.er (k := 38) rfl), rfl, fx.one (k := 38) (j := 38) rfl rfl, _, rfl, iteF' (by decide) ?_⟩
      refine ⟨_, rfl, a, 38, "BadEdit", _, rfl, rfl, ex, _, rfl, iteF' rfl ?_⟩
      refine ⟨_, rfl, a, _, _, _, rfl, ex, (fx.er (k := 38) rfl), ((fx.i ("BadEdit", ["index", "what"]) (List.mem_of_getElem? (i := 22) rfl)).2.2 _ (List.mem_cons_self ..)), (lk2a (by decide +kernel)), _, rfl, _, _, (dx.same s1).dp, (dx.same s1).dp, dx.sh, dx.sh, _, rfl, iteF' (by rw [dx.eq]; rfl) ?_⟩
      refine ⟨_, rfl, a, _, _, _, rfl, ex, (fx.er (k := 38) rfl), ((fx.i ("BadEdit", ["index", "what"]) (List.mem_of_getElem? (i := 22) rfl)).2.2 _ (List.mem_cons_of_mem _ (List.mem_cons_self ..))), lk2b, _, rfl, _, _, (dy.same s1).dp, (dy.same s1).dp, dy.sh, dy.sh, _, rfl, iteF' (by rw [dy.eq]; rfl) ?_⟩
      exact ⟨⟨_, rfl⟩, s1⟩
    rintro σ2 H2 ⟨⟨t, rfl⟩, s⟩
    refine ⟨_, rfl, fun a ha => ⟨a, [x], rfl, rfl, upd_same, fun q H1 hq kq e1 e2 => ⟨rfl, fun σ2 H2 => (∃ t, σ2 = [some x, some y, t]) ∧ Same H H2, ?_, ?_⟩⟩⟩
    · have s1 := (s).trans (same_in ha kq)
      have ex : ExAt H1 a (He.ga K "BadGoal") (fl1 "index" [x]) := .inr ⟨q, e1, e2⟩
      refine ⟨_, rfl, a, _, _, _, _, _, rfl, ex, (fx.er (k := 39) rfl), rfl, fx.one (k := 39) (j := 39) rfl rfl, _, rfl, iteF' (by decide) ?_⟩
      refine ⟨_, rfl, a, 39, "BadGoal", _, rfl, rfl, ex, _, rfl, iteF' rfl ?_⟩
      refine ⟨_, rfl, a, _, _, _, rfl, ex, (fx.er (k := 39) rfl), ((fx.i ("BadGoal", ["index"]) (List.mem_of_getElem? (i := 23) rfl)).2.2 _ (List.mem_cons_self ..)), lk1, _, rfl, _, _, (dx.same s1).dp, (dx.same s1).dp, dx.sh, dx.sh, _, rfl, iteF' (by rw [dx.eq]; rfl) ?_⟩
      exact ⟨⟨_, rfl⟩, s1⟩
    rintro σ2 H2 ⟨⟨t, rfl⟩, s⟩
    refine ⟨_, rfl, fun a ha => ⟨a, [x], rfl, rfl, upd_same, fun q H1 hq kq e1 e2 => ⟨rfl, fun σ2 H2 => (∃ t, σ2 = [some x, some y, t]) ∧ Same H H2, ?_, ?_⟩⟩⟩
    · have s1 := (s).trans (same_in ha kq)
      have ex : ExAt H1 a (He.ga K "NotRight") (fl1 "cell" [x]) := .inr ⟨q, e1, e2⟩
      refine ⟨_, rfl, a, _, _, _, _, _, rfl, ex, (fx.er (k := 40) rfl), rfl, fx.one (k := 40) (j := 40) rfl rfl, _, rfl, iteF' (by decide) ?_⟩
      refine ⟨_, rfl, a, 40, "NotRight", _, rfl, rfl, ex, _, rfl, iteF' rfl ?_⟩
      refine ⟨_, rfl, a, _, _, _, rfl, ex, (fx.er (k := 40) rfl), ((fx.i ("NotRight", ["cell"]) (List.mem_of_getElem? (i := 24) rfl)).2.2 _ (List.mem_cons_self ..)), lk1, _, rfl, _, _, (dx.same s1).dp, (dx.same s1).dp, dx.sh, dx.sh, _, rfl, iteF' (by rw [dx.eq]; rfl) ?_⟩
      exact ⟨⟨_, rfl⟩, s1⟩
    rintro σ2 H2 ⟨⟨t, rfl⟩, s⟩
    exact k _ s
end
end Kn
namespace Ko
open PySem PySem.Spec PyProof.Rows L2 Kx Kf Kg Ky Kl Kq Km Kn
abbrev sCaught : Stmt := Kq.top 53
abbrev sLaw : Stmt := Kq.top 54
/-- isinstance(e, c), e the exception that a suite holds -/
def rIsS (K : PySem.W.Frag) (P a : Addr) (cls : Value) (d : Option Addr) : List V → Hp → VK → Prop := fun xs H Q => ∃ (C dd : Addr) (fs : List (Str × V)) (c : V) (cv : Value) (b : Bool), xs = [.ref a, c] ∧ cls = .ref C ∧ d = some dd ∧ H dd = some (.xd fs) ∧ Er K P C ∧ rIsX.ClsW c cv ∧ PySem.W.kitOne K (.ref C) cv = some b ∧ Q (.bl b) H
theorem call_isS {X : Cx} {P a : Addr} {oe : Obj} {cls : Value} {d : Option Addr} {pn : List (Addr × Obj)} (g : Gt X.K) (hz : Zc cls d oe) (hf : ∃ vs, oe.data = .fields vs) : CallR (X.suite a ((a, oe) :: pn)) (.builtin "isinstance") (rIsS X.K P a cls d) := by
  intro pins s σ H xs us Q I r h
  obtain ⟨C, dd, fs, c, cv, b, rfl, rfl, rfl, hd, er, hc, e, q⟩ := h
  obtain ⟨u1, u2, rfl, r1, r2⟩ := vals2 r
  cases (show u1 = Value.ref a from r1)
  have e2 : u2 = cv := by
    cases c with
    | ty n => exact (show u2 = Value.type n from r2).trans (show cv = Value.type n from hc).symm
    | ref D => exact (show u2 = Value.ref D from r2).trans (show cv = Value.ref D from hc).symm
    | _ => exact False.elim hc
  subst e2
  obtain ⟨ho, _⟩ := I.pin (a, oe) (List.mem_append_left _ (List.mem_cons_self ..))
  obtain ⟨mA, hns, rel⟩ := (show ObjOk X.prog X.w H s.heap dd (.xd fs) from I.hok dd _ hd)
  obtain ⟨od, hod, _⟩ := lookIn_ns hns
  obtain ⟨vs, hv⟩ := hf
  have J : PySem.W.InstAt s.heap a oe C (some od) := ⟨ho, hz.1, by unfold PySem.W.notCls; rw [hv] <;> rfl, by rw [hz.2]; exact hod⟩
  exact PySem.W.kia_one (er.kit g) I.kIn J e (fun z => nomatch z) fun tk => ⟨.bl b, H, I.tok tk, rfl, q⟩
theorem op_eqDK {X : Cx} {K : PySem.W.Frag} (hK : X.K = K) (hu : X.A.units + 64 < cLine) : OpR X (compareOp .Eq) (rEqD K) := by
  subst hK
  exact op_eqD hu
theorem op_neDK {X : Cx} {K : PySem.W.Frag} (hK : X.K = K) (hu : X.A.units + 64 < cLine) : OpR X (compareOp .NotEq) (rNeD K) := by
  subst hK
  exact op_neD hu
/-- behind a raise: what stood stands -/
theorem same_gone {H H' : Hp} {a d : Addr} {o o2 : HO} (ha : H a = none) (hd : H d = none) (k : ∀ b u, b ≠ a → (upd H a o) b = some u → H' b = some u) : Same H (upd (del H' a) d o2) := fun b u e => by
  rw [upd_ne (ne_of_none e hd), del_ne (ne_of_none e ha)]
  exact same_in ha k b u e
section
variable {P : Program} {w : World} {K : PySem.W.Frag} {mg : Str → Option Value} {base : Heap} {f : Addr} {fd : FuncData}
theorem scC : FnScope ["_law_one", "_law_two", "e"] ["_law_one", "_law_two"] (defScope sCaught) := ⟨rfl, rfl, rfl, by decide +kernel, rfl, by decide +kernel, by decide +kernel⟩
theorem ok_caught (F : FnP K "_law_caught" sCaught f fd) (fx : Fx K mg) (I0 : Ini2 P w K mg base "BadTable" "index" "what") (I1 : Ini2 P w K mg base "BadLetters" "what" "index") : FnOk P w K mg base CX0 3 f fd ["_law_one", "_law_two"] (spTold K) := by
  have zi : mg "isinstance" = none := fx.fr _ (List.mem_of_getElem? (i := 3) rfl)
  obtain ⟨fd0, G0, b0⟩ := I0
  obtain ⟨fd1, G1, b1⟩ := I1
  have t0 := fx.i ("BadTable", ["index", "what"]) (List.mem_of_getElem? (i := 2) rfl)
  have t1 := fx.i ("BadLetters", ["what", "index"]) (List.mem_of_getElem? (i := 3) rfl)
  have er0 := fx.er (k := 4) rfl
  have er1 := fx.er (k := 5) rfl
  refine F.ok scC (fun vs H Q E h => ?_) (fun cdv A outer s H vs Q E hr h => ?_)
  · obtain ⟨x, y, d, e, rfl, _⟩ := h
    rfl
  · obtain ⟨x, y, d, e, rfl, dx, dy, k⟩ := h
    have hu := hr.units
    refine ⟨_, PSs.nox (Evl.pss_cut (ps_try_as (i := 2) (c := .ref (gP K)) (Wout := fun _ _ _ _ => False) rfl rfl scC.nd rfl rfl ⟨rfl, by decide, .inl fx.par⟩ takes0
        (fun W pn xe tk _ => pss_one (ps_raise rfl tk (pmk_oex er0.ox t0.1 t0.2.1 G0 hr b0 .nil pass0 (by rfl) (fx.mm (k := 4) rfl) (pa_cons (pv 0) (pa_cons (pv 1) pa_nil)))))
        (fun a oe cls dd pn hz hf => pss_one (ps_if (PW.pt (pw_or (pt_not (pt_val (pe_callB (call_isS (P := gP K) fx.gt hz hf) (by rfl) zi PyProof.Rows.boot_isinstance (pa_cons (pv 2) (pa_cons (pe_cls (by rfl) (fx.mm (k := 4) rfl)) pa_nil)))))
          (pw_or (pt_cmpR (op_neDK (K := K) rfl hu) (pe_xf er0.xf (t0.2.2 "index" (List.mem_cons_self ..)) hz hf (pv 2)) (pv 0) (nomark _)) (pw_or1 (pt_cmpR (op_neDK (K := K) rfl hu) (pe_xf er0.xf (t0.2.2 "what" (List.mem_cons_of_mem _ (List.mem_cons_self ..))) hz hf (pv 2)) (pv 1) (nomark _)))))) (pss_one (ps_ret pe_bl)) pss_nil)))
      (pss_cons (ps_try_as (i := 2) (c := .ref (gP K)) (Wout := fun _ _ _ _ => False) rfl rfl scC.nd rfl rfl ⟨rfl, by decide, .inl fx.par⟩ takes0
        (fun W pn xe tk _ => pss_one (ps_raise rfl tk (pmk_oex er1.ox t1.1 t1.2.1 G1 hr b1 .nil pass0 (by rfl) (fx.mm (k := 5) rfl) (pa_cons (pv 0) (pa_cons (pv 1) pa_nil)))))
        (fun a oe cls dd pn hz hf => pss_one (ps_ret (pe_and (pe_callB (call_isS (P := gP K) fx.gt hz hf) (by rfl) zi PyProof.Rows.boot_isinstance (pa_cons (pv 2) (pa_cons (pe_cls (by rfl) (fx.mm (k := 5) rfl)) pa_nil)))
          (pe_and (pe_cmpR (op_eqDK (K := K) rfl hu) (pe_xf er1.xf (t1.2.2 "what" (List.mem_cons_self ..)) hz hf (pv 2)) (pv 0) (nomark _)) (pe_one (pe_cmpR (op_eqDK (K := K) rfl hu) (pe_xf er1.xf (t1.2.2 "index" (List.mem_cons_of_mem _ (List.mem_cons_self ..))) hz hf (pv 2)) (pv 1) (nomark _))))))))
      (pss_one (ps_ret pe_bl)))), ?_⟩
    refine ⟨fun σ2 H2 => (∃ t, σ2 = [some x, some y, t]) ∧ Same H H2, ?_, ?_⟩
    · refine ⟨_, rfl, _, rfl, (by show 2 ≤ 1000; decide), fun a ha => ⟨a, [x, y], rfl, rfl, upd_same, fun q H1 hq kq e1 e2 => ⟨rfl, q, _, e1, e2, ?_, ?_⟩⟩⟩
      · have hqa : q ≠ a := fun z => by
          rw [z, upd_same] at hq
          cases hq
        rw [upd_ne hqa] at hq
        exact hq
      · have hqa : q ≠ a := fun z => by
          rw [z, upd_same] at hq
          cases hq
        rw [upd_ne hqa] at hq
        have s1 := same_gone (o2 := .xd (fl2 "index" "what" [x, y])) ha hq kq
        refine ⟨true, fx.exm (k := 4) rfl, fun _ a2 ha2 => ?_, fun z => by cases z⟩
        refine ⟨_, rfl, _, q, _, _, _, _, rfl, rfl, rfl, upd_same, er0, rfl, fx.one (k := 4) (j := 4) rfl rfl, _, rfl, iteF' (by decide) ?_⟩
        refine ⟨_, rfl, rfl, rfl, q, _, _, rfl, upd_same, lk2a (by decide +kernel), _, rfl, _, _, (dx.same s1).dp, (dx.same s1).dp, dx.sh, dx.sh, _, rfl, iteF' (by rw [dx.eq]; rfl) ?_⟩
        refine ⟨_, rfl, rfl, rfl, q, _, _, rfl, upd_same, lk2b, _, rfl, _, _, (dy.same s1).dp, (dy.same s1).dp, dy.sh, dy.sh, _, rfl, iteF' (by rw [dy.eq]; rfl) ?_⟩
        exact ⟨⟨_, rfl⟩, s1⟩
    · rintro σ2 H2 ⟨⟨t, rfl⟩, s⟩
      refine ⟨_, rfl, _, rfl, (by show 2 ≤ 1000; decide), fun a ha => ⟨a, [x, y], rfl, rfl, upd_same, fun q H1 hq kq e1 e2 => ⟨rfl, q, _, e1, e2, ?_, ?_⟩⟩⟩
      · have hqa : q ≠ a := fun z => by
          rw [z, upd_same] at hq
          cases hq
        rw [upd_ne hqa] at hq
        exact hq
      · have hqa : q ≠ a := fun z => by
          rw [z, upd_same] at hq
          cases hq
        rw [upd_ne hqa] at hq
        have s1 := s.trans (same_gone (o2 := .xd (fl2 "what" "index" [x, y])) ha hq kq)
        refine ⟨true, fx.exm (k := 5) rfl, fun _ a2 ha2 => ?_, fun z => by cases z⟩
        refine ⟨_, rfl, _, q, _, _, _, _, rfl, rfl, rfl, upd_same, er1, rfl, fx.one (k := 5) (j := 5) rfl rfl, _, rfl, iteT' (by decide) ?_⟩
        refine ⟨_, rfl, rfl, rfl, q, _, _, rfl, upd_same, lk2a (by decide +kernel), _, rfl, _, _, (dx.same s1).dp, (dx.same s1).dp, dx.sh, dx.sh, _, rfl, iteT' dx.eq ?_⟩
        refine ⟨_, rfl, rfl, rfl, q, _, _, rfl, upd_same, lk2b, _, rfl, _, _, (dy.same s1).dp, (dy.same s1).dp, dy.sh, dy.sh, ?_⟩
        rw [dy.eq]
        exact k _ s1
/-- what the fifth draw picks -/
theorem pick {H : Hp} {q : Addr} {r : Int} (h0 : 0 ≤ r) (h1 : r < 5) (hq : H q = some (.tup [.int 1, .int 2])) : ∃ v d, atI [V.str "rows", V.str "size", V.non, V.ref q, V.int (-1)] r = some v ∧ Dat K H v d := by
  have hc : r = 0 ∨ r = 1 ∨ r = 2 ∨ r = 3 ∨ r = 4 := by omega
  rcases hc with rfl | rfl | rfl | rfl | rfl
  · exact ⟨_, _, rfl, .str _, by decide +kernel, by decide +kernel, .inr (.inr (.inl ⟨_, rfl⟩))⟩
  · exact ⟨_, _, rfl, .str _, by decide +kernel, by decide +kernel, .inr (.inr (.inl ⟨_, rfl⟩))⟩
  · exact ⟨_, _, rfl, .non, by decide +kernel, by decide +kernel, .inl rfl⟩
  · exact ⟨_, _, rfl, .tup (SqT.of hq) (.cons (.int 1) (.cons (.int 2) .nil)), by decide +kernel, by decide +kernel, .inr (.inr (.inr ⟨q, 1, 2, rfl, rfl, SqT.of hq⟩))⟩
  · exact ⟨_, _, rfl, .int _, by decide +kernel, by decide +kernel, .inr (.inl ⟨_, rfl⟩)⟩
theorem dat_int {H : Hp} (i : Int) : Dat K H (.int i) (.int i) := ⟨.int i, by show SeqAt.shaped (.int i) = true; rfl, by show (i == i) = true; exact beq_self_eq_true i, .inr (.inl ⟨i, rfl⟩)⟩
theorem _root_.Kn.Dat.but {a : Addr} {H H' : Hp} {xs : List V} {v : V} {d : PyData} (h : Dat K H v d) (hl : H a = some (.lst xs)) (b : But a H H') : Dat K H' v d := by
  obtain ⟨dp, sh, eq, as⟩ := h
  rcases as with rfl | ⟨i, rfl⟩ | ⟨x, rfl⟩ | ⟨t, i, j, rfl, rfl, ht⟩
  · cases dp
    exact ⟨.non, sh, eq, .inl rfl⟩
  · cases dp
    exact ⟨.int i, sh, eq, .inr (.inl ⟨i, rfl⟩)⟩
  · cases dp
    exact ⟨.str x, sh, eq, .inr (.inr (.inl ⟨x, rfl⟩))⟩
  · have h2 : SqT K H' t [.int i, .int j] := by
      rcases ht with (ht | ⟨o, ht⟩) | ht
      · refine .inl (.inl (b _ _ (fun z => ?_) ht))
        rw [z, hl] at ht
        cases ht
      · refine .inl (.inr ⟨o, b _ _ (fun z => ?_) ht⟩)
        rw [z, hl] at ht
        cases ht
      · exact .inr ht
    exact ⟨.tup h2 (.cons (.int i) (.cons (.int j) .nil)), sh, eq, .inr (.inr (.inr ⟨t, i, j, rfl, rfl, h2⟩))⟩
theorem But.same {a : Addr} {H0 H H' : Hp} (s : Same H0 H) (n : H0 a = none) (b : But a H H') : Same H0 H' := fun c o e => b c o (ne_of_none e n) (s c o e)
theorem ten6 : (10 : Int) ^ (6 : Int).toNat = 1000000 := by decide
theorem scW : FnScope ["_law_script", "_law_hand_here", "_law_one", "_law_two"] ["_law_script"] (defScope sLaw) := ⟨rfl, rfl, rfl, by decide +kernel, rfl, by decide +kernel, by decide +kernel⟩
def spLaw (K : PySem.W.Frag) : Sp := fun vs H Q _ => ∃ (s : Addr) (ns : List Int), vs = [.ref s] ∧ SqL K H s (ns.map V.int) ∧ ns.length ≤ 63 ∧ ∀ H', Q (.bl true) H'
theorem ok_law {fH fT fB fL fF fE fC : Addr} {fdH fdT fdB fdL fdF fdE fdC : FuncData} (F : FnP K "law" sLaw f fd)
    (GH : FnOk P w K mg base CX0 1 fH fdH ["_law_script"] (spHand K)) (mH : mg "_law_hand" = some (.ref fH)) (kH : PySem.W.keepIn K (.ref fH) = true) (bH : L2.Binds K fdH ["_law_script"] [])
    (GT : FnOk P w K mg base CX0 2 fT fdT ["_law_hand_here", "_law_many"] spTake) (mT : mg "_law_take" = some (.ref fT)) (kT : PySem.W.keepIn K (.ref fT) = true) (bT : L2.Binds K fdT ["_law_hand_here", "_law_many"] [])
    (GB : FnOk P w K mg base CX0 2 fB fdB [] spYes) (mB : mg "_law_bare_first" = some (.ref fB)) (kB : PySem.W.keepIn K (.ref fB) = true) (bB : L2.Binds K fdB [] [])
    (GL : FnOk P w K mg base CX0 2 fL fdL [] spYes) (mL : mg "_law_bare_last" = some (.ref fL)) (kL : PySem.W.keepIn K (.ref fL) = true) (bL : L2.Binds K fdL [] [])
    (GF : FnOk P w K mg base CX0 3 fF fdF ["_law_one", "_law_two"] (spTold K)) (mF : mg "_law_told_first" = some (.ref fF)) (kF : PySem.W.keepIn K (.ref fF) = true) (bF : L2.Binds K fdF ["_law_one", "_law_two"] [])
    (GE : FnOk P w K mg base CX0 3 fE fdE ["_law_one", "_law_two"] (spTold K)) (mE : mg "_law_told_last" = some (.ref fE)) (kE : PySem.W.keepIn K (.ref fE) = true) (bE : L2.Binds K fdE ["_law_one", "_law_two"] [])
    (GC : FnOk P w K mg base CX0 3 fC fdC ["_law_one", "_law_two"] (spTold K)) (mC : mg "_law_caught" = some (.ref fC)) (kC : PySem.W.keepIn K (.ref fC) = true) (bC : L2.Binds K fdC ["_law_one", "_law_two"] []) :
    FnOk P w K mg base CX0 4 f fd ["_law_script"] (spLaw K) := by
  refine F.ok scW (fun vs H Q E h => ?_) (fun cdv A outer s H vs Q E hr h => ?_)
  · obtain ⟨s, ns, rfl, _⟩ := h
    rfl
  · obtain ⟨s, ns, rfl, hS, hlen, k⟩ := h
    have hr1 : Room 1 _ := hr.mono (by decide)
    have hr2 : Room 2 _ := hr.mono (by decide)
    refine ⟨_, PSs.nox (pss_cons (ps_set (i := 1) scW.nd rfl (Or.inl rfl) (pe_call GH hr1 (by rfl) mH kH bH .nil pass0 (pa_cons (pv 0) pa_nil)))
      (pss_cons (ps_set (i := 2) scW.nd rfl (Or.inl rfl) (pe_call GT hr2 (by rfl) mT kT bT .nil pass0 (pa_cons (pv 1) (pa_cons (pe_op op_pow pe_int pe_int) pa_nil))))
      (pss_cons (ps_set (i := 3) scW.nd rfl (Or.inl rfl) (pe_ix ix_tup (pe_tup (pa_cons pe_str (pa_cons pe_str (pa_cons pe_non (pa_cons (pe_tup (pa_cons pe_int (pa_cons pe_int pa_nil))) (pa_cons (pe_un un_neg pe_int) pa_nil)))))) (pe_call GT hr2 (by rfl) mT kT bT .nil pass0 (pa_cons (pv 1) (pa_cons pe_int pa_nil))) (fun _ _ => rfl)))
      (Evl.pss_cut (ps_if (pt_cmpR op_eq (pe_call GT hr2 (by rfl) mT kT bT .nil pass0 (pa_cons (pv 1) (pa_cons pe_int pa_nil))) pe_int (nomark _)) (pss_one (ps_par (i := 2) (j := 3) rfl scW.nd rfl rfl (by decide) rfl rfl (pa_cons (pv 3) (pa_cons (pv 2) pa_nil)) (by rfl))) pss_nil)
      (pss_cons (ps_if (PW.pt (pw_or (pt_not (pt_val (pe_call0 GB hr2 (by rfl) mB kB bB .nil pass0))) (pw_or1 (pt_not (pt_val (pe_call0 GL hr2 (by rfl) mL kL bL .nil pass0)))))) (pss_one (ps_ret pe_bl)) pss_nil)
      (pss_cons (ps_if (PW.pt (pw_or (pt_not (pt_val (pe_call GF hr (by rfl) mF kF bF .nil pass0 (pa_cons (pv 2) (pa_cons (pv 3) pa_nil))))) (pw_or1 (pt_not (pt_val (pe_call GE hr (by rfl) mE kE bE .nil pass0 (pa_cons (pv 2) (pa_cons (pv 3) pa_nil)))))))) (pss_one (ps_ret pe_bl)) pss_nil)
      (pss_one (ps_ret (pe_call GC hr (by rfl) mC kC bC .nil pass0 (pa_cons (pv 2) (pa_cons (pv 3) pa_nil))))))))))), ?_⟩
    refine ⟨_, rfl, s, ns, rfl, hS, hlen, fun a c cs t H1 s1 h1 => ?_⟩
    refine ⟨_, rfl, _, _, rfl, rfl, ⟨by decide, by decide, by decide⟩, a, c, cs, _, _, _, _, rfl, h1, by rw [ten6]; decide, by rw [ten6]; decide, fun r p g t2 H2 _ _ b2 h2 => ?_⟩
    refine ⟨by show 2 ≤ sizeLine; decide, fun q hq => ⟨_, rfl, by show 5 ≤ sizeLine; decide, fun z hz => ?_⟩⟩
    have hqa : q ≠ a := (ne_of_none h2.l hq).symm
    have hza : z ≠ a := by
      refine (ne_of_none (H := upd H2 q (.tup [.int 1, .int 2])) (o := .lst [.ref c, .int p, .int g, .int t2]) ?_ hz).symm
      rw [upd_ne hqa.symm]
      exact h2.l
    have hqz : q ≠ z := ne_of_none upd_same hz
    have n1 : Same H2 (upd H2 q (.tup [.int 1, .int 2])) := same_new hq
    have n2 := n1.trans (same_new (o := .tup [.str "rows", .str "size", .non, .ref q, .int (-1)]) hz)
    refine ⟨_, rfl, a, c, cs, _, _, _, _, rfl, h2.same n2, by decide, by decide, fun r2 p2 g2 t3 H3 r0 r1 b3 h3 => ?_⟩
    have hq3 : H3 q = some (.tup [.int 1, .int 2]) := b3 q _ hqa (by rw [upd_ne hqz, upd_same])
    have hz3 : H3 z = some (.tup [.str "rows", .str "size", .non, .ref q, .int (-1)]) := b3 z _ hza upd_same
    obtain ⟨v, d, ev, dv⟩ := pick (K := K) r0 r1 hq3
    refine ⟨z, _, r2, v, rfl, rfl, SqT.of hz3, ev, ?_⟩
    refine ⟨fun σ' H' => ∃ (x y : V) (dx dy : PyData), σ' = [some (.ref s), some (.ref a), some x, some y] ∧ Dat K H' x dx ∧ Dat K H' y dy, ?_, ?_⟩
    · refine ⟨_, rfl, a, c, cs, _, _, _, _, rfl, h3, by decide, by decide, fun r3 p3 g3 t4 H4 _ _ b4 h4 => ?_⟩
      have dv4 : Dat K H4 v d := dv.but h3.l b4
      refine ⟨rfl, _, rfl, ?_⟩
      by_cases h0 : r3 = 0
      · subst h0
        refine iteT' (decide_eq_true rfl) ?_
        refine ⟨_, rfl, _, rfl, _, _, rfl, ?_⟩
        exact ⟨v, .int r, d, _, rfl, dv4, dat_int r⟩
      · refine iteF' (decide_eq_false fun z => h0 (V.int.inj z)) ?_
        exact ⟨.int r, v, _, d, rfl, dat_int r, dv4⟩
    · rintro σ' H4 ⟨x, y, dx, dy, rfl, hx, hy⟩
      refine ⟨rfl, fun H5 s5 => ⟨_, rfl, iteF' rfl ?_⟩⟩
      refine ⟨rfl, fun H6 s6 => ⟨_, rfl, iteF' rfl ?_⟩⟩
      have s46 := s5.trans s6
      refine ⟨_, rfl, _, rfl, x, y, _, _, rfl, hx.same s46, hy.same s46, fun H7 s7 => ⟨_, rfl, iteF' rfl ?_⟩⟩
      have s47 := s46.trans s7
      refine ⟨_, rfl, _, rfl, x, y, _, _, rfl, hx.same s47, hy.same s47, fun H8 s8 => ⟨_, rfl, iteF' rfl ?_⟩⟩
      have s48 := s47.trans s8
      exact ⟨_, rfl, _, rfl, x, y, _, _, rfl, hx.same s48, hy.same s48, fun H9 _ => k H9⟩
end
end Ko
namespace Kz
open PySem PySem.Spec PyProof.Rows L2 Kx Kf Kg Ky Kl Kq Km Kn Ko
theorem facts {P : Program} {w : World} {K : PySem.W.Frag} {h : Heap} {mg : Str → Option Value} {f : Addr} (X : K.In h) (G : h.Ns mainGlobals mg) (hfa : mg ("law" : Str) = some (.ref f)) (k : ck K = true) (c : He.SaysD [] Kg.fn K) :
    ∃ fd : FuncData, (∀ (s : Shared) (v : Value), BindsTo s fd ⟨[v], []⟩ [("_law_script", v)]) ∧ ∀ base : Heap, K.In base → base.Ns mainGlobals mg → FnOk P w K mg base CX0 4 f fd ["_law_script"] (spLaw K) := by
  have fx := fx_of X G k
  obtain ⟨fdH, DH⟩ := c.def_ 0 rfl
  have mH := fx.g "_law_hand" (List.mem_of_getElem? (i := 0) rfl)
  obtain ⟨fdM, DM⟩ := c.def_ 1 rfl
  have mM := fx.g "_law_mixed" (List.mem_of_getElem? (i := 1) rfl)
  obtain ⟨fdT, DT⟩ := c.def_ 2 rfl
  have mT := fx.g "_law_take" (List.mem_of_getElem? (i := 2) rfl)
  obtain ⟨fdS, DS⟩ := c.def_ 3 rfl
  have mS := fx.g "_law_single" (List.mem_of_getElem? (i := 3) rfl)
  obtain ⟨fdB, DB⟩ := c.def_ 4 rfl
  have mB := fx.g "_law_bare_first" (List.mem_of_getElem? (i := 4) rfl)
  obtain ⟨fdL, DL⟩ := c.def_ 5 rfl
  have mL := fx.g "_law_bare_last" (List.mem_of_getElem? (i := 5) rfl)
  obtain ⟨fdF, DF⟩ := c.def_ 6 rfl
  have mF := fx.g "_law_told_first" (List.mem_of_getElem? (i := 6) rfl)
  obtain ⟨fdE, DE⟩ := c.def_ 7 rfl
  have mE := fx.g "_law_told_last" (List.mem_of_getElem? (i := 7) rfl)
  obtain ⟨fdC, DC⟩ := c.def_ 8 rfl
  have mC := fx.g "_law_caught" (List.mem_of_getElem? (i := 8) rfl)
  obtain ⟨fdW, DW⟩ := c.def_ 9 rfl
  have mW := fx.g "law" (List.mem_of_getElem? (i := 9) rfl)
  obtain ⟨fd0, J0⟩ := c.def_ 10 rfl
  obtain ⟨fd1, J1⟩ := c.def_ 11 rfl
  obtain ⟨fd2, J2⟩ := c.def_ 12 rfl
  obtain ⟨fd3, J3⟩ := c.def_ 13 rfl
  obtain ⟨fd4, J4⟩ := c.def_ 14 rfl
  obtain ⟨fd5, J5⟩ := c.def_ 15 rfl
  obtain ⟨fd6, J6⟩ := c.def_ 16 rfl
  obtain ⟨fd7, J7⟩ := c.def_ 17 rfl
  obtain ⟨fd8, J8⟩ := c.def_ 18 rfl
  obtain ⟨fd9, J9⟩ := c.def_ 19 rfl
  obtain ⟨fd10, J10⟩ := c.def_ 20 rfl
  obtain ⟨fd11, J11⟩ := c.def_ 21 rfl
  obtain ⟨fd12, J12⟩ := c.def_ 22 rfl
  obtain ⟨fd13, J13⟩ := c.def_ 23 rfl
  obtain ⟨fd14, J14⟩ := c.def_ 24 rfl
  obtain ⟨fd15, J15⟩ := c.def_ 25 rfl
  obtain ⟨fd16, J16⟩ := c.def_ 26 rfl
  obtain ⟨fd17, J17⟩ := c.def_ 27 rfl
  obtain ⟨fd18, J18⟩ := c.def_ 28 rfl
  obtain ⟨fd19, J19⟩ := c.def_ 29 rfl
  obtain ⟨fd20, J20⟩ := c.def_ 30 rfl
  obtain ⟨fd21, J21⟩ := c.def_ 31 rfl
  obtain ⟨fd22, J22⟩ := c.def_ 32 rfl
  obtain ⟨fd23, J23⟩ := c.def_ 33 rfl
  obtain ⟨fd24, J24⟩ := c.def_ 34 rfl
  have e := hfa.symm.trans mW
  cases e
  have tx : Tx mg (He.ga K "_law_mixed") := ⟨fx.fr _ (List.mem_of_getElem? (i := 0) rfl), fx.fr _ (List.mem_of_getElem? (i := 1) rfl), fx.fr _ (List.mem_of_getElem? (i := 2) rfl), mM⟩
  have bW := FunD.bindsA (ps := ["_law_script"]) DW fun _ _ _ _ _ _ us hl => match us, hl with | [_], _ => rfl
  refine ⟨fdW, fun s v => bW s [v] rfl, fun base _ _ => ?_⟩
  exact ok_law DW (ok_hand DH tx) mH DH.kp (DH.bindsN (ps := ["_law_script"]) (fun _ _ _ _ _ _ us hl => match us, hl with | [_], _ => rfl))
    (ok_take DT DM tx) mT DT.kp (DT.bindsN (ps := ["_law_hand_here", "_law_many"]) (fun _ _ _ _ _ _ us hl => match us, hl with | [_, _], _ => rfl))
    (ok_bareF DB DS mS fx) mB DB.kp (DB.bindsN (ps := []) (fun _ _ _ _ _ _ us hl => match us, hl with | [], _ => rfl))
    (ok_bareL DL DS mS fx) mL DL.kp (DL.bindsN (ps := []) (fun _ _ _ _ _ _ us hl => match us, hl with | [], _ => rfl))
    (ok_toldF DF DS mS fx (in_BadRatio fx J0) (in_BadFigures fx J1) (in_BadTable fx J2) (in_BadLetters fx J3) (in_BadPair fx J4) (in_BadKept fx J5) (in_BadProgram fx J6) (in_BadText fx J7) (in_BadPoly fx J8) (in_NotSquare fx J9) (in_BadChange fx J10)) mF DF.kp (DF.bindsN (ps := ["_law_one", "_law_two"]) (fun _ _ _ _ _ _ us hl => match us, hl with | [_, _], _ => rfl))
    (ok_toldL DE DS mS fx (in_BadPoints fx J11) (in_BadMany fx J12) (in_NoPoint fx J13) (in_BadChoice fx J14) (in_BadRow fx J15) (in_BadTaps fx J16) (in_BadPrime fx J17) (in_NotSmall fx J18) (in_BadProducts fx J19) (in_BadPlaces fx J20) (in_BadCode fx J21) (in_BadEdit fx J22) (in_BadGoal fx J23) (in_NotRight fx J24)) mE DE.kp (DE.bindsN (ps := ["_law_one", "_law_two"]) (fun _ _ _ _ _ _ us hl => match us, hl with | [_, _], _ => rfl))
    (ok_caught DC fx (in_BadTable fx J2) (in_BadLetters fx J3)) mC DC.kp (DC.bindsN (ps := ["_law_one", "_law_two"]) (fun _ _ _ _ _ _ us hl => match us, hl with | [_, _], _ => rfl))
end Kz
open PySem PySem.W PySem.Calls PyProof.Rows
set_option maxRecDepth 100000 in
set_option maxHeartbeats 0 in
theorem PySem.Challenge.cw_sparedproducts_k90_errors_side_by_side_holds : PySem.Challenge.rw_sparedproducts_k90_errors_side_by_side.Holds := by
  w_on; o_law
  refine HandSHeadRun.head_any (r := OpenLaw.row PySem.Challenge.rw_sparedproducts_k90_errors_side_by_side) (q := view (OpenLaw.row PySem.Challenge.rw_sparedproducts_k90_errors_side_by_side).prog [54]) (H := Kg.hk) (ob := Kg.ob) (M := 20000) (loose := Kg.loose) (d := HandSHeadRun.topDef (OpenLaw.row PySem.Challenge.rw_sparedproducts_k90_errors_side_by_side).prog 54) (kwd := []) Kg.ob_eq
    (by kernel_rfl) (fun s => by kernel_rfl) Kg.run (by kernel_rfl) (by kernel_rfl) (by kernel_rfl) (by rfl) (by first | assumption | decide +kernel) (by decide +kernel) ⟨rfl, rfl, rfl, rfl, rfl, by decide +kernel⟩ ?hw ?hc
  case hw => w_witness2
  case hc =>
    refine L2.walk_ofE (l := PySem.Challenge.rw_sparedproducts_k90_errors_side_by_side) (n := 63) (k := 4) (x := "_law_script") (CX := L2.CX0) rfl (by decide) (by kernel_rfl) ⟨rfl, by decide, by decide⟩ ?F (fun _ _ _ _ z => z)
    intro w mg fa h Y G hmg0
    obtain ⟨K, KX, k, c⟩ := Y
    have hmg : mg ("law" : PySem.Str) = some (.ref fa) := by
      have e : (HandSHeadRun.topDef (OpenLaw.row PySem.Challenge.rw_sparedproducts_k90_errors_side_by_side).prog 54).name = ("law" : PySem.Str) := by kernel_rfl
      rw [← e]
      exact hmg0
    obtain ⟨fd, hb, hF⟩ := Kz.facts (P := (PySem.Challenge.rw_sparedproducts_k90_errors_side_by_side).prog) (w := w) KX G hmg k c
    exact ⟨K, fd, Ko.spLaw K, KX, hb, fun H a ns hl _ hS => ⟨a, ns, rfl, hS, hl, fun _ => rfl⟩, hF⟩
