import PyProof.Rows.All
import Wide.All
import OpenK.AllK
import Wide.FinOn
import KE.KStateDown
import HandS.Base
import HandS.Call
import HandS.Ends
import HandS.Words
import HandS.Defaults
import HandS.Head0
import HandS.Head1
import HandS.Head2
import HandS.HeadEnd
import HandS.HeadHook1
import HandS.HeadHook2
import KE.KIsAll
import KE.KExcInit
import HandS.List
import HandS.Exc
import HandS.ExcInit
import HandS.ClsMeth
import HandS.IsInst
import KE.KTryMore
import HandS.ExcIs
import PyProof.ReprRoads
import HandS.RaiseMore
import HandS.Comp
import HandS.Dict
import HandS.WordsList
import HandS.Evl
import HandS.Conv
import PySem.Challenge.RW_owntimes_k01_limits_and_errors
section
set_option Elab.async false
set_option linter.all false
set_option maxRecDepth 100000
set_option maxHeartbeats 4000000
namespace My
open PySem PySem.Spec PyProof.Rows L2
/-! ### a Hook: facts by names, defs, one Bool of one's own -/
def frM (g : Addr → Option Obj) (n : Nat) : PySem.W.Frag := He.frG g (sysModules :: PySem.cStatics :: He.asD g n)
def obM (n : Nat) (fa : List He.Fa) (fn : List He.DefD) (ex : PySem.W.Frag → Bool) (g : Addr → Option Obj) : He.AlD × Bool := (He.obsD fa fn (frM g n), ex (frM g n))
structure SaysM (fa : List He.Fa) (fn : List He.DefD) (ex : PySem.W.Frag → Bool) (K : PySem.W.Frag) : Prop where
  d : He.SaysD fa fn K
  x : ex K = true
def hookM (n : Nat) (fa : List He.Fa) (fn : List He.DefD) (ex : PySem.W.Frag → Bool) : PySem.W.Hook where
  α := He.AlD × Bool
  obs := fun s => obM n fa fn ex s.heap.get?
  val := fun _ => (He.valD fn, true)
  says := fun _ h => ∃ K : PySem.W.Frag, K.In h ∧ SaysM fa fn ex K
  of := fun _ _ e => ⟨_, He.frG_in, congrArg (fun z : He.AlD × Bool => z.1) e, congrArg (fun z : He.AlD × Bool => z.2) e⟩
  keeps := fun _ _ _ ⟨K, hK, c⟩ k => ⟨K, PySem.W.Frag.In.keeps hK k, c⟩
theorem obM_eq {n : Nat} {fa : List He.Fa} {fn : List He.DefD} {ex : PySem.W.Frag → Bool} {g : Addr → Option Obj} {s : Shared} (h : ∀ a, g a = s.heap.get? a) : obM n fa fn ex g = (hookM n fa fn ex).obs s := by
  rw [show g = s.heap.get? from funext h]
  rfl
/-- a def of the top, a method -/
def dG (x : Str) (st : Stmt) : He.DefD := ⟨(x, none), x, x, defArgs st, defBody st, defScope st, [], []⟩
def dI (c q : Str) (st : Stmt) : He.DefD := ⟨(c, some "__init__"), "__init__", q, defArgs st, defBody st, defScope st, [], []⟩
end My
end

section
set_option Elab.async false
set_option linter.all false
set_option maxRecDepth 100000
set_option maxHeartbeats 4000000
namespace My
open PySem PySem.Spec PyProof.Rows L2

/-! ### exception classes of the program over one of three built-in bases -/
structure Bs where
  nm : String
  nw : String
  ini : String
  bm : List Value
structure BsOk (b : Bs) : Prop where
  bas : ExcBaseFacts b.nm b.nw b.ini b.bm
  sto : StoreFacts b.nm b.bm "object.__setattr__" "object"
  hnd : PySem.W.handedIn (.builtin b.ini) = true
def bV : Bs := ⟨"ValueError", "ValueError.__new__", "ValueError.__init__", [.type "ValueError", .type "Exception", .type "BaseException", .type "object"]⟩
def bL : Bs := ⟨"LookupError", "LookupError.__new__", "LookupError.__init__", [.type "LookupError", .type "Exception", .type "BaseException", .type "object"]⟩
def bA : Bs := ⟨"ArithmeticError", "ArithmeticError.__new__", "ArithmeticError.__init__", [.type "ArithmeticError", .type "Exception", .type "BaseException", .type "object"]⟩
theorem bV_ok : BsOk bV := ⟨PySem.F.excBase_ValueError, PySem.F.store_ValueError, by decide +kernel⟩
theorem bL_ok : BsOk bL := ⟨PySem.F.excBase_LookupError, PySem.F.store_LookupError, by decide +kernel⟩
theorem bA_ok : BsOk bA := ⟨PySem.F.excBase_ArithmeticError, PySem.F.store_ArithmeticError, by decide +kernel⟩

/-- what the written part says of such a class -/
structure Xc (K : PySem.W.Frag) (b : Bs) (C : Addr) : Prop where
  ok : BsOk b
  xi : PySem.W.excInitIn K C b.bm b.nw = true
  ov : PySem.W.excOver K C b.bm = true
  sa : PySem.W.findIn K (.ref C) "__setattr__" = some (some (.builtin "object.__setattr__"))
  dc : PySem.W.hasDictIn K C = true
  ga : PySem.W.findIn K (.ref C) "__getattribute__" = some (some (.builtin "BaseException.__getattribute__"))
  gg : PySem.W.findIn K (.ref C) "__getattr__" = some none
  eB : PySem.W.subIn K (.ref C) (.type "BaseException") = some true
  tC : PySem.W.typeIn K (.ref C) = some (.type "type")
  kC : PySem.W.keepIn K (.ref C) = true
  cl : PySem.W.findIn K (.ref C) "__class__" = some (some (.builtin "object.__class__"))
  cg : PySem.W.specialIn K (.builtin "object.__class__") "__get__" = some (some (.builtin "getset_descriptor.__get__"))
  ct : PySem.W.takesIn K (.builtin "object.__class__") = some true
  mo : PySem.W.mroIn K C (.type "object") = some true

def xcB (K : PySem.W.Frag) (b : Bs) (C : Addr) : Bool :=
  PySem.W.excInitIn K C b.bm b.nw && (PySem.W.excOver K C b.bm && (decide (PySem.W.findIn K (.ref C) "__setattr__" = some (some (.builtin "object.__setattr__"))) && (PySem.W.hasDictIn K C &&
  (decide (PySem.W.findIn K (.ref C) "__getattribute__" = some (some (.builtin "BaseException.__getattribute__"))) && (decide (PySem.W.findIn K (.ref C) "__getattr__" = some none) &&
  (decide (PySem.W.subIn K (.ref C) (.type "BaseException") = some true) && (decide (PySem.W.typeIn K (.ref C) = some (.type "type")) && (PySem.W.keepIn K (.ref C) &&
  (decide (PySem.W.findIn K (.ref C) "__class__" = some (some (.builtin "object.__class__"))) && (decide (PySem.W.specialIn K (.builtin "object.__class__") "__get__" = some (some (.builtin "getset_descriptor.__get__"))) &&
  (decide (PySem.W.takesIn K (.builtin "object.__class__") = some true) && decide (PySem.W.mroIn K C (.type "object") = some true))))))))))))
theorem xc_of {K : PySem.W.Frag} {b : Bs} {C : Addr} (hb : BsOk b) (h : xcB K b C = true) : Xc K b C := by
  simp only [xcB, Bool.and_eq_true, decide_eq_true_eq] at h
  obtain ⟨h1, h2, h3, h4, h5, h6, h7, h8, h9, h10, h11, h12, h13⟩ := h
  exact ⟨hb, h1, h2, h3, h4, h5, h6, h7, h8, h9, h10, h11, h12, h13⟩

section
variable {X : Cx} {pins : List (Addr × Obj)} {σ : L2.St} {H : Hp} {s : Shared} {a C dx : Addr} {f : Str} {y : V} {u : Value} {fs : List (Str × V)} {Q : Unit → Shared → Prop} {E : Value → Shared → Prop} {A : Around} {b : Bs}
theorem taker_none {K : PySem.W.Frag} (h : PySem.W.findIn K (.ref C) f = some none) : PySem.W.takerIn K C f = some none := by
  unfold PySem.W.takerIn
  rw [h]
  rfl
/-- the first field of an exception that has no dict yet -/
theorem put_new (T : Xc X.K b C) (I : Inv X pins σ H s) (e : H a = some (exo a C none)) (hno : PySem.W.findIn X.K (.ref C) f = some none) (ry : RelV y u)
    (h : ∀ dx s', H dx = none → dx ≠ a → Inv X pins σ (upd (upd H dx (exd dx [(f, y)])) a (exo a C (some dx))) s' → Q () s') : wpAny (model X.prog X.w) A (setAttr (.ref a) f u) Q E s := by
  obtain ⟨t1, ho⟩ := exo_at I.hok e
  obtain ⟨hp, g, d, t, os⟩ := s
  obtain ⟨cd, hcd, hhd⟩ := PySem.W.any_some T.dc
  have hcls : PySem.W.Looks (model X.prog X.w) hp (classData C) cd := PySem.W.looks_clsIn I.kIn hcd
  refine PySem.W.set_plain I.kIn (ox := { cls := .ref C, dict := none, data := .fields #[.ref t1, .none, .none, .none, .bool false, .none] }) (od := none) ⟨ho, rfl, rfl, trivial⟩ T.sa ?_
  refine PySem.W.osa_openX (od := none) T.ok.sto (s := ⟨hp, g, d, t + 1, os⟩) I.kIn ⟨ho, rfl, rfl, trivial⟩ T.ov (taker_none hno) fun bb => ?_
  have hxs : a ≠ hp.objs.size := Nat.ne_of_lt (Heap.lt_size ho)
  have key : ∀ h' tk' dx, (∀ b o, b ≠ a → hp.get? b = some o → h'.get? b = some o) → hp.objs.size ≤ dx → dx ≠ a → h'.get? a = some { cls := .ref C, dict := some dx, data := .fields #[.ref t1, .none, .none, .none, .bool false, .none] } →
      h'.Ns1 dx (fun z => if z = f then some u else none) → Q () ⟨h', g, d, tk', os⟩ := by
    intro h' tk' dx k dn dne hx hn
    have hnd : H dx = none := I.hok.fresh dn
    have nd : ∀ {b : Addr} {o : Obj}, hp.get? b = some o → b ≠ dx := fun {b o} q => Nat.ne_of_lt (Nat.lt_of_lt_of_le (Heap.lt_size q) dn)
    have na : ∀ {b : Addr}, H b = none → b ≠ a := fun {b} n z => by rw [z, e] at n; cases n
    have U : Un X.fs [] H (upd (upd H dx (exd dx [(f, y)])) a (exo a C (some dx))) hp h' := {
      keep := fun b o q n _ _ => k b o (na n) q
      slot := fun b o q n _ _ => ⟨o.slots, k b o (na n) q⟩
      free := fun b o q n _ => by rw [upd_ne (na n), upd_ne (nd q)]; exact n
      there := fun b o q _ => by
        by_cases hb : b = a
        · subst hb
          exact ⟨_, hx⟩
        · exact ⟨o, k b o hb q⟩
      tups := fun b xs q => by rw [upd_ne (at_ne e q exo_tup), upd_ne (ne_of_none q hnd)]; exact q
      frzs := fun b o v q => by rw [upd_ne (at_ne e q exo_frz), upd_ne (ne_of_none q hnd)]; exact q
      tbls := fun b ps q => ⟨#[], by rw [upd_ne (at_ne e q exo_tbl), upd_ne (ne_of_none q hnd), q]; simp⟩ }
    refine h dx _ hnd dne (I.un (t' := tk') U fun b o q => ?_)
    by_cases hb : b = a
    · subst hb
      rw [upd_same] at q
      cases q
      exact exo_ok hx
    · rw [upd_ne hb] at q
      by_cases hd : b = dx
      · subst hd
        rw [upd_same] at q
        cases q
        exact exd_ok hn (relO_put (fs := []) ry fun g => True.intro)
      · rw [upd_ne hd] at q
        exact (I.hok b o q).stay (fun c v hc z => k c v (by
            rcases hc with hc | hc
            · rw [hc]; exact hb
            · exact at_ne e hc exo_own) z)
          (fun c hc => by rw [upd_ne (at_ne e hc exo_own), upd_ne (ne_of_none hc hnd)]; exact hc) (fun c xs hc => by rw [upd_ne (at_ne e hc exo_tup), upd_ne (ne_of_none hc hnd)]; exact hc)
  obtain ⟨nm, bs, mro, ns, qn, hd, sn, sb, ab, col, del⟩ := cd
  dsimp only at hhd
  subst hhd
  dsimp only
  unfold Builtin.ObjectAttr.storeInOwnDict Builtin.ObjectAttr.ownDictForStores
  repeat (first | with_reducible refine PySem.HandSPX.store_in_new ?_ ?_ | with_reducible refine wpAny_loadPart_at ho ?_ | with_reducible refine hcls.at ?_ | wp_step)
  · exact ⟨_, #[], _, (Heap.get?_update_ne _ _ _ _ hxs.symm).trans (Heap.get?_push_at rfl rfl), rfl, fun e he => absurd he (by simp), fun _ => rfl⟩
  · intro h' tk' hn' hs
    have hx₁ : (hp.push { cls := .type "dict", data := .dict #[] }).get? a = some { cls := .ref C, data := .fields #[.ref t1, .none, .none, .none, .bool false, .none] } := Heap.get?_push_of_some _ ho
    exact key h' tk' hp.objs.size (fun b o hb q => (hs.2 b (Nat.ne_of_lt (Heap.lt_size q))).trans ((Heap.get?_update_ne _ _ _ _ hb).trans (Heap.get?_push_of_some _ q))) (Nat.le_refl _) hxs.symm
      ((hs.2 a hxs).trans (Heap.get?_update_self _ hx₁ rfl)) hn'
/-- a further field -/
theorem put_old (T : Xc X.K b C) (I : Inv X pins σ H s) (e : H a = some (exo a C (some dx))) (ed : H dx = some (exd dx fs)) (hl : fs.length ≤ 900) (hno : PySem.W.findIn X.K (.ref C) f = some none) (ry : RelV y u)
    (h : ∀ s', Inv X pins σ (upd H dx (exd dx ((f, y) :: fs))) s' → Q () s') : wpAny (model X.prog X.w) A (setAttr (.ref a) f u) Q E s := by
  obtain ⟨t1, ho⟩ := exo_at I.hok e
  obtain ⟨mA, hns, rel⟩ := exd_at I.hok ed
  have hw := within_of rel
  obtain ⟨hp, g, d, t, os⟩ := s
  obtain ⟨oD, _, _, hoD, _, _⟩ := hns.count hw
  obtain ⟨cd, hcd, hhd⟩ := PySem.W.any_some T.dc
  have hcls : PySem.W.Looks (model X.prog X.w) hp (classData C) cd := PySem.W.looks_clsIn I.kIn hcd
  refine PySem.W.set_plain I.kIn (ox := { cls := .ref C, dict := some dx, data := .fields #[.ref t1, .none, .none, .none, .bool false, .none] }) (od := some oD) ⟨ho, rfl, rfl, hoD⟩ T.sa ?_
  refine PySem.W.osa_openX (od := some oD) T.ok.sto (s := ⟨hp, g, d, t + 1, os⟩) I.kIn ⟨ho, rfl, rfl, hoD⟩ T.ov (taker_none hno) fun bb => ?_
  have key : ∀ h' tk', (∀ b o, b ≠ dx → hp.get? b = some o → h'.get? b = some o) → h'.Ns1 dx (fun z => if z = f then some u else mA z) → Q () ⟨h', g, d, tk', os⟩ := by
    intro h' tk' k hn
    have hd : ∃ o, h'.get? dx = some o := by
      obtain ⟨o, _, _, e', _⟩ := hn
      exact ⟨o, e'⟩
    exact h _ (I.write (t' := tk') (x := dx) (e := dx) (o := exd dx ((f, y) :: fs)) (by rw [ed]; exact True.intro) (.inl rfl) k hd (exd_ok hn (relO_put ry rel)))
  obtain ⟨nm, bs, mro, ns, qn, hd, sn, sb, ab, col, del⟩ := cd
  dsimp only at hhd
  subst hhd
  dsimp only
  unfold Builtin.ObjectAttr.storeInOwnDict Builtin.ObjectAttr.ownDictForStores
  repeat (first | with_reducible refine PySem.OEX.store_in_old hns hw (by rw [List.length_map]; omega) ?_ | with_reducible refine wpAny_loadPart_at ho ?_ | with_reducible refine hcls.at ?_ | wp_step)
  intro h' tk' hn' hs
  exact key h' tk' (fun b o hb q => (hs.2 b hb).trans q) hn'
/-- Base.__init__(self, ..), the built-in one -/
theorem ini_ok {us : List Value} {Q : Value → Shared → Prop} (T : Xc X.K b C) (I : Inv X pins σ H s) (e : H a = some (exo a C none)) (hl : us.length ≤ sizeLine) (h : ∀ s', Inv X pins σ H s' → Q .none s') :
    wpAny (model X.prog X.w) A (call (.builtin b.ini) (.ref a :: us)) Q E s := by
  obtain ⟨nm, N, q, bs, bm, hdct, sn, sub, ab, col, dd, k0, k1, k2, k3, k5, hC, hT⟩ := PySem.W.excInit_of I.kIn T.xi
  obtain ⟨t1, ho⟩ := exo_at I.hok e
  obtain ⟨hp, g, d, t, os⟩ := s
  refine wpAny_call (PySem.HandSPX.init_base T.ok.bas hT hC ho hl fun h' t2 k hx => ?_)
  have J := I.write (t' := t) (x := a) (e := a) (o := exo a C none) (by rw [e]; exact True.intro) (.inl rfl) k ⟨_, hx⟩ (exo_ok hx)
  have eu : upd H a (exo a C none) = H := by
    funext c
    by_cases hc : c = a
    · rw [hc, upd_same, e]
    · rw [upd_ne hc]
  rw [eu] at J
  exact h _ J
/-- e.f -/
theorem get_ok {v : V} {ex : Bool} {Q : Value → Shared → Prop} (T : Xc X.K b C) (I : Inv X pins σ H s) (e : H a = some (exo a C (some dx))) (ed : H dx = some (exd dx fs)) (hno : PySem.W.findIn X.K (.ref C) f = some none) (hv : fs.lookup f = some v)
    (h : ∀ s' w, Inv X pins σ H s' → RelV v w → Q w s') : wpAny (model X.prog X.w) A (getAttr (.ref a) f ex) Q E s := by
  obtain ⟨t1, ho⟩ := exo_at I.hok e
  obtain ⟨mA, hns, rel⟩ := exd_at I.hok ed
  obtain ⟨od, hod, hl⟩ := lookIn_ns hns
  obtain ⟨w, hw, rw'⟩ := RelO.some_of (v := v) (o := mA f) (by rw [← hv]; exact rel f)
  have J : PySem.W.InstAt s.heap a { cls := .ref C, dict := some dx, data := .fields #[.ref t1, .none, .none, .none, .bool false, .none] } C (some od) := ⟨ho, rfl, rfl, hod⟩
  exact PySem.HandSPX.exc_get I.kIn J T.ga T.gg T.eB (PySem.W.findObj_own T.dc hno rfl (by rw [hl, hw])) (handed_of rw') (h _ w (I.tok _) rw')
end
end My
end

section
set_option Elab.async false
set_option linter.all false
set_option maxRecDepth 100000
set_option maxHeartbeats 4000000
namespace My
open PySem PySem.Spec PyProof.Rows L2

/-! ### C(k = v, ..) -/
section
variable {M : Model} {prog : Program} {w : World} {A : Around} {E : Value → Shared → Prop} {R : Result → Shared → Prop} {h : Heap} {g : Array GenState} {d : Drawn} {t : Nat} {os : OsState}
variable {nm q : Str} {C N : Addr} {bs bm : List Value} {hdct : Bool} {sn : List Str} {sub : List Value} {ab : Bool} {col : Option Bool} {dd : Option Addr} {k0 k1 k2 k3 k5 : Option Value} {b : Bs}
theorem kchk (hb : BsOk b) (hT : ∀ X : String, bm.contains (.type X) = b.bm.contains (.type X)) {kw : List (Str × Value)} {Q : Unit → Shared → Prop}
    (hC : h.get? C = some (excClassObj nm q C N bs bm hdct sn sub ab col dd k0 k1 k2 k3 k5 b.nw)) (hq : Q () ⟨h, g, d, t, os⟩) : wpAny M A (checkBuiltinCall b.nw ⟨[.ref C], kw⟩) Q E ⟨h, g, d, t, os⟩ := by
  have hcont : (Value.ref C :: bm).contains (.type b.nm) = true := by rw [List.contains_cons, hT, hb.bas.hasB, Bool.or_true]
  have hstar := hb.bas.noStar
  simp only [checkBuiltinCall, hb.bas.newKind, hb.bas.newSplit, hb.bas.newRow]
  repeat (first | refine wpAny_loadPart_at hC ?_ | (refine wpAny_isSubtype_exc hC ?_; rw [hcont]) | refine wpAny_staticBase_exc hC ?_ | refine wpAny_madeBy_exc hC ?_ | simp only [bne_self_eq_false, Bool.false_eq_true, if_false] | wp_step)
  exact hq
theorem knew (hb : BsOk b) (hT : ∀ X : String, bm.contains (.type X) = b.bm.contains (.type X)) {kw : List (Str × Value)}
    (hC : h.get? C = some (excClassObj nm q C N bs bm hdct sn sub ab col dd k0 k1 k2 k3 k5 b.nw))
    (hq : R (.ok (.ret (.ref (h.objs.size + 1)))) ⟨(h.push { cls := .type "tuple", data := .seq ([] : List Value).toArray }).push
      { cls := .ref C, data := .fields #[.ref h.objs.size, .none, .none, .none, .bool false, .none] }, g, d, t, os⟩) :
    codeAny (model prog w) A (.builtin b.nw ⟨[.ref C], kw⟩) R ⟨h, g, d, t, os⟩ := by
  have hends := hb.bas.ends
  have hcB : (Value.ref C :: bm).contains (.type b.nm) = true := by rw [List.contains_cons, hT, hb.bas.hasB, Bool.or_true]
  have hcA : (Value.ref C :: bm).contains (.type "AttributeError") = false := by rw [List.contains_cons, hT, hb.bas.noAttr]; rfl
  have hcN : (Value.ref C :: bm).contains (.type "NameError") = false := by rw [List.contains_cons, hT, hb.bas.noName]; rfl
  refine codeAny_builtinAt hb.bas.entry ?_
  unfold Builtin.«BaseException.__new__»
  refine PySem.wpAt_bind ?_
  show PySem.wpAt _ _ _ (stack >>= _) _ _ _
  refine PySem.wpAt_bind (PySem.wpAt_stack fun p below => PySem.wpAt_of_wpAny ?_)
  wp_walk
  refine PySem.wpAt_of_wpAny ?_
  rw [hb.bas.owner]
  repeat (first | with_reducible refine wpAny_madeHere_exc hb.bas.canon hC ?_ | with_reducible refine wpAny_loadPart_at hC ?_ | (with_reducible refine wpAny_isSubtype_exc hC ?_; first | rw [hcB] | rw [hcA] | rw [hcN]) | wp_step)
  show R _ _
  rw [Heap.size_push]
  exact hq
theorem ktc (hb : BsOk b) (hT : ∀ X : String, bm.contains (.type X) = b.bm.contains (.type X)) {kw : List (Str × Value)} {fI : Addr} {Q : Fin → Shared → Prop}
    (hC : h.get? C = some (excClassObj nm q C N bs bm hdct sn sub ab col dd k0 k1 k2 k3 k5 b.nw))
    (hi : PySem.W.Looks (model prog w) h (typeLookup (.ref C) "__init__") (some (.ref fI))) (hbd : ∀ self, PySem.W.Looks (model prog w) h (bindSpecial (.ref fI) self) (.ref fI, [self]))
    (hq : codeAny (model prog w) A (.call (.ref fI) ⟨[.ref (h.objs.size + 1)], kw⟩)
      (fun r s' => match r with | .ok (.ret v) => v = .none ∧ Q (.done (.ret (.ref (h.objs.size + 1)))) s' | .ok _ => False | .error e => E e s')
      ⟨(h.push (PySem.W.kdv_tup [])).push (PySem.HandSPX.excO C h.objs.size), g, d, t, os⟩) :
    wpAny (model prog w) A (Builtin.«type.__call__» ⟨[.ref C], kw⟩) Q E ⟨h, g, d, t, os⟩ := by
  repeat (first | with_reducible refine wpAny_loadPart_at hC ?_ | with_reducible refine wpAny_madeBy_exc hC ?_ | wp_step)
  refine codeAny_call_builtin_code (Code.quiet_builtin _ hb.bas.quiet) (kchk hb hT hC ?_)
  refine knew hb hT hC ?_
  show wpAny _ _ _ _ _ _
  have k : ∀ a o, h.get? a = some o → ((h.push (PySem.W.kdv_tup [])).push (PySem.HandSPX.excO C h.objs.size)).get? a = some o := fun a o e => Heap.get?_push_of_some _ (Heap.get?_push_of_some _ e)
  have hC₁ := k _ _ hC
  have hget : ((h.push (PySem.W.kdv_tup [])).push (PySem.HandSPX.excO C h.objs.size)).get? (h.objs.size + 1) = some (PySem.HandSPX.excO C h.objs.size) := by heap_get
  have hcC : (Value.ref C :: bm).contains (.ref C) = true := by simp
  have i1 := hi.keeps k
  have b1 := (hbd (.ref (h.objs.size + 1))).keeps k
  unfold isInstance
  repeat (first | with_reducible refine wpAny_loadPart_at hget ?_ | (with_reducible refine wpAny_isSubtype_exc hC₁ ?_; rw [hcC]) | wp_step)
  show wpAny _ _ (typeLookup (.ref C) _) _ _ _
  refine i1.at ?_
  refine wpAny_holding (wpAny_bind (b1.at ?_))
  refine wpAny_bind (wpAny_call (codeAny_mono hq fun r s' z => ?_))
  rcases r with e | (v | _ | _ | _) <;> first | exact z | exact z.elim | skip
  obtain ⟨rfl, z⟩ := z
  first
    | exact wpAny_pure (wpAny_pure z)
    | (wp_walk; exact z)
theorem kcall (hb : BsOk b) (hT : ∀ X : String, bm.contains (.type X) = b.bm.contains (.type X)) {kw : List (Str × Value)} {fI : Addr}
    (hC : h.get? C = some (excClassObj nm q C N bs bm hdct sn sub ab col dd k0 k1 k2 k3 k5 b.nw))
    (hi : PySem.W.Looks (model prog w) h (typeLookup (.ref C) "__init__") (some (.ref fI))) (hbd : ∀ self, PySem.W.Looks (model prog w) h (bindSpecial (.ref fI) self) (.ref fI, [self]))
    (hq : codeAny (model prog w) (A.under (.builtin "type.__call__" ⟨[.ref C], kw⟩)) (.call (.ref fI) ⟨[.ref (h.objs.size + 1)], kw⟩) (PySem.W.InitBack (h.objs.size + 1) R)
      ⟨(h.push (PySem.W.kdv_tup [])).push (PySem.HandSPX.excO C h.objs.size), g, d, t, os⟩) :
    codeAny (model prog w) A (.call (.ref C) ⟨[], kw⟩) R ⟨h, g, d, t, os⟩ := by
  have f1 := tc_lookup
  have f2 := tc_bind (.ref C)
  have hTy : (⟨h, g, d, t, os⟩ : Shared).TypeIs (.ref C) "type" := ⟨_, hC, rfl⟩
  refine codeAny_of_tree ?_
  show wpAny _ _ (callAny (.ref C) _) _ _ _
  repeat (any_goals (first | assumption | with_reducible refine wpAny_loadPart_at hC ?_ | wp_step))
  refine ⟨rfl, ?_⟩
  refine codeAny_call_builtin_at (Code.quiet_builtin _ (by decide +kernel)) entry_typeCall (wpAny_check_type_call_sub hC (ktc hb hT hC hi hbd ?_))
  refine codeAny_mono hq fun r s' z => ?_
  rcases r with e | (v | _ | _ | _) <;> exact z
end
end My
end

section
set_option Elab.async false
set_option linter.all false
set_option maxRecDepth 100000
set_option maxHeartbeats 4000000
namespace My
open PySem PySem.Spec PyProof.Rows L2

/-- no field f in the class -/
abbrev NoF (K : PySem.W.Frag) (C : Addr) (f : Str) : Prop := PySem.W.findIn K (.ref C) f = some none

/-! ### readings -/
/-- Base.__init__(self, ..), Base an own class -/
def tXi (K : PySem.W.Frag) (b : Bs) (ta : TA) : TE := fun σ H Q => ta σ H fun vs H1 => ∃ (a C : Addr) (ws : List V), vs = .ref a :: ws ∧ ws.length ≤ 1000 ∧ Xc K b C ∧ H1 a = some (exo a C none) ∧ Q .non H1
/-- self.f = e: the first field; a further one -/
def tXs (K : PySem.W.Frag) (b : Bs) (f : Str) (to te : TE) : TS := fun D σ H => te σ H fun y H1 => to σ H1 fun x H2 => ∃ a C : Addr, x = .ref a ∧ Xc K b C ∧ NoF K C f ∧
  ((H2 a = some (exo a C none) ∧ ∀ dx, H2 dx = none → dx ≠ a → D.nx σ (upd (upd H2 dx (exd dx [(f, y)])) a (exo a C (some dx)))) ∨
    ∃ (dx : Addr) (fs : List (Str × V)), H2 a = some (exo a C (some dx)) ∧ H2 dx = some (exd dx fs) ∧ fs.length ≤ 900 ∧ D.nx σ (upd H2 dx (exd dx ((f, y) :: fs))))
/-- C(..), a value -/
def tXm (C : Addr) (sp : Sp) (ta : TA) : TE := fun σ H Q => ta σ H fun vs H1 => vs.length ≤ 1000 ∧ ∀ a, H1 a = none → sp (.ref a :: vs) (upd H1 a (exo a C none)) (fun v H2 => v = .non ∧ Q (.ref a) H2) (fun _ _ _ => False)
/-- C(k = v, ..) -/
def tXk (C : Addr) (n : Nat) (sp : Sp) (gV : List V → List V → List V) (ta : TA) : TE := fun σ H Q => ta σ H fun zs H1 => zs.length = n ∧ ∀ a, H1 a = none → sp (gV [.ref a] zs) (upd H1 a (exo a C none)) (fun v H2 => v = .non ∧ Q (.ref a) H2) (fun _ _ _ => False)
/-- e.f -/
def tXf (K : PySem.W.Frag) (f : Str) (te : TE) : TE := fun σ H Q => te σ H fun x H1 => ∃ (a C dx : Addr) (b : Bs) (fs : List (Str × V)) (v : V), x = .ref a ∧ Xc K b C ∧ NoF K C f ∧ H1 a = some (exo a C (some dx)) ∧ H1 dx = some (exd dx fs) ∧ fs.lookup f = some v ∧ Q v H1
/-- an exception stands at a, of the class at C -/
def XAt (H : Hp) (a C : Addr) : Prop := H a = some (exo a C none) ∨ ∃ (dx : Addr) (fs : List (Str × V)), H a = some (exo a C (some dx)) ∧ H dx = some (exd dx fs)
/-- isinstance(e, c) -/
def rXis (K : PySem.W.Frag) : List V → Hp → VK → Prop := fun xs H Q => ∃ (a C : Addr) (b : Bs) (c : V) (u : Value) (r : Bool), xs = [.ref a, c] ∧ ClsV c u ∧ Xc K b C ∧ XAt H a C ∧ PySem.W.kitOne K (.ref C) u = some r ∧ Q (.bl r) H

section
variable {X : Cx} {o e : Expr} {es : List Expr} {to te : TE} {ta : TA} {f : Str} {p p' p1 p2 pos : Pos} {b : Bs} {C : Addr}
theorem pe_xi {x : Str} {WV : Addr} {pl : Sem Bool} (hg : Gl X x) (hm : X.mg x = some (.ref WV)) (rd : ClX.CRead X.K WV (.type "type")) (at_ : PySem.W.findCls X.K (.ref WV) (.type "type") "__init__" = some (.val (.builtin b.ini))) (bk : BsOk b) (ha : PA X (e :: es) ta)
    (hdb : (x == ("__debug__" : Str)) = false := by decide)
    (hc : eval (.Call (.Attribute (.Name x p1) "__init__" p2) (e :: es) [] pos) X.env = (do
      let ov ← eval (.Name x p1) X.env
      standAt p2.atName
      let (f, first) ← holding [ov] (getMethod ov "__init__" pl)
      callWith pos f first (backTo pos (starEach (e :: es) X.env)) (backToKw pos (keywordEach [] X.env))) := by rfl)
    (he : starEach (e :: es) X.env = (false, eval e X.env) :: starEach es X.env := by rfl) (hpl : (backTo pos (starEach es X.env)).any (·.1) = false := by rfl) :
    PE X (.Call (.Attribute (.Name x p1) "__init__" p2) (e :: es) [] pos) (tXi X.K b ta) := by
  refine ⟨fun pins s σ H Q I h => ?_⟩
  refine PySem.W.methodCall_KW (ld_glob I hg hm ?_ hdb) hc
  refine PySem.W.method_cls I.kIn rd.ga (PySem.W.cls_value I.kIn rd.rd at_ bk.hnd ?_)
  show wpAny _ _ (callWith pos (Value.builtin b.ini) [] (backTo pos (starEach (e :: es) X.env)) []) _ _ _
  refine PyProof.Rows.callWith_method1 (thn (ha.run pos pins _ σ H _ (I.tok _) h) fun us s1 ⟨vs, H1, I1, r1, a, C, ws, ev, hl, T, ea, q⟩ => ?_) he hpl
  subst ev
  cases r1 with
  | @cons _ u0 _ ur ra rw' =>
    obtain rfl : u0 = Value.ref a := ra
    have hlen : ur.length ≤ sizeLine := by
      rw [← Paired.length rw', sizeLine_eq]
      omega
    exact ini_ok T I1 ea hlen fun s' J => ⟨.non, H1, J, rfl, q⟩
theorem ps_xs (ho : PE X o to) (he : PE X e te) (hs : swapsWith e (some (.Attribute o f p')) pos.line X.env = pure false := by rfl) : PS X (.Assign [.Attribute o f p'] e pos) (tXs X.K b f to te) := by
  refine ⟨fun pins s σ H D I h => ?_⟩
  refine plainObj_wpAny_Assign_Attribute (thn (he.run pins s σ H _ I h) fun v s1 ⟨y, H1, I1, r1, q1⟩ => thn (ho.run pins s1 σ H1 _ I1 q1) fun u s2 ⟨x, H2, I2, r2, a, C, ex, T, hno, q⟩ => ?_) hs
  subst ex
  obtain rfl : u = Value.ref a := r2
  rcases q with ⟨ea, q⟩ | ⟨dx, fs, ea, ed, hl, q⟩
  · exact put_new T I2 ea hno r1 fun dx s' n ne J => ⟨σ, _, J, q dx n ne⟩
  · exact put_old T I2 ea ed hl hno r1 fun s' J => ⟨σ, _, J, q⟩
theorem pe_xf (he : PE X e te) (hb : attributeBase e f X.env (eval e X.env) = eval e X.env := by rfl) : PE X (.Attribute e f pos) (tXf X.K f te) := by
  refine ⟨fun pins s σ H Q I h => ?_⟩
  refine attr_of hb (thn (he.run pins s σ H _ I h) fun u s1 ⟨x, H1, I1, rx, a, C, dx, b, fs, v, ex, T, hno, ea, ed, hv, q⟩ => ?_)
  subst ex
  obtain rfl : u = Value.ref a := rx
  exact get_ok T I1 ea ed hno hv fun s' w J rw' => ⟨v, H1, J, rw', q⟩

variable {CX : CXT} {x : Str} {fI : Addr} {k : Nat} {fd : FuncData} {ps : List Str} {sp : Sp}
theorem made_inv {pins : List (Addr × Obj)} {σ : L2.St} {H : Hp} {hp : Heap} {g : Array GenState} {d : Drawn} {t : Nat} {os : OsState} (I : Inv X pins σ H ⟨hp, g, d, t, os⟩) (us : List Value) :
    Inv X pins σ (upd H (hp.objs.size + 1) (exo (hp.objs.size + 1) C none)) ⟨(hp.push (PySem.W.kdv_tup us)).push (PySem.HandSPX.excO C hp.objs.size), g, d, t, os⟩ :=
  I.laid (t' := t) (a := hp.objs.size + 1) (o := exo (hp.objs.size + 1) C none) (h' := (hp.push (PySem.W.kdv_tup us)).push (PySem.HandSPX.excO C hp.objs.size))
    (fun b o e => Heap.get?_push_of_some _ (Heap.get?_push_of_some _ e)) (Nat.le_succ _) (exo_ok (t1 := hp.objs.size) (by heap_get))
theorem run_xm {pins : List (Addr × Obj)} {σ : L2.St} {H : Hp} {s : Shared} {Q : VK} {us : List Value} {vs : List V} (T : Xc X.K b C) (iC : PySem.W.findIn X.K (.ref C) "__init__" = some (some (.ref fI))) (tI : PySem.W.typeIn X.K (.ref fI) = some (.type "function"))
    (F1 : FnOk X.prog X.w X.K X.mg X.base CX k fI fd ps sp) (hr : Room (k + 1) X.A) (hb : Binds X.K fd ps []) (hx : Passes CX X (fun _ _ _ => False)) (I : Inv X pins σ H s) (r : Vals vs us) (hz : vs.length ≤ 1000)
    (h : ∀ a, H a = none → sp (.ref a :: vs) (upd H a (exo a C none)) (fun v H2 => v = .non ∧ Q (.ref a) H2) (fun _ _ _ => False)) :
    wpAny (model X.prog X.w) X.A (call (.ref C) us) (EP X pins σ Q) X.xe s := by
  obtain ⟨nm, N, q, bs, bm, hdct, sn, sub, ab, col, dd, k0, k1, k2, k3, k5, hC, hT⟩ := PySem.W.excInit_of I.kIn T.xi
  obtain ⟨hp, g, d, t, os⟩ := s
  have hn : H (hp.objs.size + 1) = none := I.hok.fresh (Nat.le_succ _)
  have hq := h (hp.objs.size + 1) hn
  have I2 := made_inv (C := C) I us
  have r2 : Vals (V.ref (hp.objs.size + 1) :: vs) (Value.ref (hp.objs.size + 1) :: us) := .cons rfl r
  have hl : (Value.ref (hp.objs.size + 1) :: us ++ []).length = ps.length := by
    rw [List.append_nil, ← r2.length]
    exact F1.len _ _ _ _ hq
  have hus : us.length ≤ sizeLine := by
    rw [← Paired.length r, sizeLine_eq]
    omega
  have hbb := hb _ (Value.ref (hp.objs.size + 1) :: us) I2.kIn hl
  rw [List.append_nil] at hbb
  refine wpAny_call (PySem.HandSPX.call_own T.ok.bas hT hC (PySem.W.looks_findIn I.kIn iC) (fun self => PySem.W.bind_fn I.kIn self tI) hus
    (codeAny_mono (F1.run _ X.stack _ _ ⟨Value.ref (hp.objs.size + 1) :: us, []⟩ (Value.ref (hp.objs.size + 1) :: us) _ _ (fun _ _ _ => False) (hr.make C us []) (I2.env0.make C us []) hbb r2 hq) fun r s' hq' => ?_))
  cases r with
  | error er => exact hx pins σ _ _ er s' I2 hq'
  | ok fl =>
    cases fl with
    | ret u =>
      obtain ⟨v, H', I3, rv, ev, q3⟩ := I2.after hq'
      subst ev
      exact ⟨rv, ⟨V.ref (hp.objs.size + 1), H', I3, rfl, q3⟩⟩
    | next => exact False.elim hq'
    | brk => exact False.elim hq'
    | cont => exact False.elim hq'
theorem pe_xm (T : Xc X.K b C) (iC : PySem.W.findIn X.K (.ref C) "__init__" = some (some (.ref fI))) (tI : PySem.W.typeIn X.K (.ref fI) = some (.type "function"))
    (F1 : FnOk X.prog X.w X.K X.mg X.base CX k fI fd ps sp) (hr : Room (k + 1) X.A) (hb : Binds X.K fd ps []) (hx : Passes CX X (fun _ _ _ => False)) (hg : Gl X x) (hm : X.mg x = some (.ref C)) (ha : PA X (e :: es) ta)
    (hdb : (x == ("__debug__" : Str)) = false := by decide) (he : starEach (e :: es) X.env = (false, eval e X.env) :: starEach es X.env := by rfl) (hpl : (backTo pos (starEach es X.env)).any (·.1) = false := by rfl) :
    PE X (.Call (.Name x p) (e :: es) [] pos) (tXm C sp ta) := by
  refine ⟨fun pins s σ H Q I h => ?_⟩
  refine wpAny_Call_Name_kw (ld_glob I hg hm ?_ hdb)
  refine PySem.W.callWith_K (h₀ := X.base) I.ok.mod.kin T.kC (thn (ha.run pos pins s σ H _ I h) fun us s1 ⟨vs, H1, I1, r1, hz, q1⟩ => ⟨I1.kIn, ?_⟩) he hpl
  exact run_xm T iC tI F1 hr hb hx I1 r1 hz q1
theorem pe_xm0 (T : Xc X.K b C) (iC : PySem.W.findIn X.K (.ref C) "__init__" = some (some (.ref fI))) (tI : PySem.W.typeIn X.K (.ref fI) = some (.type "function"))
    (F1 : FnOk X.prog X.w X.K X.mg X.base CX k fI fd ps sp) (hr : Room (k + 1) X.A) (hb : Binds X.K fd ps []) (hx : Passes CX X (fun _ _ _ => False)) (hg : Gl X x) (hm : X.mg x = some (.ref C))
    (hdb : (x == ("__debug__" : Str)) = false := by decide) :
    PE X (.Call (.Name x p) [] [] pos) (tXm C sp tNil) := by
  refine ⟨fun pins s σ H Q I h => ?_⟩
  obtain ⟨hz, q1⟩ := h
  refine wpAny_Call_Name_kw (ld_glob I hg hm ?_ hdb)
  exact PySem.W.callWith_K0 I.kIn T.kC (run_xm (us := []) T iC tI F1 hr hb hx I .nil hz q1)
variable {ks : List Str} {kws : List Keyword} {gv : List Value → List Value → List Value} {gV : List V → List V → List V}
theorem pe_xk (T : Xc X.K b C) (iC : PySem.W.findIn X.K (.ref C) "__init__" = some (some (.ref fI))) (tI : PySem.W.typeIn X.K (.ref fI) = some (.type "function"))
    (F1 : FnOk X.prog X.w X.K X.mg X.base CX k fI fd ps sp) (hr : Room (k + 1) X.A) (hb : KBn X.K fd ps 1 ks gv gV) (hx : Passes CX X (fun _ _ _ => False)) (hg : Gl X x) (hm : X.mg x = some (.ref C)) (hkw : PK X kws ta)
    (hall : (backToKw pos (keywordEach kws X.env)).all (·.1.isSome) = true := by rfl) (hks : (backToKw pos (keywordEach kws X.env)).filterMap (·.1) = ks := by rfl)
    (hdb : (x == ("__debug__" : Str)) = false := by decide) (hpl : ((backTo pos (starEach [] X.env)).any (·.1) || (backToKw pos (keywordEach kws X.env)).any (·.1.isNone)) = false := by rfl) :
    PE X (.Call (.Name x p) [] kws pos) (tXk C ks.length sp gV ta) := by
  refine ⟨fun pins s σ H Q I h => ?_⟩
  refine wpAny_Call_Name_kw (ld_glob I hg hm ?_ hdb)
  refine PySem.W.callWith_KW0 (h₀ := X.base) I.ok.mod.kin T.kC hall (thn (hkw.run pos pins s σ H _ I h) fun ws s1 ⟨zs, H1, I1, rz, l2, q1⟩ => ⟨I1.kIn, ?_⟩) hpl
  rw [hks]
  show wpAny _ _ (call (.ref C) [] (ks.zip ws)) _ _ _
  obtain ⟨nm, N, q, bs, bm, hdct, sn, sub, ab, col, dd, k0, k1, k2, k3, k5, hC, hT⟩ := PySem.W.excInit_of I1.kIn T.xi
  obtain ⟨hp, g, d, t, os⟩ := s1
  have hn : H1 (hp.objs.size + 1) = none := I1.hok.fresh (Nat.le_succ _)
  have hq := q1 (hp.objs.size + 1) hn
  have I2 := made_inv (C := C) I1 []
  have r1 : Vals [V.ref (hp.objs.size + 1)] [Value.ref (hp.objs.size + 1)] := .cons rfl .nil
  have r2 := hb.rel r1 rz
  have e2 : ws.length = ks.length := rz.length.symm.trans l2
  refine wpAny_call (kcall T.ok hT hC (PySem.W.looks_findIn I1.kIn iC) (fun self => PySem.W.bind_fn I1.kIn self tI)
    (codeAny_mono (F1.run _ X.stack _ _ ⟨[Value.ref (hp.objs.size + 1)], ks.zip ws⟩ (gv [Value.ref (hp.objs.size + 1)] ws) _ _ (fun _ _ _ => False) (hr.make C [] (ks.zip ws)) (I2.env0.make C [] (ks.zip ws)) (hb.to _ [Value.ref (hp.objs.size + 1)] ws I2.kIn rfl e2) r2 hq) fun r s' hq' => ?_))
  cases r with
  | error er => exact hx pins σ _ _ er s' I2 hq'
  | ok fl =>
    cases fl with
    | ret u =>
      obtain ⟨v, H', I3, rv, ev, q3⟩ := I2.after hq'
      subst ev
      exact ⟨rv, ⟨V.ref (hp.objs.size + 1), H', I3, rfl, q3⟩⟩
    | next => exact False.elim hq'
    | brk => exact False.elim hq'
    | cont => exact False.elim hq'
end
end My
end

section
set_option Elab.async false
set_option linter.all false
set_option maxRecDepth 100000
set_option maxHeartbeats 4000000
namespace My
open PySem PySem.Spec PySem.Calls PyProof.Rows L2
section
variable {prog : Program} {w : World} {A : Around} {E : Value → Shared → Prop} {s : Shared} {K : PySem.W.Frag} {x D : Addr} {ox : Obj} {od : Option Obj} {b : Bs}
theorem cls_found (T : Xc K b D) : PySem.W.findObj K D od "__class__" = some (.bind (.builtin "getset_descriptor.__get__") (.builtin "object.__class__")) := by
  obtain ⟨cd, hc, _⟩ := PySem.W.any_some T.dc
  unfold PySem.W.findObj
  rw [hc, Option.bind_some, T.cl, Option.bind_some]
  simp [T.cg, T.ct]
theorem cls_of {Q : Option Value → Shared → Prop} (T : Xc K b D) (X : K.In s.heap) (I : PySem.W.InstAt s.heap x ox D od) (h : Q (some (.ref D)) { s with toks := s.toks + 1 }) : wpAny (model prog w) A (getAttr? (.ref x) "__class__") Q E s := by
  obtain ⟨hp, g, d, t, os⟩ := s
  have L0 := I.type (M := model prog w)
  have L1 := PySem.W.looks_findIn (M := model prog w) X T.ga
  have L2 := PySem.W.looks_findIn (M := model prog w) X T.gg
  have L3 := PySem.W.looks_find (M := model prog w) X I (cls_found (od := od) T)
  have sub : PySem.W.Looks (model prog w) hp (isInstance (.ref x) (.type "BaseException")) true := L0.andThen (PySem.W.looks_subIn X T.eB)
  have hx2 : (Value.builtin "BaseException.__getattribute__" == Value.builtin "object.__getattribute__") = false := by decide +kernel
  have hx1 : (onTheHeap (Value.ref D) && Value.builtin "BaseException.__getattribute__" == Value.builtin "object.__getattribute__") = false := by rw [hx2]; rfl
  unfold getAttr? getAttrBy? getAttrBy
  refine wpAny_bind (wpAny_mkText (wpAny_bind (wpAny_attempt (wpAny_holding (wpAny_bind (L0.at (wpAny_bind (L1.at ?_))))))))
  show wpAny _ _ (if (onTheHeap (Value.ref D) && Value.builtin "BaseException.__getattribute__" == Value.builtin "object.__getattribute__") = true then _ else _) _ _ _
  rw [hx1, if_neg Bool.false_ne_true]
  unfold getAttrByItsOwn hookBefore
  refine wpAny_bind ?_
  rw [if_pos (show onTheHeap (Value.ref D) = true from rfl)]
  refine L2.at ?_
  refine wpAny_bind (wpAny_attempt (wpAny_holding ?_))
  unfold callGetattribute
  rw [show (false && onTheHeap (Value.builtin "BaseException.__getattribute__")) = false from rfl, if_neg Bool.false_ne_true]
  unfold boundAndCalled
  rw [PySem.F.excAttr_ValueError.ga.bind (.ref x)]
  refine wpAny_bind (wpAny_pure ?_)
  show wpAny _ _ (call (.builtin "BaseException.__getattribute__") [.ref x, .str "__class__" t]) _ _ _
  refine wpAny_call (codeAny_call_builtin PySem.F.excAttr_ValueError.ga.plain PySem.F.entry_bexc_ga ?_)
  refine @PySem.W.check_slot (model prog w) _ _ ⟨hp, g, d, t + 1, os⟩ "BaseException.__getattribute__" "BaseException" "__getattribute__" (.ref x) [.str "__class__" t] [] _ (by decide +kernel) (by decide +kernel) sub (PySem.F.args_bexc_ga (.ref x) (.str "__class__" t)) ?_
  unfold Builtin.«object.__getattribute__»
  refine wpAny_bind (wpAny_of_eq (a := ((Value.ref x : Value), [Value.str "__class__" t])) (by first | rfl | (simp only [slotArgs]; rfl)) ?_)
  refine wpAny_bind (wpAny_pure (wpAny_bind (L0.at (wpAny_bind (L3.at ?_)))))
  show wpAny _ _ (holding [Value.builtin "object.__class__"] (call (.builtin "getset_descriptor.__get__") [.builtin "object.__class__", .ref x, .ref D]) >>= ret) _ _ _
  refine wpAny_bind (wpAny_holding (wpAny_call (PySem.W.class_get (s := ⟨hp, g, d, t + 1, os⟩) (ox := ox) (od := od) X I T.mo ?_)))
  refine wpAny_pure ?_
  show wpAny _ _ (handedOut (.ref D)) _ _ _
  rw [PySem.W.handedOut_of (v := .ref D) rfl]
  first
    | exact wpAny_pure (wpAny_pure h)
    | exact wpAny_pure h
    | exact wpAny_pure (wpAny_bind (wpAny_pure (wpAny_pure h)))
theorem kitx_x (T : Xc K b D) : PySem.W.KitX K (.ref x) (.ref D) (fun h => PySem.W.InstAt h x ox D od) where
  ty := fun _ _ _ I => I.type
  it := fun _ _ X _ => by
    obtain ⟨cdD, hcD, _⟩ := PySem.W.any_some T.dc
    unfold PySem.W.clsIn at hcD
    split at hcD
    · rename_i c' d' cd' sl' ho
      intro A' Q' E' s' k q
      unfold isType loadHead
      exact wpAny_bind (wpAny_loadPart (k _ _ (X _ _ ho)) (wpAny_pure q))
    · cases hcD
  ne := fun h tp dd its n sl X htp => by
    obtain ⟨cdD, hcD, _⟩ := PySem.W.any_some T.dc
    refine Bool.eq_false_iff.mpr fun q => ?_
    have e : D = tp := Value.ref.inj (beq_iff_eq.mp q)
    subst e
    unfold PySem.W.clsIn at hcD
    split at hcD
    · rename_i c' d' cd' sl' ho
      have z := (X _ _ ho).symm.trans htp
      cases z
    · cases hcD
  ca := fun X I k => cls_of T X I k
end
section
variable {X : Cx}
theorem call_xis : CallR X (.builtin "isinstance") (rXis X.K) := by
  intro pins s σ H xs us Q I r h
  obtain ⟨a, C, b, c, u, rr, rfl, k, T, ha, e, q⟩ := h
  obtain ⟨u1, u2, rfl, r1, r2⟩ := vals2 r
  have e2 := k.eq r2
  subst e2
  cases (show u1 = Value.ref a from r1)
  rcases ha with ha | ⟨dx, fs, ha, hd⟩
  · obtain ⟨t1, ho⟩ := exo_at I.hok ha
    have J : PySem.W.InstAt s.heap a { cls := .ref C, dict := none, data := .fields #[.ref t1, .none, .none, .none, .bool false, .none] } C none := ⟨ho, rfl, rfl, trivial⟩
    exact PySem.W.kia_one (kitx_x (od := none) T) I.kIn J e (fun z => nomatch z) fun tk => ⟨.bl rr, H, I.tok tk, rfl, q⟩
  · obtain ⟨t1, ho⟩ := exo_at I.hok ha
    obtain ⟨mA, hns, rel⟩ := exd_at I.hok hd
    obtain ⟨o, hod, hl⟩ := lookIn_ns hns
    have J : PySem.W.InstAt s.heap a { cls := .ref C, dict := some dx, data := .fields #[.ref t1, .none, .none, .none, .bool false, .none] } C (some o) := ⟨ho, rfl, rfl, hod⟩
    exact PySem.W.kia_one (kitx_x (od := some o) T) I.kIn J e (fun z => nomatch z) fun tk => ⟨.bl rr, H, I.tok tk, rfl, q⟩
end
end My
end

section
set_option Elab.async false
set_option linter.all false
set_option maxRecDepth 100000
set_option maxHeartbeats 0
namespace K01
open PySem PySem.Spec PyProof.Rows L2 My
def top (i : Nat) : Stmt := PySem.Challenge.pw_owntimes_k01_limits_and_errors.main.body.getD i (.Pass ⟨0, 0, 0, 0⟩)
def fn1 : List He.DefD := [dI "InvalidPeriod" "InvalidPeriod.__init__" (inClass (top 2) 0),
  dI "InvalidNumber" "InvalidNumber.__init__" (inClass (top 3) 0),
  dI "InvalidText" "InvalidText.__init__" (inClass (top 4) 0),
  dI "InvalidName" "InvalidName.__init__" (inClass (top 5) 0),
  dI "InvalidHands" "InvalidHands.__init__" (inClass (top 6) 0),
  dI "InvalidStock" "InvalidStock.__init__" (inClass (top 7) 0),
  dI "InvalidFlag" "InvalidFlag.__init__" (inClass (top 8) 0),
  dI "InvalidOutlet" "InvalidOutlet.__init__" (inClass (top 9) 0),
  dI "InvalidIndex" "InvalidIndex.__init__" (inClass (top 10) 0),
  dI "InvalidTimes" "InvalidTimes.__init__" (inClass (top 11) 0),
  dI "InvalidClaim" "InvalidClaim.__init__" (inClass (top 12) 0),
  dI "NotLags" "NotLags.__init__" (inClass (top 13) 0),
  dI "NotALine" "NotALine.__init__" (inClass (top 14) 0),
  dI "NotALink" "NotALink.__init__" (inClass (top 15) 0),
  dI "InvalidNumbers" "InvalidNumbers.__init__" (inClass (top 16) 0),
  dI "InvalidStations" "InvalidStations.__init__" (inClass (top 17) 0),
  dI "InvalidLinks" "InvalidLinks.__init__" (inClass (top 18) 0),
  dI "InvalidTasks" "InvalidTasks.__init__" (inClass (top 19) 0),
  dI "InvalidNames" "InvalidNames.__init__" (inClass (top 20) 0),
  dI "UnknownName" "UnknownName.__init__" (inClass (top 22) 0)]
def fn2 : List He.DefD := [dI "Taken" "Taken.__init__" (inClass (top 23) 0),
  dI "InUse" "InUse.__init__" (inClass (top 24) 0),
  dI "TooMany" "TooMany.__init__" (inClass (top 26) 0),
  dI "Stuck" "Stuck.__init__" (inClass (top 27) 0),
  dI "EarlyLink" "EarlyLink.__init__" (inClass (top 28) 0),
  dI "NothingToUndo" "NothingToUndo.__init__" (inClass (top 29) 0),
  dI "NotAsked" "NotAsked.__init__" (inClass (top 30) 0),
  dI "Broken" "Broken.__init__" (inClass (top 31) 0),
  dG "_law_cell" (top 39),
  dG "_law_well" (top 40),
  dG "_law_draw" (top 41),
  dG "_law_thing" (top 42),
  dG "_law_marks" (top 43),
  dG "_law_fits" (top 44),
  dG "_law_with_given" (top 45),
  dG "_law_with_given_by_name" (top 46),
  dG "_law_with_index" (top 47),
  dG "_law_with_index_by_name" (top 48),
  dG "_law_right" (top 49),
  dG "law" (top 50)]
def fn : List He.DefD := fn1 ++ fn2
def lo1 : List Str := ["WrongValue", "InvalidPeriod", "InvalidNumber", "InvalidText", "InvalidName", "InvalidHands", "InvalidStock", "InvalidFlag", "InvalidOutlet", "InvalidIndex", "InvalidTimes", "InvalidClaim", "NotLags", "NotALine", "NotALink", "InvalidNumbers", "InvalidStations", "InvalidLinks", "InvalidTasks", "InvalidNames", "WrongName", "UnknownName", "Taken", "InUse", "NoAnswer"]
def lo2 : List Str := ["TooMany", "Stuck", "EarlyLink", "NothingToUndo", "NotAsked", "Broken", "MOST_STATIONS", "MOST_LINKS", "MOST_HANDS", "MOST_STOCK", "MOST_NUMBER", "MOST_LAGS", "_law_cell", "_law_well", "_law_draw", "_law_thing", "_law_marks", "_law_fits", "_law_with_given", "_law_with_given_by_name", "_law_with_index", "_law_with_index_by_name", "_law_right"]
def loose : List Str := lo1 ++ lo2
def faG : List He.Fa := [.glo "WrongValue", .glo "InvalidPeriod", .glo "InvalidNumber", .glo "InvalidText", .glo "InvalidName", .glo "InvalidHands", .glo "InvalidStock", .glo "InvalidFlag", .glo "InvalidOutlet", .glo "InvalidIndex", .glo "InvalidTimes", .glo "InvalidClaim", .glo "NotLags", .glo "NotALine", .glo "NotALink", .glo "InvalidNumbers", .glo "InvalidStations", .glo "InvalidLinks", .glo "InvalidTasks", .glo "InvalidNames", .glo "WrongName", .glo "UnknownName", .glo "Taken", .glo "InUse", .glo "NoAnswer", .glo "TooMany", .glo "Stuck", .glo "EarlyLink", .glo "NothingToUndo", .glo "NotAsked", .glo "Broken"]
def faF : List He.Fa := [.glo "_law_cell", .glo "_law_well", .glo "_law_draw", .glo "_law_thing", .glo "_law_marks", .glo "_law_fits", .glo "_law_with_given", .glo "_law_with_given_by_name", .glo "_law_with_index", .glo "_law_with_index_by_name", .glo "_law_right", .glo "law"]
def faN : List He.Fa := [.free "len", .free "int", .free "abs", .free "range", .free "repr", .free "isinstance", .free "str", .free "list", .free "max", .free "min", .free "ValueError", .free "LookupError", .free "ArithmeticError"]
def faC : List He.Fa := [.int "MOST_STATIONS" 6, .int "MOST_LINKS" 12, .int "MOST_HANDS" 4, .int "MOST_STOCK" 5, .int "MOST_NUMBER" 1000, .int "MOST_LAGS" 2000]
def fa : List He.Fa := faG ++ (faF ++ (faN ++ faC))
/-- the classes in the order of the law -/
def cs : List Str := ["InvalidPeriod", "InvalidNumber", "InvalidText", "InvalidName", "InvalidHands", "InvalidStock", "InvalidFlag", "InvalidOutlet", "InvalidIndex", "InvalidTimes", "InvalidClaim", "NotLags", "NotALine", "NotALink", "InvalidNumbers", "InvalidStations", "InvalidLinks", "InvalidTasks", "InvalidNames", "UnknownName", "Taken", "InUse", "TooMany", "Stuck", "EarlyLink", "NothingToUndo", "NotAsked", "Broken"]
def xK (K : PySem.W.Frag) (b : Bs) (x : Str) : Bool := xcB K b (He.ga K x) && (decide (PySem.W.typeIn K (.ref (He.ma K (He.ga K x) "__init__")) = some (.type "function")) && decide (PySem.W.findIn K (.ref (He.ga K x)) "__init__" = some (some (.ref (He.ma K (He.ga K x) "__init__")))))
def wK (K : PySem.W.Frag) (b : Bs) (x : Str) : Bool := PySem.W.readsIn K (He.ga K x) (.type "type") && (decide (PySem.W.specialIn K (.ref (He.ga K x)) "__getattribute__" = some (some (.builtin "type.__getattribute__"))) && (match PySem.W.findCls K (.ref (He.ga K x)) (.type "type") "__init__" with
  | some (.val (.builtin i)) => decide (i = b.ini)
  | _ => false))
def kB (K : PySem.W.Frag) (x : Str) (u : Value) : Option Bool := PySem.W.kitOne K (.ref (He.ga K x)) u
def ex (K : PySem.W.Frag) : Bool := (K.lookup sysModules).isSome &&
  ((cs.take 19).all (fun x => xK K bV x && (decide (PySem.W.findIn K (.ref (He.ga K x)) "given" = some none) && decide (PySem.W.findIn K (.ref (He.ga K x)) "index" = some none))) &&
  (((cs.drop 19).take 3).all (fun x => xK K bL x && (decide (PySem.W.findIn K (.ref (He.ga K x)) "given" = some none) && decide (PySem.W.findIn K (.ref (He.ga K x)) "index" = some none))) &&
  ((cs.drop 22).all (fun x => xK K bA x && (decide (PySem.W.findIn K (.ref (He.ga K x)) "limit" = some none) && (decide (PySem.W.findIn K (.ref (He.ga K x)) "ring" = some none) && (decide (PySem.W.findIn K (.ref (He.ga K x)) "index" = some none) && decide (PySem.W.findIn K (.ref (He.ga K x)) "shown" = some none))))) &&
  (wK K bV "WrongValue" && (wK K bL "WrongName" && (wK K bA "NoAnswer" &&
  ((List.range 28).all (fun i => (List.range 28).all fun j => decide (kB K (cs.getD i "") (.ref (He.ga K (cs.getD j ""))) = some (decide (i = j)))) &&
  (List.range 28).all (fun i => decide (kB K (cs.getD i "") (.ref (He.ga K "WrongValue")) = some (decide (i < 19))) && (decide (kB K (cs.getD i "") (.ref (He.ga K "WrongName")) = some (decide (19 ≤ i ∧ i < 22))) && (decide (kB K (cs.getD i "") (.ref (He.ga K "NoAnswer")) = some (decide (22 ≤ i))) &&
    (decide (kB K (cs.getD i "") (.type "ValueError") = some (decide (i < 19))) && (decide (kB K (cs.getD i "") (.type "LookupError") = some (decide (19 ≤ i ∧ i < 22))) && decide (kB K (cs.getD i "") (.type "ArithmeticError") = some (decide (22 ≤ i)))))))))))))))
abbrev R : PySem.W.OpenRow := PySem.W.OpenLaw.row PySem.Challenge.rw_owntimes_k01_limits_and_errors
abbrev hk : PySem.W.Hook := hookM 4 fa fn ex
def ob (s : PySem.W.SharedT) : He.AlD × Bool := obM 4 fa fn ex (HandSHeadRun.getT s)
theorem ob_eq (s : PySem.W.SharedT) : ob s = hk.obs s.abs := obM_eq (HandSHeadRun.getT_eq s)
theorem run (w : World) : HandSHeadRun.RunEq R (PySem.W.view R.prog [50]) hk ob 40000 loose w := by
  intro os
  kernel_rfl
end K01
end

section
set_option Elab.async false
set_option linter.all false
set_option maxRecDepth 100000
set_option maxHeartbeats 4000000
namespace My
open PySem PySem.Spec PyProof.Rows L2
/-! ### data with dicts, and their repr -/
def kP : Key → PyData
  | .inl i => .int i
  | .inr x => .str x
mutual
/-- what stands for v in H: lists, tuples, dicts that are tracked -/
inductive Sd (H : Hp) : V → PyData → Prop
  | non : Sd H .non .none
  | bl (b : Bool) : Sd H (.bl b) (.bool b)
  | int (i : Int) : Sd H (.int i) (.int i)
  | str (x : Str) : Sd H (.str x) (.str x)
  | lst {a : Addr} {xs : List V} {ds : List PyData} : H a = some (.lst xs) → SdAll H xs ds → Sd H (.ref a) (.list ds)
  | tup {a : Addr} {xs : List V} {ds : List PyData} : H a = some (.tup xs) → SdAll H xs ds → Sd H (.ref a) (.tuple ds)
  | dic {a : Addr} {kvs : List (Key × V)} {ds : List PyData} : H a = some (.dK kvs) → SdAll H (kvs.map (·.2)) ds → Sd H (.ref a) (.dict ((kvs.map fun p => kP p.1).zip ds))
inductive SdAll (H : Hp) : List V → List PyData → Prop
  | nil : SdAll H [] []
  | cons {v : V} {vs : List V} {d : PyData} {ds : List PyData} : Sd H v d → SdAll H vs ds → SdAll H (v :: vs) (d :: ds)
end
mutual
theorem Sd.ext {H H' : Hp} (e : ∀ a o, H a = some o → H' a = some o) : ∀ {v : V} {d : PyData}, Sd H v d → Sd H' v d
  | _, _, .non => .non
  | _, _, .bl b => .bl b
  | _, _, .int i => .int i
  | _, _, .str x => .str x
  | _, _, .lst h a => .lst (e _ _ h) (SdAll.ext e a)
  | _, _, .tup h a => .tup (e _ _ h) (SdAll.ext e a)
  | _, _, .dic h a => .dic (e _ _ h) (SdAll.ext e a)
theorem SdAll.ext {H H' : Hp} (e : ∀ a o, H a = some o → H' a = some o) : ∀ {vs : List V} {ds : List PyData}, SdAll H vs ds → SdAll H' vs ds
  | _, _, .nil => .nil
  | _, _, .cons h a => .cons (Sd.ext e h) (SdAll.ext e a)
end
theorem SdAll.len {H : Hp} : ∀ {vs : List V} {ds : List PyData}, SdAll H vs ds → vs.length = ds.length
  | _, _, .nil => rfl
  | _, _, .cons _ t => congrArg Nat.succ (SdAll.len t)
section
variable {X : Cx} {pins : List (Addr × Obj)} {σ : L2.St} {H : Hp} {s : Shared}
theorem sysm (I : Inv X pins σ H s) {o : Obj} (hS : X.K.lookup sysModules = some o) : H sysModules = none := (I.bs sysModules o (I.ok.mod.kin _ _ hS)).2
theorem reads_keys {h : Heap} {kd : KeyKind P w Key} (hk : ∀ k v, kd.is k v = keyIs k v) : ∀ {es : List DictEntry} {kvs : List (Key × Value)}, Pairs kd es kvs → ReadsAll h (es.map (·.key)) (kvs.map fun p => kP p.1) []
  | _, _, .nil => .nil
  | _, _, .cons (e := e) (kv := kv) hi _ t => by
    have ih := reads_keys (h := h) hk t
    rw [hk] at hi
    rcases keyIs_shape hi with ⟨i, u, e1, e2⟩ | ⟨x, u, e1, e2⟩
    · show ReadsAll h (e.key :: _) (kP kv.1 :: _) []
      rw [e1, e2]
      exact .cons (as := []) (.int i u) ih
    · show ReadsAll h (e.key :: _) (kP kv.1 :: _) []
      rw [e1, e2]
      exact .cons (as := []) (.str x u) ih
theorem vals_pairs {kd : KeyKind P w Key} : ∀ {es : List DictEntry} {kvs : List (Key × Value)}, Pairs kd es kvs → es.map (·.val) = kvs.map (·.2)
  | _, _, .nil => rfl
  | _, _, .cons _ hv t => by
    rw [List.map_cons, List.map_cons, hv, vals_pairs t]
theorem kv_split : ∀ {kvs : List (Key × V)} {vs : List (Key × Value)}, KV kvs vs → kvs.map (·.1) = vs.map (·.1) ∧ Vals (kvs.map (·.2)) (vs.map (·.2))
  | _, _, .nil => ⟨rfl, .nil⟩
  | _, _, .cons ⟨e, r⟩ t => by
    obtain ⟨h1, h2⟩ := kv_split t
    exact ⟨by rw [List.map_cons, List.map_cons, e, h1], .cons r h2⟩
theorem zip_fst : ∀ {α β : Type} {l : List α} {m : List β}, l.length = m.length → (l.zip m).map (·.1) = l
  | _, _, [], [], _ => rfl
  | _, _, a :: l, b :: m, h => by
    rw [List.zip_cons_cons, List.map_cons, zip_fst (Nat.succ.inj h)]
  | _, _, [], _ :: _, h => nomatch h
  | _, _, _ :: _, [], h => nomatch h
theorem zip_snd : ∀ {α β : Type} {l : List α} {m : List β}, l.length = m.length → (l.zip m).map (·.2) = m
  | _, _, [], [], _ => rfl
  | _, _, a :: l, b :: m, h => by
    rw [List.zip_cons_cons, List.map_cons, zip_snd (Nat.succ.inj h)]
  | _, _, [], _ :: _, h => nomatch h
  | _, _, _ :: _, [], h => nomatch h
mutual
theorem Sd.reads (I : Inv X pins σ H s) {o : Obj} (hS : X.K.lookup sysModules = some o) : ∀ {v : V} {d : PyData} {u : Value}, Sd H v d → RelV v u → ∃ as, Reads s.heap u d as ∧ sysModules ∉ as
  | _, _, _, .non, r => by cases r; exact ⟨_, .none, by simp⟩
  | _, _, _, .bl b, r => by cases r; exact ⟨_, .bool b, by simp⟩
  | _, _, _, .int i, r => by obtain ⟨t, rfl⟩ := r; exact ⟨_, .int i t, by simp⟩
  | _, _, _, .str x, r => by obtain ⟨t, rfl⟩ := r; exact ⟨_, .str x t, by simp⟩
  | _, _, _, .lst (a := a) (xs := xs) h al, r => by
    cases r
    obtain ⟨_, its, n, rv, ho⟩ := (show ObjOk X.prog X.w H s.heap a (.lst xs) from I.hok a _ h)
    obtain ⟨as, hr, hn⟩ := SdAll.reads I hS al rv
    refine ⟨_, .list ho rfl rfl (by simpa using hr), fun z => ?_⟩
    rcases List.mem_cons.mp z with z | z
    · rw [← z, sysm I hS] at h
      cases h
    · exact hn z
  | _, _, _, .tup (a := a) (xs := xs) h al, r => by
    cases r
    obtain ⟨_, its, rv, ob, ho, hc, n, hd⟩ := (show ObjOk X.prog X.w H s.heap a (.tup xs) from I.hok a _ h)
    obtain ⟨as, hr, hn⟩ := SdAll.reads I hS al rv
    exact ⟨_, .tuple ho hc hd (by simpa using hr), hn⟩
  | _, _, _, .dic (a := a) (kvs := kvs) (ds := ds) h al, r => by
    cases r
    obtain ⟨_, hy, vs, kv, ob, es, ep, ho, hx, hd, _, pr, _⟩ := (show ObjOk X.prog X.w H s.heap a (.dK kvs) from I.hok a _ h)
    obtain ⟨k1, k2⟩ := kv_split kv
    obtain ⟨as, hr, hn⟩ := SdAll.reads I hS al k2
    have hl : (kvs.map fun p => kP p.1).length = ds.length := by
      have := SdAll.len al
      simpa using this
    have hk : ReadsAll s.heap (es.toList.map (·.key)) (kvs.map fun p => kP p.1) [] := by
      have e : (kvs.map fun p => kP p.1) = vs.map fun p => kP p.1 := by
        have := congrArg (List.map kP) k1
        rw [List.map_map, List.map_map] at this
        exact this
      rw [e]
      exact reads_keys (mixKind_is X.prog X.w) pr
    refine ⟨_, .dict ho hx.1 hd (by rw [zip_fst hl]; exact hk) (by rw [zip_snd hl, vals_pairs pr]; exact hr), fun z => ?_⟩
    rcases List.mem_cons.mp z with z | z
    · rw [← z, sysm I hS] at h
      cases h
    · exact hn z
theorem SdAll.reads (I : Inv X pins σ H s) {o : Obj} (hS : X.K.lookup sysModules = some o) : ∀ {vs : List V} {ds : List PyData} {us : List Value}, SdAll H vs ds → Vals vs us → ∃ as, ReadsAll s.heap us ds as ∧ sysModules ∉ as
  | _, _, _, .nil, r => by cases r; exact ⟨_, .nil, by simp⟩
  | _, _, _, .cons h t, r => by
    cases r with
    | cons r1 r2 =>
      obtain ⟨as, q1, n1⟩ := Sd.reads I hS h r1
      obtain ⟨bs, q2, n2⟩ := SdAll.reads I hS t r2
      exact ⟨_, .cons q1 q2, fun z => (List.mem_append.mp z).elim n1 n2⟩
end
end
/-- what a repr may be told of -/
structure Shw (d : PyData) : Prop where
  sh : d.showable = true
  dp : d.depth ≤ 12
  sz : d.shown.length ≤ 100000
/-- repr(x) -/
def rRp : List V → Hp → VK → Prop := fun xs H Q => ∃ (x : V) (d : PyData), xs = [x] ∧ Sd H x d ∧ Shw d ∧ Q (.str d.shown) H
theorem call_rp {X : Cx} {o : Obj} (hG : X.A.guards = some []) (hu : X.A.units + 64 < cLine) (hS : X.K.lookup sysModules = some o) : CallR X (.builtin "repr") rRp := by
  intro pins s σ H xs us Q I r h
  obtain ⟨x, d, rfl, hd, hs, q⟩ := h
  obtain ⟨u, rfl, ru⟩ := vals1 r
  have hz : d.shown.length ≤ sizeLine := Nat.le_trans hs.sz (by decide)
  have fin : ∀ (h' : Heap) (t tk : Nat), (∀ b o, s.heap.get? b = some o → h'.get? b = some o) → EP X pins σ Q (.str d.shown t) { s with heap := h', toks := tk } := fun h' t tk k => ⟨.str d.shown, H, I.kept (t' := tk) k, ⟨t, rfl⟩, q⟩
  have big : ∀ {a : Addr}, u = .ref a → wpAny (model X.prog X.w) X.A (call (.builtin "repr") [u]) (EP X pins σ Q) X.xe s := fun {a} e => by
    subst e
    obtain ⟨as, hr, hn⟩ := Sd.reads I hS hd ru
    exact repr_of_reads' hr hs.sh (fun _ => hn) hG (by have := hs.dp; omega) (fun _ _ e => e) (fun h' t tk k => fin h' t tk k) hz
  cases hd with
  | non => cases ru; exact PySem.P.repr_of_none (fin _ _ _ fun _ _ e => e)
  | bl b => cases ru; exact PySem.P.repr_of_bool (fin _ _ _ fun _ _ e => e)
  | int i =>
    obtain ⟨t, rfl⟩ := ru
    exact PySem.P.repr_of_int (of_decide_eq_true hs.sh) (fin _ _ _ fun _ _ e => e)
  | str x =>
    obtain ⟨t, rfl⟩ := ru
    exact PySem.P.repr_of_str (fin _ _ _ fun _ _ e => e) hz
  | lst h a => exact big ru
  | tup h a => exact big ru
  | dic h a => exact big ru
end My
end

section
set_option Elab.async false
set_option linter.all false
set_option maxRecDepth 100000
set_option maxHeartbeats 4000000
namespace My
open PySem PySem.Spec PyProof.Rows L2
/-- a def's promise where no repr of a container runs around it -/
structure FnG (P : Program) (w : World) (K : PySem.W.Frag) (mg : Str → Option Value) (base : Heap) (CX : CXT) (k : Nat) (f : Addr) (fd : FuncData) (ps : List Str) (sp : Sp) : Prop where
  len : ∀ vs H Q E, sp vs H Q E → vs.length = ps.length
  run : ∀ (A : Around) (outer : List Env) (s : Shared) (H : Hp) (args : Args) (us : List Value) (vs : List V) (Q : VK) (E : XK), A.guards = some [] → Room k A → Env0 P w K mg base A outer s H → BindsTo s fd args (ps.zip us) → Vals vs us → sp vs H Q E →
    codeAny (model P w) A (.call (.ref f) args) (CR CX outer P w H s Q E) s
section
variable {P : Program} {w : World} {K : PySem.W.Frag} {mg : Str → Option Value} {base : Heap} {CX : CXT} {k : Nat} {f : Addr} {fd : FuncData} {ps : List Str} {sp : Sp}
theorem FnG.of (F : FnOk P w K mg base CX k f fd ps sp) : FnG P w K mg base CX k f fd ps sp := ⟨F.len, fun A outer s H args us vs Q E _ => F.run A outer s H args us vs Q E⟩
theorem FnG.mono {j : Nat} (F : FnG P w K mg base CX j f fd ps sp) (h : j ≤ k) : FnG P w K mg base CX k f fd ps sp :=
  ⟨F.len, fun A outer s H args us vs Q E hg hr => F.run A outer s H args us vs Q E hg (hr.mono h)⟩
end
section
variable {P : Program} {w : World} {K : PySem.W.Frag} {mg : Str → Option Value} {base : Heap} {x qual : Str} {params : Arguments} {body : List Stmt} {scope : Scope} {dvs : List V} {kws : List (Str × V)} {f : Addr} {fd : FuncData}
/-- the rule for a def by its body, the guards known -/
theorem okG {CX : CXT} {N ps : List Str} {k : Nat} {sp : Sp} (F : FunD K x qual params body scope dvs kws f fd) (S : FnScope N ps scope) (len : ∀ vs H Q E, sp vs H Q E → vs.length = ps.length)
    (hbody : ∀ (cdv : Value) (A : Around) (outer : List Env) (s : Shared) (H : Hp) (vs : List V) (Q : VK) (E : XK), A.guards = some [] → Room k (A.deeper (envOfC qual scope s.heap.objs.size f cdv)) → sp vs H Q E →
      ∃ t, PSs (cxOf CX P w K mg base N qual scope f cdv A outer s H E) body t ∧ t { nx := fun _ H' => Q .non H', rt := Q } (start N vs) H) : FnG P w K mg base CX (k + 1) f fd ps sp := by
  obtain ⟨oc, od, dV, kV, doc, pm, an, cdv, ct, osl, rfl, lk, hcd, _, _⟩ := F.ex
  refine ⟨len, fun A outer s H args us vs Q E hg hr e0 hb r hsp => ?_⟩
  have hl := len _ _ _ _ hsp
  have up : ∀ b o, base.get? b = some o → s.heap.get? b = some o := fun b o e => (e0.bs b o e).1
  refine codeAny_call_function hr.depth (e0.mod.kin.keeps up _ _ lk) rfl S.co S.gen rfl (PySem.W.codeRec_of (e0.mod.kin.keeps up) hcd) (hb _ _ _ _ ?_)
  refine wpAny_newFunctionEnv_cells S.kind (fun ⟨n, v⟩ hy => ?_) fun env he s1 z => ?_
  · rcases S.par n (List.of_mem_zip hy).1 with q | q
    · exact .inl q
    · exact .inr ⟨q, PySem.W.cellsFrom_some _ _ _ (.inl q)⟩
  · subst he
    refine ⟨(e0.mod.nolimit.keeps up).keeps z.toInCall.keep, codeAny_func ?_⟩
    obtain ⟨t, ht, hq⟩ := hbody cdv A outer s H vs Q E hg (hr.deeper _) hsp
    refine wpAny_mono (ht.run [] s1 (start N vs) H _ (inv_start S hr.hd e0 hl r z) hq) (fun fl s' hs => ?_) fun e s' hs => hs
    cases fl with
    | ret u =>
      obtain ⟨v, σ', H', J, rv, q⟩ := hs
      exact ⟨v, H', J.os, J.bare, J.base, J.hok, rv, q⟩
    | next =>
      obtain ⟨σ', H', J, q⟩ := hs
      exact ⟨.non, H', J.os, J.bare, J.base, J.hok, rfl, q⟩
    | brk => exact hs.elim fun _ h => h.elim fun _ h => h.2.elim
    | cont => exact hs.elim fun _ h => h.elim fun _ h => h.2.elim
end
section
variable {X : Cx} {CX : CXT} {k : Nat} {f : Addr} {fd : FuncData} {ps : List Str} {sp : Sp} {dvs : List V} {ds : List Value} {E : XK} {x : Str} {p pos : Pos} {e : Expr} {es : List Expr} {t : TA}
theorem run_fnG {pins : List (Addr × Obj)} {σ : L2.St} {H : Hp} {s : Shared} {Q : VK} {us : List Value} {vs : List V} (F : FnG X.prog X.w X.K X.mg X.base CX k f fd ps sp) (hG : X.A.guards = some []) (hr : Room k X.A) (hb : Binds X.K fd ps ds) (hd : Vals dvs ds) (hx : Passes CX X E)
    (I : Inv X pins σ H s) (r : Vals vs us) (h : sp (vs ++ dvs) H Q E) : wpAny (model X.prog X.w) X.A (call (.ref f) us) (EP X pins σ Q) X.xe s := by
  have r2 : Vals (vs ++ dvs) (us ++ ds) := r.append hd
  have hl : (us ++ ds).length = ps.length := r2.length.symm.trans (F.len _ _ _ _ h)
  refine wpAny_call (codeAny_mono (F.run X.A X.stack s H ⟨us, []⟩ (us ++ ds) (vs ++ dvs) Q E hG hr I.env0 (hb s us I.kIn hl) r2 h) fun r s' hq => ?_)
  cases r with
  | error e => exact hx pins σ H s e s' I hq
  | ok fl =>
    cases fl with
    | ret u => exact I.after hq
    | _ => exact hq.elim
theorem pe_callG (F : FnG X.prog X.w X.K X.mg X.base CX k f fd ps sp) (hG : X.A.guards = some []) (hr : Room k X.A) (hg : Gl X x) (hm : X.mg x = some (.ref f)) (hk : PySem.W.keepIn X.K (.ref f) = true) (hb : Binds X.K fd ps ds) (hd : Vals dvs ds) (hx : Passes CX X E)
    (ha : PA X (e :: es) t) (hdb : (x == ("__debug__" : Str)) = false := by decide) (he : starEach (e :: es) X.env = (false, eval e X.env) :: starEach es X.env := by rfl) (hpl : (backTo pos (starEach es X.env)).any (·.1) = false := by rfl) :
    PE X (.Call (.Name x p) (e :: es) [] pos) (tCall sp dvs E t) := by
  refine ⟨fun pins s σ H Q I h => ?_⟩
  refine wpAny_Call_Name_kw (ld_glob I hg hm ?_ hdb)
  refine PySem.W.callWith_K (h₀ := X.base) I.ok.mod.kin hk (thn (ha.run pos pins s σ H _ I h) fun us s1 ⟨vs, H1, I1, r, q⟩ => ⟨I1.kIn, ?_⟩) he hpl
  exact run_fnG F hG hr hb hd hx I1 r q
end
/-- the law's call, by such a promise -/
theorem law_callG {P : Program} {w : World} {K : PySem.W.Frag} {mg mb : Str → Option Value} {CX : CXT} {k : Nat} {fa a : Addr} {fd : FuncData} {x : Str} {sp : Sp} {s₁ : Shared} {vs : List Value} {ns : List Int}
    (KX : K.In s₁.heap) (hns : s₁.heap.Ns mainGlobals mg) (hb : s₁.heap.Ns builtinsNs mb) (hbb : ∀ x : Str, x ≠ "__name__" → mb x = bootBuiltins x) (hlim : s₁.heap.NoLimit) (hg : s₁.gens = #[])
    (ha : s₁.heap.get? a = some { cls := .type "list", data := .seq vs.toArray }) (hi : IntsAre vs ns) (hl : ns.length ≤ sizeLine) (hr : Room k callerA)
    (F : ∀ base : Heap, K.In base → base.Ns mainGlobals mg → FnG P w K mg base CX k fa fd [x] sp) (hbind : ∀ (s : Shared) (u : Value), BindsTo s fd ⟨[u], []⟩ [(x, u)])
    (hsp : ∀ H : Hp, Only H → SqL K H a (ns.map V.int) → sp [.ref a] H (fun v _ => v = .bl true) fun _ _ _ => False)
    (hCX : ∀ H e s', CX [] H s₁ (fun _ _ _ => False) e s' → False) :
    codeAny (model P w) callerA (.call (.ref fa) ⟨[.ref a], []⟩) (fun r s' => r = .ok (.ret (.bool true)) ∧ OldK s₁.heap s'.heap ∧ s'.os = s₁.os ∧ AllBare s'.gens) s₁ := by
  have lenV := hi.length
  have main : ∀ H : Hp, Only H → SqL K H a (ns.map V.int) → HOk P w H s₁.heap → (∀ b, H b ≠ none → b = a ∧ K.lookup b = none) →
      codeAny (model P w) callerA (.call (.ref fa) ⟨[.ref a], []⟩) (fun r s' => r = .ok (.ret (.bool true)) ∧ OldK s₁.heap s'.heap ∧ s'.os = s₁.os ∧ AllBare s'.gens) s₁ := by
    intro H hO hS hok hA
    have untr : ∀ {b : Addr} {o : Obj}, s₁.heap.get? b = some o → (b = a → False) → H b = none := fun {b o} _ hne =>
      Classical.byContradiction fun hn => hne (hA b hn).1
    have dict_ne : ∀ {b : Addr} {o : Obj} {es : Array DictEntry} {ep : Nat}, s₁.heap.get? b = some o → o.data = .dict es ep → H b = none := fun {b o es ep} e d =>
      untr e fun z => by
        subst z
        rw [ha] at e
        cases e
        cases d
    have nsK : ∀ {b : Addr} {m : Str → Option Value}, s₁.heap.Ns b m → (hidT s₁.heap H).Ns b m := fun ⟨o, es, ep, e, d, r⟩ => ⟨o, es, ep, hidT_get e (dict_ne e d), d, r⟩
    have hKb : K.In (hidT s₁.heap H) := fun b o e => hidT_get (KX b o e) (Classical.byContradiction fun hn => by
      rw [(hA b hn).2] at e
      cases e)
    have hM : Mod K mg (hidT s₁.heap H) := ⟨hKb, nsK hns, ⟨mb, nsK hb, hbb⟩, let ⟨mc, h1, h2⟩ := hlim; ⟨mc, nsK h1, h2⟩⟩
    have e0 : Env0 P w K mg (hidT s₁.heap H) callerA [] s₁ H := ⟨rfl, hM, fun b o e => of_hidT e, Nat.le_of_eq (hidT_size _ _), trivial, fun b hb => (nomatch (show b ∈ ([] : List Addr) from hb)), hok, .of_eq hg⟩
    refine codeAny_mono ((F _ hKb (nsK hns)).run callerA [] s₁ H ⟨[.ref a], []⟩ [.ref a] [.ref a] _ _ rfl hr e0 (hbind s₁ (.ref a)) (.cons rfl .nil) (hsp H hO hS)) fun r s' h => ?_
    cases r with
    | error e => exact (hCX H e s' h).elim
    | ok fl =>
      cases fl with
      | ret u =>
        obtain ⟨v, H', os, bare, un, hok', r', q⟩ := h
        obtain rfl : v = .bl true := q
        obtain rfl : u = Value.bool true := r'
        refine ⟨rfl, OldK.of_keep fun b o e => ?_, os, bare⟩
        cases q : H b with
        | none => exact un.keep b o e q (fun z => (nomatch (show b ∈ ([] : List Addr) from z))) (fun z => (nomatch z))
        | some u =>
          rcases hO b with z | ⟨ob, xs, z⟩
          · rw [q] at z
            cases z
          · obtain ⟨e1, _⟩ := hok b _ z
            obtain ⟨e2, _⟩ := hok' b _ (un.frzs b ob _ z)
            rw [e] at e1
            cases e1
            exact e2
      | _ => exact False.elim h
  cases hk : K.lookup a with
  | some o =>
    have e := KX a o hk
    rw [ha] at e
    cases e
    exact main (fun _ => none) (fun _ => .inl rfl) (.inr ⟨_, vs.toArray, _, hk, rfl, rfl, rfl, by rw [List.size_toArray, lenV]; exact hl, by simpa using vals_ints hi⟩) (fun b u z => (nomatch (show (none : Option HO) = some u from z))) fun b z => absurd rfl z
  | none =>
    have at_ne : ∀ {b : Addr}, b ≠ a → (fun b => if b = a then some (HO.frz { cls := .type "list", data := .seq vs.toArray } (.lst (ns.map V.int))) else none : Hp) b = none := fun h => if_neg h
    refine main (fun b => if b = a then some (.frz { cls := .type "list", data := .seq vs.toArray } (.lst (ns.map V.int))) else none) (fun b => ?_) (.inl (.inr ⟨{ cls := .type "list", data := .seq vs.toArray }, if_pos rfl⟩)) (fun b u z => ?_) (fun b z => ?_)
    · by_cases hb : b = a
      · exact .inr ⟨_, _, if_pos hb⟩
      · exact .inl (if_neg hb)
    · by_cases hb : b = a
      · subst hb
        cases (if_pos rfl).symm.trans z
        exact ⟨ha, by rw [List.length_map]; exact hl, vs, _, vals_ints hi, ha⟩
      · cases (at_ne hb).symm.trans z
    · by_cases hb : b = a
      · exact ⟨hb, hb ▸ hk⟩
      · exact absurd (at_ne hb) z
/-- the law's end over a head by facts, by such a promise -/
theorem walk_G {l : PySem.W.OpenLaw} {n k : Nat} {q : Program} {loose : List Str} {XP : (Str → Option Value) → Heap → Prop} {YP : World → Heap → Prop} {d : DefRec} {CX : CXT} {x : Str}
    (hn : l.most = some n) (hn2 : n ≤ sizeLine) (hdf : d.params.defaults = []) (hr : Room k callerA)
    (F : ∀ (w : World) (mg : Str → Option Value) (fa : Addr) (h : Heap), YP w h → h.Ns mainGlobals mg → mg d.name = some (.ref fa) →
      ∃ (K : PySem.W.Frag) (fd : FuncData) (sp : Sp), K.In h ∧ (∀ (s : Shared) (u : Value), BindsTo s fd ⟨[u], []⟩ [(x, u)]) ∧
        (∀ (H : Hp) (a : Addr) (ns : List Int), ns.length ≤ n → Only H → SqL K H a (ns.map V.int) → sp [.ref a] H (fun v _ => v = .bl true) fun _ _ _ => False) ∧
        ∀ base : Heap, K.In base → base.Ns mainGlobals mg → FnG l.prog w K mg base CX k fa fd [x] sp)
    (hCX : ∀ (H : Hp) (s : Shared) (e : Value) (s' : Shared), CX [] H s (fun _ _ _ => False) e s' → False) :
    PySem.W.WalkO q loose XP YP l.row.toRowW d [] (fun f vs => PySem.call f vs) := by
  refine Att.attach_call hn hdf fun w s₀ s₁ mg mb fa o pm cd doc a vs ns G Y ho hd hcd hmg hobj hints hlen hg => ?_
  obtain ⟨K, fd, sp, KX, hb, hsp, hF⟩ := F w mg fa _ Y G.T.g hmg
  exact law_callG KX G.T.g G.T.b G.T.builtins G.T.nolimit hg hobj hints (Nat.le_trans hlen hn2) hr hF hb (fun H hO hS => hsp H a ns hlen hO hS) fun H e s' => hCX H s₁ e s'
end My
end

section
set_option Elab.async false
set_option linter.all false
set_option maxRecDepth 100000
set_option maxHeartbeats 4000000
namespace My
open PySem PySem.Spec PyProof.Rows L2 Evl

/-! ### callees and classes by one word each -/
structure Cal (P : Program) (w : World) (K : PySem.W.Frag) (mg : Str → Option Value) (base : Heap) (x : Str) (k : Nat) (ps : List Str) (sp : Sp) : Prop where
  ex : ∃ f fd, FnOk P w K mg base CX0 k f fd ps sp ∧ mg x = some (.ref f) ∧ PySem.W.keepIn K (.ref f) = true ∧ Binds K fd ps []
structure CalG (P : Program) (w : World) (K : PySem.W.Frag) (mg : Str → Option Value) (base : Heap) (x : Str) (k : Nat) (ps : List Str) (sp : Sp) : Prop where
  ex : ∃ f fd, FnG P w K mg base CX0 k f fd ps sp ∧ mg x = some (.ref f) ∧ PySem.W.keepIn K (.ref f) = true ∧ Binds K fd ps []
/-- an exception class, its __init__ -/
structure Kls (P : Program) (w : World) (K : PySem.W.Frag) (mg : Str → Option Value) (base : Heap) (x : Str) (C : Addr) (b : Bs) (k : Nat) (ps : List Str) (sp : Sp) : Prop where
  xc : Xc K b C
  g : mg x = some (.ref C)
  ex : ∃ fI fd, PySem.W.findIn K (.ref C) "__init__" = some (some (.ref fI)) ∧ PySem.W.typeIn K (.ref fI) = some (.type "function") ∧ FnOk P w K mg base CX0 k fI fd ps sp ∧ Binds K fd ps []
structure KlsK (P : Program) (w : World) (K : PySem.W.Frag) (mg : Str → Option Value) (base : Heap) (x : Str) (C : Addr) (b : Bs) (k : Nat) (ks ps : List Str) (gV : List V → List V → List V) (sp : Sp) : Prop where
  xc : Xc K b C
  g : mg x = some (.ref C)
  ex : ∃ fI fd gv, PySem.W.findIn K (.ref C) "__init__" = some (some (.ref fI)) ∧ PySem.W.typeIn K (.ref fI) = some (.type "function") ∧ FnOk P w K mg base CX0 k fI fd ps sp ∧ KBn K fd ps 1 ks gv gV
section
variable {X : Cx} {x : Str} {k : Nat} {ps ks : List Str} {sp : Sp} {p pos : Pos} {e : Expr} {es : List Expr} {t : TA} {C : Addr} {b : Bs} {kws : List Keyword} {gV : List V → List V → List V}
theorem pe_fn (F : Cal X.prog X.w X.K X.mg X.base x k ps sp) (hr : Room k X.A) (hg : Gl X x) (ha : PA X (e :: es) t) (hdb : (x == ("__debug__" : Str)) = false := by decide)
    (he : starEach (e :: es) X.env = (false, eval e X.env) :: starEach es X.env := by rfl) (hpl : (backTo pos (starEach es X.env)).any (·.1) = false := by rfl) : PE X (.Call (.Name x p) (e :: es) [] pos) (tCall sp [] E0 t) := by
  obtain ⟨f, fd, F1, hm, hk, hb⟩ := F.ex
  exact pe_call F1 hr hg hm hk hb .nil pass0 ha hdb he hpl
theorem pe_fnG (F : CalG X.prog X.w X.K X.mg X.base x k ps sp) (hG : X.A.guards = some []) (hr : Room k X.A) (hg : Gl X x) (ha : PA X (e :: es) t) (hdb : (x == ("__debug__" : Str)) = false := by decide)
    (he : starEach (e :: es) X.env = (false, eval e X.env) :: starEach es X.env := by rfl) (hpl : (backTo pos (starEach es X.env)).any (·.1) = false := by rfl) : PE X (.Call (.Name x p) (e :: es) [] pos) (tCall sp [] E0 t) := by
  obtain ⟨f, fd, F1, hm, hk, hb⟩ := F.ex
  exact pe_callG F1 hG hr hg hm hk hb .nil pass0 ha hdb he hpl
theorem pe_kls (F : Kls X.prog X.w X.K X.mg X.base x C b k ps sp) (hr : Room (k + 1) X.A) (hg : Gl X x) (ha : PA X (e :: es) t) (hdb : (x == ("__debug__" : Str)) = false := by decide)
    (he : starEach (e :: es) X.env = (false, eval e X.env) :: starEach es X.env := by rfl) (hpl : (backTo pos (starEach es X.env)).any (·.1) = false := by rfl) : PE X (.Call (.Name x p) (e :: es) [] pos) (tXm C sp t) := by
  obtain ⟨fI, fd, iC, tI, F1, hb⟩ := F.ex
  exact pe_xm F.xc iC tI F1 hr hb pass0 hg F.g ha hdb he hpl
theorem pe_kls0 (F : Kls X.prog X.w X.K X.mg X.base x C b k ps sp) (hr : Room (k + 1) X.A) (hg : Gl X x) (hdb : (x == ("__debug__" : Str)) = false := by decide) : PE X (.Call (.Name x p) [] [] pos) (tXm C sp tNil) := by
  obtain ⟨fI, fd, iC, tI, F1, hb⟩ := F.ex
  exact pe_xm0 F.xc iC tI F1 hr hb pass0 hg F.g hdb
theorem pe_klsK (F : KlsK X.prog X.w X.K X.mg X.base x C b k ks ps gV sp) (hr : Room (k + 1) X.A) (hg : Gl X x) (hkw : PK X kws t)
    (hall : (backToKw pos (keywordEach kws X.env)).all (·.1.isSome) = true := by rfl) (hks : (backToKw pos (keywordEach kws X.env)).filterMap (·.1) = ks := by rfl) (hdb : (x == ("__debug__" : Str)) = false := by decide)
    (hpl : ((backTo pos (starEach [] X.env)).any (·.1) || (backToKw pos (keywordEach kws X.env)).any (·.1.isNone)) = false := by rfl) : PE X (.Call (.Name x p) [] kws pos) (tXk C ks.length sp gV t) := by
  obtain ⟨fI, fd, gv, iC, tI, F1, hb⟩ := F.ex
  exact pe_xk F.xc iC tI F1 hr hb pass0 hg F.g hkw hall hks hdb hpl
end

/-! ### heaps but for one object -/
/-- all that was tracked stands, but p -/
def ExB (p : Addr) (H H' : Hp) : Prop := ∀ a o, a ≠ p → H a = some o → H' a = some o
theorem ExB.refl (p : Addr) (H : Hp) : ExB p H H := fun _ _ _ h => h
theorem ExB.trans {p : Addr} {H H1 H2 : Hp} (a : ExB p H H1) (b : ExB p H1 H2) : ExB p H H2 := fun c o n h => b c o n (a c o n h)
theorem ExB.of {p : Addr} {H H1 : Hp} (a : Ex H H1) : ExB p H H1 := fun c o _ h => a c o h
theorem ExB.upd (p : Addr) (H : Hp) (o : HO) : ExB p H (upd H p o) := fun a u n h => by rw [upd_ne n]; exact h
/-- a well: the number to mix, the figures, the count -/
def WellAt (H : Hp) (p : Addr) : Prop := ∃ x y c : Int, H p = some (.lst [.int x, .int y, .int c]) ∧ 0 ≤ x ∧ x < 2147483579 ∧ 0 ≤ y ∧ 0 ≤ c
theorem WellAt.ex {H H' : Hp} {p : Addr} (e : Ex H H') : WellAt H p → WellAt H' p := fun ⟨x, y, c, h, r⟩ => ⟨x, y, c, e p _ h, r⟩

/-! ### promises of the law's own draws -/
/-- _law_cell(cells, k) -/
def spCell (K : PySem.W.Frag) : Sp := fun vs H Q _ => ∃ (a : Addr) (ns : List Int) (k : Int), vs = [.ref a, .int k] ∧ SqL K H a (ns.map V.int) ∧ ns.length ≤ 63 ∧ 0 ≤ k ∧ ∀ z H', Ex H H' → Q (.int z) H'
/-- _law_well(cells, k) -/
def spWell (K : PySem.W.Frag) : Sp := fun vs H Q _ => ∃ (a : Addr) (ns : List Int) (k : Int), vs = [.ref a, .int k] ∧ SqL K H a (ns.map V.int) ∧ ns.length ≤ 63 ∧ 0 ≤ k ∧ ∀ p H', H p = none → Ex H H' → WellAt H' p → Q (.ref p) H'
/-- _law_draw(well, many) -/
def spDraw : Sp := fun vs H Q _ => ∃ (p : Addr) (m : Int), vs = [.ref p, .int m] ∧ WellAt H p ∧ 0 < m ∧ m < 1073741824 ∧ ∀ z H', 0 ≤ z → z < m → WellAt H' p → ExB p H H' → (∀ a, H' a = none ↔ H a = none) → Q (.int z) H'

/-! ### their readings -/
abbrev rA : R2 := rI0 fun i j => .int (i + j)
abbrev rM : R2 := rI CMul fun i j => .int (i * j)
abbrev rMd : R2 := rI (fun _ j => 0 < j) fun i j => .int (i % j)
abbrev rDv : R2 := rI CDiv fun i j => .int (i / j)
abbrev rPw : R2 := rI CPow fun i j => .int (i ^ j.toNat)
abbrev rLt : R2 := rI0 fun i j => .bl (decide (i < j))
abbrev rGt' : R2 := rI0 fun i j => .bl (decide (j < i))
abbrev rGe' : R2 := rI0 fun i j => .bl (decide (j ≤ i))
abbrev rInt1 : List V → Hp → VK → Prop := fun xs H Q => (∃ i, xs = [.int i] ∧ Q (.int i) H) ∨ ∃ k, xs = [.bl k] ∧ Q (.int (if k then 1 else 0)) H
abbrev rAbs : List V → Hp → VK → Prop := fun xs H Q => ∃ i, xs = [.int i] ∧ Q (.int (if i < 0 then -i else i)) H
/-- slots: cells, k, seed, part -/
def t_cell (K : PySem.W.Frag) : TS :=
  tSeq (tIfS (tTest (tOp rLt (tVar 1) (tCB (rLenS K) (tCons (tVar 0) tNil)))) (tRet (tOp (rIxL K) (tVar 0) (tVar 1))) tNext)
  (tSeq (tAsg (tOp rA (tC (.int 71993)) (tOp rM (tC (.int 613)) (tVar 1))) (gName 2))
  (tSeq (tFor (iList K (tSl (rSlL K) (tVar 0) tNoPart (tPart (tC (.int 4))))) (gName 3) (tAsg (tOp rMd (tCB rInt1 (tCons (tOp rA (tOp rM (tVar 2) (tC (.int 52361))) (tVar 3)) tNil)) (tC (.int 2147483579))) (gName 2)))
  (tRet (tVar 2))))
theorem map_int {ns : List Int} {i : Nat} {x : V} (h : (ns.map V.int)[i]? = some x) : ∃ z, x = V.int z := by
  rw [List.getElem?_map] at h
  cases e : ns[i]? with
  | none => rw [e] at h; cases h
  | some z => rw [e] at h; exact ⟨z, (Option.some.inj h).symm⟩
theorem pure_cell {K : PySem.W.Frag} (vs : List V) (H : Hp) (Q : VK) (E : XK) (h : spCell K vs H Q E) : t_cell K { nx := fun _ H' => Q .non H', rt := Q } (start ["cells", "k", "seed", "part"] vs) H := by
  obtain ⟨a, ns, k, rfl, hS, hl, h0, hQ⟩ := h
  refine ⟨_, rfl, _, rfl, a, _, rfl, .inl hS, _, _, rfl, rfl, _, rfl, ?_⟩
  refine ite2 (fun c => ?_) (fun c => ?_)
  · have hk : k < (ns.length : Int) := by
      have := of_decide_eq_true c
      rw [List.length_map] at this
      exact this
    obtain ⟨v, hv⟩ : ∃ v, (ns.map V.int)[k.toNat]? = some v := by
      rw [List.getElem?_map, List.getElem?_eq_getElem (by omega)]
      exact ⟨_, rfl⟩
    obtain ⟨z, rfl⟩ := map_int hv
    exact ⟨_, rfl, _, rfl, a, _, k, _, rfl, rfl, hS, at_of (j := k.toNat) (by omega) hv, hQ z H (Ex.refl H)⟩
  · refine ⟨_, rfl, _, _, rfl, rfl, .inl ⟨by decide, by decide⟩, _, _, rfl, rfl, ?_⟩
    refine ⟨_, rfl, _, rfl, a, _, rfl, hS, fun p hp => ?_⟩
    have key : ∀ i (x : V), (cutV (ns.map V.int) none (some 4))[i]? = some x → ∃ z, x = V.int z := fun i x hx => by
      have hm := List.mem_of_getElem? hx
      unfold cutV at hm
      obtain ⟨j, hj, e⟩ := List.mem_iff_getElem.mp (List.mem_of_mem_drop (List.mem_of_mem_take hm))
      exact map_int (i := j) (by rw [List.getElem?_eq_getElem hj, e])
    refine ⟨p, rfl, ⟨_, sq_of upd_same⟩, for_list (K := K) (a := p) (xs := cutV (ns.map V.int) none (some 4)) (fun _ σ H' => ∃ (z : Int) (v : Option V), σ = [some (.ref a), some (.int k), some (.int z), v] ∧ Ex (upd H p (.lst (cutV (ns.map V.int) none (some 4)))) H')
      ⟨_, _, rfl, Ex.refl _⟩ (fun i σ H' _ ⟨_, _, _, e⟩ => sq_of (e p _ upd_same)) ?_ ?_⟩
    · rintro i x σ H' hi ⟨z, v, rfl, e⟩
      obtain ⟨y, rfl⟩ := key i x hi
      exact ⟨_, rfl, _, _, rfl, rfl, .inr ⟨by decide, by decide⟩, _, rfl, _, _, rfl, rfl, .inl ⟨_, rfl, _, _, rfl, rfl, (by show (0 : Int) < 2147483579; decide), _, _, rfl, e⟩⟩
    · rintro σ H' ⟨z, v, rfl, e⟩
      exact ⟨_, rfl, hQ z H' ((Ex.new hp).trans e)⟩
/-- slots: cells, k, cell_here, figures -/
def t_well (K : PySem.W.Frag) : TS :=
  tSeq (tAsg (tCall (spCell K) [] E0 (tCons (tVar 0) (tCons (tVar 1) tNil))) (gName 2))
  (tSeq (tAsg (tIf (tOr (tTest (tOp rLt (tVar 2) (tC (.int 0)))) (tTest (tOp rGe' (tVar 2) (tOp rPw (tC (.int 10)) (tC (.int 18)))))) (tCB rAbs (tCons (tVar 2) tNil)) (tC (.int 0))) (gName 3))
  (tRet (tLst (tCons (tOp rMd (tCB rInt1 (tCons (tOp rA (tOp rM (tVar 2) (tC (.int 69621))) (tC (.int 40014))) tNil)) (tC (.int 2147483579))) (tCons (tVar 3) (tCons (tC (.int 0)) tNil))))))
theorem pure_well {K : PySem.W.Frag} (vs : List V) (H : Hp) (Q : VK) (E : XK) (h : spWell K vs H Q E) : t_well K { nx := fun _ H' => Q .non H', rt := Q } (start ["cells", "k", "cell", "figures"] vs) H := by
  obtain ⟨a, ns, k, rfl, hS, hl, h0, hQ⟩ := h
  refine ⟨_, rfl, _, rfl, a, ns, k, rfl, hS, hl, h0, fun z H1 e1 => ?_⟩
  have fin : ∀ y : Int, 0 ≤ y → (tRet (tLst (tCons (tOp rMd (tCB rInt1 (tCons (tOp rA (tOp rM (tVar 2) (tC (.int 69621))) (tC (.int 40014))) tNil)) (tC (.int 2147483579))) (tCons (tVar 3) (tCons (tC (.int 0)) tNil)))) : TS) { nx := fun _ H' => Q .non H', rt := Q } [some (.ref a), some (.int k), some (.int z), some (.int y)] H1 := fun y hy => by
    refine ⟨_, rfl, _, _, rfl, rfl, .inr ⟨by decide, by decide⟩, _, _, rfl, rfl, .inl ⟨_, rfl, _, _, rfl, rfl, (by show (0 : Int) < 2147483579; decide), _, rfl, (by show 3 ≤ sizeLine; decide), fun p hp => hQ p _ (fresh_back e1 hp) (e1.trans (Ex.new hp)) ⟨_, _, _, upd_same, Int.emod_nonneg _ (by decide), Int.emod_lt_of_pos _ (by decide), hy, Int.le_refl 0⟩⟩⟩
  refine ⟨_, rfl, _, _, rfl, rfl, _, rfl, ?_⟩
  have ab : ∀ {t : Prop} [Decidable t], (0 : Int) ≤ (if z < 0 then -z else z) := by
    intro t _
    split <;> omega
  refine ite2 (fun _ => ?_) (fun _ => ?_)
  · exact iteT ⟨_, rfl, _, rfl, fin _ (ab (t := True))⟩
  · refine ⟨_, rfl, _, _, rfl, rfl, ⟨by decide, by decide, by decide⟩, _, _, rfl, rfl, _, rfl, ?_⟩
    refine ite2 (fun _ => ?_) (fun _ => ?_)
    · exact ⟨_, rfl, _, rfl, fin _ (ab (t := True))⟩
    · exact fin 0 (Int.le_refl 0)
def t_draw2 (K : PySem.W.Frag) : TS :=
  tSeq (tIfS (tTest (tOp rGt' (tOp (rIxL K) (tVar 0) (tC (.int 1))) (tC (.int 0))))
    (tSeq (tAsg (tOp rMd (tCB rInt1 (tCons (tOp (rIxL K) (tVar 0) (tC (.int 1))) tNil)) (tVar 1)) (gName 2))
    (tSeq (tAsg (tOp rDv (tCB rInt1 (tCons (tOp (rIxL K) (tVar 0) (tC (.int 1))) tNil)) (tVar 1)) (gSub (tVar 0) (tC (.int 1)) rSetL))
    (tRet (tVar 2)))) tNext)
  (tRet (tOp rMd (tCB rInt1 (tCons (tOp rDv (tOp (rIxL K) (tVar 0) (tC (.int 0))) (tC (.int 64))) tNil)) (tVar 1)))
/-- slots: well, many, figure -/
def t_draw (K : PySem.W.Frag) : TS :=
  tSeq (tAsg (tOp rA (tOp (rIxL K) (tVar 0) (tC (.int 2))) (tC (.int 1))) (gSub (tVar 0) (tC (.int 2)) rSetL))
  (tSeq (tAsg (tOp rMd (tCB rInt1 (tCons (tOp rA (tOp rA (tOp rPw (tOp (rIxL K) (tVar 0) (tC (.int 0))) (tC (.int 3))) (tOp rM (tC (.int 91997)) (tOp (rIxL K) (tVar 0) (tC (.int 2))))) (tC (.int 17))) tNil)) (tC (.int 2147483579))) (gSub (tVar 0) (tC (.int 0)) rSetL))
  (t_draw2 K))
theorem pure_draw {K : PySem.W.Frag} (vs : List V) (H : Hp) (Q : VK) (E : XK) (h : spDraw vs H Q E) : t_draw K { nx := fun _ H' => Q .non H', rt := Q } (start ["well", "many", "figure"] vs) H := by
  obtain ⟨p, m, rfl, ⟨x, y, c, hp, hx, hx2, hy, hc⟩, hm, hm2, hQ⟩ := h
  -- the count
  refine ⟨_, rfl, p, _, 2, _, rfl, rfl, sq_of hp, rfl, _, _, rfl, rfl, _, rfl, p, _, 2, 2, rfl, rfl, hp, rfl, ?_⟩
  -- the number
  refine ⟨_, rfl, p, _, 0, _, rfl, rfl, sq_of upd_same, rfl, _, _, rfl, rfl, ⟨by decide, by decide, by omega⟩, _, rfl, p, _, 2, _, rfl, rfl, sq_of upd_same, rfl, _, _, rfl, rfl, .inl ⟨by decide, by decide⟩, _, _, rfl, rfl, _, _, rfl, rfl, .inl ⟨_, rfl, _, _, rfl, rfl, (by show (0 : Int) < 2147483579; decide), ?_⟩⟩
  refine ⟨_, rfl, p, _, 0, 0, rfl, rfl, upd_same, rfl, ?_⟩
  suffices key : ∀ n : Int, 0 ≤ n → n < 2147483579 → t_draw2 K { nx := fun _ H' => Q .non H', rt := Q } [some (.ref p), some (.int m), none] (upd H p (.lst [.int n, .int y, .int (c + 1)])) by
    have z := key ((x ^ (3 : Int).toNat + 91997 * (c + 1) + 17) % 2147483579) (Int.emod_nonneg _ (by decide)) (Int.emod_lt_of_pos _ (by decide))
    rw [← upd_upd (H := H) (o := .lst [.int x, .int y, .int (c + 1)])] at z
    exact z
  intro n n0 n1
  have st : ∀ H', (∃ o, H' = upd H p o) → ExB p H H' ∧ ∀ a, H' a = none ↔ H a = none := by
    rintro H' ⟨o, rfl⟩
    refine ⟨ExB.upd p H o, fun a => ?_⟩
    by_cases ha : a = p
    · subst ha
      rw [upd_same, hp]
      exact ⟨fun z => (nomatch z), fun z => (nomatch z)⟩
    · rw [upd_ne ha]
  refine ⟨_, rfl, p, _, 1, _, rfl, rfl, sq_of upd_same, rfl, _, _, rfl, rfl, _, rfl, ?_⟩
  refine ite2 (fun _ => ?_) (fun _ => ?_)
  · refine ⟨_, rfl, p, _, 1, _, rfl, rfl, sq_of upd_same, rfl, .inl ⟨_, rfl, _, rfl, _, _, rfl, rfl, hm, ?_⟩⟩
    refine ⟨_, rfl, p, _, 1, _, rfl, rfl, sq_of upd_same, rfl, .inl ⟨_, rfl, _, rfl, _, _, rfl, rfl, ⟨hm, hm2⟩, ?_⟩⟩
    refine ⟨_, rfl, p, _, 1, 1, rfl, rfl, upd_same, rfl, ?_⟩
    refine ⟨_, rfl, ?_⟩
    obtain ⟨s1, s2⟩ := st (upd (upd H p (.lst [.int n, .int y, .int (c + 1)])) p (.lst [.int n, .int (y / m), .int (c + 1)])) ⟨_, upd_upd⟩
    exact hQ (y % m) _ (Int.emod_nonneg _ (by omega)) (Int.emod_lt_of_pos _ hm) ⟨n, y / m, c + 1, upd_same, n0, n1, Int.ediv_nonneg hy (by omega), by omega⟩ s1 s2
  · refine ⟨_, rfl, p, _, 0, _, rfl, rfl, sq_of upd_same, rfl, _, _, rfl, rfl, ⟨by decide, by decide⟩, .inl ⟨_, rfl, _, rfl, _, _, rfl, rfl, hm, ?_⟩⟩
    obtain ⟨s1, s2⟩ := st (upd H p (.lst [.int n, .int y, .int (c + 1)])) ⟨_, rfl⟩
    exact hQ _ _ (Int.emod_nonneg _ (by omega)) (Int.emod_lt_of_pos _ hm) ⟨n, y, c + 1, upd_same, n0, n1, hy, by omega⟩ s1 s2
end My
end

section
set_option Elab.async false
set_option linter.all false
set_option maxRecDepth 100000
set_option maxHeartbeats 4000000
namespace K01
open PySem PySem.Spec PyProof.Rows L2 My Evl
/-! ### the classes by their places in the law -/
def bOf (i : Nat) : Bs := if i < 19 then bV else if i < 22 then bL else bA
theorem bOf_ok (i : Nat) : BsOk (bOf i) := by
  unfold bOf
  split
  · exact bV_ok
  · split
    · exact bL_ok
    · exact bA_ok
def nm (i : Nat) : Str := cs.getD i ""
abbrev cA (K : PySem.W.Frag) (i : Nat) : Addr := He.ga K (nm i)
/-- the field of a class that has one -/
def fld (i : Nat) : Str := if i = 22 then "limit" else if i = 23 then "ring" else if i ≤ 13 ∨ i = 19 ∨ i = 20 then "given" else "index"
theorem ex1 {K : PySem.W.Frag} (h : ex K = true) : ∀ i, i < 19 → xK K bV (nm i) = true ∧ PySem.W.findIn K (.ref (cA K i)) "given" = some none ∧ PySem.W.findIn K (.ref (cA K i)) "index" = some none := by
  simp only [ex, Bool.and_eq_true] at h
  intro i hi
  have hm : nm i ∈ cs.take 19 := (by decide : ∀ i, i < 19 → nm i ∈ cs.take 19) i hi
  have z := List.all_eq_true.mp h.2.1 _ hm
  simp only [Bool.and_eq_true, decide_eq_true_eq] at z
  exact z
theorem ex2 {K : PySem.W.Frag} (h : ex K = true) : ∀ i, 19 ≤ i → i < 22 → xK K bL (nm i) = true ∧ PySem.W.findIn K (.ref (cA K i)) "given" = some none ∧ PySem.W.findIn K (.ref (cA K i)) "index" = some none := by
  simp only [ex, Bool.and_eq_true] at h
  intro i h1 h2
  have hm : nm i ∈ (cs.drop 19).take 3 := (by decide : ∀ i, i < 22 → 19 ≤ i → nm i ∈ (cs.drop 19).take 3) i h2 h1
  have z := List.all_eq_true.mp h.2.2.1 _ hm
  simp only [Bool.and_eq_true, decide_eq_true_eq] at z
  exact z
theorem ex3 {K : PySem.W.Frag} (h : ex K = true) : ∀ i, 22 ≤ i → i < 28 → xK K bA (nm i) = true ∧ PySem.W.findIn K (.ref (cA K i)) "limit" = some none ∧ PySem.W.findIn K (.ref (cA K i)) "ring" = some none ∧
    PySem.W.findIn K (.ref (cA K i)) "index" = some none ∧ PySem.W.findIn K (.ref (cA K i)) "shown" = some none := by
  simp only [ex, Bool.and_eq_true] at h
  intro i h1 h2
  have hm : nm i ∈ cs.drop 22 := (by decide : ∀ i, i < 28 → 22 ≤ i → nm i ∈ cs.drop 22) i h2 h1
  have z := List.all_eq_true.mp h.2.2.2.1 _ hm
  simp only [Bool.and_eq_true, decide_eq_true_eq] at z
  exact z
theorem exK {K : PySem.W.Frag} (h : ex K = true) (i : Nat) (hi : i < 28) : xK K (bOf i) (nm i) = true := by
  unfold bOf
  by_cases h1 : i < 19
  · rw [if_pos h1]; exact (ex1 h i h1).1
  · rw [if_neg h1]
    by_cases h2 : i < 22
    · rw [if_pos h2]; exact (ex2 h i (by omega) h2).1
    · rw [if_neg h2]; exact (ex3 h i (by omega) hi).1
theorem xcK {K : PySem.W.Frag} (h : ex K = true) (i : Nat) (hi : i < 28) : Xc K (bOf i) (cA K i) := by
  have z := exK h i hi
  simp only [xK, Bool.and_eq_true, decide_eq_true_eq] at z
  exact xc_of (bOf_ok i) z.1
theorem inK {K : PySem.W.Frag} (h : ex K = true) (i : Nat) (hi : i < 28) : PySem.W.findIn K (.ref (cA K i)) "__init__" = some (some (.ref (He.ma K (cA K i) "__init__"))) ∧ PySem.W.typeIn K (.ref (He.ma K (cA K i) "__init__")) = some (.type "function") := by
  have z := exK h i hi
  simp only [xK, Bool.and_eq_true, decide_eq_true_eq] at z
  exact ⟨z.2.2, z.2.1⟩
theorem nofK {K : PySem.W.Frag} (h : ex K = true) (i : Nat) (hi : i < 28) : NoF K (cA K i) (fld i) := by
  by_cases h1 : i < 19
  · have z := (ex1 h i h1).2
    have e : fld i = "given" ∨ fld i = "index" := (by decide : ∀ i, i < 19 → fld i = "given" ∨ fld i = "index") i h1
    rcases e with e | e
    · rw [e]; exact z.1
    · rw [e]; exact z.2
  · by_cases h2 : i < 22
    · have z := (ex2 h i (by omega) h2).2
      have e : fld i = "given" ∨ fld i = "index" := (by decide : ∀ i, i < 22 → 19 ≤ i → fld i = "given" ∨ fld i = "index") i h2 (by omega)
      rcases e with e | e
      · rw [e]; exact z.1
      · rw [e]; exact z.2
    · have z := (ex3 h i (by omega) hi).2
      have e : fld i = "limit" ∨ fld i = "ring" ∨ fld i = "index" := (by decide : ∀ i, i < 28 → 22 ≤ i → fld i = "limit" ∨ fld i = "ring" ∨ fld i = "index") i hi (by omega)
      rcases e with e | e | e
      · rw [e]; exact z.1
      · rw [e]; exact z.2.1
      · rw [e]; exact z.2.2.1
theorem kitK {K : PySem.W.Frag} (h : ex K = true) (i j : Nat) (hi : i < 28) (hj : j < 28) : PySem.W.kitOne K (.ref (cA K i)) (.ref (cA K j)) = some (decide (i = j)) := by
  simp only [ex, Bool.and_eq_true] at h
  have z := List.all_eq_true.mp (List.all_eq_true.mp h.2.2.2.2.2.2.2.1 i (List.mem_range.mpr hi)) j (List.mem_range.mpr hj)
  exact of_decide_eq_true z
theorem kitB {K : PySem.W.Frag} (h : ex K = true) (i : Nat) (hi : i < 28) :
    kB K (nm i) (.ref (He.ga K "WrongValue")) = some (decide (i < 19)) ∧ kB K (nm i) (.ref (He.ga K "WrongName")) = some (decide (19 ≤ i ∧ i < 22)) ∧ kB K (nm i) (.ref (He.ga K "NoAnswer")) = some (decide (22 ≤ i)) ∧
    kB K (nm i) (.type "ValueError") = some (decide (i < 19)) ∧ kB K (nm i) (.type "LookupError") = some (decide (19 ≤ i ∧ i < 22)) ∧ kB K (nm i) (.type "ArithmeticError") = some (decide (22 ≤ i)) := by
  simp only [ex, Bool.and_eq_true] at h
  have z := List.all_eq_true.mp h.2.2.2.2.2.2.2.2 i (List.mem_range.mpr hi)
  simp only [Bool.and_eq_true, decide_eq_true_eq] at z
  exact z
theorem wvK {K : PySem.W.Frag} (h : ex K = true) : wK K bV "WrongValue" = true ∧ wK K bL "WrongName" = true ∧ wK K bA "NoAnswer" = true := by
  simp only [ex, Bool.and_eq_true] at h
  exact ⟨h.2.2.2.2.1, h.2.2.2.2.2.1, h.2.2.2.2.2.2.1⟩
theorem wk_of {K : PySem.W.Frag} {b : Bs} {x : Str} (h : wK K b x = true) : ClX.CRead K (He.ga K x) (.type "type") ∧ PySem.W.findCls K (.ref (He.ga K x)) (.type "type") "__init__" = some (.val (.builtin b.ini)) := by
  simp only [wK, Bool.and_eq_true, decide_eq_true_eq] at h
  refine ⟨⟨h.1, h.2.1⟩, ?_⟩
  have z := h.2.2
  split at z
  · rename_i i e
    rw [e, of_decide_eq_true z]
  · cases z
/-! ### the classes' __init__ -/
def spX (C : Addr) (f : Str) : Sp := fun vs H Q _ => ∃ (a : Addr) (y : V), vs = [.ref a, y] ∧ H a = some (exo a C none) ∧ ∀ dx, H dx = none → dx ≠ a → Q .non (upd (upd H dx (exd dx [(f, y)])) a (exo a C (some dx)))
def spX0 (C : Addr) : Sp := fun vs H Q _ => ∃ a : Addr, vs = [.ref a] ∧ H a = some (exo a C none) ∧ Q .non H
def spX2 (C : Addr) (f g : Str) : Sp := fun vs H Q _ => ∃ (a : Addr) (y z : V), vs = [.ref a, y, z] ∧ H a = some (exo a C none) ∧ ∀ dx, H dx = none → dx ≠ a → Q .non (upd (upd (upd H dx (exd dx [(f, y)])) a (exo a C (some dx))) dx (exd dx [(g, z), (f, y)]))
def t_in (K : PySem.W.Frag) (b : Bs) (m : Str) (f : Str) : TS := tSeq (tDrop (tXi K b (tCons (tVar 0) (tCons (tC (.str m)) tNil)))) (tXs K b f (tVar 0) (tVar 1))
def t_in2 (K : PySem.W.Frag) (b : Bs) (m : Str) (f g : Str) : TS := tSeq (tDrop (tXi K b (tCons (tVar 0) (tCons (tC (.str m)) tNil)))) (tSeq (tXs K b f (tVar 0) (tVar 1)) (tXs K b g (tVar 0) (tVar 2)))
theorem pure_in {K : PySem.W.Frag} {b : Bs} {C : Addr} {m f : Str} (T : Xc K b C) (n : NoF K C f) (N : List Str) (hN : N.length = 2) (vs : List V) (H : Hp) (Q : VK) (E : XK) (h : spX C f vs H Q E) : t_in K b m f { nx := fun _ H' => Q .non H', rt := Q } (start N vs) H := by
  obtain ⟨a, y, rfl, hH, k⟩ := h
  have e : start N [.ref a, y] = [some (.ref a), some y] := by
    unfold L2.start
    rw [hN]
    rfl
  rw [e]
  exact ⟨_, rfl, a, C, _, rfl, (by show 1 ≤ 1000; decide), T, hH, _, rfl, _, rfl, a, C, rfl, T, n, .inl ⟨hH, fun dx n ne => k dx n ne⟩⟩
theorem pure_in2 {K : PySem.W.Frag} {b : Bs} {C : Addr} {m f g : Str} (T : Xc K b C) (n : NoF K C f) (n2 : NoF K C g) (N : List Str) (hN : N.length = 3) (vs : List V) (H : Hp) (Q : VK) (E : XK) (h : spX2 C f g vs H Q E) : t_in2 K b m f g { nx := fun _ H' => Q .non H', rt := Q } (start N vs) H := by
  obtain ⟨a, y, z, rfl, hH, k⟩ := h
  have e : start N [.ref a, y, z] = [some (.ref a), some y, some z] := by
    unfold L2.start
    rw [hN]
    rfl
  rw [e]
  exact ⟨_, rfl, a, C, _, rfl, (by show 1 ≤ 1000; decide), T, hH, _, rfl, _, rfl, a, C, rfl, T, n, .inl ⟨hH, fun dx nd ne => ⟨_, rfl, _, rfl, a, C, rfl, T, n2, .inr ⟨dx, _, upd_same, (by rw [upd_ne ne]; exact upd_same), (by show 1 ≤ 900; decide), k dx nd ne⟩⟩⟩⟩
theorem pure_in0 {K : PySem.W.Frag} {b : Bs} {C : Addr} {m : Str} (T : Xc K b C) (N : List Str) (hN : N.length = 1) (vs : List V) (H : Hp) (Q : VK) (E : XK) (h : spX0 C vs H Q E) : (tDrop (tXi K b (tCons (tVar 0) (tCons (tC (.str m)) tNil))) : TS) { nx := fun _ H' => Q .non H', rt := Q } (start N vs) H := by
  obtain ⟨a, rfl, hH, k⟩ := h
  have e : start N [.ref a] = [some (.ref a)] := by
    unfold L2.start
    rw [hN]
    rfl
  rw [e]
  exact ⟨_, rfl, a, C, _, rfl, (by show 1 ≤ 1000; decide), T, hH, k⟩
section
variable {P : Program} {w : World} {K : PySem.W.Frag} {mg : Str → Option Value} {base : Heap}
abbrev FnX (K : PySem.W.Frag) (q : Str) (st : Stmt) (f : Addr) (fd : FuncData) : Prop := FunD K "__init__" q (defArgs st) (defBody st) (defScope st) [] [] f fd
abbrev FnT (K : PySem.W.Frag) (x : Str) (st : Stmt) (f : Addr) (fd : FuncData) : Prop := FunD K x x (defArgs st) (defBody st) (defScope st) [] [] f fd
theorem sc_InvalidPeriod : FnScope ["self", "given"] ["self", "given"] (defScope (inClass (top 2) 0)) := ⟨rfl, rfl, rfl, by decide +kernel, rfl, by decide +kernel, by decide +kernel⟩
theorem ok_InvalidPeriod {f C WV : Addr} {fd : FuncData} (F : FnX K "InvalidPeriod.__init__" (inClass (top 2) 0) f fd) (T : Xc K bV C) (n1 : NoF K C "given") (g1 : mg "WrongValue" = some (.ref WV)) (wk : ClX.CRead K WV (.type "type") ∧ PySem.W.findCls K (.ref WV) (.type "type") "__init__" = some (.val (.builtin bV.ini))) :
    FnOk P w K mg base CX0 1 f fd ["self", "given"] (spX C "given") := by
  refine F.ok sc_InvalidPeriod (fun vs H Q E h => ?_) (fun cdv A outer s H vs Q E hr h => ⟨_, PSs.nox (pss_cons (ps_expr (pe_xi rfl g1 wk.1 wk.2 bV_ok (pa_cons (pv 0) (pa_cons pe_str pa_nil)))) (pss_one (ps_xs (pv 0) (pv 1)))), pure_in T n1 _ rfl vs H Q E h⟩)
  obtain ⟨a, y, rfl, _⟩ := h
  rfl
theorem sc_InvalidNumber : FnScope ["self", "given"] ["self", "given"] (defScope (inClass (top 3) 0)) := ⟨rfl, rfl, rfl, by decide +kernel, rfl, by decide +kernel, by decide +kernel⟩
theorem ok_InvalidNumber {f C WV : Addr} {fd : FuncData} (F : FnX K "InvalidNumber.__init__" (inClass (top 3) 0) f fd) (T : Xc K bV C) (n1 : NoF K C "given") (g1 : mg "WrongValue" = some (.ref WV)) (wk : ClX.CRead K WV (.type "type") ∧ PySem.W.findCls K (.ref WV) (.type "type") "__init__" = some (.val (.builtin bV.ini))) :
    FnOk P w K mg base CX0 1 f fd ["self", "given"] (spX C "given") := by
  refine F.ok sc_InvalidNumber (fun vs H Q E h => ?_) (fun cdv A outer s H vs Q E hr h => ⟨_, PSs.nox (pss_cons (ps_expr (pe_xi rfl g1 wk.1 wk.2 bV_ok (pa_cons (pv 0) (pa_cons pe_str pa_nil)))) (pss_one (ps_xs (pv 0) (pv 1)))), pure_in T n1 _ rfl vs H Q E h⟩)
  obtain ⟨a, y, rfl, _⟩ := h
  rfl
theorem sc_InvalidText : FnScope ["self", "given"] ["self", "given"] (defScope (inClass (top 4) 0)) := ⟨rfl, rfl, rfl, by decide +kernel, rfl, by decide +kernel, by decide +kernel⟩
theorem ok_InvalidText {f C WV : Addr} {fd : FuncData} (F : FnX K "InvalidText.__init__" (inClass (top 4) 0) f fd) (T : Xc K bV C) (n1 : NoF K C "given") (g1 : mg "WrongValue" = some (.ref WV)) (wk : ClX.CRead K WV (.type "type") ∧ PySem.W.findCls K (.ref WV) (.type "type") "__init__" = some (.val (.builtin bV.ini))) :
    FnOk P w K mg base CX0 1 f fd ["self", "given"] (spX C "given") := by
  refine F.ok sc_InvalidText (fun vs H Q E h => ?_) (fun cdv A outer s H vs Q E hr h => ⟨_, PSs.nox (pss_cons (ps_expr (pe_xi rfl g1 wk.1 wk.2 bV_ok (pa_cons (pv 0) (pa_cons pe_str pa_nil)))) (pss_one (ps_xs (pv 0) (pv 1)))), pure_in T n1 _ rfl vs H Q E h⟩)
  obtain ⟨a, y, rfl, _⟩ := h
  rfl
theorem sc_InvalidName : FnScope ["self", "given"] ["self", "given"] (defScope (inClass (top 5) 0)) := ⟨rfl, rfl, rfl, by decide +kernel, rfl, by decide +kernel, by decide +kernel⟩
theorem ok_InvalidName {f C WV : Addr} {fd : FuncData} (F : FnX K "InvalidName.__init__" (inClass (top 5) 0) f fd) (T : Xc K bV C) (n1 : NoF K C "given") (g1 : mg "WrongValue" = some (.ref WV)) (wk : ClX.CRead K WV (.type "type") ∧ PySem.W.findCls K (.ref WV) (.type "type") "__init__" = some (.val (.builtin bV.ini))) :
    FnOk P w K mg base CX0 1 f fd ["self", "given"] (spX C "given") := by
  refine F.ok sc_InvalidName (fun vs H Q E h => ?_) (fun cdv A outer s H vs Q E hr h => ⟨_, PSs.nox (pss_cons (ps_expr (pe_xi rfl g1 wk.1 wk.2 bV_ok (pa_cons (pv 0) (pa_cons pe_str pa_nil)))) (pss_one (ps_xs (pv 0) (pv 1)))), pure_in T n1 _ rfl vs H Q E h⟩)
  obtain ⟨a, y, rfl, _⟩ := h
  rfl
theorem sc_InvalidHands : FnScope ["self", "given"] ["self", "given"] (defScope (inClass (top 6) 0)) := ⟨rfl, rfl, rfl, by decide +kernel, rfl, by decide +kernel, by decide +kernel⟩
theorem ok_InvalidHands {f C WV : Addr} {fd : FuncData} (F : FnX K "InvalidHands.__init__" (inClass (top 6) 0) f fd) (T : Xc K bV C) (n1 : NoF K C "given") (g1 : mg "WrongValue" = some (.ref WV)) (wk : ClX.CRead K WV (.type "type") ∧ PySem.W.findCls K (.ref WV) (.type "type") "__init__" = some (.val (.builtin bV.ini))) :
    FnOk P w K mg base CX0 1 f fd ["self", "given"] (spX C "given") := by
  refine F.ok sc_InvalidHands (fun vs H Q E h => ?_) (fun cdv A outer s H vs Q E hr h => ⟨_, PSs.nox (pss_cons (ps_expr (pe_xi rfl g1 wk.1 wk.2 bV_ok (pa_cons (pv 0) (pa_cons pe_str pa_nil)))) (pss_one (ps_xs (pv 0) (pv 1)))), pure_in T n1 _ rfl vs H Q E h⟩)
  obtain ⟨a, y, rfl, _⟩ := h
  rfl
theorem sc_InvalidStock : FnScope ["self", "given"] ["self", "given"] (defScope (inClass (top 7) 0)) := ⟨rfl, rfl, rfl, by decide +kernel, rfl, by decide +kernel, by decide +kernel⟩
theorem ok_InvalidStock {f C WV : Addr} {fd : FuncData} (F : FnX K "InvalidStock.__init__" (inClass (top 7) 0) f fd) (T : Xc K bV C) (n1 : NoF K C "given") (g1 : mg "WrongValue" = some (.ref WV)) (wk : ClX.CRead K WV (.type "type") ∧ PySem.W.findCls K (.ref WV) (.type "type") "__init__" = some (.val (.builtin bV.ini))) :
    FnOk P w K mg base CX0 1 f fd ["self", "given"] (spX C "given") := by
  refine F.ok sc_InvalidStock (fun vs H Q E h => ?_) (fun cdv A outer s H vs Q E hr h => ⟨_, PSs.nox (pss_cons (ps_expr (pe_xi rfl g1 wk.1 wk.2 bV_ok (pa_cons (pv 0) (pa_cons pe_str pa_nil)))) (pss_one (ps_xs (pv 0) (pv 1)))), pure_in T n1 _ rfl vs H Q E h⟩)
  obtain ⟨a, y, rfl, _⟩ := h
  rfl
theorem sc_InvalidFlag : FnScope ["self", "given"] ["self", "given"] (defScope (inClass (top 8) 0)) := ⟨rfl, rfl, rfl, by decide +kernel, rfl, by decide +kernel, by decide +kernel⟩
theorem ok_InvalidFlag {f C WV : Addr} {fd : FuncData} (F : FnX K "InvalidFlag.__init__" (inClass (top 8) 0) f fd) (T : Xc K bV C) (n1 : NoF K C "given") (g1 : mg "WrongValue" = some (.ref WV)) (wk : ClX.CRead K WV (.type "type") ∧ PySem.W.findCls K (.ref WV) (.type "type") "__init__" = some (.val (.builtin bV.ini))) :
    FnOk P w K mg base CX0 1 f fd ["self", "given"] (spX C "given") := by
  refine F.ok sc_InvalidFlag (fun vs H Q E h => ?_) (fun cdv A outer s H vs Q E hr h => ⟨_, PSs.nox (pss_cons (ps_expr (pe_xi rfl g1 wk.1 wk.2 bV_ok (pa_cons (pv 0) (pa_cons pe_str pa_nil)))) (pss_one (ps_xs (pv 0) (pv 1)))), pure_in T n1 _ rfl vs H Q E h⟩)
  obtain ⟨a, y, rfl, _⟩ := h
  rfl
theorem sc_InvalidOutlet : FnScope ["self", "given"] ["self", "given"] (defScope (inClass (top 9) 0)) := ⟨rfl, rfl, rfl, by decide +kernel, rfl, by decide +kernel, by decide +kernel⟩
theorem ok_InvalidOutlet {f C WV : Addr} {fd : FuncData} (F : FnX K "InvalidOutlet.__init__" (inClass (top 9) 0) f fd) (T : Xc K bV C) (n1 : NoF K C "given") (g1 : mg "WrongValue" = some (.ref WV)) (wk : ClX.CRead K WV (.type "type") ∧ PySem.W.findCls K (.ref WV) (.type "type") "__init__" = some (.val (.builtin bV.ini))) :
    FnOk P w K mg base CX0 1 f fd ["self", "given"] (spX C "given") := by
  refine F.ok sc_InvalidOutlet (fun vs H Q E h => ?_) (fun cdv A outer s H vs Q E hr h => ⟨_, PSs.nox (pss_cons (ps_expr (pe_xi rfl g1 wk.1 wk.2 bV_ok (pa_cons (pv 0) (pa_cons pe_str pa_nil)))) (pss_one (ps_xs (pv 0) (pv 1)))), pure_in T n1 _ rfl vs H Q E h⟩)
  obtain ⟨a, y, rfl, _⟩ := h
  rfl
theorem sc_InvalidIndex : FnScope ["self", "given"] ["self", "given"] (defScope (inClass (top 10) 0)) := ⟨rfl, rfl, rfl, by decide +kernel, rfl, by decide +kernel, by decide +kernel⟩
theorem ok_InvalidIndex {f C WV : Addr} {fd : FuncData} (F : FnX K "InvalidIndex.__init__" (inClass (top 10) 0) f fd) (T : Xc K bV C) (n1 : NoF K C "given") (g1 : mg "WrongValue" = some (.ref WV)) (wk : ClX.CRead K WV (.type "type") ∧ PySem.W.findCls K (.ref WV) (.type "type") "__init__" = some (.val (.builtin bV.ini))) :
    FnOk P w K mg base CX0 1 f fd ["self", "given"] (spX C "given") := by
  refine F.ok sc_InvalidIndex (fun vs H Q E h => ?_) (fun cdv A outer s H vs Q E hr h => ⟨_, PSs.nox (pss_cons (ps_expr (pe_xi rfl g1 wk.1 wk.2 bV_ok (pa_cons (pv 0) (pa_cons pe_str pa_nil)))) (pss_one (ps_xs (pv 0) (pv 1)))), pure_in T n1 _ rfl vs H Q E h⟩)
  obtain ⟨a, y, rfl, _⟩ := h
  rfl
theorem sc_InvalidTimes : FnScope ["self", "given"] ["self", "given"] (defScope (inClass (top 11) 0)) := ⟨rfl, rfl, rfl, by decide +kernel, rfl, by decide +kernel, by decide +kernel⟩
theorem ok_InvalidTimes {f C WV : Addr} {fd : FuncData} (F : FnX K "InvalidTimes.__init__" (inClass (top 11) 0) f fd) (T : Xc K bV C) (n1 : NoF K C "given") (g1 : mg "WrongValue" = some (.ref WV)) (wk : ClX.CRead K WV (.type "type") ∧ PySem.W.findCls K (.ref WV) (.type "type") "__init__" = some (.val (.builtin bV.ini))) :
    FnOk P w K mg base CX0 1 f fd ["self", "given"] (spX C "given") := by
  refine F.ok sc_InvalidTimes (fun vs H Q E h => ?_) (fun cdv A outer s H vs Q E hr h => ⟨_, PSs.nox (pss_cons (ps_expr (pe_xi rfl g1 wk.1 wk.2 bV_ok (pa_cons (pv 0) (pa_cons pe_str pa_nil)))) (pss_one (ps_xs (pv 0) (pv 1)))), pure_in T n1 _ rfl vs H Q E h⟩)
  obtain ⟨a, y, rfl, _⟩ := h
  rfl
theorem sc_InvalidClaim : FnScope ["self", "given"] ["self", "given"] (defScope (inClass (top 12) 0)) := ⟨rfl, rfl, rfl, by decide +kernel, rfl, by decide +kernel, by decide +kernel⟩
theorem ok_InvalidClaim {f C WV : Addr} {fd : FuncData} (F : FnX K "InvalidClaim.__init__" (inClass (top 12) 0) f fd) (T : Xc K bV C) (n1 : NoF K C "given") (g1 : mg "WrongValue" = some (.ref WV)) (wk : ClX.CRead K WV (.type "type") ∧ PySem.W.findCls K (.ref WV) (.type "type") "__init__" = some (.val (.builtin bV.ini))) :
    FnOk P w K mg base CX0 1 f fd ["self", "given"] (spX C "given") := by
  refine F.ok sc_InvalidClaim (fun vs H Q E h => ?_) (fun cdv A outer s H vs Q E hr h => ⟨_, PSs.nox (pss_cons (ps_expr (pe_xi rfl g1 wk.1 wk.2 bV_ok (pa_cons (pv 0) (pa_cons pe_str pa_nil)))) (pss_one (ps_xs (pv 0) (pv 1)))), pure_in T n1 _ rfl vs H Q E h⟩)
  obtain ⟨a, y, rfl, _⟩ := h
  rfl
theorem sc_NotLags : FnScope ["self", "given"] ["self", "given"] (defScope (inClass (top 13) 0)) := ⟨rfl, rfl, rfl, by decide +kernel, rfl, by decide +kernel, by decide +kernel⟩
theorem ok_NotLags {f C WV : Addr} {fd : FuncData} (F : FnX K "NotLags.__init__" (inClass (top 13) 0) f fd) (T : Xc K bV C) (n1 : NoF K C "given") (g1 : mg "WrongValue" = some (.ref WV)) (wk : ClX.CRead K WV (.type "type") ∧ PySem.W.findCls K (.ref WV) (.type "type") "__init__" = some (.val (.builtin bV.ini))) :
    FnOk P w K mg base CX0 1 f fd ["self", "given"] (spX C "given") := by
  refine F.ok sc_NotLags (fun vs H Q E h => ?_) (fun cdv A outer s H vs Q E hr h => ⟨_, PSs.nox (pss_cons (ps_expr (pe_xi rfl g1 wk.1 wk.2 bV_ok (pa_cons (pv 0) (pa_cons pe_str pa_nil)))) (pss_one (ps_xs (pv 0) (pv 1)))), pure_in T n1 _ rfl vs H Q E h⟩)
  obtain ⟨a, y, rfl, _⟩ := h
  rfl
theorem sc_NotALine : FnScope ["self", "given"] ["self", "given"] (defScope (inClass (top 14) 0)) := ⟨rfl, rfl, rfl, by decide +kernel, rfl, by decide +kernel, by decide +kernel⟩
theorem ok_NotALine {f C WV : Addr} {fd : FuncData} (F : FnX K "NotALine.__init__" (inClass (top 14) 0) f fd) (T : Xc K bV C) (n1 : NoF K C "given") (g1 : mg "WrongValue" = some (.ref WV)) (wk : ClX.CRead K WV (.type "type") ∧ PySem.W.findCls K (.ref WV) (.type "type") "__init__" = some (.val (.builtin bV.ini))) :
    FnOk P w K mg base CX0 1 f fd ["self", "given"] (spX C "given") := by
  refine F.ok sc_NotALine (fun vs H Q E h => ?_) (fun cdv A outer s H vs Q E hr h => ⟨_, PSs.nox (pss_cons (ps_expr (pe_xi rfl g1 wk.1 wk.2 bV_ok (pa_cons (pv 0) (pa_cons pe_str pa_nil)))) (pss_one (ps_xs (pv 0) (pv 1)))), pure_in T n1 _ rfl vs H Q E h⟩)
  obtain ⟨a, y, rfl, _⟩ := h
  rfl
theorem sc_NotALink : FnScope ["self", "given"] ["self", "given"] (defScope (inClass (top 15) 0)) := ⟨rfl, rfl, rfl, by decide +kernel, rfl, by decide +kernel, by decide +kernel⟩
theorem ok_NotALink {f C WV : Addr} {fd : FuncData} (F : FnX K "NotALink.__init__" (inClass (top 15) 0) f fd) (T : Xc K bV C) (n1 : NoF K C "given") (g1 : mg "WrongValue" = some (.ref WV)) (wk : ClX.CRead K WV (.type "type") ∧ PySem.W.findCls K (.ref WV) (.type "type") "__init__" = some (.val (.builtin bV.ini))) :
    FnOk P w K mg base CX0 1 f fd ["self", "given"] (spX C "given") := by
  refine F.ok sc_NotALink (fun vs H Q E h => ?_) (fun cdv A outer s H vs Q E hr h => ⟨_, PSs.nox (pss_cons (ps_expr (pe_xi rfl g1 wk.1 wk.2 bV_ok (pa_cons (pv 0) (pa_cons pe_str pa_nil)))) (pss_one (ps_xs (pv 0) (pv 1)))), pure_in T n1 _ rfl vs H Q E h⟩)
  obtain ⟨a, y, rfl, _⟩ := h
  rfl
theorem sc_InvalidNumbers : FnScope ["self", "index"] ["self", "index"] (defScope (inClass (top 16) 0)) := ⟨rfl, rfl, rfl, by decide +kernel, rfl, by decide +kernel, by decide +kernel⟩
theorem ok_InvalidNumbers {f C WV : Addr} {fd : FuncData} (F : FnX K "InvalidNumbers.__init__" (inClass (top 16) 0) f fd) (T : Xc K bV C) (n1 : NoF K C "index") (g1 : mg "WrongValue" = some (.ref WV)) (wk : ClX.CRead K WV (.type "type") ∧ PySem.W.findCls K (.ref WV) (.type "type") "__init__" = some (.val (.builtin bV.ini))) :
    FnOk P w K mg base CX0 1 f fd ["self", "index"] (spX C "index") := by
  refine F.ok sc_InvalidNumbers (fun vs H Q E h => ?_) (fun cdv A outer s H vs Q E hr h => ⟨_, PSs.nox (pss_cons (ps_expr (pe_xi rfl g1 wk.1 wk.2 bV_ok (pa_cons (pv 0) (pa_cons pe_str pa_nil)))) (pss_one (ps_xs (pv 0) (pv 1)))), pure_in T n1 _ rfl vs H Q E h⟩)
  obtain ⟨a, y, rfl, _⟩ := h
  rfl
theorem sc_InvalidStations : FnScope ["self", "index"] ["self", "index"] (defScope (inClass (top 17) 0)) := ⟨rfl, rfl, rfl, by decide +kernel, rfl, by decide +kernel, by decide +kernel⟩
theorem ok_InvalidStations {f C WV : Addr} {fd : FuncData} (F : FnX K "InvalidStations.__init__" (inClass (top 17) 0) f fd) (T : Xc K bV C) (n1 : NoF K C "index") (g1 : mg "WrongValue" = some (.ref WV)) (wk : ClX.CRead K WV (.type "type") ∧ PySem.W.findCls K (.ref WV) (.type "type") "__init__" = some (.val (.builtin bV.ini))) :
    FnOk P w K mg base CX0 1 f fd ["self", "index"] (spX C "index") := by
  refine F.ok sc_InvalidStations (fun vs H Q E h => ?_) (fun cdv A outer s H vs Q E hr h => ⟨_, PSs.nox (pss_cons (ps_expr (pe_xi rfl g1 wk.1 wk.2 bV_ok (pa_cons (pv 0) (pa_cons pe_str pa_nil)))) (pss_one (ps_xs (pv 0) (pv 1)))), pure_in T n1 _ rfl vs H Q E h⟩)
  obtain ⟨a, y, rfl, _⟩ := h
  rfl
theorem sc_InvalidLinks : FnScope ["self", "index"] ["self", "index"] (defScope (inClass (top 18) 0)) := ⟨rfl, rfl, rfl, by decide +kernel, rfl, by decide +kernel, by decide +kernel⟩
theorem ok_InvalidLinks {f C WV : Addr} {fd : FuncData} (F : FnX K "InvalidLinks.__init__" (inClass (top 18) 0) f fd) (T : Xc K bV C) (n1 : NoF K C "index") (g1 : mg "WrongValue" = some (.ref WV)) (wk : ClX.CRead K WV (.type "type") ∧ PySem.W.findCls K (.ref WV) (.type "type") "__init__" = some (.val (.builtin bV.ini))) :
    FnOk P w K mg base CX0 1 f fd ["self", "index"] (spX C "index") := by
  refine F.ok sc_InvalidLinks (fun vs H Q E h => ?_) (fun cdv A outer s H vs Q E hr h => ⟨_, PSs.nox (pss_cons (ps_expr (pe_xi rfl g1 wk.1 wk.2 bV_ok (pa_cons (pv 0) (pa_cons pe_str pa_nil)))) (pss_one (ps_xs (pv 0) (pv 1)))), pure_in T n1 _ rfl vs H Q E h⟩)
  obtain ⟨a, y, rfl, _⟩ := h
  rfl
theorem sc_InvalidTasks : FnScope ["self", "index"] ["self", "index"] (defScope (inClass (top 19) 0)) := ⟨rfl, rfl, rfl, by decide +kernel, rfl, by decide +kernel, by decide +kernel⟩
theorem ok_InvalidTasks {f C WV : Addr} {fd : FuncData} (F : FnX K "InvalidTasks.__init__" (inClass (top 19) 0) f fd) (T : Xc K bV C) (n1 : NoF K C "index") (g1 : mg "WrongValue" = some (.ref WV)) (wk : ClX.CRead K WV (.type "type") ∧ PySem.W.findCls K (.ref WV) (.type "type") "__init__" = some (.val (.builtin bV.ini))) :
    FnOk P w K mg base CX0 1 f fd ["self", "index"] (spX C "index") := by
  refine F.ok sc_InvalidTasks (fun vs H Q E h => ?_) (fun cdv A outer s H vs Q E hr h => ⟨_, PSs.nox (pss_cons (ps_expr (pe_xi rfl g1 wk.1 wk.2 bV_ok (pa_cons (pv 0) (pa_cons pe_str pa_nil)))) (pss_one (ps_xs (pv 0) (pv 1)))), pure_in T n1 _ rfl vs H Q E h⟩)
  obtain ⟨a, y, rfl, _⟩ := h
  rfl
theorem sc_InvalidNames : FnScope ["self", "index"] ["self", "index"] (defScope (inClass (top 20) 0)) := ⟨rfl, rfl, rfl, by decide +kernel, rfl, by decide +kernel, by decide +kernel⟩
theorem ok_InvalidNames {f C WV : Addr} {fd : FuncData} (F : FnX K "InvalidNames.__init__" (inClass (top 20) 0) f fd) (T : Xc K bV C) (n1 : NoF K C "index") (g1 : mg "WrongValue" = some (.ref WV)) (wk : ClX.CRead K WV (.type "type") ∧ PySem.W.findCls K (.ref WV) (.type "type") "__init__" = some (.val (.builtin bV.ini))) :
    FnOk P w K mg base CX0 1 f fd ["self", "index"] (spX C "index") := by
  refine F.ok sc_InvalidNames (fun vs H Q E h => ?_) (fun cdv A outer s H vs Q E hr h => ⟨_, PSs.nox (pss_cons (ps_expr (pe_xi rfl g1 wk.1 wk.2 bV_ok (pa_cons (pv 0) (pa_cons pe_str pa_nil)))) (pss_one (ps_xs (pv 0) (pv 1)))), pure_in T n1 _ rfl vs H Q E h⟩)
  obtain ⟨a, y, rfl, _⟩ := h
  rfl
theorem sc_UnknownName : FnScope ["self", "given"] ["self", "given"] (defScope (inClass (top 22) 0)) := ⟨rfl, rfl, rfl, by decide +kernel, rfl, by decide +kernel, by decide +kernel⟩
theorem ok_UnknownName {f C WV : Addr} {fd : FuncData} (F : FnX K "UnknownName.__init__" (inClass (top 22) 0) f fd) (T : Xc K bL C) (n1 : NoF K C "given") (g1 : mg "WrongName" = some (.ref WV)) (wk : ClX.CRead K WV (.type "type") ∧ PySem.W.findCls K (.ref WV) (.type "type") "__init__" = some (.val (.builtin bL.ini))) :
    FnOk P w K mg base CX0 1 f fd ["self", "given"] (spX C "given") := by
  refine F.ok sc_UnknownName (fun vs H Q E h => ?_) (fun cdv A outer s H vs Q E hr h => ⟨_, PSs.nox (pss_cons (ps_expr (pe_xi rfl g1 wk.1 wk.2 bL_ok (pa_cons (pv 0) (pa_cons pe_str pa_nil)))) (pss_one (ps_xs (pv 0) (pv 1)))), pure_in T n1 _ rfl vs H Q E h⟩)
  obtain ⟨a, y, rfl, _⟩ := h
  rfl
theorem sc_Taken : FnScope ["self", "given"] ["self", "given"] (defScope (inClass (top 23) 0)) := ⟨rfl, rfl, rfl, by decide +kernel, rfl, by decide +kernel, by decide +kernel⟩
theorem ok_Taken {f C WV : Addr} {fd : FuncData} (F : FnX K "Taken.__init__" (inClass (top 23) 0) f fd) (T : Xc K bL C) (n1 : NoF K C "given") (g1 : mg "WrongName" = some (.ref WV)) (wk : ClX.CRead K WV (.type "type") ∧ PySem.W.findCls K (.ref WV) (.type "type") "__init__" = some (.val (.builtin bL.ini))) :
    FnOk P w K mg base CX0 1 f fd ["self", "given"] (spX C "given") := by
  refine F.ok sc_Taken (fun vs H Q E h => ?_) (fun cdv A outer s H vs Q E hr h => ⟨_, PSs.nox (pss_cons (ps_expr (pe_xi rfl g1 wk.1 wk.2 bL_ok (pa_cons (pv 0) (pa_cons pe_str pa_nil)))) (pss_one (ps_xs (pv 0) (pv 1)))), pure_in T n1 _ rfl vs H Q E h⟩)
  obtain ⟨a, y, rfl, _⟩ := h
  rfl
theorem sc_InUse : FnScope ["self", "index"] ["self", "index"] (defScope (inClass (top 24) 0)) := ⟨rfl, rfl, rfl, by decide +kernel, rfl, by decide +kernel, by decide +kernel⟩
theorem ok_InUse {f C WV : Addr} {fd : FuncData} (F : FnX K "InUse.__init__" (inClass (top 24) 0) f fd) (T : Xc K bL C) (n1 : NoF K C "index") (g1 : mg "WrongName" = some (.ref WV)) (wk : ClX.CRead K WV (.type "type") ∧ PySem.W.findCls K (.ref WV) (.type "type") "__init__" = some (.val (.builtin bL.ini))) :
    FnOk P w K mg base CX0 1 f fd ["self", "index"] (spX C "index") := by
  refine F.ok sc_InUse (fun vs H Q E h => ?_) (fun cdv A outer s H vs Q E hr h => ⟨_, PSs.nox (pss_cons (ps_expr (pe_xi rfl g1 wk.1 wk.2 bL_ok (pa_cons (pv 0) (pa_cons pe_str pa_nil)))) (pss_one (ps_xs (pv 0) (pv 1)))), pure_in T n1 _ rfl vs H Q E h⟩)
  obtain ⟨a, y, rfl, _⟩ := h
  rfl
theorem sc_TooMany : FnScope ["self", "limit"] ["self", "limit"] (defScope (inClass (top 26) 0)) := ⟨rfl, rfl, rfl, by decide +kernel, rfl, by decide +kernel, by decide +kernel⟩
theorem ok_TooMany {f C WV : Addr} {fd : FuncData} (F : FnX K "TooMany.__init__" (inClass (top 26) 0) f fd) (T : Xc K bA C) (n1 : NoF K C "limit") (g1 : mg "NoAnswer" = some (.ref WV)) (wk : ClX.CRead K WV (.type "type") ∧ PySem.W.findCls K (.ref WV) (.type "type") "__init__" = some (.val (.builtin bA.ini))) :
    FnOk P w K mg base CX0 1 f fd ["self", "limit"] (spX C "limit") := by
  refine F.ok sc_TooMany (fun vs H Q E h => ?_) (fun cdv A outer s H vs Q E hr h => ⟨_, PSs.nox (pss_cons (ps_expr (pe_xi rfl g1 wk.1 wk.2 bA_ok (pa_cons (pv 0) (pa_cons pe_str pa_nil)))) (pss_one (ps_xs (pv 0) (pv 1)))), pure_in T n1 _ rfl vs H Q E h⟩)
  obtain ⟨a, y, rfl, _⟩ := h
  rfl
theorem sc_Stuck : FnScope ["self", "ring"] ["self", "ring"] (defScope (inClass (top 27) 0)) := ⟨rfl, rfl, rfl, by decide +kernel, rfl, by decide +kernel, by decide +kernel⟩
theorem ok_Stuck {f C WV : Addr} {fd : FuncData} (F : FnX K "Stuck.__init__" (inClass (top 27) 0) f fd) (T : Xc K bA C) (n1 : NoF K C "ring") (g1 : mg "NoAnswer" = some (.ref WV)) (wk : ClX.CRead K WV (.type "type") ∧ PySem.W.findCls K (.ref WV) (.type "type") "__init__" = some (.val (.builtin bA.ini))) :
    FnOk P w K mg base CX0 1 f fd ["self", "ring"] (spX C "ring") := by
  refine F.ok sc_Stuck (fun vs H Q E h => ?_) (fun cdv A outer s H vs Q E hr h => ⟨_, PSs.nox (pss_cons (ps_expr (pe_xi rfl g1 wk.1 wk.2 bA_ok (pa_cons (pv 0) (pa_cons pe_str pa_nil)))) (pss_one (ps_xs (pv 0) (pv 1)))), pure_in T n1 _ rfl vs H Q E h⟩)
  obtain ⟨a, y, rfl, _⟩ := h
  rfl
theorem sc_EarlyLink : FnScope ["self", "index"] ["self", "index"] (defScope (inClass (top 28) 0)) := ⟨rfl, rfl, rfl, by decide +kernel, rfl, by decide +kernel, by decide +kernel⟩
theorem ok_EarlyLink {f C WV : Addr} {fd : FuncData} (F : FnX K "EarlyLink.__init__" (inClass (top 28) 0) f fd) (T : Xc K bA C) (n1 : NoF K C "index") (g1 : mg "NoAnswer" = some (.ref WV)) (wk : ClX.CRead K WV (.type "type") ∧ PySem.W.findCls K (.ref WV) (.type "type") "__init__" = some (.val (.builtin bA.ini))) :
    FnOk P w K mg base CX0 1 f fd ["self", "index"] (spX C "index") := by
  refine F.ok sc_EarlyLink (fun vs H Q E h => ?_) (fun cdv A outer s H vs Q E hr h => ⟨_, PSs.nox (pss_cons (ps_expr (pe_xi rfl g1 wk.1 wk.2 bA_ok (pa_cons (pv 0) (pa_cons pe_str pa_nil)))) (pss_one (ps_xs (pv 0) (pv 1)))), pure_in T n1 _ rfl vs H Q E h⟩)
  obtain ⟨a, y, rfl, _⟩ := h
  rfl
theorem sc_NothingToUndo : FnScope ["self"] ["self"] (defScope (inClass (top 29) 0)) := ⟨rfl, rfl, rfl, by decide +kernel, rfl, by decide +kernel, by decide +kernel⟩
theorem ok_NothingToUndo {f C WV : Addr} {fd : FuncData} (F : FnX K "NothingToUndo.__init__" (inClass (top 29) 0) f fd) (T : Xc K bA C) (g1 : mg "NoAnswer" = some (.ref WV)) (wk : ClX.CRead K WV (.type "type") ∧ PySem.W.findCls K (.ref WV) (.type "type") "__init__" = some (.val (.builtin bA.ini))) :
    FnOk P w K mg base CX0 1 f fd ["self"] (spX0 C) := by
  refine F.ok sc_NothingToUndo (fun vs H Q E h => ?_) (fun cdv A outer s H vs Q E hr h => ⟨_, PSs.nox (pss_one (ps_expr (pe_xi rfl g1 wk.1 wk.2 bA_ok (pa_cons (pv 0) (pa_cons pe_str pa_nil))))), pure_in0 T _ rfl vs H Q E h⟩)
  obtain ⟨a, rfl, _⟩ := h
  rfl
theorem sc_NotAsked : FnScope ["self", "index"] ["self", "index"] (defScope (inClass (top 30) 0)) := ⟨rfl, rfl, rfl, by decide +kernel, rfl, by decide +kernel, by decide +kernel⟩
theorem ok_NotAsked {f C WV : Addr} {fd : FuncData} (F : FnX K "NotAsked.__init__" (inClass (top 30) 0) f fd) (T : Xc K bA C) (n1 : NoF K C "index") (g1 : mg "NoAnswer" = some (.ref WV)) (wk : ClX.CRead K WV (.type "type") ∧ PySem.W.findCls K (.ref WV) (.type "type") "__init__" = some (.val (.builtin bA.ini))) :
    FnOk P w K mg base CX0 1 f fd ["self", "index"] (spX C "index") := by
  refine F.ok sc_NotAsked (fun vs H Q E h => ?_) (fun cdv A outer s H vs Q E hr h => ⟨_, PSs.nox (pss_cons (ps_expr (pe_xi rfl g1 wk.1 wk.2 bA_ok (pa_cons (pv 0) (pa_cons pe_str pa_nil)))) (pss_one (ps_xs (pv 0) (pv 1)))), pure_in T n1 _ rfl vs H Q E h⟩)
  obtain ⟨a, y, rfl, _⟩ := h
  rfl
theorem sc_Broken : FnScope ["self", "index", "shown"] ["self", "index", "shown"] (defScope (inClass (top 31) 0)) := ⟨rfl, rfl, rfl, by decide +kernel, rfl, by decide +kernel, by decide +kernel⟩
theorem ok_Broken {f C WV : Addr} {fd : FuncData} (F : FnX K "Broken.__init__" (inClass (top 31) 0) f fd) (T : Xc K bA C) (n1 : NoF K C "index") (n2 : NoF K C "shown") (g1 : mg "NoAnswer" = some (.ref WV)) (wk : ClX.CRead K WV (.type "type") ∧ PySem.W.findCls K (.ref WV) (.type "type") "__init__" = some (.val (.builtin bA.ini))) :
    FnOk P w K mg base CX0 1 f fd ["self", "index", "shown"] (spX2 C "index" "shown") := by
  refine F.ok sc_Broken (fun vs H Q E h => ?_) (fun cdv A outer s H vs Q E hr h => ⟨_, PSs.nox (pss_cons (ps_expr (pe_xi rfl g1 wk.1 wk.2 bA_ok (pa_cons (pv 0) (pa_cons pe_str pa_nil)))) (pss_cons (ps_xs (pv 0) (pv 1)) (pss_one (ps_xs (pv 0) (pv 2))))), pure_in2 T n1 n2 _ rfl vs H Q E h⟩)
  obtain ⟨a, y, z, rfl, _⟩ := h
  rfl
end
end K01
end

section
set_option Elab.async false
set_option linter.all false
set_option maxRecDepth 100000
set_option maxHeartbeats 4000000
namespace K01
open PySem PySem.Spec PyProof.Rows L2 My Evl

/-! ### isinstance in rows -/
def bI (i j : Nat) : V := .bl (decide (i = j))
def tIs (K : PySem.W.Frag) : List Nat → TA
  | [] => tNil
  | j :: r => tCons (tCB (rXis K) (tCons (tVar 0) (tCons (tC (.ref (cA K j))) tNil))) (tIs K r)
theorem is_read {K : PySem.W.Frag} (hx : ex K = true) {a : Addr} {i : Nat} (hi : i < 28) {σ : L2.St} {H : Hp} (h0 : σ[0]? = some (some (.ref a))) (xa : XAt H a (cA K i)) :
    ∀ (js : List Nat) (Q : List V → Hp → Prop), (∀ j ∈ js, j < 28) → Q (js.map (bI i)) H → tIs K js σ H Q
  | [], _, _, q => q
  | j :: r, Q, hj, q => ⟨_, h0, a, cA K i, bOf i, _, _, _, rfl, .own _, xcK hx i hi, xa, kitK hx i j hi (hj j List.mem_cons_self), is_read hx hi h0 xa r _ (fun k hk => hj k (List.mem_cons_of_mem _ hk)) q⟩
theorem xmo {H H' : Hp} {a C : Addr} (e : Ex H H') : XAt H a C → XAt H' a C
  | .inl h => .inl (e _ _ h)
  | .inr ⟨dx, fs, h1, h2⟩ => .inr ⟨dx, fs, e _ _ h1, e _ _ h2⟩
def spMarks (K : PySem.W.Frag) : Sp := fun vs H Q _ => ∃ (a : Addr) (i : Nat), vs = [.ref a] ∧ i < 28 ∧ XAt H a (cA K i) ∧ ∀ p H', H p = none → Ex H H' → H' p = some (.lst ((List.range 28).map (bI i))) → Q (.ref p) H'
def mkS (K : PySem.W.Frag) (js : List Nat) (r : TS) : TS := tSeq (tAsg (tOp rCat (tVar 1) (tLst (tIs K js))) (gName 1)) r
def t_marks (K : PySem.W.Frag) : TS :=
  tSeq (tAsg (tLst (tIs K [0, 1, 2])) (gName 1)) (mkS K [3, 4] (mkS K [5, 6] (mkS K [7, 8] (mkS K [9, 10, 11] (mkS K [12, 13, 14] (mkS K [15, 16] (mkS K [17, 18] (mkS K [19, 20, 21] (mkS K [22, 23, 24]
  (tRet (tOp rCat (tVar 1) (tLst (tIs K [25, 26, 27])))))))))))))
theorem mk_step {K : PySem.W.Frag} (hx : ex K = true) {a l : Addr} {i : Nat} (hi : i < 28) {xs js : List Nat} {H : Hp} {D : Ends} {r : TS} (xa : XAt H a (cA K i)) (hl : H l = some (.lst (xs.map (bI i)))) (hj : ∀ j ∈ js, j < 28) (hz : xs.length + js.length ≤ 1000)
    (k : ∀ l' H', H l' = none → Ex H H' → H' l' = some (.lst ((xs ++ js).map (bI i))) → r D [some (.ref a), some (.ref l')] H') : mkS K js r D [some (.ref a), some (.ref l)] H := by
  refine ⟨_, rfl, ?_⟩
  show tIs K js [some (.ref a), some (.ref l)] H _
  refine is_read hx hi rfl xa js _ hj ?_
  refine ⟨?_, fun p hp => ⟨l, p, xs.map (bI i), js.map (bI i), rfl, rfl, ?_, upd_same, ?_, fun q hq => ?_⟩⟩
  · rw [List.length_map]
    exact sz_of (by omega)
  · rw [upd_ne (ne_of_none hl hp)]
    exact hl
  · rw [List.length_map, List.length_map]
    exact sz_of (by omega)
  · have e1 : Ex H (upd H p (.lst (js.map (bI i)))) := Ex.new hp
    refine k q _ (fresh_back e1 hq) (e1.trans (Ex.new hq)) ?_
    rw [upd_same, List.map_append]
theorem mk_start {K : PySem.W.Frag} (hx : ex K = true) {a : Addr} {i : Nat} (hi : i < 28) {js : List Nat} {H : Hp} {D : Ends} {r : TS} (xa : XAt H a (cA K i)) (hj : ∀ j ∈ js, j < 28) (hz : js.length ≤ 1000)
    (k : ∀ l' H', H l' = none → Ex H H' → H' l' = some (.lst (js.map (bI i))) → r D [some (.ref a), some (.ref l')] H') : tSeq (tAsg (tLst (tIs K js)) (gName 1)) r D [some (.ref a), none] H := by
  show tIs K js [some (.ref a), none] H _
  refine is_read hx hi rfl xa js _ hj ?_
  refine ⟨?_, fun p hp => ?_⟩
  · rw [List.length_map]
    exact sz_of (by omega)
  · exact k p _ hp (Ex.new hp) upd_same
theorem pure_marks {K : PySem.W.Frag} (hx : ex K = true) (vs : List V) (H : Hp) (Q : VK) (E : XK) (h : spMarks K vs H Q E) : t_marks K { nx := fun _ H' => Q .non H', rt := Q } (L2.start ["_law_e", "_law_marks_here"] vs) H := by
  obtain ⟨a, i, rfl, hi, xa, k⟩ := h
  refine mk_start hx hi xa (by decide) (by decide) fun l0 H0 n0 e0 h0 => ?_
  have st : ∀ {js : List Nat} {r : TS} {xs : List Nat} {l : Addr} {H' : Hp} {D : Ends}, Ex H H' → H' l = some (.lst (xs.map (bI i))) → (∀ j ∈ js, j < 28) → xs.length + js.length ≤ 1000 → (∀ l' H'', Ex H H'' → (H l' = none) → H'' l' = some (.lst ((xs ++ js).map (bI i))) → r D [some (.ref a), some (.ref l')] H'') → mkS K js r D [some (.ref a), some (.ref l)] H' :=
    fun e hl hj hz kk => mk_step hx hi (xmo e xa) hl hj hz fun l' H'' n e2 h2 => kk l' H'' (e.trans e2) (fresh_back e n) h2
  refine st e0 h0 (by decide) (by decide) fun l H1 e1 _ h1 => ?_
  refine st e1 h1 (by decide) (by decide) fun l H1 e1 _ h1 => ?_
  refine st e1 h1 (by decide) (by decide) fun l H1 e1 _ h1 => ?_
  refine st e1 h1 (by decide) (by decide) fun l H1 e1 _ h1 => ?_
  refine st e1 h1 (by decide) (by decide) fun l H1 e1 _ h1 => ?_
  refine st e1 h1 (by decide) (by decide) fun l H1 e1 _ h1 => ?_
  refine st e1 h1 (by decide) (by decide) fun l H1 e1 _ h1 => ?_
  refine st e1 h1 (by decide) (by decide) fun l H1 e1 _ h1 => ?_
  refine st e1 h1 (by decide) (by decide) fun l H1 e1 _ h1 => ?_
  refine ⟨_, rfl, ?_⟩
  show tIs K [25, 26, 27] [some (.ref a), some (.ref l)] H1 _
  refine is_read hx hi rfl (xmo e1 xa) [25, 26, 27] _ (by decide) ?_
  refine ⟨(by show 3 ≤ sizeLine; decide), fun p hp => ⟨l, p, ([0, 1, 2] ++ [3, 4] ++ [5, 6] ++ [7, 8] ++ [9, 10, 11] ++ [12, 13, 14] ++ [15, 16] ++ [17, 18] ++ [19, 20, 21] ++ [22, 23, 24] : List Nat).map (bI i), ([25, 26, 27] : List Nat).map (bI i), rfl, rfl, ?_, upd_same, (by show 28 ≤ sizeLine; decide), fun q hq => ?_⟩⟩
  · rw [upd_ne (ne_of_none h1 hp)]
    exact h1
  · have e2 : Ex H1 (upd H1 p (.lst ([25, 26, 27].map (bI i)))) := Ex.new hp
    refine k q _ (fresh_back e1 (fresh_back e2 hq)) (e1.trans (e2.trans (Ex.new hq))) ?_
    rw [upd_same]
    rfl
/-! ### whether an error fits -/
def spFits (K : PySem.W.Frag) : Sp := fun vs H Q _ => ∃ (a : Addr) (i : Nat), vs = [.ref a, .int i] ∧ i < 28 ∧ XAt H a (cA K i) ∧ ∀ H', Ex H H' → Q (.bl true) H'
abbrev tXI (K : PySem.W.Frag) (c : V) : TE := tCB (rXis K) (tCons (tVar 0) (tCons (tC c) tNil))
abbrev rLe' : R2 := rI0 fun i j => .bl (decide (i ≤ j))
def t_fits (K : PySem.W.Frag) : TS :=
  tSeq (tIfS (tTest (tOp (rNeD K) (tCall (spMarks K) [] E0 (tCons (tVar 0) tNil)) (tLc (iRng1 (tCons (tC (.int 28)) tNil)) (gName 4) tYes (tOp rEq (tVar 4) (tVar 1)) [4]))) (tRet (tC (.bl false))) tNext)
  (tSeq (tAsg (tLst (tCons (tXI K (.ref (He.ga K "WrongValue"))) (tCons (tXI K (.ref (He.ga K "WrongName"))) (tCons (tXI K (.ref (He.ga K "NoAnswer"))) tNil)))) (gName 2))
  (tSeq (tAsg (tLst (tCons (tXI K (.ty "ValueError")) (tCons (tXI K (.ty "LookupError")) (tCons (tXI K (.ty "ArithmeticError")) tNil)))) (gName 3))
  (tRet (tAndV (tOp (rEqD K) (tVar 2) (tLst (tCons (tOp rLt (tVar 1) (tC (.int 19))) (tCons (tChain rLe' rLt (tC (.int 19)) (tVar 1) (tC (.int 22))) (tCons (tOp rGe' (tVar 1) (tC (.int 22))) tNil))))) (tOp (rEqD K) (tVar 3) (tVar 2))))))
def bL3 (i : Nat) : List V := [.bl (decide (i < 19)), .bl (decide (19 ≤ i ∧ i < 22)), .bl (decide (22 ≤ i))]
def dL3 (i : Nat) : PyData := .list [.bool (decide (i < 19)), .bool (decide (19 ≤ i ∧ i < 22)), .bool (decide (22 ≤ i))]
theorem dp_bools {K : PySem.W.Frag} {H : Hp} : ∀ (bs : List Bool), DpAll K H (bs.map V.bl) (bs.map PyData.bool)
  | [] => .nil
  | b :: r => .cons (.bl b) (dp_bools r)
theorem can_bools : ∀ (bs : List Bool), PyData.canLayAll0 (bs.map PyData.bool) = true
  | [] => rfl
  | b :: r => by
    rw [List.map_cons, PyData.canLayAll0, can_bools r]
    rfl
theorem dep_bools : ∀ (bs : List Bool), PyData.depthAll (bs.map PyData.bool) = 0
  | [] => rfl
  | b :: r => by
    rw [List.map_cons, PyData.depthAll, dep_bools r]
    rfl
theorem shp_bools (bs : List Bool) : SeqAt.shaped (.list (bs.map PyData.bool)) = true := by
  unfold SeqAt.shaped
  rw [PyData.depth, dep_bools, PyData.canLay0, can_bools]
  rfl
theorem eqv_bools (bs : List Bool) : PyData.eqv (.list (bs.map PyData.bool)) (.list (bs.map PyData.bool)) = true := SeqAt.eqv_refl _ (by rw [PyData.canLay0, can_bools])
theorem eqD_bools {K : PySem.W.Frag} {H : Hp} {p q : Addr} {xs ys : List V} (bs : List Bool) (hp : H p = some (.lst xs)) (hq : H q = some (.lst ys)) (ex : xs = bs.map V.bl) (ey : ys = bs.map V.bl) {Q : VK} (k : Q (.bl true) H) : rEqD K (.ref p) (.ref q) H Q := by
  subst ex ey
  refine ⟨_, _, .lst (sq_of hp) (dp_bools bs), .lst (sq_of hq) (dp_bools bs), shp_bools bs, shp_bools bs, ?_⟩
  rw [eqv_bools]
  exact k
theorem neD_bools {K : PySem.W.Frag} {H : Hp} {p q : Addr} {xs ys : List V} (bs : List Bool) (hp : H p = some (.lst xs)) (hq : H q = some (.lst ys)) (ex : xs = bs.map V.bl) (ey : ys = bs.map V.bl) {Q : VK} (k : Q (.bl false) H) : rNeD K (.ref p) (.ref q) H Q := by
  subst ex ey
  refine ⟨_, _, .lst (sq_of hp) (dp_bools bs), .lst (sq_of hq) (dp_bools bs), shp_bools bs, shp_bools bs, ?_⟩
  rw [eqv_bools]
  exact k
theorem given_all (n : Nat) (v : Nat → V) : given n (fun _ => true) v = (List.range n).map v := by
  unfold given
  rw [List.filter_eq_self.mpr (fun _ _ => rfl)]
theorem pure_fits {K : PySem.W.Frag} (hx : ex K = true) (vs : List V) (H : Hp) (Q : VK) (E : XK) (h : spFits K vs H Q E) : t_fits K { nx := fun _ H' => Q .non H', rt := Q } (L2.start ["_law_e", "_law_at", "_law_bases", "_law_own", "_law_k"] vs) H := by
  obtain ⟨a, i, rfl, hi, xa, k⟩ := h
  refine ⟨_, rfl, a, i, rfl, hi, xa, fun p H1 hp e1 h1 => ?_⟩
  have lc := el_lcR1 (H := H1) (σ := [some (.ref a), some (.int i), none, none, none]) (ta := tCons (tC (.int 28)) tNil) (j := 4) (vs := [4]) (n := 28) (t := tYes) (te := tOp rEq (tVar 4) (tVar 1)) (fun _ => true) (fun j => .bl (decide (V.int j = V.int i)))
    (ea_cons ev_c ea_nil) (by decide) (fun _ => rfl) (fun j H2 _ _ => fun H3 e Q q => q H3 (Ex.refl H3)) (fun j H2 _ _ _ => ev_op (ev_var rfl) (ev_var rfl) (rv_eq rfl))
  refine lc H1 (Ex.refl H1) _ fun q H2 hq e2 h2 => ?_
  rw [given_all] at h2
  refine neD_bools ((List.range 28).map fun j => decide (i = j)) (e2 p _ h1) h2 (by rw [List.map_map]; rfl) ?_ ⟨_, rfl, ?_⟩
  · rw [List.map_map]
    refine List.map_congr_left fun j _ => ?_
    show V.bl (decide (V.int j = V.int i)) = V.bl (decide (i = j))
    congr 1
    exact decide_eq_decide.mpr ⟨fun z => by injection z with z; omega, fun z => by rw [z]⟩
  refine iteF ?_
  obtain ⟨k1, k2, k3, k4, k5, k6⟩ := kitB hx i hi
  have T := xcK hx i hi
  have x2 := xmo e2 (xmo e1 xa)
  refine ⟨_, rfl, a, cA K i, bOf i, _, _, _, rfl, .own _, T, x2, k1, _, rfl, a, cA K i, bOf i, _, _, _, rfl, .own _, T, x2, k2, _, rfl, a, cA K i, bOf i, _, _, _, rfl, .own _, T, x2, k3, (by show 3 ≤ sizeLine; decide), fun r hr => ?_⟩
  have e3 : Ex H2 (upd H2 r (.lst (bL3 i))) := Ex.new hr
  have x3 := xmo e3 x2
  refine ⟨_, rfl, a, cA K i, bOf i, _, _, _, rfl, .ty _, T, x3, k4, _, rfl, a, cA K i, bOf i, _, _, _, rfl, .ty _, T, x3, k5, _, rfl, a, cA K i, bOf i, _, _, _, rfl, .ty _, T, x3, k6, (by show 3 ≤ sizeLine; decide), fun s hs => ?_⟩
  have e4 : Ex (upd H2 r (.lst (bL3 i))) (upd (upd H2 r (.lst (bL3 i))) s (.lst (bL3 i))) := Ex.new hs
  have hl : ∀ (H5 : Hp) (u : Addr), (upd (upd H2 r (.lst (bL3 i))) s (.lst (bL3 i))) u = none → Ex (upd H2 r (.lst (bL3 i))) (upd (upd (upd H2 r (.lst (bL3 i))) s (.lst (bL3 i))) u (.lst (bL3 i))) := fun _ u hu => e4.trans (Ex.new hu)
  have fin : ∀ u, (upd (upd H2 r (.lst (bL3 i))) s (.lst (bL3 i))) u = none → ∀ (Q' : VK), (∀ H', Ex H H' → Q' (.bl true) H') → (tAndV (fun σ H Q => rEqD K (.ref r) (.ref u) H Q) (tOp (rEqD K) (tVar 3) (tVar 2)) : TE) [some (.ref a), some (.int i), some (.ref r), some (.ref s), none] (upd (upd (upd H2 r (.lst (bL3 i))) s (.lst (bL3 i))) u (.lst (bL3 i))) Q' := by
    intro u hu Q' q
    have eu : Ex (upd (upd H2 r (.lst (bL3 i))) s (.lst (bL3 i))) (upd (upd (upd H2 r (.lst (bL3 i))) s (.lst (bL3 i))) u (.lst (bL3 i))) := Ex.new hu
    have g1 := eu r _ (e4 r _ upd_same)
    have g2 := eu s _ upd_same
    show rEqD K (.ref r) (.ref u) _ (fun x H1 => ∃ c, x = V.bl c ∧ if c = true then tOp (rEqD K) (tVar 3) (tVar 2) _ H1 Q' else Q' (.bl false) H1)
    refine eqD_bools (K := K) [decide (i < 19), decide (19 ≤ i ∧ i < 22), decide (22 ≤ i)] g1 upd_same rfl rfl ?_
    refine ⟨true, rfl, iteT ⟨_, rfl, _, rfl, ?_⟩⟩
    exact eqD_bools [decide (i < 19), decide (19 ≤ i ∧ i < 22), decide (22 ≤ i)] g2 g1 rfl rfl (q _ (((e1.trans e2).trans e3).trans (e4.trans eu)))
  refine ⟨_, rfl, _, rfl, _, _, rfl, rfl, ?_⟩
  have d1 : decide ((i : Int) < 19) = decide (i < 19) := by
    by_cases c : i < 19
    · rw [decide_eq_true c, decide_eq_true (by omega)]
    · rw [decide_eq_false c, decide_eq_false (by omega)]
  have d3 : decide ((22 : Int) ≤ i) = decide (22 ≤ i) := by
    by_cases c : 22 ≤ i
    · rw [decide_eq_true c, decide_eq_true (by omega)]
    · rw [decide_eq_false c, decide_eq_false (by omega)]
  have goal : ∀ (b2 : Bool), b2 = decide (19 ≤ i ∧ i < 22) → (∃ i_1 j, V.int ↑i = V.int i_1 ∧ V.int 22 = V.int j ∧ ([V.bl (decide ((i : Int) < 19)), V.bl b2, V.bl (decide (j ≤ i_1))] : List V).length ≤ sizeLine ∧ ∀ p, (upd (upd H2 r (.lst (bL3 i))) s (.lst (bL3 i))) p = none → (tAndV (fun σ H Q => rEqD K (.ref r) (.ref p) H Q) (tOp (rEqD K) (tVar 3) (tVar 2)) : TE) [some (.ref a), some (.int i), some (.ref r), some (.ref s), none] (upd (upd (upd H2 r (.lst (bL3 i))) s (.lst (bL3 i))) p (.lst [V.bl (decide ((i : Int) < 19)), V.bl b2, V.bl (decide (j ≤ i_1))])) Q) := by
    intro b2 hb
    refine ⟨_, _, rfl, rfl, (by show 3 ≤ sizeLine; decide), fun u hu => ?_⟩
    rw [d1, d3, hb]
    exact fin u hu Q k
  by_cases c : 19 ≤ i
  · refine ⟨_, rfl, _, _, rfl, rfl, decide ((19 : Int) ≤ i), rfl, ?_⟩
    rw [decide_eq_true (by omega : (19 : Int) ≤ i)]
    refine iteT ?_
    refine ⟨_, _, rfl, rfl, ?_⟩
    exact ⟨_, rfl, goal (decide ((i : Int) < 22)) (decide_eq_decide.mpr (by omega))⟩
  · refine ⟨_, rfl, _, _, rfl, rfl, decide ((19 : Int) ≤ i), rfl, ?_⟩
    rw [decide_eq_false (by omega : ¬(19 : Int) ≤ i)]
    refine iteF ?_
    exact ⟨_, rfl, goal false (decide_eq_false (by omega)).symm⟩
end K01
end

section
set_option Elab.async false
set_option linter.all false
set_option maxRecDepth 100000
set_option maxHeartbeats 4000000
namespace K01
open PySem PySem.Spec PyProof.Rows L2 My Evl
/-! ### the classes' keywords -/
abbrev app2 : List V → List V → List V := fun vs zs => vs ++ zs
abbrev appR : List V → List V → List V := fun vs zs => vs ++ zs.reverse
section
variable {K : PySem.W.Frag} {f : Addr} {fd : FuncData}
theorem vals_rev : ∀ {vs : List V} {us : List Value}, Vals vs us → Vals vs.reverse us.reverse
  | _, _, .nil => .nil
  | _, _, .cons r t => by
    rw [List.reverse_cons, List.reverse_cons]
    exact (vals_rev t).append (.cons r .nil)
theorem vals_app {vs zs : List V} {us ws : List Value} (r : Vals vs us) (z : Vals zs ws) : Vals (vs ++ zs) (us ++ ws) := by
  induction r with
  | nil => exact z
  | cons a _ ih => exact .cons a ih
theorem bn_InvalidPeriod (F : FnX K "InvalidPeriod.__init__" (inClass (top 2) 0) f fd) : Binds K fd ["self", "given"] [] := F.bindsN fun _ _ _ _ _ _ us hl => match us, hl with | [_, _], _ => rfl
theorem kb_InvalidPeriod (F : FnX K "InvalidPeriod.__init__" (inClass (top 2) 0) f fd) : KBn K fd ["self", "given"] 1 ["given"] (fun us ws => us ++ ws) app2 := by
  refine ⟨fun s us ws _ hu hw => ?_, fun r z => vals_app r z⟩
  obtain ⟨oc, od, dV, kV, doc, pm, an, cdv, ct, osl, rfl, h1, h2, h3, h4⟩ := F.ex
  obtain rfl : dV = Value.none := h3.elim (fun z => z.2) fun z => absurd rfl z.1
  match us, hu with
  | [u], _ => match ws, hw with
    | [y], _ => exact PySem.BindsTo.of_eq (by rfl)
theorem bn_InvalidNumber (F : FnX K "InvalidNumber.__init__" (inClass (top 3) 0) f fd) : Binds K fd ["self", "given"] [] := F.bindsN fun _ _ _ _ _ _ us hl => match us, hl with | [_, _], _ => rfl
theorem kb_InvalidNumber (F : FnX K "InvalidNumber.__init__" (inClass (top 3) 0) f fd) : KBn K fd ["self", "given"] 1 ["given"] (fun us ws => us ++ ws) app2 := by
  refine ⟨fun s us ws _ hu hw => ?_, fun r z => vals_app r z⟩
  obtain ⟨oc, od, dV, kV, doc, pm, an, cdv, ct, osl, rfl, h1, h2, h3, h4⟩ := F.ex
  obtain rfl : dV = Value.none := h3.elim (fun z => z.2) fun z => absurd rfl z.1
  match us, hu with
  | [u], _ => match ws, hw with
    | [y], _ => exact PySem.BindsTo.of_eq (by rfl)
theorem bn_InvalidText (F : FnX K "InvalidText.__init__" (inClass (top 4) 0) f fd) : Binds K fd ["self", "given"] [] := F.bindsN fun _ _ _ _ _ _ us hl => match us, hl with | [_, _], _ => rfl
theorem kb_InvalidText (F : FnX K "InvalidText.__init__" (inClass (top 4) 0) f fd) : KBn K fd ["self", "given"] 1 ["given"] (fun us ws => us ++ ws) app2 := by
  refine ⟨fun s us ws _ hu hw => ?_, fun r z => vals_app r z⟩
  obtain ⟨oc, od, dV, kV, doc, pm, an, cdv, ct, osl, rfl, h1, h2, h3, h4⟩ := F.ex
  obtain rfl : dV = Value.none := h3.elim (fun z => z.2) fun z => absurd rfl z.1
  match us, hu with
  | [u], _ => match ws, hw with
    | [y], _ => exact PySem.BindsTo.of_eq (by rfl)
theorem bn_InvalidName (F : FnX K "InvalidName.__init__" (inClass (top 5) 0) f fd) : Binds K fd ["self", "given"] [] := F.bindsN fun _ _ _ _ _ _ us hl => match us, hl with | [_, _], _ => rfl
theorem kb_InvalidName (F : FnX K "InvalidName.__init__" (inClass (top 5) 0) f fd) : KBn K fd ["self", "given"] 1 ["given"] (fun us ws => us ++ ws) app2 := by
  refine ⟨fun s us ws _ hu hw => ?_, fun r z => vals_app r z⟩
  obtain ⟨oc, od, dV, kV, doc, pm, an, cdv, ct, osl, rfl, h1, h2, h3, h4⟩ := F.ex
  obtain rfl : dV = Value.none := h3.elim (fun z => z.2) fun z => absurd rfl z.1
  match us, hu with
  | [u], _ => match ws, hw with
    | [y], _ => exact PySem.BindsTo.of_eq (by rfl)
theorem bn_InvalidHands (F : FnX K "InvalidHands.__init__" (inClass (top 6) 0) f fd) : Binds K fd ["self", "given"] [] := F.bindsN fun _ _ _ _ _ _ us hl => match us, hl with | [_, _], _ => rfl
theorem kb_InvalidHands (F : FnX K "InvalidHands.__init__" (inClass (top 6) 0) f fd) : KBn K fd ["self", "given"] 1 ["given"] (fun us ws => us ++ ws) app2 := by
  refine ⟨fun s us ws _ hu hw => ?_, fun r z => vals_app r z⟩
  obtain ⟨oc, od, dV, kV, doc, pm, an, cdv, ct, osl, rfl, h1, h2, h3, h4⟩ := F.ex
  obtain rfl : dV = Value.none := h3.elim (fun z => z.2) fun z => absurd rfl z.1
  match us, hu with
  | [u], _ => match ws, hw with
    | [y], _ => exact PySem.BindsTo.of_eq (by rfl)
theorem bn_InvalidStock (F : FnX K "InvalidStock.__init__" (inClass (top 7) 0) f fd) : Binds K fd ["self", "given"] [] := F.bindsN fun _ _ _ _ _ _ us hl => match us, hl with | [_, _], _ => rfl
theorem kb_InvalidStock (F : FnX K "InvalidStock.__init__" (inClass (top 7) 0) f fd) : KBn K fd ["self", "given"] 1 ["given"] (fun us ws => us ++ ws) app2 := by
  refine ⟨fun s us ws _ hu hw => ?_, fun r z => vals_app r z⟩
  obtain ⟨oc, od, dV, kV, doc, pm, an, cdv, ct, osl, rfl, h1, h2, h3, h4⟩ := F.ex
  obtain rfl : dV = Value.none := h3.elim (fun z => z.2) fun z => absurd rfl z.1
  match us, hu with
  | [u], _ => match ws, hw with
    | [y], _ => exact PySem.BindsTo.of_eq (by rfl)
theorem bn_InvalidFlag (F : FnX K "InvalidFlag.__init__" (inClass (top 8) 0) f fd) : Binds K fd ["self", "given"] [] := F.bindsN fun _ _ _ _ _ _ us hl => match us, hl with | [_, _], _ => rfl
theorem kb_InvalidFlag (F : FnX K "InvalidFlag.__init__" (inClass (top 8) 0) f fd) : KBn K fd ["self", "given"] 1 ["given"] (fun us ws => us ++ ws) app2 := by
  refine ⟨fun s us ws _ hu hw => ?_, fun r z => vals_app r z⟩
  obtain ⟨oc, od, dV, kV, doc, pm, an, cdv, ct, osl, rfl, h1, h2, h3, h4⟩ := F.ex
  obtain rfl : dV = Value.none := h3.elim (fun z => z.2) fun z => absurd rfl z.1
  match us, hu with
  | [u], _ => match ws, hw with
    | [y], _ => exact PySem.BindsTo.of_eq (by rfl)
theorem bn_InvalidOutlet (F : FnX K "InvalidOutlet.__init__" (inClass (top 9) 0) f fd) : Binds K fd ["self", "given"] [] := F.bindsN fun _ _ _ _ _ _ us hl => match us, hl with | [_, _], _ => rfl
theorem kb_InvalidOutlet (F : FnX K "InvalidOutlet.__init__" (inClass (top 9) 0) f fd) : KBn K fd ["self", "given"] 1 ["given"] (fun us ws => us ++ ws) app2 := by
  refine ⟨fun s us ws _ hu hw => ?_, fun r z => vals_app r z⟩
  obtain ⟨oc, od, dV, kV, doc, pm, an, cdv, ct, osl, rfl, h1, h2, h3, h4⟩ := F.ex
  obtain rfl : dV = Value.none := h3.elim (fun z => z.2) fun z => absurd rfl z.1
  match us, hu with
  | [u], _ => match ws, hw with
    | [y], _ => exact PySem.BindsTo.of_eq (by rfl)
theorem bn_InvalidIndex (F : FnX K "InvalidIndex.__init__" (inClass (top 10) 0) f fd) : Binds K fd ["self", "given"] [] := F.bindsN fun _ _ _ _ _ _ us hl => match us, hl with | [_, _], _ => rfl
theorem kb_InvalidIndex (F : FnX K "InvalidIndex.__init__" (inClass (top 10) 0) f fd) : KBn K fd ["self", "given"] 1 ["given"] (fun us ws => us ++ ws) app2 := by
  refine ⟨fun s us ws _ hu hw => ?_, fun r z => vals_app r z⟩
  obtain ⟨oc, od, dV, kV, doc, pm, an, cdv, ct, osl, rfl, h1, h2, h3, h4⟩ := F.ex
  obtain rfl : dV = Value.none := h3.elim (fun z => z.2) fun z => absurd rfl z.1
  match us, hu with
  | [u], _ => match ws, hw with
    | [y], _ => exact PySem.BindsTo.of_eq (by rfl)
theorem bn_InvalidTimes (F : FnX K "InvalidTimes.__init__" (inClass (top 11) 0) f fd) : Binds K fd ["self", "given"] [] := F.bindsN fun _ _ _ _ _ _ us hl => match us, hl with | [_, _], _ => rfl
theorem kb_InvalidTimes (F : FnX K "InvalidTimes.__init__" (inClass (top 11) 0) f fd) : KBn K fd ["self", "given"] 1 ["given"] (fun us ws => us ++ ws) app2 := by
  refine ⟨fun s us ws _ hu hw => ?_, fun r z => vals_app r z⟩
  obtain ⟨oc, od, dV, kV, doc, pm, an, cdv, ct, osl, rfl, h1, h2, h3, h4⟩ := F.ex
  obtain rfl : dV = Value.none := h3.elim (fun z => z.2) fun z => absurd rfl z.1
  match us, hu with
  | [u], _ => match ws, hw with
    | [y], _ => exact PySem.BindsTo.of_eq (by rfl)
theorem bn_InvalidClaim (F : FnX K "InvalidClaim.__init__" (inClass (top 12) 0) f fd) : Binds K fd ["self", "given"] [] := F.bindsN fun _ _ _ _ _ _ us hl => match us, hl with | [_, _], _ => rfl
theorem kb_InvalidClaim (F : FnX K "InvalidClaim.__init__" (inClass (top 12) 0) f fd) : KBn K fd ["self", "given"] 1 ["given"] (fun us ws => us ++ ws) app2 := by
  refine ⟨fun s us ws _ hu hw => ?_, fun r z => vals_app r z⟩
  obtain ⟨oc, od, dV, kV, doc, pm, an, cdv, ct, osl, rfl, h1, h2, h3, h4⟩ := F.ex
  obtain rfl : dV = Value.none := h3.elim (fun z => z.2) fun z => absurd rfl z.1
  match us, hu with
  | [u], _ => match ws, hw with
    | [y], _ => exact PySem.BindsTo.of_eq (by rfl)
theorem bn_NotLags (F : FnX K "NotLags.__init__" (inClass (top 13) 0) f fd) : Binds K fd ["self", "given"] [] := F.bindsN fun _ _ _ _ _ _ us hl => match us, hl with | [_, _], _ => rfl
theorem kb_NotLags (F : FnX K "NotLags.__init__" (inClass (top 13) 0) f fd) : KBn K fd ["self", "given"] 1 ["given"] (fun us ws => us ++ ws) app2 := by
  refine ⟨fun s us ws _ hu hw => ?_, fun r z => vals_app r z⟩
  obtain ⟨oc, od, dV, kV, doc, pm, an, cdv, ct, osl, rfl, h1, h2, h3, h4⟩ := F.ex
  obtain rfl : dV = Value.none := h3.elim (fun z => z.2) fun z => absurd rfl z.1
  match us, hu with
  | [u], _ => match ws, hw with
    | [y], _ => exact PySem.BindsTo.of_eq (by rfl)
theorem bn_NotALine (F : FnX K "NotALine.__init__" (inClass (top 14) 0) f fd) : Binds K fd ["self", "given"] [] := F.bindsN fun _ _ _ _ _ _ us hl => match us, hl with | [_, _], _ => rfl
theorem kb_NotALine (F : FnX K "NotALine.__init__" (inClass (top 14) 0) f fd) : KBn K fd ["self", "given"] 1 ["given"] (fun us ws => us ++ ws) app2 := by
  refine ⟨fun s us ws _ hu hw => ?_, fun r z => vals_app r z⟩
  obtain ⟨oc, od, dV, kV, doc, pm, an, cdv, ct, osl, rfl, h1, h2, h3, h4⟩ := F.ex
  obtain rfl : dV = Value.none := h3.elim (fun z => z.2) fun z => absurd rfl z.1
  match us, hu with
  | [u], _ => match ws, hw with
    | [y], _ => exact PySem.BindsTo.of_eq (by rfl)
theorem bn_NotALink (F : FnX K "NotALink.__init__" (inClass (top 15) 0) f fd) : Binds K fd ["self", "given"] [] := F.bindsN fun _ _ _ _ _ _ us hl => match us, hl with | [_, _], _ => rfl
theorem kb_NotALink (F : FnX K "NotALink.__init__" (inClass (top 15) 0) f fd) : KBn K fd ["self", "given"] 1 ["given"] (fun us ws => us ++ ws) app2 := by
  refine ⟨fun s us ws _ hu hw => ?_, fun r z => vals_app r z⟩
  obtain ⟨oc, od, dV, kV, doc, pm, an, cdv, ct, osl, rfl, h1, h2, h3, h4⟩ := F.ex
  obtain rfl : dV = Value.none := h3.elim (fun z => z.2) fun z => absurd rfl z.1
  match us, hu with
  | [u], _ => match ws, hw with
    | [y], _ => exact PySem.BindsTo.of_eq (by rfl)
theorem bn_InvalidNumbers (F : FnX K "InvalidNumbers.__init__" (inClass (top 16) 0) f fd) : Binds K fd ["self", "index"] [] := F.bindsN fun _ _ _ _ _ _ us hl => match us, hl with | [_, _], _ => rfl
theorem kb_InvalidNumbers (F : FnX K "InvalidNumbers.__init__" (inClass (top 16) 0) f fd) : KBn K fd ["self", "index"] 1 ["index"] (fun us ws => us ++ ws) app2 := by
  refine ⟨fun s us ws _ hu hw => ?_, fun r z => vals_app r z⟩
  obtain ⟨oc, od, dV, kV, doc, pm, an, cdv, ct, osl, rfl, h1, h2, h3, h4⟩ := F.ex
  obtain rfl : dV = Value.none := h3.elim (fun z => z.2) fun z => absurd rfl z.1
  match us, hu with
  | [u], _ => match ws, hw with
    | [y], _ => exact PySem.BindsTo.of_eq (by rfl)
theorem bn_InvalidStations (F : FnX K "InvalidStations.__init__" (inClass (top 17) 0) f fd) : Binds K fd ["self", "index"] [] := F.bindsN fun _ _ _ _ _ _ us hl => match us, hl with | [_, _], _ => rfl
theorem kb_InvalidStations (F : FnX K "InvalidStations.__init__" (inClass (top 17) 0) f fd) : KBn K fd ["self", "index"] 1 ["index"] (fun us ws => us ++ ws) app2 := by
  refine ⟨fun s us ws _ hu hw => ?_, fun r z => vals_app r z⟩
  obtain ⟨oc, od, dV, kV, doc, pm, an, cdv, ct, osl, rfl, h1, h2, h3, h4⟩ := F.ex
  obtain rfl : dV = Value.none := h3.elim (fun z => z.2) fun z => absurd rfl z.1
  match us, hu with
  | [u], _ => match ws, hw with
    | [y], _ => exact PySem.BindsTo.of_eq (by rfl)
theorem bn_InvalidLinks (F : FnX K "InvalidLinks.__init__" (inClass (top 18) 0) f fd) : Binds K fd ["self", "index"] [] := F.bindsN fun _ _ _ _ _ _ us hl => match us, hl with | [_, _], _ => rfl
theorem kb_InvalidLinks (F : FnX K "InvalidLinks.__init__" (inClass (top 18) 0) f fd) : KBn K fd ["self", "index"] 1 ["index"] (fun us ws => us ++ ws) app2 := by
  refine ⟨fun s us ws _ hu hw => ?_, fun r z => vals_app r z⟩
  obtain ⟨oc, od, dV, kV, doc, pm, an, cdv, ct, osl, rfl, h1, h2, h3, h4⟩ := F.ex
  obtain rfl : dV = Value.none := h3.elim (fun z => z.2) fun z => absurd rfl z.1
  match us, hu with
  | [u], _ => match ws, hw with
    | [y], _ => exact PySem.BindsTo.of_eq (by rfl)
theorem bn_InvalidTasks (F : FnX K "InvalidTasks.__init__" (inClass (top 19) 0) f fd) : Binds K fd ["self", "index"] [] := F.bindsN fun _ _ _ _ _ _ us hl => match us, hl with | [_, _], _ => rfl
theorem kb_InvalidTasks (F : FnX K "InvalidTasks.__init__" (inClass (top 19) 0) f fd) : KBn K fd ["self", "index"] 1 ["index"] (fun us ws => us ++ ws) app2 := by
  refine ⟨fun s us ws _ hu hw => ?_, fun r z => vals_app r z⟩
  obtain ⟨oc, od, dV, kV, doc, pm, an, cdv, ct, osl, rfl, h1, h2, h3, h4⟩ := F.ex
  obtain rfl : dV = Value.none := h3.elim (fun z => z.2) fun z => absurd rfl z.1
  match us, hu with
  | [u], _ => match ws, hw with
    | [y], _ => exact PySem.BindsTo.of_eq (by rfl)
theorem bn_InvalidNames (F : FnX K "InvalidNames.__init__" (inClass (top 20) 0) f fd) : Binds K fd ["self", "index"] [] := F.bindsN fun _ _ _ _ _ _ us hl => match us, hl with | [_, _], _ => rfl
theorem kb_InvalidNames (F : FnX K "InvalidNames.__init__" (inClass (top 20) 0) f fd) : KBn K fd ["self", "index"] 1 ["index"] (fun us ws => us ++ ws) app2 := by
  refine ⟨fun s us ws _ hu hw => ?_, fun r z => vals_app r z⟩
  obtain ⟨oc, od, dV, kV, doc, pm, an, cdv, ct, osl, rfl, h1, h2, h3, h4⟩ := F.ex
  obtain rfl : dV = Value.none := h3.elim (fun z => z.2) fun z => absurd rfl z.1
  match us, hu with
  | [u], _ => match ws, hw with
    | [y], _ => exact PySem.BindsTo.of_eq (by rfl)
theorem bn_UnknownName (F : FnX K "UnknownName.__init__" (inClass (top 22) 0) f fd) : Binds K fd ["self", "given"] [] := F.bindsN fun _ _ _ _ _ _ us hl => match us, hl with | [_, _], _ => rfl
theorem kb_UnknownName (F : FnX K "UnknownName.__init__" (inClass (top 22) 0) f fd) : KBn K fd ["self", "given"] 1 ["given"] (fun us ws => us ++ ws) app2 := by
  refine ⟨fun s us ws _ hu hw => ?_, fun r z => vals_app r z⟩
  obtain ⟨oc, od, dV, kV, doc, pm, an, cdv, ct, osl, rfl, h1, h2, h3, h4⟩ := F.ex
  obtain rfl : dV = Value.none := h3.elim (fun z => z.2) fun z => absurd rfl z.1
  match us, hu with
  | [u], _ => match ws, hw with
    | [y], _ => exact PySem.BindsTo.of_eq (by rfl)
theorem bn_Taken (F : FnX K "Taken.__init__" (inClass (top 23) 0) f fd) : Binds K fd ["self", "given"] [] := F.bindsN fun _ _ _ _ _ _ us hl => match us, hl with | [_, _], _ => rfl
theorem kb_Taken (F : FnX K "Taken.__init__" (inClass (top 23) 0) f fd) : KBn K fd ["self", "given"] 1 ["given"] (fun us ws => us ++ ws) app2 := by
  refine ⟨fun s us ws _ hu hw => ?_, fun r z => vals_app r z⟩
  obtain ⟨oc, od, dV, kV, doc, pm, an, cdv, ct, osl, rfl, h1, h2, h3, h4⟩ := F.ex
  obtain rfl : dV = Value.none := h3.elim (fun z => z.2) fun z => absurd rfl z.1
  match us, hu with
  | [u], _ => match ws, hw with
    | [y], _ => exact PySem.BindsTo.of_eq (by rfl)
theorem bn_InUse (F : FnX K "InUse.__init__" (inClass (top 24) 0) f fd) : Binds K fd ["self", "index"] [] := F.bindsN fun _ _ _ _ _ _ us hl => match us, hl with | [_, _], _ => rfl
theorem kb_InUse (F : FnX K "InUse.__init__" (inClass (top 24) 0) f fd) : KBn K fd ["self", "index"] 1 ["index"] (fun us ws => us ++ ws) app2 := by
  refine ⟨fun s us ws _ hu hw => ?_, fun r z => vals_app r z⟩
  obtain ⟨oc, od, dV, kV, doc, pm, an, cdv, ct, osl, rfl, h1, h2, h3, h4⟩ := F.ex
  obtain rfl : dV = Value.none := h3.elim (fun z => z.2) fun z => absurd rfl z.1
  match us, hu with
  | [u], _ => match ws, hw with
    | [y], _ => exact PySem.BindsTo.of_eq (by rfl)
theorem bn_TooMany (F : FnX K "TooMany.__init__" (inClass (top 26) 0) f fd) : Binds K fd ["self", "limit"] [] := F.bindsN fun _ _ _ _ _ _ us hl => match us, hl with | [_, _], _ => rfl
theorem kb_TooMany (F : FnX K "TooMany.__init__" (inClass (top 26) 0) f fd) : KBn K fd ["self", "limit"] 1 ["limit"] (fun us ws => us ++ ws) app2 := by
  refine ⟨fun s us ws _ hu hw => ?_, fun r z => vals_app r z⟩
  obtain ⟨oc, od, dV, kV, doc, pm, an, cdv, ct, osl, rfl, h1, h2, h3, h4⟩ := F.ex
  obtain rfl : dV = Value.none := h3.elim (fun z => z.2) fun z => absurd rfl z.1
  match us, hu with
  | [u], _ => match ws, hw with
    | [y], _ => exact PySem.BindsTo.of_eq (by rfl)
theorem bn_Stuck (F : FnX K "Stuck.__init__" (inClass (top 27) 0) f fd) : Binds K fd ["self", "ring"] [] := F.bindsN fun _ _ _ _ _ _ us hl => match us, hl with | [_, _], _ => rfl
theorem kb_Stuck (F : FnX K "Stuck.__init__" (inClass (top 27) 0) f fd) : KBn K fd ["self", "ring"] 1 ["ring"] (fun us ws => us ++ ws) app2 := by
  refine ⟨fun s us ws _ hu hw => ?_, fun r z => vals_app r z⟩
  obtain ⟨oc, od, dV, kV, doc, pm, an, cdv, ct, osl, rfl, h1, h2, h3, h4⟩ := F.ex
  obtain rfl : dV = Value.none := h3.elim (fun z => z.2) fun z => absurd rfl z.1
  match us, hu with
  | [u], _ => match ws, hw with
    | [y], _ => exact PySem.BindsTo.of_eq (by rfl)
theorem bn_EarlyLink (F : FnX K "EarlyLink.__init__" (inClass (top 28) 0) f fd) : Binds K fd ["self", "index"] [] := F.bindsN fun _ _ _ _ _ _ us hl => match us, hl with | [_, _], _ => rfl
theorem kb_EarlyLink (F : FnX K "EarlyLink.__init__" (inClass (top 28) 0) f fd) : KBn K fd ["self", "index"] 1 ["index"] (fun us ws => us ++ ws) app2 := by
  refine ⟨fun s us ws _ hu hw => ?_, fun r z => vals_app r z⟩
  obtain ⟨oc, od, dV, kV, doc, pm, an, cdv, ct, osl, rfl, h1, h2, h3, h4⟩ := F.ex
  obtain rfl : dV = Value.none := h3.elim (fun z => z.2) fun z => absurd rfl z.1
  match us, hu with
  | [u], _ => match ws, hw with
    | [y], _ => exact PySem.BindsTo.of_eq (by rfl)
theorem bn_NothingToUndo (F : FnX K "NothingToUndo.__init__" (inClass (top 29) 0) f fd) : Binds K fd ["self"] [] := F.bindsN fun _ _ _ _ _ _ us hl => match us, hl with | [_], _ => rfl
theorem bn_NotAsked (F : FnX K "NotAsked.__init__" (inClass (top 30) 0) f fd) : Binds K fd ["self", "index"] [] := F.bindsN fun _ _ _ _ _ _ us hl => match us, hl with | [_, _], _ => rfl
theorem kb_NotAsked (F : FnX K "NotAsked.__init__" (inClass (top 30) 0) f fd) : KBn K fd ["self", "index"] 1 ["index"] (fun us ws => us ++ ws) app2 := by
  refine ⟨fun s us ws _ hu hw => ?_, fun r z => vals_app r z⟩
  obtain ⟨oc, od, dV, kV, doc, pm, an, cdv, ct, osl, rfl, h1, h2, h3, h4⟩ := F.ex
  obtain rfl : dV = Value.none := h3.elim (fun z => z.2) fun z => absurd rfl z.1
  match us, hu with
  | [u], _ => match ws, hw with
    | [y], _ => exact PySem.BindsTo.of_eq (by rfl)
theorem bn_Broken (F : FnX K "Broken.__init__" (inClass (top 31) 0) f fd) : Binds K fd ["self", "index", "shown"] [] := F.bindsN fun _ _ _ _ _ _ us hl => match us, hl with | [_, _, _], _ => rfl
theorem kb_Broken (F : FnX K "Broken.__init__" (inClass (top 31) 0) f fd) : KBn K fd ["self", "index", "shown"] 1 ["shown", "index"] (fun us ws => us ++ ws.reverse) appR := by
  refine ⟨fun s us ws _ hu hw => ?_, fun r z => vals_app r (vals_rev z)⟩
  obtain ⟨oc, od, dV, kV, doc, pm, an, cdv, ct, osl, rfl, h1, h2, h3, h4⟩ := F.ex
  obtain rfl : dV = Value.none := h3.elim (fun z => z.2) fun z => absurd rfl z.1
  match us, hu with
  | [u], _ => match ws, hw with
    | [y, z], _ => exact PySem.BindsTo.of_eq (by rfl)
end
/-! ### the facts the law's defs are read by -/
def gn1 : List Str := ["WrongValue", "InvalidPeriod", "InvalidNumber", "InvalidText", "InvalidName", "InvalidHands", "InvalidStock", "InvalidFlag", "InvalidOutlet", "InvalidIndex", "InvalidTimes", "InvalidClaim", "NotLags", "NotALine", "NotALink", "InvalidNumbers", "InvalidStations", "InvalidLinks", "InvalidTasks", "InvalidNames"]
def gn2 : List Str := ["WrongName", "UnknownName", "Taken", "InUse", "NoAnswer", "TooMany", "Stuck", "EarlyLink", "NothingToUndo", "NotAsked", "Broken", "_law_cell", "_law_well", "_law_draw", "_law_thing", "_law_marks"]
def gn3 : List Str := ["_law_fits", "_law_with_given", "_law_with_given_by_name", "_law_with_index", "_law_with_index_by_name", "_law_right", "law"]
def gn : List Str := gn1 ++ (gn2 ++ gn3)
structure Ts (P : Program) (w : World) (K : PySem.W.Frag) (mg : Str → Option Value) (base : Heap) : Prop where
  x : ex K = true
  g : ∀ n : Str, n ∈ gn → mg n = some (.ref (He.ga K n))
  n_len : mg "len" = none
  n_int : mg "int" = none
  n_abs : mg "abs" = none
  n_range : mg "range" = none
  n_repr : mg "repr" = none
  n_isinstance : mg "isinstance" = none
  n_str : mg "str" = none
  n_list : mg "list" = none
  n_max : mg "max" = none
  n_min : mg "min" = none
  n_ValueError : mg "ValueError" = none
  n_LookupError : mg "LookupError" = none
  n_ArithmeticError : mg "ArithmeticError" = none
  c_MOST_STATIONS : ∃ t, mg "MOST_STATIONS" = some (.int 6 t)
  c_MOST_LINKS : ∃ t, mg "MOST_LINKS" = some (.int 12 t)
  c_MOST_HANDS : ∃ t, mg "MOST_HANDS" = some (.int 4 t)
  c_MOST_STOCK : ∃ t, mg "MOST_STOCK" = some (.int 5 t)
  c_MOST_NUMBER : ∃ t, mg "MOST_NUMBER" = some (.int 1000 t)
  c_MOST_LAGS : ∃ t, mg "MOST_LAGS" = some (.int 2000 t)
  k0 : Kls P w K mg base "InvalidPeriod" (cA K 0) (bOf 0) 1 ["self", "given"] (spX (cA K 0) "given")
  kk0 : KlsK P w K mg base "InvalidPeriod" (cA K 0) (bOf 0) 1 ["given"] ["self", "given"] app2 (spX (cA K 0) "given")
  k1 : Kls P w K mg base "InvalidNumber" (cA K 1) (bOf 1) 1 ["self", "given"] (spX (cA K 1) "given")
  kk1 : KlsK P w K mg base "InvalidNumber" (cA K 1) (bOf 1) 1 ["given"] ["self", "given"] app2 (spX (cA K 1) "given")
  k2 : Kls P w K mg base "InvalidText" (cA K 2) (bOf 2) 1 ["self", "given"] (spX (cA K 2) "given")
  kk2 : KlsK P w K mg base "InvalidText" (cA K 2) (bOf 2) 1 ["given"] ["self", "given"] app2 (spX (cA K 2) "given")
  k3 : Kls P w K mg base "InvalidName" (cA K 3) (bOf 3) 1 ["self", "given"] (spX (cA K 3) "given")
  kk3 : KlsK P w K mg base "InvalidName" (cA K 3) (bOf 3) 1 ["given"] ["self", "given"] app2 (spX (cA K 3) "given")
  k4 : Kls P w K mg base "InvalidHands" (cA K 4) (bOf 4) 1 ["self", "given"] (spX (cA K 4) "given")
  kk4 : KlsK P w K mg base "InvalidHands" (cA K 4) (bOf 4) 1 ["given"] ["self", "given"] app2 (spX (cA K 4) "given")
  k5 : Kls P w K mg base "InvalidStock" (cA K 5) (bOf 5) 1 ["self", "given"] (spX (cA K 5) "given")
  kk5 : KlsK P w K mg base "InvalidStock" (cA K 5) (bOf 5) 1 ["given"] ["self", "given"] app2 (spX (cA K 5) "given")
  k6 : Kls P w K mg base "InvalidFlag" (cA K 6) (bOf 6) 1 ["self", "given"] (spX (cA K 6) "given")
  kk6 : KlsK P w K mg base "InvalidFlag" (cA K 6) (bOf 6) 1 ["given"] ["self", "given"] app2 (spX (cA K 6) "given")
  k7 : Kls P w K mg base "InvalidOutlet" (cA K 7) (bOf 7) 1 ["self", "given"] (spX (cA K 7) "given")
  kk7 : KlsK P w K mg base "InvalidOutlet" (cA K 7) (bOf 7) 1 ["given"] ["self", "given"] app2 (spX (cA K 7) "given")
  k8 : Kls P w K mg base "InvalidIndex" (cA K 8) (bOf 8) 1 ["self", "given"] (spX (cA K 8) "given")
  kk8 : KlsK P w K mg base "InvalidIndex" (cA K 8) (bOf 8) 1 ["given"] ["self", "given"] app2 (spX (cA K 8) "given")
  k9 : Kls P w K mg base "InvalidTimes" (cA K 9) (bOf 9) 1 ["self", "given"] (spX (cA K 9) "given")
  kk9 : KlsK P w K mg base "InvalidTimes" (cA K 9) (bOf 9) 1 ["given"] ["self", "given"] app2 (spX (cA K 9) "given")
  k10 : Kls P w K mg base "InvalidClaim" (cA K 10) (bOf 10) 1 ["self", "given"] (spX (cA K 10) "given")
  kk10 : KlsK P w K mg base "InvalidClaim" (cA K 10) (bOf 10) 1 ["given"] ["self", "given"] app2 (spX (cA K 10) "given")
  k11 : Kls P w K mg base "NotLags" (cA K 11) (bOf 11) 1 ["self", "given"] (spX (cA K 11) "given")
  kk11 : KlsK P w K mg base "NotLags" (cA K 11) (bOf 11) 1 ["given"] ["self", "given"] app2 (spX (cA K 11) "given")
  k12 : Kls P w K mg base "NotALine" (cA K 12) (bOf 12) 1 ["self", "given"] (spX (cA K 12) "given")
  kk12 : KlsK P w K mg base "NotALine" (cA K 12) (bOf 12) 1 ["given"] ["self", "given"] app2 (spX (cA K 12) "given")
  k13 : Kls P w K mg base "NotALink" (cA K 13) (bOf 13) 1 ["self", "given"] (spX (cA K 13) "given")
  kk13 : KlsK P w K mg base "NotALink" (cA K 13) (bOf 13) 1 ["given"] ["self", "given"] app2 (spX (cA K 13) "given")
  k14 : Kls P w K mg base "InvalidNumbers" (cA K 14) (bOf 14) 1 ["self", "index"] (spX (cA K 14) "index")
  kk14 : KlsK P w K mg base "InvalidNumbers" (cA K 14) (bOf 14) 1 ["index"] ["self", "index"] app2 (spX (cA K 14) "index")
  k15 : Kls P w K mg base "InvalidStations" (cA K 15) (bOf 15) 1 ["self", "index"] (spX (cA K 15) "index")
  kk15 : KlsK P w K mg base "InvalidStations" (cA K 15) (bOf 15) 1 ["index"] ["self", "index"] app2 (spX (cA K 15) "index")
  k16 : Kls P w K mg base "InvalidLinks" (cA K 16) (bOf 16) 1 ["self", "index"] (spX (cA K 16) "index")
  kk16 : KlsK P w K mg base "InvalidLinks" (cA K 16) (bOf 16) 1 ["index"] ["self", "index"] app2 (spX (cA K 16) "index")
  k17 : Kls P w K mg base "InvalidTasks" (cA K 17) (bOf 17) 1 ["self", "index"] (spX (cA K 17) "index")
  kk17 : KlsK P w K mg base "InvalidTasks" (cA K 17) (bOf 17) 1 ["index"] ["self", "index"] app2 (spX (cA K 17) "index")
  k18 : Kls P w K mg base "InvalidNames" (cA K 18) (bOf 18) 1 ["self", "index"] (spX (cA K 18) "index")
  kk18 : KlsK P w K mg base "InvalidNames" (cA K 18) (bOf 18) 1 ["index"] ["self", "index"] app2 (spX (cA K 18) "index")
  k19 : Kls P w K mg base "UnknownName" (cA K 19) (bOf 19) 1 ["self", "given"] (spX (cA K 19) "given")
  kk19 : KlsK P w K mg base "UnknownName" (cA K 19) (bOf 19) 1 ["given"] ["self", "given"] app2 (spX (cA K 19) "given")
  k20 : Kls P w K mg base "Taken" (cA K 20) (bOf 20) 1 ["self", "given"] (spX (cA K 20) "given")
  kk20 : KlsK P w K mg base "Taken" (cA K 20) (bOf 20) 1 ["given"] ["self", "given"] app2 (spX (cA K 20) "given")
  k21 : Kls P w K mg base "InUse" (cA K 21) (bOf 21) 1 ["self", "index"] (spX (cA K 21) "index")
  kk21 : KlsK P w K mg base "InUse" (cA K 21) (bOf 21) 1 ["index"] ["self", "index"] app2 (spX (cA K 21) "index")
  k22 : Kls P w K mg base "TooMany" (cA K 22) (bOf 22) 1 ["self", "limit"] (spX (cA K 22) "limit")
  kk22 : KlsK P w K mg base "TooMany" (cA K 22) (bOf 22) 1 ["limit"] ["self", "limit"] app2 (spX (cA K 22) "limit")
  k23 : Kls P w K mg base "Stuck" (cA K 23) (bOf 23) 1 ["self", "ring"] (spX (cA K 23) "ring")
  kk23 : KlsK P w K mg base "Stuck" (cA K 23) (bOf 23) 1 ["ring"] ["self", "ring"] app2 (spX (cA K 23) "ring")
  k24 : Kls P w K mg base "EarlyLink" (cA K 24) (bOf 24) 1 ["self", "index"] (spX (cA K 24) "index")
  kk24 : KlsK P w K mg base "EarlyLink" (cA K 24) (bOf 24) 1 ["index"] ["self", "index"] app2 (spX (cA K 24) "index")
  k25 : Kls P w K mg base "NothingToUndo" (cA K 25) (bOf 25) 1 ["self"] (spX0 (cA K 25))
  k26 : Kls P w K mg base "NotAsked" (cA K 26) (bOf 26) 1 ["self", "index"] (spX (cA K 26) "index")
  kk26 : KlsK P w K mg base "NotAsked" (cA K 26) (bOf 26) 1 ["index"] ["self", "index"] app2 (spX (cA K 26) "index")
  k27 : Kls P w K mg base "Broken" (cA K 27) (bOf 27) 1 ["self", "index", "shown"] (spX2 (cA K 27) "index" "shown")
  kk27 : KlsK P w K mg base "Broken" (cA K 27) (bOf 27) 1 ["shown", "index"] ["self", "index", "shown"] appR (spX2 (cA K 27) "index" "shown")
section
variable {P : Program} {w : World} {K : PySem.W.Frag} {mg : Str → Option Value} {base h : Heap}
theorem glo_all (X : K.In h) (G : h.Ns mainGlobals mg) (c : He.SaysD fa fn K) : ∀ n : Str, n ∈ gn → mg n = some (.ref (He.ga K n)) := by
  intro n hn
  have z : ∃ i : Nat, fa[i]? = some (He.Fa.glo n) := by
    obtain ⟨i, hi, e⟩ := List.mem_iff_getElem.mp hn
    refine ⟨i, ?_⟩
    have q : (fa.take gn.length) = gn.map He.Fa.glo := by rfl
    have q2 : (fa.take gn.length)[i]? = some (He.Fa.glo n) := by rw [q, List.getElem?_map, List.getElem?_eq_getElem hi, e]; rfl
    rw [List.getElem?_take] at q2
    rw [if_pos hi] at q2
    exact q2
  obtain ⟨i, e⟩ := z
  exact He.glo_ok X G (c.fact i e)
theorem fd_InvalidPeriod (X : K.In h) (c : SaysM fa fn ex K) : ∃ fd, FnX K "InvalidPeriod.__init__" (inClass (top 2) 0) (He.ma K (cA K 0) "__init__") fd := c.d.def_ 0 (d := dI "InvalidPeriod" "InvalidPeriod.__init__" (inClass (top 2) 0)) rfl
theorem kl_InvalidPeriod (X : K.In h) (G : h.Ns mainGlobals mg) (c : SaysM fa fn ex K) : Kls P w K mg base "InvalidPeriod" (cA K 0) (bOf 0) 1 ["self", "given"] (spX (cA K 0) "given") := by
  obtain ⟨fd, F⟩ := fd_InvalidPeriod X c
  exact ⟨xcK c.x 0 (by decide), glo_all X G c.d _ (by decide +kernel), _, fd, (inK c.x 0 (by decide)).1, (inK c.x 0 (by decide)).2, ok_InvalidPeriod F (xcK c.x 0 (by decide)) (nofK c.x 0 (by decide)) (glo_all X G c.d _ (by decide +kernel)) (wk_of (wvK c.x).1), bn_InvalidPeriod F⟩
theorem kk_InvalidPeriod (X : K.In h) (G : h.Ns mainGlobals mg) (c : SaysM fa fn ex K) : KlsK P w K mg base "InvalidPeriod" (cA K 0) (bOf 0) 1 ["given"] ["self", "given"] app2 (spX (cA K 0) "given") := by
  obtain ⟨fd, F⟩ := fd_InvalidPeriod X c
  exact ⟨xcK c.x 0 (by decide), glo_all X G c.d _ (by decide +kernel), _, fd, _, (inK c.x 0 (by decide)).1, (inK c.x 0 (by decide)).2, ok_InvalidPeriod F (xcK c.x 0 (by decide)) (nofK c.x 0 (by decide)) (glo_all X G c.d _ (by decide +kernel)) (wk_of (wvK c.x).1), kb_InvalidPeriod F⟩
theorem fd_InvalidNumber (X : K.In h) (c : SaysM fa fn ex K) : ∃ fd, FnX K "InvalidNumber.__init__" (inClass (top 3) 0) (He.ma K (cA K 1) "__init__") fd := c.d.def_ 1 (d := dI "InvalidNumber" "InvalidNumber.__init__" (inClass (top 3) 0)) rfl
theorem kl_InvalidNumber (X : K.In h) (G : h.Ns mainGlobals mg) (c : SaysM fa fn ex K) : Kls P w K mg base "InvalidNumber" (cA K 1) (bOf 1) 1 ["self", "given"] (spX (cA K 1) "given") := by
  obtain ⟨fd, F⟩ := fd_InvalidNumber X c
  exact ⟨xcK c.x 1 (by decide), glo_all X G c.d _ (by decide +kernel), _, fd, (inK c.x 1 (by decide)).1, (inK c.x 1 (by decide)).2, ok_InvalidNumber F (xcK c.x 1 (by decide)) (nofK c.x 1 (by decide)) (glo_all X G c.d _ (by decide +kernel)) (wk_of (wvK c.x).1), bn_InvalidNumber F⟩
theorem kk_InvalidNumber (X : K.In h) (G : h.Ns mainGlobals mg) (c : SaysM fa fn ex K) : KlsK P w K mg base "InvalidNumber" (cA K 1) (bOf 1) 1 ["given"] ["self", "given"] app2 (spX (cA K 1) "given") := by
  obtain ⟨fd, F⟩ := fd_InvalidNumber X c
  exact ⟨xcK c.x 1 (by decide), glo_all X G c.d _ (by decide +kernel), _, fd, _, (inK c.x 1 (by decide)).1, (inK c.x 1 (by decide)).2, ok_InvalidNumber F (xcK c.x 1 (by decide)) (nofK c.x 1 (by decide)) (glo_all X G c.d _ (by decide +kernel)) (wk_of (wvK c.x).1), kb_InvalidNumber F⟩
theorem fd_InvalidText (X : K.In h) (c : SaysM fa fn ex K) : ∃ fd, FnX K "InvalidText.__init__" (inClass (top 4) 0) (He.ma K (cA K 2) "__init__") fd := c.d.def_ 2 (d := dI "InvalidText" "InvalidText.__init__" (inClass (top 4) 0)) rfl
theorem kl_InvalidText (X : K.In h) (G : h.Ns mainGlobals mg) (c : SaysM fa fn ex K) : Kls P w K mg base "InvalidText" (cA K 2) (bOf 2) 1 ["self", "given"] (spX (cA K 2) "given") := by
  obtain ⟨fd, F⟩ := fd_InvalidText X c
  exact ⟨xcK c.x 2 (by decide), glo_all X G c.d _ (by decide +kernel), _, fd, (inK c.x 2 (by decide)).1, (inK c.x 2 (by decide)).2, ok_InvalidText F (xcK c.x 2 (by decide)) (nofK c.x 2 (by decide)) (glo_all X G c.d _ (by decide +kernel)) (wk_of (wvK c.x).1), bn_InvalidText F⟩
theorem kk_InvalidText (X : K.In h) (G : h.Ns mainGlobals mg) (c : SaysM fa fn ex K) : KlsK P w K mg base "InvalidText" (cA K 2) (bOf 2) 1 ["given"] ["self", "given"] app2 (spX (cA K 2) "given") := by
  obtain ⟨fd, F⟩ := fd_InvalidText X c
  exact ⟨xcK c.x 2 (by decide), glo_all X G c.d _ (by decide +kernel), _, fd, _, (inK c.x 2 (by decide)).1, (inK c.x 2 (by decide)).2, ok_InvalidText F (xcK c.x 2 (by decide)) (nofK c.x 2 (by decide)) (glo_all X G c.d _ (by decide +kernel)) (wk_of (wvK c.x).1), kb_InvalidText F⟩
theorem fd_InvalidName (X : K.In h) (c : SaysM fa fn ex K) : ∃ fd, FnX K "InvalidName.__init__" (inClass (top 5) 0) (He.ma K (cA K 3) "__init__") fd := c.d.def_ 3 (d := dI "InvalidName" "InvalidName.__init__" (inClass (top 5) 0)) rfl
theorem kl_InvalidName (X : K.In h) (G : h.Ns mainGlobals mg) (c : SaysM fa fn ex K) : Kls P w K mg base "InvalidName" (cA K 3) (bOf 3) 1 ["self", "given"] (spX (cA K 3) "given") := by
  obtain ⟨fd, F⟩ := fd_InvalidName X c
  exact ⟨xcK c.x 3 (by decide), glo_all X G c.d _ (by decide +kernel), _, fd, (inK c.x 3 (by decide)).1, (inK c.x 3 (by decide)).2, ok_InvalidName F (xcK c.x 3 (by decide)) (nofK c.x 3 (by decide)) (glo_all X G c.d _ (by decide +kernel)) (wk_of (wvK c.x).1), bn_InvalidName F⟩
theorem kk_InvalidName (X : K.In h) (G : h.Ns mainGlobals mg) (c : SaysM fa fn ex K) : KlsK P w K mg base "InvalidName" (cA K 3) (bOf 3) 1 ["given"] ["self", "given"] app2 (spX (cA K 3) "given") := by
  obtain ⟨fd, F⟩ := fd_InvalidName X c
  exact ⟨xcK c.x 3 (by decide), glo_all X G c.d _ (by decide +kernel), _, fd, _, (inK c.x 3 (by decide)).1, (inK c.x 3 (by decide)).2, ok_InvalidName F (xcK c.x 3 (by decide)) (nofK c.x 3 (by decide)) (glo_all X G c.d _ (by decide +kernel)) (wk_of (wvK c.x).1), kb_InvalidName F⟩
theorem fd_InvalidHands (X : K.In h) (c : SaysM fa fn ex K) : ∃ fd, FnX K "InvalidHands.__init__" (inClass (top 6) 0) (He.ma K (cA K 4) "__init__") fd := c.d.def_ 4 (d := dI "InvalidHands" "InvalidHands.__init__" (inClass (top 6) 0)) rfl
theorem kl_InvalidHands (X : K.In h) (G : h.Ns mainGlobals mg) (c : SaysM fa fn ex K) : Kls P w K mg base "InvalidHands" (cA K 4) (bOf 4) 1 ["self", "given"] (spX (cA K 4) "given") := by
  obtain ⟨fd, F⟩ := fd_InvalidHands X c
  exact ⟨xcK c.x 4 (by decide), glo_all X G c.d _ (by decide +kernel), _, fd, (inK c.x 4 (by decide)).1, (inK c.x 4 (by decide)).2, ok_InvalidHands F (xcK c.x 4 (by decide)) (nofK c.x 4 (by decide)) (glo_all X G c.d _ (by decide +kernel)) (wk_of (wvK c.x).1), bn_InvalidHands F⟩
theorem kk_InvalidHands (X : K.In h) (G : h.Ns mainGlobals mg) (c : SaysM fa fn ex K) : KlsK P w K mg base "InvalidHands" (cA K 4) (bOf 4) 1 ["given"] ["self", "given"] app2 (spX (cA K 4) "given") := by
  obtain ⟨fd, F⟩ := fd_InvalidHands X c
  exact ⟨xcK c.x 4 (by decide), glo_all X G c.d _ (by decide +kernel), _, fd, _, (inK c.x 4 (by decide)).1, (inK c.x 4 (by decide)).2, ok_InvalidHands F (xcK c.x 4 (by decide)) (nofK c.x 4 (by decide)) (glo_all X G c.d _ (by decide +kernel)) (wk_of (wvK c.x).1), kb_InvalidHands F⟩
theorem fd_InvalidStock (X : K.In h) (c : SaysM fa fn ex K) : ∃ fd, FnX K "InvalidStock.__init__" (inClass (top 7) 0) (He.ma K (cA K 5) "__init__") fd := c.d.def_ 5 (d := dI "InvalidStock" "InvalidStock.__init__" (inClass (top 7) 0)) rfl
theorem kl_InvalidStock (X : K.In h) (G : h.Ns mainGlobals mg) (c : SaysM fa fn ex K) : Kls P w K mg base "InvalidStock" (cA K 5) (bOf 5) 1 ["self", "given"] (spX (cA K 5) "given") := by
  obtain ⟨fd, F⟩ := fd_InvalidStock X c
  exact ⟨xcK c.x 5 (by decide), glo_all X G c.d _ (by decide +kernel), _, fd, (inK c.x 5 (by decide)).1, (inK c.x 5 (by decide)).2, ok_InvalidStock F (xcK c.x 5 (by decide)) (nofK c.x 5 (by decide)) (glo_all X G c.d _ (by decide +kernel)) (wk_of (wvK c.x).1), bn_InvalidStock F⟩
theorem kk_InvalidStock (X : K.In h) (G : h.Ns mainGlobals mg) (c : SaysM fa fn ex K) : KlsK P w K mg base "InvalidStock" (cA K 5) (bOf 5) 1 ["given"] ["self", "given"] app2 (spX (cA K 5) "given") := by
  obtain ⟨fd, F⟩ := fd_InvalidStock X c
  exact ⟨xcK c.x 5 (by decide), glo_all X G c.d _ (by decide +kernel), _, fd, _, (inK c.x 5 (by decide)).1, (inK c.x 5 (by decide)).2, ok_InvalidStock F (xcK c.x 5 (by decide)) (nofK c.x 5 (by decide)) (glo_all X G c.d _ (by decide +kernel)) (wk_of (wvK c.x).1), kb_InvalidStock F⟩
theorem fd_InvalidFlag (X : K.In h) (c : SaysM fa fn ex K) : ∃ fd, FnX K "InvalidFlag.__init__" (inClass (top 8) 0) (He.ma K (cA K 6) "__init__") fd := c.d.def_ 6 (d := dI "InvalidFlag" "InvalidFlag.__init__" (inClass (top 8) 0)) rfl
theorem kl_InvalidFlag (X : K.In h) (G : h.Ns mainGlobals mg) (c : SaysM fa fn ex K) : Kls P w K mg base "InvalidFlag" (cA K 6) (bOf 6) 1 ["self", "given"] (spX (cA K 6) "given") := by
  obtain ⟨fd, F⟩ := fd_InvalidFlag X c
  exact ⟨xcK c.x 6 (by decide), glo_all X G c.d _ (by decide +kernel), _, fd, (inK c.x 6 (by decide)).1, (inK c.x 6 (by decide)).2, ok_InvalidFlag F (xcK c.x 6 (by decide)) (nofK c.x 6 (by decide)) (glo_all X G c.d _ (by decide +kernel)) (wk_of (wvK c.x).1), bn_InvalidFlag F⟩
theorem kk_InvalidFlag (X : K.In h) (G : h.Ns mainGlobals mg) (c : SaysM fa fn ex K) : KlsK P w K mg base "InvalidFlag" (cA K 6) (bOf 6) 1 ["given"] ["self", "given"] app2 (spX (cA K 6) "given") := by
  obtain ⟨fd, F⟩ := fd_InvalidFlag X c
  exact ⟨xcK c.x 6 (by decide), glo_all X G c.d _ (by decide +kernel), _, fd, _, (inK c.x 6 (by decide)).1, (inK c.x 6 (by decide)).2, ok_InvalidFlag F (xcK c.x 6 (by decide)) (nofK c.x 6 (by decide)) (glo_all X G c.d _ (by decide +kernel)) (wk_of (wvK c.x).1), kb_InvalidFlag F⟩
theorem fd_InvalidOutlet (X : K.In h) (c : SaysM fa fn ex K) : ∃ fd, FnX K "InvalidOutlet.__init__" (inClass (top 9) 0) (He.ma K (cA K 7) "__init__") fd := c.d.def_ 7 (d := dI "InvalidOutlet" "InvalidOutlet.__init__" (inClass (top 9) 0)) rfl
theorem kl_InvalidOutlet (X : K.In h) (G : h.Ns mainGlobals mg) (c : SaysM fa fn ex K) : Kls P w K mg base "InvalidOutlet" (cA K 7) (bOf 7) 1 ["self", "given"] (spX (cA K 7) "given") := by
  obtain ⟨fd, F⟩ := fd_InvalidOutlet X c
  exact ⟨xcK c.x 7 (by decide), glo_all X G c.d _ (by decide +kernel), _, fd, (inK c.x 7 (by decide)).1, (inK c.x 7 (by decide)).2, ok_InvalidOutlet F (xcK c.x 7 (by decide)) (nofK c.x 7 (by decide)) (glo_all X G c.d _ (by decide +kernel)) (wk_of (wvK c.x).1), bn_InvalidOutlet F⟩
theorem kk_InvalidOutlet (X : K.In h) (G : h.Ns mainGlobals mg) (c : SaysM fa fn ex K) : KlsK P w K mg base "InvalidOutlet" (cA K 7) (bOf 7) 1 ["given"] ["self", "given"] app2 (spX (cA K 7) "given") := by
  obtain ⟨fd, F⟩ := fd_InvalidOutlet X c
  exact ⟨xcK c.x 7 (by decide), glo_all X G c.d _ (by decide +kernel), _, fd, _, (inK c.x 7 (by decide)).1, (inK c.x 7 (by decide)).2, ok_InvalidOutlet F (xcK c.x 7 (by decide)) (nofK c.x 7 (by decide)) (glo_all X G c.d _ (by decide +kernel)) (wk_of (wvK c.x).1), kb_InvalidOutlet F⟩
theorem fd_InvalidIndex (X : K.In h) (c : SaysM fa fn ex K) : ∃ fd, FnX K "InvalidIndex.__init__" (inClass (top 10) 0) (He.ma K (cA K 8) "__init__") fd := c.d.def_ 8 (d := dI "InvalidIndex" "InvalidIndex.__init__" (inClass (top 10) 0)) rfl
theorem kl_InvalidIndex (X : K.In h) (G : h.Ns mainGlobals mg) (c : SaysM fa fn ex K) : Kls P w K mg base "InvalidIndex" (cA K 8) (bOf 8) 1 ["self", "given"] (spX (cA K 8) "given") := by
  obtain ⟨fd, F⟩ := fd_InvalidIndex X c
  exact ⟨xcK c.x 8 (by decide), glo_all X G c.d _ (by decide +kernel), _, fd, (inK c.x 8 (by decide)).1, (inK c.x 8 (by decide)).2, ok_InvalidIndex F (xcK c.x 8 (by decide)) (nofK c.x 8 (by decide)) (glo_all X G c.d _ (by decide +kernel)) (wk_of (wvK c.x).1), bn_InvalidIndex F⟩
theorem kk_InvalidIndex (X : K.In h) (G : h.Ns mainGlobals mg) (c : SaysM fa fn ex K) : KlsK P w K mg base "InvalidIndex" (cA K 8) (bOf 8) 1 ["given"] ["self", "given"] app2 (spX (cA K 8) "given") := by
  obtain ⟨fd, F⟩ := fd_InvalidIndex X c
  exact ⟨xcK c.x 8 (by decide), glo_all X G c.d _ (by decide +kernel), _, fd, _, (inK c.x 8 (by decide)).1, (inK c.x 8 (by decide)).2, ok_InvalidIndex F (xcK c.x 8 (by decide)) (nofK c.x 8 (by decide)) (glo_all X G c.d _ (by decide +kernel)) (wk_of (wvK c.x).1), kb_InvalidIndex F⟩
theorem fd_InvalidTimes (X : K.In h) (c : SaysM fa fn ex K) : ∃ fd, FnX K "InvalidTimes.__init__" (inClass (top 11) 0) (He.ma K (cA K 9) "__init__") fd := c.d.def_ 9 (d := dI "InvalidTimes" "InvalidTimes.__init__" (inClass (top 11) 0)) rfl
theorem kl_InvalidTimes (X : K.In h) (G : h.Ns mainGlobals mg) (c : SaysM fa fn ex K) : Kls P w K mg base "InvalidTimes" (cA K 9) (bOf 9) 1 ["self", "given"] (spX (cA K 9) "given") := by
  obtain ⟨fd, F⟩ := fd_InvalidTimes X c
  exact ⟨xcK c.x 9 (by decide), glo_all X G c.d _ (by decide +kernel), _, fd, (inK c.x 9 (by decide)).1, (inK c.x 9 (by decide)).2, ok_InvalidTimes F (xcK c.x 9 (by decide)) (nofK c.x 9 (by decide)) (glo_all X G c.d _ (by decide +kernel)) (wk_of (wvK c.x).1), bn_InvalidTimes F⟩
theorem kk_InvalidTimes (X : K.In h) (G : h.Ns mainGlobals mg) (c : SaysM fa fn ex K) : KlsK P w K mg base "InvalidTimes" (cA K 9) (bOf 9) 1 ["given"] ["self", "given"] app2 (spX (cA K 9) "given") := by
  obtain ⟨fd, F⟩ := fd_InvalidTimes X c
  exact ⟨xcK c.x 9 (by decide), glo_all X G c.d _ (by decide +kernel), _, fd, _, (inK c.x 9 (by decide)).1, (inK c.x 9 (by decide)).2, ok_InvalidTimes F (xcK c.x 9 (by decide)) (nofK c.x 9 (by decide)) (glo_all X G c.d _ (by decide +kernel)) (wk_of (wvK c.x).1), kb_InvalidTimes F⟩
theorem fd_InvalidClaim (X : K.In h) (c : SaysM fa fn ex K) : ∃ fd, FnX K "InvalidClaim.__init__" (inClass (top 12) 0) (He.ma K (cA K 10) "__init__") fd := c.d.def_ 10 (d := dI "InvalidClaim" "InvalidClaim.__init__" (inClass (top 12) 0)) rfl
theorem kl_InvalidClaim (X : K.In h) (G : h.Ns mainGlobals mg) (c : SaysM fa fn ex K) : Kls P w K mg base "InvalidClaim" (cA K 10) (bOf 10) 1 ["self", "given"] (spX (cA K 10) "given") := by
  obtain ⟨fd, F⟩ := fd_InvalidClaim X c
  exact ⟨xcK c.x 10 (by decide), glo_all X G c.d _ (by decide +kernel), _, fd, (inK c.x 10 (by decide)).1, (inK c.x 10 (by decide)).2, ok_InvalidClaim F (xcK c.x 10 (by decide)) (nofK c.x 10 (by decide)) (glo_all X G c.d _ (by decide +kernel)) (wk_of (wvK c.x).1), bn_InvalidClaim F⟩
theorem kk_InvalidClaim (X : K.In h) (G : h.Ns mainGlobals mg) (c : SaysM fa fn ex K) : KlsK P w K mg base "InvalidClaim" (cA K 10) (bOf 10) 1 ["given"] ["self", "given"] app2 (spX (cA K 10) "given") := by
  obtain ⟨fd, F⟩ := fd_InvalidClaim X c
  exact ⟨xcK c.x 10 (by decide), glo_all X G c.d _ (by decide +kernel), _, fd, _, (inK c.x 10 (by decide)).1, (inK c.x 10 (by decide)).2, ok_InvalidClaim F (xcK c.x 10 (by decide)) (nofK c.x 10 (by decide)) (glo_all X G c.d _ (by decide +kernel)) (wk_of (wvK c.x).1), kb_InvalidClaim F⟩
theorem fd_NotLags (X : K.In h) (c : SaysM fa fn ex K) : ∃ fd, FnX K "NotLags.__init__" (inClass (top 13) 0) (He.ma K (cA K 11) "__init__") fd := c.d.def_ 11 (d := dI "NotLags" "NotLags.__init__" (inClass (top 13) 0)) rfl
theorem kl_NotLags (X : K.In h) (G : h.Ns mainGlobals mg) (c : SaysM fa fn ex K) : Kls P w K mg base "NotLags" (cA K 11) (bOf 11) 1 ["self", "given"] (spX (cA K 11) "given") := by
  obtain ⟨fd, F⟩ := fd_NotLags X c
  exact ⟨xcK c.x 11 (by decide), glo_all X G c.d _ (by decide +kernel), _, fd, (inK c.x 11 (by decide)).1, (inK c.x 11 (by decide)).2, ok_NotLags F (xcK c.x 11 (by decide)) (nofK c.x 11 (by decide)) (glo_all X G c.d _ (by decide +kernel)) (wk_of (wvK c.x).1), bn_NotLags F⟩
theorem kk_NotLags (X : K.In h) (G : h.Ns mainGlobals mg) (c : SaysM fa fn ex K) : KlsK P w K mg base "NotLags" (cA K 11) (bOf 11) 1 ["given"] ["self", "given"] app2 (spX (cA K 11) "given") := by
  obtain ⟨fd, F⟩ := fd_NotLags X c
  exact ⟨xcK c.x 11 (by decide), glo_all X G c.d _ (by decide +kernel), _, fd, _, (inK c.x 11 (by decide)).1, (inK c.x 11 (by decide)).2, ok_NotLags F (xcK c.x 11 (by decide)) (nofK c.x 11 (by decide)) (glo_all X G c.d _ (by decide +kernel)) (wk_of (wvK c.x).1), kb_NotLags F⟩
theorem fd_NotALine (X : K.In h) (c : SaysM fa fn ex K) : ∃ fd, FnX K "NotALine.__init__" (inClass (top 14) 0) (He.ma K (cA K 12) "__init__") fd := c.d.def_ 12 (d := dI "NotALine" "NotALine.__init__" (inClass (top 14) 0)) rfl
theorem kl_NotALine (X : K.In h) (G : h.Ns mainGlobals mg) (c : SaysM fa fn ex K) : Kls P w K mg base "NotALine" (cA K 12) (bOf 12) 1 ["self", "given"] (spX (cA K 12) "given") := by
  obtain ⟨fd, F⟩ := fd_NotALine X c
  exact ⟨xcK c.x 12 (by decide), glo_all X G c.d _ (by decide +kernel), _, fd, (inK c.x 12 (by decide)).1, (inK c.x 12 (by decide)).2, ok_NotALine F (xcK c.x 12 (by decide)) (nofK c.x 12 (by decide)) (glo_all X G c.d _ (by decide +kernel)) (wk_of (wvK c.x).1), bn_NotALine F⟩
theorem kk_NotALine (X : K.In h) (G : h.Ns mainGlobals mg) (c : SaysM fa fn ex K) : KlsK P w K mg base "NotALine" (cA K 12) (bOf 12) 1 ["given"] ["self", "given"] app2 (spX (cA K 12) "given") := by
  obtain ⟨fd, F⟩ := fd_NotALine X c
  exact ⟨xcK c.x 12 (by decide), glo_all X G c.d _ (by decide +kernel), _, fd, _, (inK c.x 12 (by decide)).1, (inK c.x 12 (by decide)).2, ok_NotALine F (xcK c.x 12 (by decide)) (nofK c.x 12 (by decide)) (glo_all X G c.d _ (by decide +kernel)) (wk_of (wvK c.x).1), kb_NotALine F⟩
theorem fd_NotALink (X : K.In h) (c : SaysM fa fn ex K) : ∃ fd, FnX K "NotALink.__init__" (inClass (top 15) 0) (He.ma K (cA K 13) "__init__") fd := c.d.def_ 13 (d := dI "NotALink" "NotALink.__init__" (inClass (top 15) 0)) rfl
theorem kl_NotALink (X : K.In h) (G : h.Ns mainGlobals mg) (c : SaysM fa fn ex K) : Kls P w K mg base "NotALink" (cA K 13) (bOf 13) 1 ["self", "given"] (spX (cA K 13) "given") := by
  obtain ⟨fd, F⟩ := fd_NotALink X c
  exact ⟨xcK c.x 13 (by decide), glo_all X G c.d _ (by decide +kernel), _, fd, (inK c.x 13 (by decide)).1, (inK c.x 13 (by decide)).2, ok_NotALink F (xcK c.x 13 (by decide)) (nofK c.x 13 (by decide)) (glo_all X G c.d _ (by decide +kernel)) (wk_of (wvK c.x).1), bn_NotALink F⟩
theorem kk_NotALink (X : K.In h) (G : h.Ns mainGlobals mg) (c : SaysM fa fn ex K) : KlsK P w K mg base "NotALink" (cA K 13) (bOf 13) 1 ["given"] ["self", "given"] app2 (spX (cA K 13) "given") := by
  obtain ⟨fd, F⟩ := fd_NotALink X c
  exact ⟨xcK c.x 13 (by decide), glo_all X G c.d _ (by decide +kernel), _, fd, _, (inK c.x 13 (by decide)).1, (inK c.x 13 (by decide)).2, ok_NotALink F (xcK c.x 13 (by decide)) (nofK c.x 13 (by decide)) (glo_all X G c.d _ (by decide +kernel)) (wk_of (wvK c.x).1), kb_NotALink F⟩
theorem fd_InvalidNumbers (X : K.In h) (c : SaysM fa fn ex K) : ∃ fd, FnX K "InvalidNumbers.__init__" (inClass (top 16) 0) (He.ma K (cA K 14) "__init__") fd := c.d.def_ 14 (d := dI "InvalidNumbers" "InvalidNumbers.__init__" (inClass (top 16) 0)) rfl
theorem kl_InvalidNumbers (X : K.In h) (G : h.Ns mainGlobals mg) (c : SaysM fa fn ex K) : Kls P w K mg base "InvalidNumbers" (cA K 14) (bOf 14) 1 ["self", "index"] (spX (cA K 14) "index") := by
  obtain ⟨fd, F⟩ := fd_InvalidNumbers X c
  exact ⟨xcK c.x 14 (by decide), glo_all X G c.d _ (by decide +kernel), _, fd, (inK c.x 14 (by decide)).1, (inK c.x 14 (by decide)).2, ok_InvalidNumbers F (xcK c.x 14 (by decide)) (nofK c.x 14 (by decide)) (glo_all X G c.d _ (by decide +kernel)) (wk_of (wvK c.x).1), bn_InvalidNumbers F⟩
theorem kk_InvalidNumbers (X : K.In h) (G : h.Ns mainGlobals mg) (c : SaysM fa fn ex K) : KlsK P w K mg base "InvalidNumbers" (cA K 14) (bOf 14) 1 ["index"] ["self", "index"] app2 (spX (cA K 14) "index") := by
  obtain ⟨fd, F⟩ := fd_InvalidNumbers X c
  exact ⟨xcK c.x 14 (by decide), glo_all X G c.d _ (by decide +kernel), _, fd, _, (inK c.x 14 (by decide)).1, (inK c.x 14 (by decide)).2, ok_InvalidNumbers F (xcK c.x 14 (by decide)) (nofK c.x 14 (by decide)) (glo_all X G c.d _ (by decide +kernel)) (wk_of (wvK c.x).1), kb_InvalidNumbers F⟩
theorem fd_InvalidStations (X : K.In h) (c : SaysM fa fn ex K) : ∃ fd, FnX K "InvalidStations.__init__" (inClass (top 17) 0) (He.ma K (cA K 15) "__init__") fd := c.d.def_ 15 (d := dI "InvalidStations" "InvalidStations.__init__" (inClass (top 17) 0)) rfl
theorem kl_InvalidStations (X : K.In h) (G : h.Ns mainGlobals mg) (c : SaysM fa fn ex K) : Kls P w K mg base "InvalidStations" (cA K 15) (bOf 15) 1 ["self", "index"] (spX (cA K 15) "index") := by
  obtain ⟨fd, F⟩ := fd_InvalidStations X c
  exact ⟨xcK c.x 15 (by decide), glo_all X G c.d _ (by decide +kernel), _, fd, (inK c.x 15 (by decide)).1, (inK c.x 15 (by decide)).2, ok_InvalidStations F (xcK c.x 15 (by decide)) (nofK c.x 15 (by decide)) (glo_all X G c.d _ (by decide +kernel)) (wk_of (wvK c.x).1), bn_InvalidStations F⟩
theorem kk_InvalidStations (X : K.In h) (G : h.Ns mainGlobals mg) (c : SaysM fa fn ex K) : KlsK P w K mg base "InvalidStations" (cA K 15) (bOf 15) 1 ["index"] ["self", "index"] app2 (spX (cA K 15) "index") := by
  obtain ⟨fd, F⟩ := fd_InvalidStations X c
  exact ⟨xcK c.x 15 (by decide), glo_all X G c.d _ (by decide +kernel), _, fd, _, (inK c.x 15 (by decide)).1, (inK c.x 15 (by decide)).2, ok_InvalidStations F (xcK c.x 15 (by decide)) (nofK c.x 15 (by decide)) (glo_all X G c.d _ (by decide +kernel)) (wk_of (wvK c.x).1), kb_InvalidStations F⟩
theorem fd_InvalidLinks (X : K.In h) (c : SaysM fa fn ex K) : ∃ fd, FnX K "InvalidLinks.__init__" (inClass (top 18) 0) (He.ma K (cA K 16) "__init__") fd := c.d.def_ 16 (d := dI "InvalidLinks" "InvalidLinks.__init__" (inClass (top 18) 0)) rfl
theorem kl_InvalidLinks (X : K.In h) (G : h.Ns mainGlobals mg) (c : SaysM fa fn ex K) : Kls P w K mg base "InvalidLinks" (cA K 16) (bOf 16) 1 ["self", "index"] (spX (cA K 16) "index") := by
  obtain ⟨fd, F⟩ := fd_InvalidLinks X c
  exact ⟨xcK c.x 16 (by decide), glo_all X G c.d _ (by decide +kernel), _, fd, (inK c.x 16 (by decide)).1, (inK c.x 16 (by decide)).2, ok_InvalidLinks F (xcK c.x 16 (by decide)) (nofK c.x 16 (by decide)) (glo_all X G c.d _ (by decide +kernel)) (wk_of (wvK c.x).1), bn_InvalidLinks F⟩
theorem kk_InvalidLinks (X : K.In h) (G : h.Ns mainGlobals mg) (c : SaysM fa fn ex K) : KlsK P w K mg base "InvalidLinks" (cA K 16) (bOf 16) 1 ["index"] ["self", "index"] app2 (spX (cA K 16) "index") := by
  obtain ⟨fd, F⟩ := fd_InvalidLinks X c
  exact ⟨xcK c.x 16 (by decide), glo_all X G c.d _ (by decide +kernel), _, fd, _, (inK c.x 16 (by decide)).1, (inK c.x 16 (by decide)).2, ok_InvalidLinks F (xcK c.x 16 (by decide)) (nofK c.x 16 (by decide)) (glo_all X G c.d _ (by decide +kernel)) (wk_of (wvK c.x).1), kb_InvalidLinks F⟩
theorem fd_InvalidTasks (X : K.In h) (c : SaysM fa fn ex K) : ∃ fd, FnX K "InvalidTasks.__init__" (inClass (top 19) 0) (He.ma K (cA K 17) "__init__") fd := c.d.def_ 17 (d := dI "InvalidTasks" "InvalidTasks.__init__" (inClass (top 19) 0)) rfl
theorem kl_InvalidTasks (X : K.In h) (G : h.Ns mainGlobals mg) (c : SaysM fa fn ex K) : Kls P w K mg base "InvalidTasks" (cA K 17) (bOf 17) 1 ["self", "index"] (spX (cA K 17) "index") := by
  obtain ⟨fd, F⟩ := fd_InvalidTasks X c
  exact ⟨xcK c.x 17 (by decide), glo_all X G c.d _ (by decide +kernel), _, fd, (inK c.x 17 (by decide)).1, (inK c.x 17 (by decide)).2, ok_InvalidTasks F (xcK c.x 17 (by decide)) (nofK c.x 17 (by decide)) (glo_all X G c.d _ (by decide +kernel)) (wk_of (wvK c.x).1), bn_InvalidTasks F⟩
theorem kk_InvalidTasks (X : K.In h) (G : h.Ns mainGlobals mg) (c : SaysM fa fn ex K) : KlsK P w K mg base "InvalidTasks" (cA K 17) (bOf 17) 1 ["index"] ["self", "index"] app2 (spX (cA K 17) "index") := by
  obtain ⟨fd, F⟩ := fd_InvalidTasks X c
  exact ⟨xcK c.x 17 (by decide), glo_all X G c.d _ (by decide +kernel), _, fd, _, (inK c.x 17 (by decide)).1, (inK c.x 17 (by decide)).2, ok_InvalidTasks F (xcK c.x 17 (by decide)) (nofK c.x 17 (by decide)) (glo_all X G c.d _ (by decide +kernel)) (wk_of (wvK c.x).1), kb_InvalidTasks F⟩
theorem fd_InvalidNames (X : K.In h) (c : SaysM fa fn ex K) : ∃ fd, FnX K "InvalidNames.__init__" (inClass (top 20) 0) (He.ma K (cA K 18) "__init__") fd := c.d.def_ 18 (d := dI "InvalidNames" "InvalidNames.__init__" (inClass (top 20) 0)) rfl
theorem kl_InvalidNames (X : K.In h) (G : h.Ns mainGlobals mg) (c : SaysM fa fn ex K) : Kls P w K mg base "InvalidNames" (cA K 18) (bOf 18) 1 ["self", "index"] (spX (cA K 18) "index") := by
  obtain ⟨fd, F⟩ := fd_InvalidNames X c
  exact ⟨xcK c.x 18 (by decide), glo_all X G c.d _ (by decide +kernel), _, fd, (inK c.x 18 (by decide)).1, (inK c.x 18 (by decide)).2, ok_InvalidNames F (xcK c.x 18 (by decide)) (nofK c.x 18 (by decide)) (glo_all X G c.d _ (by decide +kernel)) (wk_of (wvK c.x).1), bn_InvalidNames F⟩
theorem kk_InvalidNames (X : K.In h) (G : h.Ns mainGlobals mg) (c : SaysM fa fn ex K) : KlsK P w K mg base "InvalidNames" (cA K 18) (bOf 18) 1 ["index"] ["self", "index"] app2 (spX (cA K 18) "index") := by
  obtain ⟨fd, F⟩ := fd_InvalidNames X c
  exact ⟨xcK c.x 18 (by decide), glo_all X G c.d _ (by decide +kernel), _, fd, _, (inK c.x 18 (by decide)).1, (inK c.x 18 (by decide)).2, ok_InvalidNames F (xcK c.x 18 (by decide)) (nofK c.x 18 (by decide)) (glo_all X G c.d _ (by decide +kernel)) (wk_of (wvK c.x).1), kb_InvalidNames F⟩
theorem fd_UnknownName (X : K.In h) (c : SaysM fa fn ex K) : ∃ fd, FnX K "UnknownName.__init__" (inClass (top 22) 0) (He.ma K (cA K 19) "__init__") fd := c.d.def_ 19 (d := dI "UnknownName" "UnknownName.__init__" (inClass (top 22) 0)) rfl
theorem kl_UnknownName (X : K.In h) (G : h.Ns mainGlobals mg) (c : SaysM fa fn ex K) : Kls P w K mg base "UnknownName" (cA K 19) (bOf 19) 1 ["self", "given"] (spX (cA K 19) "given") := by
  obtain ⟨fd, F⟩ := fd_UnknownName X c
  exact ⟨xcK c.x 19 (by decide), glo_all X G c.d _ (by decide +kernel), _, fd, (inK c.x 19 (by decide)).1, (inK c.x 19 (by decide)).2, ok_UnknownName F (xcK c.x 19 (by decide)) (nofK c.x 19 (by decide)) (glo_all X G c.d _ (by decide +kernel)) (wk_of (wvK c.x).2.1), bn_UnknownName F⟩
theorem kk_UnknownName (X : K.In h) (G : h.Ns mainGlobals mg) (c : SaysM fa fn ex K) : KlsK P w K mg base "UnknownName" (cA K 19) (bOf 19) 1 ["given"] ["self", "given"] app2 (spX (cA K 19) "given") := by
  obtain ⟨fd, F⟩ := fd_UnknownName X c
  exact ⟨xcK c.x 19 (by decide), glo_all X G c.d _ (by decide +kernel), _, fd, _, (inK c.x 19 (by decide)).1, (inK c.x 19 (by decide)).2, ok_UnknownName F (xcK c.x 19 (by decide)) (nofK c.x 19 (by decide)) (glo_all X G c.d _ (by decide +kernel)) (wk_of (wvK c.x).2.1), kb_UnknownName F⟩
theorem fd_Taken (X : K.In h) (c : SaysM fa fn ex K) : ∃ fd, FnX K "Taken.__init__" (inClass (top 23) 0) (He.ma K (cA K 20) "__init__") fd := c.d.def_ 20 (d := dI "Taken" "Taken.__init__" (inClass (top 23) 0)) rfl
theorem kl_Taken (X : K.In h) (G : h.Ns mainGlobals mg) (c : SaysM fa fn ex K) : Kls P w K mg base "Taken" (cA K 20) (bOf 20) 1 ["self", "given"] (spX (cA K 20) "given") := by
  obtain ⟨fd, F⟩ := fd_Taken X c
  exact ⟨xcK c.x 20 (by decide), glo_all X G c.d _ (by decide +kernel), _, fd, (inK c.x 20 (by decide)).1, (inK c.x 20 (by decide)).2, ok_Taken F (xcK c.x 20 (by decide)) (nofK c.x 20 (by decide)) (glo_all X G c.d _ (by decide +kernel)) (wk_of (wvK c.x).2.1), bn_Taken F⟩
theorem kk_Taken (X : K.In h) (G : h.Ns mainGlobals mg) (c : SaysM fa fn ex K) : KlsK P w K mg base "Taken" (cA K 20) (bOf 20) 1 ["given"] ["self", "given"] app2 (spX (cA K 20) "given") := by
  obtain ⟨fd, F⟩ := fd_Taken X c
  exact ⟨xcK c.x 20 (by decide), glo_all X G c.d _ (by decide +kernel), _, fd, _, (inK c.x 20 (by decide)).1, (inK c.x 20 (by decide)).2, ok_Taken F (xcK c.x 20 (by decide)) (nofK c.x 20 (by decide)) (glo_all X G c.d _ (by decide +kernel)) (wk_of (wvK c.x).2.1), kb_Taken F⟩
theorem fd_InUse (X : K.In h) (c : SaysM fa fn ex K) : ∃ fd, FnX K "InUse.__init__" (inClass (top 24) 0) (He.ma K (cA K 21) "__init__") fd := c.d.def_ 21 (d := dI "InUse" "InUse.__init__" (inClass (top 24) 0)) rfl
theorem kl_InUse (X : K.In h) (G : h.Ns mainGlobals mg) (c : SaysM fa fn ex K) : Kls P w K mg base "InUse" (cA K 21) (bOf 21) 1 ["self", "index"] (spX (cA K 21) "index") := by
  obtain ⟨fd, F⟩ := fd_InUse X c
  exact ⟨xcK c.x 21 (by decide), glo_all X G c.d _ (by decide +kernel), _, fd, (inK c.x 21 (by decide)).1, (inK c.x 21 (by decide)).2, ok_InUse F (xcK c.x 21 (by decide)) (nofK c.x 21 (by decide)) (glo_all X G c.d _ (by decide +kernel)) (wk_of (wvK c.x).2.1), bn_InUse F⟩
theorem kk_InUse (X : K.In h) (G : h.Ns mainGlobals mg) (c : SaysM fa fn ex K) : KlsK P w K mg base "InUse" (cA K 21) (bOf 21) 1 ["index"] ["self", "index"] app2 (spX (cA K 21) "index") := by
  obtain ⟨fd, F⟩ := fd_InUse X c
  exact ⟨xcK c.x 21 (by decide), glo_all X G c.d _ (by decide +kernel), _, fd, _, (inK c.x 21 (by decide)).1, (inK c.x 21 (by decide)).2, ok_InUse F (xcK c.x 21 (by decide)) (nofK c.x 21 (by decide)) (glo_all X G c.d _ (by decide +kernel)) (wk_of (wvK c.x).2.1), kb_InUse F⟩
theorem fd_TooMany (X : K.In h) (c : SaysM fa fn ex K) : ∃ fd, FnX K "TooMany.__init__" (inClass (top 26) 0) (He.ma K (cA K 22) "__init__") fd := c.d.def_ 22 (d := dI "TooMany" "TooMany.__init__" (inClass (top 26) 0)) rfl
theorem kl_TooMany (X : K.In h) (G : h.Ns mainGlobals mg) (c : SaysM fa fn ex K) : Kls P w K mg base "TooMany" (cA K 22) (bOf 22) 1 ["self", "limit"] (spX (cA K 22) "limit") := by
  obtain ⟨fd, F⟩ := fd_TooMany X c
  exact ⟨xcK c.x 22 (by decide), glo_all X G c.d _ (by decide +kernel), _, fd, (inK c.x 22 (by decide)).1, (inK c.x 22 (by decide)).2, ok_TooMany F (xcK c.x 22 (by decide)) (nofK c.x 22 (by decide)) (glo_all X G c.d _ (by decide +kernel)) (wk_of (wvK c.x).2.2), bn_TooMany F⟩
theorem kk_TooMany (X : K.In h) (G : h.Ns mainGlobals mg) (c : SaysM fa fn ex K) : KlsK P w K mg base "TooMany" (cA K 22) (bOf 22) 1 ["limit"] ["self", "limit"] app2 (spX (cA K 22) "limit") := by
  obtain ⟨fd, F⟩ := fd_TooMany X c
  exact ⟨xcK c.x 22 (by decide), glo_all X G c.d _ (by decide +kernel), _, fd, _, (inK c.x 22 (by decide)).1, (inK c.x 22 (by decide)).2, ok_TooMany F (xcK c.x 22 (by decide)) (nofK c.x 22 (by decide)) (glo_all X G c.d _ (by decide +kernel)) (wk_of (wvK c.x).2.2), kb_TooMany F⟩
theorem fd_Stuck (X : K.In h) (c : SaysM fa fn ex K) : ∃ fd, FnX K "Stuck.__init__" (inClass (top 27) 0) (He.ma K (cA K 23) "__init__") fd := c.d.def_ 23 (d := dI "Stuck" "Stuck.__init__" (inClass (top 27) 0)) rfl
theorem kl_Stuck (X : K.In h) (G : h.Ns mainGlobals mg) (c : SaysM fa fn ex K) : Kls P w K mg base "Stuck" (cA K 23) (bOf 23) 1 ["self", "ring"] (spX (cA K 23) "ring") := by
  obtain ⟨fd, F⟩ := fd_Stuck X c
  exact ⟨xcK c.x 23 (by decide), glo_all X G c.d _ (by decide +kernel), _, fd, (inK c.x 23 (by decide)).1, (inK c.x 23 (by decide)).2, ok_Stuck F (xcK c.x 23 (by decide)) (nofK c.x 23 (by decide)) (glo_all X G c.d _ (by decide +kernel)) (wk_of (wvK c.x).2.2), bn_Stuck F⟩
theorem kk_Stuck (X : K.In h) (G : h.Ns mainGlobals mg) (c : SaysM fa fn ex K) : KlsK P w K mg base "Stuck" (cA K 23) (bOf 23) 1 ["ring"] ["self", "ring"] app2 (spX (cA K 23) "ring") := by
  obtain ⟨fd, F⟩ := fd_Stuck X c
  exact ⟨xcK c.x 23 (by decide), glo_all X G c.d _ (by decide +kernel), _, fd, _, (inK c.x 23 (by decide)).1, (inK c.x 23 (by decide)).2, ok_Stuck F (xcK c.x 23 (by decide)) (nofK c.x 23 (by decide)) (glo_all X G c.d _ (by decide +kernel)) (wk_of (wvK c.x).2.2), kb_Stuck F⟩
theorem fd_EarlyLink (X : K.In h) (c : SaysM fa fn ex K) : ∃ fd, FnX K "EarlyLink.__init__" (inClass (top 28) 0) (He.ma K (cA K 24) "__init__") fd := c.d.def_ 24 (d := dI "EarlyLink" "EarlyLink.__init__" (inClass (top 28) 0)) rfl
theorem kl_EarlyLink (X : K.In h) (G : h.Ns mainGlobals mg) (c : SaysM fa fn ex K) : Kls P w K mg base "EarlyLink" (cA K 24) (bOf 24) 1 ["self", "index"] (spX (cA K 24) "index") := by
  obtain ⟨fd, F⟩ := fd_EarlyLink X c
  exact ⟨xcK c.x 24 (by decide), glo_all X G c.d _ (by decide +kernel), _, fd, (inK c.x 24 (by decide)).1, (inK c.x 24 (by decide)).2, ok_EarlyLink F (xcK c.x 24 (by decide)) (nofK c.x 24 (by decide)) (glo_all X G c.d _ (by decide +kernel)) (wk_of (wvK c.x).2.2), bn_EarlyLink F⟩
theorem kk_EarlyLink (X : K.In h) (G : h.Ns mainGlobals mg) (c : SaysM fa fn ex K) : KlsK P w K mg base "EarlyLink" (cA K 24) (bOf 24) 1 ["index"] ["self", "index"] app2 (spX (cA K 24) "index") := by
  obtain ⟨fd, F⟩ := fd_EarlyLink X c
  exact ⟨xcK c.x 24 (by decide), glo_all X G c.d _ (by decide +kernel), _, fd, _, (inK c.x 24 (by decide)).1, (inK c.x 24 (by decide)).2, ok_EarlyLink F (xcK c.x 24 (by decide)) (nofK c.x 24 (by decide)) (glo_all X G c.d _ (by decide +kernel)) (wk_of (wvK c.x).2.2), kb_EarlyLink F⟩
theorem fd_NothingToUndo (X : K.In h) (c : SaysM fa fn ex K) : ∃ fd, FnX K "NothingToUndo.__init__" (inClass (top 29) 0) (He.ma K (cA K 25) "__init__") fd := c.d.def_ 25 (d := dI "NothingToUndo" "NothingToUndo.__init__" (inClass (top 29) 0)) rfl
theorem kl_NothingToUndo (X : K.In h) (G : h.Ns mainGlobals mg) (c : SaysM fa fn ex K) : Kls P w K mg base "NothingToUndo" (cA K 25) (bOf 25) 1 ["self"] (spX0 (cA K 25)) := by
  obtain ⟨fd, F⟩ := fd_NothingToUndo X c
  exact ⟨xcK c.x 25 (by decide), glo_all X G c.d _ (by decide +kernel), _, fd, (inK c.x 25 (by decide)).1, (inK c.x 25 (by decide)).2, ok_NothingToUndo F (xcK c.x 25 (by decide)) (glo_all X G c.d _ (by decide +kernel)) (wk_of (wvK c.x).2.2), bn_NothingToUndo F⟩
theorem fd_NotAsked (X : K.In h) (c : SaysM fa fn ex K) : ∃ fd, FnX K "NotAsked.__init__" (inClass (top 30) 0) (He.ma K (cA K 26) "__init__") fd := c.d.def_ 26 (d := dI "NotAsked" "NotAsked.__init__" (inClass (top 30) 0)) rfl
theorem kl_NotAsked (X : K.In h) (G : h.Ns mainGlobals mg) (c : SaysM fa fn ex K) : Kls P w K mg base "NotAsked" (cA K 26) (bOf 26) 1 ["self", "index"] (spX (cA K 26) "index") := by
  obtain ⟨fd, F⟩ := fd_NotAsked X c
  exact ⟨xcK c.x 26 (by decide), glo_all X G c.d _ (by decide +kernel), _, fd, (inK c.x 26 (by decide)).1, (inK c.x 26 (by decide)).2, ok_NotAsked F (xcK c.x 26 (by decide)) (nofK c.x 26 (by decide)) (glo_all X G c.d _ (by decide +kernel)) (wk_of (wvK c.x).2.2), bn_NotAsked F⟩
theorem kk_NotAsked (X : K.In h) (G : h.Ns mainGlobals mg) (c : SaysM fa fn ex K) : KlsK P w K mg base "NotAsked" (cA K 26) (bOf 26) 1 ["index"] ["self", "index"] app2 (spX (cA K 26) "index") := by
  obtain ⟨fd, F⟩ := fd_NotAsked X c
  exact ⟨xcK c.x 26 (by decide), glo_all X G c.d _ (by decide +kernel), _, fd, _, (inK c.x 26 (by decide)).1, (inK c.x 26 (by decide)).2, ok_NotAsked F (xcK c.x 26 (by decide)) (nofK c.x 26 (by decide)) (glo_all X G c.d _ (by decide +kernel)) (wk_of (wvK c.x).2.2), kb_NotAsked F⟩
theorem fd_Broken (X : K.In h) (c : SaysM fa fn ex K) : ∃ fd, FnX K "Broken.__init__" (inClass (top 31) 0) (He.ma K (cA K 27) "__init__") fd := c.d.def_ 27 (d := dI "Broken" "Broken.__init__" (inClass (top 31) 0)) rfl
theorem kl_Broken (X : K.In h) (G : h.Ns mainGlobals mg) (c : SaysM fa fn ex K) : Kls P w K mg base "Broken" (cA K 27) (bOf 27) 1 ["self", "index", "shown"] (spX2 (cA K 27) "index" "shown") := by
  obtain ⟨fd, F⟩ := fd_Broken X c
  exact ⟨xcK c.x 27 (by decide), glo_all X G c.d _ (by decide +kernel), _, fd, (inK c.x 27 (by decide)).1, (inK c.x 27 (by decide)).2, ok_Broken F (xcK c.x 27 (by decide)) (ex3 c.x 27 (by decide) (by decide)).2.2.2.1 (ex3 c.x 27 (by decide) (by decide)).2.2.2.2 (glo_all X G c.d _ (by decide +kernel)) (wk_of (wvK c.x).2.2), bn_Broken F⟩
theorem kk_Broken (X : K.In h) (G : h.Ns mainGlobals mg) (c : SaysM fa fn ex K) : KlsK P w K mg base "Broken" (cA K 27) (bOf 27) 1 ["shown", "index"] ["self", "index", "shown"] appR (spX2 (cA K 27) "index" "shown") := by
  obtain ⟨fd, F⟩ := fd_Broken X c
  exact ⟨xcK c.x 27 (by decide), glo_all X G c.d _ (by decide +kernel), _, fd, _, (inK c.x 27 (by decide)).1, (inK c.x 27 (by decide)).2, ok_Broken F (xcK c.x 27 (by decide)) (ex3 c.x 27 (by decide) (by decide)).2.2.2.1 (ex3 c.x 27 (by decide) (by decide)).2.2.2.2 (glo_all X G c.d _ (by decide +kernel)) (wk_of (wvK c.x).2.2), kb_Broken F⟩
theorem mkT (X : K.In h) (G : h.Ns mainGlobals mg) (c : SaysM fa fn ex K) : Ts P w K mg base where
  x := c.x
  g := glo_all X G c.d
  n_len := He.free_ok X G (c.d.fact 43 (f := .free "len") rfl)
  n_int := He.free_ok X G (c.d.fact 44 (f := .free "int") rfl)
  n_abs := He.free_ok X G (c.d.fact 45 (f := .free "abs") rfl)
  n_range := He.free_ok X G (c.d.fact 46 (f := .free "range") rfl)
  n_repr := He.free_ok X G (c.d.fact 47 (f := .free "repr") rfl)
  n_isinstance := He.free_ok X G (c.d.fact 48 (f := .free "isinstance") rfl)
  n_str := He.free_ok X G (c.d.fact 49 (f := .free "str") rfl)
  n_list := He.free_ok X G (c.d.fact 50 (f := .free "list") rfl)
  n_max := He.free_ok X G (c.d.fact 51 (f := .free "max") rfl)
  n_min := He.free_ok X G (c.d.fact 52 (f := .free "min") rfl)
  n_ValueError := He.free_ok X G (c.d.fact 53 (f := .free "ValueError") rfl)
  n_LookupError := He.free_ok X G (c.d.fact 54 (f := .free "LookupError") rfl)
  n_ArithmeticError := He.free_ok X G (c.d.fact 55 (f := .free "ArithmeticError") rfl)
  c_MOST_STATIONS := He.int_ok X G (c.d.fact 56 (f := .int "MOST_STATIONS" 6) rfl)
  c_MOST_LINKS := He.int_ok X G (c.d.fact 57 (f := .int "MOST_LINKS" 12) rfl)
  c_MOST_HANDS := He.int_ok X G (c.d.fact 58 (f := .int "MOST_HANDS" 4) rfl)
  c_MOST_STOCK := He.int_ok X G (c.d.fact 59 (f := .int "MOST_STOCK" 5) rfl)
  c_MOST_NUMBER := He.int_ok X G (c.d.fact 60 (f := .int "MOST_NUMBER" 1000) rfl)
  c_MOST_LAGS := He.int_ok X G (c.d.fact 61 (f := .int "MOST_LAGS" 2000) rfl)
  k0 := kl_InvalidPeriod X G c
  kk0 := kk_InvalidPeriod X G c
  k1 := kl_InvalidNumber X G c
  kk1 := kk_InvalidNumber X G c
  k2 := kl_InvalidText X G c
  kk2 := kk_InvalidText X G c
  k3 := kl_InvalidName X G c
  kk3 := kk_InvalidName X G c
  k4 := kl_InvalidHands X G c
  kk4 := kk_InvalidHands X G c
  k5 := kl_InvalidStock X G c
  kk5 := kk_InvalidStock X G c
  k6 := kl_InvalidFlag X G c
  kk6 := kk_InvalidFlag X G c
  k7 := kl_InvalidOutlet X G c
  kk7 := kk_InvalidOutlet X G c
  k8 := kl_InvalidIndex X G c
  kk8 := kk_InvalidIndex X G c
  k9 := kl_InvalidTimes X G c
  kk9 := kk_InvalidTimes X G c
  k10 := kl_InvalidClaim X G c
  kk10 := kk_InvalidClaim X G c
  k11 := kl_NotLags X G c
  kk11 := kk_NotLags X G c
  k12 := kl_NotALine X G c
  kk12 := kk_NotALine X G c
  k13 := kl_NotALink X G c
  kk13 := kk_NotALink X G c
  k14 := kl_InvalidNumbers X G c
  kk14 := kk_InvalidNumbers X G c
  k15 := kl_InvalidStations X G c
  kk15 := kk_InvalidStations X G c
  k16 := kl_InvalidLinks X G c
  kk16 := kk_InvalidLinks X G c
  k17 := kl_InvalidTasks X G c
  kk17 := kk_InvalidTasks X G c
  k18 := kl_InvalidNames X G c
  kk18 := kk_InvalidNames X G c
  k19 := kl_UnknownName X G c
  kk19 := kk_UnknownName X G c
  k20 := kl_Taken X G c
  kk20 := kk_Taken X G c
  k21 := kl_InUse X G c
  kk21 := kk_InUse X G c
  k22 := kl_TooMany X G c
  kk22 := kk_TooMany X G c
  k23 := kl_Stuck X G c
  kk23 := kk_Stuck X G c
  k24 := kl_EarlyLink X G c
  kk24 := kk_EarlyLink X G c
  k25 := kl_NothingToUndo X G c
  k26 := kl_NotAsked X G c
  kk26 := kk_NotAsked X G c
  k27 := kl_Broken X G c
  kk27 := kk_Broken X G c
end
end K01
end

section
set_option Elab.async false
set_option linter.all false
set_option maxRecDepth 100000
set_option maxHeartbeats 4000000
namespace K01
open PySem PySem.Spec PyProof.Rows L2 My Evl
/-! ### exceptions made, one of each class of a list -/
def XF (H : Hp) (a C : Addr) (f : Str) (y : V) : Prop := ∃ dx : Addr, H a = some (exo a C (some dx)) ∧ H dx = some (exd dx [(f, y)])
theorem XF.mo {H H' : Hp} {a C : Addr} {f : Str} {y : V} (e : Ex H H') : XF H a C f y → XF H' a C f y := fun ⟨dx, h1, h2⟩ => ⟨dx, e _ _ h1, e _ _ h2⟩
theorem XF.at {H : Hp} {a C : Addr} {f : Str} {y : V} : XF H a C f y → XAt H a C := fun ⟨dx, h1, h2⟩ => .inr ⟨dx, _, h1, h2⟩
def Mades (K : PySem.W.Frag) (H : Hp) (y : V) : List Addr → List Nat → Prop
  | [], [] => True
  | a :: as, j :: js => XF H a (cA K j) (fld j) y ∧ Mades K H y as js
  | _, _ => False
section
variable {K : PySem.W.Frag} {y : V}
theorem Mades.len {H : Hp} : ∀ {as : List Addr} {js : List Nat}, Mades K H y as js → as.length = js.length
  | [], [], _ => rfl
  | _ :: _, _ :: _, h => congrArg Nat.succ (Mades.len h.2)
  | [], _ :: _, h => h.elim
  | _ :: _, [], h => h.elim
theorem Mades.ex {H H' : Hp} (e : Ex H H') : ∀ {as : List Addr} {js : List Nat}, Mades K H y as js → Mades K H' y as js
  | [], [], _ => True.intro
  | _ :: _, _ :: _, h => ⟨h.1.mo e, Mades.ex e h.2⟩
  | [], _ :: _, h => h.elim
  | _ :: _, [], h => h.elim
theorem Mades.app {H : Hp} {bs : List Addr} {ks : List Nat} (g : Mades K H y bs ks) : ∀ {as : List Addr} {js : List Nat}, Mades K H y as js → Mades K H y (as ++ bs) (js ++ ks)
  | [], [], _ => g
  | _ :: _, _ :: _, h => ⟨h.1, Mades.app g h.2⟩
  | [], _ :: _, h => h.elim
  | _ :: _, [], h => h.elim
theorem Mades.get {H : Hp} : ∀ {as : List Addr} {js : List Nat} (i j : Nat), Mades K H y as js → js[i]? = some j → ∃ a, as[i]? = some a ∧ XF H a (cA K j) (fld j) y
  | [], [], i, j, _, h => by simp at h
  | a :: _, _ :: _, 0, j, h, e => by
    cases e
    exact ⟨a, rfl, h.1⟩
  | _ :: _, _ :: _, i + 1, j, h, e => Mades.get i j h.2 e
  | [], _ :: _, _, _, h, _ => h.elim
  | _ :: _, [], _, _, h, _ => h.elim
def One (C : Addr) (f : Str) (m : TE) : Prop := ∀ (σ : L2.St) (y : V) (H : Hp) (Q : VK), σ[0]? = some (some y) → (∀ a H', H a = none → Ex H H' → XF H' a C f y → Q (.ref a) H') → m σ H Q
theorem xf_made {H : Hp} {a C dx : Addr} {f : Str} {y : V} (ha : H a = none) (n : upd H a (exo a C none) dx = none) (ne : dx ≠ a) :
    Ex H (upd (upd (upd H a (exo a C none)) dx (exd dx [(f, y)])) a (exo a C (some dx))) ∧ XF (upd (upd (upd H a (exo a C none)) dx (exd dx [(f, y)])) a (exo a C (some dx))) a C f y := by
  rw [upd_ne ne] at n
  refine ⟨fun b o hb => ?_, dx, upd_same, ?_⟩
  · rw [upd_ne (ne_of_none hb ha), upd_ne (ne_of_none hb n), upd_ne (ne_of_none hb ha)]
    exact hb
  · rw [upd_ne ne]
    exact upd_same
theorem one_xm {C : Addr} {f : Str} : One C f (tXm C (spX C f) (tCons (tVar 0) tNil)) := fun σ y H Q h0 k =>
  ⟨y, h0, (by show 1 ≤ 1000; decide), fun a ha => ⟨a, y, rfl, upd_same, fun dx n ne => ⟨rfl, k a _ ha (xf_made ha n ne).1 (xf_made ha n ne).2⟩⟩⟩
theorem one_xk {C : Addr} {f : Str} : One C f (tXk C 1 (spX C f) app2 (tCons (tVar 0) tNil)) := fun σ y H Q h0 k =>
  ⟨y, h0, rfl, fun a ha => ⟨a, y, rfl, upd_same, fun dx n ne => ⟨rfl, k a _ ha (xf_made ha n ne).1 (xf_made ha n ne).2⟩⟩⟩
def tMkG (f : Nat → TE) : List Nat → TA
  | [] => tNil
  | j :: r => tCons (f j) (tMkG f r)
theorem mk_read {f : Nat → TE} (hf : ∀ j, One (cA K j) (fld j) (f j)) {σ : L2.St} (h0 : σ[0]? = some (some y)) :
    ∀ (js : List Nat) (H : Hp) (Q : List V → Hp → Prop), (∀ as H', Ex H H' → Mades K H' y as js → Q (as.map V.ref) H') → tMkG f js σ H Q
  | [], H, Q, k => k [] H (Ex.refl H) True.intro
  | j :: r, H, Q, k => hf j σ y H _ h0 fun a H1 _ e1 x1 => mk_read hf h0 r H1 _ fun as H2 e2 m => k (a :: as) H2 (e1.trans e2) ⟨x1.mo e2, m⟩
def t_mid (f : Nat → TE) : List (List Nat) → List Nat → TS
  | [], l => tRet (tOp rCat (tVar 1) (tLst (tMkG f l)))
  | m :: r, l => tSeq (tAsg (tOp rCat (tVar 1) (tLst (tMkG f m))) (gName 1)) (t_mid f r l)
def t_with (f : Nat → TE) (s0 : List Nat) (mid : List (List Nat)) (l : List Nat) : TS := tSeq (tAsg (tLst (tMkG f s0)) (gName 1)) (t_mid f mid l)
/-- a function that makes one of each class of js, with the value y -/
def spMk (K : PySem.W.Frag) (js : List Nat) : Sp := fun vs H Q _ => ∃ y, vs = [y] ∧ ∀ p as H', H p = none → Ex H H' → H' p = some (.lst (as.map V.ref)) → Mades K H' y as js → Q (.ref p) H'
theorem cat_read {f : Nat → TE} (hf : ∀ j, One (cA K j) (fld j) (f j)) {l : Addr} {as : List Addr} {js0 js : List Nat} {H : Hp} {Q : VK} (hl : H l = some (.lst (as.map V.ref))) (hm : Mades K H y as js0) (hz : js0.length + js.length ≤ 1000)
    (k : ∀ l' as' H', H l' = none → Ex H H' → H' l' = some (.lst (as'.map V.ref)) → Mades K H' y as' (js0 ++ js) → Q (.ref l') H') : tOp rCat (tVar 1) (tLst (tMkG f js)) [some y, some (.ref l)] H Q := by
  refine ⟨_, rfl, ?_⟩
  show tMkG f js [some y, some (.ref l)] H _
  refine mk_read hf rfl js H _ fun bs H1 e1 m1 => ?_
  have l0 := hm.len
  have l1 := m1.len
  refine ⟨?_, fun p hp => ⟨l, p, as.map V.ref, bs.map V.ref, rfl, rfl, ?_, upd_same, ?_, fun q hq => ?_⟩⟩
  · rw [List.length_map]
    exact sz_of (by omega)
  · exact Ex.new hp l _ (e1 _ _ hl)
  · rw [List.length_map, List.length_map]
    exact sz_of (by omega)
  · have e2 : Ex H1 (upd H1 p (.lst (bs.map V.ref))) := Ex.new hp
    refine k q (as ++ bs) _ (fresh_back e1 (fresh_back e2 hq)) (e1.trans (e2.trans (Ex.new hq))) ?_ ?_
    · rw [upd_same, List.map_append]
    · exact Mades.app (m1.ex (e2.trans (Ex.new hq))) (hm.ex (e1.trans (e2.trans (Ex.new hq))))
theorem mid_read {f : Nat → TE} (hf : ∀ j, One (cA K j) (fld j) (f j)) {Q : VK} {H0 : Hp} {total : List Nat} (ht : total.length ≤ 1000)
    (k : ∀ p as H', H0 p = none → Ex H0 H' → H' p = some (.lst (as.map V.ref)) → Mades K H' y as total → Q (.ref p) H') :
    ∀ (mid : List (List Nat)) (sl js0 : List Nat) (l : Addr) (as : List Addr) (H : Hp), total = js0 ++ (mid.flatten ++ sl) → Ex H0 H → H l = some (.lst (as.map V.ref)) → Mades K H y as js0 →
      t_mid f mid sl { nx := fun _ H' => Q .non H', rt := Q } [some y, some (.ref l)] H
  | [], sl, js0, l, as, H, e, ex, hl, hm => by
    have z : js0.length + sl.length ≤ 1000 := by
      rw [e] at ht
      simp only [List.flatten_nil, List.nil_append, List.length_append] at ht
      exact ht
    refine cat_read hf hl hm z fun l' as' H' n e' h' m' => k l' as' H' (fresh_back ex n) (ex.trans e') h' ?_
    rw [e]
    exact m'
  | m :: r, sl, js0, l, as, H, e, ex, hl, hm => by
    have z : js0.length + m.length ≤ 1000 := by
      rw [e] at ht
      simp only [List.flatten_cons, List.length_append] at ht
      omega
    refine cat_read hf hl hm z fun l' as' H' n e' h' m' => ?_
    exact mid_read hf ht k r sl (js0 ++ m) l' as' H' (by rw [e, List.flatten_cons]; simp only [List.append_assoc]) (ex.trans e') h' m'
theorem pure_with {f : Nat → TE} (hf : ∀ j, One (cA K j) (fld j) (f j)) (s0 : List Nat) (mid : List (List Nat)) (sl js : List Nat) (e : js = s0 ++ (mid.flatten ++ sl)) (ht : js.length ≤ 1000) (N : List Str) (hN : N.length = 2)
    (vs : List V) (H : Hp) (Q : VK) (E : XK) (h : spMk K js vs H Q E) : t_with f s0 mid sl { nx := fun _ H' => Q .non H', rt := Q } (L2.start N vs) H := by
  obtain ⟨y, rfl, k⟩ := h
  have es : L2.start N [y] = [some y, none] := by
    unfold L2.start
    rw [hN]
    rfl
  rw [es]
  show tMkG f s0 [some y, none] H _
  refine mk_read hf rfl s0 H _ fun bs H1 e1 m1 => ?_
  have l1 := m1.len
  refine ⟨?_, fun p hp => ?_⟩
  · rw [List.length_map]
    rw [e] at ht
    simp only [List.length_append] at ht
    exact sz_of (by omega)
  · exact mid_read hf ht k mid sl s0 p bs _ e (e1.trans (Ex.new hp)) upd_same (m1.ex (Ex.new hp))
end
end K01
end

section
set_option Elab.async false
set_option linter.all false
set_option maxRecDepth 100000
set_option maxHeartbeats 4000000
namespace K01
open PySem PySem.Spec PyProof.Rows L2 My Evl
section
variable {P : Program} {w : World} {K : PySem.W.Frag} {mg : Str → Option Value} {base h : Heap} {f : Addr} {fd : FuncData}
abbrev wkC (K : PySem.W.Frag) (j : Nat) : TE := tXm (cA K j) (spX (cA K j) (fld j)) (tCons (tVar 0) tNil)
abbrev wkK (K : PySem.W.Frag) (j : Nat) : TE := tXk (cA K j) ([fld j] : List Str).length (spX (cA K j) (fld j)) app2 (tCons (tVar 0) tNil)
abbrev jG : List Nat := [0, 1, 2, 3, 4, 5, 6, 7, 8, 9, 10, 11, 12, 13, 19, 20]
abbrev jI : List Nat := [14, 15, 16, 17, 18, 21, 24, 26]
theorem sc_law_cell : FnScope ["_law_cells", "_law_k", "_law_seed", "_law_part_here"] ["_law_cells", "_law_k"] (defScope (top 39)) := ⟨rfl, rfl, rfl, by decide +kernel, rfl, by decide +kernel, by decide +kernel⟩
theorem ok_law_cell (T : Ts P w K mg base)  (F : FnT K "_law_cell" (top 39) f fd) : FnOk P w K mg base CX0 1 f fd ["_law_cells", "_law_k"] (My.spCell K) := by
  refine F.ok sc_law_cell (fun vs H Q E h => ?_) (fun cdv A outer s H vs Q E hr h => ⟨t_cell K, PSs.nox ?_, pure_cell vs H Q E h⟩)
  · obtain ⟨a, ns, k, rfl, _⟩ := h
    rfl
  · exact (pss_cons (ps_if (pt_cmpR op_lt (pv 1) (pe_callB call_len_seq (by rfl) T.n_len (by decide +kernel) (pa_cons (pv 0) pa_nil)) (nomark _)) (pss_one (ps_ret (pe_ix ix_list (pv 0) (pv 1) (fun _ _ => rfl)))) pss_nil)
      (pss_cons (ps_set (i := 2) sc_law_cell.nd rfl (Or.inl rfl) (pe_op op_add pe_int (pe_op op_mul pe_int (pv 1))))
      (pss_cons (ps_for PassesOwn.never rfl (pi_list (pe_slice sl_list (pv 0) po_none (po_some pe_int))) (pg_name (i := 3) sc_law_cell.nd rfl (Or.inl rfl)) (pss_one (ps_set (i := 2) sc_law_cell.nd rfl (Or.inl rfl) (pe_op op_mod (pe_callTy call_int1 (by rfl) T.n_int (by decide +kernel) (pa_cons (pe_op op_add (pe_op op_mul (pv 2) pe_int) (pv 3)) pa_nil)) pe_int))))
      (pss_one (ps_ret (pv 2))))))
theorem cal_law_cell (X : K.In h) (G : h.Ns mainGlobals mg) (c : SaysM fa fn ex K) : Cal P w K mg base "_law_cell" 1 ["_law_cells", "_law_k"] (My.spCell K) := by
  obtain ⟨fd, F⟩ := c.d.def_ 28 (d := dG "_law_cell" (top 39)) rfl
  exact ⟨_, fd, ok_law_cell (mkT X G c)  F, glo_all X G c.d _ (by decide +kernel), F.kp, F.bindsN fun _ _ _ _ _ _ us hl => match us, hl with | [_, _], _ => rfl⟩
theorem sc_law_well : FnScope ["_law_cells", "_law_k", "_law_cell_here", "_law_figures"] ["_law_cells", "_law_k"] (defScope (top 40)) := ⟨rfl, rfl, rfl, by decide +kernel, rfl, by decide +kernel, by decide +kernel⟩
theorem ok_law_well (T : Ts P w K mg base) (FC : Cal P w K mg base "_law_cell" 1 ["_law_cells", "_law_k"] (My.spCell K)) (F : FnT K "_law_well" (top 40) f fd) : FnOk P w K mg base CX0 2 f fd ["_law_cells", "_law_k"] (spWell K) := by
  refine F.ok sc_law_well (fun vs H Q E h => ?_) (fun cdv A outer s H vs Q E hr h => ⟨t_well K, PSs.nox ?_, pure_well vs H Q E h⟩)
  · obtain ⟨a, ns, k, rfl, _⟩ := h
    rfl
  · exact (pss_cons (ps_set (i := 2) sc_law_well.nd rfl (Or.inl rfl) (pe_fn FC hr rfl (pa_cons (pv 0) (pa_cons (pv 1) pa_nil))))
      (pss_cons (ps_set (i := 3) sc_law_well.nd rfl (Or.inl rfl) (pe_ifExp (PW.pt (pw_or (pt_cmpR op_lt (pv 2) pe_int (nomark _)) (pw_or1 (pt_cmpR op_ge (pv 2) (pe_op op_pow pe_int pe_int) (nomark _))))) (pe_callB call_abs (by rfl) T.n_abs (by decide +kernel) (pa_cons (pv 2) pa_nil)) pe_int))
      (pss_one (ps_ret (pe_lst (pa_cons (pe_op op_mod (pe_callTy call_int1 (by rfl) T.n_int (by decide +kernel) (pa_cons (pe_op op_add (pe_op op_mul (pv 2) pe_int) pe_int) pa_nil)) pe_int) (pa_cons (pv 3) (pa_cons pe_int pa_nil))))))))
theorem cal_law_well (X : K.In h) (G : h.Ns mainGlobals mg) (c : SaysM fa fn ex K) : Cal P w K mg base "_law_well" 2 ["_law_cells", "_law_k"] (spWell K) := by
  obtain ⟨fd, F⟩ := c.d.def_ 29 (d := dG "_law_well" (top 40)) rfl
  exact ⟨_, fd, ok_law_well (mkT X G c) (cal_law_cell X G c) F, glo_all X G c.d _ (by decide +kernel), F.kp, F.bindsN fun _ _ _ _ _ _ us hl => match us, hl with | [_, _], _ => rfl⟩
theorem sc_law_draw : FnScope ["_law_well_here", "_law_many", "_law_figure"] ["_law_well_here", "_law_many"] (defScope (top 41)) := ⟨rfl, rfl, rfl, by decide +kernel, rfl, by decide +kernel, by decide +kernel⟩
theorem ok_law_draw (T : Ts P w K mg base)  (F : FnT K "_law_draw" (top 41) f fd) : FnOk P w K mg base CX0 1 f fd ["_law_well_here", "_law_many"] spDraw := by
  refine F.ok sc_law_draw (fun vs H Q E h => ?_) (fun cdv A outer s H vs Q E hr h => ⟨t_draw K, PSs.nox ?_, pure_draw vs H Q E h⟩)
  · obtain ⟨p, m, rfl, _⟩ := h
    rfl
  · exact (pss_cons (ps_asg (pe_op op_add (pe_ix ix_list (pv 0) pe_int (fun _ _ => rfl)) pe_int) (pg_sub (pv 0) pe_int set_list))
      (pss_cons (ps_asg (pe_op op_mod (pe_callTy call_int1 (by rfl) T.n_int (by decide +kernel) (pa_cons (pe_op op_add (pe_op op_add (pe_op op_pow (pe_ix ix_list (pv 0) pe_int (fun _ _ => rfl)) pe_int) (pe_op op_mul pe_int (pe_ix ix_list (pv 0) pe_int (fun _ _ => rfl)))) pe_int) pa_nil)) pe_int) (pg_sub (pv 0) pe_int set_list))
      (pss_cons (ps_if (pt_cmpR op_gt (pe_ix ix_list (pv 0) pe_int (fun _ _ => rfl)) pe_int (nomark _)) (pss_cons (ps_set (i := 2) sc_law_draw.nd rfl (Or.inl rfl) (pe_op op_mod (pe_callTy call_int1 (by rfl) T.n_int (by decide +kernel) (pa_cons (pe_ix ix_list (pv 0) pe_int (fun _ _ => rfl)) pa_nil)) (pv 1)))
      (pss_cons (ps_asg (pe_op op_fdiv (pe_callTy call_int1 (by rfl) T.n_int (by decide +kernel) (pa_cons (pe_ix ix_list (pv 0) pe_int (fun _ _ => rfl)) pa_nil)) (pv 1)) (pg_sub (pv 0) pe_int set_list))
      (pss_one (ps_ret (pv 2))))) pss_nil)
      (pss_one (ps_ret (pe_op op_mod (pe_callTy call_int1 (by rfl) T.n_int (by decide +kernel) (pa_cons (pe_op op_fdiv (pe_ix ix_list (pv 0) pe_int (fun _ _ => rfl)) pe_int) pa_nil)) (pv 1)))))))
theorem cal_law_draw (X : K.In h) (G : h.Ns mainGlobals mg) (c : SaysM fa fn ex K) : Cal P w K mg base "_law_draw" 1 ["_law_well_here", "_law_many"] spDraw := by
  obtain ⟨fd, F⟩ := c.d.def_ 30 (d := dG "_law_draw" (top 41)) rfl
  exact ⟨_, fd, ok_law_draw (mkT X G c)  F, glo_all X G c.d _ (by decide +kernel), F.kp, F.bindsN fun _ _ _ _ _ _ us hl => match us, hl with | [_, _], _ => rfl⟩
theorem sc_law_marks : FnScope ["_law_e", "_law_marks_here"] ["_law_e"] (defScope (top 43)) := ⟨rfl, rfl, rfl, by decide +kernel, rfl, by decide +kernel, by decide +kernel⟩
theorem ok_law_marks (T : Ts P w K mg base)  (F : FnT K "_law_marks" (top 43) f fd) : FnOk P w K mg base CX0 1 f fd ["_law_e"] (spMarks K) := by
  refine F.ok sc_law_marks (fun vs H Q E h => ?_) (fun cdv A outer s H vs Q E hr h => ⟨t_marks K, PSs.nox ?_, pure_marks T.x vs H Q E h⟩)
  · obtain ⟨a, i, rfl, _⟩ := h
    rfl
  · exact (pss_cons (ps_set (i := 1) sc_law_marks.nd rfl (Or.inl rfl) (pe_lst (pa_cons (pe_callB call_xis (by rfl) T.n_isinstance (by decide +kernel) (pa_cons (pv 0) (pa_cons (pe_glob rfl (T.g "InvalidPeriod" (by decide +kernel)) rfl) pa_nil))) (pa_cons (pe_callB call_xis (by rfl) T.n_isinstance (by decide +kernel) (pa_cons (pv 0) (pa_cons (pe_glob rfl (T.g "InvalidNumber" (by decide +kernel)) rfl) pa_nil))) (pa_cons (pe_callB call_xis (by rfl) T.n_isinstance (by decide +kernel) (pa_cons (pv 0) (pa_cons (pe_glob rfl (T.g "InvalidText" (by decide +kernel)) rfl) pa_nil))) pa_nil)))))
      (pss_cons (ps_set (i := 1) sc_law_marks.nd rfl (Or.inl rfl) (pe_op op_cat (pv 1) (pe_lst (pa_cons (pe_callB call_xis (by rfl) T.n_isinstance (by decide +kernel) (pa_cons (pv 0) (pa_cons (pe_glob rfl (T.g "InvalidName" (by decide +kernel)) rfl) pa_nil))) (pa_cons (pe_callB call_xis (by rfl) T.n_isinstance (by decide +kernel) (pa_cons (pv 0) (pa_cons (pe_glob rfl (T.g "InvalidHands" (by decide +kernel)) rfl) pa_nil))) pa_nil)))))
      (pss_cons (ps_set (i := 1) sc_law_marks.nd rfl (Or.inl rfl) (pe_op op_cat (pv 1) (pe_lst (pa_cons (pe_callB call_xis (by rfl) T.n_isinstance (by decide +kernel) (pa_cons (pv 0) (pa_cons (pe_glob rfl (T.g "InvalidStock" (by decide +kernel)) rfl) pa_nil))) (pa_cons (pe_callB call_xis (by rfl) T.n_isinstance (by decide +kernel) (pa_cons (pv 0) (pa_cons (pe_glob rfl (T.g "InvalidFlag" (by decide +kernel)) rfl) pa_nil))) pa_nil)))))
      (pss_cons (ps_set (i := 1) sc_law_marks.nd rfl (Or.inl rfl) (pe_op op_cat (pv 1) (pe_lst (pa_cons (pe_callB call_xis (by rfl) T.n_isinstance (by decide +kernel) (pa_cons (pv 0) (pa_cons (pe_glob rfl (T.g "InvalidOutlet" (by decide +kernel)) rfl) pa_nil))) (pa_cons (pe_callB call_xis (by rfl) T.n_isinstance (by decide +kernel) (pa_cons (pv 0) (pa_cons (pe_glob rfl (T.g "InvalidIndex" (by decide +kernel)) rfl) pa_nil))) pa_nil)))))
      (pss_cons (ps_set (i := 1) sc_law_marks.nd rfl (Or.inl rfl) (pe_op op_cat (pv 1) (pe_lst (pa_cons (pe_callB call_xis (by rfl) T.n_isinstance (by decide +kernel) (pa_cons (pv 0) (pa_cons (pe_glob rfl (T.g "InvalidTimes" (by decide +kernel)) rfl) pa_nil))) (pa_cons (pe_callB call_xis (by rfl) T.n_isinstance (by decide +kernel) (pa_cons (pv 0) (pa_cons (pe_glob rfl (T.g "InvalidClaim" (by decide +kernel)) rfl) pa_nil))) (pa_cons (pe_callB call_xis (by rfl) T.n_isinstance (by decide +kernel) (pa_cons (pv 0) (pa_cons (pe_glob rfl (T.g "NotLags" (by decide +kernel)) rfl) pa_nil))) pa_nil))))))
      (pss_cons (ps_set (i := 1) sc_law_marks.nd rfl (Or.inl rfl) (pe_op op_cat (pv 1) (pe_lst (pa_cons (pe_callB call_xis (by rfl) T.n_isinstance (by decide +kernel) (pa_cons (pv 0) (pa_cons (pe_glob rfl (T.g "NotALine" (by decide +kernel)) rfl) pa_nil))) (pa_cons (pe_callB call_xis (by rfl) T.n_isinstance (by decide +kernel) (pa_cons (pv 0) (pa_cons (pe_glob rfl (T.g "NotALink" (by decide +kernel)) rfl) pa_nil))) (pa_cons (pe_callB call_xis (by rfl) T.n_isinstance (by decide +kernel) (pa_cons (pv 0) (pa_cons (pe_glob rfl (T.g "InvalidNumbers" (by decide +kernel)) rfl) pa_nil))) pa_nil))))))
      (pss_cons (ps_set (i := 1) sc_law_marks.nd rfl (Or.inl rfl) (pe_op op_cat (pv 1) (pe_lst (pa_cons (pe_callB call_xis (by rfl) T.n_isinstance (by decide +kernel) (pa_cons (pv 0) (pa_cons (pe_glob rfl (T.g "InvalidStations" (by decide +kernel)) rfl) pa_nil))) (pa_cons (pe_callB call_xis (by rfl) T.n_isinstance (by decide +kernel) (pa_cons (pv 0) (pa_cons (pe_glob rfl (T.g "InvalidLinks" (by decide +kernel)) rfl) pa_nil))) pa_nil)))))
      (pss_cons (ps_set (i := 1) sc_law_marks.nd rfl (Or.inl rfl) (pe_op op_cat (pv 1) (pe_lst (pa_cons (pe_callB call_xis (by rfl) T.n_isinstance (by decide +kernel) (pa_cons (pv 0) (pa_cons (pe_glob rfl (T.g "InvalidTasks" (by decide +kernel)) rfl) pa_nil))) (pa_cons (pe_callB call_xis (by rfl) T.n_isinstance (by decide +kernel) (pa_cons (pv 0) (pa_cons (pe_glob rfl (T.g "InvalidNames" (by decide +kernel)) rfl) pa_nil))) pa_nil)))))
      (pss_cons (ps_set (i := 1) sc_law_marks.nd rfl (Or.inl rfl) (pe_op op_cat (pv 1) (pe_lst (pa_cons (pe_callB call_xis (by rfl) T.n_isinstance (by decide +kernel) (pa_cons (pv 0) (pa_cons (pe_glob rfl (T.g "UnknownName" (by decide +kernel)) rfl) pa_nil))) (pa_cons (pe_callB call_xis (by rfl) T.n_isinstance (by decide +kernel) (pa_cons (pv 0) (pa_cons (pe_glob rfl (T.g "Taken" (by decide +kernel)) rfl) pa_nil))) (pa_cons (pe_callB call_xis (by rfl) T.n_isinstance (by decide +kernel) (pa_cons (pv 0) (pa_cons (pe_glob rfl (T.g "InUse" (by decide +kernel)) rfl) pa_nil))) pa_nil))))))
      (pss_cons (ps_set (i := 1) sc_law_marks.nd rfl (Or.inl rfl) (pe_op op_cat (pv 1) (pe_lst (pa_cons (pe_callB call_xis (by rfl) T.n_isinstance (by decide +kernel) (pa_cons (pv 0) (pa_cons (pe_glob rfl (T.g "TooMany" (by decide +kernel)) rfl) pa_nil))) (pa_cons (pe_callB call_xis (by rfl) T.n_isinstance (by decide +kernel) (pa_cons (pv 0) (pa_cons (pe_glob rfl (T.g "Stuck" (by decide +kernel)) rfl) pa_nil))) (pa_cons (pe_callB call_xis (by rfl) T.n_isinstance (by decide +kernel) (pa_cons (pv 0) (pa_cons (pe_glob rfl (T.g "EarlyLink" (by decide +kernel)) rfl) pa_nil))) pa_nil))))))
      (pss_one (ps_ret (pe_op op_cat (pv 1) (pe_lst (pa_cons (pe_callB call_xis (by rfl) T.n_isinstance (by decide +kernel) (pa_cons (pv 0) (pa_cons (pe_glob rfl (T.g "NothingToUndo" (by decide +kernel)) rfl) pa_nil))) (pa_cons (pe_callB call_xis (by rfl) T.n_isinstance (by decide +kernel) (pa_cons (pv 0) (pa_cons (pe_glob rfl (T.g "NotAsked" (by decide +kernel)) rfl) pa_nil))) (pa_cons (pe_callB call_xis (by rfl) T.n_isinstance (by decide +kernel) (pa_cons (pv 0) (pa_cons (pe_glob rfl (T.g "Broken" (by decide +kernel)) rfl) pa_nil))) pa_nil)))))))))))))))))
theorem cal_law_marks (X : K.In h) (G : h.Ns mainGlobals mg) (c : SaysM fa fn ex K) : Cal P w K mg base "_law_marks" 1 ["_law_e"] (spMarks K) := by
  obtain ⟨fd, F⟩ := c.d.def_ 32 (d := dG "_law_marks" (top 43)) rfl
  exact ⟨_, fd, ok_law_marks (mkT X G c)  F, glo_all X G c.d _ (by decide +kernel), F.kp, F.bindsN fun _ _ _ _ _ _ us hl => match us, hl with | [_], _ => rfl⟩
theorem sc_law_fits : FnScope ["_law_e", "_law_at", "_law_bases", "_law_own", "_law_k"] ["_law_e", "_law_at"] (defScope (top 44)) := ⟨rfl, rfl, rfl, by decide +kernel, rfl, by decide +kernel, by decide +kernel⟩
theorem ok_law_fits (T : Ts P w K mg base) (FM : Cal P w K mg base "_law_marks" 1 ["_law_e"] (spMarks K)) (F : FnT K "_law_fits" (top 44) f fd) : FnOk P w K mg base CX0 2 f fd ["_law_e", "_law_at"] (spFits K) := by
  refine F.ok sc_law_fits (fun vs H Q E h => ?_) (fun cdv A outer s H vs Q E hr h => ⟨t_fits K, PSs.nox ?_, pure_fits T.x vs H Q E h⟩)
  · obtain ⟨a, i, rfl, _⟩ := h
    rfl
  · have hr1 := hr
    exact (pss_cons (ps_if (pt_cmpR (op_neD hr.units) (pe_fn FM hr1 rfl (pa_cons (pv 0) pa_nil)) (pe_lc (own := [("_law_k", 4)]) (g := gName 4) (by rfl) sc_law_fits.nd (pi_range1 rfl T.n_range (pa_cons pe_int pa_nil)) (blkOk_by (own := [("_law_k", 4)]) (N := ["_law_e", "_law_at", "_law_bases", "_law_own", "_law_k"]) (sc := (defScope (top 44))) (by decide +kernel)) (fun _ _ _ _ _ => pg_name (i := 4) sc_law_fits.nd rfl (Or.inl rfl)) (fun _ _ _ _ _ => pts_nil) (fun _ _ _ _ _ => (pe_cmpR op_eq (pv 4) (pv 1) (nomark _)))) (nomark _)) (pss_one (ps_ret pe_bl)) pss_nil)
      (pss_cons (ps_set (i := 2) sc_law_fits.nd rfl (Or.inl rfl) (pe_lst (pa_cons (pe_callB call_xis (by rfl) T.n_isinstance (by decide +kernel) (pa_cons (pv 0) (pa_cons (pe_glob rfl (T.g "WrongValue" (by decide +kernel)) rfl) pa_nil))) (pa_cons (pe_callB call_xis (by rfl) T.n_isinstance (by decide +kernel) (pa_cons (pv 0) (pa_cons (pe_glob rfl (T.g "WrongName" (by decide +kernel)) rfl) pa_nil))) (pa_cons (pe_callB call_xis (by rfl) T.n_isinstance (by decide +kernel) (pa_cons (pv 0) (pa_cons (pe_glob rfl (T.g "NoAnswer" (by decide +kernel)) rfl) pa_nil))) pa_nil)))))
      (pss_cons (ps_set (i := 3) sc_law_fits.nd rfl (Or.inl rfl) (pe_lst (pa_cons (pe_callB call_xis (by rfl) T.n_isinstance (by decide +kernel) (pa_cons (pv 0) (pa_cons (pe_bltn (v := .ty "ValueError") rfl T.n_ValueError (by decide +kernel) rfl) pa_nil))) (pa_cons (pe_callB call_xis (by rfl) T.n_isinstance (by decide +kernel) (pa_cons (pv 0) (pa_cons (pe_bltn (v := .ty "LookupError") rfl T.n_LookupError (by decide +kernel) rfl) pa_nil))) (pa_cons (pe_callB call_xis (by rfl) T.n_isinstance (by decide +kernel) (pa_cons (pv 0) (pa_cons (pe_bltn (v := .ty "ArithmeticError") rfl T.n_ArithmeticError (by decide +kernel) rfl) pa_nil))) pa_nil)))))
      (pss_one (ps_ret (pe_and (pe_cmpR (op_eqD hr.units) (pv 2) (pe_lst (pa_cons (pe_cmpR op_lt (pv 1) pe_int (nomark _)) (pa_cons (pe_chain op_le op_lt pe_int (pv 1) pe_int) (pa_cons (pe_cmpR op_ge (pv 1) pe_int (nomark _)) pa_nil)))) (nomark _)) (pe_one (pe_cmpR (op_eqD hr.units) (pv 3) (pv 2) (nomark _)))))))))
theorem cal_law_fits (X : K.In h) (G : h.Ns mainGlobals mg) (c : SaysM fa fn ex K) : Cal P w K mg base "_law_fits" 2 ["_law_e", "_law_at"] (spFits K) := by
  obtain ⟨fd, F⟩ := c.d.def_ 33 (d := dG "_law_fits" (top 44)) rfl
  exact ⟨_, fd, ok_law_fits (mkT X G c) (cal_law_marks X G c) F, glo_all X G c.d _ (by decide +kernel), F.kp, F.bindsN fun _ _ _ _ _ _ us hl => match us, hl with | [_, _], _ => rfl⟩
theorem sc_law_with_given : FnScope ["_law_a", "_law_some"] ["_law_a"] (defScope (top 45)) := ⟨rfl, rfl, rfl, by decide +kernel, rfl, by decide +kernel, by decide +kernel⟩
theorem ok_law_with_given (T : Ts P w K mg base)  (F : FnT K "_law_with_given" (top 45) f fd) : FnOk P w K mg base CX0 3 f fd ["_law_a"] (spMk K jG) := by
  refine F.ok sc_law_with_given (fun vs H Q E h => ?_) (fun cdv A outer s H vs Q E hr h => ⟨t_with (wkC K) [0, 1, 2, 3, 4] [[5, 6, 7, 8, 9]] [10, 11, 12, 13, 19, 20], PSs.nox ?_, pure_with (fun j => one_xm) [0, 1, 2, 3, 4] [[5, 6, 7, 8, 9]] [10, 11, 12, 13, 19, 20] jG rfl (by decide) _ rfl vs H Q E h⟩)
  · obtain ⟨y, rfl, _⟩ := h
    rfl
  · have hr2 := hr
    exact (pss_cons (ps_set (i := 1) sc_law_with_given.nd rfl (Or.inl rfl) (pe_lst (pa_cons (pe_kls T.k0 hr2 rfl (pa_cons (pv 0) pa_nil)) (pa_cons (pe_kls T.k1 hr2 rfl (pa_cons (pv 0) pa_nil)) (pa_cons (pe_kls T.k2 hr2 rfl (pa_cons (pv 0) pa_nil)) (pa_cons (pe_kls T.k3 hr2 rfl (pa_cons (pv 0) pa_nil)) (pa_cons (pe_kls T.k4 hr2 rfl (pa_cons (pv 0) pa_nil)) pa_nil)))))))
      (pss_cons (ps_set (i := 1) sc_law_with_given.nd rfl (Or.inl rfl) (pe_op op_cat (pv 1) (pe_lst (pa_cons (pe_kls T.k5 hr2 rfl (pa_cons (pv 0) pa_nil)) (pa_cons (pe_kls T.k6 hr2 rfl (pa_cons (pv 0) pa_nil)) (pa_cons (pe_kls T.k7 hr2 rfl (pa_cons (pv 0) pa_nil)) (pa_cons (pe_kls T.k8 hr2 rfl (pa_cons (pv 0) pa_nil)) (pa_cons (pe_kls T.k9 hr2 rfl (pa_cons (pv 0) pa_nil)) pa_nil))))))))
      (pss_one (ps_ret (pe_op op_cat (pv 1) (pe_lst (pa_cons (pe_kls T.k10 hr2 rfl (pa_cons (pv 0) pa_nil)) (pa_cons (pe_kls T.k11 hr2 rfl (pa_cons (pv 0) pa_nil)) (pa_cons (pe_kls T.k12 hr2 rfl (pa_cons (pv 0) pa_nil)) (pa_cons (pe_kls T.k13 hr2 rfl (pa_cons (pv 0) pa_nil)) (pa_cons (pe_kls T.k19 hr2 rfl (pa_cons (pv 0) pa_nil)) (pa_cons (pe_kls T.k20 hr2 rfl (pa_cons (pv 0) pa_nil)) pa_nil))))))))))))
theorem cal_law_with_given (X : K.In h) (G : h.Ns mainGlobals mg) (c : SaysM fa fn ex K) : Cal P w K mg base "_law_with_given" 3 ["_law_a"] (spMk K jG) := by
  obtain ⟨fd, F⟩ := c.d.def_ 34 (d := dG "_law_with_given" (top 45)) rfl
  exact ⟨_, fd, ok_law_with_given (mkT X G c)  F, glo_all X G c.d _ (by decide +kernel), F.kp, F.bindsN fun _ _ _ _ _ _ us hl => match us, hl with | [_], _ => rfl⟩
theorem sc_law_with_given_by_name : FnScope ["_law_a", "_law_some"] ["_law_a"] (defScope (top 46)) := ⟨rfl, rfl, rfl, by decide +kernel, rfl, by decide +kernel, by decide +kernel⟩
theorem ok_law_with_given_by_name (T : Ts P w K mg base)  (F : FnT K "_law_with_given_by_name" (top 46) f fd) : FnOk P w K mg base CX0 3 f fd ["_law_a"] (spMk K jG) := by
  refine F.ok sc_law_with_given_by_name (fun vs H Q E h => ?_) (fun cdv A outer s H vs Q E hr h => ⟨t_with (wkK K) [0, 1, 2, 3] [[4, 5, 6], [7, 8, 9], [10, 11, 12, 13]] [19, 20], PSs.nox ?_, pure_with (fun j => one_xk) [0, 1, 2, 3] [[4, 5, 6], [7, 8, 9], [10, 11, 12, 13]] [19, 20] jG rfl (by decide) _ rfl vs H Q E h⟩)
  · obtain ⟨y, rfl, _⟩ := h
    rfl
  · have hr2 := hr
    exact (pss_cons (ps_set (i := 1) sc_law_with_given_by_name.nd rfl (Or.inl rfl) (pe_lst (pa_cons (pe_klsK T.kk0 hr2 rfl (pk_cons (pv 0) pk_nil)) (pa_cons (pe_klsK T.kk1 hr2 rfl (pk_cons (pv 0) pk_nil)) (pa_cons (pe_klsK T.kk2 hr2 rfl (pk_cons (pv 0) pk_nil)) (pa_cons (pe_klsK T.kk3 hr2 rfl (pk_cons (pv 0) pk_nil)) pa_nil))))))
      (pss_cons (ps_set (i := 1) sc_law_with_given_by_name.nd rfl (Or.inl rfl) (pe_op op_cat (pv 1) (pe_lst (pa_cons (pe_klsK T.kk4 hr2 rfl (pk_cons (pv 0) pk_nil)) (pa_cons (pe_klsK T.kk5 hr2 rfl (pk_cons (pv 0) pk_nil)) (pa_cons (pe_klsK T.kk6 hr2 rfl (pk_cons (pv 0) pk_nil)) pa_nil))))))
      (pss_cons (ps_set (i := 1) sc_law_with_given_by_name.nd rfl (Or.inl rfl) (pe_op op_cat (pv 1) (pe_lst (pa_cons (pe_klsK T.kk7 hr2 rfl (pk_cons (pv 0) pk_nil)) (pa_cons (pe_klsK T.kk8 hr2 rfl (pk_cons (pv 0) pk_nil)) (pa_cons (pe_klsK T.kk9 hr2 rfl (pk_cons (pv 0) pk_nil)) pa_nil))))))
      (pss_cons (ps_set (i := 1) sc_law_with_given_by_name.nd rfl (Or.inl rfl) (pe_op op_cat (pv 1) (pe_lst (pa_cons (pe_klsK T.kk10 hr2 rfl (pk_cons (pv 0) pk_nil)) (pa_cons (pe_klsK T.kk11 hr2 rfl (pk_cons (pv 0) pk_nil)) (pa_cons (pe_klsK T.kk12 hr2 rfl (pk_cons (pv 0) pk_nil)) (pa_cons (pe_klsK T.kk13 hr2 rfl (pk_cons (pv 0) pk_nil)) pa_nil)))))))
      (pss_one (ps_ret (pe_op op_cat (pv 1) (pe_lst (pa_cons (pe_klsK T.kk19 hr2 rfl (pk_cons (pv 0) pk_nil)) (pa_cons (pe_klsK T.kk20 hr2 rfl (pk_cons (pv 0) pk_nil)) pa_nil))))))))))
theorem cal_law_with_given_by_name (X : K.In h) (G : h.Ns mainGlobals mg) (c : SaysM fa fn ex K) : Cal P w K mg base "_law_with_given_by_name" 3 ["_law_a"] (spMk K jG) := by
  obtain ⟨fd, F⟩ := c.d.def_ 35 (d := dG "_law_with_given_by_name" (top 46)) rfl
  exact ⟨_, fd, ok_law_with_given_by_name (mkT X G c)  F, glo_all X G c.d _ (by decide +kernel), F.kp, F.bindsN fun _ _ _ _ _ _ us hl => match us, hl with | [_], _ => rfl⟩
theorem sc_law_with_index : FnScope ["_law_a", "_law_some"] ["_law_a"] (defScope (top 47)) := ⟨rfl, rfl, rfl, by decide +kernel, rfl, by decide +kernel, by decide +kernel⟩
theorem ok_law_with_index (T : Ts P w K mg base)  (F : FnT K "_law_with_index" (top 47) f fd) : FnOk P w K mg base CX0 3 f fd ["_law_a"] (spMk K jI) := by
  refine F.ok sc_law_with_index (fun vs H Q E h => ?_) (fun cdv A outer s H vs Q E hr h => ⟨t_with (wkC K) [14, 15, 16, 17, 18] [] [21, 24, 26], PSs.nox ?_, pure_with (fun j => one_xm) [14, 15, 16, 17, 18] [] [21, 24, 26] jI rfl (by decide) _ rfl vs H Q E h⟩)
  · obtain ⟨y, rfl, _⟩ := h
    rfl
  · have hr2 := hr
    exact (pss_cons (ps_set (i := 1) sc_law_with_index.nd rfl (Or.inl rfl) (pe_lst (pa_cons (pe_kls T.k14 hr2 rfl (pa_cons (pv 0) pa_nil)) (pa_cons (pe_kls T.k15 hr2 rfl (pa_cons (pv 0) pa_nil)) (pa_cons (pe_kls T.k16 hr2 rfl (pa_cons (pv 0) pa_nil)) (pa_cons (pe_kls T.k17 hr2 rfl (pa_cons (pv 0) pa_nil)) (pa_cons (pe_kls T.k18 hr2 rfl (pa_cons (pv 0) pa_nil)) pa_nil)))))))
      (pss_one (ps_ret (pe_op op_cat (pv 1) (pe_lst (pa_cons (pe_kls T.k21 hr2 rfl (pa_cons (pv 0) pa_nil)) (pa_cons (pe_kls T.k24 hr2 rfl (pa_cons (pv 0) pa_nil)) (pa_cons (pe_kls T.k26 hr2 rfl (pa_cons (pv 0) pa_nil)) pa_nil))))))))
theorem cal_law_with_index (X : K.In h) (G : h.Ns mainGlobals mg) (c : SaysM fa fn ex K) : Cal P w K mg base "_law_with_index" 3 ["_law_a"] (spMk K jI) := by
  obtain ⟨fd, F⟩ := c.d.def_ 36 (d := dG "_law_with_index" (top 47)) rfl
  exact ⟨_, fd, ok_law_with_index (mkT X G c)  F, glo_all X G c.d _ (by decide +kernel), F.kp, F.bindsN fun _ _ _ _ _ _ us hl => match us, hl with | [_], _ => rfl⟩
theorem sc_law_with_index_by_name : FnScope ["_law_a", "_law_some"] ["_law_a"] (defScope (top 48)) := ⟨rfl, rfl, rfl, by decide +kernel, rfl, by decide +kernel, by decide +kernel⟩
theorem ok_law_with_index_by_name (T : Ts P w K mg base)  (F : FnT K "_law_with_index_by_name" (top 48) f fd) : FnOk P w K mg base CX0 3 f fd ["_law_a"] (spMk K jI) := by
  refine F.ok sc_law_with_index_by_name (fun vs H Q E h => ?_) (fun cdv A outer s H vs Q E hr h => ⟨t_with (wkK K) [14, 15, 16] [[17, 18, 21, 24]] [26], PSs.nox ?_, pure_with (fun j => one_xk) [14, 15, 16] [[17, 18, 21, 24]] [26] jI rfl (by decide) _ rfl vs H Q E h⟩)
  · obtain ⟨y, rfl, _⟩ := h
    rfl
  · have hr2 := hr
    exact (pss_cons (ps_set (i := 1) sc_law_with_index_by_name.nd rfl (Or.inl rfl) (pe_lst (pa_cons (pe_klsK T.kk14 hr2 rfl (pk_cons (pv 0) pk_nil)) (pa_cons (pe_klsK T.kk15 hr2 rfl (pk_cons (pv 0) pk_nil)) (pa_cons (pe_klsK T.kk16 hr2 rfl (pk_cons (pv 0) pk_nil)) pa_nil)))))
      (pss_cons (ps_set (i := 1) sc_law_with_index_by_name.nd rfl (Or.inl rfl) (pe_op op_cat (pv 1) (pe_lst (pa_cons (pe_klsK T.kk17 hr2 rfl (pk_cons (pv 0) pk_nil)) (pa_cons (pe_klsK T.kk18 hr2 rfl (pk_cons (pv 0) pk_nil)) (pa_cons (pe_klsK T.kk21 hr2 rfl (pk_cons (pv 0) pk_nil)) (pa_cons (pe_klsK T.kk24 hr2 rfl (pk_cons (pv 0) pk_nil)) pa_nil)))))))
      (pss_one (ps_ret (pe_op op_cat (pv 1) (pe_lst (pa_cons (pe_klsK T.kk26 hr2 rfl (pk_cons (pv 0) pk_nil)) pa_nil)))))))
theorem cal_law_with_index_by_name (X : K.In h) (G : h.Ns mainGlobals mg) (c : SaysM fa fn ex K) : Cal P w K mg base "_law_with_index_by_name" 3 ["_law_a"] (spMk K jI) := by
  obtain ⟨fd, F⟩ := c.d.def_ 37 (d := dG "_law_with_index_by_name" (top 48)) rfl
  exact ⟨_, fd, ok_law_with_index_by_name (mkT X G c)  F, glo_all X G c.d _ (by decide +kernel), F.kp, F.bindsN fun _ _ _ _ _ _ us hl => match us, hl with | [_], _ => rfl⟩
end
end K01
end

section
set_option Elab.async false
set_option linter.all false
set_option maxRecDepth 100000
set_option maxHeartbeats 4000000
namespace K01
open PySem PySem.Spec PyProof.Rows L2 My Evl
/-! ### small data -/
def smlB (d : PyData) : Bool := d.showable && (decide (d.depth ≤ 4) && (d.leavesShort 60 && decide (d.weight ≤ 150)))
abbrev Sml (d : PyData) : Prop := smlB d = true
theorem sml_f {d : PyData} (h : Sml d) : d.showable = true ∧ d.depth ≤ 4 ∧ d.leavesShort 60 = true ∧ d.weight ≤ 150 := by
  simp only [Sml, smlB, Bool.and_eq_true, decide_eq_true_eq] at h
  exact h
theorem shw_of {d : PyData} (h : Sml d) : Shw d := by
  obtain ⟨h1, h2, h3, h4⟩ := sml_f h
  exact ⟨h1, by omega, Nat.le_trans (PyData.shown_le 60 (by decide) d h3) (by omega)⟩
theorem shw_list {ds : List PyData} (h : ∀ d ∈ ds, Sml d) (hl : ds.length ≤ 7) : Shw (.list ds) := by
  have key : ∀ es : List PyData, (∀ d ∈ es, Sml d) → PyData.showableAll es = true ∧ PyData.depthAll es ≤ 4 ∧ PyData.leavesShortAll 60 es = true ∧ PyData.weightAll es ≤ 151 * es.length := by
    intro es
    induction es with
    | nil => exact fun _ => ⟨rfl, Nat.zero_le _, rfl, Nat.zero_le _⟩
    | cons d r ih =>
      intro h
      obtain ⟨a1, a2, a3, a4⟩ := ih fun d m => h d (List.mem_cons_of_mem _ m)
      obtain ⟨b1, b2, b3, b4⟩ := sml_f (h d List.mem_cons_self)
      refine ⟨?_, ?_, ?_, ?_⟩
      · rw [PyData.showableAll, b1, a1]; rfl
      · rw [PyData.depthAll]; omega
      · rw [PyData.leavesShortAll, b3, a3]; rfl
      · rw [PyData.weightAll, List.length_cons]; omega
  obtain ⟨a1, a2, a3, a4⟩ := key ds h
  refine ⟨?_, ?_, ?_⟩
  · rw [PyData.showable]; exact a1
  · rw [PyData.depth]; omega
  · refine Nat.le_trans (PyData.shown_le 60 (by decide) (.list ds) (by rw [PyData.leavesShort]; exact a3)) ?_
    rw [PyData.weight]
    have : 151 * ds.length ≤ 151 * 7 := Nat.mul_le_mul_left _ hl
    omega
/-! ### what stands off one object -/
def SdO (p : Addr) (H : Hp) (v : V) (d : PyData) : Prop := ∀ H', ExB p H H' → Sd H' v d
theorem SdO.mo {p : Addr} {H H' : Hp} {v : V} {d : PyData} (e : ExB p H H') (h : SdO p H v d) : SdO p H' v d := fun H'' e' => h H'' (e.trans e')
def Its (p : Addr) (H : Hp) : List V → Prop
  | [] => True
  | v :: r => (∃ d, Sml d ∧ SdO p H v d) ∧ Its p H r
theorem Its.get {p : Addr} {H : Hp} : ∀ {xs : List V} {i : Nat} {v : V}, Its p H xs → xs[i]? = some v → ∃ d, Sml d ∧ SdO p H v d
  | [], _, _, _, h => by simp at h
  | _ :: _, 0, _, h, e => by
    cases e
    exact h.1
  | _ :: _, i + 1, _, h, e => Its.get (i := i) h.2 e
theorem Its.mo {p : Addr} {H H' : Hp} (e : ExB p H H') : ∀ {xs : List V}, Its p H xs → Its p H' xs
  | [], _ => True.intro
  | _ :: _, h => ⟨h.1.elim fun d z => ⟨d, z.1, z.2.mo e⟩, Its.mo e h.2⟩
def tItems : TA :=
  tCons (tC .non) (tCons (tC (.bl true)) (tCons (tC (.bl false)) (tCons (tC (.int 0)) (tCons (tUn (rU fun i => V.int (-i)) (tC (.int 7))) (tCons (tOp rA (tOp rPw (tC (.int 10)) (tC (.int 39))) (tC (.int 8))) (tCons (tC (.str "")) (tCons (tC (.str "a b"))
  (tCons (tTup tNil) (tCons (tTup (tCons (tC (.int 1)) (tCons (tC (.str "x")) tNil))) (tCons (tLst tNil) (tCons (tLst (tCons (tC (.int 2)) (tCons (tC .non) tNil))) (tCons tDNewK (tCons (tDisp [(tC (.str "a"), tC (.int 3))]) tNil)))))))))))))
theorem items_read {σ : L2.St} {H : Hp} {Q : List V → Hp → Prop} (k : ∀ xs H', xs.length = 14 → Ex H H' → (∀ p, H p ≠ none → Its p H' xs) → Q xs H') : tItems σ H Q := by
  refine ⟨_, rfl, _, _, rfl, rfl, ⟨by decide, by decide, by decide⟩, _, _, rfl, rfl, (by show 0 ≤ sizeLine; decide), fun p1 n1 => ⟨(by show 2 ≤ sizeLine; decide), fun p2 n2 => ⟨(by show 0 ≤ sizeLine; decide), fun p3 n3 => ⟨(by show 2 ≤ sizeLine; decide), fun p4 n4 => fun p5 n5 => fun p6 n6 => ⟨upd_same, [(.inr "a", .int 3)], rfl, (by decide), ?_⟩⟩⟩⟩⟩
  have e1 : Ex H (upd H p1 (.tup [])) := Ex.new n1
  have e2 := Ex.new (o := HO.tup [.int 1, .str "x"]) n2
  have e3 := Ex.new (o := HO.lst []) n3
  have e4 := Ex.new (o := HO.lst [.int 2, .non]) n4
  have e5 := Ex.new (o := HO.dK []) n5
  have e6 := Ex.new (o := HO.dK [(.inr "a", .int 3)]) n6
  rw [upd_upd]
  have h1 := e6 p1 _ (e5 _ _ (e4 _ _ (e3 _ _ (e2 _ _ upd_same))))
  have h2 := e6 p2 _ (e5 _ _ (e4 _ _ (e3 _ _ upd_same)))
  have h3 := e6 p3 _ (e5 _ _ (e4 _ _ upd_same))
  have h4 := e6 p4 _ (e5 _ _ upd_same)
  have h5 := e6 p5 _ upd_same
  refine k _ _ rfl (e1.trans (e2.trans (e3.trans (e4.trans (e5.trans e6))))) fun p hp => ?_
  have d6 : p6 ≠ p := fun z => hp (by rw [← z]; exact fresh_back (e1.trans (e2.trans (e3.trans (e4.trans e5)))) n6)
  have d5 : p5 ≠ p := fun z => hp (by rw [← z]; exact fresh_back (e1.trans (e2.trans (e3.trans e4))) n5)
  have d4 : p4 ≠ p := fun z => hp (by rw [← z]; exact fresh_back (e1.trans (e2.trans e3)) n4)
  have d3 : p3 ≠ p := fun z => hp (by rw [← z]; exact fresh_back (e1.trans e2) n3)
  have d2 : p2 ≠ p := fun z => hp (by rw [← z]; exact fresh_back e1 n2)
  have d1 : p1 ≠ p := fun z => hp (by rw [← z]; exact n1)
  refine ⟨⟨.none, by decide +kernel, fun H' _ => .non⟩, ⟨.bool true, by decide +kernel, fun H' _ => .bl _⟩, ⟨.bool false, by decide +kernel, fun H' _ => .bl _⟩, ⟨.int 0, by decide +kernel, fun H' _ => .int _⟩, ⟨.int (-7), by decide +kernel, fun H' _ => .int _⟩,
    ⟨.int (10 ^ (39 : Int).toNat + 8), by decide +kernel, fun H' _ => .int _⟩, ⟨.str "", by decide +kernel, fun H' _ => .str _⟩, ⟨.str "a b", by decide +kernel, fun H' _ => .str _⟩,
    ⟨.tuple [], by decide +kernel, fun H' e => .tup (e _ _ d1 h1) .nil⟩, ⟨.tuple [.int 1, .str "x"], by decide +kernel, fun H' e => .tup (e _ _ d2 h2) (.cons (.int 1) (.cons (.str "x") .nil))⟩,
    ⟨.list [], by decide +kernel, fun H' e => .lst (e _ _ d3 h3) .nil⟩, ⟨.list [.int 2, .none], by decide +kernel, fun H' e => .lst (e _ _ d4 h4) (.cons (.int 2) (.cons .non .nil))⟩,
    ⟨.dict [], by decide +kernel, fun H' e => .dic (kvs := []) (ds := []) (e _ _ d5 h5) .nil⟩, ⟨.dict [(.str "a", .int 3)], by decide +kernel, fun H' e => .dic (kvs := [(.inr "a", .int 3)]) (ds := [.int 3]) (e _ _ d6 upd_same) (.cons (.int 3) .nil)⟩, True.intro⟩
theorem f100 : ∀ z : Nat, z < 100 → (smlB (.int (z : Int)) && (smlB (.str (Str.ofString (toString (z : Int)))) && smlB (.tuple [.str "z", .int (z : Int)]))) = true := by decide +kernel
/-! ### a thing drawn -/
def spThing : Sp := fun vs H Q _ => ∃ p : Addr, vs = [.ref p] ∧ WellAt H p ∧ ∀ v d H', Sml d → WellAt H' p → ExB p H H' → (∀ a, H a ≠ none → H' a ≠ none) → SdO p H' v d → Q v H'
abbrev rS' : R2 := rI0 fun i j => .int (i - j)
abbrev rStr : List V → Hp → VK → Prop := fun xs H Q => ∃ i, xs = [V.int i] ∧ i.natAbs.log2 < 1920 ∧ Q (V.str (Str.ofString (toString i))) H
def t_thing (K : PySem.W.Frag) : TS :=
  tSeq (tAsg (tLst tItems) (gName 1))
  (tSeq (tAsg (tCall spDraw [] E0 (tCons (tVar 0) (tCons (tC (.int 17)) tNil))) (gName 2))
  (tSeq (tIfS (tTest (tOp rLt (tVar 2) (tC (.int 14)))) (tRet (tOp (rIxL K) (tVar 1) (tVar 2))) tNext)
  (tSeq (tAsg (tCall spDraw [] E0 (tCons (tVar 0) (tCons (tC (.int 100)) tNil))) (gName 3))
  (tRet (tOp (rIxL K) (tLst (tCons (tVar 3) (tCons (tCB rStr (tCons (tVar 3) tNil)) (tCons (tTup (tCons (tC (.str "z")) (tCons (tVar 3) tNil))) tNil)))) (tOp rS' (tVar 2) (tC (.int 14))))))))
theorem lst_start {ta : TA} {i : Nat} {r : TS} {D : Ends} {σ : L2.St} {H : Hp} (h : ta σ H fun xs H1 => xs.length ≤ sizeLine ∧ ∀ p, H1 p = none → r D (σ.set i (some (.ref p))) (upd H1 p (.lst xs))) : tSeq (tAsg (tLst ta) (gName i)) r D σ H := h
theorem pure_thing {K : PySem.W.Frag} (vs : List V) (H : Hp) (Q : VK) (E : XK) (h : spThing vs H Q E) : t_thing K { nx := fun _ H' => Q .non H', rt := Q } (L2.start ["_law_well_here", "_law_some", "_law_at", "_law_fresh"] vs) H := by
  obtain ⟨p, rfl, hW, k⟩ := h
  have hp : H p ≠ none := by
    obtain ⟨x, y, c, h, _⟩ := hW
    rw [h]
    exact fun z => nomatch z
  unfold t_thing
  refine lst_start (items_read fun xs H1 hl e1 its => ?_)
  refine ⟨by rw [hl]; decide, fun q n => ?_⟩
  have e2 : Ex H1 (upd H1 q (.lst xs)) := Ex.new n
  have nqp : q ≠ p := fun z => hp (by rw [← z]; exact fresh_back e1 n)
  refine ⟨_, rfl, p, 17, rfl, hW.ex (e1.trans e2), by decide, by decide, fun z H2 z0 z1 w2 b2 s2 => ?_⟩
  have i2 : Its p H2 xs := ((its p hp).mo (ExB.of e2)).mo b2
  have q2 : H2 q = some (.lst xs) := b2 q _ nqp upd_same
  have al : ∀ {H' : Hp}, (∀ a, H' a = none ↔ upd H1 q (.lst xs) a = none) → ∀ a, H a ≠ none → H' a ≠ none := fun {H'} s a ha z => by
    have := (s a).mp z
    exact ha (fresh_back (e1.trans e2) this)
  refine ⟨_, rfl, _, _, rfl, rfl, _, rfl, ?_⟩
  refine ite2 (fun c => ?_) (fun c => ?_)
  · have c := of_decide_eq_true c
    obtain ⟨v, hv⟩ : ∃ v, xs[z.toNat]? = some v := by
      rw [List.getElem?_eq_getElem (by omega)]
      exact ⟨_, rfl⟩
    obtain ⟨d, sm, sd⟩ := i2.get hv
    exact ⟨_, rfl, _, rfl, q, xs, z, v, rfl, rfl, sq_of q2, at_of (j := z.toNat) (by omega) hv, k v d H2 sm w2 ((ExB.of (e1.trans e2)).trans b2) (al s2) sd⟩
  · have c : ¬z < 14 := fun q => c (decide_eq_true q)
    refine ⟨_, rfl, p, 100, rfl, w2, by decide, by decide, fun y H3 y0 y1 w3 b3 s3 => ?_⟩
    have s33 : ∀ a, H3 a = none ↔ upd H1 q (.lst xs) a = none := fun a => (s3 a).trans (s2 a)
    obtain ⟨n, rfl⟩ : ∃ n : Nat, y = (n : Int) := ⟨y.toNat, by omega⟩
    have f := f100 n (by omega)
    simp only [Bool.and_eq_true] at f
    obtain ⟨f1, f2, f3⟩ := f
    have lg : (n : Int).natAbs.log2 < 1920 := by
      have := (sml_f f1).1
      rw [PyData.showable] at this
      exact of_decide_eq_true this
    refine ⟨_, rfl, _, rfl, _, rfl, lg, _, rfl, (by show 2 ≤ sizeLine; decide), fun t nt => ⟨(by show 3 ≤ sizeLine; decide), fun l nl => ⟨_, rfl, _, _, rfl, rfl, ?_⟩⟩⟩
    have e4 := Ex.new (o := HO.tup [.str "z", .int (n : Int)]) nt
    have e5 := Ex.new (o := HO.lst [.int (n : Int), .str (Str.ofString (toString (n : Int))), .ref t]) nl
    have tp : t ≠ p := fun z => by
      obtain ⟨x, yy, c, h, _⟩ := w3
      rw [z, h] at nt
      cases nt
    have w5 := w3.ex (e4.trans e5)
    have b5 : ExB p H (upd (upd H3 t (.tup [.str "z", .int (n : Int)])) l (.lst [.int (n : Int), .str (Str.ofString (toString (n : Int))), .ref t])) := ((ExB.of (e1.trans e2)).trans (b2.trans b3)).trans (ExB.of (e4.trans e5))
    have a5 : ∀ a, H a ≠ none → (upd (upd H3 t (.tup [.str "z", .int (n : Int)])) l (.lst [.int (n : Int), .str (Str.ofString (toString (n : Int))), .ref t])) a ≠ none := fun a ha z => al s33 a ha (fresh_back (e4.trans e5) z)
    have ht := e5 t _ upd_same
    have r : z = 14 ∨ z = 15 ∨ z = 16 := by omega
    rcases r with rfl | rfl | rfl
    · exact ⟨l, _, _, .int n, rfl, rfl, sq_of upd_same, rfl, k _ _ _ f1 w5 b5 a5 fun H' _ => .int _⟩
    · exact ⟨l, _, _, .str (Str.ofString (toString (n : Int))), rfl, rfl, sq_of upd_same, rfl, k _ _ _ f2 w5 b5 a5 fun H' _ => .str _⟩
    · exact ⟨l, _, _, .ref t, rfl, rfl, sq_of upd_same, rfl, k _ _ _ f3 w5 b5 a5 fun H' e => .tup (e _ _ tp ht) (.cons (.str _) (.cons (.int _) .nil))⟩
end K01
end

section
set_option Elab.async false
set_option linter.all false
set_option maxRecDepth 100000
set_option maxHeartbeats 1000000
namespace K01
open PySem PySem.Spec PyProof.Rows L2 My Evl
section
variable {K : PySem.W.Frag}
/-! ### one round over a list of exceptions -/
abbrev T1 (K : PySem.W.Frag) (f : Str) (i0 : Nat) : TT := tTest (tOp rNe (tCB rRp (tCons (tXf K f (tOp (rIxL K) (tVar 3) (tVar 11))) tNil)) (tCB rRp (tCons (tVar i0) tNil)))
abbrev T2 (K : PySem.W.Frag) (s : Nat) : TT := tNot (tB (tCall (spFits K) [] E0 (tCons (tOp (rIxL K) (tVar 3) (tVar 11)) (tCons (tOp (rIxL K) (tVar s) (tVar 11)) tNil))))
def t_if (K : PySem.W.Frag) (n : Int) (t : TT) : TS := tIfS (tTest (tOp (rNeD K) (tLc (iRng1 (tCons (tC (.int n)) tNil)) (gName 11) t (tVar 11) [11]) (tLst tNil))) (tRet (tC (.bl false))) tNext
def t_round (K : PySem.W.Frag) (n : Int) (f : Str) (i0 s : Nat) : TS := tSeq (t_if K n (T1 K f i0)) (t_if K n (T2 K s))
theorem given_no (n : Nat) (v : Nat → V) : given n (fun _ => false) v = [] := by
  unfold given
  rw [List.filter_eq_nil_iff.mpr (fun _ _ => Bool.false_ne_true)]
  rfl
theorem if_none {n : Int} {t : TT} {D : Ends} {σ : L2.St} {H : Hp} (h0 : 0 ≤ n ∧ n ≤ 40000) (hw : ∀ x : V, wipe (List.set (wipe σ [11]) 11 (some x)) [11] = wipe σ [11])
    (ht : ∀ (i : Nat) (H1 : Hp), Ex H H1 → (i : Int) < n → EvT t (List.set (wipe σ [11]) 11 (some (V.int i))) H1 false) (k : ∀ H', Ex H H' → D.nx σ H') : t_if K n t D σ H := by
  have h := el_lcR1 (σ := σ) (H := H) (te := tVar 11) (t := t) (ta := tCons (tC (.int n)) tNil) (j := 11) (vs := [11]) (n := n) (fun _ => false) (fun _ => V.non) (ea_cons ev_c ea_nil) h0 hw ht (fun i H1 _ _ z => nomatch z)
  rw [given_no] at h
  unfold t_if tIfS tTest tOp
  refine h H (Ex.refl H) _ fun p H2 hp e2 h2 => ?_
  refine ⟨(by show 0 ≤ sizeLine; decide), fun q nq => ?_⟩
  refine neD_bools (K := K) [] ((Ex.new nq) p _ h2) upd_same rfl rfl ?_
  exact ⟨_, rfl, iteF (k _ (e2.trans (Ex.new nq)))⟩
theorem round_read (hx : ex K = true) {σ : L2.St} {H : Hp} {D : Ends} {i0 s : Nat} {n : Int} {f : Str} {js : List Nat} {as : List Addr} {y : V} {d : PyData} {l q : Addr}
    (hw : ∀ x : V, wipe (List.set (wipe σ [11]) 11 (some x)) [11] = wipe σ [11]) (s0 : ∀ x : V, (List.set (wipe σ [11]) 11 (some x))[i0]? = some (some y)) (ss : ∀ x : V, (List.set (wipe σ [11]) 11 (some x))[s]? = some (some (.ref l)))
    (s3 : ∀ x : V, (List.set (wipe σ [11]) 11 (some x))[3]? = some (some (.ref q))) (s11 : ∀ x : V, (List.set (wipe σ [11]) 11 (some x))[11]? = some (some x))
    (hq : H q = some (.lst (as.map V.ref))) (hl : H l = some (.lst (js.map fun j : Nat => V.int (j : Int)))) (hm : Mades K H y as js) (hj : ∀ j ∈ js, j < 28 ∧ fld j = f) (hn : (js.length : Int) = n) (hn2 : n ≤ 40000) (hd : Sd H y d) (hs : Shw d)
    (k : ∀ H', Ex H H' → D.nx σ H') : t_round K n f i0 s D σ H := by
  have at_ : ∀ (i : Nat) (H1 : Hp), Ex H H1 → (i : Int) < n → ∃ (j : Nat) (a : Addr), j < 28 ∧ fld j = f ∧ (js.map fun j : Nat => V.int (j : Int))[i]? = some (.int j) ∧ (as.map V.ref)[i]? = some (.ref a) ∧ XF H1 a (cA K j) (fld j) y := by
    intro i H1 e hi
    have hi' : i < js.length := by omega
    have ej : js[i]? = some (js[i]) := List.getElem?_eq_getElem hi'
    obtain ⟨a, ha, xa⟩ := (hm.ex e).get i _ ej
    obtain ⟨h1, h2⟩ := hj _ (List.getElem_mem hi')
    exact ⟨js[i], a, h1, h2, by rw [List.getElem?_map, ej]; rfl, by rw [List.getElem?_map, ha]; rfl, xa⟩
  have z0 : 0 ≤ n := by omega
  refine if_none ⟨z0, hn2⟩ hw ?_ fun H1 e1 => ?_
  · intro i H1 e hi H2 e2 Q q2
    obtain ⟨j, a, hj28, hf, gl, ga, ⟨dx, x1, x2⟩⟩ := at_ i H2 (e.trans e2) hi
    have hs2 : Sd H2 y d := hd.ext (e.trans e2)
    subst hf
    refine ⟨_, s3 _, _, s11 _, q, _, _, _, rfl, rfl, sq_of ((e.trans e2) q _ hq), at_of rfl ga, a, _, dx, _, _, y, rfl, xcK hx j hj28, nofK hx j hj28, x1, x2, ?_, y, d, rfl, hs2, hs, _, s0 _, y, d, rfl, hs2, hs, rfl, _, rfl, ?_⟩
    · exact List.lookup_cons_self
    · have e : (!decide (V.str d.shown = V.str d.shown)) = false := by rw [decide_eq_true rfl]; rfl
      rw [e]
      exact q2 H2 (Ex.refl H2)
  · refine if_none ⟨z0, hn2⟩ hw ?_ fun H2 e2 => k H2 (e1.trans e2)
    intro i H2 e hi H3 e2 Q q2
    obtain ⟨j, a, hj28, hf, gl, ga, xa⟩ := at_ i H3 (e1.trans (e.trans e2)) hi
    have ee := e1.trans (e.trans e2)
    exact ⟨_, s3 _, _, s11 _, q, _, _, _, rfl, rfl, sq_of (ee q _ hq), at_of rfl ga, _, ss _, _, s11 _, l, _, _, _, rfl, rfl, sq_of (ee l _ hl), at_of rfl gl, a, j, rfl, hj28, xa.at, fun H4 e4 => ⟨true, rfl, q2 H4 e4⟩⟩
/-! ### single exceptions -/
theorem xm_at {σ : L2.St} {y : V} {H : Hp} {Q : VK} {C : Addr} {f : Str} {i : Nat} (h0 : σ[i]? = some (some y)) (k : ∀ a H', H a = none → Ex H H' → XF H' a C f y → Q (.ref a) H') : tXm C (spX C f) (tCons (tVar i) tNil) σ H Q :=
  ⟨y, h0, (by show 1 ≤ 1000; decide), fun a ha => ⟨a, y, rfl, upd_same, fun dx n ne => ⟨rfl, k a _ ha (xf_made ha n ne).1 (xf_made ha n ne).2⟩⟩⟩
theorem xk_at {σ : L2.St} {y : V} {H : Hp} {Q : VK} {C : Addr} {f : Str} {i : Nat} (h0 : σ[i]? = some (some y)) (k : ∀ a H', H a = none → Ex H H' → XF H' a C f y → Q (.ref a) H') : tXk C 1 (spX C f) app2 (tCons (tVar i) tNil) σ H Q :=
  ⟨y, h0, rfl, fun a ha => ⟨a, y, rfl, upd_same, fun dx n ne => ⟨rfl, k a _ ha (xf_made ha n ne).1 (xf_made ha n ne).2⟩⟩⟩
def XF2 (H : Hp) (a C : Addr) (f g : Str) (y z : V) : Prop := ∃ dx : Addr, H a = some (exo a C (some dx)) ∧ H dx = some (exd dx [(g, z), (f, y)])
theorem XF2.mo {H H' : Hp} {a C : Addr} {f g : Str} {y z : V} (e : Ex H H') : XF2 H a C f g y z → XF2 H' a C f g y z := fun ⟨dx, h1, h2⟩ => ⟨dx, e _ _ h1, e _ _ h2⟩
theorem XF2.at {H : Hp} {a C : Addr} {f g : Str} {y z : V} : XF2 H a C f g y z → XAt H a C := fun ⟨dx, h1, h2⟩ => .inr ⟨dx, _, h1, h2⟩
theorem xf2_made {H : Hp} {a C dx : Addr} {f g : Str} {y z : V} (ha : H a = none) (n : upd H a (exo a C none) dx = none) (ne : dx ≠ a) :
    Ex H (upd (upd (upd (upd H a (exo a C none)) dx (exd dx [(f, y)])) a (exo a C (some dx))) dx (exd dx [(g, z), (f, y)])) ∧ XF2 (upd (upd (upd (upd H a (exo a C none)) dx (exd dx [(f, y)])) a (exo a C (some dx))) dx (exd dx [(g, z), (f, y)])) a C f g y z := by
  have n' := n
  rw [upd_ne ne] at n'
  refine ⟨fun b o hb => ?_, dx, ?_, upd_same⟩
  · rw [upd_ne (ne_of_none hb n'), upd_ne (ne_of_none hb ha), upd_ne (ne_of_none hb n'), upd_ne (ne_of_none hb ha)]
    exact hb
  · rw [upd_ne (Ne.symm ne)]
    exact upd_same
theorem xm2_at {σ : L2.St} {y z : V} {H : Hp} {Q : VK} {C : Addr} {f g : Str} {i j : Nat} (h0 : σ[i]? = some (some y)) (h1 : σ[j]? = some (some z)) (k : ∀ a H', H a = none → Ex H H' → XF2 H' a C f g y z → Q (.ref a) H') :
    tXm C (spX2 C f g) (tCons (tVar i) (tCons (tVar j) tNil)) σ H Q :=
  ⟨y, h0, z, h1, (by show 2 ≤ 1000; decide), fun a ha => ⟨a, y, z, rfl, upd_same, fun dx n ne => ⟨rfl, k a _ ha (xf2_made ha n ne).1 (xf2_made ha n ne).2⟩⟩⟩
theorem xk2_at {σ : L2.St} {y z : V} {H : Hp} {Q : VK} {C : Addr} {f g : Str} {i j : Nat} (h0 : σ[i]? = some (some y)) (h1 : σ[j]? = some (some z)) (k : ∀ a H', H a = none → Ex H H' → XF2 H' a C f g z y → Q (.ref a) H') :
    tXk C 2 (spX2 C f g) appR (tCons (tVar i) (tCons (tVar j) tNil)) σ H Q :=
  ⟨y, h0, z, h1, rfl, fun a ha => ⟨a, z, y, rfl, upd_same, fun dx n ne => ⟨rfl, k a _ ha (xf2_made ha n ne).1 (xf2_made ha n ne).2⟩⟩⟩
theorem xm0_at {σ : L2.St} {H : Hp} {Q : VK} {C : Addr} (k : ∀ a H', H a = none → Ex H H' → XAt H' a C → Q (.ref a) H') : tXm C (spX0 C) tNil σ H Q :=
  ⟨(by show 0 ≤ 1000; decide), fun a ha => ⟨a, rfl, upd_same, rfl, k a _ ha (Ex.new ha) (.inl upd_same)⟩⟩
theorem nof27 (hx : ex K = true) : NoF K (cA K 27) "index" ∧ NoF K (cA K 27) "shown" := (ex3 hx 27 (by decide) (by decide)).2.2.2
/-! ### the loops' lists -/
theorem lst_ints : (rgV 0 14 ++ [V.int 19, V.int 20]) = jG.map (fun j : Nat => V.int (j : Int)) := rfl
theorem fld_G : ∀ j ∈ jG, j < 28 ∧ fld j = "given" := by decide +kernel
theorem fld_I : ∀ j ∈ jI, j < 28 ∧ fld j = "index" := by decide +kernel
end
end K01
end

section
set_option Elab.async false
set_option linter.all false
set_option maxRecDepth 100000
set_option maxHeartbeats 1000000
namespace K01
open PySem PySem.Spec PyProof.Rows L2 My Evl
section
variable {K : PySem.W.Frag}
theorem cons_start {m : TE} {ms : TA} {σ : L2.St} {H : Hp} {Q : List V → Hp → Prop} (h : m σ H fun v H1 => ms σ H1 fun vs H2 => Q (v :: vs) H2) : tCons m ms σ H Q := h
theorem tup_start {ta : TA} {g : TG} {r : TS} {D : Ends} {σ : L2.St} {H : Hp} (h : ta σ H fun xs H1 => xs.length ≤ sizeLine ∧ ∀ p, H1 p = none → g (.ref p) σ (upd H1 p (.tup xs)) fun σ' H' => r D σ' H') : tSeq (tAsg (tTup ta) g) r D σ H := h
theorem cat_start {ta : TA} {i : Nat} {r : TS} {D : Ends} {σ : L2.St} {H : Hp} {l : Addr} (h9 : σ[i]? = some (some (.ref l))) (h : ta σ H fun xs H1 => xs.length ≤ sizeLine ∧ ∀ p, H1 p = none → rCat (.ref l) (.ref p) (upd H1 p (.lst xs)) fun x H' => r D (σ.set i (some x)) H') :
    tSeq (tAsg (tOp rCat (tVar i) (tLst ta)) (gName i)) r D σ H := ⟨_, h9, h⟩
theorem xf_v (hx : ex K = true) {σ : L2.St} {H : Hp} {Q : VK} {i j : Nat} {f : Str} {a : Addr} {y : V} (hj : j < 28) (nf : NoF K (cA K j) f) (h0 : σ[i]? = some (some (.ref a))) (x : XF H a (cA K j) f y) (q : Q y H) : tXf K f (tVar i) σ H Q := by
  obtain ⟨dx, x1, x2⟩ := x
  exact ⟨_, h0, a, _, dx, _, _, y, rfl, xcK hx j hj, nf, x1, x2, List.lookup_cons_self, q⟩
theorem xf_k1 (hx : ex K = true) {σ : L2.St} {H : Hp} {Q : VK} {i j : Nat} {f : Str} {y : V} (hj : j < 28) (nf : NoF K (cA K j) f) (h0 : σ[i]? = some (some y)) (k : ∀ H', Ex H H' → Q y H') : tXf K f (tXk (cA K j) ([f] : List Str).length (spX (cA K j) f) app2 (tCons (tVar i) tNil)) σ H Q := by
  unfold tXf
  refine xk_at h0 fun a H' n e ⟨dx, x1, x2⟩ => ?_
  exact ⟨a, _, dx, _, _, y, rfl, xcK hx j hj, nf, x1, x2, List.lookup_cons_self, k H' e⟩
theorem xf_k2 (hx : ex K = true) {σ : L2.St} {H : Hp} {Q : VK} {i j : Nat} {y z : V} (h0 : σ[i]? = some (some y)) (h1 : σ[j]? = some (some z)) (k : ∀ H', Ex H H' → Q y H') :
    tXf K "shown" (tXk (cA K 27) (["shown", "index"] : List Str).length (spX2 (cA K 27) "index" "shown") appR (tCons (tVar i) (tCons (tVar j) tNil))) σ H Q := by
  unfold tXf
  refine xk2_at h0 h1 fun a H' n e ⟨dx, x1, x2⟩ => ?_
  exact ⟨a, _, dx, _, _, y, rfl, xcK hx 27 (by decide), (nof27 hx).2, x1, x2, List.lookup_cons_self, k H' e⟩
theorem fits_at {σ : L2.St} {H : Hp} {Q : VK} {i j : Nat} {a : Addr} (h0 : σ[i]? = some (some (.ref a))) (hj : j < 28) (x : XAt H a (cA K j)) (k : ∀ H', Ex H H' → Q (.bl true) H') : (tCall (spFits K) [] E0 (tCons (tVar i) (tCons (tC (.int (j : Int))) tNil)) : TE) σ H Q :=
  ⟨_, h0, a, j, rfl, hj, x, k⟩
def t_cmp (K : PySem.W.Frag) : TS := tIfS (tTest (tOp rNe (tCB rRp (tCons (tVar 9) tNil)) (tCB rRp (tCons (tLst (tCons (tVar 0) (tCons (tVar 1) (tCons (tVar 0) (tCons (tVar 1) (tCons (tVar 1) (tCons (tVar 0) (tCons (tVar 0) tNil)))))))) tNil)))) (tRet (tC (.bl false))) tNext
def t_last (K : PySem.W.Frag) : TS :=
  tSeq (tAsg (tLst (tCons (tCall (spFits K) [] E0 (tCons (tVar 5) (tCons (tC (.int 22)) tNil))) (tCons (tCall (spFits K) [] E0 (tCons (tVar 6) (tCons (tC (.int 23)) tNil))) (tCons (tCall (spFits K) [] E0 (tCons (tVar 7) (tCons (tC (.int 27)) tNil))) (tCons (tCall (spFits K) [] E0 (tCons (tVar 8) (tCons (tC (.int 25)) tNil))) tNil))))) (gName 10))
  (tRet (tOp (rEqD K) (tVar 10) (tLst (tCons (tC (.bl true)) (tCons (tC (.bl true)) (tCons (tC (.bl true)) (tCons (tC (.bl true)) tNil)))))))
def t_kept (K : PySem.W.Frag) : TS :=
  tSeq (tAsg (tLst (tCons (tXf K "limit" (tVar 5)) (tCons (tXf K "ring" (tVar 6)) (tCons (tXf K "index" (tVar 7)) (tCons (tXf K "shown" (tVar 7)) tNil))))) (gName 9))
  (tSeq (tAsg (tOp rCat (tVar 9) (tLst (tCons (tXf K "limit" (tXk (cA K 22) (["limit"] : List Str).length (spX (cA K 22) "limit") app2 (tCons (tVar 1) tNil))) (tCons (tXf K "ring" (tXk (cA K 23) (["ring"] : List Str).length (spX (cA K 23) "ring") app2 (tCons (tVar 0) tNil))) (tCons (tXf K "shown" (tXk (cA K 27) (["shown", "index"] : List Str).length (spX2 (cA K 27) "index" "shown") appR (tCons (tVar 0) (tCons (tVar 1) tNil)))) tNil))))) (gName 9))
  (tSeq (t_cmp K) (t_last K)))
def t_end (K : PySem.W.Frag) : TS :=
  tSeq (tAsg (tTup (tCons (tXm (cA K 22) (spX (cA K 22) "limit") (tCons (tVar 0) tNil)) (tCons (tXm (cA K 23) (spX (cA K 23) "ring") (tCons (tVar 1) tNil)) (tCons (tXm (cA K 27) (spX2 (cA K 27) "index" "shown") (tCons (tVar 0) (tCons (tVar 1) tNil))) (tCons (tXm (cA K 25) (spX0 (cA K 25)) tNil) tNil))))) (gTup K 4 (gCons (gName 5) (gCons (gName 6) (gCons (gName 7) (gCons (gName 8) gNil))))))
  (t_kept K)
theorem last_read {va vb : V} {a2 a3 a4 : Option V} {p5 p6 p7 p8 : Addr} {x9 : V} {H : Hp} {Q : VK} (x5 : XAt H p5 (cA K 22)) (x6 : XAt H p6 (cA K 23)) (x7 : XAt H p7 (cA K 27)) (x8 : XAt H p8 (cA K 25)) (k : ∀ H', Ex H H' → Q (.bl true) H') :
    t_last K { nx := fun _ H' => Q .non H', rt := Q } [some va, some vb, a2, a3, a4, some (.ref p5), some (.ref p6), some (.ref p7), some (.ref p8), some x9, none, none] H := by
  unfold t_last
  refine lst_start ?_
  refine cons_start (fits_at (j := 22) rfl (by decide) x5 fun H1 e1 => ?_)
  refine cons_start (fits_at (j := 23) rfl (by decide) (xmo e1 x6) fun H2 e2 => ?_)
  refine cons_start (fits_at (j := 27) rfl (by decide) (xmo (e1.trans e2) x7) fun H3 e3 => ?_)
  refine cons_start (fits_at (j := 25) rfl (by decide) (xmo (e1.trans (e2.trans e3)) x8) fun H4 e4 => ?_)
  refine ⟨(by show 4 ≤ sizeLine; decide), fun p hp => ⟨_, rfl, (by show 4 ≤ sizeLine; decide), fun q hq => ?_⟩⟩
  have e5 := Ex.new (o := HO.lst [.bl true, .bl true, .bl true, .bl true]) hp
  have e6 := Ex.new (o := HO.lst [.bl true, .bl true, .bl true, .bl true]) hq
  exact eqD_bools (K := K) [true, true, true, true] (e6 p _ upd_same) upd_same rfl rfl (k _ (e1.trans (e2.trans (e3.trans (e4.trans (e5.trans e6))))))
theorem cmp_read {va vb : V} {da db : PyData} {σ : L2.St} {l : Addr} {H : Hp} {D : Ends} (s0 : σ[0]? = some (some va)) (s1 : σ[1]? = some (some vb)) (s9 : σ[9]? = some (some (.ref l))) (ha : Sd H va da) (hb : Sd H vb db) (ma : Sml da) (mb : Sml db)
    (hl : H l = some (.lst [va, vb, va, vb, vb, va, va])) (k : ∀ H', Ex H H' → D.nx σ H') : t_cmp K D σ H := by
  have sh : Shw (.list [da, db, da, db, db, da, da]) := shw_list (fun d m => by
    simp only [List.mem_cons, List.not_mem_nil, or_false] at m
    rcases m with rfl | rfl | rfl | rfl | rfl | rfl | rfl <;> assumption) (by show 7 ≤ 7; decide)
  refine ⟨_, s9, .ref l, .list [da, db, da, db, db, da, da], rfl, .lst hl (.cons ha (.cons hb (.cons ha (.cons hb (.cons hb (.cons ha (.cons ha .nil))))))), sh, ?_⟩
  refine ⟨_, s0, _, s1, _, s0, _, s1, _, s1, _, s0, _, s0, (by show 7 ≤ sizeLine; decide), fun p hp => ?_⟩
  have e := Ex.new (o := HO.lst [va, vb, va, vb, vb, va, va]) hp
  have ha' := ha.ext e
  have hb' := hb.ext e
  refine ⟨.ref p, .list [da, db, da, db, db, da, da], rfl, .lst upd_same (.cons ha' (.cons hb' (.cons ha' (.cons hb' (.cons hb' (.cons ha' (.cons ha' .nil))))))), sh, rfl, _, rfl, ?_⟩
  rw [decide_eq_true rfl]
  exact iteF (k _ e)
theorem end_read (hx : ex K = true) {va vb : V} {da db : PyData} {a2 a3 a4 : Option V} {H : Hp} {Q : VK} (ha : Sd H va da) (hb : Sd H vb db) (ma : Sml da) (mb : Sml db) (k : ∀ H', Ex H H' → Q (.bl true) H') :
    t_end K { nx := fun _ H' => Q .non H', rt := Q } [some va, some vb, a2, a3, a4, none, none, none, none, none, none, none] H := by
  have nl : NoF K (cA K 22) "limit" := nofK hx 22 (by decide)
  have nr : NoF K (cA K 23) "ring" := nofK hx 23 (by decide)
  unfold t_end
  refine tup_start ?_
  refine cons_start (xm_at rfl fun p5 H1 n1 e1 x5 => ?_)
  refine cons_start (xm_at rfl fun p6 H2 n2 e2 x6 => ?_)
  refine cons_start (xm2_at rfl rfl fun p7 H3 n3 e3 x7 => ?_)
  refine cons_start (xm0_at fun p8 H4 n4 e4 x8 => ?_)
  refine ⟨(by show 4 ≤ sizeLine; decide), fun pt ht => ⟨pt, _, rfl, .inl (.inl upd_same), rfl, _, _, rfl, _, _, rfl, _, _, rfl, _, _, rfl, rfl, ?_⟩⟩
  have e5 := Ex.new (o := HO.tup [.ref p5, .ref p6, .ref p7, .ref p8]) ht
  have x5 := x5.mo (e2.trans (e3.trans (e4.trans e5)))
  have x6 := x6.mo (e3.trans (e4.trans e5))
  have x7 := x7.mo (e4.trans e5)
  have x8 := xmo e5 x8
  have E5 := e1.trans (e2.trans (e3.trans (e4.trans e5)))
  generalize upd H4 pt (.tup [.ref p5, .ref p6, .ref p7, .ref p8]) = HH at *
  show t_kept K { nx := fun _ H' => Q .non H', rt := Q } [some va, some vb, a2, a3, a4, some (.ref p5), some (.ref p6), some (.ref p7), some (.ref p8), none, none, none] HH
  unfold t_kept
  refine lst_start ?_
  refine cons_start (xf_v hx (j := 22) (by decide) nl rfl x5 ?_)
  refine cons_start (xf_v hx (j := 23) (by decide) nr rfl x6 ?_)
  obtain ⟨dx, y1, y2⟩ := x7
  refine cons_start ?_
  refine ⟨_, rfl, p7, _, dx, _, _, va, rfl, xcK hx 27 (by decide), (nof27 hx).1, y1, y2, rfl, ?_⟩
  refine cons_start ?_
  refine ⟨_, rfl, p7, _, dx, _, _, vb, rfl, xcK hx 27 (by decide), (nof27 hx).2, y1, y2, List.lookup_cons_self, ?_⟩
  refine ⟨(by show 4 ≤ sizeLine; decide), fun l9 n9 => ?_⟩
  have e6 := Ex.new (o := HO.lst [va, vb, va, vb]) n9
  refine cat_start (l := l9) rfl ?_
  refine cons_start (xf_k1 hx (j := 22) (by decide) nl rfl fun G1 g1 => ?_)
  refine cons_start (xf_k1 hx (j := 23) (by decide) nr rfl fun G2 g2 => ?_)
  refine cons_start (xf_k2 hx rfl rfl fun G3 g3 => ?_)
  refine ⟨(by show 3 ≤ sizeLine; decide), fun m nm => ⟨l9, m, [va, vb, va, vb], [vb, va, va], rfl, rfl, ?_, upd_same, (by show 7 ≤ sizeLine; decide), fun l nl => ?_⟩⟩
  · exact Ex.new nm l9 _ (g3 _ _ (g2 _ _ (g1 _ _ upd_same)))
  have e7 := Ex.new (o := HO.lst [vb, va, va]) nm
  have e8 := Ex.new (o := HO.lst ([va, vb, va, vb] ++ [vb, va, va])) nl
  have T := e6.trans (g1.trans (g2.trans (g3.trans (e7.trans e8))))
  have TT := E5.trans T
  refine cmp_read (va := va) (vb := vb) (da := da) (db := db) rfl rfl rfl (ha.ext TT) (hb.ext TT) ma mb upd_same fun H' e9 => ?_
  refine last_read (xmo (T.trans e9) x5.at) (xmo (T.trans e9) x6.at) (xmo (T.trans e9) (.inr ⟨dx, _, y1, y2⟩)) (xmo (T.trans e9) x8) fun H'' e10 => k H'' (TT.trans (e9.trans e10))
end
end K01
end

section
set_option Elab.async false
set_option linter.all false
set_option maxRecDepth 100000
set_option maxHeartbeats 1000000
namespace K01
open PySem PySem.Spec PyProof.Rows L2 My Evl
section
variable {K : PySem.W.Frag}
def t_loop (K : PySem.W.Frag) (js : List Nat) (n : Int) (f : Str) (i0 s : Nat) : TS := tFor (iList K (tLst (tCons (tCall (spMk K js) [] E0 (tCons (tVar i0) tNil)) (tCons (tCall (spMk K js) [] E0 (tCons (tVar i0) tNil)) tNil)))) (gName 3) (t_round K n f i0 s)
def t_right2 (K : PySem.W.Frag) : TS :=
  tSeq (tAsg (tLst (tCons (tC (.int 14)) (tCons (tC (.int 15)) (tCons (tC (.int 16)) (tCons (tC (.int 17)) (tCons (tC (.int 18)) (tCons (tC (.int 21)) (tCons (tC (.int 24)) (tCons (tC (.int 26)) tNil))))))))) (gName 4))
  (tSeq (t_loop K jI 8 "index" 1 4) (t_end K))
def t_right (K : PySem.W.Frag) : TS :=
  tSeq (tAsg (tOp rCat (tLstRg (tRg1 (tC (.int 14)))) (tLst (tCons (tC (.int 19)) (tCons (tC (.int 20)) tNil)))) (gName 2))
  (tSeq (t_loop K jG 16 "given" 0 2) (t_right2 K))
theorem loop_read (hx : ex K = true) {js : List Nat} {n : Int} {f : Str} {i0 s : Nat} {D : Ends} {σ : L2.St} {H : Hp} {y : V} {d : PyData} {l : Addr} (S : Option V → L2.St) (hS : ∃ v, σ = S v) (hset : ∀ v x, (S v).set 3 (some x) = S (some x))
    (hw : ∀ v (x : V), wipe (List.set (wipe (S v) [11]) 11 (some x)) [11] = wipe (S v) [11]) (s0 : ∀ v (x : V), (List.set (wipe (S v) [11]) 11 (some x))[i0]? = some (some y)) (ss : ∀ v (x : V), (List.set (wipe (S v) [11]) 11 (some x))[s]? = some (some (.ref l)))
    (s3 : ∀ v (x : V), (List.set (wipe (S (some v)) [11]) 11 (some x))[3]? = some (some v)) (s11 : ∀ v (x : V), (List.set (wipe (S v) [11]) 11 (some x))[11]? = some (some x)) (s0' : ∀ v, (S v)[i0]? = some (some y))
    (hl : H l = some (.lst (js.map fun j : Nat => V.int (j : Int)))) (hj : ∀ j ∈ js, j < 28 ∧ fld j = f) (hn : (js.length : Int) = n) (hn2 : n ≤ 40000) (hd : Sd H y d) (hs : Shw d)
    (k : ∀ v H', Ex H H' → D.nx (S v) H') : t_loop K js n f i0 s D σ H := by
  obtain ⟨v0, rfl⟩ := hS
  unfold t_loop tFor iList tLst
  refine cons_start ?_
  refine ⟨_, s0' _, y, rfl, fun p1 as1 H1 n1 e1 h1 m1 => ?_⟩
  refine cons_start ?_
  refine ⟨_, s0' _, y, rfl, fun p2 as2 H2 n2 e2 h2 m2 => ?_⟩
  refine ⟨(by show 2 ≤ sizeLine; decide), fun q nq => ?_⟩
  have e3 := Ex.new (o := HO.lst [.ref p1, .ref p2]) nq
  have eT := e1.trans (e2.trans e3)
  refine ⟨q, rfl, ⟨_, sq_of upd_same⟩, ?_⟩
  refine for_list (K := K) (a := q) (xs := [.ref p1, .ref p2]) (fun _ σ' H' => (∃ v, σ' = S v) ∧ Ex (upd H2 q (.lst [.ref p1, .ref p2])) H') ⟨⟨_, rfl⟩, Ex.refl _⟩ (fun i σ' H' _ ⟨_, e⟩ => sq_of (e q _ upd_same)) ?_ ?_
  · rintro i x σ' H' hi ⟨⟨v, rfl⟩, e⟩
    have key : ∀ (p : Addr) (as : List Addr), x = .ref p → H' p = some (.lst (as.map V.ref)) → Mades K H' y as js → gName 3 x (S v) H' fun σ2 H2' => t_round K n f i0 s { nx := fun σ' H' => (∃ v, σ' = S v) ∧ Ex (upd H2 q (.lst [.ref p1, .ref p2])) H', rt := D.rt, bk := D.nx, ct := fun σ' H' => (∃ v, σ' = S v) ∧ Ex (upd H2 q (.lst [.ref p1, .ref p2])) H' } σ2 H2' := by
      rintro p as rfl hp hm
      show t_round K n f i0 s _ ((S v).set 3 (some (.ref p))) H'
      rw [hset]
      exact round_read hx (hw _) (s0 _) (ss _) (s3 _) (s11 _) hp (e l _ (eT l _ hl)) hm hj hn hn2 (hd.ext (eT.trans e)) hs fun H'' e'' => ⟨⟨_, rfl⟩, e.trans e''⟩
    match i, hi with
    | 0, hi =>
      cases hi
      exact key p1 as1 rfl (e _ _ (e3 _ _ (e2 _ _ h1))) (m1.ex (e2.trans (e3.trans e)))
    | 1, hi =>
      cases hi
      exact key p2 as2 rfl (e _ _ (e3 _ _ h2)) (m2.ex (e3.trans e))
    | i + 2, hi => cases hi
  · rintro σ' H' ⟨⟨v, rfl⟩, e⟩
    exact k v H' (eT.trans e)
/-- right(a, b) -/
def spRight : Sp := fun vs H Q _ => ∃ (va vb : V) (da db : PyData), vs = [va, vb] ∧ Sd H va da ∧ Sd H vb db ∧ Sml da ∧ Sml db ∧ ∀ H', Ex H H' → Q (.bl true) H'
theorem pure_right (hx : ex K = true) (vs : List V) (H : Hp) (Q : VK) (E : XK) (h : spRight vs H Q E) : t_right K { nx := fun _ H' => Q .non H', rt := Q } (L2.start ["_law_a", "_law_b", "_law_at_given", "_law_found", "_law_at_index", "_law_full", "_law_ringed", "_law_lost", "_law_none_left", "_law_kept", "_law_fits_here", "_law_k"] vs) H := by
  obtain ⟨va, vb, da, db, rfl, ha, hb, ma, mb, k⟩ := h
  show t_right K { nx := fun _ H' => Q .non H', rt := Q } [some va, some vb, none, none, none, none, none, none, none, none, none, none] H
  unfold t_right
  refine ⟨14, rfl, ⟨by decide, by decide, by decide, by decide, by decide⟩, fun g hg => ⟨(by show 2 ≤ sizeLine; decide), fun b hb' => ⟨g, b, _, _, rfl, rfl, Ex.new hb' g _ upd_same, upd_same, (by show 16 ≤ sizeLine; decide), fun ag hag => ?_⟩⟩⟩
  have e1 := Ex.new (o := HO.lst (rgV 0 14)) hg
  have e2 := Ex.new (o := HO.lst [.int 19, .int 20]) hb'
  have e3 := Ex.new (o := HO.lst (rgV 0 14 ++ [V.int 19, V.int 20])) hag
  have E3 := e1.trans (e2.trans e3)
  refine loop_read hx (y := va) (d := da) (l := ag) (fun v => [some va, some vb, some (.ref ag), v, none, none, none, none, none, none, none, none]) ⟨none, rfl⟩ (fun _ _ => rfl) (fun _ _ => rfl) (fun _ _ => rfl) (fun _ _ => rfl) (fun _ _ => rfl) (fun _ _ => rfl) (fun _ => rfl)
    (by rw [upd_same, lst_ints]) fld_G rfl (by decide) (ha.ext E3) (shw_of ma) fun v H4 e4 => ?_
  show t_right2 K { nx := fun _ H' => Q .non H', rt := Q } [some va, some vb, some (.ref ag), v, none, none, none, none, none, none, none, none] H4
  unfold t_right2
  refine ⟨(by show 8 ≤ sizeLine; decide), fun ai hai => ?_⟩
  have e5 := Ex.new (o := HO.lst [.int 14, .int 15, .int 16, .int 17, .int 18, .int 21, .int 24, .int 26]) hai
  have E5 := E3.trans (e4.trans e5)
  refine loop_read hx (y := vb) (d := db) (l := ai) (fun v => [some va, some vb, some (.ref ag), v, some (.ref ai), none, none, none, none, none, none, none]) ⟨v, rfl⟩ (fun _ _ => rfl) (fun _ _ => rfl) (fun _ _ => rfl) (fun _ _ => rfl) (fun _ _ => rfl) (fun _ _ => rfl) (fun _ => rfl)
    (by rw [upd_same]; rfl) fld_I rfl (by decide) (hb.ext E5) (shw_of mb) fun v H6 e6 => ?_
  exact end_read hx (ha.ext (E5.trans e6)) (hb.ext (E5.trans e6)) ma mb fun H7 e7 => k H7 (E5.trans (e6.trans e7))
/-! ### the law -/
def spLaw (K : PySem.W.Frag) : Sp := fun vs H Q _ => ∃ (a : Addr) (ns : List Int), vs = [.ref a] ∧ SqL K H a (ns.map V.int) ∧ ns.length ≤ 63 ∧ ∀ H', Q (.bl true) H'
def t_body (K : PySem.W.Frag) : TS :=
  tSeq (tAsg (tCall (spWell K) [] E0 (tCons (tVar 0) (tCons (tVar 2) tNil))) (gName 3))
  (tIfS (tNot (tB (tCall spRight [] E0 (tCons (tCall spThing [] E0 (tCons (tVar 3) tNil)) (tCons (tCall spThing [] E0 (tCons (tVar 3) tNil)) tNil))))) (tRet (tC (.bl false))) tNext)
abbrev rMx : List V → Hp → VK → Prop := fun xs H Q => ∃ i j, xs = [V.int i, V.int j] ∧ Q (V.int (if j > i then j else i)) H
abbrev rMn : List V → Hp → VK → Prop := fun xs H Q => ∃ i j, xs = [V.int i, V.int j] ∧ Q (V.int (if j < i then j else i)) H
abbrev rLn (K : PySem.W.Frag) : List V → Hp → VK → Prop := fun xs H Q => ∃ p ys, xs = [V.ref p] ∧ (SqL K H p ys ∨ SqT K H p ys) ∧ Q (V.int ys.length) H
def t_law (K : PySem.W.Frag) : TS :=
  tSeq (tAsg (tLst (tCons (tC (.int 6)) (tCons (tC (.int 12)) (tCons (tC (.int 4)) (tCons (tC (.int 5)) (tCons (tC (.int 1000)) (tCons (tC (.int 2000)) tNil))))))) (gName 1))
  (tSeq (tIfS (tTest (tOp rNe (tCB rRp (tCons (tVar 1) tNil)) (tC (.str "[6, 12, 4, 5, 1000, 2000]")))) (tRet (tC (.bl false))) tNext)
  (tSeq (tFor (iRng1 (tCons (tCB rMx (tCons (tC (.int 2)) (tCons (tCB rMn (tCons (tCB (rLn K) (tCons (tVar 0) tNil)) (tCons (tC (.int 4)) tNil))) tNil))) tNil)) (gName 2) (t_body K))
  (tRet (tC (.bl true)))))
def dLim : PyData := .list [.int 6, .int 12, .int 4, .int 5, .int 1000, .int 2000]
theorem lim_text : dLim.shown = ("[6, 12, 4, 5, 1000, 2000]" : Str) := by decide +kernel
theorem lim_shw : Shw dLim := ⟨by decide +kernel, by decide +kernel, by decide +kernel⟩
theorem ex_of_b {H0 H1 H2 : Hp} {p : Addr} (hp : H0 p = none) (e : Ex H0 H1) (b : ExB p H1 H2) : Ex H0 H2 := fun a o h => b a o (fun z => by rw [z, hp] at h; cases h) (e a o h)
theorem body_read {a : Addr} {ns : List Int} {k : Int} {v1 v3 : Option V} {H : Hp} {D : Ends} (hS : SqL K H a (ns.map V.int)) (hl : ns.length ≤ 63) (h0 : 0 ≤ k) (q : ∀ v3 H', Ex H H' → D.nx [some (.ref a), v1, some (.int k), v3] H') :
    t_body K D [some (.ref a), v1, some (.int k), v3] H := by
  unfold t_body
  refine ⟨_, rfl, _, rfl, a, ns, k, rfl, hS, hl, h0, fun p H1 n1 e1 w1 => ?_⟩
  refine ⟨_, rfl, p, rfl, w1, fun va da H2 ma w2 b2 _ sa => ?_⟩
  refine ⟨_, rfl, p, rfl, w2, fun vb db H3 mb w3 b3 _ sb => ?_⟩
  refine ⟨va, vb, da, db, rfl, sa H3 b3, sb H3 (ExB.refl p H3), ma, mb, fun H4 e4 => ⟨true, rfl, ?_⟩⟩
  exact iteF (q _ H4 ((ex_of_b n1 (ex_of_b n1 e1 b2) b3).trans e4))
end
end K01
end

section
set_option Elab.async false
set_option linter.all false
set_option maxRecDepth 100000
set_option maxHeartbeats 4000000
namespace K01
open PySem PySem.Spec PyProof.Rows L2 My Evl
section
variable {P : Program} {w : World} {K : PySem.W.Frag} {mg : Str → Option Value} {base h : Heap} {f : Addr} {fd : FuncData}
theorem sqL_ex {H H' : Hp} {a : Addr} {xs : List V} (e : Ex H H') (h : SqL K H a xs) : SqL K H' a xs := h.imp (fun r => r.imp (e _ _) fun ⟨ob, z⟩ => ⟨ob, e _ _ z⟩) id
theorem pure_law {K : PySem.W.Frag} (vs : List V) (H : Hp) (Q : VK) (E : XK) (h : spLaw K vs H Q E) : t_law K { nx := fun _ H' => Q .non H', rt := Q } (L2.start ["_law_cells", "_law_some", "_law_k", "_law_well_here"] vs) H := by
  obtain ⟨a, ns, rfl, hS, hl, k⟩ := h
  show t_law K { nx := fun _ H' => Q .non H', rt := Q } [some (.ref a), none, none, none] H
  unfold t_law
  refine ⟨(by show 6 ≤ sizeLine; decide), fun p hp => ?_⟩
  have e1 := Ex.new (o := HO.lst [.int 6, .int 12, .int 4, .int 5, .int 1000, .int 2000]) hp
  refine ⟨_, rfl, .ref p, dLim, rfl, .lst upd_same (.cons (.int 6) (.cons (.int 12) (.cons (.int 4) (.cons (.int 5) (.cons (.int 1000) (.cons (.int 2000) .nil)))))), lim_shw, ?_⟩
  rw [lim_text]
  refine ⟨rfl, _, rfl, ?_⟩
  rw [decide_eq_true rfl]
  refine iteF ?_
  have hS1 : SqL K (upd H p (.lst [.int 6, .int 12, .int 4, .int 5, .int 1000, .int 2000])) a (ns.map V.int) := sqL_ex e1 hS
  generalize upd H p (.lst [.int 6, .int 12, .int 4, .int 5, .int 1000, .int 2000]) = H1 at *
  refine ⟨_, rfl, a, _, rfl, .inl hS1, _, _, rfl, _, _, rfl, _, rfl, ?_⟩
  have hb : ∀ m : Int, m ≤ 4 → 0 ≤ m → -2 ^ 62 ≤ m ∧ m < 2 ^ 62 := fun m h1 h2 => by omega
  have z0 : ∀ c : Int, (0 : Int) ≤ c → 0 ≤ (if (if (4 : Int) < c then (4 : Int) else c) > 2 then (if (4 : Int) < c then (4 : Int) else c) else 2) ∧ (if (if (4 : Int) < c then (4 : Int) else c) > 2 then (if (4 : Int) < c then (4 : Int) else c) else 2) ≤ 4 := by
    intro c hc
    split <;> split at * <;> omega
  obtain ⟨b1, b2⟩ := z0 ((ns.map V.int).length : Int) (by omega)
  obtain ⟨b3, b4⟩ := hb _ b2 b1
  refine ⟨b3, b4, ?_⟩
  refine for_range (lo := 0) (fun _ σ' H' => ∃ v2 v3, σ' = [some (.ref a), some (.ref p), v2, v3] ∧ Ex H1 H') ⟨_, _, rfl, Ex.refl _⟩ ?_ ?_
  · rintro i σ' H' hi ⟨v2, v3, rfl, e⟩
    exact body_read (sqL_ex e hS1) hl (by omega) fun v3 H'' e'' => ⟨_, _, rfl, e.trans e''⟩
  · rintro σ' H' ⟨v2, v3, rfl, e⟩
    exact k H'

theorem sc_law_right : FnScope ["_law_a", "_law_b", "_law_at_given", "_law_found", "_law_at_index", "_law_full", "_law_ringed", "_law_lost", "_law_none_left", "_law_kept", "_law_fits_here", "_law_k"] ["_law_a", "_law_b"] (defScope (top 49)) := ⟨rfl, rfl, rfl, by decide +kernel, rfl, by decide +kernel, by decide +kernel⟩
theorem ok_law_right (T : Ts P w K mg base) (FF : Cal P w K mg base "_law_fits" 2 ["_law_e", "_law_at"] (spFits K)) (FG : Cal P w K mg base "_law_with_given" 3 ["_law_a"] (spMk K jG)) (FGn : Cal P w K mg base "_law_with_given_by_name" 3 ["_law_a"] (spMk K jG)) (FI : Cal P w K mg base "_law_with_index" 3 ["_law_a"] (spMk K jI)) (FIn : Cal P w K mg base "_law_with_index_by_name" 3 ["_law_a"] (spMk K jI)) {o : Obj} (hS : K.lookup sysModules = some o)
    (F : FnT K "_law_right" (top 49) f fd) : FnG P w K mg base CX0 4 f fd ["_law_a", "_law_b"] spRight := by
  refine okG F sc_law_right (fun vs H Q E h => ?_) (fun cdv A outer s H vs Q E hG hr h => ⟨t_right K, PSs.nox ?_, pure_right T.x vs H Q E h⟩)
  · obtain ⟨va, vb, da, db, rfl, _⟩ := h
    rfl
  · have hr1 := hr.mono (j := 2) (by decide)
    have hr2 := hr.mono (j := 2) (by decide)
    exact (pss_cons (ps_set (i := 2) sc_law_right.nd rfl (Or.inr rfl) (pe_op op_cat (pe_listRg rfl (by rfl) T.n_list (prg_1 rfl T.n_range pe_int)) (pe_lst (pa_cons pe_int (pa_cons pe_int pa_nil)))))
      (pss_cons (ps_for PassesOwn.never rfl (pi_list (pe_lst (pa_cons (pe_fn FG hr rfl (pa_cons (pv 0) pa_nil)) (pa_cons (pe_fn FGn hr rfl (pa_cons (pv 0) pa_nil)) pa_nil)))) (pg_name (i := 3) sc_law_right.nd rfl (Or.inr rfl)) (pss_cons (ps_if (pt_cmpR (op_neD hr.units) (pe_lc (own := [("_law_k", 11)]) (g := gName 11) (by rfl) sc_law_right.nd (pi_range1 rfl T.n_range (pa_cons pe_int pa_nil)) (blkOk_by (own := [("_law_k", 11)]) (N := ["_law_a", "_law_b", "_law_at_given", "_law_found", "_law_at_index", "_law_full", "_law_ringed", "_law_lost", "_law_none_left", "_law_kept", "_law_fits_here", "_law_k"]) (sc := (defScope (top 49))) (by decide +kernel)) (fun _ _ _ _ _ => pg_name (i := 11) sc_law_right.nd rfl (Or.inl rfl)) (fun _ _ _ _ _ => (pts_one (pt_cmpR op_ne (pe_callB (call_rp hG hr.units hS) (by rfl) T.n_repr (by decide +kernel) (pa_cons (pe_xf (pe_ix ix_list (pv 3) (pv 11) (fun _ _ => rfl))) pa_nil)) (pe_callB (call_rp hG hr.units hS) (by rfl) T.n_repr (by decide +kernel) (pa_cons (pv 0) pa_nil)) (nomark _)))) (fun _ _ _ _ _ => (pv 11))) (pe_lst pa_nil) (nomark _)) (pss_one (ps_ret pe_bl)) pss_nil)
      (pss_one (ps_if (pt_cmpR (op_neD hr.units) (pe_lc (own := [("_law_k", 11)]) (g := gName 11) (by rfl) sc_law_right.nd (pi_range1 rfl T.n_range (pa_cons pe_int pa_nil)) (blkOk_by (own := [("_law_k", 11)]) (N := ["_law_a", "_law_b", "_law_at_given", "_law_found", "_law_at_index", "_law_full", "_law_ringed", "_law_lost", "_law_none_left", "_law_kept", "_law_fits_here", "_law_k"]) (sc := (defScope (top 49))) (by decide +kernel)) (fun _ _ _ _ _ => pg_name (i := 11) sc_law_right.nd rfl (Or.inl rfl)) (fun _ _ _ _ _ => (pts_one (pt_not (pt_val (pe_fn FF hr1 rfl (pa_cons (pe_ix ix_list (pv 3) (pv 11) (fun _ _ => rfl)) (pa_cons (pe_ix ix_list (pv 2) (pv 11) (fun _ _ => rfl)) pa_nil))))))) (fun _ _ _ _ _ => (pv 11))) (pe_lst pa_nil) (nomark _)) (pss_one (ps_ret pe_bl)) pss_nil))))
      (pss_cons (ps_set (i := 4) sc_law_right.nd rfl (Or.inr rfl) (pe_lst (pa_cons pe_int (pa_cons pe_int (pa_cons pe_int (pa_cons pe_int (pa_cons pe_int (pa_cons pe_int (pa_cons pe_int (pa_cons pe_int pa_nil))))))))))
      (pss_cons (ps_for PassesOwn.never rfl (pi_list (pe_lst (pa_cons (pe_fn FI hr rfl (pa_cons (pv 1) pa_nil)) (pa_cons (pe_fn FIn hr rfl (pa_cons (pv 1) pa_nil)) pa_nil)))) (pg_name (i := 3) sc_law_right.nd rfl (Or.inr rfl)) (pss_cons (ps_if (pt_cmpR (op_neD hr.units) (pe_lc (own := [("_law_k", 11)]) (g := gName 11) (by rfl) sc_law_right.nd (pi_range1 rfl T.n_range (pa_cons pe_int pa_nil)) (blkOk_by (own := [("_law_k", 11)]) (N := ["_law_a", "_law_b", "_law_at_given", "_law_found", "_law_at_index", "_law_full", "_law_ringed", "_law_lost", "_law_none_left", "_law_kept", "_law_fits_here", "_law_k"]) (sc := (defScope (top 49))) (by decide +kernel)) (fun _ _ _ _ _ => pg_name (i := 11) sc_law_right.nd rfl (Or.inl rfl)) (fun _ _ _ _ _ => (pts_one (pt_cmpR op_ne (pe_callB (call_rp hG hr.units hS) (by rfl) T.n_repr (by decide +kernel) (pa_cons (pe_xf (pe_ix ix_list (pv 3) (pv 11) (fun _ _ => rfl))) pa_nil)) (pe_callB (call_rp hG hr.units hS) (by rfl) T.n_repr (by decide +kernel) (pa_cons (pv 1) pa_nil)) (nomark _)))) (fun _ _ _ _ _ => (pv 11))) (pe_lst pa_nil) (nomark _)) (pss_one (ps_ret pe_bl)) pss_nil)
      (pss_one (ps_if (pt_cmpR (op_neD hr.units) (pe_lc (own := [("_law_k", 11)]) (g := gName 11) (by rfl) sc_law_right.nd (pi_range1 rfl T.n_range (pa_cons pe_int pa_nil)) (blkOk_by (own := [("_law_k", 11)]) (N := ["_law_a", "_law_b", "_law_at_given", "_law_found", "_law_at_index", "_law_full", "_law_ringed", "_law_lost", "_law_none_left", "_law_kept", "_law_fits_here", "_law_k"]) (sc := (defScope (top 49))) (by decide +kernel)) (fun _ _ _ _ _ => pg_name (i := 11) sc_law_right.nd rfl (Or.inl rfl)) (fun _ _ _ _ _ => (pts_one (pt_not (pt_val (pe_fn FF hr1 rfl (pa_cons (pe_ix ix_list (pv 3) (pv 11) (fun _ _ => rfl)) (pa_cons (pe_ix ix_list (pv 4) (pv 11) (fun _ _ => rfl)) pa_nil))))))) (fun _ _ _ _ _ => (pv 11))) (pe_lst pa_nil) (nomark _)) (pss_one (ps_ret pe_bl)) pss_nil))))
      (pss_cons (ps_asg (pe_tup (pa_cons (pe_kls T.k22 hr2 rfl (pa_cons (pv 0) pa_nil)) (pa_cons (pe_kls T.k23 hr2 rfl (pa_cons (pv 1) pa_nil)) (pa_cons (pe_kls T.k27 hr2 rfl (pa_cons (pv 0) (pa_cons (pv 1) pa_nil))) (pa_cons (pe_kls0 T.k25 hr2 rfl) pa_nil))))) (pg_tup (by rfl) (pgs_cons (pg_name (i := 5) sc_law_right.nd rfl (Or.inl rfl)) (pgs_cons (pg_name (i := 6) sc_law_right.nd rfl (Or.inl rfl)) (pgs_cons (pg_name (i := 7) sc_law_right.nd rfl (Or.inl rfl)) (pgs_cons (pg_name (i := 8) sc_law_right.nd rfl (Or.inl rfl)) pgs_nil))))))
      (pss_cons (ps_set (i := 9) sc_law_right.nd rfl (Or.inl rfl) (pe_lst (pa_cons (pe_xf (pv 5)) (pa_cons (pe_xf (pv 6)) (pa_cons (pe_xf (pv 7)) (pa_cons (pe_xf (pv 7)) pa_nil))))))
      (pss_cons (ps_set (i := 9) sc_law_right.nd rfl (Or.inl rfl) (pe_op op_cat (pv 9) (pe_lst (pa_cons (pe_xf (pe_klsK T.kk22 hr2 rfl (pk_cons (pv 1) pk_nil))) (pa_cons (pe_xf (pe_klsK T.kk23 hr2 rfl (pk_cons (pv 0) pk_nil))) (pa_cons (pe_xf (pe_klsK T.kk27 hr2 rfl (pk_cons (pv 0) (pk_cons (pv 1) pk_nil)))) pa_nil))))))
      (pss_cons (ps_if (pt_cmpR op_ne (pe_callB (call_rp hG hr.units hS) (by rfl) T.n_repr (by decide +kernel) (pa_cons (pv 9) pa_nil)) (pe_callB (call_rp hG hr.units hS) (by rfl) T.n_repr (by decide +kernel) (pa_cons (pe_lst (pa_cons (pv 0) (pa_cons (pv 1) (pa_cons (pv 0) (pa_cons (pv 1) (pa_cons (pv 1) (pa_cons (pv 0) (pa_cons (pv 0) pa_nil)))))))) pa_nil)) (nomark _)) (pss_one (ps_ret pe_bl)) pss_nil)
      (pss_cons (ps_set (i := 10) sc_law_right.nd rfl (Or.inl rfl) (pe_lst (pa_cons (pe_fn FF hr1 rfl (pa_cons (pv 5) (pa_cons pe_int pa_nil))) (pa_cons (pe_fn FF hr1 rfl (pa_cons (pv 6) (pa_cons pe_int pa_nil))) (pa_cons (pe_fn FF hr1 rfl (pa_cons (pv 7) (pa_cons pe_int pa_nil))) (pa_cons (pe_fn FF hr1 rfl (pa_cons (pv 8) (pa_cons pe_int pa_nil))) pa_nil))))))
      (pss_one (ps_ret (pe_cmpR (op_eqD hr.units) (pv 10) (pe_lst (pa_cons pe_bl (pa_cons pe_bl (pa_cons pe_bl (pa_cons pe_bl pa_nil))))) (nomark _)))))))))))))
theorem sc_law_thing : FnScope ["_law_well_here", "_law_some", "_law_at", "_law_fresh"] ["_law_well_here"] (defScope (top 42)) := ⟨rfl, rfl, rfl, by decide +kernel, rfl, by decide +kernel, by decide +kernel⟩
theorem ok_law_thing (T : Ts P w K mg base) (FD : Cal P w K mg base "_law_draw" 1 ["_law_well_here", "_law_many"] spDraw) (F : FnT K "_law_thing" (top 42) f fd) : FnOk P w K mg base CX0 2 f fd ["_law_well_here"] spThing := by
  refine F.ok sc_law_thing (fun vs H Q E h => ?_) (fun cdv A outer s H vs Q E hr h => ⟨t_thing K, PSs.nox ?_, pure_thing vs H Q E h⟩)
  · obtain ⟨p, rfl, _⟩ := h
    rfl
  · unfold t_thing tItems
    exact (pss_cons (ps_set (i := 1) sc_law_thing.nd rfl (Or.inl rfl) (pe_lst (pa_cons pe_non (pa_cons pe_bl (pa_cons pe_bl (pa_cons pe_int (pa_cons (pe_un un_neg pe_int) (pa_cons (pe_op op_add (pe_op op_pow pe_int pe_int) pe_int) (pa_cons pe_str (pa_cons pe_str (pa_cons (pe_tup pa_nil) (pa_cons (pe_tup (pa_cons pe_int (pa_cons pe_str pa_nil))) (pa_cons (pe_lst pa_nil) (pa_cons (pe_lst (pa_cons pe_int (pa_cons pe_non pa_nil))) (pa_cons pe_dnewK (pa_cons (pe_disp (pps_cons pe_str pe_int pps_nil) (by rfl) (by rfl) (fun z => by cases z) (by decide)) pa_nil))))))))))))))))
      (pss_cons (ps_set (i := 2) sc_law_thing.nd rfl (Or.inl rfl) (pe_fn FD hr rfl (pa_cons (pv 0) (pa_cons pe_int pa_nil))))
      (pss_cons (ps_if (pt_cmpR op_lt (pv 2) pe_int (nomark _)) (pss_one (ps_ret (pe_ix ix_list (pv 1) (pv 2) (fun _ _ => rfl)))) pss_nil)
      (pss_cons (ps_set (i := 3) sc_law_thing.nd rfl (Or.inl rfl) (pe_fn FD hr rfl (pa_cons (pv 0) (pa_cons pe_int pa_nil))))
      (pss_one (ps_ret (pe_ix ix_list (pe_lst (pa_cons (pv 3) (pa_cons (pe_callTy call_str_int (by rfl) T.n_str (by decide +kernel) (pa_cons (pv 3) pa_nil)) (pa_cons (pe_tup (pa_cons pe_str (pa_cons (pv 3) pa_nil))) pa_nil)))) (pe_op op_sub (pv 2) pe_int) (fun _ _ => rfl))))))))
theorem sclaw : FnScope ["_law_cells", "_law_some", "_law_k", "_law_well_here"] ["_law_cells"] (defScope (top 50)) := ⟨rfl, rfl, rfl, by decide +kernel, rfl, by decide +kernel, by decide +kernel⟩
theorem ok_law (T : Ts P w K mg base) (FW : Cal P w K mg base "_law_well" 2 ["_law_cells", "_law_k"] (spWell K)) (FT : Cal P w K mg base "_law_thing" 2 ["_law_well_here"] spThing) (FR : CalG P w K mg base "_law_right" 4 ["_law_a", "_law_b"] spRight) {o : Obj} (hS : K.lookup sysModules = some o)
    (F : FnT K "law" (top 50) f fd) : FnG P w K mg base CX0 5 f fd ["_law_cells"] (spLaw K) := by
  refine okG F sclaw (fun vs H Q E h => ?_) (fun cdv A outer s H vs Q E hG hr h => ⟨t_law K, PSs.nox ?_, pure_law vs H Q E h⟩)
  · obtain ⟨a, ns, rfl, _⟩ := h
    rfl
  · have hr1 := hr.mono (j := 2) (by decide)
    exact (pss_cons (ps_set (i := 1) sclaw.nd rfl (Or.inl rfl) (pe_lst (pa_cons (pe_glob (v := .int 6) rfl T.c_MOST_STATIONS.choose_spec ⟨_, rfl⟩) (pa_cons (pe_glob (v := .int 12) rfl T.c_MOST_LINKS.choose_spec ⟨_, rfl⟩) (pa_cons (pe_glob (v := .int 4) rfl T.c_MOST_HANDS.choose_spec ⟨_, rfl⟩) (pa_cons (pe_glob (v := .int 5) rfl T.c_MOST_STOCK.choose_spec ⟨_, rfl⟩) (pa_cons (pe_glob (v := .int 1000) rfl T.c_MOST_NUMBER.choose_spec ⟨_, rfl⟩) (pa_cons (pe_glob (v := .int 2000) rfl T.c_MOST_LAGS.choose_spec ⟨_, rfl⟩) pa_nil))))))))
      (pss_cons (ps_if (pt_cmpR op_ne (pe_callB (call_rp hG hr.units hS) (by rfl) T.n_repr (by decide +kernel) (pa_cons (pv 1) pa_nil)) pe_str (nomark _)) (pss_one (ps_ret pe_bl)) pss_nil)
      (pss_cons (ps_for PassesOwn.never rfl (pi_range1 rfl T.n_range (pa_cons (pe_callB (call_max2 rfl) (by rfl) T.n_max (by decide +kernel) (pa_cons pe_int (pa_cons (pe_callB (call_min2 rfl) (by rfl) T.n_min (by decide +kernel) (pa_cons (pe_callB call_len_seq (by rfl) T.n_len (by decide +kernel) (pa_cons (pv 0) pa_nil)) (pa_cons pe_int pa_nil))) pa_nil))) pa_nil)) (pg_name (i := 2) sclaw.nd rfl (Or.inl rfl)) (pss_cons (ps_set (i := 3) sclaw.nd rfl (Or.inl rfl) (pe_fn FW hr1 rfl (pa_cons (pv 0) (pa_cons (pv 2) pa_nil))))
      (pss_one (ps_if (pt_not (pt_val (pe_fnG FR hG hr rfl (pa_cons (pe_fn FT hr1 rfl (pa_cons (pv 3) pa_nil)) (pa_cons (pe_fn FT hr1 rfl (pa_cons (pv 3) pa_nil)) pa_nil))))) (pss_one (ps_ret pe_bl)) pss_nil))))
      (pss_one (ps_ret pe_bl)))))
theorem cal_law_thing (X : K.In h) (G : h.Ns mainGlobals mg) (c : SaysM fa fn ex K) : Cal P w K mg base "_law_thing" 2 ["_law_well_here"] spThing := by
  obtain ⟨fd, F⟩ := c.d.def_ 31 (d := dG "_law_thing" (top 42)) rfl
  exact ⟨_, fd, ok_law_thing (mkT X G c) (cal_law_draw X G c) F, glo_all X G c.d _ (by decide +kernel), F.kp, F.bindsN fun _ _ _ _ _ _ us hl => match us, hl with | [_], _ => rfl⟩
theorem sysS (c : SaysM fa fn ex K) : ∃ o, K.lookup sysModules = some o := by
  have z := c.x
  simp only [ex, Bool.and_eq_true] at z
  exact Option.isSome_iff_exists.mp z.1
theorem cal_law_right (X : K.In h) (G : h.Ns mainGlobals mg) (c : SaysM fa fn ex K) : CalG P w K mg base "_law_right" 4 ["_law_a", "_law_b"] spRight := by
  obtain ⟨fd, F⟩ := c.d.def_ 38 (d := dG "_law_right" (top 49)) rfl
  obtain ⟨o, hS⟩ := sysS c
  exact ⟨_, fd, ok_law_right (mkT X G c) (cal_law_fits X G c) (cal_law_with_given X G c) (cal_law_with_given_by_name X G c) (cal_law_with_index X G c) (cal_law_with_index_by_name X G c) hS F, glo_all X G c.d _ (by decide +kernel), F.kp, F.bindsN fun _ _ _ _ _ _ us hl => match us, hl with | [_, _], _ => rfl⟩
theorem facts (X : K.In h) (G : h.Ns mainGlobals mg) (hfa : mg ("law" : Str) = some (.ref f)) (c : SaysM fa fn ex K) :
    ∃ fd : FuncData, (∀ (s : Shared) (v : Value), BindsTo s fd ⟨[v], []⟩ [("_law_cells", v)]) ∧ ∀ base : Heap, K.In base → base.Ns mainGlobals mg → FnG P w K mg base CX0 5 f fd ["_law_cells"] (spLaw K) := by
  obtain ⟨fd, F⟩ := c.d.def_ 39 (d := dG "law" (top 50)) rfl
  obtain ⟨o, hS⟩ := sysS c
  have e := hfa.symm.trans (glo_all X G c.d ("law" : Str) (by decide +kernel))
  cases e
  have b := FunD.bindsA (ps := ["_law_cells"]) F fun _ _ _ _ _ _ us hl => match us, hl with | [_], _ => rfl
  exact ⟨fd, fun s v => b s [v] rfl, fun base _ _ => ok_law (mkT X G c) (cal_law_well X G c) (cal_law_thing X G c) (cal_law_right X G c) hS F⟩
end
end K01
end

section
set_option Elab.async false
set_option linter.all false
set_option maxRecDepth 100000
set_option maxHeartbeats 0
open PySem PySem.W PySem.Calls PyProof.Rows
theorem PySem.Challenge.cw_owntimes_k01_limits_and_errors_holds : PySem.Challenge.rw_owntimes_k01_limits_and_errors.Holds := by
  w_on; o_law
  refine HandSHeadRun.head_any (r := OpenLaw.row PySem.Challenge.rw_owntimes_k01_limits_and_errors) (q := view (OpenLaw.row PySem.Challenge.rw_owntimes_k01_limits_and_errors).prog [50]) (H := K01.hk) (ob := K01.ob) (M := 40000) (loose := K01.loose) (d := HandSHeadRun.topDef (OpenLaw.row PySem.Challenge.rw_owntimes_k01_limits_and_errors).prog 50) (kwd := []) K01.ob_eq
    (by kernel_rfl) (fun s => by kernel_rfl) K01.run (by kernel_rfl) (by kernel_rfl) (by kernel_rfl) (by rfl) (by first | assumption | decide +kernel) (by decide +kernel) ⟨rfl, rfl, rfl, rfl, rfl, by decide +kernel⟩ ?hw ?hc
  case hw => w_witness2
  case hc =>
    refine My.walk_G (l := PySem.Challenge.rw_owntimes_k01_limits_and_errors) (n := 63) (k := 5) (x := "_law_cells") (CX := L2.CX0) rfl (by decide) (by kernel_rfl) ⟨rfl, by decide, by decide⟩ ?F (fun _ _ _ _ z => z)
    intro w mg fa h Y G hmg0
    obtain ⟨K, KX, c⟩ := Y
    have hmg : mg ("law" : PySem.Str) = some (.ref fa) := by
      have e : (HandSHeadRun.topDef (OpenLaw.row PySem.Challenge.rw_owntimes_k01_limits_and_errors).prog 50).name = ("law" : PySem.Str) := by kernel_rfl
      rw [← e]
      exact hmg0
    obtain ⟨fd, hb, hF⟩ := K01.facts (P := (PySem.Challenge.rw_owntimes_k01_limits_and_errors).prog) (w := w) KX G hmg c
    exact ⟨K, fd, K01.spLaw K, KX, hb, fun H a ns hl _ hS => ⟨a, ns, rfl, hS, hl, fun _ => rfl⟩, hF⟩
end
