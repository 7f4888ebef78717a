import PyProof.Rows.All
import Wide.All
import OpenK.AllK
import Wide.FinOn
import PyProof.EqAt
import PyProof.EqKinds
import PyProof.TupleCall
import PyProof.ReprRoads
import KE.KExcInit
import KE.KExcIs
import HandS.ForExc
import HandS.ForMost
import HandS.ExcInit
import HandS.ExcValue
import HandS.ExcField
import HandS.ExcIs
import HandS.ExcOwn
import HandS.Walk
import HandS.Evl
import PySem.Challenge.RW_semirail_k01_three_families
set_option Elab.async false
set_option linter.all false
set_option maxRecDepth 100000
set_option maxHeartbeats 8000000
/-! X1: own exceptions of any of the eleven bases, made with positional arguments and keywords -/
namespace PySem
namespace VX
open PySem.W PySem.Calls PyProof.Rows PySem.HandSPX
section
variable {M : Model} {A : Around} {E : Value → Shared → Prop} {h : Heap} {g : Array GenState} {d : Drawn} {t : Nat} {os : OsState}
variable {nm q : Str} {C N : Addr} {bs bm bmB : List Value} {hdct : Bool} {sn : List Str} {sub : List Value} {ab : Bool} {col : Option Bool} {dd : Option Addr} {k0 k1 k2 k3 k5 : Option Value} {B newId initId : String}
theorem newGuardK (F : ExcBaseFacts B newId initId bmB) (hT : ∀ X : String, bm.contains (.type X) = bmB.contains (.type X)) {rest : List Value} {kw : List (Str × Value)} {Q : Unit → Shared → Prop}
    (hC : h.get? C = some (excClassObj nm q C N bs bm hdct sn sub ab col dd k0 k1 k2 k3 k5 newId)) (hq : Q () ⟨h, g, d, t, os⟩) :
    wpAny M A (checkBuiltinCall newId ⟨.ref C :: rest, kw⟩) Q E ⟨h, g, d, t, os⟩ := by
  have inB : (Value.ref C :: bm).contains (.type B) = true := by rw [List.contains_cons, hT, F.hasB]; exact Bool.or_true _
  have star := F.noStar
  simp only [checkBuiltinCall, F.newKind, F.newSplit, F.newRow]
  repeat (first
    | refine wpAny_loadPart_at hC ?_
    | (refine wpAny_isSubtype_exc hC ?_; rw [inB])
    | refine wpAny_staticBase_exc hC ?_
    | refine wpAny_madeBy_exc hC ?_
    | simp only [bne_self_eq_false, Bool.false_eq_true, if_false]
    | wp_step)
  exact hq
end
section
variable {prog : Program} {w : World} {A : Around} {E : Value → Shared → Prop} {R : Result → Shared → Prop} {h : Heap} {g : Array GenState} {d : Drawn} {t : Nat} {os : OsState}
variable {nm q : Str} {C N : Addr} {bs bm bmB : List Value} {hdct : Bool} {sn : List Str} {sub : List Value} {ab : Bool} {col : Option Bool} {dd : Option Addr} {k0 k1 k2 k3 k5 : Option Value} {B newId initId : String}
theorem newK (F : ExcBaseFacts B newId initId bmB) (hT : ∀ X : String, bm.contains (.type X) = bmB.contains (.type X)) {rest : List Value} {kw : List (Str × Value)}
    (hC : h.get? C = some (excClassObj nm q C N bs bm hdct sn sub ab col dd k0 k1 k2 k3 k5 newId))
    (hq : R (.ok (.ret (.ref (h.objs.size + 1)))) ⟨(h.push (kdv_tup rest)).push (excO C h.objs.size), g, d, t, os⟩) (hrest : rest.length ≤ sizeLine) :
    codeAny (model prog w) A (.builtin newId ⟨.ref C :: rest, kw⟩) R ⟨h, g, d, t, os⟩ := by
  have ends := F.ends
  have inB : (Value.ref C :: bm).contains (.type B) = true := by rw [List.contains_cons, hT, F.hasB]; exact Bool.or_true _
  have inA : (Value.ref C :: bm).contains (.type "AttributeError") = false := by rw [List.contains_cons, hT, F.noAttr] <;> rfl
  have inN : (Value.ref C :: bm).contains (.type "NameError") = false := by rw [List.contains_cons, hT, F.noName] <;> rfl
  refine codeAny_builtinAt F.entry ?_
  unfold Builtin.«BaseException.__new__»
  refine wpAt_bind ?_
  show wpAt _ _ _ (stack >>= _) _ _ _
  refine wpAt_bind (wpAt_stack fun p below => wpAt_of_wpAny ?_)
  wp_walk
  refine wpAt_of_wpAny ?_
  rw [F.owner]
  repeat (first
    | with_reducible refine wpAny_madeHere_exc F.canon hC ?_
    | with_reducible refine wpAny_loadPart_at hC ?_
    | (with_reducible refine wpAny_isSubtype_exc hC ?_; first | rw [inB] | rw [inA] | rw [inN])
    | wp_step)
  show R _ _
  rw [Heap.size_push]
  exact hq
theorem typeCallK (F : ExcBaseFacts B newId initId bmB) (hT : ∀ X : String, bm.contains (.type X) = bmB.contains (.type X)) {rest : List Value} {kw : List (Str × Value)} {fI : Addr} {Q : Fin → Shared → Prop}
    (hC : h.get? C = some (excClassObj nm q C N bs bm hdct sn sub ab col dd k0 k1 k2 k3 k5 newId))
    (hi : W.Looks (model prog w) h (typeLookup (.ref C) "__init__") (some (.ref fI))) (hb : ∀ self, W.Looks (model prog w) h (bindSpecial (.ref fI) self) (.ref fI, [self])) (hrest : rest.length ≤ sizeLine)
    (hq : codeAny (model prog w) A (.call (.ref fI) ⟨.ref (h.objs.size + 1) :: rest, kw⟩)
      (fun r s' => match r with | .ok (.ret v) => v = .none ∧ Q (.done (.ret (.ref (h.objs.size + 1)))) s' | .ok _ => False | .error e => E e s')
      ⟨(h.push (kdv_tup rest)).push (excO C h.objs.size), g, d, t, os⟩) :
    wpAny (model prog w) A (Builtin.«type.__call__» ⟨.ref C :: rest, kw⟩) Q E ⟨h, g, d, t, os⟩ := by
  repeat (first
    | with_reducible refine wpAny_loadPart_at hC ?_
    | with_reducible refine wpAny_madeBy_exc hC ?_
    | wp_step)
  refine codeAny_call_builtin_code (Code.quiet_builtin _ F.quiet) (newGuardK F hT hC ?_)
  refine newK F hT hC ?_ hrest
  show wpAny _ _ _ _ _ _
  have up : ∀ b o, h.get? b = some o → ((h.push (kdv_tup rest)).push (excO C h.objs.size)).get? b = some o := fun b o e => Heap.get?_push_of_some _ (Heap.get?_push_of_some _ e)
  have hC2 := up _ _ hC
  have here : ((h.push (kdv_tup rest)).push (excO C h.objs.size)).get? (h.objs.size + 1) = some (excO C h.objs.size) := by heap_get
  have inC : (Value.ref C :: bm).contains (.ref C) = true := by simp
  have i2 := hi.keeps up
  have b2 := (hb (.ref (h.objs.size + 1))).keeps up
  unfold isInstance
  repeat (first
    | with_reducible refine wpAny_loadPart_at here ?_
    | (with_reducible refine wpAny_isSubtype_exc hC2 ?_; rw [inC])
    | wp_step)
  show wpAny _ _ (typeLookup (.ref C) _) _ _ _
  refine i2.at ?_
  refine wpAny_holding (wpAny_bind (b2.at ?_))
  refine wpAny_bind (wpAny_call (codeAny_mono hq fun r s' z => ?_))
  rcases r with e | (v | _ | _ | _) <;> first | exact z | exact z.elim | skip
  obtain ⟨rfl, z⟩ := z
  first
    | exact wpAny_pure (wpAny_pure z)
    | (wp_walk; exact z)
end
section
variable {prog : Program} {w : World} {A : Around} {E : Value → Shared → Prop} {R : Result → Shared → Prop} {s : Shared} {K : Frag} {C fI : Addr} {bmB : List Value} {B newId initId : String}
/-- C(.., k = v): the object and its args are laid, then the class's own __init__ runs -/
theorem callK (F : ExcBaseFacts B newId initId bmB) (X : K.In s.heap) (q : excInitIn K C bmB newId = true) {rest : List Value} {kw : List (Str × Value)}
    (iC : findIn K (.ref C) "__init__" = some (some (.ref fI))) (tI : typeIn K (.ref fI) = some (.type "function")) (hrest : rest.length ≤ sizeLine)
    (hq : codeAny (model prog w) (A.under (.builtin "type.__call__" ⟨.ref C :: rest, kw⟩)) (.call (.ref fI) ⟨.ref (s.heap.objs.size + 1) :: rest, kw⟩) (W.InitBack (s.heap.objs.size + 1) R)
      { s with heap := (s.heap.push (kdv_tup rest)).push (excO C s.heap.objs.size) }) :
    codeAny (model prog w) A (.call (.ref C) ⟨rest, kw⟩) R s := by
  obtain ⟨nm, N', qn, bs, bm, hdct, sn, sub, ab, col, dd, k0, k1, k2, k3, k5, hC, hT⟩ := excInit_of X q
  have hi : W.Looks (model prog w) s.heap (typeLookup (.ref C) "__init__") (some (.ref fI)) := looks_findIn X iC
  have hb : ∀ self, W.Looks (model prog w) s.heap (bindSpecial (.ref fI) self) (.ref fI, [self]) := fun self => bind_fn X self tI
  obtain ⟨h, g, d, t, os⟩ := s
  have f1 := tc_lookup
  have f2 := tc_bind (.ref C)
  have hTy : (⟨h, g, d, t, os⟩ : Shared).TypeIs (.ref C) "type" := ⟨_, hC, rfl⟩
  refine codeAny_of_tree ?_
  show wpAny _ _ (callAny (.ref C) _) _ _ _
  repeat (any_goals (first | assumption | with_reducible refine wpAny_loadPart_at hC ?_ | wp_step))
  refine ⟨rfl, ?_⟩
  refine codeAny_call_builtin_at (Code.quiet_builtin _ (by decide +kernel)) entry_typeCall (wpAny_check_type_call_sub hC (typeCallK F hT hC hi hb hrest ?_))
  refine codeAny_mono hq fun r s' z => ?_
  rcases r with e | (v | _ | _ | _) <;> exact z
end
end VX
end PySem

/-! X2: fields stored into such an exception -/
namespace PySem
namespace VX
open PySem.W PySem.Calls PyProof.Rows PySem.HandSPX
section
open Builtin Builtin.ObjectAttr
variable {prog : Program} {w : World} {A : Around} {R : Result → Shared → Prop} {K : Frag} {hp : Heap} {g : Array GenState} {d : Drawn} {t : Nat} {os : OsState} {C x dx : Addr} {bmB : List Value} {B : String} {name : Str} {tk : Tok} {v : Value} {fv : Array Value} {m0 : Str → Option Value} {nl : List Str}
/-- the first field: the dict is made -/
theorem storeFirst (SF : StoreFacts B bmB "object.__setattr__" "object") (X : K.In hp) (hx : hp.get? x = some { cls := .ref C, data := .fields fv }) (q : excOver K C bmB = true) (hh : hasDictIn K C = true) (ta : takerIn K C name = some none)
    (hq : ∀ h' tk' dx, (∀ b o, b ≠ x → hp.get? b = some o → h'.get? b = some o) → hp.objs.size ≤ dx → dx ≠ x → h'.get? x = some { cls := .ref C, dict := some dx, data := .fields fv } →
      h'.Ns1 dx (fun y => if y = name then some v else none) → R (.ok (.ret .none)) ⟨h', g, d, tk', os⟩) :
    codeAny (model prog w) A (.call (.builtin "object.__setattr__") ⟨[.ref x, .str name tk, v], []⟩) R ⟨hp, g, d, t, os⟩ := by
  obtain ⟨cd, hcd, hd'⟩ := any_some hh
  have lk : W.Looks (model prog w) hp (classData C) cd := looks_clsIn X hcd
  have nx : x ≠ hp.objs.size := Nat.ne_of_lt (Heap.lt_size hx)
  refine osa_openX (od := none) (ox := { cls := .ref C, data := .fields fv }) SF X ⟨hx, rfl, rfl, trivial⟩ q ta fun b => ?_
  show wpAny _ _ (storeInOwnDict (.ref x) (.ref C) (.str name tk) name v b) _ _ _
  obtain ⟨nm, bs, mro, ns, qn, hd, sn, sb, ab, col, del⟩ := cd
  dsimp only at hd'
  subst hd'
  unfold storeInOwnDict ownDictForStores
  repeat (first
    | with_reducible refine store_in_new ?_ ?_
    | with_reducible refine wpAny_loadPart_at hx ?_
    | with_reducible refine lk.at ?_
    | wp_step)
  · exact ⟨_, #[], _, (Heap.get?_update_ne _ _ _ _ nx.symm).trans (Heap.get?_push_at rfl rfl), rfl, fun e he => absurd he (by simp), fun _ => rfl⟩
  · intro h' tk' hn' hs
    have hx1 : (hp.push { cls := .type "dict", data := .dict #[] }).get? x = some { cls := .ref C, data := .fields fv } := Heap.get?_push_of_some _ hx
    refine hq h' tk' hp.objs.size (fun b o hb ho => ?_) (Nat.le_refl _) nx.symm ?_ hn'
    · exact (hs.2 b (Nat.ne_of_lt (Heap.lt_size ho))).trans ((Heap.get?_update_ne _ _ _ _ hb).trans (Heap.get?_push_of_some _ ho))
    · exact (hs.2 x nx).trans (Heap.get?_update_self _ hx1 rfl)
/-- a further field -/
theorem storeNext (SF : StoreFacts B bmB "object.__setattr__" "object") (X : K.In hp) (hx : hp.get? x = some { cls := .ref C, dict := some dx, data := .fields fv }) (hns : hp.Ns1 dx m0) (hw : Within m0 nl) (hz : nl.length ≤ 1000)
    (q : excOver K C bmB = true) (hh : hasDictIn K C = true) (ta : takerIn K C name = some none)
    (hq : ∀ h' tk', (∀ b o, b ≠ dx → hp.get? b = some o → h'.get? b = some o) → h'.Ns1 dx (fun y => if y = name then some v else m0 y) → R (.ok (.ret .none)) ⟨h', g, d, tk', os⟩) :
    codeAny (model prog w) A (.call (.builtin "object.__setattr__") ⟨[.ref x, .str name tk, v], []⟩) R ⟨hp, g, d, t, os⟩ := by
  obtain ⟨oD, esD, epD, hoD, hdD, _⟩ := hns.count hw
  obtain ⟨cd, hcd, hd'⟩ := any_some hh
  have lk : W.Looks (model prog w) hp (classData C) cd := looks_clsIn X hcd
  refine osa_openX (od := some oD) (ox := { cls := .ref C, dict := some dx, data := .fields fv }) SF X ⟨hx, rfl, rfl, hoD⟩ q ta fun b => ?_
  show wpAny _ _ (storeInOwnDict (.ref x) (.ref C) (.str name tk) name v b) _ _ _
  obtain ⟨nm, bs, mro, ns, qn, hd, sn, sb, ab, col, del⟩ := cd
  dsimp only at hd'
  subst hd'
  unfold storeInOwnDict ownDictForStores
  repeat (first
    | with_reducible refine OEX.store_in_old hns hw hz ?_
    | with_reducible refine wpAny_loadPart_at hx ?_
    | with_reducible refine lk.at ?_
    | wp_step)
  intro h' tk' hn' hs
  exact hq h' tk' (fun b o hb ho => (hs.2 b hb).trans ho) hn'
end
end VX
end PySem

/-! X3: the program's own __init__s, each a store of its arguments -/
namespace PySem
namespace VX
open PySem.W PySem.Calls PyProof.Rows PySem.HandSPX
/-- what the written part says of an own exception class at C, fields fn, over the built-in base B -/
structure XB (K : Frag) (bmB : List Value) (newId : String) (C : Addr) (fn : List Str) : Prop where
  ini : excInitIn K C bmB newId = true
  over : excOver K C bmB = true
  hd : hasDictIn K C = true
  sa : findIn K (.ref C) "__setattr__" = some (some (.builtin "object.__setattr__"))
  ga : findIn K (.ref C) "__getattribute__" = some (some (.builtin "BaseException.__getattribute__"))
  gg : findIn K (.ref C) "__getattr__" = some none
  ca : findIn K (.ref C) "__class__" = some (some (.builtin "object.__class__"))
  mo : mroIn K C (.type "object") = some true
  no : ∀ f ∈ fn, findIn K (.ref C) f = some none
  keep : keepIn K (.ref C) = true
  exc : subIn K (.ref C) (.type "BaseException") = some true
  ty : typeIn K (.ref C) = some (.type "type")
theorem taker_of {K : Frag} {C : Addr} {f : Str} (h : findIn K (.ref C) f = some none) : takerIn K C f = some none := by
  unfold takerIn
  rw [h]
  rfl
def fS (f : Str) : Scope := { kind := .function, names := [(PySem.Str.ofString "self", .local), (f, .local)], isGenerator := false, isCoroutine := false, more := [] }
def fA (f : Str) (p1 p2 : Pos) : Arguments := { posonlyargs := [], args := [{ arg := "self", annotation := none, pos := p1 }, { arg := f, annotation := none, pos := p2 }], vararg := none, kwonlyargs := [], kw_defaults := [], kwarg := none, defaults := [] }
def fB (f : Str) (q1 q2 q3 q4 : Pos) : List Stmt := [.Assign [.Attribute (.Name "self" q1) f q2] (.Name f q3) q4]
/-- what __init__ leaves of the object at x -/
structure InitLeft (h h' : Heap) (x C dx t1 : Addr) (kvs : List (Str × Value)) : Prop where
  keep : ∀ b o, b ≠ x → h.get? b = some o → h'.get? b = some o
  obj : h'.get? x = some { cls := .ref C, dict := some dx, data := .fields #[.ref t1, .none, .none, .none, .bool false, .none] }
  dbig : h.objs.size ≤ dx
  dne : dx ≠ x
  ns : h'.Ns1 dx (fun y => kvs.lookup y)
theorem look1 (f : Str) (v : Value) : (fun y => if y = f then some v else none) = fun y => ([(f, v)] : List (Str × Value)).lookup y := by
  funext y
  by_cases e : y = f
  · subst e
    simp [List.lookup]
  · have q : (y == f) = false := by simpa using e
    rw [if_neg e]
    simp [List.lookup, q]
theorem look2 (f g : Str) (v u : Value) : (fun y => if y = g then some u else if y = f then some v else none) = fun y => ([(g, u), (f, v)] : List (Str × Value)).lookup y := by
  funext y
  by_cases e : y = g
  · subst e
    simp [List.lookup]
  · have q : (y == g) = false := by simpa using e
    rw [if_neg e]
    have l := congrFun (look1 f v) y
    rw [show (if y = f then some v else none) = _ from l]
    simp [List.lookup, q]
theorem localAt {M : Model} {s : Shared} {name : Str} {scope : Scope} {L a : Addr} {cd : Value} {m : Str → Option Value} {x : Str} {pos : Pos} {v : Value} {Q : Value → Shared → Prop} {A : Around} {E : Value → Shared → Prop}
    (hn : s.heap.Ns L m) (hv : m x = some v) (h : Q v s) (hk : scope.kind = .function := by rfl) (hl : (envOfC name scope L a cd).kindOf x = some .local := by rfl) (hd : (x == ("__debug__" : Str)) = false := by decide) :
    wpAny M A (eval (.Name x pos) (envOfC name scope L a cd)) Q E s := by
  refine wpAny_Name ?_ hd
  exact wpAny_loadName_local hk hl hn hv h
/-- the def of an __init__ with one field -/
structure Ini1 (K : Frag) (fI : Addr) (qual f : Str) (fd : FuncData) : Prop where
  ex : ∃ (oc : Value) (od : Option Addr) (doc pm : Value) (an : Option Addr) (cdv ct : Value) (osl : Array (Option Value)) (p1 p2 q1 q2 q3 q4 : Pos),
    fd = fnOf "__init__" qual (fA f p1 p2) (fB f q1 q2 q3 q4) (fS f) .none .none doc pm an cdv ct ∧ K.lookup fI = some ⟨oc, od, .func fd, osl⟩ ∧ codeIn K cdv qual = true
section
variable {prog : Program} {w : World} {A : Around} {E : Value → Shared → Prop} {R : Result → Shared → Prop} {s : Shared} {K : Frag} {C fI : Addr} {bmB : List Value} {B newId : String} {qual : Str} {fd : FuncData} {args : Args}
theorem init_what (SF : StoreFacts B bmB "object.__setattr__" "object") (T : XB K bmB newId C [("what" : Str)]) (D : Ini1 K fI qual "what" fd) {x t0 : Addr} {v : Value} (X : K.In s.heap) (hlim : s.heap.NoLimit)
    (hx : s.heap.get? x = some (excO C t0)) (hroom : A.depth < recursionLimit) (hb : BindsTo s fd args [("self", .ref x), ("what", v)])
    (hq : ∀ h' tk dx, InitLeft s.heap h' x C dx t0 [("what", v)] → R (.ok (.ret .none)) { s with heap := h', toks := tk }) :
    codeAny (model prog w) A (.call (.ref fI) args) R s := by
  obtain ⟨oc, od, doc, pm, an, cdv, ct, osl, p1, p2, q1, q2, q3, q4, rfl, ho, hcd⟩ := D.ex
  refine Att.call_fn (binds := [("self", .ref x), ("what", v)]) X hlim ho hcd hroom hb (by first | rfl | decide | with_unfolding_all rfl) (fun s1 IC => ?_) rfl rfl rfl
  obtain ⟨h1, tk1, rfl⟩ := IC.toInCall.same
  have up : ∀ b o, s.heap.get? b = some o → h1.get? b = some o := IC.toInCall.keep
  have hn := IC.toInCall.ns
  have X1 : K.In h1 := X.keeps up
  have hx1 := up _ _ hx
  show wpAny _ _ (execs _ _) _ _ _
  refine wpAny_execs_cons (plainObj_wpAny_Assign_Attribute ?_)
  refine localAt (v := v) hn (by first | rfl | with_unfolding_all rfl | kernel_rfl) (localAt (v := .ref x) hn (by first | rfl | with_unfolding_all rfl | kernel_rfl) ?_)
  refine set_plain X1 (ox := excO C t0) (od := none) ⟨hx1, rfl, rfl, trivial⟩ T.sa ?_
  refine storeFirst SF X1 hx1 T.over T.hd (taker_of (T.no _ (List.mem_cons_self ..))) (fun h3 tk3 dx k3 dn dne hx3 hn3 => ?_)
  show wpAny _ _ (execs _ _) _ _ _
  have z : s.heap.objs.size < h1.objs.size := hn.lt
  refine wpAny_execs_nil (hq h3 tk3 dx ⟨fun b o hb e => k3 b o hb (up b o e), hx3, Nat.le_of_lt (Nat.lt_of_lt_of_le z dn), dne, ?_⟩)
  rw [← look1]
  exact hn3
theorem init_why (SF : StoreFacts B bmB "object.__setattr__" "object") (T : XB K bmB newId C [("why" : Str)]) (D : Ini1 K fI qual "why" fd) {x t0 : Addr} {v : Value} (X : K.In s.heap) (hlim : s.heap.NoLimit)
    (hx : s.heap.get? x = some (excO C t0)) (hroom : A.depth < recursionLimit) (hb : BindsTo s fd args [("self", .ref x), ("why", v)])
    (hq : ∀ h' tk dx, InitLeft s.heap h' x C dx t0 [("why", v)] → R (.ok (.ret .none)) { s with heap := h', toks := tk }) :
    codeAny (model prog w) A (.call (.ref fI) args) R s := by
  obtain ⟨oc, od, doc, pm, an, cdv, ct, osl, p1, p2, q1, q2, q3, q4, rfl, ho, hcd⟩ := D.ex
  refine Att.call_fn (binds := [("self", .ref x), ("why", v)]) X hlim ho hcd hroom hb (by first | rfl | decide | with_unfolding_all rfl) (fun s1 IC => ?_) rfl rfl rfl
  obtain ⟨h1, tk1, rfl⟩ := IC.toInCall.same
  have up : ∀ b o, s.heap.get? b = some o → h1.get? b = some o := IC.toInCall.keep
  have hn := IC.toInCall.ns
  have X1 : K.In h1 := X.keeps up
  have hx1 := up _ _ hx
  show wpAny _ _ (execs _ _) _ _ _
  refine wpAny_execs_cons (plainObj_wpAny_Assign_Attribute ?_)
  refine localAt (v := v) hn (by first | rfl | with_unfolding_all rfl | kernel_rfl) (localAt (v := .ref x) hn (by first | rfl | with_unfolding_all rfl | kernel_rfl) ?_)
  refine set_plain X1 (ox := excO C t0) (od := none) ⟨hx1, rfl, rfl, trivial⟩ T.sa ?_
  refine storeFirst SF X1 hx1 T.over T.hd (taker_of (T.no _ (List.mem_cons_self ..))) (fun h3 tk3 dx k3 dn dne hx3 hn3 => ?_)
  show wpAny _ _ (execs _ _) _ _ _
  have z : s.heap.objs.size < h1.objs.size := hn.lt
  refine wpAny_execs_nil (hq h3 tk3 dx ⟨fun b o hb e => k3 b o hb (up b o e), hx3, Nat.le_of_lt (Nat.lt_of_lt_of_le z dn), dne, ?_⟩)
  rw [← look1]
  exact hn3
theorem init_line (SF : StoreFacts B bmB "object.__setattr__" "object") (T : XB K bmB newId C [("line" : Str)]) (D : Ini1 K fI qual "line" fd) {x t0 : Addr} {v : Value} (X : K.In s.heap) (hlim : s.heap.NoLimit)
    (hx : s.heap.get? x = some (excO C t0)) (hroom : A.depth < recursionLimit) (hb : BindsTo s fd args [("self", .ref x), ("line", v)])
    (hq : ∀ h' tk dx, InitLeft s.heap h' x C dx t0 [("line", v)] → R (.ok (.ret .none)) { s with heap := h', toks := tk }) :
    codeAny (model prog w) A (.call (.ref fI) args) R s := by
  obtain ⟨oc, od, doc, pm, an, cdv, ct, osl, p1, p2, q1, q2, q3, q4, rfl, ho, hcd⟩ := D.ex
  refine Att.call_fn (binds := [("self", .ref x), ("line", v)]) X hlim ho hcd hroom hb (by first | rfl | decide | with_unfolding_all rfl) (fun s1 IC => ?_) rfl rfl rfl
  obtain ⟨h1, tk1, rfl⟩ := IC.toInCall.same
  have up : ∀ b o, s.heap.get? b = some o → h1.get? b = some o := IC.toInCall.keep
  have hn := IC.toInCall.ns
  have X1 : K.In h1 := X.keeps up
  have hx1 := up _ _ hx
  show wpAny _ _ (execs _ _) _ _ _
  refine wpAny_execs_cons (plainObj_wpAny_Assign_Attribute ?_)
  refine localAt (v := v) hn (by first | rfl | with_unfolding_all rfl | kernel_rfl) (localAt (v := .ref x) hn (by first | rfl | with_unfolding_all rfl | kernel_rfl) ?_)
  refine set_plain X1 (ox := excO C t0) (od := none) ⟨hx1, rfl, rfl, trivial⟩ T.sa ?_
  refine storeFirst SF X1 hx1 T.over T.hd (taker_of (T.no _ (List.mem_cons_self ..))) (fun h3 tk3 dx k3 dn dne hx3 hn3 => ?_)
  show wpAny _ _ (execs _ _) _ _ _
  have z : s.heap.objs.size < h1.objs.size := hn.lt
  refine wpAny_execs_nil (hq h3 tk3 dx ⟨fun b o hb e => k3 b o hb (up b o e), hx3, Nat.le_of_lt (Nat.lt_of_lt_of_le z dn), dne, ?_⟩)
  rw [← look1]
  exact hn3
theorem init_step (SF : StoreFacts B bmB "object.__setattr__" "object") (T : XB K bmB newId C [("step" : Str)]) (D : Ini1 K fI qual "step" fd) {x t0 : Addr} {v : Value} (X : K.In s.heap) (hlim : s.heap.NoLimit)
    (hx : s.heap.get? x = some (excO C t0)) (hroom : A.depth < recursionLimit) (hb : BindsTo s fd args [("self", .ref x), ("step", v)])
    (hq : ∀ h' tk dx, InitLeft s.heap h' x C dx t0 [("step", v)] → R (.ok (.ret .none)) { s with heap := h', toks := tk }) :
    codeAny (model prog w) A (.call (.ref fI) args) R s := by
  obtain ⟨oc, od, doc, pm, an, cdv, ct, osl, p1, p2, q1, q2, q3, q4, rfl, ho, hcd⟩ := D.ex
  refine Att.call_fn (binds := [("self", .ref x), ("step", v)]) X hlim ho hcd hroom hb (by first | rfl | decide | with_unfolding_all rfl) (fun s1 IC => ?_) rfl rfl rfl
  obtain ⟨h1, tk1, rfl⟩ := IC.toInCall.same
  have up : ∀ b o, s.heap.get? b = some o → h1.get? b = some o := IC.toInCall.keep
  have hn := IC.toInCall.ns
  have X1 : K.In h1 := X.keeps up
  have hx1 := up _ _ hx
  show wpAny _ _ (execs _ _) _ _ _
  refine wpAny_execs_cons (plainObj_wpAny_Assign_Attribute ?_)
  refine localAt (v := v) hn (by first | rfl | with_unfolding_all rfl | kernel_rfl) (localAt (v := .ref x) hn (by first | rfl | with_unfolding_all rfl | kernel_rfl) ?_)
  refine set_plain X1 (ox := excO C t0) (od := none) ⟨hx1, rfl, rfl, trivial⟩ T.sa ?_
  refine storeFirst SF X1 hx1 T.over T.hd (taker_of (T.no _ (List.mem_cons_self ..))) (fun h3 tk3 dx k3 dn dne hx3 hn3 => ?_)
  show wpAny _ _ (execs _ _) _ _ _
  have z : s.heap.objs.size < h1.objs.size := hn.lt
  refine wpAny_execs_nil (hq h3 tk3 dx ⟨fun b o hb e => k3 b o hb (up b o e), hx3, Nat.le_of_lt (Nat.lt_of_lt_of_le z dn), dne, ?_⟩)
  rw [← look1]
  exact hn3
theorem init_most (SF : StoreFacts B bmB "object.__setattr__" "object") (T : XB K bmB newId C [("most" : Str)]) (D : Ini1 K fI qual "most" fd) {x t0 : Addr} {v : Value} (X : K.In s.heap) (hlim : s.heap.NoLimit)
    (hx : s.heap.get? x = some (excO C t0)) (hroom : A.depth < recursionLimit) (hb : BindsTo s fd args [("self", .ref x), ("most", v)])
    (hq : ∀ h' tk dx, InitLeft s.heap h' x C dx t0 [("most", v)] → R (.ok (.ret .none)) { s with heap := h', toks := tk }) :
    codeAny (model prog w) A (.call (.ref fI) args) R s := by
  obtain ⟨oc, od, doc, pm, an, cdv, ct, osl, p1, p2, q1, q2, q3, q4, rfl, ho, hcd⟩ := D.ex
  refine Att.call_fn (binds := [("self", .ref x), ("most", v)]) X hlim ho hcd hroom hb (by first | rfl | decide | with_unfolding_all rfl) (fun s1 IC => ?_) rfl rfl rfl
  obtain ⟨h1, tk1, rfl⟩ := IC.toInCall.same
  have up : ∀ b o, s.heap.get? b = some o → h1.get? b = some o := IC.toInCall.keep
  have hn := IC.toInCall.ns
  have X1 : K.In h1 := X.keeps up
  have hx1 := up _ _ hx
  show wpAny _ _ (execs _ _) _ _ _
  refine wpAny_execs_cons (plainObj_wpAny_Assign_Attribute ?_)
  refine localAt (v := v) hn (by first | rfl | with_unfolding_all rfl | kernel_rfl) (localAt (v := .ref x) hn (by first | rfl | with_unfolding_all rfl | kernel_rfl) ?_)
  refine set_plain X1 (ox := excO C t0) (od := none) ⟨hx1, rfl, rfl, trivial⟩ T.sa ?_
  refine storeFirst SF X1 hx1 T.over T.hd (taker_of (T.no _ (List.mem_cons_self ..))) (fun h3 tk3 dx k3 dn dne hx3 hn3 => ?_)
  show wpAny _ _ (execs _ _) _ _ _
  have z : s.heap.objs.size < h1.objs.size := hn.lt
  refine wpAny_execs_nil (hq h3 tk3 dx ⟨fun b o hb e => k3 b o hb (up b o e), hx3, Nat.le_of_lt (Nat.lt_of_lt_of_le z dn), dne, ?_⟩)
  rw [← look1]
  exact hn3
theorem init_name (SF : StoreFacts B bmB "object.__setattr__" "object") (T : XB K bmB newId C [("name" : Str)]) (D : Ini1 K fI qual "name" fd) {x t0 : Addr} {v : Value} (X : K.In s.heap) (hlim : s.heap.NoLimit)
    (hx : s.heap.get? x = some (excO C t0)) (hroom : A.depth < recursionLimit) (hb : BindsTo s fd args [("self", .ref x), ("name", v)])
    (hq : ∀ h' tk dx, InitLeft s.heap h' x C dx t0 [("name", v)] → R (.ok (.ret .none)) { s with heap := h', toks := tk }) :
    codeAny (model prog w) A (.call (.ref fI) args) R s := by
  obtain ⟨oc, od, doc, pm, an, cdv, ct, osl, p1, p2, q1, q2, q3, q4, rfl, ho, hcd⟩ := D.ex
  refine Att.call_fn (binds := [("self", .ref x), ("name", v)]) X hlim ho hcd hroom hb (by first | rfl | decide | with_unfolding_all rfl) (fun s1 IC => ?_) rfl rfl rfl
  obtain ⟨h1, tk1, rfl⟩ := IC.toInCall.same
  have up : ∀ b o, s.heap.get? b = some o → h1.get? b = some o := IC.toInCall.keep
  have hn := IC.toInCall.ns
  have X1 : K.In h1 := X.keeps up
  have hx1 := up _ _ hx
  show wpAny _ _ (execs _ _) _ _ _
  refine wpAny_execs_cons (plainObj_wpAny_Assign_Attribute ?_)
  refine localAt (v := v) hn (by first | rfl | with_unfolding_all rfl | kernel_rfl) (localAt (v := .ref x) hn (by first | rfl | with_unfolding_all rfl | kernel_rfl) ?_)
  refine set_plain X1 (ox := excO C t0) (od := none) ⟨hx1, rfl, rfl, trivial⟩ T.sa ?_
  refine storeFirst SF X1 hx1 T.over T.hd (taker_of (T.no _ (List.mem_cons_self ..))) (fun h3 tk3 dx k3 dn dne hx3 hn3 => ?_)
  show wpAny _ _ (execs _ _) _ _ _
  have z : s.heap.objs.size < h1.objs.size := hn.lt
  refine wpAny_execs_nil (hq h3 tk3 dx ⟨fun b o hb e => k3 b o hb (up b o e), hx3, Nat.le_of_lt (Nat.lt_of_lt_of_le z dn), dne, ?_⟩)
  rw [← look1]
  exact hn3
theorem init_users (SF : StoreFacts B bmB "object.__setattr__" "object") (T : XB K bmB newId C [("users" : Str)]) (D : Ini1 K fI qual "users" fd) {x t0 : Addr} {v : Value} (X : K.In s.heap) (hlim : s.heap.NoLimit)
    (hx : s.heap.get? x = some (excO C t0)) (hroom : A.depth < recursionLimit) (hb : BindsTo s fd args [("self", .ref x), ("users", v)])
    (hq : ∀ h' tk dx, InitLeft s.heap h' x C dx t0 [("users", v)] → R (.ok (.ret .none)) { s with heap := h', toks := tk }) :
    codeAny (model prog w) A (.call (.ref fI) args) R s := by
  obtain ⟨oc, od, doc, pm, an, cdv, ct, osl, p1, p2, q1, q2, q3, q4, rfl, ho, hcd⟩ := D.ex
  refine Att.call_fn (binds := [("self", .ref x), ("users", v)]) X hlim ho hcd hroom hb (by first | rfl | decide | with_unfolding_all rfl) (fun s1 IC => ?_) rfl rfl rfl
  obtain ⟨h1, tk1, rfl⟩ := IC.toInCall.same
  have up : ∀ b o, s.heap.get? b = some o → h1.get? b = some o := IC.toInCall.keep
  have hn := IC.toInCall.ns
  have X1 : K.In h1 := X.keeps up
  have hx1 := up _ _ hx
  show wpAny _ _ (execs _ _) _ _ _
  refine wpAny_execs_cons (plainObj_wpAny_Assign_Attribute ?_)
  refine localAt (v := v) hn (by first | rfl | with_unfolding_all rfl | kernel_rfl) (localAt (v := .ref x) hn (by first | rfl | with_unfolding_all rfl | kernel_rfl) ?_)
  refine set_plain X1 (ox := excO C t0) (od := none) ⟨hx1, rfl, rfl, trivial⟩ T.sa ?_
  refine storeFirst SF X1 hx1 T.over T.hd (taker_of (T.no _ (List.mem_cons_self ..))) (fun h3 tk3 dx k3 dn dne hx3 hn3 => ?_)
  show wpAny _ _ (execs _ _) _ _ _
  have z : s.heap.objs.size < h1.objs.size := hn.lt
  refine wpAny_execs_nil (hq h3 tk3 dx ⟨fun b o hb e => k3 b o hb (up b o e), hx3, Nat.le_of_lt (Nat.lt_of_lt_of_le z dn), dne, ?_⟩)
  rw [← look1]
  exact hn3
theorem init_circle (SF : StoreFacts B bmB "object.__setattr__" "object") (T : XB K bmB newId C [("circle" : Str)]) (D : Ini1 K fI qual "circle" fd) {x t0 : Addr} {v : Value} (X : K.In s.heap) (hlim : s.heap.NoLimit)
    (hx : s.heap.get? x = some (excO C t0)) (hroom : A.depth < recursionLimit) (hb : BindsTo s fd args [("self", .ref x), ("circle", v)])
    (hq : ∀ h' tk dx, InitLeft s.heap h' x C dx t0 [("circle", v)] → R (.ok (.ret .none)) { s with heap := h', toks := tk }) :
    codeAny (model prog w) A (.call (.ref fI) args) R s := by
  obtain ⟨oc, od, doc, pm, an, cdv, ct, osl, p1, p2, q1, q2, q3, q4, rfl, ho, hcd⟩ := D.ex
  refine Att.call_fn (binds := [("self", .ref x), ("circle", v)]) X hlim ho hcd hroom hb (by first | rfl | decide | with_unfolding_all rfl) (fun s1 IC => ?_) rfl rfl rfl
  obtain ⟨h1, tk1, rfl⟩ := IC.toInCall.same
  have up : ∀ b o, s.heap.get? b = some o → h1.get? b = some o := IC.toInCall.keep
  have hn := IC.toInCall.ns
  have X1 : K.In h1 := X.keeps up
  have hx1 := up _ _ hx
  show wpAny _ _ (execs _ _) _ _ _
  refine wpAny_execs_cons (plainObj_wpAny_Assign_Attribute ?_)
  refine localAt (v := v) hn (by first | rfl | with_unfolding_all rfl | kernel_rfl) (localAt (v := .ref x) hn (by first | rfl | with_unfolding_all rfl | kernel_rfl) ?_)
  refine set_plain X1 (ox := excO C t0) (od := none) ⟨hx1, rfl, rfl, trivial⟩ T.sa ?_
  refine storeFirst SF X1 hx1 T.over T.hd (taker_of (T.no _ (List.mem_cons_self ..))) (fun h3 tk3 dx k3 dn dne hx3 hn3 => ?_)
  show wpAny _ _ (execs _ _) _ _ _
  have z : s.heap.objs.size < h1.objs.size := hn.lt
  refine wpAny_execs_nil (hq h3 tk3 dx ⟨fun b o hb e => k3 b o hb (up b o e), hx3, Nat.le_of_lt (Nat.lt_of_lt_of_le z dn), dne, ?_⟩)
  rw [← look1]
  exact hn3
end
end VX
end PySem

/-! X4: two fields; a made exception; raised, or held as a value -/
namespace PySem
namespace VX
open PySem.W PySem.Calls PyProof.Rows PySem.HandSPX
def gS : Scope := { kind := .function, names := [(PySem.Str.ofString "self", .local), (PySem.Str.ofString "rule", .local), (PySem.Str.ofString "things", .local)], isGenerator := false, isCoroutine := false, more := [] }
def gA (p1 p2 p3 : Pos) : Arguments := { posonlyargs := [], args := [{ arg := "self", annotation := none, pos := p1 }, { arg := "rule", annotation := none, pos := p2 }, { arg := "things", annotation := none, pos := p3 }], vararg := none, kwonlyargs := [], kw_defaults := [], kwarg := none, defaults := [] }
def gB (q1 q2 q3 q4 r1 r2 r3 r4 : Pos) : List Stmt := [.Assign [.Attribute (.Name "self" q1) "rule" q2] (.Name "rule" q3) q4, .Assign [.Attribute (.Name "self" r1) "things" r2] (.Name "things" r3) r4]
structure Ini2 (K : Frag) (fI : Addr) (qual : Str) (fd : FuncData) : Prop where
  ex : ∃ (oc : Value) (od : Option Addr) (doc pm : Value) (an : Option Addr) (cdv ct : Value) (osl : Array (Option Value)) (p1 p2 p3 q1 q2 q3 q4 r1 r2 r3 r4 : Pos),
    fd = fnOf "__init__" qual (gA p1 p2 p3) (gB q1 q2 q3 q4 r1 r2 r3 r4) gS .none .none doc pm an cdv ct ∧ K.lookup fI = some ⟨oc, od, .func fd, osl⟩ ∧ codeIn K cdv qual = true
section
variable {prog : Program} {w : World} {A : Around} {E : Value → Shared → Prop} {R : Result → Shared → Prop} {s : Shared} {K : Frag} {C fI : Addr} {bmB : List Value} {B newId initId : String} {fn : List Str} {qual : Str} {fd : FuncData} {args : Args}
theorem keptBut {h h' : Heap} {x : Addr} (X : K.In h) (hx : K.lookup x = none) (k : ∀ b o, b ≠ x → h.get? b = some o → h'.get? b = some o) : K.In h' := fun a o e => by
  refine k a o (fun z => ?_) (X a o e)
  rw [z, hx] at e
  cases e
theorem init_two (SF : StoreFacts B bmB "object.__setattr__" "object") (T : XB K bmB newId C [("rule" : Str), ("things" : Str)]) (D : Ini2 K fI qual fd) {x t0 : Addr} {v u : Value} (X : K.In s.heap) (hlim : s.heap.NoLimit)
    (hx : s.heap.get? x = some (excO C t0)) (hnx : K.lookup x = none) (hroom : A.depth < recursionLimit) (hb : BindsTo s fd args [("self", .ref x), ("rule", v), ("things", u)])
    (hq : ∀ h' tk dx, InitLeft s.heap h' x C dx t0 [("things", u), ("rule", v)] → R (.ok (.ret .none)) { s with heap := h', toks := tk }) :
    codeAny (model prog w) A (.call (.ref fI) args) R s := by
  obtain ⟨oc, od, doc, pm, an, cdv, ct, osl, p1, p2, p3, q1, q2, q3, q4, r1, r2, r3, r4, rfl, ho, hcd⟩ := D.ex
  refine Att.call_fn (binds := [("self", .ref x), ("rule", v), ("things", u)]) X hlim ho hcd hroom hb (by first | rfl | decide | with_unfolding_all rfl) (fun s1 IC => ?_) rfl rfl rfl
  obtain ⟨h1, tk1, rfl⟩ := IC.toInCall.same
  have up : ∀ b o, s.heap.get? b = some o → h1.get? b = some o := IC.toInCall.keep
  have hn := IC.toInCall.ns
  have nL : s.heap.objs.size ≠ x := Nat.ne_of_gt (Heap.lt_size hx)
  have X1 : K.In h1 := X.keeps up
  have hx1 := up _ _ hx
  show wpAny _ _ (execs _ _) _ _ _
  refine wpAny_execs_cons (plainObj_wpAny_Assign_Attribute ?_)
  refine localAt (v := v) hn (by first | rfl | with_unfolding_all rfl | kernel_rfl) (localAt (v := .ref x) hn (by first | rfl | with_unfolding_all rfl | kernel_rfl) ?_)
  refine set_plain X1 (ox := excO C t0) (od := none) ⟨hx1, rfl, rfl, trivial⟩ T.sa ?_
  refine storeFirst SF X1 hx1 T.over T.hd (taker_of (T.no _ (List.mem_cons_self ..))) (fun h3 tk3 dx k3 dn dne hx3 hn3 => ?_)
  have hnL : h3.Ns s.heap.objs.size _ := hn.at' fun o e => k3 _ o nL e
  have X3 : K.In h3 := keptBut X1 hnx k3
  have hw3 : Within (fun y => if y = ("rule" : Str) then some v else none) ["rule"] := Within.cons "rule" v Within.nil
  obtain ⟨oD, _, _, hoD, _, _⟩ := hn3.count hw3
  have z : s.heap.objs.size < h1.objs.size := hn.lt
  show wpAny _ _ (execs _ _) _ _ _
  refine wpAny_execs_cons (plainObj_wpAny_Assign_Attribute ?_)
  refine localAt (v := u) hnL (by first | rfl | with_unfolding_all rfl | kernel_rfl) (localAt (v := .ref x) hnL (by first | rfl | with_unfolding_all rfl | kernel_rfl) ?_)
  refine set_plain X3 (ox := { cls := .ref C, dict := some dx, data := .fields #[.ref t0, .none, .none, .none, .bool false, .none] }) (od := some oD) ⟨hx3, rfl, rfl, hoD⟩ T.sa ?_
  refine storeNext SF X3 hx3 hn3 hw3 (by decide) T.over T.hd (taker_of (T.no _ (List.mem_cons_of_mem _ (List.mem_cons_self ..)))) (fun h4 tk4 k4 hn4 => ?_)
  show wpAny _ _ (execs _ _) _ _ _
  have big : s.heap.objs.size ≤ dx := Nat.le_of_lt (Nat.lt_of_lt_of_le z dn)
  refine wpAny_execs_nil (hq h4 tk4 dx ⟨fun b o hb e => ?_, k4 _ _ (Ne.symm dne) hx3, big, dne, ?_⟩)
  · exact k4 b o (Nat.ne_of_lt (Nat.lt_of_lt_of_le (Heap.lt_size (up b o e)) dn)) (k3 b o hb (up b o e))
  · rw [← look2]
    exact hn4
/-- what the __init__ at fI makes of an exception at x: its fields -/
def InitDoes (prog : Program) (w : World) (K : Frag) (C fI : Addr) (rest : List Value) (kw : List (Str × Value)) (kvs : List (Str × Value)) : Prop :=
  ∀ (A : Around) (R : Result → Shared → Prop) (s : Shared) (x t0 : Addr), K.In s.heap → s.heap.NoLimit → s.heap.get? x = some (excO C t0) → K.lookup x = none → A.depth < recursionLimit →
    (∀ h' tk dx, InitLeft s.heap h' x C dx t0 kvs → R (.ok (.ret .none)) { s with heap := h', toks := tk }) → codeAny (model prog w) A (.call (.ref fI) ⟨.ref x :: rest, kw⟩) R s
/-- a made one -/
structure Made (h h' : Heap) (e C d : Addr) (kvs : List (Str × Value)) : Prop where
  keep : ∀ b o, h.get? b = some o → h'.get? b = some o
  new : h.objs.size ≤ e
  obj : ∃ t, h'.get? e = some { cls := .ref C, dict := some d, data := .fields #[.ref t, .none, .none, .none, .bool false, .none] }
  dbig : h.objs.size ≤ d
  dne : d ≠ e
  ns : h'.Ns1 d (fun y => kvs.lookup y)
theorem made (FB : ExcBaseFacts B newId initId bmB) (T : XB K bmB newId C fn) (iC : findIn K (.ref C) "__init__" = some (some (.ref fI))) (tI : typeIn K (.ref fI) = some (.type "function"))
    {rest : List Value} {kw kvs : List (Str × Value)} (D : InitDoes prog w K C fI rest kw kvs) (hrest : rest.length ≤ sizeLine) (X : K.In s.heap) (hlim : s.heap.NoLimit) (hroom : A.depth + 1 < recursionLimit)
    (hq : ∀ h' tk e d, Made s.heap h' e C d kvs → R (.ok (.ret (.ref e))) { s with heap := h', toks := tk }) : codeAny (model prog w) A (.call (.ref C) ⟨rest, kw⟩) R s := by
  have up : ∀ b o, s.heap.get? b = some o → ((s.heap.push (kdv_tup rest)).push (excO C s.heap.objs.size)).get? b = some o := fun b o e => Heap.get?_push_of_some _ (Heap.get?_push_of_some _ e)
  have here : ((s.heap.push (kdv_tup rest)).push (excO C s.heap.objs.size)).get? (s.heap.objs.size + 1) = some (excO C s.heap.objs.size) := by heap_get
  have nK : K.lookup (s.heap.objs.size + 1) = none := by
    cases e : K.lookup (s.heap.objs.size + 1) with
    | none => rfl
    | some o => exact absurd (Nat.lt_of_succ_lt (Heap.lt_size (X _ _ e))) (Nat.lt_irrefl _)
  refine callK FB X T.ini iC tI hrest ?_
  refine D _ _ _ _ s.heap.objs.size (X.keeps up) (hlim.keeps up) here nK hroom fun h' tk dx L => ⟨rfl, ?_⟩
  have old : ∀ b o, s.heap.get? b = some o → h'.get? b = some o := fun b o e => L.keep b o (Nat.ne_of_lt (Nat.lt_succ_of_lt (Heap.lt_size e))) (up b o e)
  have big : s.heap.objs.size + 1 + 1 ≤ dx := by
    have q := L.dbig
    first
      | (simpa only [Heap.size_push] using q)
      | exact q
      | (rw [Heap.size_push, Heap.size_push] at q; exact q)
  exact hq h' tk (s.heap.objs.size + 1) dx ⟨old, Nat.le_succ _, ⟨_, L.obj⟩, Nat.le_trans (Nat.le_trans (Nat.le_succ _) (Nat.le_succ _)) big, L.dne, L.ns⟩
end
end VX
end PySem
namespace L2
open PySem PySem.Spec PyProof.Rows PySem.VX
/-- an exception of the class at C, its fields in the dict at d -/
def exV (e C d : Addr) : HO := .ext fun h => ∃ (oe : Obj) (vs : Array Value), h.get? e = some oe ∧ oe.cls = .ref C ∧ oe.dict = some d ∧ oe.data = .fields vs
theorem exV_ok {P : Program} {w : World} {H : Hp} {h : Heap} {e C d : Addr} {oe : Obj} {vs : Array Value} (he : h.get? e = some oe) (hc : oe.cls = .ref C) (hd : oe.dict = some d) (hv : oe.data = .fields vs) : ObjOk P w H h e (exV e C d) :=
  ⟨⟨oe, vs, he, hc, hd, hv⟩, ⟨oe, he⟩, fun h1 h2 ⟨o, v, a, b⟩ k => ⟨o, v, k _ a, b⟩⟩
theorem exV_at {P : Program} {w : World} {H : Hp} {h : Heap} {e C d : Addr} (hok : HOk P w H h) (he : H e = some (exV e C d)) : ∃ (oe : Obj) (vs : Array Value), h.get? e = some oe ∧ oe.cls = .ref C ∧ oe.dict = some d ∧ oe.data = .fields vs := by
  have x : ObjOk P w H h e (.ext fun h => ∃ (oe : Obj) (vs : Array Value), h.get? e = some oe ∧ oe.cls = .ref C ∧ oe.dict = some d ∧ oe.data = .fields vs) := hok e _ he
  exact x.1
theorem relO_pairs : ∀ {fs : List (Str × V)} {kvs : List (Str × Value)}, KV fs kvs → ∀ f, RelO (fs.lookup f) (kvs.lookup f)
  | _, _, .nil, _ => True.intro
  | (a, x) :: fs, (b, u) :: kvs, .cons h t, f => by
    obtain ⟨e, r⟩ := h
    have e' : a = b := e
    subst e'
    cases q : (f == a) with
    | true => simp only [List.lookup, q]; exact r
    | false => simp only [List.lookup, q]; exact relO_pairs t f
/-- an own exception class of the text: fn its fields in order -/
structure OwnX (prog : Program) (w : World) (K : PySem.W.Frag) (mg : Str → Option Value) (nm : Str) (C : Addr) (fn : List Str) : Prop where
  g : mg nm = some (.ref C)
  some : ∃ (bmB : List Value) (B newId initId : String) (fI : Addr), ExcBaseFacts B newId initId bmB ∧ XB K bmB newId C fn ∧ PySem.W.findIn K (.ref C) "__init__" = some (some (.ref fI)) ∧ PySem.W.typeIn K (.ref fI) = some (.type "function") ∧
    (∀ us : List Value, us.length = fn.length → InitDoes prog w K C fI us [] (fn.zip us).reverse) ∧ (∀ ws : List Value, ws.length = fn.length → InitDoes prog w K C fI [] (fn.reverse.zip ws) (fn.zip ws.reverse).reverse)
  few : fn.length ≤ 3
theorem kv_zip : ∀ (fn : List Str) {vs : List V} {us : List Value}, Vals vs us → KV (fn.zip vs) (fn.zip us)
  | [], _, _, _ => .nil
  | _ :: _, _, _, .nil => .nil
  | f :: fn, _, _, .cons r t => .cons ⟨rfl, r⟩ (kv_zip fn t)
theorem paired_app {α β : Type} {F : α → β → Prop} : ∀ {a : List α} {b : List β} {c : List α} {d : List β}, Paired F a b → Paired F c d → Paired F (a ++ c) (b ++ d)
  | _, _, _, _, .nil, q => q
  | _, _, _, _, .cons h t, q => .cons h (paired_app t q)
theorem paired_rev {α β : Type} {F : α → β → Prop} : ∀ {a : List α} {b : List β}, Paired F a b → Paired F a.reverse b.reverse
  | _, _, .nil => .nil
  | _, _, .cons h t => by
    rw [List.reverse_cons, List.reverse_cons]
    exact paired_app (paired_rev t) (.cons h .nil)
section
variable {X : Cx} {C : Addr} {nm : Str} {fn : List Str} {ta tk : TA} {p pos : Pos} {k : Nat} {e : Expr} {es : List Expr} {kws : List Keyword}
/-- what was made, as the layer sees it: all old stands, the dict is new and told -/
theorem made_inv {pins : List (Addr × Obj)} {σ : St} {H : Hp} {hp h' : Heap} {g : Array GenState} {dr : Drawn} {tk tk' : Nat} {os : OsState} {a d : Addr} {fs : List (Str × V)} {kvs : List (Str × Value)} (I : Inv X pins σ H ⟨hp, g, dr, tk, os⟩) (M : Made hp h' a C d kvs) (r : KV fs kvs) :
    ∃ G : Heap, Inv X pins σ (upd H d (.xd fs)) ⟨G, g, dr, tk', os⟩ ∧ (∀ b o, G.get? b = some o → h'.get? b = some o) ∧ G.get? a = none ∧ (upd H d (.xd fs)) a = none ∧ H d = none := by
  obtain ⟨G, g1, g2⟩ := restrict h' fun b => decide (b ≠ a)
  have gk : ∀ b, b ≠ a → G.get? b = h'.get? b := fun b hb => g1 b (decide_eq_true hb)
  have ge : G.get? a = none := g2 a (by simp)
  have old : ∀ b o, hp.get? b = some o → G.get? b = some o := fun b o q => (gk b (Nat.ne_of_lt (Nat.lt_of_lt_of_le (Heap.lt_size q) M.new))).trans (M.keep b o q)
  have ob : ObjOk X.prog X.w (upd H d (.xd fs)) G d (.xd fs) := ⟨_, M.ns.at fun o q => (gk d M.dne).trans q, relO_pairs r⟩
  refine ⟨G, I.laid (t' := tk') old M.dbig ob, fun b o q => ?_, ge, ?_, I.hok.fresh M.dbig⟩
  · by_cases hb : b = a
    · rw [hb, ge] at q
      cases q
    · exact (gk b hb).symm.trans q
  · rw [upd_ne (Ne.symm M.dne)]
    exact I.hok.fresh M.new
/-- raise C(e, ..): what is made -/
def tMkX (C : Addr) (fn : List Str) (ta : TA) : St → Hp → XK → Prop := fun σ H Q => ta σ H fun vs H1 => vs.length = fn.length ∧ ∀ d, H1 d = none → Q (.ref C) (some d) (upd H1 d (.xd (fn.zip vs).reverse))
theorem pmk_own1 (O : OwnX X.prog X.w X.K X.mg nm C fn) (hr : Room k X.A) (ha : PA X (e :: es) ta) (hg : Gl X nm) (hdb : (nm == ("__debug__" : Str)) = false := by decide)
    (he : starEach (e :: es) X.env = (false, eval e X.env) :: starEach es X.env := by rfl) (hpl : (backTo pos (starEach es X.env)).any (·.1) = false := by rfl) :
    PMk X (.Call (.Name nm p) (e :: es) [] pos) (tMkX C fn ta) := by
  intro pins s σ H Q I h
  obtain ⟨bmB, B, newId, initId, fI, FB, T, iC, tI, D, _⟩ := O.some
  refine wpAny_Call_Name_kw (ld_glob I hg O.g ?_ hdb)
  refine PySem.W.callWith_K (h₀ := X.base) I.ok.mod.kin T.keep (thn (ha.run pos pins s σ H _ I h) fun us s1 hh => ?_) he hpl
  obtain ⟨vs, H1, I1, r1, hz, q1⟩ := hh
  refine ⟨I1.kIn, ?_⟩
  have hlim := I1.nolimit
  have hl : us.length = fn.length := r1.length.symm.trans hz
  obtain ⟨hp, g, dr, tk, os⟩ := s1
  show wpAny _ _ (call (.ref C) us) _ _ _
  refine wpAny_call (made FB T iC tI (D us hl) (by rw [hl, sizeLine_eq]; have := O.few; omega) I1.kIn hlim (by have := hr.dp; omega) fun h' tk' a d M => ?_)
  obtain ⟨G, J, kG, ge, na, nd⟩ := made_inv (tk' := tk') I1 M (paired_rev (kv_zip fn r1))
  obtain ⟨t, ho⟩ := M.obj
  exact ⟨a, _, _, ⟨G, g, dr, tk', os⟩, _, .ref C, some d, rfl, J, kG, ge, ho, ⟨rfl, rfl⟩, rfl, rfl, na, rfl, I1.bare, raises_own T.exc T.ty, q1 d nd⟩
/-- C(k = v, ..) as a value; the keywords stand in the fields' order turned about -/
def tNewKw (C : Addr) (fn : List Str) (tk : TA) : TE := fun σ H Q => tk σ H fun zs H1 => zs.length = fn.length ∧ ∀ a d, H1 a = none → H1 d = none → d ≠ a → Q (.ref a) (upd (upd H1 d (.xd (fn.zip zs.reverse).reverse)) a (exV a C d))
theorem pe_newKw (O : OwnX X.prog X.w X.K X.mg nm C fn) (hr : Room k X.A) (hkw : PK X kws tk) (hg : Gl X nm) (hdb : (nm == ("__debug__" : Str)) = false := by decide)
    (hall : (backToKw pos (keywordEach kws X.env)).all (·.1.isSome) = true := by rfl) (hks : (backToKw pos (keywordEach kws X.env)).filterMap (·.1) = fn.reverse := by rfl)
    (hpl : ((backTo pos (starEach [] X.env)).any (·.1) || (backToKw pos (keywordEach kws X.env)).any (·.1.isNone)) = false := by rfl) :
    PE X (.Call (.Name nm p) [] kws pos) (tNewKw C fn tk) := by
  refine ⟨fun pins s σ H Q I h => ?_⟩
  obtain ⟨bmB, B, newId, initId, fI, FB, T, iC, tI, _, D⟩ := O.some
  refine wpAny_Call_Name_kw (ld_glob I hg O.g ?_ hdb)
  refine PySem.W.callWith_KW0 (h₀ := X.base) I.ok.mod.kin T.keep hall ?_ hpl
  refine thn (hkw.run pos pins s σ H _ I h) fun ws s1 ⟨zs, H1, I1, rz, hz, q1⟩ => ⟨I1.kIn, ?_⟩
  rw [hks]
  have hlim := I1.nolimit
  have hl : ws.length = fn.length := rz.length.symm.trans hz
  obtain ⟨hp, g, dr, tk', os⟩ := s1
  show wpAny _ _ (call (.ref C) [] (fn.reverse.zip ws)) _ _ _
  refine wpAny_call (made FB T iC tI (D ws hl) (Nat.zero_le _) I1.kIn hlim (by have := hr.dp; omega) fun h' tk2 a d M => ?_)
  obtain ⟨G, J, kG, ge, na, nd⟩ := made_inv (tk' := tk2) I1 M (paired_rev (kv_zip fn (paired_rev rz)))
  obtain ⟨t, ho⟩ := M.obj
  have J2 := J.laidN (h' := h') (t' := tk2) (o := exV a C d) kG ge na (exV_ok ho rfl rfl rfl)
  have na1 : H1 a = none := by rw [upd_ne (Ne.symm M.dne)] at na; exact na
  exact ⟨.ref a, _, J2, rfl, q1 a d na1 nd M.dne⟩
end
end L2

/-! X5: try with several clauses «except C as n», behind which the caught exception is told -/
namespace L2
open PySem PySem.Spec PyProof.Rows PySem.VX
section
variable {X : Cx} {pins : List (Addr × Obj)} {σ : St} {H : Hp} {s : Shared}
/-- an object that nobody tells of, new since the def's entry, is told from now on -/
theorem Inv.track {a C d : Addr} {oe : Obj} {vs : Array Value} (I : Inv X pins σ H s) (ho : s.heap.get? a = some oe) (hc : oe.cls = .ref C) (hd : oe.dict = some d) (hv : oe.data = .fields vs) (na : H a = none)
    (n0 : X.s_0.heap.get? a = none) (nL : a ≠ X.env.locals) (np : ∀ p ∈ X.pn ++ pins, p.1 ≠ a) : Inv X pins σ (upd H a (exV a C d)) s := by
  have ne0 : ∀ b o, X.s_0.heap.get? b = some o → b ≠ a := fun b o e z => by
    rw [z, n0] at e
    cases e
  have neS : ∀ b u, H b = some u → b ≠ a := fun b u e => ne_of_none e na
  refine ⟨I.ok, I.os, I.bare, ⟨I.base.keep, I.base.slot, fun b o e n hx => ?_, I.base.there, fun b xs e => ?_, fun b o u e => ?_, fun b ps e => ?_⟩, I.loc, I.cell, ?_, fun x c e => ?_, fun p hp => ?_, fun b u e => ?_, I.len⟩
  · rw [upd_ne (ne0 b o e)]
    exact I.base.free b o e n hx
  · have q := I.base.tups b xs e
    rw [upd_ne (neS b _ q)]
    exact q
  · have q := I.base.frzs b o u e
    rw [upd_ne (neS b _ q)]
    exact q
  · obtain ⟨m, q⟩ := I.base.tbls b ps e
    exact ⟨m, by rw [upd_ne (neS b _ q)]; exact q⟩
  · rw [upd_ne (Ne.symm nL)]
    exact I.free
  · have nc : c ≠ a := fun z => by
      obtain ⟨v, o, e1, e2⟩ := I.cell x c e
      rw [z, ho] at e1
      cases e1
      rw [hv] at e2
      cases e2
    rw [upd_ne nc]
    exact I.freeC x c e
  · obtain ⟨e1, e2, r⟩ := I.pin p hp
    exact ⟨e1, by rw [upd_ne (np p hp)]; exact e2, r⟩
  · by_cases hb : b = a
    · subst hb
      rw [upd_same] at e
      cases e
      exact exV_ok ho hc hd hv
    · rw [upd_ne hb] at e
      refine (I.hok b u e).stay (fun _ _ _ q => q) (fun c q => ?_) fun c xs q => ?_
      · rw [upd_ne (neS c _ q)]
        exact q
      · rw [upd_ne (neS c _ q)]
        exact q
end
/-- the clauses' wishes, one behind the other; n's slot is i -/
def wManyV (K : PySem.W.Frag) (i : Nat) (Wout : WX) (D : Ends) : List (Value × (Addr → Value → Option Addr → TS)) → WX
  | [] => Wout
  | (c, ts) :: r => fun cls d σ H => ∃ b, PySem.W.exmOne K cls c = some b ∧
      (b = true → ∃ C d', cls = .ref C ∧ d = some d' ∧ ∀ a, H a = none → ts a cls d { nx := fun σ' H' => D.nx (σ'.set i none) (upd H' a (exV a C d')), rt := fun v H' => D.rt v H', bk := fun σ' H' => D.bk (σ'.set i none) H', ct := fun σ' H' => D.ct (σ'.set i none) H' } (σ.set i (some (.ref a))) H) ∧
      (b = false → wManyV K i Wout D r cls d σ H)
inductive HdsV (X : Cx) (n : Str) : List ExceptHandler → List (Value × (Addr → Value → Option Addr → TS)) → Prop
  | nil : HdsV X n [] []
  | cons {x : Str} {c : Value} {ts : Addr → Value → Option Addr → TS} {b₀ : Stmt} {suite : List Stmt} {np pos' : Pos} {hds : List ExceptHandler} {l : List (Value × (Addr → Value → Option Addr → TS))} (hc : Names X x c)
      (hsu : ∀ (a : Addr) (oe : Obj) (cls : Value) (d : Option Addr) (pn : List (Addr × Obj)), Zc cls d oe → (∃ vs, oe.data = .fields vs) → PSs (X.suite a ((a, oe) :: pn)) (b₀ :: suite) (ts a cls d)) (r : HdsV X n hds l) :
      HdsV X n (.ExceptHandler (some (.Name x np)) (some n) (b₀ :: suite) pos' :: hds) ((c, ts) :: l)
section
variable {X : Cx} {n : Str} {i : Nat} {body : List Stmt} {h₀ : ExceptHandler} {hds : List ExceptHandler} {l : List (Value × (Addr → Value → Option Addr → TS))} {pos : Pos} {tb : WX → TS} {Wout : WX}
theorem ps_try_manyV (hs : X.stack = X.env :: X.outer) (hf : X.env.frame = some X.env.locals) (hex : X.ex = []) (hN : X.N.Nodup) (hi : X.N[i]? = some n) (hln : X.env.kindOf n = some .local) (tk : Takes X Wout)
    (hb : ∀ (W : WX) (pn : List (Addr × Obj)) (xe : Value → Shared → Prop), Takes (X.tr pn xe) W → PassesOwn (model X.prog X.w) X.A X.env xe → PSs (X.tr pn xe) body (tb W))
    (hh : HdsV X n (h₀ :: hds) l) : PS X (.Try body (h₀ :: hds) [] [] pos) (fun D σ H => tb (wManyV X.K i Wout D l) D σ H) := by
  refine ⟨fun pins s σ H D I h => ?_⟩
  have ok := I.ok
  have frm : X.A.frames = some (X.env :: X.outer) := ok.frames.trans (congrArg some hs)
  have hloc : Loc X.env.scope n := .inl hln
  refine wpAny_Try_except ?_
  refine wpAny_mono ((hb (wManyV X.K i Wout D l) (X.pn ++ pins) (fun e s₁ => wpAny (model X.prog X.w) X.A (noteFrame e X.env) (fun _ s₂ => wpAny (model X.prog X.w) X.A (setFlight e none) (fun _ s₃ =>
    wpAny (model X.prog X.w) X.A (handleBy e X.env (h₀ :: hds)) (SP X pins D) X.xe s₃) X.xe s₂) X.xe s₁) (fun u s' xx => ?_) PassesOwn.looking).run [] s σ H D (I.toTry _) h) (fun f s1 hsp => ?_) (fun _ _ he => he)
  · obtain ⟨a, B, sI, pins', σ', H', cls, d, rfl, J', nb, up, sky, na, os, ag, w⟩ := xx
    have J : Inv X pins σ' H' sI := J'.ofTry ok
    have sky' : Sky B (X.env :: X.outer) a (Zc cls d) X.env.locals s'.heap := by rw [← hs]; exact sky
    show wpAny (model X.prog X.w) X.A (noteFrame (.ref a) X.env) _ _ _
    refine Sky.land Zc.steady frm hf sky' fun h3 fl3 up3 => ?_
    have J3 : Inv X pins σ' H' { s' with heap := h3 } := J.landed nb fl3.1 (up.trans up3) os ag
    obtain ⟨oe3, vs3, he3, hz3, hd3⟩ := fl3.there
    have noFrame : a ∉ frs (X.env :: X.outer) := fun hm => by
      obtain ⟨_, o', e', hnf⟩ := fl3.2.2.1.mem hm
      rw [he3] at e'
      cases e'
      exact hnf _ hd3
    have noStack : a ∉ frs X.stack := by rw [hs]; exact noFrame
    have nL : a ≠ X.env.locals := fun z => noFrame (List.mem_filterMap.mpr ⟨X.env, List.mem_cons_self, by rw [hf, z]⟩)
    have nF : a ∉ X.fs := fun hm => by
      obtain ⟨e, he, q⟩ := List.mem_filterMap.mp hm
      exact noFrame (List.mem_filterMap.mpr ⟨e, List.mem_cons_of_mem _ he, q⟩)
    -- it wasn't there ahead
    have nB : B.get? a = none := fl3.2.1
    have nI : sI.heap.get? a = none := by
      cases e : sI.heap.get? a with
      | none => rfl
      | some o =>
        have z := nb a o e noStack
        rw [nB] at z
        cases z
    have n0 : X.s_0.heap.get? a = none := by
      cases e : X.s_0.heap.get? a with
      | none => rfl
      | some o =>
        obtain ⟨o', z⟩ := J.base.there a o e (by rw [hex]; exact fun z => nomatch z)
        rw [nI] at z
        cases z
    have np : ∀ p ∈ X.pn ++ pins, p.1 ≠ a := fun p hp z => by
      have q := (J.pin p hp).1
      rw [z, nI] at q
      cases q
    have S3 := J3.suite he3 hd3 na nL nF
    have go : ∀ {hds' : List ExceptHandler} {l' : List (Value × (Addr → Value → Option Addr → TS))}, HdsV X n hds' l' → wManyV X.K i Wout D l' cls d σ' H' →
        wpAny (model X.prog X.w) X.A (handleBy (.ref a) X.env hds') (SP X pins D) X.xe { s' with heap := h3 } := by
      intro hds' l' hk
      induction hk with
      | nil =>
        intro w
        refine wpAny_handleBy_nil ?_
        obtain ⟨k1, k2, k3, oe, vs, T, oT, ts', he, hz, hd, h1, hr⟩ := id fl3
        unfold PySem.passOn
        refine wpAny_bind (wpAny_field he hd h1 ?_)
        rw [if_neg (show ¬ ((Value.ref T == Value.none) = true) from by simp)]
        have away : wpAny (model X.prog X.w) X.A (setFlight (.ref a) X.env.frame) (fun _ s4 => wpAny (model X.prog X.w) X.A (throw (.ref a) : Sem Flow) (SP X pins D) X.xe s4) X.xe { s' with heap := h3 } := by
          rw [hf]
          refine HandSPX.setFlight_upZ fl3 fun h4 hh4 up4 => wpAny_throw (tk _ _ ?_)
          exact ⟨a, B, sI, pins, σ', H', cls, d, rfl, J, nb, (up.trans up3).trans up4, .inr (.inr (by rw [hs]; exact hh4)), na, os, ag, w⟩
        first
          | exact wpAny_bind (wpAny_pure (wpAny_bind away))
          | exact wpAny_bind away
      | @cons x c ts b₀ suite np' pos' hds2 l2 hc hsu r ih =>
        intro w
        obtain ⟨b, hb1, hyes, hno⟩ := w
        refine wpAny_handleBy_cons (codeAny_handlers_test ?_) (by intro q; cases q)
        have LT : PySem.W.Looks (model X.prog X.w) h3 (typeOf (.ref a)) cls := fun A Q E s k q => wpAny_typeOf_ref (k _ _ he3) (by rw [hz3.1]; exact q)
        have LM := PySem.W.exm_one (M := model X.prog X.w) (J3.kIn) LT hb1
        have test : ∀ {Q : Value → Shared → Prop} {E : Value → Shared → Prop}, Q c { s' with heap := h3 } → wpAny (model X.prog X.w) (X.A.mark (some (.ref a))) (eval (.Name x np') X.env) Q E { s' with heap := h3 } := fun {Q E} q => by
          obtain ⟨hg, hdbg, hm | ⟨hm, hv, hnn⟩⟩ := hc
          · exact ld_glob (X := X.suite a ((a, oe3) :: (X.pn ++ pins))) S3 hg hm q hdbg
          · exact ld_blt (X := X.suite a ((a, oe3) :: (X.pn ++ pins))) S3 hg hm hv q hnn hdbg
        refine test (LM.here ?_)
        cases b with
        | true =>
          obtain ⟨C, d', rfl, rfl, hyes'⟩ := hyes rfl
          refine codeAny_handlers_suite_as ?_
          refine HandSPX.lands_againZ fl3 fun h4 fl4 up4 => ?_
          have J4 : Inv X pins σ' H' { s' with heap := h4 } := J.landed nb fl4.1 ((up.trans up3).trans up4) os ag
          obtain ⟨oe4, vs4, he4, hz4, hd4⟩ := fl4.there
          have S4 := J4.suite he4 hd4 na nL nF
          refine store_ok (X := X.suite a ((a, oe4) :: (X.pn ++ pins))) (v := .ref a) S4 hN hi hloc rfl (fun s5 S5 => ?_) (.inr hln)
          refine wpAny_mono ((hsu a oe4 (.ref C) (some d') (X.pn ++ pins) hz4 ⟨_, hd4⟩).run [] s5 _ H' _ S5 (hyes' a na)) (fun f s6 hsp => ?_) (fun _ _ z => False.elim z)
          have plain : ∀ {τ : St} {G : Hp} {Q : Shared → Prop}, Inv (X.suite a ((a, oe4) :: (X.pn ++ pins))) [] τ G s6 → (∀ s7, Inv X pins (τ.set i none) G s7 → Q s7) →
              wpAny (model X.prog X.w) X.A (do bindName X.env n .none; unbindBehindTheSuite X.env n pos') (fun _ s7 => Q s7) X.xe s6 := fun {τ G Q} S6 hq => gone_ok (S6.unsuite ok) hN hi hln hq
          cases f with
          | next =>
            obtain ⟨τ, G, S6, q6⟩ := hsp
            obtain ⟨hoa, hna, _⟩ := S6.pin (a, oe4) (List.mem_append_left _ List.mem_cons_self)
            have T6 : Inv X pins τ (upd G a (exV a C d')) s6 := (S6.unsuite ok).track hoa hz4.1 hz4.2 hd4 hna n0 nL np
            exact gone_ok T6 hN hi hln fun s7 J7 => ⟨_, _, J7, q6⟩
          | brk =>
            obtain ⟨τ, G, S6, q6⟩ := hsp
            exact plain S6 fun s7 J7 => ⟨_, _, J7, q6⟩
          | cont =>
            obtain ⟨τ, G, S6, q6⟩ := hsp
            exact plain S6 fun s7 J7 => ⟨_, _, J7, q6⟩
          | ret u =>
            obtain ⟨v6, τ, G, S6, r6, q6⟩ := hsp
            exact plain S6 fun s7 J7 => ⟨_, _, _, J7, r6, q6⟩
        | false =>
          show wpAny _ X.A (handleBy (.ref a) X.env hds2) _ _ _
          exact ih (hno rfl)
    exact go hh w
  · cases f with
    | next =>
      obtain ⟨τ, G, J', q⟩ := hsp
      exact wpAny_execs_nil ⟨τ, G, J'.ofTry ok, q⟩
    | brk =>
      obtain ⟨τ, G, J', q⟩ := hsp
      exact ⟨τ, G, J'.ofTry ok, q⟩
    | cont =>
      obtain ⟨τ, G, J', q⟩ := hsp
      exact ⟨τ, G, J'.ofTry ok, q⟩
    | ret u =>
      obtain ⟨v, τ, G, J', r, q⟩ := hsp
      exact ⟨v, τ, G, J'.ofTry ok, r, q⟩
end
end L2

/-! X6: an exception held as a value: its fields, isinstance -/
namespace L2
open PySem PySem.Spec PyProof.Rows PySem.VX
section
variable {X : Cx} {pins : List (Addr × Obj)} {σ : St} {H : Hp} {s : Shared}
theorem exV_inst (I : Inv X pins σ H s) {a C d : Addr} {fs : List (Str × V)} (ea : H a = some (exV a C d)) (ed : H d = some (.xd fs)) :
    ∃ (oe od : Obj) (mA : Str → Option Value), PySem.W.InstAt s.heap a oe C (some od) ∧ (∀ f, RelO (fs.lookup f) (mA f)) ∧ ∀ name, PySem.W.lookIn name od = some (mA name) := by
  obtain ⟨oe, vs, ho, hc, hd, hv⟩ := exV_at I.hok ea
  have hx : ObjOk X.prog X.w H s.heap d (.xd fs) := I.hok d _ ed
  obtain ⟨mA, hns, hr⟩ := hx
  obtain ⟨od, hod, hl⟩ := lookIn_ns hns
  exact ⟨oe, od, mA, ⟨ho, hc, by unfold PySem.W.notCls; rw [hv] <;> rfl, by rw [hd]; exact hod⟩, hr, hl⟩
/-- e.f, e such an exception -/
def tFldV (K : PySem.W.Frag) (f : Str) (te : TE) : TE := fun σ H Q => te σ H fun x H1 => ∃ (a C d : Addr) (fs : List (Str × V)) (v : V), x = .ref a ∧ H1 a = some (exV a C d) ∧ H1 d = some (.xd fs) ∧ XfC K C ∧ PySem.W.findIn K (.ref C) f = some none ∧ fs.lookup f = some v ∧ Q v H1
theorem pe_fldV {e : Expr} {te : TE} {pos : Pos} {n : Str} (he : PE X e te) (hb : attributeBase e n X.env (eval e X.env) = eval e X.env := by rfl) : PE X (.Attribute e n pos) (tFldV X.K n te) := by
  refine ⟨fun pins s σ H Q I h => ?_⟩
  refine attr_of hb (thn (he.run pins s σ H _ I h) fun u s1 hh => ?_)
  obtain ⟨x, H1, I1, rx, a, C, d, fs, v, ex, ea, ed, T, hno, l, q⟩ := hh
  subst ex
  obtain rfl : u = Value.ref a := rx
  obtain ⟨oe, od, mA, J, hr, hl⟩ := exV_inst I1 ea ed
  obtain ⟨u, hu, ru⟩ := RelO.some_of (v := v) (o := mA n) (by rw [← l]; exact hr n)
  exact HandSPX.exc_get I1.kIn J T.ga T.gg T.exC (PySem.W.findObj_own T.hdC hno rfl (by rw [hl, hu])) (handed_of ru) ⟨v, H1, I1.tok _, ru, q⟩
/-- isinstance(e, c), e such an exception -/
def rIsV (K : PySem.W.Frag) : List V → Hp → VK → Prop := fun xs H Q => ∃ (a C d : Addr) (fs : List (Str × V)) (c : V) (cv : Value) (b : Bool), xs = [.ref a, c] ∧ H a = some (exV a C d) ∧ H d = some (.xd fs) ∧ ExcC K C ∧ (∀ u, RelV c u → u = cv) ∧ PySem.W.kitOne K (.ref C) cv = some b ∧ Q (.bl b) H
theorem call_isV : CallR X (.builtin "isinstance") (rIsV X.K) := by
  intro pins s σ H xs us Q I r h
  obtain ⟨a, C, d, fs, c, cv, b, rfl, ea, ed, T, hcv, e, q⟩ := h
  obtain ⟨u, u2, rfl, ru, r2⟩ := vals2 r
  obtain rfl : u = Value.ref a := ru
  have ec := hcv _ r2
  subst ec
  obtain ⟨oe, od, mA, J, _, _⟩ := exV_inst I ea ed
  have hcl : (PySem.W.clsIn X.K C).isSome = true := by
    obtain ⟨cd, hc, _⟩ := PySem.W.any_some T.hd
    rw [hc]
    rfl
  exact PySem.W.kia_one (PySem.W.kitx_exc hcl T.hg T.hk T.hs T.ha T.hn T.ht T.hm) I.kIn J e (fun z => nomatch z) fun tk => ⟨.bl b, H, I.kept (t' := tk) fun _ _ z => z, rfl, q⟩
end
end L2

/-! X7: repr of data, in defs that run while no repr does -/
namespace L2
open PySem PySem.Spec PyProof.Rows PySem.VX
theorem guards_deeper {A : Around} {env : Env} : (A.deeper env).guards = A.guards := by
  first
    | rfl
    | (obtain ⟨a, b, c, d, e⟩ := A; rfl)
    | (obtain ⟨a, b, c, d, e⟩ := A; cases d <;> rfl)
/-- a def's promise, where no repr runs around -/
structure FnG (P : Program) (w : World) (K : PySem.W.Frag) (mg : Str → Option Value) (base : Heap) (CX : CXT) (k : Nat) (f : Addr) (fd : FuncData) (ps : List Str) (sp : Sp) : Prop where
  len : ∀ vs H Q E, sp vs H Q E → vs.length = ps.length
  run : ∀ (A : Around) (outer : List Env) (s : Shared) (H : Hp) (args : Args) (us : List Value) (vs : List V) (Q : VK) (E : XK), Room k A → A.guards = some [] → Env0 P w K mg base A outer s H → BindsTo s fd args (ps.zip us) → Vals vs us → sp vs H Q E →
    codeAny (model P w) A (.call (.ref f) args) (CR CX outer P w H s Q E) s
section
variable {P : Program} {w : World} {K : PySem.W.Frag} {mg : Str → Option Value} {base : Heap}
theorem Fun.okG {x qual : Str} {st : Stmt} {f : Addr} {fd : FuncData} {N ps : List Str} {k : Nat} {sp : Sp} (F : Fun K x qual st f fd) (S : FnScope N ps (defScope st)) (len : ∀ vs H Q E, sp vs H Q E → vs.length = ps.length)
    (hbody : ∀ (cdv : Value) (A : Around) (outer : List Env) (s : Shared) (H : Hp) (vs : List V) (Q : VK) (E : XK), Room k (A.deeper (envOfC qual (defScope st) s.heap.objs.size f cdv)) → (A.deeper (envOfC qual (defScope st) s.heap.objs.size f cdv)).guards = some [] → sp vs H Q E →
      ∃ t, PSs (cxOf CX0 P w K mg base N qual (defScope st) f cdv A outer s H E).nox (defBody st) t ∧ t { nx := fun _ H' => Q .non H', rt := Q } (start N vs) H) : FnG P w K mg base CX0 (k + 1) f fd ps sp := by
  obtain ⟨oc, od, kV, doc, pm, an, cdv, ct, osl, rfl, lk, hcd⟩ := F.ex
  refine ⟨len, fun A outer s H args us vs Q E hr hG e0 hb r hsp => ?_⟩
  have hG2 : (A.deeper (envOfC qual (defScope st) s.heap.objs.size f cdv)).guards = some [] := guards_deeper.trans hG
  have hl := len _ _ _ _ hsp
  have KX : K.In s.heap := e0.mod.kin.keeps fun b o e => (e0.bs b o e).1
  have lim : s.heap.NoLimit := e0.mod.nolimit.keeps fun b o e => (e0.bs b o e).1
  have kinds : ∀ y ∈ ps.zip us, (defScope st).names.lookup y.1 = some .local ∨ ((defScope st).names.lookup y.1 = some .cell ∧ ((cellsFrom (s.heap.objs.size + 1) (defScope st).names []).lookup y.1).isSome = true) := by
    rintro ⟨n, v⟩ hy
    rcases S.par n (List.of_mem_zip hy).1 with q | q
    · exact .inl q
    · exact .inr ⟨q, PySem.W.cellsFrom_some _ _ _ (.inl q)⟩
  refine codeAny_call_function hr.depth (KX _ _ lk) rfl S.co S.gen rfl (PySem.W.codeRec_of KX hcd) (hb _ _ _ _ ?_)
  refine wpAny_newFunctionEnv_cells S.kind kinds fun env he s1 x => ?_
  subst he
  refine ⟨lim.keeps x.toInCall.keep, codeAny_func ?_⟩
  obtain ⟨t, ht, hq⟩ := hbody cdv A outer s H vs Q E (hr.deeper _) hG2 hsp
  have I : Inv (cxOf CX0 P w K mg base N qual (defScope st) f cdv A outer s H E) [] (start N vs) H s1 := inv_start S hr.hd e0 hl r x
  refine wpAny_mono (ht.nox.run [] s1 (start N vs) H _ I hq) (fun fl s' hs => ?_) fun _ _ z => z
  have done : ∀ {σ' : St} {H' : Hp} {v : V} {u : Value}, Inv (cxOf CX0 P w K mg base N qual (defScope st) f cdv A outer s H E) [] σ' H' s' → RelV v u → Q v H' → CE outer P w H s Q u s' :=
    fun {σ' H' v u} J rv q => ⟨v, H', J.os, J.bare, J.base, J.hok, rv, q⟩
  cases fl with
  | ret u =>
    obtain ⟨v, σ', H', J, rv, q⟩ := hs
    exact done J rv q
  | next =>
    obtain ⟨σ', H', J, q⟩ := hs
    exact done (v := V.non) (u := Value.none) J rfl q
  | brk => exact False.elim hs.choose_spec.choose_spec.2
  | cont => exact False.elim hs.choose_spec.choose_spec.2
end
section
variable {X : Cx} {CX : CXT} {k : Nat} {f : Addr} {fd : FuncData} {ps : List Str} {sp : Sp} {E : XK} {x : Str} {p pos : Pos} {e : Expr} {es : List Expr} {t : TA} {ds : List Value} {dvs : List V}
/-- f(e, ..), f a def of such a promise -/
theorem pe_callG (F : FnG X.prog X.w X.K X.mg X.base CX k f fd ps sp) (hr : Room k X.A) (hG : X.A.guards = some []) (hg : Gl X x) (hm : X.mg x = some (.ref f)) (hk : PySem.W.keepIn X.K (.ref f) = true) (hb : Binds X.K fd ps ds) (hd : Vals dvs ds) (hx : Passes CX X E)
    (ha : PA X (e :: es) t) (hdb : (x == ("__debug__" : Str)) = false := by decide) (he : starEach (e :: es) X.env = (false, eval e X.env) :: starEach es X.env := by rfl) (hpl : (backTo pos (starEach es X.env)).any (·.1) = false := by rfl) :
    PE X (.Call (.Name x p) (e :: es) [] pos) (tCall sp dvs E t) := by
  refine ⟨fun pins s σ H Q I h => ?_⟩
  refine wpAny_Call_Name_kw (ld_glob I hg hm ?_ hdb)
  refine PySem.W.callWith_K (h₀ := X.base) I.ok.mod.kin hk (thn (ha.run pos pins s σ H _ I h) fun us s1 ⟨vs, H1, I1, r, q⟩ => ⟨I1.kIn, ?_⟩) he hpl
  have r2 : Vals (vs ++ dvs) (us ++ ds) := r.append hd
  have hl : (us ++ ds).length = ps.length := by
    rw [← r2.length]
    exact F.len _ _ _ _ q
  refine wpAny_call (codeAny_mono (F.run X.A X.stack s1 H1 ⟨us, []⟩ (us ++ ds) (vs ++ dvs) Q E hr hG I1.env0 (hb s1 us I1.kIn hl) r2 q) fun r s' hq => ?_)
  cases r with
  | error er => exact hx pins σ H1 s1 er s' I1 hq
  | ok fl =>
    cases fl with
    | ret u => exact I1.after hq
    | next => exact False.elim hq
    | brk => exact False.elim hq
    | cont => exact False.elim hq
/-- repr(x), x a list or tuple of data -/
def rReprD (K : PySem.W.Frag) : List V → Hp → VK → Prop := fun xs H Q => ∃ (a : Addr) (d : PyData), xs = [.ref a] ∧ Dp K H (.ref a) d ∧ d.showable = true ∧ d.hasDict = false ∧ d.depth ≤ 60 ∧ d.shown.length ≤ sizeLine ∧ Q (.str d.shown) H
theorem call_reprD (hG : X.A.guards = some []) (hu : X.A.units + 64 < cLine) : CallR X (.builtin "repr") (rReprD X.K) := by
  intro pins s σ H xs us Q I r h
  obtain ⟨a, d, rfl, hd, hs, hnd, hdp, hz, q⟩ := h
  obtain ⟨u, rfl, ru⟩ := vals1 r
  obtain rfl : u = Value.ref a := ru
  obtain ⟨as, rd⟩ := Dp.reads I d _ _ hd (show RelV (.ref a) (.ref a) from rfl)
  refine repr_of_reads' rd hs (fun z => absurd z (by rw [hnd]; decide)) hG (by omega) (fun _ _ e => e) (fun h' u tk k => ?_) hz
  exact ⟨.str d.shown, H, I.kept (t' := tk) k, ⟨_, rfl⟩, q⟩
end
/-- the law's call, for such a promise of the law -/
theorem law_callG {P : Program} {w : World} {K : PySem.W.Frag} {mg mb : Str → Option Value} {CX : CXT} {k : Nat} {fa a : Addr} {fd : FuncData} {x : Str} {sp : Sp} {s1 : Shared} {vs : List Value} {ns : List Int}
    (KX : K.In s1.heap) (hns : s1.heap.Ns mainGlobals mg) (hb : s1.heap.Ns builtinsNs mb) (hbb : ∀ x : Str, x ≠ "__name__" → mb x = bootBuiltins x) (hlim : s1.heap.NoLimit) (hg : s1.gens = #[])
    (ha : s1.heap.get? a = some { cls := .type "list", data := .seq vs.toArray }) (hi : IntsAre vs ns) (hl : ns.length ≤ sizeLine) (hr : Room k callerA)
    (F : ∀ base : Heap, K.In base → base.Ns mainGlobals mg → FnG P w K mg base CX k fa fd [x] sp) (hbind : ∀ (s : Shared) (u : Value), BindsTo s fd ⟨[u], []⟩ [(x, u)])
    (hsp : ∀ H : Hp, Only H → SqL K H a (ns.map V.int) → sp [.ref a] H (fun v _ => v = .bl true) fun _ _ _ => False)
    (hCX : ∀ H e s', CX [] H s1 (fun _ _ _ => False) e s' → False) :
    codeAny (model P w) callerA (.call (.ref fa) ⟨[.ref a], []⟩) (fun r s' => r = .ok (.ret (.bool true)) ∧ OldK s1.heap s'.heap ∧ s'.os = s1.os ∧ AllBare s'.gens) s1 := by
  have rv := vals_ints hi
  have lenV := hi.length
  have core : ∀ H : Hp, Only H → SqL K H a (ns.map V.int) → HOk P w H s1.heap → (∀ b, H b ≠ none → b = a) → (H a ≠ none → K.lookup a = none) →
      codeAny (model P w) callerA (.call (.ref fa) ⟨[.ref a], []⟩) (fun r s' => r = .ok (.ret (.bool true)) ∧ OldK s1.heap s'.heap ∧ s'.os = s1.os ∧ AllBare s'.gens) s1 := by
    intro H hO hS hok hA hK
    have only : ∀ {b : Addr} {u : HO}, H b = some u → b = a := fun {b u} q => hA b (by rw [q]; exact Option.some_ne_none u)
    have free : ∀ {b : Addr} {o : Obj} {es : Array DictEntry} {ep : Nat}, s1.heap.get? b = some o → o.data = .dict es ep → H b = none := by
      intro b o es ep e d
      cases q : H b with
      | none => rfl
      | some u =>
        have e' := only q
        subst e'
        rw [ha] at e
        cases e
        cases (show Data.seq vs.toArray _ = Data.dict es ep from d)
    have nsK : ∀ {b : Addr} {m : Str → Option Value}, s1.heap.Ns b m → (hidT s1.heap H).Ns b m := fun {b m} ⟨o, es, ep, e, d, r⟩ => ⟨o, es, ep, hidT_get e (free e d), d, r⟩
    have hKb : K.In (hidT s1.heap H) := fun b o e => hidT_get (KX b o e) (by
      cases q : H b with
      | none => rfl
      | some u =>
        have e' := only q
        subst e'
        rw [hK (by rw [q]; exact Option.some_ne_none u)] at e
        cases e)
    have hM : Mod K mg (hidT s1.heap H) := ⟨hKb, nsK hns, ⟨mb, nsK hb, hbb⟩, let ⟨mc, h1, h2⟩ := hlim; ⟨mc, nsK h1, h2⟩⟩
    have none1 : ∀ b : Addr, b ∉ ([] : List Addr) := fun b z => nomatch z
    have e0 : Env0 P w K mg (hidT s1.heap H) callerA [] s1 H := ⟨rfl, hM, fun b o e => of_hidT e, Nat.le_of_eq (hidT_size _ _), trivial, fun b hb => absurd hb (none1 b), hok, .of_eq hg⟩
    refine codeAny_mono ((F _ hKb (nsK hns)).run callerA [] s1 H ⟨[.ref a], []⟩ [.ref a] [.ref a] _ _ hr rfl e0 (hbind s1 (.ref a)) (.cons rfl .nil) (hsp H hO hS)) fun r s' h => ?_
    cases r with
    | error e => exact (hCX H e s' h).elim
    | ok fl =>
      cases fl with
      | next => exact False.elim h
      | brk => exact False.elim h
      | cont => exact False.elim h
      | ret u =>
        obtain ⟨v, H', os, bare, un, hok', r', q⟩ := h
        obtain rfl : v = .bl true := q
        obtain rfl : u = Value.bool true := r'
        refine ⟨rfl, OldK.of_keep fun b o e => ?_, os, bare⟩
        cases q : H b with
        | none => exact un.keep b o e q (none1 b) (none1 b)
        | some u =>
          rcases hO b with z | ⟨ob, xs, z⟩
          · rw [q] at z
            cases z
          · obtain ⟨e1, _⟩ := hok b _ z
            obtain ⟨e2, _⟩ := hok' b _ (un.frzs b ob _ z)
            rw [e] at e1
            cases e1
            exact e2
  cases hk : K.lookup a with
  | some o =>
    have e := KX a o hk
    rw [ha] at e
    cases e
    refine core (fun _ => none) (fun _ => .inl rfl) (.inr ⟨_, vs.toArray, _, hk, rfl, rfl, rfl, by rw [List.size_toArray, lenV]; exact hl, by simpa using rv⟩) (fun b u z => by cases (show (none : Option HO) = some u from z)) (fun b z => absurd rfl z) fun z => absurd rfl z
  | none =>
    refine core (fun b => if b = a then some (.frz { cls := .type "list", data := .seq vs.toArray } (.lst (ns.map V.int))) else none) (fun b => ?_) (.inl (.inr ⟨{ cls := .type "list", data := .seq vs.toArray }, if_pos rfl⟩)) (fun b u z => ?_) (fun b z => ?_) fun _ => hk
    · by_cases hb : b = a
      · exact .inr ⟨_, _, if_pos hb⟩
      · exact .inl (if_neg hb)
    · by_cases hb : b = a
      · cases (if_pos hb).symm.trans z
        subst hb
        exact ⟨ha, by rw [List.length_map]; exact hl, vs, _, rv, ha⟩
      · cases (if_neg hb).symm.trans z
    · by_cases hb : b = a
      · exact hb
      · exact absurd (if_neg hb) z
theorem walk_ofG {l : PySem.W.OpenLaw} {n k : Nat} {q : Program} {loose : List Str} {XP : (Str → Option Value) → Heap → Prop} {YP : World → Heap → Prop} {d : DefRec} {K : Params → PySem.W.Frag} {sp : PySem.W.Frag → Sp} {x : Str}
    (hn : l.most = some n) (hn2 : n ≤ sizeLine) (hdf : d.params.defaults = []) (hr : Room k callerA)
    (hY : ∀ (w : World) (h : Heap), YP w h → (K w.params).In h)
    (F : ∀ (w : World) (mg : Str → Option Value) (fa : Addr) (h : Heap), (K w.params).In h → h.Ns mainGlobals mg → mg d.name = some (.ref fa) →
      ∃ fd : FuncData, (∀ (s : Shared) (u : Value), BindsTo s fd ⟨[u], []⟩ [(x, u)]) ∧ ∀ base : Heap, (K w.params).In base → base.Ns mainGlobals mg → FnG l.prog w (K w.params) mg base CX0 k fa fd [x] (sp (K w.params)))
    (hsp : ∀ (K : PySem.W.Frag) (H : Hp) (a : Addr) (ns : List Int), ns.length ≤ n → Only H → SqL K H a (ns.map V.int) → sp K [.ref a] H (fun v _ => v = .bl true) fun _ _ _ => False) :
    PySem.W.WalkO q loose XP YP l.row.toRowW d [] (fun f vs => PySem.call f vs) := by
  refine Att.attach_call hn hdf fun w s₀ s1 mg mb fa o pm cd doc a vs ns G Y ho hd hcd hmg hobj hints hlen hg => ?_
  have KX := hY w _ Y
  obtain ⟨fd, hb, hF⟩ := F w mg fa _ KX G.T.g hmg
  exact law_callG KX G.T.g G.T.b G.T.builtins G.T.nolimit hg hobj hints (Nat.le_trans hlen hn2) hr hF hb (fun H hO hS => hsp (K w.params) H a ns hlen hO hS) fun H e s' z => z
end L2

/-! X8: the text by places; numbers, things -/
namespace T1
open PySem L2 PySem.VX
def top (i : Nat) : Stmt := PySem.Challenge.pw_semirail_k01_three_families.main.body.getD i (.Pass ⟨0, 0, 0, 0⟩)
abbrev sMix : Stmt := top 32
abbrev sOne : Stmt := top 33
abbrev sTwo : Stmt := top 34
abbrev sThree : Stmt := top 35
abbrev sNames : Stmt := top 36
abbrev sRaised : Stmt := top 37
abbrev sKinds : Stmt := top 38
abbrev sFams : Stmt := top 39
abbrev sFields : Stmt := top 40
abbrev sRight : Stmt := top 41
abbrev sThing : Stmt := top 42
abbrev sLaw : Stmt := top 43
/-! ### what is reckoned -/
def mixN (c k : Int) : Int := (c % 2147483629 + 7919 * k * k + 104729 * k + 17) * 48271 % 2147483647
def mixed (c k : Int) : Int := mixN c k * (mixN c k + 2 * k + 5) % 2147483629 / 16
theorem mixN_ge (c k : Int) : 0 ≤ mixN c k := Int.emod_nonneg _ (by decide)
theorem mixN_lt (c k : Int) : mixN c k < 2147483647 := Int.emod_lt_of_pos _ (by decide)
theorem mixed_ge (c k : Int) : 0 ≤ mixed c k := Int.ediv_nonneg (Int.emod_nonneg _ (by decide)) (by decide)
def spMix : Sp := fun vs H Q _ => ∃ (c k : Int), vs = [.int c, .int k] ∧ 0 ≤ k ∧ k ≤ 1000 ∧ Q (.int (mixed c k)) H
section
variable {P : Program} {w : World} {K : PySem.W.Frag} {mg : Str → Option Value} {base : Heap}
theorem scMix : FnScope ["_law_cell", "_law_k", "_law_number"] ["_law_cell", "_law_k"] (defScope sMix) := ⟨rfl, rfl, rfl, by decide +kernel, rfl, by decide +kernel, by decide +kernel⟩
theorem ok_mix {f : Addr} {fd : FuncData} (F : Fun K "_law_mixed" "_law_mixed" sMix f fd) : FnOk P w K mg base CX0 1 f fd ["_law_cell", "_law_k"] spMix := by
  refine F.ok scMix (fun vs H Q E h => ?_) (fun cdv A outer s H vs Q E hr h => ?_)
  · obtain ⟨c, k, rfl, _⟩ := h
    rfl
  · obtain ⟨c, k, rfl, h0, h1, q⟩ := h
    refine ⟨_, pss_cons (ps_set (i := 2) scMix.nd rfl (Or.inl rfl) (pe_op op_mod (pe_op op_mul (pe_op op_add (pe_op op_add (pe_op op_add (pe_op op_mod (pv 0) pe_int) (pe_op op_mul (pe_op op_mul pe_int (pv 1)) (pv 1))) (pe_op op_mul pe_int (pv 1))) pe_int) pe_int) pe_int))
      (pss_one (ps_ret (pe_op op_fdiv (pe_op op_mod (pe_op op_mul (pv 2) (pe_op op_add (pe_op op_add (pv 2) (pe_op op_mul pe_int (pv 1))) pe_int)) pe_int) pe_int))), ?_⟩
    have m0 := mixN_ge c k
    have m1 := mixN_lt c k
    refine ⟨_, rfl, _, _, rfl, rfl, (by show (0 : Int) < 2147483629; decide), _, rfl, _, _, rfl, rfl, .inl ⟨by decide, by decide⟩, _, rfl, _, _, rfl, rfl, .inr ⟨by omega, by omega⟩, _, _, rfl, rfl, _, rfl, _, _, rfl, rfl, .inl ⟨by decide, by decide⟩, _, _, rfl, rfl, _, _, rfl, rfl, _, _, rfl, rfl, .inr ⟨by decide, by decide⟩, _, _, rfl, rfl, (by show (0 : Int) < 2147483647; decide), ?_⟩
    refine ⟨_, rfl, _, rfl, _, rfl, _, _, rfl, rfl, .inl ⟨by decide, by decide⟩, _, _, rfl, rfl, _, _, rfl, rfl, _, _, rfl, rfl, .inl ⟨?_, ?_⟩, _, _, rfl, rfl, (by show (0 : Int) < 2147483629; decide), _, _, rfl, rfl, ⟨by decide, by decide⟩, ?_⟩
    · show -(2 ^ 64) < mixN c k
      omega
    · show mixN c k < 2 ^ 64
      omega
    · exact q
end
/-! ### data that stands in the heap -/
theorem sqT_same {K : PySem.W.Frag} {H H' : Hp} {a : Addr} {xs : List V} (e : Same H H') (h : SqT K H a xs) : SqT K H' a xs := by
  rcases h with (h | ⟨o, h⟩) | h
  · exact .inl (.inl (e _ _ h))
  · exact .inl (.inr ⟨o, e _ _ h⟩)
  · exact .inr h
mutual
theorem dp_same {K : PySem.W.Frag} {H H' : Hp} (e : Same H H') : ∀ (d : PyData) (v : V), Dp K H v d → Dp K H' v d
  | .none, _, h => by cases h; exact .non
  | .bool b, _, h => by cases h; exact .bl b
  | .int i, _, h => by cases h; exact .int i
  | .str x, _, h => by cases h; exact .str x
  | .list ds, _, h => by
    cases h with
    | lst hs ha => exact .lst (e.seq hs) (dps_same e ds _ ha)
  | .tuple ds, _, h => by
    cases h with
    | tup hs ha => exact .tup (sqT_same e hs) (dps_same e ds _ ha)
  | .dict _, _, h => by cases h
theorem dps_same {K : PySem.W.Frag} {H H' : Hp} (e : Same H H') : ∀ (ds : List PyData) (vs : List V), DpAll K H vs ds → DpAll K H' vs ds
  | [], _, h => by cases h; exact .nil
  | d :: ds, _, h => by
    cases h with
    | cons h1 h2 => exact .cons (dp_same e d _ h1) (dps_same e ds _ h2)
end
structure Nice (d : PyData) : Prop where
  s : d.showable = true
  n : d.hasDict = false
  d5 : d.depth ≤ 5
  l : d.shown.length ≤ 300
  p : SeqAt.shaped d = true
def dAt (z : Int) : Nat → PyData
  | 0 => .str ""
  | 1 => .str "form"
  | 2 => .none
  | 3 => .int 0
  | 4 => .int 1
  | 5 => .int z
  | 6 => .int (10 ^ 18)
  | 7 => .tuple [.str "a", .str "b"]
  | 8 => .tuple []
  | _ => .bool true
def vAt (p p2 : Addr) (z : Int) : Nat → V
  | 0 => .str ""
  | 1 => .str "form"
  | 2 => .non
  | 3 => .int 0
  | 4 => .int 1
  | 5 => .int z
  | 6 => .int (10 ^ 18)
  | 7 => .ref p
  | 8 => .ref p2
  | _ => .bl true
def dThing (n : Int) : PyData := dAt (n % 1000) (n / 1000 % 10).toNat
theorem nice_int {n : Int} (h0 : 0 ≤ n) (h1 : n < 1000) : Nice (PyData.int n) := by
  obtain ⟨m, rfl⟩ := Int.eq_ofNat_of_zero_le h0
  have hm : m < 2 ^ 10 := by omega
  refine ⟨?_, rfl, ?_, ?_, rfl⟩
  · show decide (((m : Int).natAbs).log2 < 1920) = true
    refine decide_eq_true ?_
    show Nat.log2 m < 1920
    by_cases z : m = 0
    · subst z
      decide
    · have := (Nat.log2_lt z).mpr hm
      omega
  · simp [PyData.depth]
  · have := PyProof.Rows.toString_length_le (v := (m : Int)) h0 (k := 3) (by decide) (by omega)
    show (Str.ofString (toString (m : Int))).length ≤ 300
    omega
theorem nice_at {z : Int} (h0 : 0 ≤ z) (h1 : z < 1000) : ∀ j, Nice (dAt z j)
  | 0 => (⟨by decide +kernel, by decide +kernel, by decide +kernel, by decide +kernel, by decide +kernel⟩ : Nice (.str ""))
  | 1 => (⟨by decide +kernel, by decide +kernel, by decide +kernel, by decide +kernel, by decide +kernel⟩ : Nice (.str "form"))
  | 2 => (⟨by decide +kernel, by decide +kernel, by decide +kernel, by decide +kernel, by decide +kernel⟩ : Nice (.none))
  | 3 => (⟨by decide +kernel, by decide +kernel, by decide +kernel, by decide +kernel, by decide +kernel⟩ : Nice (.int 0))
  | 4 => (⟨by decide +kernel, by decide +kernel, by decide +kernel, by decide +kernel, by decide +kernel⟩ : Nice (.int 1))
  | 5 => nice_int h0 h1
  | 6 => (⟨by decide +kernel, by decide +kernel, by decide +kernel, by decide +kernel, by decide +kernel⟩ : Nice (.int (10 ^ 18)))
  | 7 => (⟨by decide +kernel, by decide +kernel, by decide +kernel, by decide +kernel, by decide +kernel⟩ : Nice (.tuple [.str "a", .str "b"]))
  | 8 => (⟨by decide +kernel, by decide +kernel, by decide +kernel, by decide +kernel, by decide +kernel⟩ : Nice (.tuple []))
  | _ + 9 => (⟨by decide +kernel, by decide +kernel, by decide +kernel, by decide +kernel, by decide +kernel⟩ : Nice (.bool true))
theorem nice_thing (n : Int) : Nice (dThing n) := nice_at (Int.emod_nonneg _ (by decide)) (Int.emod_lt_of_pos _ (by decide)) _
theorem dp_at {K : PySem.W.Frag} {H : Hp} {p p2 : Addr} (z : Int) (hp : H p = some (.tup [.str "a", .str "b"])) (hp2 : H p2 = some (.tup [])) : ∀ j, Dp K H (vAt p p2 z j) (dAt z j)
  | 0 => .str _
  | 1 => .str _
  | 2 => .non
  | 3 => .int _
  | 4 => .int _
  | 5 => .int _
  | 6 => .int _
  | 7 => .tup (.inl (.inl hp)) (.cons (.str _) (.cons (.str _) .nil))
  | 8 => .tup (.inl (.inl hp2)) .nil
  | _ + 9 => .bl _
/-- a thing of the menu: flat, or a tuple of flat ones -/
def ThingAt (K : PySem.W.Frag) (H : Hp) (x : V) (d : PyData) : Prop := Dp K (fun _ => none) x d ∨ ∃ p vs ds, x = .ref p ∧ d = .tuple ds ∧ H p = some (.tup vs) ∧ DpAll K (fun _ => none) vs ds
theorem thing_dp {K : PySem.W.Frag} {H : Hp} {x : V} {d : PyData} (h : ThingAt K H x d) : Dp K H x d := by
  have e : Same (fun _ => none) H := fun b o z => by cases (show (none : Option HO) = some o from z)
  rcases h with h | ⟨p, vs, ds, rfl, rfl, hp, ha⟩
  · exact dp_same e _ _ h
  · exact .tup (.inl (.inl hp)) (dps_same e _ _ ha)
theorem thing_keep {K : PySem.W.Frag} {H H' : Hp} {x : V} {d : PyData} (e : ∀ b vs, H b = some (.tup vs) → H' b = some (.tup vs)) (h : ThingAt K H x d) : ThingAt K H' x d := by
  rcases h with h | ⟨p, vs, ds, e1, e2, hp, ha⟩
  · exact .inl h
  · exact .inr ⟨p, vs, ds, e1, e2, e _ _ hp, ha⟩
theorem thing_at {K : PySem.W.Frag} {H : Hp} {p p2 : Addr} (z : Int) (hp : H p = some (.tup [.str "a", .str "b"])) (hp2 : H p2 = some (.tup [])) : ∀ j, ThingAt K H (vAt p p2 z j) (dAt z j)
  | 0 => .inl (.str _)
  | 1 => .inl (.str _)
  | 2 => .inl .non
  | 3 => .inl (.int _)
  | 4 => .inl (.int _)
  | 5 => .inl (.int _)
  | 6 => .inl (.int _)
  | 7 => .inr ⟨p, _, _, rfl, rfl, hp, .cons (.str _) (.cons (.str _) .nil)⟩
  | 8 => .inr ⟨p2, _, _, rfl, rfl, hp2, .nil⟩
  | _ + 9 => .inl (.bl _)
theorem at_thing {p p2 : Addr} (z j : Int) (h0 : 0 ≤ j) (h1 : j < 10) : atI [V.str "", V.str "form", V.non, V.int 0, V.int 1, V.int z, V.int (10 ^ (18 : Int).toNat), V.ref p, V.ref p2, V.bl true] j = some (vAt p p2 z j.toNat) := by
  have h2 : j = 0 ∨ j = 1 ∨ j = 2 ∨ j = 3 ∨ j = 4 ∨ j = 5 ∨ j = 6 ∨ j = 7 ∨ j = 8 ∨ j = 9 := by omega
  rcases h2 with e | e | e | e | e | e | e | e | e | e <;> subst e <;> rfl
def spThing (K : PySem.W.Frag) : Sp := fun vs H Q _ => ∃ n : Int, vs = [.int n] ∧ 0 ≤ n ∧ ∀ x H', Same H H' → ThingAt K H' x (dThing n) → Q x H'
section
variable {P : Program} {w : World} {K : PySem.W.Frag} {mg : Str → Option Value} {base : Heap}
theorem scThing : FnScope ["_law_number", "_law_some"] ["_law_number"] (defScope sThing) := ⟨rfl, rfl, rfl, by decide +kernel, rfl, by decide +kernel, by decide +kernel⟩
theorem ok_thing {f : Addr} {fd : FuncData} (F : Fun K "_law_thing" "_law_thing" sThing f fd) : FnOk P w K mg base CX0 1 f fd ["_law_number"] (spThing K) := by
  refine F.ok scThing (fun vs H Q E h => ?_) (fun cdv A outer s H vs Q E hr h => ?_)
  · obtain ⟨n, rfl, _⟩ := h
    rfl
  · obtain ⟨n, rfl, h0, q⟩ := h
    refine ⟨_, pss_cons (ps_set (i := 1) scThing.nd rfl (Or.inl rfl) (pe_lst (pa_cons pe_str (pa_cons pe_str (pa_cons pe_non (pa_cons pe_int (pa_cons pe_int (pa_cons (pe_op op_mod (pv 0) pe_int) (pa_cons (pe_op op_pow pe_int pe_int)
        (pa_cons (pe_tup (pa_cons pe_str (pa_cons pe_str pa_nil))) (pa_cons (pe_tup pa_nil) (pa_cons pe_bl pa_nil))))))))))))
      (pss_one (ps_ret (pe_ix ix_list (pv 1) (pe_op op_mod (pe_op op_fdiv (pv 0) pe_int) pe_int) (fun _ _ => rfl)))), ?_⟩
    refine ⟨_, rfl, _, _, rfl, rfl, (by show (0 : Int) < 1000; decide), _, _, rfl, rfl, ⟨by decide, by decide, by decide⟩, (by show 2 ≤ sizeLine; decide), fun p hp => ⟨(by show 0 ≤ sizeLine; decide), fun p2 hp2 => ⟨(by show 10 ≤ sizeLine; decide), fun l hl => ?_⟩⟩⟩
    have n2 : p2 ≠ p := fun z => by
      rw [z, upd_same] at hp2
      cases hp2
    have l1 : p ≠ l := ne_of_none (o := .tup [.str "a", .str "b"]) (by rw [upd_ne (Ne.symm n2), upd_same]) hl
    have l2 : p2 ≠ l := ne_of_none (o := .tup []) upd_same hl
    refine ⟨_, rfl, _, rfl, _, _, rfl, rfl, ⟨by decide, by decide⟩, _, _, rfl, rfl, (by show (0 : Int) < 10; decide), l, _, _, _, rfl, rfl, SqL.of upd_same, at_thing _ _ (Int.emod_nonneg _ (by decide)) (Int.emod_lt_of_pos _ (by decide)), ?_⟩
    refine q _ _ (fun b o e => ?_) (thing_at _ ?_ ?_ _)
    · have e2 : upd H p (.tup [.str "a", .str "b"]) b = some o := by rw [upd_ne (ne_of_none e hp)]; exact e
      have e3 : upd (upd H p (.tup [.str "a", .str "b"])) p2 (.tup []) b = some o := by rw [upd_ne (ne_of_none e2 hp2)]; exact e2
      rw [upd_ne (ne_of_none e3 hl)]
      exact e3
    · rw [upd_ne l1, upd_ne (Ne.symm n2), upd_same]
    · rw [upd_ne l2, upd_same]
end
end T1

/-! X9: the classes by number; the defs that raise -/
namespace T1
open PySem L2 PySem.VX
def nmW : Nat → Str
  | 0 => "BadRing"
  | 1 => "BadTable"
  | 2 => "BadWeight"
  | 3 => "BadLeading"
  | 4 => "BadNumber"
  | 5 => "BadWord"
  | 6 => "BadWeb"
  | 7 => "BadPath"
  | 8 => "BadAutomaton"
  | 9 => "BadExpression"
  | 10 => "BadTransducer"
  | 11 => "BadMachine"
  | 12 => "BadAnswer"
  | 13 => "BadName"
  | 14 => "BadDeed"
  | 15 => "BadLine"
  | 16 => "NoStar"
  | 17 => "NoOrder"
  | 18 => "NotClosed"
  | 19 => "NotFew"
  | 20 => "TooMany"
  | 21 => "NoName"
  | 22 => "Taken"
  | 23 => "InUse"
  | 24 => "Round"
  | 25 => "TooDeep"
  | _ => "Nothing"
def fnW : Nat → List Str
  | 0 => ["what"]
  | 1 => ["rule", "things"]
  | 15 => ["line"]
  | 17 => ["step"]
  | 20 => ["most"]
  | 21 => ["name"]
  | 22 => ["name"]
  | 23 => ["users"]
  | 24 => ["circle"]
  | 25 => ["name"]
  | _ => ["why"]
def fsOf (i : Nat) (x y : V) : List (Str × V) := ((fnW i).zip [x, y]).reverse
/-- the text's own exceptions: class i stands at cs i -/
def Own (prog : Program) (w : World) (K : PySem.W.Frag) (mg : Str → Option Value) (cs : Nat → Addr) : Prop := ∀ i, i < 27 → OwnX prog w K mg (nmW i) (cs i) (fnW i)
section
variable {prog : Program} {w : World} {K : PySem.W.Frag} {mg : Str → Option Value} {cs : Nat → Addr}
theorem Own.o0 (O : Own prog w K mg cs) : OwnX prog w K mg "BadRing" (cs 0) ["what"] := O 0 (by decide)
theorem Own.o1 (O : Own prog w K mg cs) : OwnX prog w K mg "BadTable" (cs 1) ["rule", "things"] := O 1 (by decide)
theorem Own.o2 (O : Own prog w K mg cs) : OwnX prog w K mg "BadWeight" (cs 2) ["why"] := O 2 (by decide)
theorem Own.o3 (O : Own prog w K mg cs) : OwnX prog w K mg "BadLeading" (cs 3) ["why"] := O 3 (by decide)
theorem Own.o4 (O : Own prog w K mg cs) : OwnX prog w K mg "BadNumber" (cs 4) ["why"] := O 4 (by decide)
theorem Own.o5 (O : Own prog w K mg cs) : OwnX prog w K mg "BadWord" (cs 5) ["why"] := O 5 (by decide)
theorem Own.o6 (O : Own prog w K mg cs) : OwnX prog w K mg "BadWeb" (cs 6) ["why"] := O 6 (by decide)
theorem Own.o7 (O : Own prog w K mg cs) : OwnX prog w K mg "BadPath" (cs 7) ["why"] := O 7 (by decide)
theorem Own.o8 (O : Own prog w K mg cs) : OwnX prog w K mg "BadAutomaton" (cs 8) ["why"] := O 8 (by decide)
theorem Own.o9 (O : Own prog w K mg cs) : OwnX prog w K mg "BadExpression" (cs 9) ["why"] := O 9 (by decide)
theorem Own.o10 (O : Own prog w K mg cs) : OwnX prog w K mg "BadTransducer" (cs 10) ["why"] := O 10 (by decide)
theorem Own.o11 (O : Own prog w K mg cs) : OwnX prog w K mg "BadMachine" (cs 11) ["why"] := O 11 (by decide)
theorem Own.o12 (O : Own prog w K mg cs) : OwnX prog w K mg "BadAnswer" (cs 12) ["why"] := O 12 (by decide)
theorem Own.o13 (O : Own prog w K mg cs) : OwnX prog w K mg "BadName" (cs 13) ["why"] := O 13 (by decide)
theorem Own.o14 (O : Own prog w K mg cs) : OwnX prog w K mg "BadDeed" (cs 14) ["why"] := O 14 (by decide)
theorem Own.o15 (O : Own prog w K mg cs) : OwnX prog w K mg "BadLine" (cs 15) ["line"] := O 15 (by decide)
theorem Own.o16 (O : Own prog w K mg cs) : OwnX prog w K mg "NoStar" (cs 16) ["why"] := O 16 (by decide)
theorem Own.o17 (O : Own prog w K mg cs) : OwnX prog w K mg "NoOrder" (cs 17) ["step"] := O 17 (by decide)
theorem Own.o18 (O : Own prog w K mg cs) : OwnX prog w K mg "NotClosed" (cs 18) ["why"] := O 18 (by decide)
theorem Own.o19 (O : Own prog w K mg cs) : OwnX prog w K mg "NotFew" (cs 19) ["why"] := O 19 (by decide)
theorem Own.o20 (O : Own prog w K mg cs) : OwnX prog w K mg "TooMany" (cs 20) ["most"] := O 20 (by decide)
theorem Own.o21 (O : Own prog w K mg cs) : OwnX prog w K mg "NoName" (cs 21) ["name"] := O 21 (by decide)
theorem Own.o22 (O : Own prog w K mg cs) : OwnX prog w K mg "Taken" (cs 22) ["name"] := O 22 (by decide)
theorem Own.o23 (O : Own prog w K mg cs) : OwnX prog w K mg "InUse" (cs 23) ["users"] := O 23 (by decide)
theorem Own.o24 (O : Own prog w K mg cs) : OwnX prog w K mg "Round" (cs 24) ["circle"] := O 24 (by decide)
theorem Own.o25 (O : Own prog w K mg cs) : OwnX prog w K mg "TooDeep" (cs 25) ["name"] := O 25 (by decide)
theorem Own.o26 (O : Own prog w K mg cs) : OwnX prog w K mg "Nothing" (cs 26) ["why"] := O 26 (by decide)
end
theorem yes_of {c : Bool} {A B : Prop} (hc : c = true) (h : A) : if c = true then A else B := by
  rw [if_pos hc]
  exact h
theorem no_of {c : Bool} {A B : Prop} (hc : c = false) (h : B) : if c = true then A else B := by
  rw [hc, if_neg Bool.false_ne_true]
  exact h
def spOne (cs : Nat → Addr) : Sp := fun vs H _ E => ∃ (i : Nat) (x y : V), vs = [.int i, x, y] ∧ i < 9 ∧ ∀ d, H d = none → E (.ref (cs i)) (some d) (upd H d (.xd (fsOf i x y)))
def spTwo (cs : Nat → Addr) : Sp := fun vs H _ E => ∃ (i : Nat) (x y : V), vs = [.int i, x] ∧ 9 ≤ i ∧ i < 18 ∧ ∀ d, H d = none → E (.ref (cs i)) (some d) (upd H d (.xd (fsOf i x y)))
def spThree (cs : Nat → Addr) : Sp := fun vs H _ E => ∃ (i : Nat) (x y : V), vs = [.int i, x] ∧ 18 ≤ i ∧ i < 27 ∧ ∀ d, H d = none → E (.ref (cs i)) (some d) (upd H d (.xd (fsOf i x y)))
section
variable {P : Program} {w : World} {K : PySem.W.Frag} {mg : Str → Option Value} {base : Heap} {cs : Nat → Addr}
theorem scOne : FnScope ["_law_way", "_law_this", "_law_that"] ["_law_way", "_law_this", "_law_that"] (defScope sOne) := ⟨rfl, rfl, rfl, by decide +kernel, rfl, by decide +kernel, by decide +kernel⟩
theorem ok_one (O : Own P w K mg cs) {f : Addr} {fd : FuncData} (F : Fun K "_law_raise_one" "_law_raise_one" sOne f fd) : FnOk P w K mg base (L2.CX P w) 3 f fd ["_law_way", "_law_this", "_law_that"] (spOne cs) := by
  refine F.okX scOne (fun vs H Q E h => ?_) (fun cdv A outer s H vs Q E hr h => ?_)
  · obtain ⟨i, x, y, rfl, _⟩ := h
    rfl
  · obtain ⟨i, x, y, rfl, hi, k⟩ := h
    refine ⟨_, (pss_cons (ps_if (pt_cmpR op_eq (pv 0) pe_int (nomark _)) (pss_one (ps_raise (W := fun cls d _ H => E cls d H) rfl (takes_of rfl rfl rfl rfl) (pmk_own1 O.o0 hr (pa_cons (pv 1) pa_nil) (by rfl)))) pss_nil)
        (pss_cons (ps_if (pt_cmpR op_eq (pv 0) pe_int (nomark _)) (pss_one (ps_raise (W := fun cls d _ H => E cls d H) rfl (takes_of rfl rfl rfl rfl) (pmk_own1 O.o1 hr (pa_cons (pv 1) (pa_cons (pv 2) pa_nil)) (by rfl)))) pss_nil)
        (pss_cons (ps_if (pt_cmpR op_eq (pv 0) pe_int (nomark _)) (pss_one (ps_raise (W := fun cls d _ H => E cls d H) rfl (takes_of rfl rfl rfl rfl) (pmk_own1 O.o2 hr (pa_cons (pv 1) pa_nil) (by rfl)))) pss_nil)
        (pss_cons (ps_if (pt_cmpR op_eq (pv 0) pe_int (nomark _)) (pss_one (ps_raise (W := fun cls d _ H => E cls d H) rfl (takes_of rfl rfl rfl rfl) (pmk_own1 O.o3 hr (pa_cons (pv 1) pa_nil) (by rfl)))) pss_nil)
        (pss_cons (ps_if (pt_cmpR op_eq (pv 0) pe_int (nomark _)) (pss_one (ps_raise (W := fun cls d _ H => E cls d H) rfl (takes_of rfl rfl rfl rfl) (pmk_own1 O.o4 hr (pa_cons (pv 1) pa_nil) (by rfl)))) pss_nil)
        (pss_cons (ps_if (pt_cmpR op_eq (pv 0) pe_int (nomark _)) (pss_one (ps_raise (W := fun cls d _ H => E cls d H) rfl (takes_of rfl rfl rfl rfl) (pmk_own1 O.o5 hr (pa_cons (pv 1) pa_nil) (by rfl)))) pss_nil)
        (pss_cons (ps_if (pt_cmpR op_eq (pv 0) pe_int (nomark _)) (pss_one (ps_raise (W := fun cls d _ H => E cls d H) rfl (takes_of rfl rfl rfl rfl) (pmk_own1 O.o6 hr (pa_cons (pv 1) pa_nil) (by rfl)))) pss_nil)
        (pss_cons (ps_if (pt_cmpR op_eq (pv 0) pe_int (nomark _)) (pss_one (ps_raise (W := fun cls d _ H => E cls d H) rfl (takes_of rfl rfl rfl rfl) (pmk_own1 O.o7 hr (pa_cons (pv 1) pa_nil) (by rfl)))) pss_nil)
        (pss_one (ps_raise (W := fun cls d _ H => E cls d H) rfl (takes_of rfl rfl rfl rfl) (pmk_own1 O.o8 hr (pa_cons (pv 1) pa_nil) (by rfl)))))))))))), ?_⟩
    obtain rfl | rfl | rfl | rfl | rfl | rfl | rfl | rfl | rfl : i = 0 ∨ i = 1 ∨ i = 2 ∨ i = 3 ∨ i = 4 ∨ i = 5 ∨ i = 6 ∨ i = 7 ∨ i = 8 := by omega
    · refine ⟨_, rfl, rfl, _, rfl, ?_⟩
      refine yes_of (by decide) ?_
      exact ⟨_, rfl, rfl, fun d hd => k d hd⟩
    · refine ⟨_, rfl, rfl, _, rfl, ?_⟩
      refine no_of (by decide) ?_
      refine ⟨_, rfl, rfl, _, rfl, ?_⟩
      refine yes_of (by decide) ?_
      exact ⟨_, rfl, _, rfl, rfl, fun d hd => k d hd⟩
    · refine ⟨_, rfl, rfl, _, rfl, ?_⟩
      refine no_of (by decide) ?_
      refine ⟨_, rfl, rfl, _, rfl, ?_⟩
      refine no_of (by decide) ?_
      refine ⟨_, rfl, rfl, _, rfl, ?_⟩
      refine yes_of (by decide) ?_
      exact ⟨_, rfl, rfl, fun d hd => k d hd⟩
    · refine ⟨_, rfl, rfl, _, rfl, ?_⟩
      refine no_of (by decide) ?_
      refine ⟨_, rfl, rfl, _, rfl, ?_⟩
      refine no_of (by decide) ?_
      refine ⟨_, rfl, rfl, _, rfl, ?_⟩
      refine no_of (by decide) ?_
      refine ⟨_, rfl, rfl, _, rfl, ?_⟩
      refine yes_of (by decide) ?_
      exact ⟨_, rfl, rfl, fun d hd => k d hd⟩
    · refine ⟨_, rfl, rfl, _, rfl, ?_⟩
      refine no_of (by decide) ?_
      refine ⟨_, rfl, rfl, _, rfl, ?_⟩
      refine no_of (by decide) ?_
      refine ⟨_, rfl, rfl, _, rfl, ?_⟩
      refine no_of (by decide) ?_
      refine ⟨_, rfl, rfl, _, rfl, ?_⟩
      refine no_of (by decide) ?_
      refine ⟨_, rfl, rfl, _, rfl, ?_⟩
      refine yes_of (by decide) ?_
      exact ⟨_, rfl, rfl, fun d hd => k d hd⟩
    · refine ⟨_, rfl, rfl, _, rfl, ?_⟩
      refine no_of (by decide) ?_
      refine ⟨_, rfl, rfl, _, rfl, ?_⟩
      refine no_of (by decide) ?_
      refine ⟨_, rfl, rfl, _, rfl, ?_⟩
      refine no_of (by decide) ?_
      refine ⟨_, rfl, rfl, _, rfl, ?_⟩
      refine no_of (by decide) ?_
      refine ⟨_, rfl, rfl, _, rfl, ?_⟩
      refine no_of (by decide) ?_
      refine ⟨_, rfl, rfl, _, rfl, ?_⟩
      refine yes_of (by decide) ?_
      exact ⟨_, rfl, rfl, fun d hd => k d hd⟩
    · refine ⟨_, rfl, rfl, _, rfl, ?_⟩
      refine no_of (by decide) ?_
      refine ⟨_, rfl, rfl, _, rfl, ?_⟩
      refine no_of (by decide) ?_
      refine ⟨_, rfl, rfl, _, rfl, ?_⟩
      refine no_of (by decide) ?_
      refine ⟨_, rfl, rfl, _, rfl, ?_⟩
      refine no_of (by decide) ?_
      refine ⟨_, rfl, rfl, _, rfl, ?_⟩
      refine no_of (by decide) ?_
      refine ⟨_, rfl, rfl, _, rfl, ?_⟩
      refine no_of (by decide) ?_
      refine ⟨_, rfl, rfl, _, rfl, ?_⟩
      refine yes_of (by decide) ?_
      exact ⟨_, rfl, rfl, fun d hd => k d hd⟩
    · refine ⟨_, rfl, rfl, _, rfl, ?_⟩
      refine no_of (by decide) ?_
      refine ⟨_, rfl, rfl, _, rfl, ?_⟩
      refine no_of (by decide) ?_
      refine ⟨_, rfl, rfl, _, rfl, ?_⟩
      refine no_of (by decide) ?_
      refine ⟨_, rfl, rfl, _, rfl, ?_⟩
      refine no_of (by decide) ?_
      refine ⟨_, rfl, rfl, _, rfl, ?_⟩
      refine no_of (by decide) ?_
      refine ⟨_, rfl, rfl, _, rfl, ?_⟩
      refine no_of (by decide) ?_
      refine ⟨_, rfl, rfl, _, rfl, ?_⟩
      refine no_of (by decide) ?_
      refine ⟨_, rfl, rfl, _, rfl, ?_⟩
      refine yes_of (by decide) ?_
      exact ⟨_, rfl, rfl, fun d hd => k d hd⟩
    · refine ⟨_, rfl, rfl, _, rfl, ?_⟩
      refine no_of (by decide) ?_
      refine ⟨_, rfl, rfl, _, rfl, ?_⟩
      refine no_of (by decide) ?_
      refine ⟨_, rfl, rfl, _, rfl, ?_⟩
      refine no_of (by decide) ?_
      refine ⟨_, rfl, rfl, _, rfl, ?_⟩
      refine no_of (by decide) ?_
      refine ⟨_, rfl, rfl, _, rfl, ?_⟩
      refine no_of (by decide) ?_
      refine ⟨_, rfl, rfl, _, rfl, ?_⟩
      refine no_of (by decide) ?_
      refine ⟨_, rfl, rfl, _, rfl, ?_⟩
      refine no_of (by decide) ?_
      refine ⟨_, rfl, rfl, _, rfl, ?_⟩
      refine no_of (by decide) ?_
      exact ⟨_, rfl, rfl, fun d hd => k d hd⟩
theorem scTwo : FnScope ["_law_way", "_law_this"] ["_law_way", "_law_this"] (defScope sTwo) := ⟨rfl, rfl, rfl, by decide +kernel, rfl, by decide +kernel, by decide +kernel⟩
theorem ok_two (O : Own P w K mg cs) {f : Addr} {fd : FuncData} (F : Fun K "_law_raise_two" "_law_raise_two" sTwo f fd) : FnOk P w K mg base (L2.CX P w) 3 f fd ["_law_way", "_law_this"] (spTwo cs) := by
  refine F.okX scTwo (fun vs H Q E h => ?_) (fun cdv A outer s H vs Q E hr h => ?_)
  · obtain ⟨i, x, y, rfl, _⟩ := h
    rfl
  · obtain ⟨i, x, y, rfl, lo, hi, k⟩ := h
    refine ⟨_, (pss_cons (ps_if (pt_cmpR op_eq (pv 0) pe_int (nomark _)) (pss_one (ps_raise (W := fun cls d _ H => E cls d H) rfl (takes_of rfl rfl rfl rfl) (pmk_own1 O.o9 hr (pa_cons (pv 1) pa_nil) (by rfl)))) pss_nil)
        (pss_cons (ps_if (pt_cmpR op_eq (pv 0) pe_int (nomark _)) (pss_one (ps_raise (W := fun cls d _ H => E cls d H) rfl (takes_of rfl rfl rfl rfl) (pmk_own1 O.o10 hr (pa_cons (pv 1) pa_nil) (by rfl)))) pss_nil)
        (pss_cons (ps_if (pt_cmpR op_eq (pv 0) pe_int (nomark _)) (pss_one (ps_raise (W := fun cls d _ H => E cls d H) rfl (takes_of rfl rfl rfl rfl) (pmk_own1 O.o11 hr (pa_cons (pv 1) pa_nil) (by rfl)))) pss_nil)
        (pss_cons (ps_if (pt_cmpR op_eq (pv 0) pe_int (nomark _)) (pss_one (ps_raise (W := fun cls d _ H => E cls d H) rfl (takes_of rfl rfl rfl rfl) (pmk_own1 O.o12 hr (pa_cons (pv 1) pa_nil) (by rfl)))) pss_nil)
        (pss_cons (ps_if (pt_cmpR op_eq (pv 0) pe_int (nomark _)) (pss_one (ps_raise (W := fun cls d _ H => E cls d H) rfl (takes_of rfl rfl rfl rfl) (pmk_own1 O.o13 hr (pa_cons (pv 1) pa_nil) (by rfl)))) pss_nil)
        (pss_cons (ps_if (pt_cmpR op_eq (pv 0) pe_int (nomark _)) (pss_one (ps_raise (W := fun cls d _ H => E cls d H) rfl (takes_of rfl rfl rfl rfl) (pmk_own1 O.o14 hr (pa_cons (pv 1) pa_nil) (by rfl)))) pss_nil)
        (pss_cons (ps_if (pt_cmpR op_eq (pv 0) pe_int (nomark _)) (pss_one (ps_raise (W := fun cls d _ H => E cls d H) rfl (takes_of rfl rfl rfl rfl) (pmk_own1 O.o15 hr (pa_cons (pv 1) pa_nil) (by rfl)))) pss_nil)
        (pss_cons (ps_if (pt_cmpR op_eq (pv 0) pe_int (nomark _)) (pss_one (ps_raise (W := fun cls d _ H => E cls d H) rfl (takes_of rfl rfl rfl rfl) (pmk_own1 O.o16 hr (pa_cons (pv 1) pa_nil) (by rfl)))) pss_nil)
        (pss_one (ps_raise (W := fun cls d _ H => E cls d H) rfl (takes_of rfl rfl rfl rfl) (pmk_own1 O.o17 hr (pa_cons (pv 1) pa_nil) (by rfl)))))))))))), ?_⟩
    obtain rfl | rfl | rfl | rfl | rfl | rfl | rfl | rfl | rfl : i = 9 ∨ i = 10 ∨ i = 11 ∨ i = 12 ∨ i = 13 ∨ i = 14 ∨ i = 15 ∨ i = 16 ∨ i = 17 := by omega
    · refine ⟨_, rfl, rfl, _, rfl, ?_⟩
      refine yes_of (by decide) ?_
      exact ⟨_, rfl, rfl, fun d hd => k d hd⟩
    · refine ⟨_, rfl, rfl, _, rfl, ?_⟩
      refine no_of (by decide) ?_
      refine ⟨_, rfl, rfl, _, rfl, ?_⟩
      refine yes_of (by decide) ?_
      exact ⟨_, rfl, rfl, fun d hd => k d hd⟩
    · refine ⟨_, rfl, rfl, _, rfl, ?_⟩
      refine no_of (by decide) ?_
      refine ⟨_, rfl, rfl, _, rfl, ?_⟩
      refine no_of (by decide) ?_
      refine ⟨_, rfl, rfl, _, rfl, ?_⟩
      refine yes_of (by decide) ?_
      exact ⟨_, rfl, rfl, fun d hd => k d hd⟩
    · refine ⟨_, rfl, rfl, _, rfl, ?_⟩
      refine no_of (by decide) ?_
      refine ⟨_, rfl, rfl, _, rfl, ?_⟩
      refine no_of (by decide) ?_
      refine ⟨_, rfl, rfl, _, rfl, ?_⟩
      refine no_of (by decide) ?_
      refine ⟨_, rfl, rfl, _, rfl, ?_⟩
      refine yes_of (by decide) ?_
      exact ⟨_, rfl, rfl, fun d hd => k d hd⟩
    · refine ⟨_, rfl, rfl, _, rfl, ?_⟩
      refine no_of (by decide) ?_
      refine ⟨_, rfl, rfl, _, rfl, ?_⟩
      refine no_of (by decide) ?_
      refine ⟨_, rfl, rfl, _, rfl, ?_⟩
      refine no_of (by decide) ?_
      refine ⟨_, rfl, rfl, _, rfl, ?_⟩
      refine no_of (by decide) ?_
      refine ⟨_, rfl, rfl, _, rfl, ?_⟩
      refine yes_of (by decide) ?_
      exact ⟨_, rfl, rfl, fun d hd => k d hd⟩
    · refine ⟨_, rfl, rfl, _, rfl, ?_⟩
      refine no_of (by decide) ?_
      refine ⟨_, rfl, rfl, _, rfl, ?_⟩
      refine no_of (by decide) ?_
      refine ⟨_, rfl, rfl, _, rfl, ?_⟩
      refine no_of (by decide) ?_
      refine ⟨_, rfl, rfl, _, rfl, ?_⟩
      refine no_of (by decide) ?_
      refine ⟨_, rfl, rfl, _, rfl, ?_⟩
      refine no_of (by decide) ?_
      refine ⟨_, rfl, rfl, _, rfl, ?_⟩
      refine yes_of (by decide) ?_
      exact ⟨_, rfl, rfl, fun d hd => k d hd⟩
    · refine ⟨_, rfl, rfl, _, rfl, ?_⟩
      refine no_of (by decide) ?_
      refine ⟨_, rfl, rfl, _, rfl, ?_⟩
      refine no_of (by decide) ?_
      refine ⟨_, rfl, rfl, _, rfl, ?_⟩
      refine no_of (by decide) ?_
      refine ⟨_, rfl, rfl, _, rfl, ?_⟩
      refine no_of (by decide) ?_
      refine ⟨_, rfl, rfl, _, rfl, ?_⟩
      refine no_of (by decide) ?_
      refine ⟨_, rfl, rfl, _, rfl, ?_⟩
      refine no_of (by decide) ?_
      refine ⟨_, rfl, rfl, _, rfl, ?_⟩
      refine yes_of (by decide) ?_
      exact ⟨_, rfl, rfl, fun d hd => k d hd⟩
    · refine ⟨_, rfl, rfl, _, rfl, ?_⟩
      refine no_of (by decide) ?_
      refine ⟨_, rfl, rfl, _, rfl, ?_⟩
      refine no_of (by decide) ?_
      refine ⟨_, rfl, rfl, _, rfl, ?_⟩
      refine no_of (by decide) ?_
      refine ⟨_, rfl, rfl, _, rfl, ?_⟩
      refine no_of (by decide) ?_
      refine ⟨_, rfl, rfl, _, rfl, ?_⟩
      refine no_of (by decide) ?_
      refine ⟨_, rfl, rfl, _, rfl, ?_⟩
      refine no_of (by decide) ?_
      refine ⟨_, rfl, rfl, _, rfl, ?_⟩
      refine no_of (by decide) ?_
      refine ⟨_, rfl, rfl, _, rfl, ?_⟩
      refine yes_of (by decide) ?_
      exact ⟨_, rfl, rfl, fun d hd => k d hd⟩
    · refine ⟨_, rfl, rfl, _, rfl, ?_⟩
      refine no_of (by decide) ?_
      refine ⟨_, rfl, rfl, _, rfl, ?_⟩
      refine no_of (by decide) ?_
      refine ⟨_, rfl, rfl, _, rfl, ?_⟩
      refine no_of (by decide) ?_
      refine ⟨_, rfl, rfl, _, rfl, ?_⟩
      refine no_of (by decide) ?_
      refine ⟨_, rfl, rfl, _, rfl, ?_⟩
      refine no_of (by decide) ?_
      refine ⟨_, rfl, rfl, _, rfl, ?_⟩
      refine no_of (by decide) ?_
      refine ⟨_, rfl, rfl, _, rfl, ?_⟩
      refine no_of (by decide) ?_
      refine ⟨_, rfl, rfl, _, rfl, ?_⟩
      refine no_of (by decide) ?_
      exact ⟨_, rfl, rfl, fun d hd => k d hd⟩
theorem scThree : FnScope ["_law_way", "_law_this"] ["_law_way", "_law_this"] (defScope sThree) := ⟨rfl, rfl, rfl, by decide +kernel, rfl, by decide +kernel, by decide +kernel⟩
theorem ok_three (O : Own P w K mg cs) {f : Addr} {fd : FuncData} (F : Fun K "_law_raise_three" "_law_raise_three" sThree f fd) : FnOk P w K mg base (L2.CX P w) 3 f fd ["_law_way", "_law_this"] (spThree cs) := by
  refine F.okX scThree (fun vs H Q E h => ?_) (fun cdv A outer s H vs Q E hr h => ?_)
  · obtain ⟨i, x, y, rfl, _⟩ := h
    rfl
  · obtain ⟨i, x, y, rfl, lo, hi, k⟩ := h
    refine ⟨_, (pss_cons (ps_if (pt_cmpR op_eq (pv 0) pe_int (nomark _)) (pss_one (ps_raise (W := fun cls d _ H => E cls d H) rfl (takes_of rfl rfl rfl rfl) (pmk_own1 O.o18 hr (pa_cons (pv 1) pa_nil) (by rfl)))) pss_nil)
        (pss_cons (ps_if (pt_cmpR op_eq (pv 0) pe_int (nomark _)) (pss_one (ps_raise (W := fun cls d _ H => E cls d H) rfl (takes_of rfl rfl rfl rfl) (pmk_own1 O.o19 hr (pa_cons (pv 1) pa_nil) (by rfl)))) pss_nil)
        (pss_cons (ps_if (pt_cmpR op_eq (pv 0) pe_int (nomark _)) (pss_one (ps_raise (W := fun cls d _ H => E cls d H) rfl (takes_of rfl rfl rfl rfl) (pmk_own1 O.o20 hr (pa_cons (pv 1) pa_nil) (by rfl)))) pss_nil)
        (pss_cons (ps_if (pt_cmpR op_eq (pv 0) pe_int (nomark _)) (pss_one (ps_raise (W := fun cls d _ H => E cls d H) rfl (takes_of rfl rfl rfl rfl) (pmk_own1 O.o21 hr (pa_cons (pv 1) pa_nil) (by rfl)))) pss_nil)
        (pss_cons (ps_if (pt_cmpR op_eq (pv 0) pe_int (nomark _)) (pss_one (ps_raise (W := fun cls d _ H => E cls d H) rfl (takes_of rfl rfl rfl rfl) (pmk_own1 O.o22 hr (pa_cons (pv 1) pa_nil) (by rfl)))) pss_nil)
        (pss_cons (ps_if (pt_cmpR op_eq (pv 0) pe_int (nomark _)) (pss_one (ps_raise (W := fun cls d _ H => E cls d H) rfl (takes_of rfl rfl rfl rfl) (pmk_own1 O.o23 hr (pa_cons (pv 1) pa_nil) (by rfl)))) pss_nil)
        (pss_cons (ps_if (pt_cmpR op_eq (pv 0) pe_int (nomark _)) (pss_one (ps_raise (W := fun cls d _ H => E cls d H) rfl (takes_of rfl rfl rfl rfl) (pmk_own1 O.o24 hr (pa_cons (pv 1) pa_nil) (by rfl)))) pss_nil)
        (pss_cons (ps_if (pt_cmpR op_eq (pv 0) pe_int (nomark _)) (pss_one (ps_raise (W := fun cls d _ H => E cls d H) rfl (takes_of rfl rfl rfl rfl) (pmk_own1 O.o25 hr (pa_cons (pv 1) pa_nil) (by rfl)))) pss_nil)
        (pss_one (ps_raise (W := fun cls d _ H => E cls d H) rfl (takes_of rfl rfl rfl rfl) (pmk_own1 O.o26 hr (pa_cons (pv 1) pa_nil) (by rfl)))))))))))), ?_⟩
    obtain rfl | rfl | rfl | rfl | rfl | rfl | rfl | rfl | rfl : i = 18 ∨ i = 19 ∨ i = 20 ∨ i = 21 ∨ i = 22 ∨ i = 23 ∨ i = 24 ∨ i = 25 ∨ i = 26 := by omega
    · refine ⟨_, rfl, rfl, _, rfl, ?_⟩
      refine yes_of (by decide) ?_
      exact ⟨_, rfl, rfl, fun d hd => k d hd⟩
    · refine ⟨_, rfl, rfl, _, rfl, ?_⟩
      refine no_of (by decide) ?_
      refine ⟨_, rfl, rfl, _, rfl, ?_⟩
      refine yes_of (by decide) ?_
      exact ⟨_, rfl, rfl, fun d hd => k d hd⟩
    · refine ⟨_, rfl, rfl, _, rfl, ?_⟩
      refine no_of (by decide) ?_
      refine ⟨_, rfl, rfl, _, rfl, ?_⟩
      refine no_of (by decide) ?_
      refine ⟨_, rfl, rfl, _, rfl, ?_⟩
      refine yes_of (by decide) ?_
      exact ⟨_, rfl, rfl, fun d hd => k d hd⟩
    · refine ⟨_, rfl, rfl, _, rfl, ?_⟩
      refine no_of (by decide) ?_
      refine ⟨_, rfl, rfl, _, rfl, ?_⟩
      refine no_of (by decide) ?_
      refine ⟨_, rfl, rfl, _, rfl, ?_⟩
      refine no_of (by decide) ?_
      refine ⟨_, rfl, rfl, _, rfl, ?_⟩
      refine yes_of (by decide) ?_
      exact ⟨_, rfl, rfl, fun d hd => k d hd⟩
    · refine ⟨_, rfl, rfl, _, rfl, ?_⟩
      refine no_of (by decide) ?_
      refine ⟨_, rfl, rfl, _, rfl, ?_⟩
      refine no_of (by decide) ?_
      refine ⟨_, rfl, rfl, _, rfl, ?_⟩
      refine no_of (by decide) ?_
      refine ⟨_, rfl, rfl, _, rfl, ?_⟩
      refine no_of (by decide) ?_
      refine ⟨_, rfl, rfl, _, rfl, ?_⟩
      refine yes_of (by decide) ?_
      exact ⟨_, rfl, rfl, fun d hd => k d hd⟩
    · refine ⟨_, rfl, rfl, _, rfl, ?_⟩
      refine no_of (by decide) ?_
      refine ⟨_, rfl, rfl, _, rfl, ?_⟩
      refine no_of (by decide) ?_
      refine ⟨_, rfl, rfl, _, rfl, ?_⟩
      refine no_of (by decide) ?_
      refine ⟨_, rfl, rfl, _, rfl, ?_⟩
      refine no_of (by decide) ?_
      refine ⟨_, rfl, rfl, _, rfl, ?_⟩
      refine no_of (by decide) ?_
      refine ⟨_, rfl, rfl, _, rfl, ?_⟩
      refine yes_of (by decide) ?_
      exact ⟨_, rfl, rfl, fun d hd => k d hd⟩
    · refine ⟨_, rfl, rfl, _, rfl, ?_⟩
      refine no_of (by decide) ?_
      refine ⟨_, rfl, rfl, _, rfl, ?_⟩
      refine no_of (by decide) ?_
      refine ⟨_, rfl, rfl, _, rfl, ?_⟩
      refine no_of (by decide) ?_
      refine ⟨_, rfl, rfl, _, rfl, ?_⟩
      refine no_of (by decide) ?_
      refine ⟨_, rfl, rfl, _, rfl, ?_⟩
      refine no_of (by decide) ?_
      refine ⟨_, rfl, rfl, _, rfl, ?_⟩
      refine no_of (by decide) ?_
      refine ⟨_, rfl, rfl, _, rfl, ?_⟩
      refine yes_of (by decide) ?_
      exact ⟨_, rfl, rfl, fun d hd => k d hd⟩
    · refine ⟨_, rfl, rfl, _, rfl, ?_⟩
      refine no_of (by decide) ?_
      refine ⟨_, rfl, rfl, _, rfl, ?_⟩
      refine no_of (by decide) ?_
      refine ⟨_, rfl, rfl, _, rfl, ?_⟩
      refine no_of (by decide) ?_
      refine ⟨_, rfl, rfl, _, rfl, ?_⟩
      refine no_of (by decide) ?_
      refine ⟨_, rfl, rfl, _, rfl, ?_⟩
      refine no_of (by decide) ?_
      refine ⟨_, rfl, rfl, _, rfl, ?_⟩
      refine no_of (by decide) ?_
      refine ⟨_, rfl, rfl, _, rfl, ?_⟩
      refine no_of (by decide) ?_
      refine ⟨_, rfl, rfl, _, rfl, ?_⟩
      refine yes_of (by decide) ?_
      exact ⟨_, rfl, rfl, fun d hd => k d hd⟩
    · refine ⟨_, rfl, rfl, _, rfl, ?_⟩
      refine no_of (by decide) ?_
      refine ⟨_, rfl, rfl, _, rfl, ?_⟩
      refine no_of (by decide) ?_
      refine ⟨_, rfl, rfl, _, rfl, ?_⟩
      refine no_of (by decide) ?_
      refine ⟨_, rfl, rfl, _, rfl, ?_⟩
      refine no_of (by decide) ?_
      refine ⟨_, rfl, rfl, _, rfl, ?_⟩
      refine no_of (by decide) ?_
      refine ⟨_, rfl, rfl, _, rfl, ?_⟩
      refine no_of (by decide) ?_
      refine ⟨_, rfl, rfl, _, rfl, ?_⟩
      refine no_of (by decide) ?_
      refine ⟨_, rfl, rfl, _, rfl, ?_⟩
      refine no_of (by decide) ?_
      exact ⟨_, rfl, rfl, fun d hd => k d hd⟩
end
end T1

/-! X10: _law_raised -/
namespace T1
open PySem L2 PySem.VX
/-- what the written part says of the families, at aR, aU, aK -/
structure Fam (K : PySem.W.Frag) (mg : Str → Option Value) (cs : Nat → Addr) (aR aU aK : Addr) : Prop where
  gR : mg "Refused" = some (.ref aR)
  gU : mg "Unreckoned" = some (.ref aU)
  gK : mg "Unknown" = some (.ref aK)
  eR : ∀ i, i < 27 → PySem.W.exmOne K (.ref (cs i)) (.ref aR) = some (decide (i < 16))
  eU : ∀ i, i < 27 → PySem.W.exmOne K (.ref (cs i)) (.ref aU) = some (decide (16 ≤ i ∧ i < 21))
  eK : ∀ i, i < 27 → PySem.W.exmOne K (.ref (cs i)) (.ref aK) = some (decide (21 ≤ i))
def spRaised (cs : Nat → Addr) : Sp := fun vs H Q _ => ∃ (i : Nat) (x y : V), vs = [.int i, x, y] ∧ i < 27 ∧ ∀ a d H', Same H H' → H' a = some (exV a (cs i) d) → H' d = some (.xd (fsOf i x y)) → Q (.ref a) H'
section
variable {P : Program} {w : World} {K : PySem.W.Frag} {mg : Str → Option Value} {base : Heap} {cs : Nat → Addr} {aR aU aK : Addr}
theorem scRaised : FnScope ["_law_way", "_law_this", "_law_that", "_law_caught", "_law_e"] ["_law_way", "_law_this", "_law_that"] (defScope sRaised) := ⟨rfl, rfl, rfl, by decide +kernel, rfl, by decide +kernel, by decide +kernel⟩
theorem fs_two {i : Nat} (h : 9 ≤ i) (h2 : i < 27) (x y z : V) : fsOf i x y = fsOf i x z := by
  obtain rfl | rfl | rfl | rfl | rfl | rfl | rfl | rfl | rfl | rfl | rfl | rfl | rfl | rfl | rfl | rfl | rfl | rfl : i = 9 ∨ i = 10 ∨ i = 11 ∨ i = 12 ∨ i = 13 ∨ i = 14 ∨ i = 15 ∨ i = 16 ∨ i = 17 ∨ i = 18 ∨ i = 19 ∨ i = 20 ∨ i = 21 ∨ i = 22 ∨ i = 23 ∨ i = 24 ∨ i = 25 ∨ i = 26 := by omega
  all_goals rfl
theorem ok_raised (O : Own P w K mg cs) (T : Fam K mg cs aR aU aK) {f f1 f2 f3 : Addr} {fd fd1 fd2 fd3 : FuncData} (F : Fun K "_law_raised" "_law_raised" sRaised f fd) (F1 : Fun K "_law_raise_one" "_law_raise_one" sOne f1 fd1) (F2 : Fun K "_law_raise_two" "_law_raise_two" sTwo f2 fd2) (F3 : Fun K "_law_raise_three" "_law_raise_three" sThree f3 fd3)
    (g1 : mg "_law_raise_one" = some (.ref f1)) (g2 : mg "_law_raise_two" = some (.ref f2)) (g3 : mg "_law_raise_three" = some (.ref f3)) :
    FnOk P w K mg base CX0 5 f fd ["_law_way", "_law_this", "_law_that"] (spRaised cs) := by
  have G1 : FnOk P w K mg base (L2.CX P w) 3 f1 fd1 ["_law_way", "_law_this", "_law_that"] (spOne cs) := ok_one O F1
  have G2 : FnOk P w K mg base (L2.CX P w) 3 f2 fd2 ["_law_way", "_law_this"] (spTwo cs) := ok_two O F2
  have G3 : FnOk P w K mg base (L2.CX P w) 3 f3 fd3 ["_law_way", "_law_this"] (spThree cs) := ok_three O F3
  have b1 := F1.binds (ps := ["_law_way", "_law_this", "_law_that"]) fun _ _ _ _ _ _ us hl => match us, hl with | [_, _, _], _ => rfl
  have b2 := F2.binds (ps := ["_law_way", "_law_this"]) fun _ _ _ _ _ _ us hl => match us, hl with | [_, _], _ => rfl
  have b3 := F3.binds (ps := ["_law_way", "_law_this"]) fun _ _ _ _ _ _ us hl => match us, hl with | [_, _], _ => rfl
  refine F.ok scRaised (fun vs H Q E h => ?_) (fun cdv A outer s H vs Q E hr h => ?_)
  · obtain ⟨i, x, y, rfl, _⟩ := h
    rfl
  · obtain ⟨i, x, y, rfl, hi, k⟩ := h
    have hr1 : Room 3 _ := hr.mono (by decide)
    refine ⟨_, pss_cons (ps_set (i := 3) scRaised.nd rfl (Or.inl rfl) pe_non)
      (pss_cons (ps_try_manyV (i := 4) (Wout := fun _ _ _ _ => False) rfl rfl rfl scRaised.nd rfl rfl takes0
          (fun W pn xe tk _ => pss_one (ps_if (pt_cmpR op_lt (pv 0) pe_int (nomark _)) (pss_one (ps_expr (pe_callS G1 hr1 rfl g1 F1.kp b1 (fun σ => passAt tk σ) (by exact (pa_cons (pv 0) (pa_cons (pv 1) (pa_cons (pv 2) pa_nil)))))))
            (pss_one (ps_if (pt_cmpR op_lt (pv 0) pe_int (nomark _)) (pss_one (ps_expr (pe_callS G2 hr1 rfl g2 F2.kp b2 (fun σ => passAt tk σ) (by exact (pa_cons (pv 0) (pa_cons (pv 1) pa_nil))))))
              (pss_one (ps_expr (pe_callS G3 hr1 rfl g3 F3.kp b3 (fun σ => passAt tk σ) (by exact (pa_cons (pv 0) (pa_cons (pv 1) pa_nil))))))))))
          (.cons ⟨rfl, by decide, .inl T.gR⟩ (fun a oe cls d pn _ _ => pss_one (ps_set (i := 3) scRaised.nd rfl (Or.inl rfl) (pv 4)))
            (.cons ⟨rfl, by decide, .inl T.gU⟩ (fun a oe cls d pn _ _ => pss_one (ps_set (i := 3) scRaised.nd rfl (Or.inl rfl) (pv 4)))
              (.cons ⟨rfl, by decide, .inl T.gK⟩ (fun a oe cls d pn _ _ => pss_one (ps_set (i := 3) scRaised.nd rfl (Or.inl rfl) (pv 4))) .nil))))
        (pss_one (ps_ret (pv 3)))), ?_⟩
    have fin : ∀ (d : Addr), H d = none → ∀ a, (upd H d (.xd (fsOf i x y))) a = none → Q (.ref a) (upd (upd H d (.xd (fsOf i x y))) a (exV a (cs i) d)) := fun d hd a ha => by
      have nad : d ≠ a := fun z => by
        rw [← z, upd_same] at ha
        cases ha
      refine k a d _ (fun b o e => ?_) upd_same (by rw [upd_ne nad, upd_same])
      have e2 : (upd H d (.xd (fsOf i x y))) b = some o := by rw [upd_ne (ne_of_none e hd)]; exact e
      rw [upd_ne (ne_of_none e2 ha)]
      exact e2
    have land : ∀ (d : Addr), H d = none → ∀ (j : Nat), j = i → True := fun _ _ _ _ => trivial
    refine ⟨_, rfl, _, _, rfl, rfl, _, rfl, ?_⟩
    by_cases c1 : i < 9
    · refine yes_of (decide_eq_true (by omega)) ?_
      refine ⟨_, rfl, _, rfl, _, rfl, i, x, y, rfl, c1, fun d hd => ?_⟩
      refine ⟨_, T.eR i hi, fun _ => ⟨cs i, d, rfl, rfl, fun a ha => ?_⟩, fun q => absurd q (by rw [decide_eq_true (show i < 16 by omega)]; exact Bool.noConfusion)⟩
      exact ⟨_, rfl, _, rfl, fin d hd a ha⟩
    · refine no_of (decide_eq_false (by omega)) ?_
      refine ⟨_, rfl, _, _, rfl, rfl, _, rfl, ?_⟩
      by_cases c2 : i < 18
      · refine yes_of (decide_eq_true (by omega)) ?_
        refine ⟨_, rfl, _, rfl, i, x, y, rfl, by omega, c2, fun d hd => ?_⟩
        refine ⟨_, T.eR i hi, fun _ => ⟨cs i, d, rfl, rfl, fun a ha => ⟨_, rfl, _, rfl, fin d hd a ha⟩⟩, fun q => ?_⟩
        refine ⟨_, T.eU i hi, fun _ => ⟨cs i, d, rfl, rfl, fun a ha => ⟨_, rfl, _, rfl, fin d hd a ha⟩⟩, fun q2 => ?_⟩
        have := of_decide_eq_false q
        have := of_decide_eq_false q2
        omega
      · refine no_of (decide_eq_false (by omega)) ?_
        refine ⟨_, rfl, _, rfl, i, x, y, rfl, by omega, by omega, fun d hd => ?_⟩
        refine ⟨_, T.eR i hi, fun _ => ⟨cs i, d, rfl, rfl, fun a ha => ⟨_, rfl, _, rfl, fin d hd a ha⟩⟩, fun q => ?_⟩
        refine ⟨_, T.eU i hi, fun _ => ⟨cs i, d, rfl, rfl, fun a ha => ⟨_, rfl, _, rfl, fin d hd a ha⟩⟩, fun q2 => ?_⟩
        refine ⟨_, T.eK i hi, fun _ => ⟨cs i, d, rfl, rfl, fun a ha => ⟨_, rfl, _, rfl, fin d hd a ha⟩⟩, fun q3 => ?_⟩
        have := of_decide_eq_false q3
        have := of_decide_eq_false q2
        have := of_decide_eq_false q
        omega
end
end T1

/-! X11: _law_kinds, _law_families -/
namespace T1
open PySem L2 PySem.VX Evl
section
variable {K : PySem.W.Frag} {σ : L2.St} {H : Hp} {te ta tb : TE}
theorem ev_isV {a C d : Addr} {fs : List (Str × V)} {c : V} {cv : Value} {b : Bool} (h : Ev te σ H (.ref a)) (ea : H a = some (exV a C d)) (ed : H d = some (.xd fs)) (T : ExcC K C) (hc : ∀ u, RelV c u → u = cv) (e : PySem.W.kitOne K (.ref C) cv = some b) :
    Ev (tCB (rIsV K) (tCons te (tCons (tC c) tNil))) σ H (.bl b) :=
  ev_cb (ea_cons h (ea_cons ev_c ea_nil)) fun H1 x _ q => ⟨a, C, d, fs, c, cv, b, rfl, x _ _ ea, x _ _ ed, T, hc, e, q H1 (Ex.refl H1)⟩
theorem el_cat {l : Addr} {xs ys : List V} (ha : Ev ta σ H (.ref l)) (hl : H l = some (.lst xs)) (hb : EvL tb σ H ys) (hz : xs.length + ys.length ≤ 100000) : EvL (tOp rCat ta tb) σ H (xs ++ ys) := fun H1 e _ q =>
  ha H1 e _ fun H2 e2 => hb H2 (e.trans e2) _ fun p H3 _ e3 hp => ⟨l, p, xs, ys, rfl, rfl, e3 _ _ (e2 _ _ (e _ _ hl)), hp, sz_of hz, fun r hr => q r _ (fresh_back (e2.trans e3) hr) ((e2.trans e3).trans (Ex.new hr)) upd_same⟩
end
/-- isinstance, of the text's exceptions by the text's classes -/
structure Kin (K : PySem.W.Frag) (cs : Nat → Addr) : Prop where
  ex : ∀ i, i < 27 → ExcC K (cs i)
  own : ∀ i j, i < 27 → j < 27 → PySem.W.kitOne K (.ref (cs i)) (.ref (cs j)) = some (decide (i = j))
def spKinds (cs : Nat → Addr) : Sp := fun vs H Q _ => ∃ (i : Nat) (a d : Addr) (fs : List (Str × V)), vs = [.ref a] ∧ i < 27 ∧ H a = some (exV a (cs i) d) ∧ H d = some (.xd fs) ∧ ∀ p H', H p = none → Same H H' → H' p = some (.lst [.int i]) → Q (.ref p) H'
section
variable {P : Program} {w : World} {K : PySem.W.Frag} {mg : Str → Option Value} {base : Heap} {cs : Nat → Addr}
theorem scKinds : FnScope ["_law_e", "_law_found", "_law_k", "_law_is_so"] ["_law_e"] (defScope sKinds) := ⟨rfl, rfl, rfl, by decide +kernel, rfl, by decide +kernel, by decide +kernel⟩
theorem ok_kinds (O : Own P w K mg cs) (T : Kin K cs) (zI : mg "isinstance" = none) (zE : mg "enumerate" = none) {f : Addr} {fd : FuncData} (F : Fun K "_law_kinds" "_law_kinds" sKinds f fd) : FnOk P w K mg base CX0 1 f fd ["_law_e"] (spKinds cs) := by
  refine F.ok scKinds (fun vs H Q E h => ?_) (fun cdv A outer s H vs Q E hr h => ?_)
  · obtain ⟨i, a, d, fs, rfl, _⟩ := h
    rfl
  · obtain ⟨i, a, d, fs, rfl, hi, ea, ed, k⟩ := h
    refine ⟨_, (pss_cons (ps_set (i := 1) scKinds.nd rfl (Or.inl rfl) (pe_lst (pa_cons (pe_callB call_isV (by rfl) zI PyProof.Rows.boot_isinstance (pa_cons (pv 0) (pa_cons (pe_glob (v := .ref (cs 0)) (by rfl) O.o0.g rfl) pa_nil))) (pa_cons (pe_callB call_isV (by rfl) zI PyProof.Rows.boot_isinstance (pa_cons (pv 0) (pa_cons (pe_glob (v := .ref (cs 1)) (by rfl) O.o1.g rfl) pa_nil))) (pa_cons (pe_callB call_isV (by rfl) zI PyProof.Rows.boot_isinstance (pa_cons (pv 0) (pa_cons (pe_glob (v := .ref (cs 2)) (by rfl) O.o2.g rfl) pa_nil))) (pa_cons (pe_callB call_isV (by rfl) zI PyProof.Rows.boot_isinstance (pa_cons (pv 0) (pa_cons (pe_glob (v := .ref (cs 3)) (by rfl) O.o3.g rfl) pa_nil))) pa_nil))))))
      (pss_cons (ps_set (i := 1) scKinds.nd rfl (Or.inl rfl) (pe_op op_cat (pv 1) (pe_lst (pa_cons (pe_callB call_isV (by rfl) zI PyProof.Rows.boot_isinstance (pa_cons (pv 0) (pa_cons (pe_glob (v := .ref (cs 4)) (by rfl) O.o4.g rfl) pa_nil))) (pa_cons (pe_callB call_isV (by rfl) zI PyProof.Rows.boot_isinstance (pa_cons (pv 0) (pa_cons (pe_glob (v := .ref (cs 5)) (by rfl) O.o5.g rfl) pa_nil))) (pa_cons (pe_callB call_isV (by rfl) zI PyProof.Rows.boot_isinstance (pa_cons (pv 0) (pa_cons (pe_glob (v := .ref (cs 6)) (by rfl) O.o6.g rfl) pa_nil))) (pa_cons (pe_callB call_isV (by rfl) zI PyProof.Rows.boot_isinstance (pa_cons (pv 0) (pa_cons (pe_glob (v := .ref (cs 7)) (by rfl) O.o7.g rfl) pa_nil))) pa_nil)))))))
      (pss_cons (ps_set (i := 1) scKinds.nd rfl (Or.inl rfl) (pe_op op_cat (pv 1) (pe_lst (pa_cons (pe_callB call_isV (by rfl) zI PyProof.Rows.boot_isinstance (pa_cons (pv 0) (pa_cons (pe_glob (v := .ref (cs 8)) (by rfl) O.o8.g rfl) pa_nil))) (pa_cons (pe_callB call_isV (by rfl) zI PyProof.Rows.boot_isinstance (pa_cons (pv 0) (pa_cons (pe_glob (v := .ref (cs 9)) (by rfl) O.o9.g rfl) pa_nil))) (pa_cons (pe_callB call_isV (by rfl) zI PyProof.Rows.boot_isinstance (pa_cons (pv 0) (pa_cons (pe_glob (v := .ref (cs 10)) (by rfl) O.o10.g rfl) pa_nil))) pa_nil))))))
      (pss_cons (ps_set (i := 1) scKinds.nd rfl (Or.inl rfl) (pe_op op_cat (pv 1) (pe_lst (pa_cons (pe_callB call_isV (by rfl) zI PyProof.Rows.boot_isinstance (pa_cons (pv 0) (pa_cons (pe_glob (v := .ref (cs 11)) (by rfl) O.o11.g rfl) pa_nil))) (pa_cons (pe_callB call_isV (by rfl) zI PyProof.Rows.boot_isinstance (pa_cons (pv 0) (pa_cons (pe_glob (v := .ref (cs 12)) (by rfl) O.o12.g rfl) pa_nil))) (pa_cons (pe_callB call_isV (by rfl) zI PyProof.Rows.boot_isinstance (pa_cons (pv 0) (pa_cons (pe_glob (v := .ref (cs 13)) (by rfl) O.o13.g rfl) pa_nil))) pa_nil))))))
      (pss_cons (ps_set (i := 1) scKinds.nd rfl (Or.inl rfl) (pe_op op_cat (pv 1) (pe_lst (pa_cons (pe_callB call_isV (by rfl) zI PyProof.Rows.boot_isinstance (pa_cons (pv 0) (pa_cons (pe_glob (v := .ref (cs 14)) (by rfl) O.o14.g rfl) pa_nil))) (pa_cons (pe_callB call_isV (by rfl) zI PyProof.Rows.boot_isinstance (pa_cons (pv 0) (pa_cons (pe_glob (v := .ref (cs 15)) (by rfl) O.o15.g rfl) pa_nil))) (pa_cons (pe_callB call_isV (by rfl) zI PyProof.Rows.boot_isinstance (pa_cons (pv 0) (pa_cons (pe_glob (v := .ref (cs 16)) (by rfl) O.o16.g rfl) pa_nil))) (pa_cons (pe_callB call_isV (by rfl) zI PyProof.Rows.boot_isinstance (pa_cons (pv 0) (pa_cons (pe_glob (v := .ref (cs 17)) (by rfl) O.o17.g rfl) pa_nil))) pa_nil)))))))
      (pss_cons (ps_set (i := 1) scKinds.nd rfl (Or.inl rfl) (pe_op op_cat (pv 1) (pe_lst (pa_cons (pe_callB call_isV (by rfl) zI PyProof.Rows.boot_isinstance (pa_cons (pv 0) (pa_cons (pe_glob (v := .ref (cs 18)) (by rfl) O.o18.g rfl) pa_nil))) (pa_cons (pe_callB call_isV (by rfl) zI PyProof.Rows.boot_isinstance (pa_cons (pv 0) (pa_cons (pe_glob (v := .ref (cs 19)) (by rfl) O.o19.g rfl) pa_nil))) (pa_cons (pe_callB call_isV (by rfl) zI PyProof.Rows.boot_isinstance (pa_cons (pv 0) (pa_cons (pe_glob (v := .ref (cs 20)) (by rfl) O.o20.g rfl) pa_nil))) (pa_cons (pe_callB call_isV (by rfl) zI PyProof.Rows.boot_isinstance (pa_cons (pv 0) (pa_cons (pe_glob (v := .ref (cs 21)) (by rfl) O.o21.g rfl) pa_nil))) pa_nil)))))))
      (pss_cons (ps_set (i := 1) scKinds.nd rfl (Or.inl rfl) (pe_op op_cat (pv 1) (pe_lst (pa_cons (pe_callB call_isV (by rfl) zI PyProof.Rows.boot_isinstance (pa_cons (pv 0) (pa_cons (pe_glob (v := .ref (cs 22)) (by rfl) O.o22.g rfl) pa_nil))) (pa_cons (pe_callB call_isV (by rfl) zI PyProof.Rows.boot_isinstance (pa_cons (pv 0) (pa_cons (pe_glob (v := .ref (cs 23)) (by rfl) O.o23.g rfl) pa_nil))) (pa_cons (pe_callB call_isV (by rfl) zI PyProof.Rows.boot_isinstance (pa_cons (pv 0) (pa_cons (pe_glob (v := .ref (cs 24)) (by rfl) O.o24.g rfl) pa_nil))) (pa_cons (pe_callB call_isV (by rfl) zI PyProof.Rows.boot_isinstance (pa_cons (pv 0) (pa_cons (pe_glob (v := .ref (cs 25)) (by rfl) O.o25.g rfl) pa_nil))) pa_nil)))))))
      (pss_one (ps_ret (pe_lc (own := [("_law_k", 2), ("_law_is_so", 3)]) (tt := tB (tVar 3)) (g := gTup K 2 (gCons (gName 2) (gCons (gName 3) gNil))) rfl scKinds.nd (pi_enum (by rfl) zE (pa_cons (pe_op op_cat (pv 1) (pe_lst (pa_cons (pe_callB call_isV (by rfl) zI PyProof.Rows.boot_isinstance (pa_cons (pv 0) (pa_cons (pe_glob (v := .ref (cs 26)) (by rfl) O.o26.g rfl) pa_nil))) pa_nil))) pa_nil))
        (blkOk_by (N := ["_law_e", "_law_found", "_law_k", "_law_is_so"]) (sc := defScope sKinds) (by decide +kernel))
        (fun _ _ _ _ _ => pg_tup rfl (pgs_cons (pg_name (i := 2) scKinds.nd rfl (Or.inl rfl)) (pgs_cons (pg_name (i := 3) scKinds.nd rfl (Or.inl rfl)) pgs_nil)))
        (fun _ _ _ _ _ => pts_one (pt_val (pv 3))) (fun _ _ _ _ _ => pv 2))))))))))), ?_⟩
    have ev : ∀ (σ : L2.St) (H1 : Hp) (j : Nat), σ[0]? = some (some (.ref a)) → Ex H H1 → j < 27 → Ev (tCB (rIsV K) (tCons (tVar 0) (tCons (tC (.ref (cs j))) tNil))) σ H1 (.bl (decide (i = j))) := fun σ H1 j h0 e hj =>
      ev_isV (ev_var h0) (e _ _ ea) (e _ _ ed) (T.ex i hi) (fun _ h => h) (T.own i j hi hj)
    refine q_asgL (el_lst (ea_cons (ev _ _ 0 rfl (Ex.refl H) (by decide)) (ea_cons (ev _ _ 1 rfl (Ex.refl H) (by decide)) (ea_cons (ev _ _ 2 rfl (Ex.refl H) (by decide)) (ea_cons (ev _ _ 3 rfl (Ex.refl H) (by decide)) ea_nil)))) (by simp)) fun p1 H1 _ e1 h1 => ?_
    refine q_asgL (el_cat (ev_var rfl) h1 (el_lst (ea_cons (ev _ _ 4 rfl e1 (by decide)) (ea_cons (ev _ _ 5 rfl e1 (by decide)) (ea_cons (ev _ _ 6 rfl e1 (by decide)) (ea_cons (ev _ _ 7 rfl e1 (by decide)) ea_nil)))) (by simp)) (by simp)) fun p2 H2 _ f2 h2 => ?_
    have e2 : Ex H H2 := e1.trans f2
    refine q_asgL (el_cat (ev_var rfl) h2 (el_lst (ea_cons (ev _ _ 8 rfl e2 (by decide)) (ea_cons (ev _ _ 9 rfl e2 (by decide)) (ea_cons (ev _ _ 10 rfl e2 (by decide)) ea_nil))) (by simp)) (by simp)) fun p3 H3 _ f3 h3 => ?_
    have e3 : Ex H H3 := e2.trans f3
    refine q_asgL (el_cat (ev_var rfl) h3 (el_lst (ea_cons (ev _ _ 11 rfl e3 (by decide)) (ea_cons (ev _ _ 12 rfl e3 (by decide)) (ea_cons (ev _ _ 13 rfl e3 (by decide)) ea_nil))) (by simp)) (by simp)) fun p4 H4 _ f4 h4 => ?_
    have e4 : Ex H H4 := e3.trans f4
    refine q_asgL (el_cat (ev_var rfl) h4 (el_lst (ea_cons (ev _ _ 14 rfl e4 (by decide)) (ea_cons (ev _ _ 15 rfl e4 (by decide)) (ea_cons (ev _ _ 16 rfl e4 (by decide)) (ea_cons (ev _ _ 17 rfl e4 (by decide)) ea_nil)))) (by simp)) (by simp)) fun p5 H5 _ f5 h5 => ?_
    have e5 : Ex H H5 := e4.trans f5
    refine q_asgL (el_cat (ev_var rfl) h5 (el_lst (ea_cons (ev _ _ 18 rfl e5 (by decide)) (ea_cons (ev _ _ 19 rfl e5 (by decide)) (ea_cons (ev _ _ 20 rfl e5 (by decide)) (ea_cons (ev _ _ 21 rfl e5 (by decide)) ea_nil)))) (by simp)) (by simp)) fun p6 H6 _ f6 h6 => ?_
    have e6 : Ex H H6 := e5.trans f6
    refine q_asgL (el_cat (ev_var rfl) h6 (el_lst (ea_cons (ev _ _ 22 rfl e6 (by decide)) (ea_cons (ev _ _ 23 rfl e6 (by decide)) (ea_cons (ev _ _ 24 rfl e6 (by decide)) (ea_cons (ev _ _ 25 rfl e6 (by decide)) ea_nil)))) (by simp)) (by simp)) fun p7 H7 _ f7 h7 => ?_
    have e7 : Ex H H7 := e6.trans f7
    show tRet _ _ _ _
    refine el_cat (ev_var rfl) h7 (el_lst (ea_cons (ev _ _ 26 rfl e7 (by decide)) ea_nil) (by simp)) (by simp) H7 (Ex.refl H7) _ fun p H9 _ f9 h9 => ⟨p, (List.range 27).map fun j => V.bl (decide (i = j)), rfl, sq_of h9, fun D hD => ?_⟩
    have e9 : Ex H H9 := e7.trans f9
    refine lc_it (walk_enum (K := K) (a := p) (xs := (List.range 27).map fun j => V.bl (decide (i = j)))) (fun n H' => Ex H9 H' ∧ H' D = some (.lst (if i < n then [.int i] else []))) ⟨Ex.new hD, ?_⟩ (fun n H' _ q => ex_l q.1 (sq_of h9)) ?_ ?_
    · rw [upd_same, if_neg (Nat.not_lt_zero i)]
    · rintro n x G G' hn ⟨g1, g2⟩ ⟨T2, y, z, rfl, hT, rfl, hy, hz⟩
      have hn' : n < 27 := by simpa using hn
      obtain rfl : V.int (n : Nat) = y := Option.some.inj hy
      have hz' : z = V.bl (decide (i = n)) := by
        have hz2 : ((List.range 27).map fun j => V.bl (decide (i = j)))[n]? = some z := hz
        rw [List.getElem?_map, List.getElem?_range hn'] at hz2
        exact (Option.some.inj hz2).symm
      subst hz'
      have nD : D ≠ T2 := ne_of_none g2 hT
      refine ⟨T2, _, rfl, .inl (.inl upd_same), rfl, _, _, rfl, _, _, rfl, rfl, rfl, _, rfl, _, rfl, ?_⟩
      have g3 : Ex H9 (upd G T2 (.tup [.int n, .bl (decide (i = n))])) := g1.trans (Ex.new hT)
      by_cases c : i = n
      · refine yes_of (decide_eq_true c) ?_
        refine ⟨_, rfl, [], ?_, (by show 0 < sizeLine; decide), ?_, ?_⟩
        · rw [upd_ne nD, g2, if_neg (by omega)]
        · exact g3.mut hD
        · rw [upd_same, if_pos (by omega), c]
          rfl
      · refine no_of (decide_eq_false c) ?_
        refine ⟨g3, ?_⟩
        rw [upd_ne nD, g2]
        by_cases c2 : i < n
        · rw [if_pos c2, if_pos (by omega)]
        · rw [if_neg c2, if_neg (by omega)]
    · rintro G ⟨g1, g2⟩
      have g2' : G D = some (.lst [.int i]) := by
        rw [g2, if_pos (by simpa using hi)]
      exact k D G (fresh_back e9 hD) (e9.trans g1) g2'
end
/-- isinstance by the families and by Python's own -/
structure KinF (K : PySem.W.Frag) (cs : Nat → Addr) (aR aU aK : Addr) : Prop where
  ex : ∀ i, i < 27 → ExcC K (cs i)
  kR : ∀ i, i < 27 → PySem.W.kitOne K (.ref (cs i)) (.ref aR) = some (decide (i < 16))
  kR2 : ∀ i, i < 27 → PySem.W.kitOne K (.ref (cs i)) (.type "ValueError") = some (decide (i < 16))
  kU : ∀ i, i < 27 → PySem.W.kitOne K (.ref (cs i)) (.ref aU) = some (decide (16 ≤ i ∧ i < 21))
  kU2 : ∀ i, i < 27 → PySem.W.kitOne K (.ref (cs i)) (.type "ArithmeticError") = some (decide (16 ≤ i ∧ i < 21))
  kK : ∀ i, i < 27 → PySem.W.kitOne K (.ref (cs i)) (.ref aK) = some (decide (21 ≤ i))
  kK2 : ∀ i, i < 27 → PySem.W.kitOne K (.ref (cs i)) (.type "LookupError") = some (decide (21 ≤ i))
  k7 : ∀ i, i < 27 → PySem.W.kitOne K (.ref (cs i)) (.type "KeyError") = some false
  k8 : ∀ i, i < 27 → PySem.W.kitOne K (.ref (cs i)) (.type "IndexError") = some false
  k9 : ∀ i, i < 27 → PySem.W.kitOne K (.ref (cs i)) (.type "ZeroDivisionError") = some false
def famL (i : Nat) : List V := [.bl (decide (i < 16)), .bl (decide (i < 16)), .bl (decide (16 ≤ i ∧ i < 21)), .bl (decide (16 ≤ i ∧ i < 21)), .bl (decide (21 ≤ i)), .bl (decide (21 ≤ i)), .bl false, .bl false, .bl false]
def spFams (cs : Nat → Addr) : Sp := fun vs H Q _ => ∃ (i : Nat) (a d : Addr) (fs : List (Str × V)), vs = [.ref a] ∧ i < 27 ∧ H a = some (exV a (cs i) d) ∧ H d = some (.xd fs) ∧ ∀ p H', H p = none → Same H H' → H' p = some (.lst (famL i)) → Q (.ref p) H'
section
variable {P : Program} {w : World} {K : PySem.W.Frag} {mg : Str → Option Value} {base : Heap} {cs : Nat → Addr} {aR aU aK : Addr}
theorem scFams : FnScope ["_law_e", "_law_found"] ["_law_e"] (defScope sFams) := ⟨rfl, rfl, rfl, by decide +kernel, rfl, by decide +kernel, by decide +kernel⟩
theorem ok_fams (Fm : Fam K mg cs aR aU aK) (T : KinF K cs aR aU aK) (zI : mg "isinstance" = none) (zs : mg "ValueError" = none ∧ mg "ArithmeticError" = none ∧ mg "LookupError" = none ∧ mg "KeyError" = none ∧ mg "IndexError" = none ∧ mg "ZeroDivisionError" = none) {f : Addr} {fd : FuncData} (F : Fun K "_law_families" "_law_families" sFams f fd) : FnOk P w K mg base CX0 1 f fd ["_law_e"] (spFams cs) := by
  refine F.ok scFams (fun vs H Q E h => ?_) (fun cdv A outer s H vs Q E hr h => ?_)
  · obtain ⟨i, a, d, fs, rfl, _⟩ := h
    rfl
  · obtain ⟨i, a, d, fs, rfl, hi, ea, ed, k⟩ := h
    refine ⟨_, (pss_cons (ps_set (i := 1) scFams.nd rfl (Or.inl rfl) (pe_lst (pa_cons (pe_callB call_isV (by rfl) zI PyProof.Rows.boot_isinstance (pa_cons (pv 0) (pa_cons (pe_glob (v := .ref aR) (by rfl) Fm.gR rfl) pa_nil))) (pa_cons (pe_callB call_isV (by rfl) zI PyProof.Rows.boot_isinstance (pa_cons (pv 0) (pa_cons (pe_bltn (v := .ty "ValueError") (by rfl) zs.1 (by decide +kernel) rfl) pa_nil))) (pa_cons (pe_callB call_isV (by rfl) zI PyProof.Rows.boot_isinstance (pa_cons (pv 0) (pa_cons (pe_glob (v := .ref aU) (by rfl) Fm.gU rfl) pa_nil))) pa_nil)))))
      (pss_cons (ps_set (i := 1) scFams.nd rfl (Or.inl rfl) (pe_op op_cat (pv 1) (pe_lst (pa_cons (pe_callB call_isV (by rfl) zI PyProof.Rows.boot_isinstance (pa_cons (pv 0) (pa_cons (pe_bltn (v := .ty "ArithmeticError") (by rfl) zs.2.1 (by decide +kernel) rfl) pa_nil))) (pa_cons (pe_callB call_isV (by rfl) zI PyProof.Rows.boot_isinstance (pa_cons (pv 0) (pa_cons (pe_glob (v := .ref aK) (by rfl) Fm.gK rfl) pa_nil))) (pa_cons (pe_callB call_isV (by rfl) zI PyProof.Rows.boot_isinstance (pa_cons (pv 0) (pa_cons (pe_bltn (v := .ty "LookupError") (by rfl) zs.2.2.1 (by decide +kernel) rfl) pa_nil))) pa_nil))))))
      (pss_one (ps_ret (pe_op op_cat (pv 1) (pe_lst (pa_cons (pe_callB call_isV (by rfl) zI PyProof.Rows.boot_isinstance (pa_cons (pv 0) (pa_cons (pe_bltn (v := .ty "KeyError") (by rfl) zs.2.2.2.1 (by decide +kernel) rfl) pa_nil))) (pa_cons (pe_callB call_isV (by rfl) zI PyProof.Rows.boot_isinstance (pa_cons (pv 0) (pa_cons (pe_bltn (v := .ty "IndexError") (by rfl) zs.2.2.2.2.1 (by decide +kernel) rfl) pa_nil))) (pa_cons (pe_callB call_isV (by rfl) zI PyProof.Rows.boot_isinstance (pa_cons (pv 0) (pa_cons (pe_bltn (v := .ty "ZeroDivisionError") (by rfl) zs.2.2.2.2.2 (by decide +kernel) rfl) pa_nil))) pa_nil))))))))), ?_⟩
    refine q_asgL (el_lst (ea_cons (ev_isV (ev_var rfl) ((Ex.refl H) _ _ ea) ((Ex.refl H) _ _ ed) (T.ex i hi) (fun _ h => h) (T.kR i hi)) (ea_cons (ev_isV (ev_var rfl) ((Ex.refl H) _ _ ea) ((Ex.refl H) _ _ ed) (T.ex i hi) (fun _ h => h) (T.kR2 i hi)) (ea_cons (ev_isV (ev_var rfl) ((Ex.refl H) _ _ ea) ((Ex.refl H) _ _ ed) (T.ex i hi) (fun _ h => h) (T.kU i hi)) ea_nil))) (by simp)) fun p1 H1 _ e1 h1 => ?_
    refine q_asgL (el_cat (ev_var rfl) h1 (el_lst (ea_cons (ev_isV (ev_var rfl) (e1 _ _ ea) (e1 _ _ ed) (T.ex i hi) (fun _ h => h) (T.kU2 i hi)) (ea_cons (ev_isV (ev_var rfl) (e1 _ _ ea) (e1 _ _ ed) (T.ex i hi) (fun _ h => h) (T.kK i hi)) (ea_cons (ev_isV (ev_var rfl) (e1 _ _ ea) (e1 _ _ ed) (T.ex i hi) (fun _ h => h) (T.kK2 i hi)) ea_nil))) (by simp)) (by simp)) fun p2 H2 _ f2 h2 => ?_
    have e2 : Ex H H2 := e1.trans f2
    refine s_retL (el_cat (ev_var rfl) h2 (el_lst (ea_cons (ev_isV (ev_var rfl) (e2 _ _ ea) (e2 _ _ ed) (T.ex i hi) (fun _ h => h) (T.k7 i hi)) (ea_cons (ev_isV (ev_var rfl) (e2 _ _ ea) (e2 _ _ ed) (T.ex i hi) (fun _ h => h) (T.k8 i hi)) (ea_cons (ev_isV (ev_var rfl) (e2 _ _ ea) (e2 _ _ ed) (T.ex i hi) (fun _ h => h) (T.k9 i hi)) ea_nil))) (by simp)) (by simp)) fun p3 H3 n3 f3 h3 => ?_
    exact k p3 H3 (fresh_back e2 n3) (e2.trans f3) h3
end
end T1

/-! X12: _law_fields -/
namespace T1
open PySem L2 PySem.VX Evl
section
variable {K : PySem.W.Frag} {σ : L2.St} {H : Hp} {te ta tb : TE} {t : TT}
theorem ev_fldV {a C d : Addr} {fs : List (Str × V)} {f : Str} {v : V} (h : Ev te σ H (.ref a)) (ea : H a = some (exV a C d)) (ed : H d = some (.xd fs)) (T : XfC K C) (no : PySem.W.findIn K (.ref C) f = some none) (l : fs.lookup f = some v) : Ev (tFldV K f te) σ H v := fun H1 e Q q =>
  h H1 e _ fun H2 e2 => ⟨a, C, d, fs, v, rfl, e2 _ _ (e _ _ ea), e2 _ _ (e _ _ ed), T, no, l, q H2 e2⟩
theorem el_if {b : Bool} {xs : List V} (h : EvT t σ H b) (h1 : b = true → EvL ta σ H xs) (h2 : b = false → EvL tb σ H xs) : EvL (tIf t ta tb) σ H xs := fun H1 e Q q => h H1 e _ fun H2 e2 => by
  cases b with
  | true =>
    show ta σ H2 Q
    exact h1 rfl H2 (e.trans e2) Q fun p H3 hp e3 h3 => q p H3 (fresh_back e2 hp) (e2.trans e3) h3
  | false =>
    show tb σ H2 Q
    exact h2 rfl H2 (e.trans e2) Q fun p H3 hp e3 h3 => q p H3 (fresh_back e2 hp) (e2.trans e3) h3
theorem own_xf {prog : Program} {w : World} {mg : Str → Option Value} {nm : Str} {C : Addr} {fn : List Str} (O : OwnX prog w K mg nm C fn) : XfC K C ∧ ∀ f ∈ fn, PySem.W.findIn K (.ref C) f = some none := by
  obtain ⟨bmB, B, newId, initId, fI, FB, T, _⟩ := O.some
  exact ⟨⟨T.ga, T.gg, T.exc, T.hd⟩, T.no⟩
/-- way == n -/
theorem et_eq {i n : Nat} {k : Nat} (h : σ[k]? = some (some (.int (i : Nat)))) : EvT (tTest (tOp rEq (tVar k) (tC (.int (n : Int))))) σ H (decide (i = n)) := by
  refine et_is (et_test (ev_op (ev_var h) ev_c (rv_eq rfl))) ?_
  by_cases c : i = n
  · subst c
    simp
  · rw [decide_eq_false c]
    refine decide_eq_false fun z => c ?_
    have z' := V.int.inj z
    omega
end
theorem why_of {i : Nat} (hi : i < 27) (h0 : ¬ i = 0) (h1 : ¬ i = 1) (h15 : ¬ i = 15) (h17 : ¬ i = 17) (h20 : ¬ i = 20) (h21 : ¬ i = 21) (h22 : ¬ i = 22) (h25 : ¬ i = 25) (h23 : ¬ i = 23) (h24 : ¬ i = 24) : fnW i = [("why" : Str)] := by
  obtain rfl | rfl | rfl | rfl | rfl | rfl | rfl | rfl | rfl | rfl | rfl | rfl | rfl | rfl | rfl | rfl | rfl : i = 2 ∨ i = 3 ∨ i = 4 ∨ i = 5 ∨ i = 6 ∨ i = 7 ∨ i = 8 ∨ i = 9 ∨ i = 10 ∨ i = 11 ∨ i = 12 ∨ i = 13 ∨ i = 14 ∨ i = 16 ∨ i = 18 ∨ i = 19 ∨ i = 26 := by omega
  all_goals rfl
def dueL (i : Nat) (x y : V) : List V := if i = 1 then [x, y] else [x]
def spFields (cs : Nat → Addr) : Sp := fun vs H Q _ => ∃ (i : Nat) (a d : Addr) (x y : V), vs = [.int i, .ref a] ∧ i < 27 ∧ H a = some (exV a (cs i) d) ∧ H d = some (.xd (fsOf i x y)) ∧ ∀ p H', H p = none → Same H H' → H' p = some (.lst (dueL i x y)) → Q (.ref p) H'
section
variable {P : Program} {w : World} {K : PySem.W.Frag} {mg : Str → Option Value} {base : Heap} {cs : Nat → Addr} {aR aU aK : Addr}
theorem scFields : FnScope ["_law_way", "_law_e"] ["_law_way", "_law_e"] (defScope sFields) := ⟨rfl, rfl, rfl, by decide +kernel, rfl, by decide +kernel, by decide +kernel⟩
theorem ok_fields (O : Own P w K mg cs) {f : Addr} {fd : FuncData} (F : Fun K "_law_fields" "_law_fields" sFields f fd) : FnOk P w K mg base CX0 1 f fd ["_law_way", "_law_e"] (spFields cs) := by
  refine F.ok scFields (fun vs H Q E h => ?_) (fun cdv A outer s H vs Q E hr h => ?_)
  · obtain ⟨i, a, d, x, y, rfl, _⟩ := h
    rfl
  · obtain ⟨i, a, d, x, y, rfl, hi, ea, ed, k⟩ := h
    refine ⟨_, (pss_cons (ps_if (pt_cmpR op_eq (pv 0) pe_int (nomark _)) (pss_one (ps_ret (pe_lst (pa_cons (pe_fldV (pv 1)) pa_nil)))) pss_nil)
      (pss_cons (ps_if (pt_cmpR op_eq (pv 0) pe_int (nomark _)) (pss_one (ps_ret (pe_lst (pa_cons (pe_fldV (pv 1)) (pa_cons (pe_fldV (pv 1)) pa_nil))))) pss_nil)
      (pss_cons (ps_if (pt_cmpR op_eq (pv 0) pe_int (nomark _)) (pss_one (ps_ret (pe_lst (pa_cons (pe_fldV (pv 1)) pa_nil)))) pss_nil)
      (pss_cons (ps_if (pt_cmpR op_eq (pv 0) pe_int (nomark _)) (pss_one (ps_ret (pe_lst (pa_cons (pe_fldV (pv 1)) pa_nil)))) pss_nil)
      (pss_cons (ps_if (pt_cmpR op_eq (pv 0) pe_int (nomark _)) (pss_one (ps_ret (pe_lst (pa_cons (pe_fldV (pv 1)) pa_nil)))) pss_nil)
      (pss_cons (ps_if (pt_cmpR op_in_seq (pv 0) (pe_tup (pa_cons pe_int (pa_cons pe_int (pa_cons pe_int pa_nil)))) rfl) (pss_one (ps_ret (pe_lst (pa_cons (pe_fldV (pv 1)) pa_nil)))) pss_nil)
      (pss_cons (ps_if (pt_cmpR op_eq (pv 0) pe_int (nomark _)) (pss_one (ps_ret (pe_lst (pa_cons (pe_fldV (pv 1)) pa_nil)))) pss_nil)
      (pss_one (ps_ret (pe_ifExp (pt_cmpR op_eq (pv 0) pe_int (nomark _)) (pe_lst (pa_cons (pe_fldV (pv 1)) pa_nil)) (pe_lst (pa_cons (pe_fldV (pv 1)) pa_nil)))))))))))), ?_⟩
    refine q_when (et_eq (n := 0) rfl) ?_ ?_
    · intro b1 G1 g1
      obtain rfl := of_decide_eq_true b1
      have m0 : Ex H G1 := (Ex.refl H).trans g1
      exact s_retL (el_lst (ea_cons (ev_fldV (ev_var rfl) (m0 _ _ ea) (m0 _ _ ed) (own_xf O.o0).1 ((own_xf O.o0).2 _ (by simp)) rfl) ea_nil) (by simp)) fun p G n0 g hp => k p G (fresh_back m0 n0) (m0.trans g) hp
    intro b0 H0 f0
    have c0 := of_decide_eq_false b0
    have e0 : Ex H H0 := (Ex.refl H).trans f0
    refine q_when (et_eq (n := 1) rfl) ?_ ?_
    · intro b1 G1 g1
      obtain rfl := of_decide_eq_true b1
      have m1 : Ex H G1 := e0.trans g1
      exact s_retL (el_lst (ea_cons (ev_fldV (ev_var rfl) (m1 _ _ ea) (m1 _ _ ed) (own_xf O.o1).1 ((own_xf O.o1).2 _ (by simp)) rfl) (ea_cons (ev_fldV (ev_var rfl) (m1 _ _ ea) (m1 _ _ ed) (own_xf O.o1).1 ((own_xf O.o1).2 _ (by simp)) rfl) ea_nil)) (by simp)) fun p G n0 g hp => k p G (fresh_back m1 n0) (m1.trans g) hp
    intro b1 H1 f1
    have c1 := of_decide_eq_false b1
    have e1 : Ex H H1 := e0.trans f1
    refine q_when (et_eq (n := 15) rfl) ?_ ?_
    · intro b1 G1 g1
      obtain rfl := of_decide_eq_true b1
      have m15 : Ex H G1 := e1.trans g1
      exact s_retL (el_lst (ea_cons (ev_fldV (ev_var rfl) (m15 _ _ ea) (m15 _ _ ed) (own_xf O.o15).1 ((own_xf O.o15).2 _ (by simp)) rfl) ea_nil) (by simp)) fun p G n0 g hp => k p G (fresh_back m15 n0) (m15.trans g) hp
    intro b15 H15 f15
    have c15 := of_decide_eq_false b15
    have e15 : Ex H H15 := e1.trans f15
    refine q_when (et_eq (n := 17) rfl) ?_ ?_
    · intro b1 G1 g1
      obtain rfl := of_decide_eq_true b1
      have m17 : Ex H G1 := e15.trans g1
      exact s_retL (el_lst (ea_cons (ev_fldV (ev_var rfl) (m17 _ _ ea) (m17 _ _ ed) (own_xf O.o17).1 ((own_xf O.o17).2 _ (by simp)) rfl) ea_nil) (by simp)) fun p G n0 g hp => k p G (fresh_back m17 n0) (m17.trans g) hp
    intro b17 H17 f17
    have c17 := of_decide_eq_false b17
    have e17 : Ex H H17 := e15.trans f17
    refine q_when (et_eq (n := 20) rfl) ?_ ?_
    · intro b1 G1 g1
      obtain rfl := of_decide_eq_true b1
      have m20 : Ex H G1 := e17.trans g1
      exact s_retL (el_lst (ea_cons (ev_fldV (ev_var rfl) (m20 _ _ ea) (m20 _ _ ed) (own_xf O.o20).1 ((own_xf O.o20).2 _ (by simp)) rfl) ea_nil) (by simp)) fun p G n0 g hp => k p G (fresh_back m20 n0) (m20.trans g) hp
    intro b20 H20 f20
    have c20 := of_decide_eq_false b20
    have e20 : Ex H H20 := e17.trans f20
    refine q_when (et_test (ev_inU (ev_var rfl) (eu_tup (ea_cons ev_c (ea_cons ev_c (ea_cons ev_c ea_nil))) (by simp)) rfl rfl)) ?_ ?_
    · intro b1 G1 g1
      have mm : Ex H G1 := e20.trans g1
      have cc : i = 21 ∨ i = 22 ∨ i = 25 := by
        by_cases c1 : i = 21
        · exact .inl c1
        · by_cases c2 : i = 22
          · exact .inr (.inl c2)
          · by_cases c3 : i = 25
            · exact .inr (.inr c3)
            · exfalso
              have q1 : decide (V.int (i : Nat) = V.int 21) = false := decide_eq_false fun z => c1 (by have := V.int.inj z; omega)
              have q2 : decide (V.int (i : Nat) = V.int 22) = false := decide_eq_false fun z => c2 (by have := V.int.inj z; omega)
              have q3 : decide (V.int (i : Nat) = V.int 25) = false := decide_eq_false fun z => c3 (by have := V.int.inj z; omega)
              simp [inV, eqV, q1, q2, q3] at b1
              omega
      obtain rfl | rfl | rfl := cc
      · exact s_retL (el_lst (ea_cons (ev_fldV (ev_var rfl) (mm _ _ ea) (mm _ _ ed) (own_xf O.o21).1 ((own_xf O.o21).2 _ (by simp)) rfl) ea_nil) (by simp)) fun p G n0 g hp => k p G (fresh_back mm n0) (mm.trans g) hp
      · exact s_retL (el_lst (ea_cons (ev_fldV (ev_var rfl) (mm _ _ ea) (mm _ _ ed) (own_xf O.o22).1 ((own_xf O.o22).2 _ (by simp)) rfl) ea_nil) (by simp)) fun p G n0 g hp => k p G (fresh_back mm n0) (mm.trans g) hp
      · exact s_retL (el_lst (ea_cons (ev_fldV (ev_var rfl) (mm _ _ ea) (mm _ _ ed) (own_xf O.o25).1 ((own_xf O.o25).2 _ (by simp)) rfl) ea_nil) (by simp)) fun p G n0 g hp => k p G (fresh_back mm n0) (mm.trans g) hp
    intro bx Hx fx
    have ex : Ex H Hx := e20.trans fx
    have c21 : ¬ i = 21 := fun z => by subst z; exact absurd bx (by decide)
    have c22 : ¬ i = 22 := fun z => by subst z; exact absurd bx (by decide)
    have c25 : ¬ i = 25 := fun z => by subst z; exact absurd bx (by decide)
    refine q_when (et_eq (n := 23) rfl) ?_ ?_
    · intro b1 G1 g1
      obtain rfl := of_decide_eq_true b1
      have m23 : Ex H G1 := ex.trans g1
      exact s_retL (el_lst (ea_cons (ev_fldV (ev_var rfl) (m23 _ _ ea) (m23 _ _ ed) (own_xf O.o23).1 ((own_xf O.o23).2 _ (by simp)) rfl) ea_nil) (by simp)) fun p G n0 g hp => k p G (fresh_back m23 n0) (m23.trans g) hp
    intro b23 H23 f23
    have c23 := of_decide_eq_false b23
    have e23 : Ex H H23 := ex.trans f23
    refine s_retL (xs := dueL i x y) (el_if (et_eq (n := 24) rfl) (fun b24 => ?_) fun b24 => ?_) fun p G n0 g hp => k p G (fresh_back e23 n0) (e23.trans g) hp
    · obtain rfl := of_decide_eq_true b24
      exact el_lst (ea_cons (ev_fldV (ev_var rfl) (e23 _ _ ea) (e23 _ _ ed) (own_xf O.o24).1 ((own_xf O.o24).2 _ (List.mem_cons_self ..)) rfl) ea_nil) (by show 1 ≤ 100000; decide)
    · have c24 := of_decide_eq_false b24
      have wf := why_of hi c0 c1 c15 c17 c20 c21 c22 c25 c23 c24
      have xf := own_xf (O i hi)
      have lf : (fsOf i x y).lookup ("why" : Str) = some x := by
        unfold fsOf
        rw [wf]
        rfl
      have du : dueL i x y = [x] := if_neg c1
      rw [du]
      exact el_lst (ea_cons (ev_fldV (ev_var rfl) (e23 _ _ ea) (e23 _ _ ed) xf.1 (xf.2 _ (by rw [wf]; simp)) lf) ea_nil) (by simp)
end
end T1

/-! X13: _law_is_right -/
namespace T1
open PySem L2 PySem.VX Evl
section
variable {K : PySem.W.Frag} {σ : L2.St} {H : Hp} {te ta tb : TE}
theorem el_cat2 {xs ys : List V} (ha : EvL ta σ H xs) (hb : ∀ H1, Ex H H1 → EvL tb σ H1 ys) (hz : xs.length + ys.length ≤ 100000) : EvL (tOp rCat ta tb) σ H (xs ++ ys) := fun H1 e _ q =>
  ha H1 e _ fun l H2 _ e2 hl => hb H2 (e.trans e2) H2 (Ex.refl H2) _ fun p H3 _ e3 hp => ⟨l, p, xs, ys, rfl, rfl, e3 _ _ hl, hp, sz_of hz, fun r hr => q r _ (fresh_back (e2.trans e3) hr) ((e2.trans e3).trans (Ex.new hr)) upd_same⟩
theorem el_rep {xs : List V} {n : Nat} (ha : EvL ta σ H xs) (hn : n < 1000) (hz : xs.length * n ≤ 100000) : EvL (tOp rRep ta (tC (.int (n : Int)))) σ H (List.replicate n xs).flatten := fun H1 e _ q =>
  ha H1 e _ fun l H2 _ e2 hl => ⟨l, (n : Int), xs, rfl, rfl, hl, by omega, by omega, sz_of hz, fun r hr => q r _ (fresh_back e2 hr) (e2.trans (Ex.new hr)) upd_same⟩
end
/-! ### the family's number, the list that is due -/
def famN (i : Nat) : Int := if i < 16 then 0 else if i < 21 then 1 else 2
def dueV (i : Nat) : List V := given 6 (fun _ => true) (fun k => V.bl (decide (V.int (famN i) = V.int ((k : Int) / 2)))) ++ [V.bl false, V.bl false, V.bl false]
theorem dueV_eq {i : Nat} (hi : i < 27) : dueV i = famL i := by
  have key : ∀ z : Int, famN i = z → dueV i = [V.bl (decide (V.int z = V.int (((0 : Nat) : Int) / 2))), V.bl (decide (V.int z = V.int (((1 : Nat) : Int) / 2))), V.bl (decide (V.int z = V.int (((2 : Nat) : Int) / 2))), V.bl (decide (V.int z = V.int (((3 : Nat) : Int) / 2))), V.bl (decide (V.int z = V.int (((4 : Nat) : Int) / 2))), V.bl (decide (V.int z = V.int (((5 : Nat) : Int) / 2))), V.bl false, V.bl false, V.bl false] := fun z h => by
    subst h
    rfl
  by_cases c1 : i < 16
  · rw [key 0 (if_pos c1)]
    unfold famL
    rw [decide_eq_true c1, decide_eq_false (show ¬ (16 ≤ i ∧ i < 21) by omega), decide_eq_false (show ¬ 21 ≤ i by omega)]
    rfl
  · by_cases c2 : i < 21
    · rw [key 1 ((if_neg c1).trans (if_pos c2))]
      unfold famL
      rw [decide_eq_false c1, decide_eq_true (show 16 ≤ i ∧ i < 21 by omega), decide_eq_false (show ¬ 21 ≤ i by omega)]
      rfl
    · rw [key 2 ((if_neg c1).trans (if_neg c2))]
      unfold famL
      rw [decide_eq_false c1, decide_eq_false (show ¬ (16 ≤ i ∧ i < 21) by omega), decide_eq_true (show 21 ≤ i by omega)]
      rfl
def famD (i : Nat) : List PyData := [.bool (decide (i < 16)), .bool (decide (i < 16)), .bool (decide (16 ≤ i ∧ i < 21)), .bool (decide (16 ≤ i ∧ i < 21)), .bool (decide (21 ≤ i)), .bool (decide (21 ≤ i)), .bool false, .bool false, .bool false]
theorem fam_dp {K : PySem.W.Frag} {H : Hp} {p : Addr} {i : Nat} (h : H p = some (.lst (famL i))) : Dp K H (.ref p) (.list (famD i)) :=
  .lst (sq_of h) (.cons (.bl _) (.cons (.bl _) (.cons (.bl _) (.cons (.bl _) (.cons (.bl _) (.cons (.bl _) (.cons (.bl _) (.cons (.bl _) (.cons (.bl _) .nil)))))))))
theorem fam_eqv (i : Nat) : PyData.eqv (.list (famD i)) (.list (famD i)) = true ∧ SeqAt.shaped (.list (famD i)) = true := by
  unfold famD
  cases decide (i < 16) <;> cases decide (16 ≤ i ∧ i < 21) <;> cases decide (21 ≤ i) <;> exact ⟨by decide +kernel, by decide +kernel⟩
theorem one_eqv (z : Int) : PyData.eqv (.list [.int z]) (.list [.int z]) = true ∧ SeqAt.shaped (.list [.int z]) = true := by
  refine ⟨?_, by rfl⟩
  simp [PyData.eqv, PyData.eqvAll]
/-! ### what is shown -/
theorem lt1 (s : Str) : (listText [s]).length = s.length + 2 := by
  show ((("[" : Str) ++ (("" : String) : Str) ++ s) ++ ("]" : Str)).length = s.length + 2
  rw [strLen_append, strLen_append, strLen_append]
  show 1 + 0 + s.length + 1 = s.length + 2
  omega
theorem lt2 (s t : Str) : (listText [s, t]).length = s.length + t.length + 4 := by
  show ((((("[" : Str) ++ (("" : String) : Str) ++ s) ++ ((", " : String) : Str)) ++ t) ++ ("]" : Str)).length = s.length + t.length + 4
  rw [strLen_append, strLen_append, strLen_append, strLen_append, strLen_append]
  show 1 + 0 + s.length + 2 + t.length + 1 = s.length + t.length + 4
  omega
def dueD (i : Nat) (x y : PyData) : PyData := .list (if i = 1 then [x, y] else [x])
structure Shows (d : PyData) : Prop where
  s : d.showable = true
  n : d.hasDict = false
  d6 : d.depth ≤ 60
  l : d.shown.length ≤ sizeLine
theorem ev_repr {K : PySem.W.Frag} {σ : L2.St} {H : Hp} {te : TE} {xs : List V} {d : PyData} (h : EvL te σ H xs) (hd : ∀ p H1, Ex H H1 → H1 p = some (.lst xs) → Dp K H1 (.ref p) d) (S : Shows d) : Ev (tCB (rReprD K) (tCons te tNil)) σ H (.str d.shown) := fun H1 e _ q =>
  h H1 e _ fun p H2 _ e2 hp => ⟨p, d, rfl, hd p H2 (e.trans e2) hp, S.s, S.n, S.d6, S.l, q H2 e2⟩
theorem due_shows {x y : PyData} (i : Nat) (nx : Nice x) (ny : Nice y) : Shows (dueD i x y) := by
  unfold dueD
  have l1 := nx.l
  have l2 := ny.l
  have d1 := nx.d5
  have d2 := ny.d5
  by_cases c : i = 1
  · rw [if_pos c]
    refine ⟨?_, ?_, ?_, ?_⟩
    · simp [PyData.showable, PyData.showableAll, nx.s, ny.s]
    · simp [PyData.hasDict, PyData.hasDictAll, nx.n, ny.n]
    · simp [PyData.depth, PyData.depthAll]
      omega
    · show (listText [x.shown, y.shown]).length ≤ sizeLine
      rw [lt2, sizeLine_eq]
      omega
  · rw [if_neg c]
    refine ⟨?_, ?_, ?_, ?_⟩
    · simp [PyData.showable, PyData.showableAll, nx.s]
    · simp [PyData.hasDict, PyData.hasDictAll, nx.n]
    · simp [PyData.depth, PyData.depthAll]
      omega
    · show (listText [x.shown]).length ≤ sizeLine
      rw [lt1, sizeLine_eq]
      omega
theorem due_dp {K : PySem.W.Frag} {H : Hp} {p : Addr} {i : Nat} {x y : V} {dx dy : PyData} (h : H p = some (.lst (dueL i x y))) (hx : Dp K H x dx) (hy : Dp K H y dy) : Dp K H (.ref p) (dueD i dx dy) := by
  unfold dueL at h
  unfold dueD
  by_cases c : i = 1
  · rw [if_pos c] at h ⊢
    exact .lst (sq_of h) (.cons hx (.cons hy .nil))
  · rw [if_neg c] at h ⊢
    exact .lst (sq_of h) (.cons hx .nil)
/-- an exception of class i, made of x and y, in the heap -/
structure Stands (K : PySem.W.Frag) (cs : Nat → Addr) (H : Hp) (i : Nat) (x y : V) (a : Addr) (dx dy : PyData) : Prop where
  lt : i < 27
  ob : ∃ d, H a = some (exV a (cs i) d) ∧ H d = some (.xd (fsOf i x y))
  px : ThingAt K H x dx
  py : ThingAt K H y dy
  nx : Nice dx
  ny : Nice dy
/-- all but lists stands as it was -/
def KeepNL (H H' : Hp) : Prop := ∀ b o, (∀ xs, o ≠ .lst xs) → H b = some o → H' b = some o
theorem KeepNL.of {H H' : Hp} (e : Same H H') : KeepNL H H' := fun b o _ h => e b o h
theorem KeepNL.trans {H H1 H2 : Hp} (a : KeepNL H H1) (b : KeepNL H1 H2) : KeepNL H H2 := fun c o n h => b c o n (a c o n h)
theorem KeepNL.upd {H : Hp} {l : Addr} {xs ys : List V} (h : H l = some (.lst xs)) : KeepNL H (upd H l (.lst ys)) := fun b o n hb => by
  have ne : b ≠ l := fun z => by
    rw [z, h] at hb
    exact n xs (Option.some.inj hb).symm
  rw [upd_ne ne]
  exact hb
theorem Stands.keep {K : PySem.W.Frag} {cs : Nat → Addr} {H H' : Hp} {i : Nat} {x y : V} {a : Addr} {dx dy : PyData} (S : Stands K cs H i x y a dx dy) (e : KeepNL H H') : Stands K cs H' i x y a dx dy := by
  obtain ⟨d, h1, h2⟩ := S.ob
  have t : ∀ b vs, H b = some (.tup vs) → H' b = some (.tup vs) := fun b vs h => e b _ (fun xs z => by cases z) h
  exact ⟨S.lt, ⟨d, e _ _ (fun xs z => by cases (show HO.ext _ = HO.lst xs from z)) h1, e _ _ (fun xs z => by cases z) h2⟩, thing_keep t S.px, thing_keep t S.py, S.nx, S.ny⟩
theorem Stands.same {K : PySem.W.Frag} {cs : Nat → Addr} {H H' : Hp} {i : Nat} {x y : V} {a : Addr} {dx dy : PyData} (S : Stands K cs H i x y a dx dy) (e : Same H H') : Stands K cs H' i x y a dx dy := S.keep (.of e)
def spRight (K : PySem.W.Frag) (cs : Nat → Addr) : Sp := fun vs H Q _ => ∃ (i : Nat) (x y : V) (a : Addr) (dx dy : PyData), vs = [.int i, x, y, .ref a] ∧ Stands K cs H i x y a dx dy ∧ ∀ H', Same H H' → Q (.bl true) H'
section
variable {P : Program} {w : World} {K : PySem.W.Frag} {mg : Str → Option Value} {base : Heap} {cs : Nat → Addr} {aR aU aK : Addr}
theorem scRight : FnScope ["_law_way", "_law_this", "_law_that", "_law_e", "_law_family", "_law_due", "_law_k"] ["_law_way", "_law_this", "_law_that", "_law_e"] (defScope sRight) := ⟨rfl, rfl, rfl, by decide +kernel, rfl, by decide +kernel, by decide +kernel⟩
theorem ok_right {f fK fM fF : Addr} {fd fdK fdM fdF : FuncData} (F : Fun K "_law_is_right" "_law_is_right" sRight f fd)
    (GK : FnOk P w K mg base CX0 1 fK fdK ["_law_e"] (spKinds cs)) (GM : FnOk P w K mg base CX0 1 fM fdM ["_law_e"] (spFams cs)) (GF : FnOk P w K mg base CX0 1 fF fdF ["_law_way", "_law_e"] (spFields cs))
    (gK : mg "_law_kinds" = some (.ref fK)) (gM : mg "_law_families" = some (.ref fM)) (gF : mg "_law_fields" = some (.ref fF)) (kK : PySem.W.keepIn K (.ref fK) = true) (kM : PySem.W.keepIn K (.ref fM) = true) (kF : PySem.W.keepIn K (.ref fF) = true)
    (bK : Binds K fdK ["_law_e"] []) (bM : Binds K fdM ["_law_e"] []) (bF : Binds K fdF ["_law_way", "_law_e"] []) (zR : mg "range" = none) (zP : mg "repr" = none) :
    FnG P w K mg base CX0 2 f fd ["_law_way", "_law_this", "_law_that", "_law_e"] (spRight K cs) := by
  refine F.okG scRight (fun vs H Q E h => ?_) (fun cdv A outer s H vs Q E hr hG h => ?_)
  · obtain ⟨i, x, y, a, dx, dy, rfl, _⟩ := h
    rfl
  · obtain ⟨i, x, y, a, dx, dy, rfl, S, k⟩ := h
    obtain ⟨d, ea, ed⟩ := S.ob
    have hi := S.lt
    have hu := hr.units
    refine ⟨_, pss_cons (ps_if (PW.pt (pw_or (pt_cmpR op_isN (pv 3) pe_non (nomark _)) (pw_or1 (pt_cmpR (op_neD hu) (pe_call GK hr rfl gK kK bK .nil pass0 (pa_cons (pv 3) pa_nil)) (pe_lst (pa_cons (pv 0) pa_nil)) (nomark _))))) (pss_one (ps_ret pe_bl)) pss_nil)
      (pss_cons (ps_set (i := 4) scRight.nd rfl (Or.inr rfl) (pe_ifExp (pt_cmpR op_lt (pv 0) pe_int (nomark _)) pe_int (pe_ifExp (pt_cmpR op_lt (pv 0) pe_int (nomark _)) pe_int pe_int)))
      (pss_cons (ps_set (i := 5) scRight.nd rfl (Or.inl rfl) (pe_op op_cat (pe_lc (own := [("_law_k", 6)]) (g := gName 6) (tt := tYes) rfl scRight.nd (pi_range1 (by rfl) zR (pa_cons pe_int pa_nil))
          (blkOk_by (N := ["_law_way", "_law_this", "_law_that", "_law_e", "_law_family", "_law_due", "_law_k"]) (sc := defScope sRight) (by decide +kernel))
          (fun _ _ _ _ _ => pg_name (i := 6) scRight.nd rfl (Or.inl rfl)) (fun _ _ _ _ _ => pts_nil) (fun _ _ _ _ _ => pe_cmpR op_eq (pv 4) (pe_op op_fdiv (pv 6) pe_int) (nomark _)))
        (pe_op op_rep (pe_lst (pa_cons pe_bl pa_nil)) pe_int)))
      (pss_one (ps_ret (pe_and (pe_cmpR (op_eqD hu) (pe_call GM hr rfl gM kM bM .nil pass0 (pa_cons (pv 3) pa_nil)) (pv 5) (nomark _))
        (pe_one (pe_cmpR op_eq (pe_callB (call_reprD hG hu) (by rfl) zP PyProof.Rows.boot_repr (pa_cons (pe_call GF hr rfl gF kF bF .nil pass0 (pa_cons (pv 0) (pa_cons (pv 3) pa_nil))) pa_nil))
          (pe_callB (call_reprD hG hu) (by rfl) zP PyProof.Rows.boot_repr (pa_cons (pe_ifExp (pt_cmpR op_eq (pv 0) pe_int (nomark _)) (pe_lst (pa_cons (pv 1) (pa_cons (pv 2) pa_nil))) (pe_lst (pa_cons (pv 1) pa_nil))) pa_nil)) (nomark _)))))))), ?_⟩
    -- e is None or _law_kinds(e) != [way]
    refine ⟨_, rfl, rfl, _, rfl, no_of (decide_eq_false fun z => by cases z) ?_⟩
    refine ⟨_, rfl, i, a, d, _, rfl, hi, ea, ed, fun p H1 _ s1 hp => ⟨_, rfl, (by show 1 ≤ sizeLine; decide), fun l hl => ?_⟩⟩
    have e2 : Ex H (upd H1 l (.lst [.int i])) := fun b o e => by
      rw [upd_ne (ne_of_none (s1 b o e) hl)]
      exact s1 b o e
    have hp2 : (upd H1 l (.lst [.int i])) p = some (.lst [.int i]) := by
      rw [upd_ne (ne_of_none hp hl)]
      exact hp
    have hl2 : (upd H1 l (.lst [.int i])) l = some (.lst [.int i]) := upd_same
    refine ⟨.list [.int i], .list [.int i], .lst (sq_of hp2) (.cons (.int _) .nil), .lst (sq_of hl2) (.cons (.int _) .nil), (one_eqv i).2, (one_eqv i).2, _, rfl, no_of (by rw [(one_eqv i).1]; rfl) ?_⟩
    generalize upd H1 l (.lst [.int i]) = H2 at e2
    clear hp2 hl2
    -- the family
    refine q_asg (v := .int (famN i)) (ev_if (et_test (ev_op (ev_var rfl) ev_c rv_I0)) (fun b => ?_) fun b => ?_) fun H3 f3 => ?_
    · have c : i < 16 := by have := of_decide_eq_true b; omega
      exact ev_is ev_c (by unfold famN; rw [if_pos c])
    · have c : ¬ i < 16 := by have := of_decide_eq_false b; omega
      refine ev_if (et_test (ev_op (ev_var rfl) ev_c rv_I0)) (fun b2 => ?_) fun b2 => ?_
      · have c2 : i < 21 := by have := of_decide_eq_true b2; omega
        exact ev_is ev_c (by unfold famN; rw [if_neg c, if_pos c2])
      · have c2 : ¬ i < 21 := by have := of_decide_eq_false b2; omega
        exact ev_is ev_c (by unfold famN; rw [if_neg c, if_neg c2])
    have e3 : Ex H H3 := e2.trans f3
    -- the list that is due
    refine q_asgL (xs := dueV i) (el_cat2 (el_lcR1 (j := 6) (vs := [6]) (n := 6) (fun _ => true) (fun k => V.bl (decide (V.int (famN i) = V.int ((k : Int) / 2)))) (ea_cons ev_c ea_nil) (by decide) (fun x => rfl) (fun k H4 _ _ H5 _ Q' q => q H5 (Ex.refl H5))
      (fun k H4 _ _ _ => ev_op (ev_var rfl) (ev_op (ev_var rfl) ev_c (rv_I ⟨by decide, by decide⟩)) (rv_eq rfl))) (fun H4 _ => el_rep (n := 3) (el_lst (ea_cons ev_c ea_nil) (by decide)) (by decide) (by decide)) (by show 6 + 3 ≤ 100000; decide)) fun pd H4 _ f4 h4 => ?_
    have e4 : Ex H H4 := e3.trans f4
    rw [dueV_eq hi] at h4
    -- the two comparisons
    have sm : ∀ {H5 : Hp}, Ex H4 H5 → Stands K cs H5 i x y a dx dy := fun e5 => S.same (e4.trans e5)
    refine s_ret (v := .bl (true && true)) (ev_andV (ev_is (ev_opL1 (xs := famL i) (y := .ref pd) (z := .bl true) (el_call (vs := [.ref a]) (ea_cons (ev_var rfl) ea_nil) fun H5 e5 Q' q E' => ⟨i, a, d, _, rfl, hi, e5 _ _ (e4 _ _ ea), e5 _ _ (e4 _ _ ed), fun p' H' n' s' h' => q p' H' n' s' h'⟩)
        (fun H5 _ => ev_var rfl) fun p5 H5 hp5 e5 => rv_val fun H6 e6 Q' q => ⟨.list (famD i), .list (famD i), fam_dp (e6 _ _ hp5), fam_dp (e6 _ _ (e5 _ _ h4)), (fam_eqv i).2, (fam_eqv i).2, by rw [(fam_eqv i).1]; exact q⟩) rfl) fun _ => ?_) fun H5 e5 => k H5 (e4.trans e5)
    refine ev_is (ev_op (ev_repr (d := dueD i dx dy) (xs := dueL i x y) (el_call (vs := [.int i, .ref a]) (ea_cons (ev_var rfl) (ea_cons (ev_var rfl) ea_nil)) fun H5 e5 Q' q E' => ⟨i, a, d, x, y, rfl, hi, e5 _ _ (e4 _ _ ea), e5 _ _ (e4 _ _ ed), fun p' H' n' s' h' => q p' H' n' s' h'⟩) (fun p5 H5 e5 h5 => due_dp h5 (thing_dp (sm e5).px) (thing_dp (sm e5).py)) (due_shows i S.nx S.ny))
      (ev_repr (d := dueD i dx dy) (xs := dueL i x y) (el_if (et_eq (n := 1) rfl) (fun b => ?_) fun b => ?_) (fun p5 H5 e5 h5 => due_dp h5 (thing_dp (sm e5).px) (thing_dp (sm e5).py)) (due_shows i S.nx S.ny)) (rv_eq rfl)) ?_
    · have c := of_decide_eq_true b
      rw [show dueL i x y = [x, y] from if_pos c]
      exact el_lst (ea_cons (ev_var rfl) (ea_cons (ev_var rfl) ea_nil)) (by show 2 ≤ 100000; decide)
    · have c := of_decide_eq_false b
      rw [show dueL i x y = [x] from if_neg c]
      exact el_lst (ea_cons (ev_var rfl) ea_nil) (by show 1 ≤ 100000; decide)
    · exact congrArg V.bl (decide_eq_true rfl)
end
end T1

/-! X14: _law_by_names -/
namespace T1
open PySem L2 PySem.VX Evl
/-- an exception of class i, made of x and y, stands at a -/
def Exc (cs : Nat → Addr) (x y : V) (H : Hp) (i : Nat) (a : Addr) : Prop := ∃ d, H a = some (exV a (cs i) d) ∧ H d = some (.xd (fsOf i x y))
def Rows (cs : Nat → Addr) (x y : V) (H : Hp) : List Nat → List Addr → Prop := Paired (Exc cs x y H)
section
variable {K : PySem.W.Frag} {σ : L2.St} {H H' : Hp} {te ta tb : TE} {cs : Nat → Addr} {x y : V} {i : Nat} {js is : List Nat}
theorem Exc.same {a : Addr} (e : Ex H H') (h : Exc cs x y H i a) : Exc cs x y H' i a := let ⟨d, h1, h2⟩ := h; ⟨d, e _ _ h1, e _ _ h2⟩
theorem Rows.same (e : Ex H H') : ∀ {is : List Nat} {as : List Addr}, Rows cs x y H is as → Rows cs x y H' is as
  | _, _, .nil => .nil
  | _, _, .cons h t => .cons (Exc.same e h) (Rows.same e t)
theorem Rows.app : ∀ {is js : List Nat} {as bs : List Addr}, Rows cs x y H is as → Rows cs x y H js bs → Rows cs x y H (is ++ js) (as ++ bs)
  | _, _, _, _, .nil, q => q
  | _, _, _, _, .cons h t, q => .cons h (Rows.app t q)
theorem Rows.len : ∀ {is : List Nat} {as : List Addr}, Rows cs x y H is as → as.length = is.length
  | _, _, .nil => rfl
  | _, _, .cons _ t => congrArg Nat.succ (Rows.len t)
theorem Rows.get : ∀ {is : List Nat} {as : List Addr}, Rows cs x y H is as → ∀ (n i : Nat), is[n]? = some i → ∃ a, as[n]? = some a ∧ Exc cs x y H i a
  | _, _, .nil, n, i, h => by simp at h
  | _, _, .cons h t, 0, i, e => by
    simp at e
    subst e
    exact ⟨_, rfl, h⟩
  | _, _, .cons h t, n + 1, i, e => by
    obtain ⟨a, h1, h2⟩ := Rows.get t n i (by simpa using e)
    exact ⟨a, by simpa using h1, h2⟩
def NewX (cs : Nat → Addr) (x y : V) (te : TE) (σ : L2.St) (H : Hp) (i : Nat) : Prop := ∀ H1, Ex H H1 → ∀ Q : VK, (∀ a H2, Ex H1 H2 → Exc cs x y H2 i a → Q (.ref a) H2) → te σ H1 Q
def NewXs (cs : Nat → Addr) (x y : V) (ta : TA) (σ : L2.St) (H : Hp) (is : List Nat) : Prop := ∀ H1, Ex H H1 → ∀ Q : List V → Hp → Prop, (∀ as H2, Ex H1 H2 → Rows cs x y H2 is as → Q (as.map V.ref) H2) → ta σ H1 Q
def NewL (cs : Nat → Addr) (x y : V) (te : TE) (σ : L2.St) (H : Hp) (is : List Nat) : Prop := ∀ H1, Ex H H1 → ∀ Q : VK, (∀ p as H2, H1 p = none → Ex H1 H2 → H2 p = some (.lst (as.map V.ref)) → Rows cs x y H2 is as → Q (.ref p) H2) → te σ H1 Q
theorem nx_nil : NewXs cs x y tNil σ H [] := fun H1 _ _ q => q [] H1 (Ex.refl H1) .nil
theorem nx_cons {tr : TA} (h : NewX cs x y te σ H i) (hr : NewXs cs x y tr σ H is) : NewXs cs x y (tCons te tr) σ H (i :: is) := fun H1 e _ q =>
  h H1 e _ fun a H2 e2 ha => hr H2 (e.trans e2) _ fun as H3 e3 r => q (a :: as) H3 (e2.trans e3) (.cons (ha.same e3) r)
theorem nl_lst {ta : TA} (h : NewXs cs x y ta σ H is) (hl : is.length ≤ 1000) : NewL cs x y (tLst ta) σ H is := fun H1 e _ q =>
  h H1 e _ fun as H2 e2 r => ⟨by rw [List.length_map, r.len, sizeLine_eq]; omega, fun p hp => q p as _ (fresh_back e2 hp) (e2.trans (Ex.new hp)) upd_same (r.same (Ex.new hp))⟩
theorem nl_cat {l : Addr} {as : List Addr} (ha : Ev ta σ H (.ref l)) (hl : H l = some (.lst (as.map V.ref))) (r : Rows cs x y H js as) (hb : NewL cs x y tb σ H is) (h1 : js.length ≤ 1000) (h2 : is.length ≤ 1000) : NewL cs x y (tOp rCat ta tb) σ H (js ++ is) := fun H1 e _ q =>
  ha H1 e _ fun H2 e2 => hb H2 (e.trans e2) _ fun p bs H3 _ e3 hp rb => ⟨l, p, as.map V.ref, bs.map V.ref, rfl, rfl, e3 _ _ (e2 _ _ (e _ _ hl)), hp, by rw [List.length_map, List.length_map, r.len, rb.len, sizeLine_eq]; omega, fun m hm =>
    q m (as ++ bs) _ (fresh_back (e2.trans e3) hm) ((e2.trans e3).trans (Ex.new hm)) (by rw [upd_same, List.map_append]) ((r.same (((e.trans e2).trans e3).trans (Ex.new hm))).app (rb.same (Ex.new hm)))⟩
theorem q_nl {D : Ends} {tz : TS} {k : Nat} (h : NewL cs x y te σ H is) (q : ∀ p as H1, Ex H H1 → H1 p = some (.lst (as.map V.ref)) → Rows cs x y H1 is as → tz D (σ.set k (some (.ref p))) H1) : tSeq (tAsg te (gName k)) tz D σ H :=
  h H (Ex.refl H) _ fun p as H1 _ e hp r => q p as H1 e hp r
theorem s_retNl {D : Ends} (h : NewL cs x y te σ H is) (q : ∀ p as H1, H p = none → Ex H H1 → H1 p = some (.lst (as.map V.ref)) → Rows cs x y H1 is as → D.rt (.ref p) H1) : tRet te D σ H :=
  h H (Ex.refl H) _ fun p as H1 hn e hp r => q p as H1 hn e hp r
theorem nx_kw {fn : List Str} {tk : TA} {zs : List V} (h : EvA tk σ H zs) (hz : zs.length = fn.length) (hf : (fn.zip zs.reverse).reverse = fsOf i x y) : NewX cs x y (tNewKw (cs i) fn tk) σ H i := fun H1 e _ q =>
  h H1 e _ fun H2 e2 => ⟨hz, fun a d na nd ne => by
    rw [hf]
    have e3 : Ex H2 (upd H2 d (.xd (fsOf i x y))) := Ex.new nd
    have na2 : (upd H2 d (.xd (fsOf i x y))) a = none := by rw [upd_ne (Ne.symm ne)]; exact na
    exact q a _ (e2.trans (e3.trans (Ex.new na2))) ⟨d, upd_same, by rw [upd_ne ne, upd_same]⟩⟩
end
def spNames (cs : Nat → Addr) : Sp := fun vs H Q _ => ∃ (x y : V), vs = [x, y] ∧ ∀ p as H', H p = none → Same H H' → H' p = some (.lst (as.map V.ref)) → Rows cs x y H' (List.range 27) as → Q (.ref p) H'
section
variable {P : Program} {w : World} {K : PySem.W.Frag} {mg : Str → Option Value} {base : Heap} {cs : Nat → Addr}
theorem scNames : FnScope ["_law_this", "_law_that", "_law_some"] ["_law_this", "_law_that"] (defScope sNames) := ⟨rfl, rfl, rfl, by decide +kernel, rfl, by decide +kernel, by decide +kernel⟩
theorem ok_names (O : Own P w K mg cs) {f : Addr} {fd : FuncData} (F : Fun K "_law_by_names" "_law_by_names" sNames f fd) : FnOk P w K mg base CX0 3 f fd ["_law_this", "_law_that"] (spNames cs) := by
  refine F.ok scNames (fun vs H Q E h => ?_) (fun cdv A outer s H vs Q E hr h => ?_)
  · obtain ⟨x, y, rfl, _⟩ := h
    rfl
  · obtain ⟨x, y, rfl, k⟩ := h
    refine ⟨_, (pss_cons (ps_set (i := 2) scNames.nd rfl (Or.inl rfl) (pe_lst (pa_cons (pe_newKw O.o0 hr (pk_cons (pv 0) pk_nil) (by rfl)) (pa_cons (pe_newKw O.o1 hr (pk_cons (pv 1) (pk_cons (pv 0) pk_nil)) (by rfl)) (pa_cons (pe_newKw O.o2 hr (pk_cons (pv 0) pk_nil) (by rfl)) (pa_cons (pe_newKw O.o3 hr (pk_cons (pv 0) pk_nil) (by rfl)) pa_nil))))))
      (pss_cons (ps_set (i := 2) scNames.nd rfl (Or.inl rfl) (pe_op op_cat (pv 2) (pe_lst (pa_cons (pe_newKw O.o4 hr (pk_cons (pv 0) pk_nil) (by rfl)) (pa_cons (pe_newKw O.o5 hr (pk_cons (pv 0) pk_nil) (by rfl)) (pa_cons (pe_newKw O.o6 hr (pk_cons (pv 0) pk_nil) (by rfl)) (pa_cons (pe_newKw O.o7 hr (pk_cons (pv 0) pk_nil) (by rfl)) (pa_cons (pe_newKw O.o8 hr (pk_cons (pv 0) pk_nil) (by rfl)) pa_nil))))))))
      (pss_cons (ps_set (i := 2) scNames.nd rfl (Or.inl rfl) (pe_op op_cat (pv 2) (pe_lst (pa_cons (pe_newKw O.o9 hr (pk_cons (pv 0) pk_nil) (by rfl)) (pa_cons (pe_newKw O.o10 hr (pk_cons (pv 0) pk_nil) (by rfl)) (pa_cons (pe_newKw O.o11 hr (pk_cons (pv 0) pk_nil) (by rfl)) (pa_cons (pe_newKw O.o12 hr (pk_cons (pv 0) pk_nil) (by rfl)) pa_nil)))))))
      (pss_cons (ps_set (i := 2) scNames.nd rfl (Or.inl rfl) (pe_op op_cat (pv 2) (pe_lst (pa_cons (pe_newKw O.o13 hr (pk_cons (pv 0) pk_nil) (by rfl)) (pa_cons (pe_newKw O.o14 hr (pk_cons (pv 0) pk_nil) (by rfl)) (pa_cons (pe_newKw O.o15 hr (pk_cons (pv 0) pk_nil) (by rfl)) (pa_cons (pe_newKw O.o16 hr (pk_cons (pv 0) pk_nil) (by rfl)) (pa_cons (pe_newKw O.o17 hr (pk_cons (pv 0) pk_nil) (by rfl)) pa_nil))))))))
      (pss_cons (ps_set (i := 2) scNames.nd rfl (Or.inl rfl) (pe_op op_cat (pv 2) (pe_lst (pa_cons (pe_newKw O.o18 hr (pk_cons (pv 0) pk_nil) (by rfl)) (pa_cons (pe_newKw O.o19 hr (pk_cons (pv 0) pk_nil) (by rfl)) (pa_cons (pe_newKw O.o20 hr (pk_cons (pv 0) pk_nil) (by rfl)) (pa_cons (pe_newKw O.o21 hr (pk_cons (pv 0) pk_nil) (by rfl)) (pa_cons (pe_newKw O.o22 hr (pk_cons (pv 0) pk_nil) (by rfl)) pa_nil))))))))
      (pss_one (ps_ret (pe_op op_cat (pv 2) (pe_lst (pa_cons (pe_newKw O.o23 hr (pk_cons (pv 0) pk_nil) (by rfl)) (pa_cons (pe_newKw O.o24 hr (pk_cons (pv 0) pk_nil) (by rfl)) (pa_cons (pe_newKw O.o25 hr (pk_cons (pv 0) pk_nil) (by rfl)) (pa_cons (pe_newKw O.o26 hr (pk_cons (pv 0) pk_nil) (by rfl)) pa_nil))))))))))))), ?_⟩
    refine q_nl (cs := cs) (x := x) (y := y) (nl_lst (nx_cons (nx_kw (i := 0) (ea_cons (ev_var rfl) ea_nil) rfl rfl) (nx_cons (nx_kw (i := 1) (ea_cons (ev_var rfl) (ea_cons (ev_var rfl) ea_nil)) rfl rfl) (nx_cons (nx_kw (i := 2) (ea_cons (ev_var rfl) ea_nil) rfl rfl) (nx_cons (nx_kw (i := 3) (ea_cons (ev_var rfl) ea_nil) rfl rfl) nx_nil)))) (by decide)) fun p1 a1 H1 e1 h1 r1 => ?_
    refine q_nl (nl_cat (ev_var rfl) h1 r1 (nl_lst (nx_cons (nx_kw (i := 4) (ea_cons (ev_var rfl) ea_nil) rfl rfl) (nx_cons (nx_kw (i := 5) (ea_cons (ev_var rfl) ea_nil) rfl rfl) (nx_cons (nx_kw (i := 6) (ea_cons (ev_var rfl) ea_nil) rfl rfl) (nx_cons (nx_kw (i := 7) (ea_cons (ev_var rfl) ea_nil) rfl rfl) (nx_cons (nx_kw (i := 8) (ea_cons (ev_var rfl) ea_nil) rfl rfl) nx_nil))))) (by decide)) (by decide) (by decide)) fun p2 a2 H2 f2 h2 r2 => ?_
    have e2 : Ex H H2 := e1.trans f2
    refine q_nl (nl_cat (ev_var rfl) h2 r2 (nl_lst (nx_cons (nx_kw (i := 9) (ea_cons (ev_var rfl) ea_nil) rfl rfl) (nx_cons (nx_kw (i := 10) (ea_cons (ev_var rfl) ea_nil) rfl rfl) (nx_cons (nx_kw (i := 11) (ea_cons (ev_var rfl) ea_nil) rfl rfl) (nx_cons (nx_kw (i := 12) (ea_cons (ev_var rfl) ea_nil) rfl rfl) nx_nil)))) (by decide)) (by decide) (by decide)) fun p3 a3 H3 f3 h3 r3 => ?_
    have e3 : Ex H H3 := e2.trans f3
    refine q_nl (nl_cat (ev_var rfl) h3 r3 (nl_lst (nx_cons (nx_kw (i := 13) (ea_cons (ev_var rfl) ea_nil) rfl rfl) (nx_cons (nx_kw (i := 14) (ea_cons (ev_var rfl) ea_nil) rfl rfl) (nx_cons (nx_kw (i := 15) (ea_cons (ev_var rfl) ea_nil) rfl rfl) (nx_cons (nx_kw (i := 16) (ea_cons (ev_var rfl) ea_nil) rfl rfl) (nx_cons (nx_kw (i := 17) (ea_cons (ev_var rfl) ea_nil) rfl rfl) nx_nil))))) (by decide)) (by decide) (by decide)) fun p4 a4 H4 f4 h4 r4 => ?_
    have e4 : Ex H H4 := e3.trans f4
    refine q_nl (nl_cat (ev_var rfl) h4 r4 (nl_lst (nx_cons (nx_kw (i := 18) (ea_cons (ev_var rfl) ea_nil) rfl rfl) (nx_cons (nx_kw (i := 19) (ea_cons (ev_var rfl) ea_nil) rfl rfl) (nx_cons (nx_kw (i := 20) (ea_cons (ev_var rfl) ea_nil) rfl rfl) (nx_cons (nx_kw (i := 21) (ea_cons (ev_var rfl) ea_nil) rfl rfl) (nx_cons (nx_kw (i := 22) (ea_cons (ev_var rfl) ea_nil) rfl rfl) nx_nil))))) (by decide)) (by decide) (by decide)) fun p5 a5 H5 f5 h5 r5 => ?_
    have e5 : Ex H H5 := e4.trans f5
    exact s_retNl (nl_cat (ev_var rfl) h5 r5 (nl_lst (nx_cons (nx_kw (i := 23) (ea_cons (ev_var rfl) ea_nil) rfl rfl) (nx_cons (nx_kw (i := 24) (ea_cons (ev_var rfl) ea_nil) rfl rfl) (nx_cons (nx_kw (i := 25) (ea_cons (ev_var rfl) ea_nil) rfl rfl) (nx_cons (nx_kw (i := 26) (ea_cons (ev_var rfl) ea_nil) rfl rfl) nx_nil)))) (by decide)) (by decide) (by decide)) fun p a6 H6 n6 f6 h6 r6 => k p a6 H6 (fresh_back e5 n6) (e5.trans f6) h6 r6
end
end T1

/-! X15: what is held between the turns -/
namespace T1
open PySem L2 PySem.VX Evl
/-- a held row: (way, this, that, error) -/
def RowOk (K : PySem.W.Frag) (cs : Nat → Addr) (H : Hp) (r : Addr) : Prop := ∃ (i : Nat) (x y : V) (a : Addr) (dx dy : PyData), H r = some (.tup [.int i, x, y, .ref a]) ∧ Stands K cs H i x y a dx dy
theorem RowOk.keep {K : PySem.W.Frag} {cs : Nat → Addr} {H H' : Hp} {r : Addr} (e : KeepNL H H') (h : RowOk K cs H r) : RowOk K cs H' r := by
  obtain ⟨i, x, y, a, dx, dy, h1, S⟩ := h
  exact ⟨i, x, y, a, dx, dy, e _ _ (fun xs z => by cases z) h1, S.keep e⟩
def Held (K : PySem.W.Frag) (cs : Nat → Addr) (H : Hp) (l : Addr) (n : Nat) : Prop := ∃ rs : List Addr, H l = some (.lst (rs.map V.ref)) ∧ rs.length ≤ n ∧ ∀ r ∈ rs, RowOk K cs H r
section
variable {K : PySem.W.Frag} {cs : Nat → Addr} {H H' : Hp} {l r : Addr} {n m : Nat}
theorem Held.same (h : Held K cs H l n) (e : Same H H') : Held K cs H' l n := by
  obtain ⟨rs, h1, h2, h3⟩ := h
  exact ⟨rs, e _ _ h1, h2, fun r hr => (h3 r hr).keep (.of e)⟩
theorem Held.mono (h : Held K cs H l n) (e : n ≤ m) : Held K cs H l m := by
  obtain ⟨rs, h1, h2, h3⟩ := h
  exact ⟨rs, h1, Nat.le_trans h2 e, h3⟩
theorem Held.app {rs : List Addr} (h1 : H l = some (.lst (rs.map V.ref))) (h2 : rs.length ≤ n) (h3 : ∀ r ∈ rs, RowOk K cs H r) (hr : RowOk K cs H r) : Held K cs (upd H l (.lst (rs.map V.ref ++ [.ref r]))) l (n + 1) := by
  refine ⟨rs ++ [r], by rw [upd_same, List.map_append]; rfl, by rw [List.length_append]; exact Nat.succ_le_succ h2, fun q hq => ?_⟩
  rcases List.mem_append.mp hq with z | z
  · exact (h3 q z).keep (KeepNL.upd h1)
  · obtain rfl := List.mem_singleton.mp z
    exact hr.keep (KeepNL.upd h1)
end
theorem cut_int {ns : List Int} {lo hi : Option Int} {v : V} (h : v ∈ cutV (ns.map V.int) lo hi) : ∃ c, v = V.int c := by
  unfold cutV at h
  have h2 := List.mem_of_mem_drop (List.mem_of_mem_take h)
  obtain ⟨c, _, e⟩ := List.mem_map.mp h2
  exact ⟨c, e.symm⟩
/-- one of 0 to 26 -/
theorem way_nat (m : Int) : ∃ i : Nat, i < 27 ∧ (i : Int) = m % 27 := by
  have h0 : 0 ≤ m % 27 := Int.emod_nonneg _ (by decide)
  have h1 : m % 27 < 27 := Int.emod_lt_of_pos _ (by decide)
  exact ⟨(m % 27).toNat, by omega, by omega⟩
end T1

/-! X16: law -/
namespace T1
open PySem L2 PySem.VX Evl
abbrev lawN : List Str := ["_law_script", "_law_held", "_law_k", "_law_cell", "_law_number", "_law_turn", "_law_way", "_law_this", "_law_that", "_law_error", "_law_row"]
def spLaw (K : PySem.W.Frag) : Sp := fun vs H Q _ => ∃ (a : Addr) (ns : List Int), vs = [.ref a] ∧ SqL K H a (ns.map V.int) ∧ ns.length ≤ 63 ∧ ∀ H', Q (.bl true) H'
/-- for .. in enumerate(e), e a new list: Pv by the list's place, the turn, the slots, the heap -/
theorem q_forEnum {K : PySem.W.Frag} {te : TE} {g : TG} {tb tz : TS} {D : Ends} {σ : L2.St} {H : Hp} {xs : List V} (h : EvL te σ H xs) (Pv : Addr → Nat → L2.St → Hp → Prop)
    (h0 : ∀ p H1, H p = none → Ex H H1 → H1 p = some (.lst xs) → Pv p 0 σ H1) (hG : ∀ p i σ G, Pv p i σ G → SqL K G p xs)
    (hs : ∀ p i z σ G T, H p = none → i < xs.length → xs[i]? = some z → Pv p i σ G → G T = none → g (.ref T) σ (upd G T (.tup [.int (i : Nat), z])) fun σ2 H2 => tb { D with nx := Pv p (i + 1), ct := Pv p (i + 1), bk := tz D } σ2 H2)
    (hd : ∀ p σ G, H p = none → Pv p xs.length σ G → tz D σ G) : tSeq (tFor (iEnum K (tCons te tNil)) g tb) tz D σ H := by
  refine h H (Ex.refl H) _ fun p H1 n e hp => ⟨p, xs, rfl, sq_of hp, ?_⟩
  refine for_it (walk_enum (K := K) (a := p) (xs := xs)) (D := { D with nx := tz D }) (Pv p) (h0 p H1 n e hp) (fun i σ G _ q => hG p i σ G q) ?_ (fun σ G q => hd p σ G n q)
  rintro i x σ' G G' hi q ⟨T, y, z, rfl, hT, rfl, hy, hz⟩
  obtain rfl : V.int (i : Nat) = y := Option.some.inj hy
  exact hs p i z σ' G T n hi hz q hT
def ways (m : Int) : List V := [.int (m % 27), .int (m / 27 % 27), .int (m % 27)]
theorem ways_at {m : Int} {t : Nat} {z : V} (ht : t < 3) (h : (ways m)[t]? = some z) : ∃ i : Nat, i < 27 ∧ z = .int (i : Nat) := by
  obtain ⟨i, hi, ei⟩ := way_nat m
  obtain ⟨j, hj, ej⟩ := way_nat (m / 27)
  obtain rfl | rfl | rfl : t = 0 ∨ t = 1 ∨ t = 2 := by omega
  · exact ⟨i, hi, by rw [ei]; exact (Option.some.inj h).symm⟩
  · exact ⟨j, hj, by rw [ej]; exact (Option.some.inj h).symm⟩
  · exact ⟨i, hi, by rw [ei]; exact (Option.some.inj h).symm⟩
def items (ns : List Int) : List V := cutV (ns.map V.int) none (some 20) ++ [V.int 7]
theorem items_len {ns : List Int} (h : ns.length ≤ 63) : (items ns).length ≤ 64 := by
  unfold items
  have := cutV_length (ns.map V.int) none (some 20)
  rw [List.length_map] at this
  rw [List.length_append]
  show (cutV (ns.map V.int) none (some 20)).length + 1 ≤ 64
  omega
theorem items_int {ns : List Int} {n : Nat} {z : V} (h : (items ns)[n]? = some z) : ∃ c, z = .int c := by
  have hm := List.mem_of_getElem? h
  unfold items at hm
  rcases List.mem_append.mp hm with q | q
  · exact cut_int q
  · exact ⟨7, List.mem_singleton.mp q⟩
theorem at3 {x y v u : V} : atI [x, y, v, u] 3 = some u := rfl
theorem at0 {x y v u : V} : atI [x, y, v, u] 0 = some x := rfl
theorem at1 {x y v u : V} : atI [x, y, v, u] 1 = some y := rfl
theorem at2 {x y v u : V} : atI [x, y, v, u] 2 = some v := rfl
section
variable {P : Program} {w : World} {K : PySem.W.Frag} {mg : Str → Option Value} {base : Heap} {cs : Nat → Addr}
theorem scLaw : FnScope lawN ["_law_script"] (defScope sLaw) := ⟨rfl, rfl, rfl, by decide +kernel, rfl, by decide +kernel, by decide +kernel⟩
theorem ok_law {f fX fT fR fN fG : Addr} {fd fdX fdT fdR fdN fdG : FuncData} (F : Fun K "law" "law" sLaw f fd)
    (GX : FnOk P w K mg base CX0 1 fX fdX ["_law_cell", "_law_k"] spMix) (GT : FnOk P w K mg base CX0 1 fT fdT ["_law_number"] (spThing K)) (GR : FnOk P w K mg base CX0 5 fR fdR ["_law_way", "_law_this", "_law_that"] (spRaised cs))
    (GN : FnOk P w K mg base CX0 3 fN fdN ["_law_this", "_law_that"] (spNames cs)) (GG : FnG P w K mg base CX0 2 fG fdG ["_law_way", "_law_this", "_law_that", "_law_e"] (spRight K cs))
    (gX : mg "_law_mixed" = some (.ref fX)) (gT : mg "_law_thing" = some (.ref fT)) (gR : mg "_law_raised" = some (.ref fR)) (gN : mg "_law_by_names" = some (.ref fN)) (gG : mg "_law_is_right" = some (.ref fG))
    (kX : PySem.W.keepIn K (.ref fX) = true) (kT : PySem.W.keepIn K (.ref fT) = true) (kR : PySem.W.keepIn K (.ref fR) = true) (kN : PySem.W.keepIn K (.ref fN) = true) (kG : PySem.W.keepIn K (.ref fG) = true)
    (bX : Binds K fdX ["_law_cell", "_law_k"] []) (bT : Binds K fdT ["_law_number"] []) (bR : Binds K fdR ["_law_way", "_law_this", "_law_that"] []) (bN : Binds K fdN ["_law_this", "_law_that"] []) (bG : Binds K fdG ["_law_way", "_law_this", "_law_that", "_law_e"] []) (zE : mg "enumerate" = none) :
    FnG P w K mg base CX0 6 f fd ["_law_script"] (spLaw K) := by
  refine F.okG scLaw (fun vs H Q E h => ?_) (fun cdv A outer s H vs Q E hr hG h => ?_)
  · obtain ⟨a, ns, rfl, _⟩ := h
    rfl
  · obtain ⟨a, ns, rfl, hS, hlen, k⟩ := h
    have hu := hr.units
    have r1 : Room 1 _ := hr.mono (by decide)
    have r2 : Room 2 _ := hr.mono (by decide)
    have r3 : Room 3 _ := hr.mono (by decide)
    have r5 : Room 5 _ := hr
    refine ⟨_, pss_cons (ps_set (i := 1) scLaw.nd rfl (Or.inl rfl) (pe_lst pa_nil))
      (pss_cons (ps_for PassesOwn.never rfl (pi_enum (by rfl) zE (pa_cons (pe_op op_cat (pe_slice sl_list (pv 0) po_none (po_some pe_int)) (pe_lst (pa_cons pe_int pa_nil))) pa_nil))
          (pg_tup rfl (pgs_cons (pg_name (i := 2) scLaw.nd rfl (Or.inl rfl)) (pgs_cons (pg_name (i := 3) scLaw.nd rfl (Or.inl rfl)) pgs_nil)))
        (pss_cons (ps_set (i := 4) scLaw.nd rfl (Or.inl rfl) (pe_call GX r1 rfl gX kX bX .nil pass0 (pa_cons (pv 3) (pa_cons (pv 2) pa_nil))))
        (pss_cons (ps_for PassesOwn.never rfl (pi_enum (by rfl) zE (pa_cons (pe_lst (pa_cons (pe_op op_mod (pv 4) pe_int) (pa_cons (pe_op op_mod (pe_op op_fdiv (pv 4) pe_int) pe_int) (pa_cons (pe_op op_mod (pv 4) pe_int) pa_nil)))) pa_nil))
            (pg_tup rfl (pgs_cons (pg_name (i := 5) scLaw.nd rfl (Or.inl rfl)) (pgs_cons (pg_name (i := 6) scLaw.nd rfl (Or.inl rfl)) pgs_nil)))
          (pss_cons (ps_par (i := 7) (j := 8) rfl scLaw.nd rfl rfl (by decide) rfl rfl
              (pa_cons (pe_call GT r1 rfl gT kT bT .nil pass0 (pa_cons (pe_call GX r1 rfl gX kX bX .nil pass0 (pa_cons (pv 4) (pa_cons (pe_op op_add pe_int (pv 5)) pa_nil))) pa_nil))
              (pa_cons (pe_call GT r1 rfl gT kT bT .nil pass0 (pa_cons (pe_call GX r1 rfl gX kX bX .nil pass0 (pa_cons (pv 4) (pa_cons (pe_op op_add pe_int (pv 5)) pa_nil))) pa_nil)) pa_nil)) (by rfl))
          (pss_cons (ps_expr (pe_bm PySem.F.plainAttrs_list PySem.F.slot_list_append PySem.F.type_list_append mt_append (pv 1) (pa_cons (pe_tup (pa_cons (pv 6) (pa_cons (pv 7) (pa_cons (pv 8)
              (pa_cons (pe_call GR r5 rfl gR kR bR .nil pass0 (pa_cons (pv 6) (pa_cons (pv 7) (pa_cons (pv 8) pa_nil)))) pa_nil))))) pa_nil)))
          (pss_one (ps_if (pt_not (pt_val (pe_callG GG r2 hG rfl gG kG bG .nil pass0 (pa_cons (pv 6) (pa_cons (pv 7) (pa_cons (pv 8) (pa_cons (pe_ix ix_tup (pe_ix ix_list (pv 1) (pe_un un_neg pe_int) (fun _ _ => rfl)) pe_int (fun _ _ => rfl)) pa_nil)))))))
            (pss_one (ps_ret pe_bl)) pss_nil)))))
        (pss_cons (ps_par (i := 7) (j := 8) rfl scLaw.nd rfl rfl (by decide) rfl rfl
              (pa_cons (pe_call GT r1 rfl gT kT bT .nil pass0 (pa_cons (pe_call GX r1 rfl gX kX bX .nil pass0 (pa_cons (pv 4) (pa_cons pe_int pa_nil))) pa_nil))
              (pa_cons (pe_call GT r1 rfl gT kT bT .nil pass0 (pa_cons (pe_call GX r1 rfl gX kX bX .nil pass0 (pa_cons (pv 4) (pa_cons pe_int pa_nil))) pa_nil)) pa_nil)) (by rfl))
        (pss_one (ps_for PassesOwn.never rfl (pi_enum (by rfl) zE (pa_cons (pe_call GN r3 rfl gN kN bN .nil pass0 (pa_cons (pv 7) (pa_cons (pv 8) pa_nil))) pa_nil))
            (pg_tup rfl (pgs_cons (pg_name (i := 6) scLaw.nd rfl (Or.inl rfl)) (pgs_cons (pg_name (i := 9) scLaw.nd rfl (Or.inl rfl)) pgs_nil)))
          (pss_one (ps_if (pt_not (pt_val (pe_callG GG r2 hG rfl gG kG bG .nil pass0 (pa_cons (pv 6) (pa_cons (pv 7) (pa_cons (pv 8) (pa_cons (pv 9) pa_nil)))))))
            (pss_one (ps_ret pe_bl)) pss_nil))))))))
      (pss_one (ps_ret (pe_cmpR (op_eqD hu) (pe_lc (own := [("_law_row", 10)]) (g := gName 10) (tt := tNot (tB (tCall (spRight K cs) [] E0 (tCons (tOp (rIxT K) (tVar 10) (tC (.int 0))) (tCons (tOp (rIxT K) (tVar 10) (tC (.int 1))) (tCons (tOp (rIxT K) (tVar 10) (tC (.int 2))) (tCons (tOp (rIxT K) (tVar 10) (tC (.int 3))) tNil)))))))
          rfl scLaw.nd (pi_list (pv 1)) (blkOk_by (N := lawN) (sc := defScope sLaw) (by decide +kernel)) (fun _ _ _ _ _ => pg_name (i := 10) scLaw.nd rfl (Or.inl rfl))
          (fun _ _ _ _ _ => pts_one (pt_not (pt_val (pe_callG GG r2 hG rfl gG kG bG .nil pass0 (pa_cons (pe_ix ix_tup (pv 10) pe_int (fun _ _ => rfl)) (pa_cons (pe_ix ix_tup (pv 10) pe_int (fun _ _ => rfl)) (pa_cons (pe_ix ix_tup (pv 10) pe_int (fun _ _ => rfl)) (pa_cons (pe_ix ix_tup (pv 10) pe_int (fun _ _ => rfl)) pa_nil))))))))
          (fun _ _ _ _ _ => pv 10)) (pe_lst pa_nil) (nomark _))))), ?_⟩
    refine q_asgL (el_lst ea_nil (by decide)) fun l H1 n1 e1 h1 => ?_
    -- for k, cell in enumerate(script[:20] + [7])
    have lz := items_len hlen
    have cz := cutV_length (ns.map V.int) none (some 20)
    rw [List.length_map] at cz
    refine el_cat2 (xs := cutV (ns.map V.int) none (some 20)) (ys := [V.int 7]) (el_sl (K := K) (ev_var rfl) eo_none (eo_some ev_c) (ex_l e1 hS)) (fun _ _ => el_lst (ea_cons ev_c ea_nil) (by decide)) (by show _ + 1 ≤ 100000; omega) H1 (Ex.refl H1) _ fun p0 H2 n2 e2 h2 => ⟨p0, items ns, rfl, sq_of h2, ?_⟩
    have n0l : p0 ≠ l := (ne_of_none h1 n2).symm
    refine for_it (walk_enum (K := K) (a := p0) (xs := items ns)) (fun n σ G => ∃ v2 v3 v4 v5 v6 v7 v8 v9 v10 : Option V, σ = [some (.ref a), some (.ref l), v2, v3, v4, v5, v6, v7, v8, v9, v10] ∧ G p0 = some (.lst (items ns)) ∧ Held K cs G l (3 * n))
      ⟨none, none, none, none, none, none, none, none, none, rfl, h2, [], e2 _ _ h1, Nat.zero_le _, fun r hr => nomatch hr⟩ (fun n σ G _ ⟨_, _, _, _, _, _, _, _, _, _, gp, _⟩ => sq_of gp) ?_ ?_
    · rintro n u σ G G' hn ⟨v2, v3, v4, v5, v6, v7, v8, v9, v10, rfl, gp, gh⟩ ⟨T, y0, z, rfl, hT, rfl, hy, hz⟩
      obtain rfl : V.int (n : Nat) = y0 := Option.some.inj hy
      obtain ⟨c, rfl⟩ := items_int hz
      refine ⟨T, _, rfl, .inl (.inl upd_same), rfl, _, _, rfl, _, _, rfl, rfl, ?_⟩
      have eT : Ex G (upd G T (.tup [.int (n : Nat), .int c])) := Ex.new hT
      replace gp := eT _ _ gp
      replace gh := gh.same eT
      generalize upd G T (.tup [.int (n : Nat), .int c]) = G1 at gp gh ⊢
      clear hz hy hT eT
      -- number
      refine q_asg (v := .int (mixed c n)) (ev_call (ea_cons (ev_var rfl) (ea_cons (ev_var rfl) ea_nil)) fun G2 _ Q' q E' => ⟨c, n, rfl, by omega, by omega, q G2 (Ex.refl G2)⟩) fun G2 e3 => ?_
      replace gp := e3 _ _ gp
      replace gh := gh.same e3
      have hm := mixed_ge c n
      generalize mixed c n = m at hm ⊢
      -- for turn, way in enumerate([..])
      have gh0 := gh
      refine q_forEnum (xs := ways m) (el_lst (ea_cons (ev_op (ev_var rfl) ev_c (rv_I (show (0 : Int) < 27 by decide))) (ea_cons (ev_op (ev_op (ev_var rfl) ev_c (rv_I ⟨by decide, by decide⟩)) ev_c (rv_I (show (0 : Int) < 27 by decide))) (ea_cons (ev_op (ev_var rfl) ev_c (rv_I (show (0 : Int) < 27 by decide))) ea_nil))) (by show 3 ≤ 100000; decide)) (fun p1 t σ G => ∃ v5 v6 v7 v8 v9 v10 : Option V, σ = [some (.ref a), some (.ref l), some (.int (n : Nat)), some (.int c), some (.int m), v5, v6, v7, v8, v9, v10] ∧ G p0 = some (.lst (items ns)) ∧ G p1 = some (.lst (ways m)) ∧ Held K cs G l (3 * n + t))
        (fun p1 G3 n3 e4 h3 => ⟨v5, v6, v7, v8, v9, v10, rfl, e4 _ _ gp, h3, gh.same e4⟩) (fun p1 t σ G ⟨_, _, _, _, _, _, _, _, gp1, _⟩ => sq_of gp1) ?_ ?_
      · rintro p1 t z σ G T n3 ht hz ⟨v5, v6, v7, v8, v9, v10, rfl, gp, gp1, gh⟩ hT
        have n1l : p1 ≠ l := by
          obtain ⟨rs, q1, _⟩ := gh0
          exact (ne_of_none q1 n3).symm
        clear gh0 n3
        have ht3 : t < 3 := ht
        obtain ⟨i, hi, rfl⟩ := ways_at ht3 hz
        refine ⟨T, _, rfl, .inl (.inl upd_same), rfl, _, _, rfl, _, _, rfl, rfl, ?_⟩
        have eT : Ex G (upd G T (.tup [.int (t : Nat), .int (i : Nat)])) := Ex.new hT
        replace gp := eT _ _ gp
        replace gp1 := eT _ _ gp1
        replace gh := gh.same eT
        generalize upd G T (.tup [.int (t : Nat), .int (i : Nat)]) = G4 at gp gp1 gh ⊢
        clear hz hT eT
        obtain ⟨rs, q1, q2, q3⟩ := gh
        -- this, that
        refine ⟨_, rfl, _, rfl, _, _, rfl, rfl, _, _, rfl, by omega, by omega, _, rfl, mixed_ge _ _, fun x G5 s5 t5 => ⟨_, rfl, _, rfl, _, _, rfl, rfl, _, _, rfl, by omega, by omega, _, rfl, mixed_ge _ _, fun y G6 s6 t6 => ⟨_, _, rfl, ?_⟩⟩⟩
        have s46 : Same G4 G6 := s5.trans s6
        -- held.append(..)
        refine ⟨_, rfl, .inl ⟨rfl, _, sq_of (s46 _ _ q1)⟩, _, rfl, _, rfl, _, rfl, _, rfl, _, rfl, _, rfl, i, x, y, rfl, hi, fun ea d G7 s7 ha hd => ⟨(by show 4 ≤ sizeLine; decide), fun r hr => ?_⟩⟩
        have s47 : Same G4 G7 := s46.trans s7
        have S7 : Stands K cs G7 i x y ea (dThing (mixed m (3 + t))) (dThing (mixed m (13 + t))) :=
          ⟨hi, ⟨d, ha, hd⟩, thing_keep (fun b vs h => s7 _ _ (s6 _ _ h)) t5, thing_keep (fun b vs h => s7 _ _ h) t6, nice_thing _, nice_thing _⟩
        have e8 : Ex G7 (upd G7 r (.tup [.int (i : Nat), x, y, .ref ea])) := Ex.new hr
        have S8 := S7.same e8
        have r8 : (upd G7 r (.tup [.int (i : Nat), x, y, .ref ea])) r = some (.tup [.int (i : Nat), x, y, .ref ea]) := upd_same
        have s48 : Same G4 (upd G7 r (.tup [.int (i : Nat), x, y, .ref ea])) := s47.trans e8
        generalize upd G7 r (.tup [.int (i : Nat), x, y, .ref ea]) = G8 at S8 r8 s48 ⊢
        have l8 := s48 _ _ q1
        refine ⟨l, _, _, rfl, rfl, l8, ?_, ?_⟩
        · rw [List.length_map, sizeLine_eq]
          have hn2 : n < (items ns).length := hn
          omega
        have gh9 : Held K cs (upd G8 l (.lst (rs.map V.ref ++ [.ref r]))) l (3 * n + t + 1) := Held.app l8 q2 (fun r' hr' => (q3 r' hr').keep (.of s48)) ⟨i, x, y, ea, _, _, r8, S8⟩
        have S9 := S8.keep (KeepNL.upd (ys := rs.map V.ref ++ [.ref r]) l8)
        have r9 : (upd G8 l (.lst (rs.map V.ref ++ [.ref r]))) r = some (.tup [.int (i : Nat), x, y, .ref ea]) := KeepNL.upd l8 _ _ (fun xs z => by cases z) r8
        have p9 : (upd G8 l (.lst (rs.map V.ref ++ [.ref r]))) p0 = some (.lst (items ns)) := by rw [upd_ne n0l]; exact s48 _ _ gp
        have p91 : (upd G8 l (.lst (rs.map V.ref ++ [.ref r]))) p1 = some (.lst (ways m)) := by rw [upd_ne n1l]; exact s48 _ _ gp1
        have l9 : (upd G8 l (.lst (rs.map V.ref ++ [.ref r]))) l = some (.lst (rs.map V.ref ++ [.ref r])) := upd_same
        generalize upd G8 l (.lst (rs.map V.ref ++ [.ref r])) = G9 at gh9 S9 r9 p9 p91 l9 ⊢
        -- if not is_right(.., held[-1][3])
        refine ⟨_, rfl, _, rfl, _, rfl, _, rfl, _, rfl, l, _, _, _, rfl, rfl, sq_of l9, atI_last _ _, r, _, _, _, rfl, rfl, .inl (.inl r9), at3, i, x, y, ea, _, _, rfl, S9, fun G10 s10 => ⟨_, rfl, no_of rfl ?_⟩⟩
        exact ⟨_, _, _, _, _, _, rfl, s10 _ _ p9, s10 _ _ p91, gh9.same s10⟩
      · rintro p1 σ G _ ⟨v5, v6, v7, v8, v9, v10, rfl, gp, gp1, gh⟩
        clear gh0
        -- this, that
        refine ⟨_, rfl, _, _, rfl, by decide, by decide, _, rfl, mixed_ge _ _, fun x G5 s5 t5 => ⟨_, rfl, _, _, rfl, by decide, by decide, _, rfl, mixed_ge _ _, fun y G6 s6 t6 => ⟨_, _, rfl, ?_⟩⟩⟩
        -- for way, error in enumerate(by_names(this, that))
        refine ⟨_, rfl, _, rfl, x, y, rfl, fun p2 as G7 n7 s7 h7 rw7 => ⟨p2, as.map V.ref, rfl, sq_of h7, ?_⟩⟩
        have s07 : Same G G7 := (s5.trans s6).trans s7
        have las : as.length = 27 := rw7.len
        refine for_it (walk_enum (K := K) (a := p2) (xs := as.map V.ref)) (fun t σ G => ∃ v5 v6 v9 v10 : Option V, σ = [some (.ref a), some (.ref l), some (.int (n : Nat)), some (.int c), some (.int m), v5, v6, some x, some y, v9, v10] ∧ G p0 = some (.lst (items ns)) ∧ G p2 = some (.lst (as.map V.ref)) ∧ Held K cs G l (3 * n + 3)
            ∧ Rows cs x y G (List.range 27) as ∧ ThingAt K G x (dThing (mixed m 31)) ∧ ThingAt K G y (dThing (mixed m 37)))
          ⟨_, _, _, _, rfl, s07 _ _ gp, h7, gh.same s07, rw7, thing_keep (fun b vs h => s7 _ _ (s6 _ _ h)) t5, thing_keep (fun b vs h => s7 _ _ h) t6⟩ (fun t σ G _ ⟨_, _, _, _, _, _, gp2, _⟩ => sq_of gp2) ?_ ?_
        · clear gp gp1 gh s07 rw7 h7 s7 n7 t5 t6 s5 s6 G5 G6 G7
          rintro t u σ G1 G' ht ⟨v5, v6, v9, v10, rfl, gp, gp2, gh, rw7, t5, t6⟩ ⟨T, y0, z, rfl, hT, rfl, hy, hz⟩
          obtain rfl : V.int (t : Nat) = y0 := Option.some.inj hy
          have ht2 : t < 27 := by
            rw [List.length_map, las] at ht
            exact ht
          obtain ⟨ea, hea, X7⟩ := rw7.get t t (by rw [List.getElem?_range ht2])
          have hz2 : (as.map V.ref)[t]? = some z := hz
          rw [List.getElem?_map, hea] at hz2
          obtain rfl : V.ref ea = z := Option.some.inj hz2
          refine ⟨T, _, rfl, .inl (.inl upd_same), rfl, _, _, rfl, _, _, rfl, rfl, ?_⟩
          have eT : Ex G1 (upd G1 T (.tup [.int (t : Nat), .ref ea])) := Ex.new hT
          have S : Stands K cs G1 t x y ea (dThing (mixed m 31)) (dThing (mixed m 37)) := ⟨ht2, X7, t5, t6, nice_thing _, nice_thing _⟩
          refine ⟨_, rfl, _, rfl, _, rfl, _, rfl, t, x, y, ea, _, _, rfl, S.same eT, fun G10 s10 => ⟨_, rfl, no_of rfl ?_⟩⟩
          have s2 : Same G1 G10 := Same.trans eT s10
          exact ⟨_, _, _, _, rfl, s2 _ _ gp, s2 _ _ gp2, gh.same s2, rw7.same s2, thing_keep (fun b vs h => s2 _ _ h) t5, thing_keep (fun b vs h => s2 _ _ h) t6⟩
        · rintro σ G1 ⟨v5, v6, v9, v10, rfl, gp, _, gh, _⟩
          exact ⟨_, _, _, _, _, _, _, _, _, rfl, gp, gh.mono (by omega)⟩
    · -- the rows that aren't right: none
      rintro σ G ⟨v2, v3, v4, v5, v6, v7, v8, v9, v10, rfl, gp, gh⟩
      obtain ⟨rs, q1, q2, q3⟩ := gh
      refine ⟨_, rfl, l, rfl, ⟨_, sq_of q1⟩, fun D hD => ?_⟩
      refine lc_it (walk_list (K := K) (a := l) (xs := rs.map V.ref)) (fun t G' => Ex G G' ∧ G' D = some (.lst [])) ⟨Ex.new hD, upd_same⟩ (fun t G' _ q => sq_of (q.1 _ _ q1)) ?_ ?_
      · rintro t u G1 G' ht ⟨g1, g2⟩ ⟨rfl, hz⟩
        rw [List.getElem?_map] at hz
        obtain ⟨r, hr, rfl⟩ := Option.map_eq_some_iff.mp hz
        obtain ⟨i, x, y, ea, dx, dy, hr2, S⟩ := (q3 r (List.mem_of_getElem? hr)).keep (.of g1)
        have hr3 : SqT K G' r [.int (i : Nat), x, y, .ref ea] := .inl (.inl hr2)
        refine ⟨rfl, _, rfl, r, _, _, _, rfl, rfl, hr3, at0, _, rfl, r, _, _, _, rfl, rfl, hr3, at1, _, rfl, r, _, _, _, rfl, rfl, hr3, at2, _, rfl, r, _, _, _, rfl, rfl, hr3, at3, i, x, y, ea, dx, dy, rfl, S, fun G10 s10 => ⟨_, rfl, no_of rfl ?_⟩⟩
        exact ⟨g1.trans s10, s10 _ _ g2⟩
      · rintro G1 ⟨g1, g2⟩
        refine ⟨by show 0 ≤ sizeLine; exact Nat.zero_le _, fun l2 hl2 => ?_⟩
        refine ⟨.list [], .list [], .lst (sq_of (by rw [upd_ne (ne_of_none g2 hl2)]; exact g2)) .nil, .lst (sq_of upd_same) .nil, rfl, rfl, ?_⟩
        rw [show PyData.eqv (.list []) (.list []) = true by decide +kernel]
        exact k _
end
end T1

/-! X17: the classes from what the top has written -/
namespace T1
open PySem L2 PySem.VX Evl
open PySem.W in
def xbB (K : Frag) (C : Addr) (bmB : List Value) (newId : String) (fn : List Str) : Bool :=
  excInitIn K C bmB newId && (excOver K C bmB && (hasDictIn K C && (decide (findIn K (.ref C) "__setattr__" = some (some (.builtin "object.__setattr__"))) && (decide (findIn K (.ref C) "__getattribute__" = some (some (.builtin "BaseException.__getattribute__"))) &&
    (decide (findIn K (.ref C) "__getattr__" = some none) && (decide (findIn K (.ref C) "__class__" = some (some (.builtin "object.__class__"))) && (decide (mroIn K C (.type "object") = some true) && (fn.all (fun f => decide (findIn K (.ref C) f = some none)) &&
      (keepIn K (.ref C) && (decide (subIn K (.ref C) (.type "BaseException") = some true) && decide (typeIn K (.ref C) = some (.type "type"))))))))))))
theorem xbB_ok {K : PySem.W.Frag} {C : Addr} {bmB : List Value} {newId : String} {fn : List Str} (h : xbB K C bmB newId fn = true) : XB K bmB newId C fn := by
  unfold xbB at h
  obtain ⟨h1, h⟩ := Bool.and_eq_true_iff.mp h
  obtain ⟨h2, h⟩ := Bool.and_eq_true_iff.mp h
  obtain ⟨h3, h⟩ := Bool.and_eq_true_iff.mp h
  obtain ⟨h4, h⟩ := Bool.and_eq_true_iff.mp h
  obtain ⟨h5, h⟩ := Bool.and_eq_true_iff.mp h
  obtain ⟨h6, h⟩ := Bool.and_eq_true_iff.mp h
  obtain ⟨h7, h⟩ := Bool.and_eq_true_iff.mp h
  obtain ⟨h8, h⟩ := Bool.and_eq_true_iff.mp h
  obtain ⟨h9, h⟩ := Bool.and_eq_true_iff.mp h
  obtain ⟨h10, h⟩ := Bool.and_eq_true_iff.mp h
  obtain ⟨h11, h12⟩ := Bool.and_eq_true_iff.mp h
  exact ⟨h1, h2, h3, of_decide_eq_true h4, of_decide_eq_true h5, of_decide_eq_true h6, of_decide_eq_true h7, of_decide_eq_true h8, fun f hf => of_decide_eq_true (List.all_eq_true.mp h9 f hf), h10, of_decide_eq_true h11, of_decide_eq_true h12⟩
section
variable {prog : Program} {w : World} {K : PySem.W.Frag} {mg : Str → Option Value} {C fI : Addr} {bmB : List Value} {B newId initId : String} {qual nm : Str} {fd : FuncData}
theorem own_what (FB : ExcBaseFacts B newId initId bmB) (SF : StoreFacts B bmB "object.__setattr__" "object") (T : XB K bmB newId C [("what" : Str)]) (g : mg nm = some (.ref C)) (iC : PySem.W.findIn K (.ref C) "__init__" = some (some (.ref fI))) (tI : PySem.W.typeIn K (.ref fI) = some (.type "function"))
    (D : Ini1 K fI qual "what" fd) : OwnX prog w K mg nm C [("what" : Str)] := by
  have bp : ∀ (s : Shared) (x v : Value), BindsTo s fd ⟨[x, v], []⟩ [("self", x), ("what", v)] := fun s x v => by
    obtain ⟨oc, od, doc, pm, an, cdv, ct, osl, p1, p2, q1, q2, q3, q4, rfl, _⟩ := D.ex
    exact .of_eq (by first | rfl | with_unfolding_all rfl)
  have bk : ∀ (s : Shared) (x v : Value), BindsTo s fd ⟨[x], [("what", v)]⟩ [("self", x), ("what", v)] := fun s x v => by
    obtain ⟨oc, od, doc, pm, an, cdv, ct, osl, p1, p2, q1, q2, q3, q4, rfl, _⟩ := D.ex
    exact .of_eq (by first | rfl | with_unfolding_all rfl)
  refine ⟨g, ⟨bmB, B, newId, initId, fI, FB, T, iC, tI, fun us hl => ?_, fun us hl => ?_⟩, by decide⟩
  · match us, hl with
    | [v], _ => exact fun A R s x t0 X hlim hx hnx hroom hq => init_what SF T D X hlim hx hroom (bp s _ v) hq
  · match us, hl with
    | [v], _ => exact fun A R s x t0 X hlim hx hnx hroom hq => init_what SF T D X hlim hx hroom (bk s _ v) hq
theorem own_why (FB : ExcBaseFacts B newId initId bmB) (SF : StoreFacts B bmB "object.__setattr__" "object") (T : XB K bmB newId C [("why" : Str)]) (g : mg nm = some (.ref C)) (iC : PySem.W.findIn K (.ref C) "__init__" = some (some (.ref fI))) (tI : PySem.W.typeIn K (.ref fI) = some (.type "function"))
    (D : Ini1 K fI qual "why" fd) : OwnX prog w K mg nm C [("why" : Str)] := by
  have bp : ∀ (s : Shared) (x v : Value), BindsTo s fd ⟨[x, v], []⟩ [("self", x), ("why", v)] := fun s x v => by
    obtain ⟨oc, od, doc, pm, an, cdv, ct, osl, p1, p2, q1, q2, q3, q4, rfl, _⟩ := D.ex
    exact .of_eq (by first | rfl | with_unfolding_all rfl)
  have bk : ∀ (s : Shared) (x v : Value), BindsTo s fd ⟨[x], [("why", v)]⟩ [("self", x), ("why", v)] := fun s x v => by
    obtain ⟨oc, od, doc, pm, an, cdv, ct, osl, p1, p2, q1, q2, q3, q4, rfl, _⟩ := D.ex
    exact .of_eq (by first | rfl | with_unfolding_all rfl)
  refine ⟨g, ⟨bmB, B, newId, initId, fI, FB, T, iC, tI, fun us hl => ?_, fun us hl => ?_⟩, by decide⟩
  · match us, hl with
    | [v], _ => exact fun A R s x t0 X hlim hx hnx hroom hq => init_why SF T D X hlim hx hroom (bp s _ v) hq
  · match us, hl with
    | [v], _ => exact fun A R s x t0 X hlim hx hnx hroom hq => init_why SF T D X hlim hx hroom (bk s _ v) hq
theorem own_line (FB : ExcBaseFacts B newId initId bmB) (SF : StoreFacts B bmB "object.__setattr__" "object") (T : XB K bmB newId C [("line" : Str)]) (g : mg nm = some (.ref C)) (iC : PySem.W.findIn K (.ref C) "__init__" = some (some (.ref fI))) (tI : PySem.W.typeIn K (.ref fI) = some (.type "function"))
    (D : Ini1 K fI qual "line" fd) : OwnX prog w K mg nm C [("line" : Str)] := by
  have bp : ∀ (s : Shared) (x v : Value), BindsTo s fd ⟨[x, v], []⟩ [("self", x), ("line", v)] := fun s x v => by
    obtain ⟨oc, od, doc, pm, an, cdv, ct, osl, p1, p2, q1, q2, q3, q4, rfl, _⟩ := D.ex
    exact .of_eq (by first | rfl | with_unfolding_all rfl)
  have bk : ∀ (s : Shared) (x v : Value), BindsTo s fd ⟨[x], [("line", v)]⟩ [("self", x), ("line", v)] := fun s x v => by
    obtain ⟨oc, od, doc, pm, an, cdv, ct, osl, p1, p2, q1, q2, q3, q4, rfl, _⟩ := D.ex
    exact .of_eq (by first | rfl | with_unfolding_all rfl)
  refine ⟨g, ⟨bmB, B, newId, initId, fI, FB, T, iC, tI, fun us hl => ?_, fun us hl => ?_⟩, by decide⟩
  · match us, hl with
    | [v], _ => exact fun A R s x t0 X hlim hx hnx hroom hq => init_line SF T D X hlim hx hroom (bp s _ v) hq
  · match us, hl with
    | [v], _ => exact fun A R s x t0 X hlim hx hnx hroom hq => init_line SF T D X hlim hx hroom (bk s _ v) hq
theorem own_step (FB : ExcBaseFacts B newId initId bmB) (SF : StoreFacts B bmB "object.__setattr__" "object") (T : XB K bmB newId C [("step" : Str)]) (g : mg nm = some (.ref C)) (iC : PySem.W.findIn K (.ref C) "__init__" = some (some (.ref fI))) (tI : PySem.W.typeIn K (.ref fI) = some (.type "function"))
    (D : Ini1 K fI qual "step" fd) : OwnX prog w K mg nm C [("step" : Str)] := by
  have bp : ∀ (s : Shared) (x v : Value), BindsTo s fd ⟨[x, v], []⟩ [("self", x), ("step", v)] := fun s x v => by
    obtain ⟨oc, od, doc, pm, an, cdv, ct, osl, p1, p2, q1, q2, q3, q4, rfl, _⟩ := D.ex
    exact .of_eq (by first | rfl | with_unfolding_all rfl)
  have bk : ∀ (s : Shared) (x v : Value), BindsTo s fd ⟨[x], [("step", v)]⟩ [("self", x), ("step", v)] := fun s x v => by
    obtain ⟨oc, od, doc, pm, an, cdv, ct, osl, p1, p2, q1, q2, q3, q4, rfl, _⟩ := D.ex
    exact .of_eq (by first | rfl | with_unfolding_all rfl)
  refine ⟨g, ⟨bmB, B, newId, initId, fI, FB, T, iC, tI, fun us hl => ?_, fun us hl => ?_⟩, by decide⟩
  · match us, hl with
    | [v], _ => exact fun A R s x t0 X hlim hx hnx hroom hq => init_step SF T D X hlim hx hroom (bp s _ v) hq
  · match us, hl with
    | [v], _ => exact fun A R s x t0 X hlim hx hnx hroom hq => init_step SF T D X hlim hx hroom (bk s _ v) hq
theorem own_most (FB : ExcBaseFacts B newId initId bmB) (SF : StoreFacts B bmB "object.__setattr__" "object") (T : XB K bmB newId C [("most" : Str)]) (g : mg nm = some (.ref C)) (iC : PySem.W.findIn K (.ref C) "__init__" = some (some (.ref fI))) (tI : PySem.W.typeIn K (.ref fI) = some (.type "function"))
    (D : Ini1 K fI qual "most" fd) : OwnX prog w K mg nm C [("most" : Str)] := by
  have bp : ∀ (s : Shared) (x v : Value), BindsTo s fd ⟨[x, v], []⟩ [("self", x), ("most", v)] := fun s x v => by
    obtain ⟨oc, od, doc, pm, an, cdv, ct, osl, p1, p2, q1, q2, q3, q4, rfl, _⟩ := D.ex
    exact .of_eq (by first | rfl | with_unfolding_all rfl)
  have bk : ∀ (s : Shared) (x v : Value), BindsTo s fd ⟨[x], [("most", v)]⟩ [("self", x), ("most", v)] := fun s x v => by
    obtain ⟨oc, od, doc, pm, an, cdv, ct, osl, p1, p2, q1, q2, q3, q4, rfl, _⟩ := D.ex
    exact .of_eq (by first | rfl | with_unfolding_all rfl)
  refine ⟨g, ⟨bmB, B, newId, initId, fI, FB, T, iC, tI, fun us hl => ?_, fun us hl => ?_⟩, by decide⟩
  · match us, hl with
    | [v], _ => exact fun A R s x t0 X hlim hx hnx hroom hq => init_most SF T D X hlim hx hroom (bp s _ v) hq
  · match us, hl with
    | [v], _ => exact fun A R s x t0 X hlim hx hnx hroom hq => init_most SF T D X hlim hx hroom (bk s _ v) hq
theorem own_name (FB : ExcBaseFacts B newId initId bmB) (SF : StoreFacts B bmB "object.__setattr__" "object") (T : XB K bmB newId C [("name" : Str)]) (g : mg nm = some (.ref C)) (iC : PySem.W.findIn K (.ref C) "__init__" = some (some (.ref fI))) (tI : PySem.W.typeIn K (.ref fI) = some (.type "function"))
    (D : Ini1 K fI qual "name" fd) : OwnX prog w K mg nm C [("name" : Str)] := by
  have bp : ∀ (s : Shared) (x v : Value), BindsTo s fd ⟨[x, v], []⟩ [("self", x), ("name", v)] := fun s x v => by
    obtain ⟨oc, od, doc, pm, an, cdv, ct, osl, p1, p2, q1, q2, q3, q4, rfl, _⟩ := D.ex
    exact .of_eq (by first | rfl | with_unfolding_all rfl)
  have bk : ∀ (s : Shared) (x v : Value), BindsTo s fd ⟨[x], [("name", v)]⟩ [("self", x), ("name", v)] := fun s x v => by
    obtain ⟨oc, od, doc, pm, an, cdv, ct, osl, p1, p2, q1, q2, q3, q4, rfl, _⟩ := D.ex
    exact .of_eq (by first | rfl | with_unfolding_all rfl)
  refine ⟨g, ⟨bmB, B, newId, initId, fI, FB, T, iC, tI, fun us hl => ?_, fun us hl => ?_⟩, by decide⟩
  · match us, hl with
    | [v], _ => exact fun A R s x t0 X hlim hx hnx hroom hq => init_name SF T D X hlim hx hroom (bp s _ v) hq
  · match us, hl with
    | [v], _ => exact fun A R s x t0 X hlim hx hnx hroom hq => init_name SF T D X hlim hx hroom (bk s _ v) hq
theorem own_users (FB : ExcBaseFacts B newId initId bmB) (SF : StoreFacts B bmB "object.__setattr__" "object") (T : XB K bmB newId C [("users" : Str)]) (g : mg nm = some (.ref C)) (iC : PySem.W.findIn K (.ref C) "__init__" = some (some (.ref fI))) (tI : PySem.W.typeIn K (.ref fI) = some (.type "function"))
    (D : Ini1 K fI qual "users" fd) : OwnX prog w K mg nm C [("users" : Str)] := by
  have bp : ∀ (s : Shared) (x v : Value), BindsTo s fd ⟨[x, v], []⟩ [("self", x), ("users", v)] := fun s x v => by
    obtain ⟨oc, od, doc, pm, an, cdv, ct, osl, p1, p2, q1, q2, q3, q4, rfl, _⟩ := D.ex
    exact .of_eq (by first | rfl | with_unfolding_all rfl)
  have bk : ∀ (s : Shared) (x v : Value), BindsTo s fd ⟨[x], [("users", v)]⟩ [("self", x), ("users", v)] := fun s x v => by
    obtain ⟨oc, od, doc, pm, an, cdv, ct, osl, p1, p2, q1, q2, q3, q4, rfl, _⟩ := D.ex
    exact .of_eq (by first | rfl | with_unfolding_all rfl)
  refine ⟨g, ⟨bmB, B, newId, initId, fI, FB, T, iC, tI, fun us hl => ?_, fun us hl => ?_⟩, by decide⟩
  · match us, hl with
    | [v], _ => exact fun A R s x t0 X hlim hx hnx hroom hq => init_users SF T D X hlim hx hroom (bp s _ v) hq
  · match us, hl with
    | [v], _ => exact fun A R s x t0 X hlim hx hnx hroom hq => init_users SF T D X hlim hx hroom (bk s _ v) hq
theorem own_circle (FB : ExcBaseFacts B newId initId bmB) (SF : StoreFacts B bmB "object.__setattr__" "object") (T : XB K bmB newId C [("circle" : Str)]) (g : mg nm = some (.ref C)) (iC : PySem.W.findIn K (.ref C) "__init__" = some (some (.ref fI))) (tI : PySem.W.typeIn K (.ref fI) = some (.type "function"))
    (D : Ini1 K fI qual "circle" fd) : OwnX prog w K mg nm C [("circle" : Str)] := by
  have bp : ∀ (s : Shared) (x v : Value), BindsTo s fd ⟨[x, v], []⟩ [("self", x), ("circle", v)] := fun s x v => by
    obtain ⟨oc, od, doc, pm, an, cdv, ct, osl, p1, p2, q1, q2, q3, q4, rfl, _⟩ := D.ex
    exact .of_eq (by first | rfl | with_unfolding_all rfl)
  have bk : ∀ (s : Shared) (x v : Value), BindsTo s fd ⟨[x], [("circle", v)]⟩ [("self", x), ("circle", v)] := fun s x v => by
    obtain ⟨oc, od, doc, pm, an, cdv, ct, osl, p1, p2, q1, q2, q3, q4, rfl, _⟩ := D.ex
    exact .of_eq (by first | rfl | with_unfolding_all rfl)
  refine ⟨g, ⟨bmB, B, newId, initId, fI, FB, T, iC, tI, fun us hl => ?_, fun us hl => ?_⟩, by decide⟩
  · match us, hl with
    | [v], _ => exact fun A R s x t0 X hlim hx hnx hroom hq => init_circle SF T D X hlim hx hroom (bp s _ v) hq
  · match us, hl with
    | [v], _ => exact fun A R s x t0 X hlim hx hnx hroom hq => init_circle SF T D X hlim hx hroom (bk s _ v) hq
theorem own_two (FB : ExcBaseFacts B newId initId bmB) (SF : StoreFacts B bmB "object.__setattr__" "object") (T : XB K bmB newId C [("rule" : Str), ("things" : Str)]) (g : mg nm = some (.ref C)) (iC : PySem.W.findIn K (.ref C) "__init__" = some (some (.ref fI))) (tI : PySem.W.typeIn K (.ref fI) = some (.type "function"))
    (D : Ini2 K fI qual fd) : OwnX prog w K mg nm C [("rule" : Str), ("things" : Str)] := by
  have bp : ∀ (s : Shared) (x v u : Value), BindsTo s fd ⟨[x, v, u], []⟩ [("self", x), ("rule", v), ("things", u)] := fun s x v u => by
    obtain ⟨oc, od, doc, pm, an, cdv, ct, osl, p1, p2, p3, q1, q2, q3, q4, r1, r2, r3, r4, rfl, _⟩ := D.ex
    exact .of_eq (by first | rfl | with_unfolding_all rfl)
  have bk : ∀ (s : Shared) (x v u : Value), BindsTo s fd ⟨[x], [("things", u), ("rule", v)]⟩ [("self", x), ("rule", v), ("things", u)] := fun s x v u => by
    obtain ⟨oc, od, doc, pm, an, cdv, ct, osl, p1, p2, p3, q1, q2, q3, q4, r1, r2, r3, r4, rfl, _⟩ := D.ex
    exact .of_eq (by first | rfl | with_unfolding_all rfl)
  refine ⟨g, ⟨bmB, B, newId, initId, fI, FB, T, iC, tI, fun us hl => ?_, fun us hl => ?_⟩, by decide⟩
  · match us, hl with
    | [v, u], _ => exact fun A R s x t0 X hlim hx hnx hroom hq => init_two SF T D X hlim hx hnx hroom (bp s _ v u) hq
  · match us, hl with
    | [u, v], _ => exact fun A R s x t0 X hlim hx hnx hroom hq => init_two SF T D X hlim hx hnx hroom (bk s _ v u) hq
end
end T1

/-! X18: the end -/
namespace T1
open PySem L2 PySem.VX Evl
def tailOf (i : Nat) : List Value := if i < 16 then [.type "ValueError", .type "Exception", .type "BaseException", .type "object"] else if i < 21 then [.type "ArithmeticError", .type "Exception", .type "BaseException", .type "object"] else [.type "LookupError", .type "Exception", .type "BaseException", .type "object"]
def newOf (i : Nat) : String := if i < 16 then "ValueError.__new__" else if i < 21 then "ArithmeticError.__new__" else "LookupError.__new__"
def xbAll (K : PySem.W.Frag) (cs : List Addr) : Bool := (List.range 27).all fun i => xbB K (cs.getD i 0) (tailOf i) (newOf i) (fnW i)
def kitAll (K : PySem.W.Frag) (cs : List Addr) : Bool := (List.range 27).all fun i => (List.range 27).all fun j => decide (PySem.W.kitOne K (.ref (cs.getD i 0)) (.ref (cs.getD j 0)) = some (decide (i = j)))
def famAll (K : PySem.W.Frag) (cs : List Addr) (aR aU aK : Addr) : Bool := (List.range 27).all fun i =>
  decide (PySem.W.exmOne K (.ref (cs.getD i 0)) (.ref aR) = some (decide (i < 16))) && (decide (PySem.W.exmOne K (.ref (cs.getD i 0)) (.ref aU) = some (decide (16 ≤ i ∧ i < 21))) && (decide (PySem.W.exmOne K (.ref (cs.getD i 0)) (.ref aK) = some (decide (21 ≤ i))) &&
  (decide (PySem.W.kitOne K (.ref (cs.getD i 0)) (.ref aR) = some (decide (i < 16))) && (decide (PySem.W.kitOne K (.ref (cs.getD i 0)) (.type "ValueError") = some (decide (i < 16))) && (decide (PySem.W.kitOne K (.ref (cs.getD i 0)) (.ref aU) = some (decide (16 ≤ i ∧ i < 21))) &&
  (decide (PySem.W.kitOne K (.ref (cs.getD i 0)) (.type "ArithmeticError") = some (decide (16 ≤ i ∧ i < 21))) && (decide (PySem.W.kitOne K (.ref (cs.getD i 0)) (.ref aK) = some (decide (21 ≤ i))) && (decide (PySem.W.kitOne K (.ref (cs.getD i 0)) (.type "LookupError") = some (decide (21 ≤ i))) &&
  (decide (PySem.W.kitOne K (.ref (cs.getD i 0)) (.type "KeyError") = some false) && (decide (PySem.W.kitOne K (.ref (cs.getD i 0)) (.type "IndexError") = some false) && decide (PySem.W.kitOne K (.ref (cs.getD i 0)) (.type "ZeroDivisionError") = some false)))))))))))
def clsAll (K : PySem.W.Frag) : Bool := decide (PySem.W.specialIn K (.builtin "object.__class__") "__get__" = some (some (.builtin "getset_descriptor.__get__"))) && decide (PySem.W.takesIn K (.builtin "object.__class__") = some true)
theorem all27 {p : Nat → Bool} (h : (List.range 27).all p = true) {i : Nat} (hi : i < 27) : p i = true := List.all_eq_true.mp h i (List.mem_range.mpr hi)
theorem kin_of {K : PySem.W.Frag} {cs : List Addr} (h1 : xbAll K cs = true) (h2 : kitAll K cs = true) (h3 : clsAll K = true) : Kin K (fun i => cs.getD i 0) := by
  obtain ⟨c1, c2⟩ := Bool.and_eq_true_iff.mp h3
  refine ⟨fun i hi => ?_, fun i j hi hj => of_decide_eq_true (all27 (all27 h2 hi) hj)⟩
  have T := xbB_ok (all27 h1 hi)
  exact ⟨T.ga, T.gg, T.exc, T.hd, T.ca, of_decide_eq_true c1, of_decide_eq_true c2, T.mo⟩
theorem fam_of {K : PySem.W.Frag} {mg : Str → Option Value} {cs : List Addr} {aR aU aK : Addr} (h : famAll K cs aR aU aK = true) (gR : mg "Refused" = some (.ref aR)) (gU : mg "Unreckoned" = some (.ref aU)) (gK : mg "Unknown" = some (.ref aK)) (k : Kin K (fun i => cs.getD i 0)) :
    Fam K mg (fun i => cs.getD i 0) aR aU aK ∧ KinF K (fun i => cs.getD i 0) aR aU aK := by
  refine ⟨⟨gR, gU, gK, fun i hi => ?_, fun i hi => ?_, fun i hi => ?_⟩, ⟨k.ex, fun i hi => ?_, fun i hi => ?_, fun i hi => ?_, fun i hi => ?_, fun i hi => ?_, fun i hi => ?_, fun i hi => ?_, fun i hi => ?_, fun i hi => ?_⟩⟩
  all_goals
    have q := all27 h hi
    simp only [Bool.and_eq_true, decide_eq_true_eq] at q
    obtain ⟨q1, q2, q3, q4, q5, q6, q7, q8, q9, q10, q11, q12⟩ := q
    assumption
theorem all_mk {l : PySem.W.OpenLaw} {w : World} {K : PySem.W.Frag} {h : Heap} {mg : Str → Option Value} {fa aR aU aK C0 C1 C2 C3 C4 C5 C6 C7 C8 C9 C10 C11 C12 C13 C14 C15 C16 C17 C18 C19 C20 C21 C22 C23 C24 C25 C26 f0 f1 f2 f3 f4 f5 f6 f7 f8 f9 f10 f11 f12 f13 f14 f15 f16 f17 f18 f19 f20 f21 f22 f23 f24 f25 f26 g0 g1 g2 g3 g4 g5 g6 g7 g8 g9 g10 g11 : Addr} (X : K.In h) (G : h.Ns mainGlobals mg) (hfa : mg "law" = some (.ref fa))
    {od0 an0 : Option Addr} {sl0 : Array (Option Value)} {oc0 dc0 pm0 cd0 ct0 : Value} {p0_0 p0_1 p0_2 p0_3 p0_4 p0_5 : Pos}
    {od1 an1 : Option Addr} {sl1 : Array (Option Value)} {oc1 dc1 pm1 cd1 ct1 : Value} {p1_0 p1_1 p1_2 p1_3 p1_4 p1_5 p1_6 p1_7 p1_8 p1_9 p1_10 : Pos}
    {od2 an2 : Option Addr} {sl2 : Array (Option Value)} {oc2 dc2 pm2 cd2 ct2 : Value} {p2_0 p2_1 p2_2 p2_3 p2_4 p2_5 : Pos}
    {od3 an3 : Option Addr} {sl3 : Array (Option Value)} {oc3 dc3 pm3 cd3 ct3 : Value} {p3_0 p3_1 p3_2 p3_3 p3_4 p3_5 : Pos}
    {od4 an4 : Option Addr} {sl4 : Array (Option Value)} {oc4 dc4 pm4 cd4 ct4 : Value} {p4_0 p4_1 p4_2 p4_3 p4_4 p4_5 : Pos}
    {od5 an5 : Option Addr} {sl5 : Array (Option Value)} {oc5 dc5 pm5 cd5 ct5 : Value} {p5_0 p5_1 p5_2 p5_3 p5_4 p5_5 : Pos}
    {od6 an6 : Option Addr} {sl6 : Array (Option Value)} {oc6 dc6 pm6 cd6 ct6 : Value} {p6_0 p6_1 p6_2 p6_3 p6_4 p6_5 : Pos}
    {od7 an7 : Option Addr} {sl7 : Array (Option Value)} {oc7 dc7 pm7 cd7 ct7 : Value} {p7_0 p7_1 p7_2 p7_3 p7_4 p7_5 : Pos}
    {od8 an8 : Option Addr} {sl8 : Array (Option Value)} {oc8 dc8 pm8 cd8 ct8 : Value} {p8_0 p8_1 p8_2 p8_3 p8_4 p8_5 : Pos}
    {od9 an9 : Option Addr} {sl9 : Array (Option Value)} {oc9 dc9 pm9 cd9 ct9 : Value} {p9_0 p9_1 p9_2 p9_3 p9_4 p9_5 : Pos}
    {od10 an10 : Option Addr} {sl10 : Array (Option Value)} {oc10 dc10 pm10 cd10 ct10 : Value} {p10_0 p10_1 p10_2 p10_3 p10_4 p10_5 : Pos}
    {od11 an11 : Option Addr} {sl11 : Array (Option Value)} {oc11 dc11 pm11 cd11 ct11 : Value} {p11_0 p11_1 p11_2 p11_3 p11_4 p11_5 : Pos}
    {od12 an12 : Option Addr} {sl12 : Array (Option Value)} {oc12 dc12 pm12 cd12 ct12 : Value} {p12_0 p12_1 p12_2 p12_3 p12_4 p12_5 : Pos}
    {od13 an13 : Option Addr} {sl13 : Array (Option Value)} {oc13 dc13 pm13 cd13 ct13 : Value} {p13_0 p13_1 p13_2 p13_3 p13_4 p13_5 : Pos}
    {od14 an14 : Option Addr} {sl14 : Array (Option Value)} {oc14 dc14 pm14 cd14 ct14 : Value} {p14_0 p14_1 p14_2 p14_3 p14_4 p14_5 : Pos}
    {od15 an15 : Option Addr} {sl15 : Array (Option Value)} {oc15 dc15 pm15 cd15 ct15 : Value} {p15_0 p15_1 p15_2 p15_3 p15_4 p15_5 : Pos}
    {od16 an16 : Option Addr} {sl16 : Array (Option Value)} {oc16 dc16 pm16 cd16 ct16 : Value} {p16_0 p16_1 p16_2 p16_3 p16_4 p16_5 : Pos}
    {od17 an17 : Option Addr} {sl17 : Array (Option Value)} {oc17 dc17 pm17 cd17 ct17 : Value} {p17_0 p17_1 p17_2 p17_3 p17_4 p17_5 : Pos}
    {od18 an18 : Option Addr} {sl18 : Array (Option Value)} {oc18 dc18 pm18 cd18 ct18 : Value} {p18_0 p18_1 p18_2 p18_3 p18_4 p18_5 : Pos}
    {od19 an19 : Option Addr} {sl19 : Array (Option Value)} {oc19 dc19 pm19 cd19 ct19 : Value} {p19_0 p19_1 p19_2 p19_3 p19_4 p19_5 : Pos}
    {od20 an20 : Option Addr} {sl20 : Array (Option Value)} {oc20 dc20 pm20 cd20 ct20 : Value} {p20_0 p20_1 p20_2 p20_3 p20_4 p20_5 : Pos}
    {od21 an21 : Option Addr} {sl21 : Array (Option Value)} {oc21 dc21 pm21 cd21 ct21 : Value} {p21_0 p21_1 p21_2 p21_3 p21_4 p21_5 : Pos}
    {od22 an22 : Option Addr} {sl22 : Array (Option Value)} {oc22 dc22 pm22 cd22 ct22 : Value} {p22_0 p22_1 p22_2 p22_3 p22_4 p22_5 : Pos}
    {od23 an23 : Option Addr} {sl23 : Array (Option Value)} {oc23 dc23 pm23 cd23 ct23 : Value} {p23_0 p23_1 p23_2 p23_3 p23_4 p23_5 : Pos}
    {od24 an24 : Option Addr} {sl24 : Array (Option Value)} {oc24 dc24 pm24 cd24 ct24 : Value} {p24_0 p24_1 p24_2 p24_3 p24_4 p24_5 : Pos}
    {od25 an25 : Option Addr} {sl25 : Array (Option Value)} {oc25 dc25 pm25 cd25 ct25 : Value} {p25_0 p25_1 p25_2 p25_3 p25_4 p25_5 : Pos}
    {od26 an26 : Option Addr} {sl26 : Array (Option Value)} {oc26 dc26 pm26 cd26 ct26 : Value} {p26_0 p26_1 p26_2 p26_3 p26_4 p26_5 : Pos}
    {ox0 ax0 : Option Addr} {sx0 : Array (Option Value)} {cx0 kx0 dx0 px0 ex0 tx0 : Value}
    {ox1 ax1 : Option Addr} {sx1 : Array (Option Value)} {cx1 kx1 dx1 px1 ex1 tx1 : Value}
    {ox2 ax2 : Option Addr} {sx2 : Array (Option Value)} {cx2 kx2 dx2 px2 ex2 tx2 : Value}
    {ox3 ax3 : Option Addr} {sx3 : Array (Option Value)} {cx3 kx3 dx3 px3 ex3 tx3 : Value}
    {ox4 ax4 : Option Addr} {sx4 : Array (Option Value)} {cx4 kx4 dx4 px4 ex4 tx4 : Value}
    {ox5 ax5 : Option Addr} {sx5 : Array (Option Value)} {cx5 kx5 dx5 px5 ex5 tx5 : Value}
    {ox6 ax6 : Option Addr} {sx6 : Array (Option Value)} {cx6 kx6 dx6 px6 ex6 tx6 : Value}
    {ox7 ax7 : Option Addr} {sx7 : Array (Option Value)} {cx7 kx7 dx7 px7 ex7 tx7 : Value}
    {ox8 ax8 : Option Addr} {sx8 : Array (Option Value)} {cx8 kx8 dx8 px8 ex8 tx8 : Value}
    {ox9 ax9 : Option Addr} {sx9 : Array (Option Value)} {cx9 kx9 dx9 px9 ex9 tx9 : Value}
    {ox10 ax10 : Option Addr} {sx10 : Array (Option Value)} {cx10 kx10 dx10 px10 ex10 tx10 : Value}
    {ox11 ax11 : Option Addr} {sx11 : Array (Option Value)} {cx11 kx11 dx11 px11 ex11 tx11 : Value}
    (qaR : PySem.W.nsIn K mainGlobals "Refused" = some (some (.ref aR)))
    (qaU : PySem.W.nsIn K mainGlobals "Unreckoned" = some (some (.ref aU)))
    (qaK : PySem.W.nsIn K mainGlobals "Unknown" = some (some (.ref aK)))
    (A0 : PySem.W.nsIn K mainGlobals "BadRing" = some (some (.ref C0))) (I0 : PySem.W.findIn K (.ref C0) "__init__" = some (some (.ref f0))) (Y0 : PySem.W.typeIn K (.ref f0) = some (.type "function"))
    (L0 : K.lookup f0 = some ⟨oc0, od0, .func (PySem.W.fnOf "__init__" "BadRing.__init__" (fA "what" p0_0 p0_1) (fB "what" p0_2 p0_3 p0_4 p0_5) (fS "what") .none .none dc0 pm0 an0 cd0 ct0), sl0⟩) (D0 : PySem.W.codeIn K cd0 "BadRing.__init__" = true)
    (A1 : PySem.W.nsIn K mainGlobals "BadTable" = some (some (.ref C1))) (I1 : PySem.W.findIn K (.ref C1) "__init__" = some (some (.ref f1))) (Y1 : PySem.W.typeIn K (.ref f1) = some (.type "function"))
    (L1 : K.lookup f1 = some ⟨oc1, od1, .func (PySem.W.fnOf "__init__" "BadTable.__init__" (gA p1_0 p1_1 p1_2) (gB p1_3 p1_4 p1_5 p1_6 p1_7 p1_8 p1_9 p1_10) gS .none .none dc1 pm1 an1 cd1 ct1), sl1⟩) (D1 : PySem.W.codeIn K cd1 "BadTable.__init__" = true)
    (A2 : PySem.W.nsIn K mainGlobals "BadWeight" = some (some (.ref C2))) (I2 : PySem.W.findIn K (.ref C2) "__init__" = some (some (.ref f2))) (Y2 : PySem.W.typeIn K (.ref f2) = some (.type "function"))
    (L2 : K.lookup f2 = some ⟨oc2, od2, .func (PySem.W.fnOf "__init__" "BadWeight.__init__" (fA "why" p2_0 p2_1) (fB "why" p2_2 p2_3 p2_4 p2_5) (fS "why") .none .none dc2 pm2 an2 cd2 ct2), sl2⟩) (D2 : PySem.W.codeIn K cd2 "BadWeight.__init__" = true)
    (A3 : PySem.W.nsIn K mainGlobals "BadLeading" = some (some (.ref C3))) (I3 : PySem.W.findIn K (.ref C3) "__init__" = some (some (.ref f3))) (Y3 : PySem.W.typeIn K (.ref f3) = some (.type "function"))
    (L3 : K.lookup f3 = some ⟨oc3, od3, .func (PySem.W.fnOf "__init__" "BadLeading.__init__" (fA "why" p3_0 p3_1) (fB "why" p3_2 p3_3 p3_4 p3_5) (fS "why") .none .none dc3 pm3 an3 cd3 ct3), sl3⟩) (D3 : PySem.W.codeIn K cd3 "BadLeading.__init__" = true)
    (A4 : PySem.W.nsIn K mainGlobals "BadNumber" = some (some (.ref C4))) (I4 : PySem.W.findIn K (.ref C4) "__init__" = some (some (.ref f4))) (Y4 : PySem.W.typeIn K (.ref f4) = some (.type "function"))
    (L4 : K.lookup f4 = some ⟨oc4, od4, .func (PySem.W.fnOf "__init__" "BadNumber.__init__" (fA "why" p4_0 p4_1) (fB "why" p4_2 p4_3 p4_4 p4_5) (fS "why") .none .none dc4 pm4 an4 cd4 ct4), sl4⟩) (D4 : PySem.W.codeIn K cd4 "BadNumber.__init__" = true)
    (A5 : PySem.W.nsIn K mainGlobals "BadWord" = some (some (.ref C5))) (I5 : PySem.W.findIn K (.ref C5) "__init__" = some (some (.ref f5))) (Y5 : PySem.W.typeIn K (.ref f5) = some (.type "function"))
    (L5 : K.lookup f5 = some ⟨oc5, od5, .func (PySem.W.fnOf "__init__" "BadWord.__init__" (fA "why" p5_0 p5_1) (fB "why" p5_2 p5_3 p5_4 p5_5) (fS "why") .none .none dc5 pm5 an5 cd5 ct5), sl5⟩) (D5 : PySem.W.codeIn K cd5 "BadWord.__init__" = true)
    (A6 : PySem.W.nsIn K mainGlobals "BadWeb" = some (some (.ref C6))) (I6 : PySem.W.findIn K (.ref C6) "__init__" = some (some (.ref f6))) (Y6 : PySem.W.typeIn K (.ref f6) = some (.type "function"))
    (L6 : K.lookup f6 = some ⟨oc6, od6, .func (PySem.W.fnOf "__init__" "BadWeb.__init__" (fA "why" p6_0 p6_1) (fB "why" p6_2 p6_3 p6_4 p6_5) (fS "why") .none .none dc6 pm6 an6 cd6 ct6), sl6⟩) (D6 : PySem.W.codeIn K cd6 "BadWeb.__init__" = true)
    (A7 : PySem.W.nsIn K mainGlobals "BadPath" = some (some (.ref C7))) (I7 : PySem.W.findIn K (.ref C7) "__init__" = some (some (.ref f7))) (Y7 : PySem.W.typeIn K (.ref f7) = some (.type "function"))
    (L7 : K.lookup f7 = some ⟨oc7, od7, .func (PySem.W.fnOf "__init__" "BadPath.__init__" (fA "why" p7_0 p7_1) (fB "why" p7_2 p7_3 p7_4 p7_5) (fS "why") .none .none dc7 pm7 an7 cd7 ct7), sl7⟩) (D7 : PySem.W.codeIn K cd7 "BadPath.__init__" = true)
    (A8 : PySem.W.nsIn K mainGlobals "BadAutomaton" = some (some (.ref C8))) (I8 : PySem.W.findIn K (.ref C8) "__init__" = some (some (.ref f8))) (Y8 : PySem.W.typeIn K (.ref f8) = some (.type "function"))
    (L8 : K.lookup f8 = some ⟨oc8, od8, .func (PySem.W.fnOf "__init__" "BadAutomaton.__init__" (fA "why" p8_0 p8_1) (fB "why" p8_2 p8_3 p8_4 p8_5) (fS "why") .none .none dc8 pm8 an8 cd8 ct8), sl8⟩) (D8 : PySem.W.codeIn K cd8 "BadAutomaton.__init__" = true)
    (A9 : PySem.W.nsIn K mainGlobals "BadExpression" = some (some (.ref C9))) (I9 : PySem.W.findIn K (.ref C9) "__init__" = some (some (.ref f9))) (Y9 : PySem.W.typeIn K (.ref f9) = some (.type "function"))
    (L9 : K.lookup f9 = some ⟨oc9, od9, .func (PySem.W.fnOf "__init__" "BadExpression.__init__" (fA "why" p9_0 p9_1) (fB "why" p9_2 p9_3 p9_4 p9_5) (fS "why") .none .none dc9 pm9 an9 cd9 ct9), sl9⟩) (D9 : PySem.W.codeIn K cd9 "BadExpression.__init__" = true)
    (A10 : PySem.W.nsIn K mainGlobals "BadTransducer" = some (some (.ref C10))) (I10 : PySem.W.findIn K (.ref C10) "__init__" = some (some (.ref f10))) (Y10 : PySem.W.typeIn K (.ref f10) = some (.type "function"))
    (L10 : K.lookup f10 = some ⟨oc10, od10, .func (PySem.W.fnOf "__init__" "BadTransducer.__init__" (fA "why" p10_0 p10_1) (fB "why" p10_2 p10_3 p10_4 p10_5) (fS "why") .none .none dc10 pm10 an10 cd10 ct10), sl10⟩) (D10 : PySem.W.codeIn K cd10 "BadTransducer.__init__" = true)
    (A11 : PySem.W.nsIn K mainGlobals "BadMachine" = some (some (.ref C11))) (I11 : PySem.W.findIn K (.ref C11) "__init__" = some (some (.ref f11))) (Y11 : PySem.W.typeIn K (.ref f11) = some (.type "function"))
    (L11 : K.lookup f11 = some ⟨oc11, od11, .func (PySem.W.fnOf "__init__" "BadMachine.__init__" (fA "why" p11_0 p11_1) (fB "why" p11_2 p11_3 p11_4 p11_5) (fS "why") .none .none dc11 pm11 an11 cd11 ct11), sl11⟩) (D11 : PySem.W.codeIn K cd11 "BadMachine.__init__" = true)
    (A12 : PySem.W.nsIn K mainGlobals "BadAnswer" = some (some (.ref C12))) (I12 : PySem.W.findIn K (.ref C12) "__init__" = some (some (.ref f12))) (Y12 : PySem.W.typeIn K (.ref f12) = some (.type "function"))
    (L12 : K.lookup f12 = some ⟨oc12, od12, .func (PySem.W.fnOf "__init__" "BadAnswer.__init__" (fA "why" p12_0 p12_1) (fB "why" p12_2 p12_3 p12_4 p12_5) (fS "why") .none .none dc12 pm12 an12 cd12 ct12), sl12⟩) (D12 : PySem.W.codeIn K cd12 "BadAnswer.__init__" = true)
    (A13 : PySem.W.nsIn K mainGlobals "BadName" = some (some (.ref C13))) (I13 : PySem.W.findIn K (.ref C13) "__init__" = some (some (.ref f13))) (Y13 : PySem.W.typeIn K (.ref f13) = some (.type "function"))
    (L13 : K.lookup f13 = some ⟨oc13, od13, .func (PySem.W.fnOf "__init__" "BadName.__init__" (fA "why" p13_0 p13_1) (fB "why" p13_2 p13_3 p13_4 p13_5) (fS "why") .none .none dc13 pm13 an13 cd13 ct13), sl13⟩) (D13 : PySem.W.codeIn K cd13 "BadName.__init__" = true)
    (A14 : PySem.W.nsIn K mainGlobals "BadDeed" = some (some (.ref C14))) (I14 : PySem.W.findIn K (.ref C14) "__init__" = some (some (.ref f14))) (Y14 : PySem.W.typeIn K (.ref f14) = some (.type "function"))
    (L14 : K.lookup f14 = some ⟨oc14, od14, .func (PySem.W.fnOf "__init__" "BadDeed.__init__" (fA "why" p14_0 p14_1) (fB "why" p14_2 p14_3 p14_4 p14_5) (fS "why") .none .none dc14 pm14 an14 cd14 ct14), sl14⟩) (D14 : PySem.W.codeIn K cd14 "BadDeed.__init__" = true)
    (A15 : PySem.W.nsIn K mainGlobals "BadLine" = some (some (.ref C15))) (I15 : PySem.W.findIn K (.ref C15) "__init__" = some (some (.ref f15))) (Y15 : PySem.W.typeIn K (.ref f15) = some (.type "function"))
    (L15 : K.lookup f15 = some ⟨oc15, od15, .func (PySem.W.fnOf "__init__" "BadLine.__init__" (fA "line" p15_0 p15_1) (fB "line" p15_2 p15_3 p15_4 p15_5) (fS "line") .none .none dc15 pm15 an15 cd15 ct15), sl15⟩) (D15 : PySem.W.codeIn K cd15 "BadLine.__init__" = true)
    (A16 : PySem.W.nsIn K mainGlobals "NoStar" = some (some (.ref C16))) (I16 : PySem.W.findIn K (.ref C16) "__init__" = some (some (.ref f16))) (Y16 : PySem.W.typeIn K (.ref f16) = some (.type "function"))
    (L16 : K.lookup f16 = some ⟨oc16, od16, .func (PySem.W.fnOf "__init__" "NoStar.__init__" (fA "why" p16_0 p16_1) (fB "why" p16_2 p16_3 p16_4 p16_5) (fS "why") .none .none dc16 pm16 an16 cd16 ct16), sl16⟩) (D16 : PySem.W.codeIn K cd16 "NoStar.__init__" = true)
    (A17 : PySem.W.nsIn K mainGlobals "NoOrder" = some (some (.ref C17))) (I17 : PySem.W.findIn K (.ref C17) "__init__" = some (some (.ref f17))) (Y17 : PySem.W.typeIn K (.ref f17) = some (.type "function"))
    (L17 : K.lookup f17 = some ⟨oc17, od17, .func (PySem.W.fnOf "__init__" "NoOrder.__init__" (fA "step" p17_0 p17_1) (fB "step" p17_2 p17_3 p17_4 p17_5) (fS "step") .none .none dc17 pm17 an17 cd17 ct17), sl17⟩) (D17 : PySem.W.codeIn K cd17 "NoOrder.__init__" = true)
    (A18 : PySem.W.nsIn K mainGlobals "NotClosed" = some (some (.ref C18))) (I18 : PySem.W.findIn K (.ref C18) "__init__" = some (some (.ref f18))) (Y18 : PySem.W.typeIn K (.ref f18) = some (.type "function"))
    (L18 : K.lookup f18 = some ⟨oc18, od18, .func (PySem.W.fnOf "__init__" "NotClosed.__init__" (fA "why" p18_0 p18_1) (fB "why" p18_2 p18_3 p18_4 p18_5) (fS "why") .none .none dc18 pm18 an18 cd18 ct18), sl18⟩) (D18 : PySem.W.codeIn K cd18 "NotClosed.__init__" = true)
    (A19 : PySem.W.nsIn K mainGlobals "NotFew" = some (some (.ref C19))) (I19 : PySem.W.findIn K (.ref C19) "__init__" = some (some (.ref f19))) (Y19 : PySem.W.typeIn K (.ref f19) = some (.type "function"))
    (L19 : K.lookup f19 = some ⟨oc19, od19, .func (PySem.W.fnOf "__init__" "NotFew.__init__" (fA "why" p19_0 p19_1) (fB "why" p19_2 p19_3 p19_4 p19_5) (fS "why") .none .none dc19 pm19 an19 cd19 ct19), sl19⟩) (D19 : PySem.W.codeIn K cd19 "NotFew.__init__" = true)
    (A20 : PySem.W.nsIn K mainGlobals "TooMany" = some (some (.ref C20))) (I20 : PySem.W.findIn K (.ref C20) "__init__" = some (some (.ref f20))) (Y20 : PySem.W.typeIn K (.ref f20) = some (.type "function"))
    (L20 : K.lookup f20 = some ⟨oc20, od20, .func (PySem.W.fnOf "__init__" "TooMany.__init__" (fA "most" p20_0 p20_1) (fB "most" p20_2 p20_3 p20_4 p20_5) (fS "most") .none .none dc20 pm20 an20 cd20 ct20), sl20⟩) (D20 : PySem.W.codeIn K cd20 "TooMany.__init__" = true)
    (A21 : PySem.W.nsIn K mainGlobals "NoName" = some (some (.ref C21))) (I21 : PySem.W.findIn K (.ref C21) "__init__" = some (some (.ref f21))) (Y21 : PySem.W.typeIn K (.ref f21) = some (.type "function"))
    (L21 : K.lookup f21 = some ⟨oc21, od21, .func (PySem.W.fnOf "__init__" "NoName.__init__" (fA "name" p21_0 p21_1) (fB "name" p21_2 p21_3 p21_4 p21_5) (fS "name") .none .none dc21 pm21 an21 cd21 ct21), sl21⟩) (D21 : PySem.W.codeIn K cd21 "NoName.__init__" = true)
    (A22 : PySem.W.nsIn K mainGlobals "Taken" = some (some (.ref C22))) (I22 : PySem.W.findIn K (.ref C22) "__init__" = some (some (.ref f22))) (Y22 : PySem.W.typeIn K (.ref f22) = some (.type "function"))
    (L22 : K.lookup f22 = some ⟨oc22, od22, .func (PySem.W.fnOf "__init__" "Taken.__init__" (fA "name" p22_0 p22_1) (fB "name" p22_2 p22_3 p22_4 p22_5) (fS "name") .none .none dc22 pm22 an22 cd22 ct22), sl22⟩) (D22 : PySem.W.codeIn K cd22 "Taken.__init__" = true)
    (A23 : PySem.W.nsIn K mainGlobals "InUse" = some (some (.ref C23))) (I23 : PySem.W.findIn K (.ref C23) "__init__" = some (some (.ref f23))) (Y23 : PySem.W.typeIn K (.ref f23) = some (.type "function"))
    (L23 : K.lookup f23 = some ⟨oc23, od23, .func (PySem.W.fnOf "__init__" "InUse.__init__" (fA "users" p23_0 p23_1) (fB "users" p23_2 p23_3 p23_4 p23_5) (fS "users") .none .none dc23 pm23 an23 cd23 ct23), sl23⟩) (D23 : PySem.W.codeIn K cd23 "InUse.__init__" = true)
    (A24 : PySem.W.nsIn K mainGlobals "Round" = some (some (.ref C24))) (I24 : PySem.W.findIn K (.ref C24) "__init__" = some (some (.ref f24))) (Y24 : PySem.W.typeIn K (.ref f24) = some (.type "function"))
    (L24 : K.lookup f24 = some ⟨oc24, od24, .func (PySem.W.fnOf "__init__" "Round.__init__" (fA "circle" p24_0 p24_1) (fB "circle" p24_2 p24_3 p24_4 p24_5) (fS "circle") .none .none dc24 pm24 an24 cd24 ct24), sl24⟩) (D24 : PySem.W.codeIn K cd24 "Round.__init__" = true)
    (A25 : PySem.W.nsIn K mainGlobals "TooDeep" = some (some (.ref C25))) (I25 : PySem.W.findIn K (.ref C25) "__init__" = some (some (.ref f25))) (Y25 : PySem.W.typeIn K (.ref f25) = some (.type "function"))
    (L25 : K.lookup f25 = some ⟨oc25, od25, .func (PySem.W.fnOf "__init__" "TooDeep.__init__" (fA "name" p25_0 p25_1) (fB "name" p25_2 p25_3 p25_4 p25_5) (fS "name") .none .none dc25 pm25 an25 cd25 ct25), sl25⟩) (D25 : PySem.W.codeIn K cd25 "TooDeep.__init__" = true)
    (A26 : PySem.W.nsIn K mainGlobals "Nothing" = some (some (.ref C26))) (I26 : PySem.W.findIn K (.ref C26) "__init__" = some (some (.ref f26))) (Y26 : PySem.W.typeIn K (.ref f26) = some (.type "function"))
    (L26 : K.lookup f26 = some ⟨oc26, od26, .func (PySem.W.fnOf "__init__" "Nothing.__init__" (fA "why" p26_0 p26_1) (fB "why" p26_2 p26_3 p26_4 p26_5) (fS "why") .none .none dc26 pm26 an26 cd26 ct26), sl26⟩) (D26 : PySem.W.codeIn K cd26 "Nothing.__init__" = true)
    (a0 : PySem.W.nsIn K mainGlobals "_law_mixed" = some (some (.ref g0))) (l0 : K.lookup g0 = some ⟨cx0, ox0, .func (PySem.W.fnOf "_law_mixed" "_law_mixed" (defArgs sMix) (defBody sMix) (defScope sMix) .none kx0 dx0 px0 ax0 ex0 tx0), sx0⟩) (d0 : PySem.W.codeIn K ex0 "_law_mixed" = true) (k0 : PySem.W.keepIn K (.ref g0) = true)
    (a1 : PySem.W.nsIn K mainGlobals "_law_raise_one" = some (some (.ref g1))) (l1 : K.lookup g1 = some ⟨cx1, ox1, .func (PySem.W.fnOf "_law_raise_one" "_law_raise_one" (defArgs sOne) (defBody sOne) (defScope sOne) .none kx1 dx1 px1 ax1 ex1 tx1), sx1⟩) (d1 : PySem.W.codeIn K ex1 "_law_raise_one" = true) (k1 : PySem.W.keepIn K (.ref g1) = true)
    (a2 : PySem.W.nsIn K mainGlobals "_law_raise_two" = some (some (.ref g2))) (l2 : K.lookup g2 = some ⟨cx2, ox2, .func (PySem.W.fnOf "_law_raise_two" "_law_raise_two" (defArgs sTwo) (defBody sTwo) (defScope sTwo) .none kx2 dx2 px2 ax2 ex2 tx2), sx2⟩) (d2 : PySem.W.codeIn K ex2 "_law_raise_two" = true) (k2 : PySem.W.keepIn K (.ref g2) = true)
    (a3 : PySem.W.nsIn K mainGlobals "_law_raise_three" = some (some (.ref g3))) (l3 : K.lookup g3 = some ⟨cx3, ox3, .func (PySem.W.fnOf "_law_raise_three" "_law_raise_three" (defArgs sThree) (defBody sThree) (defScope sThree) .none kx3 dx3 px3 ax3 ex3 tx3), sx3⟩) (d3 : PySem.W.codeIn K ex3 "_law_raise_three" = true) (k3 : PySem.W.keepIn K (.ref g3) = true)
    (a4 : PySem.W.nsIn K mainGlobals "_law_by_names" = some (some (.ref g4))) (l4 : K.lookup g4 = some ⟨cx4, ox4, .func (PySem.W.fnOf "_law_by_names" "_law_by_names" (defArgs sNames) (defBody sNames) (defScope sNames) .none kx4 dx4 px4 ax4 ex4 tx4), sx4⟩) (d4 : PySem.W.codeIn K ex4 "_law_by_names" = true) (k4 : PySem.W.keepIn K (.ref g4) = true)
    (a5 : PySem.W.nsIn K mainGlobals "_law_raised" = some (some (.ref g5))) (l5 : K.lookup g5 = some ⟨cx5, ox5, .func (PySem.W.fnOf "_law_raised" "_law_raised" (defArgs sRaised) (defBody sRaised) (defScope sRaised) .none kx5 dx5 px5 ax5 ex5 tx5), sx5⟩) (d5 : PySem.W.codeIn K ex5 "_law_raised" = true) (k5 : PySem.W.keepIn K (.ref g5) = true)
    (a6 : PySem.W.nsIn K mainGlobals "_law_kinds" = some (some (.ref g6))) (l6 : K.lookup g6 = some ⟨cx6, ox6, .func (PySem.W.fnOf "_law_kinds" "_law_kinds" (defArgs sKinds) (defBody sKinds) (defScope sKinds) .none kx6 dx6 px6 ax6 ex6 tx6), sx6⟩) (d6 : PySem.W.codeIn K ex6 "_law_kinds" = true) (k6 : PySem.W.keepIn K (.ref g6) = true)
    (a7 : PySem.W.nsIn K mainGlobals "_law_families" = some (some (.ref g7))) (l7 : K.lookup g7 = some ⟨cx7, ox7, .func (PySem.W.fnOf "_law_families" "_law_families" (defArgs sFams) (defBody sFams) (defScope sFams) .none kx7 dx7 px7 ax7 ex7 tx7), sx7⟩) (d7 : PySem.W.codeIn K ex7 "_law_families" = true) (k7 : PySem.W.keepIn K (.ref g7) = true)
    (a8 : PySem.W.nsIn K mainGlobals "_law_fields" = some (some (.ref g8))) (l8 : K.lookup g8 = some ⟨cx8, ox8, .func (PySem.W.fnOf "_law_fields" "_law_fields" (defArgs sFields) (defBody sFields) (defScope sFields) .none kx8 dx8 px8 ax8 ex8 tx8), sx8⟩) (d8 : PySem.W.codeIn K ex8 "_law_fields" = true) (k8 : PySem.W.keepIn K (.ref g8) = true)
    (a9 : PySem.W.nsIn K mainGlobals "_law_is_right" = some (some (.ref g9))) (l9 : K.lookup g9 = some ⟨cx9, ox9, .func (PySem.W.fnOf "_law_is_right" "_law_is_right" (defArgs sRight) (defBody sRight) (defScope sRight) .none kx9 dx9 px9 ax9 ex9 tx9), sx9⟩) (d9 : PySem.W.codeIn K ex9 "_law_is_right" = true) (k9 : PySem.W.keepIn K (.ref g9) = true)
    (a10 : PySem.W.nsIn K mainGlobals "_law_thing" = some (some (.ref g10))) (l10 : K.lookup g10 = some ⟨cx10, ox10, .func (PySem.W.fnOf "_law_thing" "_law_thing" (defArgs sThing) (defBody sThing) (defScope sThing) .none kx10 dx10 px10 ax10 ex10 tx10), sx10⟩) (d10 : PySem.W.codeIn K ex10 "_law_thing" = true) (k10 : PySem.W.keepIn K (.ref g10) = true)
    (a11 : PySem.W.nsIn K mainGlobals "law" = some (some (.ref g11))) (l11 : K.lookup g11 = some ⟨cx11, ox11, .func (PySem.W.fnOf "law" "law" (defArgs sLaw) (defBody sLaw) (defScope sLaw) .none kx11 dx11 px11 ax11 ex11 tx11), sx11⟩) (d11 : PySem.W.codeIn K ex11 "law" = true) (k11 : PySem.W.keepIn K (.ref g11) = true)
    (z0 : PySem.W.nsIn K mainGlobals "isinstance" = some none)
    (z1 : PySem.W.nsIn K mainGlobals "enumerate" = some none)
    (z2 : PySem.W.nsIn K mainGlobals "range" = some none)
    (z3 : PySem.W.nsIn K mainGlobals "repr" = some none)
    (z4 : PySem.W.nsIn K mainGlobals "ValueError" = some none)
    (z5 : PySem.W.nsIn K mainGlobals "ArithmeticError" = some none)
    (z6 : PySem.W.nsIn K mainGlobals "LookupError" = some none)
    (z7 : PySem.W.nsIn K mainGlobals "KeyError" = some none)
    (z8 : PySem.W.nsIn K mainGlobals "IndexError" = some none)
    (z9 : PySem.W.nsIn K mainGlobals "ZeroDivisionError" = some none)
    (B1 : xbAll K [C0, C1, C2, C3, C4, C5, C6, C7, C8, C9, C10, C11, C12, C13, C14, C15, C16, C17, C18, C19, C20, C21, C22, C23, C24, C25, C26] = true) (B2 : kitAll K [C0, C1, C2, C3, C4, C5, C6, C7, C8, C9, C10, C11, C12, C13, C14, C15, C16, C17, C18, C19, C20, C21, C22, C23, C24, C25, C26] = true) (B3 : famAll K [C0, C1, C2, C3, C4, C5, C6, C7, C8, C9, C10, C11, C12, C13, C14, C15, C16, C17, C18, C19, C20, C21, C22, C23, C24, C25, C26] aR aU aK = true) (B4 : clsAll K = true) :
    ∃ fd : FuncData, (∀ (s : Shared) (v : Value), BindsTo s fd ⟨[v], []⟩ [("_law_script", v)]) ∧ ∀ base : Heap, K.In base → base.Ns mainGlobals mg → FnG l.prog w K mg base CX0 6 fa fd ["_law_script"] (spLaw K) := by
  have e := hfa.symm.trans (PySem.W.mg_of X G a11)
  cases e
  have O0 : OwnX l.prog w K mg "BadRing" C0 [("what" : Str)] := own_what F.excBase_ValueError F.store_ValueError (xbB_ok (all27 B1 (i := 0) (by decide))) (PySem.W.mg_of X G A0) I0 Y0 (qual := "BadRing.__init__") ⟨⟨_, _, _, _, _, _, _, _, _, _, _, _, _, _, rfl, L0, D0⟩⟩
  have O1 : OwnX l.prog w K mg "BadTable" C1 [("rule" : Str), ("things" : Str)] := own_two F.excBase_ValueError F.store_ValueError (xbB_ok (all27 B1 (i := 1) (by decide))) (PySem.W.mg_of X G A1) I1 Y1 (qual := "BadTable.__init__") ⟨⟨_, _, _, _, _, _, _, _, _, _, _, _, _, _, _, _, _, _, _, rfl, L1, D1⟩⟩
  have O2 : OwnX l.prog w K mg "BadWeight" C2 [("why" : Str)] := own_why F.excBase_ValueError F.store_ValueError (xbB_ok (all27 B1 (i := 2) (by decide))) (PySem.W.mg_of X G A2) I2 Y2 (qual := "BadWeight.__init__") ⟨⟨_, _, _, _, _, _, _, _, _, _, _, _, _, _, rfl, L2, D2⟩⟩
  have O3 : OwnX l.prog w K mg "BadLeading" C3 [("why" : Str)] := own_why F.excBase_ValueError F.store_ValueError (xbB_ok (all27 B1 (i := 3) (by decide))) (PySem.W.mg_of X G A3) I3 Y3 (qual := "BadLeading.__init__") ⟨⟨_, _, _, _, _, _, _, _, _, _, _, _, _, _, rfl, L3, D3⟩⟩
  have O4 : OwnX l.prog w K mg "BadNumber" C4 [("why" : Str)] := own_why F.excBase_ValueError F.store_ValueError (xbB_ok (all27 B1 (i := 4) (by decide))) (PySem.W.mg_of X G A4) I4 Y4 (qual := "BadNumber.__init__") ⟨⟨_, _, _, _, _, _, _, _, _, _, _, _, _, _, rfl, L4, D4⟩⟩
  have O5 : OwnX l.prog w K mg "BadWord" C5 [("why" : Str)] := own_why F.excBase_ValueError F.store_ValueError (xbB_ok (all27 B1 (i := 5) (by decide))) (PySem.W.mg_of X G A5) I5 Y5 (qual := "BadWord.__init__") ⟨⟨_, _, _, _, _, _, _, _, _, _, _, _, _, _, rfl, L5, D5⟩⟩
  have O6 : OwnX l.prog w K mg "BadWeb" C6 [("why" : Str)] := own_why F.excBase_ValueError F.store_ValueError (xbB_ok (all27 B1 (i := 6) (by decide))) (PySem.W.mg_of X G A6) I6 Y6 (qual := "BadWeb.__init__") ⟨⟨_, _, _, _, _, _, _, _, _, _, _, _, _, _, rfl, L6, D6⟩⟩
  have O7 : OwnX l.prog w K mg "BadPath" C7 [("why" : Str)] := own_why F.excBase_ValueError F.store_ValueError (xbB_ok (all27 B1 (i := 7) (by decide))) (PySem.W.mg_of X G A7) I7 Y7 (qual := "BadPath.__init__") ⟨⟨_, _, _, _, _, _, _, _, _, _, _, _, _, _, rfl, L7, D7⟩⟩
  have O8 : OwnX l.prog w K mg "BadAutomaton" C8 [("why" : Str)] := own_why F.excBase_ValueError F.store_ValueError (xbB_ok (all27 B1 (i := 8) (by decide))) (PySem.W.mg_of X G A8) I8 Y8 (qual := "BadAutomaton.__init__") ⟨⟨_, _, _, _, _, _, _, _, _, _, _, _, _, _, rfl, L8, D8⟩⟩
  have O9 : OwnX l.prog w K mg "BadExpression" C9 [("why" : Str)] := own_why F.excBase_ValueError F.store_ValueError (xbB_ok (all27 B1 (i := 9) (by decide))) (PySem.W.mg_of X G A9) I9 Y9 (qual := "BadExpression.__init__") ⟨⟨_, _, _, _, _, _, _, _, _, _, _, _, _, _, rfl, L9, D9⟩⟩
  have O10 : OwnX l.prog w K mg "BadTransducer" C10 [("why" : Str)] := own_why F.excBase_ValueError F.store_ValueError (xbB_ok (all27 B1 (i := 10) (by decide))) (PySem.W.mg_of X G A10) I10 Y10 (qual := "BadTransducer.__init__") ⟨⟨_, _, _, _, _, _, _, _, _, _, _, _, _, _, rfl, L10, D10⟩⟩
  have O11 : OwnX l.prog w K mg "BadMachine" C11 [("why" : Str)] := own_why F.excBase_ValueError F.store_ValueError (xbB_ok (all27 B1 (i := 11) (by decide))) (PySem.W.mg_of X G A11) I11 Y11 (qual := "BadMachine.__init__") ⟨⟨_, _, _, _, _, _, _, _, _, _, _, _, _, _, rfl, L11, D11⟩⟩
  have O12 : OwnX l.prog w K mg "BadAnswer" C12 [("why" : Str)] := own_why F.excBase_ValueError F.store_ValueError (xbB_ok (all27 B1 (i := 12) (by decide))) (PySem.W.mg_of X G A12) I12 Y12 (qual := "BadAnswer.__init__") ⟨⟨_, _, _, _, _, _, _, _, _, _, _, _, _, _, rfl, L12, D12⟩⟩
  have O13 : OwnX l.prog w K mg "BadName" C13 [("why" : Str)] := own_why F.excBase_ValueError F.store_ValueError (xbB_ok (all27 B1 (i := 13) (by decide))) (PySem.W.mg_of X G A13) I13 Y13 (qual := "BadName.__init__") ⟨⟨_, _, _, _, _, _, _, _, _, _, _, _, _, _, rfl, L13, D13⟩⟩
  have O14 : OwnX l.prog w K mg "BadDeed" C14 [("why" : Str)] := own_why F.excBase_ValueError F.store_ValueError (xbB_ok (all27 B1 (i := 14) (by decide))) (PySem.W.mg_of X G A14) I14 Y14 (qual := "BadDeed.__init__") ⟨⟨_, _, _, _, _, _, _, _, _, _, _, _, _, _, rfl, L14, D14⟩⟩
  have O15 : OwnX l.prog w K mg "BadLine" C15 [("line" : Str)] := own_line F.excBase_ValueError F.store_ValueError (xbB_ok (all27 B1 (i := 15) (by decide))) (PySem.W.mg_of X G A15) I15 Y15 (qual := "BadLine.__init__") ⟨⟨_, _, _, _, _, _, _, _, _, _, _, _, _, _, rfl, L15, D15⟩⟩
  have O16 : OwnX l.prog w K mg "NoStar" C16 [("why" : Str)] := own_why F.excBase_ArithmeticError F.store_ArithmeticError (xbB_ok (all27 B1 (i := 16) (by decide))) (PySem.W.mg_of X G A16) I16 Y16 (qual := "NoStar.__init__") ⟨⟨_, _, _, _, _, _, _, _, _, _, _, _, _, _, rfl, L16, D16⟩⟩
  have O17 : OwnX l.prog w K mg "NoOrder" C17 [("step" : Str)] := own_step F.excBase_ArithmeticError F.store_ArithmeticError (xbB_ok (all27 B1 (i := 17) (by decide))) (PySem.W.mg_of X G A17) I17 Y17 (qual := "NoOrder.__init__") ⟨⟨_, _, _, _, _, _, _, _, _, _, _, _, _, _, rfl, L17, D17⟩⟩
  have O18 : OwnX l.prog w K mg "NotClosed" C18 [("why" : Str)] := own_why F.excBase_ArithmeticError F.store_ArithmeticError (xbB_ok (all27 B1 (i := 18) (by decide))) (PySem.W.mg_of X G A18) I18 Y18 (qual := "NotClosed.__init__") ⟨⟨_, _, _, _, _, _, _, _, _, _, _, _, _, _, rfl, L18, D18⟩⟩
  have O19 : OwnX l.prog w K mg "NotFew" C19 [("why" : Str)] := own_why F.excBase_ArithmeticError F.store_ArithmeticError (xbB_ok (all27 B1 (i := 19) (by decide))) (PySem.W.mg_of X G A19) I19 Y19 (qual := "NotFew.__init__") ⟨⟨_, _, _, _, _, _, _, _, _, _, _, _, _, _, rfl, L19, D19⟩⟩
  have O20 : OwnX l.prog w K mg "TooMany" C20 [("most" : Str)] := own_most F.excBase_ArithmeticError F.store_ArithmeticError (xbB_ok (all27 B1 (i := 20) (by decide))) (PySem.W.mg_of X G A20) I20 Y20 (qual := "TooMany.__init__") ⟨⟨_, _, _, _, _, _, _, _, _, _, _, _, _, _, rfl, L20, D20⟩⟩
  have O21 : OwnX l.prog w K mg "NoName" C21 [("name" : Str)] := own_name F.excBase_LookupError F.store_LookupError (xbB_ok (all27 B1 (i := 21) (by decide))) (PySem.W.mg_of X G A21) I21 Y21 (qual := "NoName.__init__") ⟨⟨_, _, _, _, _, _, _, _, _, _, _, _, _, _, rfl, L21, D21⟩⟩
  have O22 : OwnX l.prog w K mg "Taken" C22 [("name" : Str)] := own_name F.excBase_LookupError F.store_LookupError (xbB_ok (all27 B1 (i := 22) (by decide))) (PySem.W.mg_of X G A22) I22 Y22 (qual := "Taken.__init__") ⟨⟨_, _, _, _, _, _, _, _, _, _, _, _, _, _, rfl, L22, D22⟩⟩
  have O23 : OwnX l.prog w K mg "InUse" C23 [("users" : Str)] := own_users F.excBase_LookupError F.store_LookupError (xbB_ok (all27 B1 (i := 23) (by decide))) (PySem.W.mg_of X G A23) I23 Y23 (qual := "InUse.__init__") ⟨⟨_, _, _, _, _, _, _, _, _, _, _, _, _, _, rfl, L23, D23⟩⟩
  have O24 : OwnX l.prog w K mg "Round" C24 [("circle" : Str)] := own_circle F.excBase_LookupError F.store_LookupError (xbB_ok (all27 B1 (i := 24) (by decide))) (PySem.W.mg_of X G A24) I24 Y24 (qual := "Round.__init__") ⟨⟨_, _, _, _, _, _, _, _, _, _, _, _, _, _, rfl, L24, D24⟩⟩
  have O25 : OwnX l.prog w K mg "TooDeep" C25 [("name" : Str)] := own_name F.excBase_LookupError F.store_LookupError (xbB_ok (all27 B1 (i := 25) (by decide))) (PySem.W.mg_of X G A25) I25 Y25 (qual := "TooDeep.__init__") ⟨⟨_, _, _, _, _, _, _, _, _, _, _, _, _, _, rfl, L25, D25⟩⟩
  have O26 : OwnX l.prog w K mg "Nothing" C26 [("why" : Str)] := own_why F.excBase_LookupError F.store_LookupError (xbB_ok (all27 B1 (i := 26) (by decide))) (PySem.W.mg_of X G A26) I26 Y26 (qual := "Nothing.__init__") ⟨⟨_, _, _, _, _, _, _, _, _, _, _, _, _, _, rfl, L26, D26⟩⟩
  have O : Own l.prog w K mg (fun i => ([C0, C1, C2, C3, C4, C5, C6, C7, C8, C9, C10, C11, C12, C13, C14, C15, C16, C17, C18, C19, C20, C21, C22, C23, C24, C25, C26] : List Addr).getD i 0) := by
    intro i hi
    obtain rfl | rfl | rfl | rfl | rfl | rfl | rfl | rfl | rfl | rfl | rfl | rfl | rfl | rfl | rfl | rfl | rfl | rfl | rfl | rfl | rfl | rfl | rfl | rfl | rfl | rfl | rfl : i = 0 ∨ i = 1 ∨ i = 2 ∨ i = 3 ∨ i = 4 ∨ i = 5 ∨ i = 6 ∨ i = 7 ∨ i = 8 ∨ i = 9 ∨ i = 10 ∨ i = 11 ∨ i = 12 ∨ i = 13 ∨ i = 14 ∨ i = 15 ∨ i = 16 ∨ i = 17 ∨ i = 18 ∨ i = 19 ∨ i = 20 ∨ i = 21 ∨ i = 22 ∨ i = 23 ∨ i = 24 ∨ i = 25 ∨ i = 26 := by omega
    · exact O0
    · exact O1
    · exact O2
    · exact O3
    · exact O4
    · exact O5
    · exact O6
    · exact O7
    · exact O8
    · exact O9
    · exact O10
    · exact O11
    · exact O12
    · exact O13
    · exact O14
    · exact O15
    · exact O16
    · exact O17
    · exact O18
    · exact O19
    · exact O20
    · exact O21
    · exact O22
    · exact O23
    · exact O24
    · exact O25
    · exact O26
  have kin := kin_of B1 B2 B4
  obtain ⟨fm, kf⟩ := fam_of B3 (PySem.W.mg_of X G qaR) (PySem.W.mg_of X G qaU) (PySem.W.mg_of X G qaK) kin
  have F0 := fun_mk (st := sMix) l0 d0 k0
  have F1 := fun_mk (st := sOne) l1 d1 k1
  have F2 := fun_mk (st := sTwo) l2 d2 k2
  have F3 := fun_mk (st := sThree) l3 d3 k3
  have F4 := fun_mk (st := sNames) l4 d4 k4
  have F5 := fun_mk (st := sRaised) l5 d5 k5
  have F6 := fun_mk (st := sKinds) l6 d6 k6
  have F7 := fun_mk (st := sFams) l7 d7 k7
  have F8 := fun_mk (st := sFields) l8 d8 k8
  have F9 := fun_mk (st := sRight) l9 d9 k9
  have F10 := fun_mk (st := sThing) l10 d10 k10
  have F11 := fun_mk (st := sLaw) l11 d11 k11
  have b0 := F0.binds (ps := ["_law_cell", "_law_k"]) fun _ _ _ _ _ _ us hl => match us, hl with | [_, _], _ => rfl
  have b4 := F4.binds (ps := ["_law_this", "_law_that"]) fun _ _ _ _ _ _ us hl => match us, hl with | [_, _], _ => rfl
  have b5 := F5.binds (ps := ["_law_way", "_law_this", "_law_that"]) fun _ _ _ _ _ _ us hl => match us, hl with | [_, _, _], _ => rfl
  have b6 := F6.binds (ps := ["_law_e"]) fun _ _ _ _ _ _ us hl => match us, hl with | [_], _ => rfl
  have b7 := F7.binds (ps := ["_law_e"]) fun _ _ _ _ _ _ us hl => match us, hl with | [_], _ => rfl
  have b8 := F8.binds (ps := ["_law_way", "_law_e"]) fun _ _ _ _ _ _ us hl => match us, hl with | [_, _], _ => rfl
  have b9 := F9.binds (ps := ["_law_way", "_law_this", "_law_that", "_law_e"]) fun _ _ _ _ _ _ us hl => match us, hl with | [_, _, _, _], _ => rfl
  have b10 := F10.binds (ps := ["_law_number"]) fun _ _ _ _ _ _ us hl => match us, hl with | [_], _ => rfl
  have y0 := PySem.W.mg_none_of X G z0
  have y1 := PySem.W.mg_none_of X G z1
  have y2 := PySem.W.mg_none_of X G z2
  have y3 := PySem.W.mg_none_of X G z3
  have y4 := PySem.W.mg_none_of X G z4
  have y5 := PySem.W.mg_none_of X G z5
  have y6 := PySem.W.mg_none_of X G z6
  have y7 := PySem.W.mg_none_of X G z7
  have y8 := PySem.W.mg_none_of X G z8
  have y9 := PySem.W.mg_none_of X G z9
  have m0 := PySem.W.mg_of X G a0
  have m1 := PySem.W.mg_of X G a1
  have m2 := PySem.W.mg_of X G a2
  have m3 := PySem.W.mg_of X G a3
  have m4 := PySem.W.mg_of X G a4
  have m5 := PySem.W.mg_of X G a5
  have m6 := PySem.W.mg_of X G a6
  have m7 := PySem.W.mg_of X G a7
  have m8 := PySem.W.mg_of X G a8
  have m9 := PySem.W.mg_of X G a9
  have m10 := PySem.W.mg_of X G a10
  have m11 := PySem.W.mg_of X G a11
  refine ⟨_, fun s v => .of_eq rfl, fun base _ _ => ok_law F11 (ok_mix F0) (ok_thing F10) (ok_raised O fm F5 F1 F2 F3 m1 m2 m3) (ok_names O F4)
    (ok_right F9 (ok_kinds O kin y0 y1 F6) (ok_fams fm kf y0 ⟨y4, y5, y6, y7, y8, y9⟩ F7) (ok_fields O F8) m6 m7 m8 k6 k7 k8 b6 b7 b8 y2 y3)
    m0 m10 m5 m4 m9 k0 k10 k5 k4 k9 b0 b10 b5 b4 b9 y1⟩
theorem walk {l : PySem.W.OpenLaw} {q : Program} {loose : List Str} {XP : (Str → Option Value) → Heap → Prop} {YP : World → Heap → Prop} {d : DefRec} {K : Params → PySem.W.Frag} (hn : l.most = some 63) (hdf : d.params.defaults = [])
    (hY : ∀ (w : World) (h : Heap), YP w h → (K w.params).In h)
    (F : ∀ (w : World) (mg : Str → Option Value) (fa : Addr) (h : Heap), (K w.params).In h → h.Ns mainGlobals mg → mg d.name = some (.ref fa) →
      ∃ fd : FuncData, (∀ (s : Shared) (u : Value), BindsTo s fd ⟨[u], []⟩ [("_law_script", u)]) ∧ ∀ base : Heap, (K w.params).In base → base.Ns mainGlobals mg → FnG l.prog w (K w.params) mg base CX0 6 fa fd ["_law_script"] (spLaw (K w.params))) :
    PySem.W.WalkO q loose XP YP l.row.toRowW d [] (fun f vs => PySem.call f vs) :=
  walk_ofG (n := 63) (k := 6) (x := "_law_script") (sp := spLaw) hn (by decide) hdf ⟨rfl, by decide, by decide⟩ hY F fun _ _ a ns hl _ hS => ⟨a, ns, rfl, hS, hl, fun _ => rfl⟩
end T1

open PySem PySem.W PyProof.Rows
set_option maxRecDepth 100000 in
set_option maxHeartbeats 0 in
theorem PySem.Challenge.cw_semirail_k01_three_families_holds : PySem.Challenge.rw_semirail_k01_three_families.Holds := by
  w_on; o_law; k_head; (case hw => w_witness2)
  k_fill
  refine T1.walk (l := PySem.Challenge.rw_semirail_k01_three_families) rfl rfl (fun w h Y => PySem.W.kIn_of Y) ?F
  case F =>
    intro w mg fa h KX G hmg
    refine' T1.all_mk KX G hmg ?qaR ?qaU ?qaK ?A0 ?I0 ?Y0 ?L0 ?D0 ?A1 ?I1 ?Y1 ?L1 ?D1 ?A2 ?I2 ?Y2 ?L2 ?D2 ?A3 ?I3 ?Y3 ?L3 ?D3 ?A4 ?I4 ?Y4 ?L4 ?D4 ?A5 ?I5 ?Y5 ?L5 ?D5 ?A6 ?I6 ?Y6 ?L6 ?D6 ?A7 ?I7 ?Y7 ?L7 ?D7 ?A8 ?I8 ?Y8 ?L8 ?D8 ?A9 ?I9 ?Y9 ?L9 ?D9 ?A10 ?I10 ?Y10 ?L10 ?D10 ?A11 ?I11 ?Y11 ?L11 ?D11 ?A12 ?I12 ?Y12 ?L12 ?D12 ?A13 ?I13 ?Y13 ?L13 ?D13 ?A14 ?I14 ?Y14 ?L14 ?D14 ?A15 ?I15 ?Y15 ?L15 ?D15 ?A16 ?I16 ?Y16 ?L16 ?D16 ?A17 ?I17 ?Y17 ?L17 ?D17 ?A18 ?I18 ?Y18 ?L18 ?D18 ?A19 ?I19 ?Y19 ?L19 ?D19 ?A20 ?I20 ?Y20 ?L20 ?D20 ?A21 ?I21 ?Y21 ?L21 ?D21 ?A22 ?I22 ?Y22 ?L22 ?D22 ?A23 ?I23 ?Y23 ?L23 ?D23 ?A24 ?I24 ?Y24 ?L24 ?D24 ?A25 ?I25 ?Y25 ?L25 ?D25 ?A26 ?I26 ?Y26 ?L26 ?D26 ?a0 ?l0 ?d0 ?k0 ?a1 ?l1 ?d1 ?k1 ?a2 ?l2 ?d2 ?k2 ?a3 ?l3 ?d3 ?k3 ?a4 ?l4 ?d4 ?k4 ?a5 ?l5 ?d5 ?k5 ?a6 ?l6 ?d6 ?k6 ?a7 ?l7 ?d7 ?k7 ?a8 ?l8 ?d8 ?k8 ?a9 ?l9 ?d9 ?k9 ?a10 ?l10 ?d10 ?k10 ?a11 ?l11 ?d11 ?k11 ?z0 ?z1 ?z2 ?z3 ?z4 ?z5 ?z6 ?z7 ?z8 ?z9 ?B1 ?B2 ?B3 ?B4
    (case qaR => k_is); (case qaU => k_is); (case qaK => k_is); (case A0 => k_is); (case I0 => k_is); (case Y0 => k_is)
    (case L0 => k_is); (case D0 => k_is); (case A1 => k_is); (case I1 => k_is); (case Y1 => k_is); (case L1 => k_is)
    (case D1 => k_is); (case A2 => k_is); (case I2 => k_is); (case Y2 => k_is); (case L2 => k_is); (case D2 => k_is)
    (case A3 => k_is); (case I3 => k_is); (case Y3 => k_is); (case L3 => k_is); (case D3 => k_is); (case A4 => k_is)
    (case I4 => k_is); (case Y4 => k_is); (case L4 => k_is); (case D4 => k_is); (case A5 => k_is); (case I5 => k_is)
    (case Y5 => k_is); (case L5 => k_is); (case D5 => k_is); (case A6 => k_is); (case I6 => k_is); (case Y6 => k_is)
    (case L6 => k_is); (case D6 => k_is); (case A7 => k_is); (case I7 => k_is); (case Y7 => k_is); (case L7 => k_is)
    (case D7 => k_is); (case A8 => k_is); (case I8 => k_is); (case Y8 => k_is); (case L8 => k_is); (case D8 => k_is)
    (case A9 => k_is); (case I9 => k_is); (case Y9 => k_is); (case L9 => k_is); (case D9 => k_is); (case A10 => k_is)
    (case I10 => k_is); (case Y10 => k_is); (case L10 => k_is); (case D10 => k_is); (case A11 => k_is); (case I11 => k_is)
    (case Y11 => k_is); (case L11 => k_is); (case D11 => k_is); (case A12 => k_is); (case I12 => k_is); (case Y12 => k_is)
    (case L12 => k_is); (case D12 => k_is); (case A13 => k_is); (case I13 => k_is); (case Y13 => k_is); (case L13 => k_is)
    (case D13 => k_is); (case A14 => k_is); (case I14 => k_is); (case Y14 => k_is); (case L14 => k_is); (case D14 => k_is)
    (case A15 => k_is); (case I15 => k_is); (case Y15 => k_is); (case L15 => k_is); (case D15 => k_is); (case A16 => k_is)
    (case I16 => k_is); (case Y16 => k_is); (case L16 => k_is); (case D16 => k_is); (case A17 => k_is); (case I17 => k_is)
    (case Y17 => k_is); (case L17 => k_is); (case D17 => k_is); (case A18 => k_is); (case I18 => k_is); (case Y18 => k_is)
    (case L18 => k_is); (case D18 => k_is); (case A19 => k_is); (case I19 => k_is); (case Y19 => k_is); (case L19 => k_is)
    (case D19 => k_is); (case A20 => k_is); (case I20 => k_is); (case Y20 => k_is); (case L20 => k_is); (case D20 => k_is)
    (case A21 => k_is); (case I21 => k_is); (case Y21 => k_is); (case L21 => k_is); (case D21 => k_is); (case A22 => k_is)
    (case I22 => k_is); (case Y22 => k_is); (case L22 => k_is); (case D22 => k_is); (case A23 => k_is); (case I23 => k_is)
    (case Y23 => k_is); (case L23 => k_is); (case D23 => k_is); (case A24 => k_is); (case I24 => k_is); (case Y24 => k_is)
    (case L24 => k_is); (case D24 => k_is); (case A25 => k_is); (case I25 => k_is); (case Y25 => k_is); (case L25 => k_is)
    (case D25 => k_is); (case A26 => k_is); (case I26 => k_is); (case Y26 => k_is); (case L26 => k_is); (case D26 => k_is)
    (case a0 => k_is); (case l0 => k_is); (case d0 => k_is); (case k0 => k_is); (case a1 => k_is); (case l1 => k_is)
    (case d1 => k_is); (case k1 => k_is); (case a2 => k_is); (case l2 => k_is); (case d2 => k_is); (case k2 => k_is)
    (case a3 => k_is); (case l3 => k_is); (case d3 => k_is); (case k3 => k_is); (case a4 => k_is); (case l4 => k_is)
    (case d4 => k_is); (case k4 => k_is); (case a5 => k_is); (case l5 => k_is); (case d5 => k_is); (case k5 => k_is)
    (case a6 => k_is); (case l6 => k_is); (case d6 => k_is); (case k6 => k_is); (case a7 => k_is); (case l7 => k_is)
    (case d7 => k_is); (case k7 => k_is); (case a8 => k_is); (case l8 => k_is); (case d8 => k_is); (case k8 => k_is)
    (case a9 => k_is); (case l9 => k_is); (case d9 => k_is); (case k9 => k_is); (case a10 => k_is); (case l10 => k_is)
    (case d10 => k_is); (case k10 => k_is); (case a11 => k_is); (case l11 => k_is); (case d11 => k_is); (case k11 => k_is)
    (case z0 => k_is); (case z1 => k_is); (case z2 => k_is); (case z3 => k_is); (case z4 => k_is); (case z5 => k_is)
    (case z6 => k_is); (case z7 => k_is); (case z8 => k_is); (case z9 => k_is); (case B1 => kernel_rfl); (case B2 => kernel_rfl)
    (case B3 => kernel_rfl); (case B4 => kernel_rfl)
