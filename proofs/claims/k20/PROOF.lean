import PyProof.Rows.All
import Wide.All
import OpenK.AllK
import Wide.FinOn
import HandS.Head0
import HandS.Head1
import HandS.Head2
import HandS.Head3
import HandS.HeadEnd
import HandS.HeadHook1
import HandS.HeadHook2
import HandS.HeadHook3
import HandS.HeadHook4
import HandS.ExcField
import HandS.ForMost
import HandS.ForExc
import HandS.Defaults
import KE.KExcInit
import Wide.Once
import KE.KStateDown
import PyProof.EqAt
import PyProof.EqKinds
import PyProof.TupleCall
import HandS.ExcInit
import HandS.ExcValue
import KE.KExcIs
import HandS.ExcIs
import PyProof.ReprRoads
import HandS.OwnEq
import HandS.SlotsOwn
import HandS.IsInst
import PyProof.InstNe
import HandS.HotCalls
import HandS.Walk
import HandS.Evl
import HandS.StrMore
import HandS.Wide
import HandS.SortInts
import HandS.Zip
import HandS.NoneIn
import HandS.Star
import HandS.CallLocal
import HandS.Style
import HandS.TupAny
import HandS.Conv
import HandS.RaiseMore
import HandS.Flow
import HandS.Gcd
import PyProof.P3Eq
import HandS.ClsMeth
import HandS.FStr
import KE.GoesMore
import KE.GoesZip
import KE.OsArith
import HandS.Text
import HandS.Dict
import KE.GoesEnum
import KE.KDictZip
import KE.KItemsList
import HandS.ListItems
import HandS.TupMul
import PyProof.ReprBulk
import HandS.EndBits
import HandS.HeadWalk
import HandS.SetFor
import HandS.ExcOwn
import PySem.Challenge.RW_semirail_k20_the_best_first
section
set_option Elab.async false
set_option linter.all false
set_option maxRecDepth 100000
set_option maxHeartbeats 4000000
/-! HH: what the head looks at -/
namespace D1
open PySem L2
abbrev theProg : Program := PySem.Challenge.pw_semirail_k20_the_best_first
def top (i : Nat) : Stmt := theProg.main.body.getD i (.Pass ⟨0, 0, 0, 0⟩)
abbrev FnP (K : PySem.W.Frag) (x : Str) (st : Stmt) (f : Addr) (fd : FuncData) : Prop := FunD K x x (defArgs st) (defBody st) (defScope st) [] [] f fd
def clsBody (s : Stmt) : List Stmt := match s with
  | .ClassDef _ _ _ b _ _ _ _ _ _ _ => b
  | _ => []
def meth (i j : Nat) : Stmt := (clsBody (top i)).getD j (.Pass ⟨0, 0, 0, 0⟩)
abbrev FnM (K : PySem.W.Frag) (c x : Str) (st : Stmt) (f : Addr) (fd : FuncData) : Prop := FunD K x (c ++ "." ++ x) (defArgs st) (defBody st) (defScope st) [] [] f fd
def fields : List Str := ["_text", "_zero", "_one", "_others", "_size", "_sums", "_products", "_left", "_right", "_made", "_kind", "_sign", "_unknowns"]
structure KC where
  tr : Addr
  co : Addr
  bo : Addr
  na : Addr
  sh : Addr
  lo : Addr
  pa : Addr
def KC.all (C : KC) : List Addr := [C.tr, C.co, C.bo, C.na, C.sh, C.lo, C.pa]
open He
open PySem.W in
def xbB (K : Frag) (C : Addr) (bmB : List Value) (newId : String) (fn : List Str) : Bool :=
  excInitIn K C bmB newId && (excOver K C bmB && (hasDictIn K C && (decide (findIn K (.ref C) "__setattr__" = some (some (.builtin "object.__setattr__"))) && (decide (findIn K (.ref C) "__getattribute__" = some (some (.builtin "BaseException.__getattribute__"))) &&
    (decide (findIn K (.ref C) "__getattr__" = some none) && (decide (findIn K (.ref C) "__class__" = some (some (.builtin "object.__class__"))) && (decide (mroIn K C (.type "object") = some true) && (fn.all (fun f => decide (findIn K (.ref C) f = some none)) &&
      (keepIn K (.ref C) && (decide (subIn K (.ref C) (.type "BaseException") = some true) && decide (typeIn K (.ref C) = some (.type "type"))))))))))))
def bmA : List Value := [.type "ArithmeticError", .type "Exception", .type "BaseException", .type "object"]
def bmV : List Value := [.type "ValueError", .type "Exception", .type "BaseException", .type "object"]
def kwN (K : PySem.W.Frag) (p : Str × Option Str) : Bool := match K.lookup (fAd K p) with
  | some ⟨_, _, .func fd, _⟩ => (match fd.kwdefaults with
    | .none => true
    | _ => false)
  | _ => false
def iniB (K : PySem.W.Frag) (x : Str) : Bool := kwN K (x, some "__init__") && (decide (PySem.W.findIn K (.ref (ga K x)) "__init__" = some (some (.ref (fAd K (x, some "__init__"))))) && decide (PySem.W.typeIn K (.ref (fAd K (x, some "__init__"))) = some (.type "function")))
def excB (K : PySem.W.Frag) : Bool := decide (PySem.W.specialIn K (.builtin "object.__class__") "__get__" = some (some (.builtin "getset_descriptor.__get__"))) && decide (PySem.W.takesIn K (.builtin "object.__class__") = some true)
def tupK (K : PySem.W.Frag) (a : Addr) (vs : List V) : Bool := match K.lookup a with
  | some ⟨.type c, _, .seq its _, _⟩ => decide (c = "tuple") && (decide (its.size ≤ sizeLine) && relAll vs its.toList)
  | _ => false
def itemA (K : PySem.W.Frag) (a : Addr) (i : Nat) : Addr := match K.lookup a with
  | some ⟨_, _, .seq its _, _⟩ => (match its.toList[i]? with
    | some (.ref b) => b
    | _ => 0)
  | _ => 0
def lotA (K : PySem.W.Frag) : Addr := match PySem.W.nsIn K (ga K "_SIZES") "lot" with
  | some (some (.ref a)) => a
  | _ => 0
def sizesB (K : PySem.W.Frag) : Bool := (["truth", "count", "least", "most", "narrow", "share", "pair"] : List Str).all (fun x => eqO (PySem.W.nsIn K (ga K "_SIZES") x) (some none)) && (eqO (PySem.W.nsIn K (ga K "_SIZES") "lot") (some (some (.ref (lotA K)))) && tupK K (lotA K) [.int 1, .int 12])
def bareB (K : PySem.W.Frag) : Bool := tupK K (ga K "_BARE") [.str "truth", .str "count", .str "least", .str "most", .str "narrow", .str "share"]
def noB (K : PySem.W.Frag) (x : Str) : Bool := fields.all fun f => eqO (PySem.W.findIn K (.ref (ga K x)) f) (some none)
def methB (K : PySem.W.Frag) (x m : Str) (p : Str × Option Str) : Bool := eqO (PySem.W.findIn K (.ref (ga K x)) m) (some (some (.ref (fAd K p)))) && (PySem.W.isFn K (.ref (fAd K p)) && PySem.W.keepIn K (.ref (fAd K p)))
def mths0 : List (Str × Str × Str) := [("Truth", "times", "Truth"), ("Count", "times", "Count"), ("Bounded", "times", "Bounded"), ("Narrow", "times", "Narrow"), ("Share", "times", "Share"), ("Lot", "times", "Lot"), ("Pair", "times", "Pair"), ("Truth", "good", "Truth"), ("Count", "good", "Counted"), ("Bounded", "good", "Counted"), ("Narrow", "good", "Counted"), ("Share", "good", "Share"), ("Lot", "good", "Lot"), ("Pair", "good", "Pair"), ("Truth", "closed", "Topped")]
def mths1 : List (Str × Str × Str) := [("Count", "closed", "Endless"), ("Bounded", "closed", "Endless"), ("Narrow", "closed", "Endless"), ("Share", "closed", "Topped"), ("Lot", "closed", "Topped"), ("Pair", "closed", "Pair"), ("Truth", "one", "Kind"), ("Count", "one", "Kind"), ("Bounded", "one", "Kind"), ("Narrow", "one", "Kind"), ("Share", "one", "Kind"), ("Lot", "one", "Kind"), ("Pair", "one", "Kind"), ("Truth", "zero", "Kind"), ("Count", "zero", "Kind")]
def mths2 : List (Str × Str × Str) := [("Bounded", "zero", "Kind"), ("Narrow", "zero", "Kind"), ("Share", "zero", "Kind"), ("Lot", "zero", "Kind"), ("Pair", "zero", "Kind"), ("Truth", "text", "Kind"), ("Count", "text", "Kind"), ("Bounded", "text", "Kind"), ("Narrow", "text", "Kind"), ("Share", "text", "Kind"), ("Lot", "text", "Kind"), ("Pair", "text", "Kind"), ("Truth", "plus", "Truth"), ("Count", "plus", "Count"), ("Bounded", "plus", "Bounded")]
def mths3 : List (Str × Str × Str) := [("Narrow", "plus", "Narrow"), ("Share", "plus", "Share"), ("Lot", "plus", "Lot"), ("Pair", "plus", "Pair"), ("Ring", "kind", "Ring"), ("Ring", "made", "Ring"), ("Ring", "is_closed", "Ring"), ("Ring", "good", "Ring"), ("Count", "fits", "Counted"), ("Bounded", "fits", "Bounded"), ("Narrow", "fits", "Counted")]
def mths : List (Str × Str × Str) := mths0 ++ mths1 ++ mths2 ++ mths3
def mthsB (K : PySem.W.Frag) : Bool := mths.all fun t => methB K t.1 t.2.1 (t.2.2, some t.2.1)
def baseB (K : PySem.W.Frag) (x : Str) (p : Str × Option Str) : Bool := PySem.W.readsIn K (ga K x) (.type "type") && (eqO (PySem.W.specialIn K (.ref (ga K x)) "__getattribute__") (some (some (.builtin "type.__getattribute__"))) && (match PySem.W.findCls K (.ref (ga K x)) (.type "type") "__init__" with
  | some (.val (.ref a)) => decide (a = fAd K p)
  | _ => false))
def famO (K : PySem.W.Frag) : Bool := decide (PySem.W.exmOne K (.ref (ga K "NoOrder")) (.ref (ga K "Unreckoned")) = some true) && (decide (PySem.W.exmOne K (.ref (ga K "BadNumber")) (.ref (ga K "Refused")) = some true) && (decide (PySem.W.kitOne K (.ref (ga K "NoOrder")) (.ref (ga K "NoOrder")) = some true) && (decide (PySem.W.kitOne K (.ref (ga K "NoOrder")) (.ref (ga K "NotClosed")) = some false) && (decide (PySem.W.kitOne K (.ref (ga K "NoOrder")) (.ref (ga K "NotFew")) = some false) && (decide (PySem.W.kitOne K (.ref (ga K "BadNumber")) (.ref (ga K "BadNumber")) = some true) && (decide (PySem.W.kitOne K (.ref (ga K "BadNumber")) (.ref (ga K "BadWeb")) = some false)))))))
def ringB (K : PySem.W.Frag) : Bool := eqO (PySem.W.findIn K (.ref (ga K "Ring")) "__class__") (some (some (.builtin "object.__class__"))) && (decide (PySem.W.mroIn K (ga K "Ring") (.type "object") = some true) && decide (PySem.W.kitOne K (.ref (ga K "Ring")) (.ref (ga K "Ring")) = some true))
def kcOf (K : PySem.W.Frag) : KC := ⟨ga K "Truth", ga K "Count", ga K "Bounded", ga K "Narrow", ga K "Share", ga K "Lot", ga K "Pair"⟩
def kcB (K : PySem.W.Frag) : Bool := decide (kcOf K).all.Nodup && (["Truth", "Count", "Bounded", "Narrow", "Share", "Lot", "Pair"] : List Str).all (noB K)
def ex (K : PySem.W.Frag) : Bool := xbB K (ga K "BadNumber") bmV "ValueError.__new__" [("why" : Str)] && (iniB K "BadNumber" && (xbB K (ga K "NoOrder") bmA "ArithmeticError.__new__" [("step" : Str)] && (iniB K "NoOrder" && (famO K && (tupK K (ga K "_ORDERED") [.str "truth", .str "least", .str "most", .str "narrow", .str "share"] && (excB K && (ringB K && (noB K "Ring" && (kcB K && (sizesB K && (bareB K && (mthsB K && (eqO (PySem.W.nsIn K mainGlobals "gcd") (some (some (.builtin "math.gcd"))) && (baseB K "Kind" ("Kind", some "__init__") && (baseB K "Topped" ("Kind", some "__init__") && (baseB K "Endless" ("Counted", some "__init__")))))))))))))))))
end D1
end
section
set_option Elab.async false
set_option linter.all false
set_option maxRecDepth 100000
set_option maxHeartbeats 0
/-! H20: the head -/
namespace W20
open PySem PySem.Spec PyProof.Rows L2
abbrev top (i : Nat) : Stmt := D1.top i
def dd (x : Str) (i : Nat) : He.DefD := ⟨(x, none), x, x, defArgs (top i), defBody (top i), defScope (top i), [], []⟩
def dm (c x : Str) (i j : Nat) : He.DefD := ⟨(c, some x), x, c ++ "." ++ x, defArgs (D1.meth i j), defBody (D1.meth i j), defScope (D1.meth i j), [], []⟩
def dmd (c x : Str) (i j : Nat) (ds : List He.Dv) : He.DefD := ⟨(c, some x), x, c ++ "." ++ x, defArgs (D1.meth i j), defBody (D1.meth i j), defScope (D1.meth i j), ds, []⟩
def names_0 : List PySem.Str := ["_wall", "Refused", "BadRing", "BadTable", "BadWeight", "BadNumber", "BadWeb", "Unreckoned", "NoStar", "NoOrder", "NotClosed", "NotFew", "product_of", "many_of", "power_of", "LONG", "is_number", "is_whole", "Kind", "Counted", "Endless", "Count", "Bounded", "Narrow", "Finite"]
def names_1 : List PySem.Str := ["Rest", "Table", "Pair", "Terms", "_gathered", "_summed", "Topped", "Truth", "Share", "Lot", "kind_of", "_sized_kind", "_bare_kind", "Ring", "_need_count", "need_ring", "_STATES", "_STEPS", "need_web", "_is_web", "_is_step", "need_state", "_ORDERED", "is_ordered", "by_best"]
def names_2 : List PySem.Str := ["_need_no_bettering", "_best_of", "_sum_turned", "_sum_joined", "_zero", "_product_turned", "_product_joined", "_one", "_nought", "_spread", "_joined", "_RULES", "first_broken", "_rows", "_BARE", "_SIZES", "_THINGS", "_PAIRS", "ring_of", "_has_form", "_are_tables", "_is_table", "_is_row", "_tables", "_law_mixed"]
def names_3 : List PySem.Str := ["_law_draw", "_law_next", "_law_ring", "_law_zero", "_law_one", "_law_lowest", "_law_plus", "_law_times", "_law_weight", "_law_turned", "_law_web", "_law_same", "_law_tame", "_law_first", "_law_told", "_law_no_number", "_law_row_right"]
def names : List PySem.Str := names_0 ++ names_1 ++ names_2 ++ names_3
def fn_0 : List He.DefD := [dd "is_number" 20, dd "is_whole" 21, dd "kind_of" 45, dd "_sized_kind" 46, dd "_bare_kind" 47, dd "need_ring" 51, dd "need_web" 55, dd "_is_web" 56, dd "_is_step" 57, dd "need_state" 58, dd "is_ordered" 61, dd "by_best" 62, dd "_need_no_bettering" 63, dd "_best_of" 64, dd "ring_of" 83, dd "_has_form" 84, dd "_tables" 88, dd "_law_mixed" 90, dd "_law_draw" 91, dd "_law_next" 92]
def fn_1 : List He.DefD := [dd "_law_ring" 93, dd "_law_zero" 94, dd "_law_one" 95, dd "_law_lowest" 96, dd "_law_plus" 97, dd "_law_times" 98, dd "_law_weight" 99, dd "_law_turned" 100, dd "_law_web" 101, dd "_law_same" 102, dd "_law_tame" 103, dd "_law_first" 104, dd "_law_told" 105, dd "_law_no_number" 106, dd "_law_row_right" 107, dd "law" 108, dm "Kind" "__init__" 23 0, dm "Counted" "__init__" 24 0, dm "Count" "__init__" 27 0, dm "Narrow" "__init__" 29 0]
def fn_2 : List He.DefD := [dm "Bounded" "__init__" 28 0, dm "Truth" "__init__" 41 0, dm "Share" "__init__" 42 0, dm "Lot" "__init__" 43 0, dm "Pair" "__init__" 35 0, dm "Ring" "__init__" 49 0, dm "BadNumber" "__init__" 7 0, dm "NoOrder" "__init__" 11 0, dm "Kind" "text" 23 1, dm "Kind" "zero" 23 2, dm "Kind" "one" 23 3, dm "Endless" "closed" 26 0, dm "Topped" "closed" 40 0, dm "Pair" "closed" 35 1, dm "Counted" "fits" 24 2, dm "Bounded" "fits" 28 1, dm "Counted" "good" 24 1, dm "Truth" "good" 41 2, dm "Share" "good" 42 1, dm "Lot" "good" 43 2]
def fn_3 : List He.DefD := [dm "Pair" "good" 35 3, dm "Truth" "times" 41 4, dm "Count" "times" 27 2, dm "Bounded" "times" 28 3, dm "Narrow" "times" 29 3, dm "Share" "times" 42 3, dm "Lot" "times" 43 4, dm "Pair" "times" 35 5, dm "Ring" "kind" 49 1, dm "Ring" "made" 49 2, dm "Ring" "is_closed" 49 5, dm "Ring" "good" 49 7, dm "Truth" "plus" 41 3, dm "Count" "plus" 27 1, dm "Bounded" "plus" 28 2, dm "Narrow" "plus" 29 2, dm "Share" "plus" 42 2, dm "Lot" "plus" 43 3, dm "Pair" "plus" 35 4]
def fnA : List He.DefD := fn_0 ++ fn_1
def fnB : List He.DefD := fn_2 ++ fn_3
def fn : List He.DefD := fnA ++ fnB
def fa_0 : List He.Fa := [.glo "is_number", .glo "is_whole", .glo "kind_of", .glo "_sized_kind", .glo "_bare_kind", .glo "need_ring", .glo "need_web", .glo "_is_web", .glo "_is_step", .glo "need_state", .glo "is_ordered", .glo "by_best", .glo "_need_no_bettering", .glo "_best_of", .glo "ring_of", .glo "_has_form", .glo "_tables", .glo "_law_mixed", .glo "_law_draw", .glo "_law_next"]
def fa_1 : List He.Fa := [.glo "_law_ring", .glo "_law_zero", .glo "_law_one", .glo "_law_lowest", .glo "_law_plus", .glo "_law_times", .glo "_law_weight", .glo "_law_turned", .glo "_law_web", .glo "_law_same", .glo "_law_tame", .glo "_law_first", .glo "_law_told", .glo "_law_no_number", .glo "_law_row_right", .glo "law", .glo "Refused", .glo "BadNumber", .glo "BadWeb", .glo "Unreckoned"]
def fa_2 : List He.Fa := [.glo "NoOrder", .glo "NotClosed", .glo "NotFew", .glo "Kind", .glo "Endless", .glo "Count", .glo "Bounded", .glo "Narrow", .glo "Pair", .glo "Topped", .glo "Truth", .glo "Share", .glo "Lot", .glo "Ring", .int "_STATES" 12, .int "_STEPS" 80, .int "_PAIRS" 3, .free "abs", .free "all", .free "bool"]
def fa_3 : List He.Fa := [.free "enumerate", .free "int", .free "isinstance", .free "len", .free "list", .free "max", .free "min", .free "range", .free "repr", .free "str", .free "tuple", .free "zip", .glo "_BARE", .glo "_SIZES", .glo "_ORDERED", .cls "Truth", .cls "Count", .cls "Bounded", .cls "Narrow", .cls "Share"]
def fa_4 : List He.Fa := [.cls "Lot", .cls "Pair", .cls "Ring", .mkr "Truth", .mkr "Count", .mkr "Bounded", .mkr "Narrow", .mkr "Share", .mkr "Lot", .mkr "Pair", .mkr "Ring"]
def fa : List He.Fa := fa_0 ++ fa_1 ++ fa_2 ++ fa_3 ++ fa_4
abbrev R : PySem.W.OpenRow := PySem.W.OpenLaw.row PySem.Challenge.rw_semirail_k20_the_best_first
/-! the addresses that the facts ask for, level by level, no class's bases -/
def outs (g : Addr → Option Obj) (a : Addr) : List Addr := match g a with
  | some o => (match o.data with
    | .func fd => He.refV fd.code ++ He.refV fd.defaults ++ He.refV fd.kwdefaults ++ fd.closure.map (·.2)
    | .cls cd => [cd.ns]
    | .seq its _ => its.toList.flatMap He.refV
    | .dict es _ => es.toList.flatMap fun e => He.refV e.val
    | .fields vs => vs.toList.flatMap He.refV
    | .cell (some v) => He.refV v
    | _ => [])
  | none => []
def levs (g : Addr → Option Obj) : Nat → List Addr → List Addr
  | 0, _ => []
  | n + 1, l => l ++ levs g n (l.flatMap (outs g))
def adrs (g : Addr → Option Obj) : List Addr := cStatics :: levs g 7 [mainGlobals]
def frK (g : Addr → Option Obj) : PySem.W.Frag := He.frG g (adrs g)
def keys : List Str := ["lot", "rest", "terms"]
structure SaysL (w : World) (K : PySem.W.Frag) : Prop where
  d : He.SaysD fa fn K
  more : D1.ex K = true
  tab : He.dicW K (He.ga K "_SIZES") = some (He.keysIn w.params keys)
abbrev AlL : Type := He.AlD × (Bool × Option (List (Option (Str × Int))))
def obsK (K : PySem.W.Frag) : AlL := (He.obsD fa fn K, (D1.ex K, He.dicW K (He.ga K "_SIZES")))
def obsL (g : Addr → Option Obj) : AlL := obsK (frK g)
def hk : PySem.W.Hook where
  α := AlL
  obs := fun s => obsL s.heap.get?
  val := fun w => (He.valD fn, (true, some (He.keysIn w.params keys)))
  says := fun w h => ∃ K : PySem.W.Frag, K.In h ∧ SaysL w K
  of := fun _ _ e => ⟨_, He.frG_in, congrArg (fun z : AlL => z.1) e, congrArg (fun z : AlL => z.2.1) e, congrArg (fun z : AlL => z.2.2) e⟩
  keeps := fun _ _ _ ⟨K, hK, c⟩ k => ⟨K, PySem.W.Frag.In.keeps hK k, c⟩
theorem obsL_eq {g : Addr → Option Obj} {s : Shared} (h : ∀ a, g a = s.heap.get? a) : obsL g = hk.obs s := by
  have e : g = s.heap.get? := funext h
  rw [e] <;> rfl
def ob (s : PySem.W.SharedT) : AlL := obsL (HandSHeadRun.getT s)
theorem ob_eq (s : PySem.W.SharedT) : ob s = hk.obs s.abs := obsL_eq (HandSHeadRun.getT_eq s)
/-- the run of the top, and one thing told of its end -/
noncomputable def told {α : Type} (w : World) (g : Shared × PySem.W.SharedT → α) : Option α := (HandSHeadRun.wholeF (fun p => HandSHeadRun.stepQ (HandSHeadRun.denQ HandSHeadRun.tabQ) p w) HandSHeadRun.fenceQ 20000 R.prog).map g
abbrev wf (w : World) (b : Bool) : World := w.withFollow "special-get-raises" b
end W20
end
section
set_option Elab.async false
set_option linter.all false
set_option maxRecDepth 100000
set_option maxHeartbeats 0
/-! H20b: what the run of the top tells, in three parts for each of the two worlds -/
namespace W20
open PySem PySem.Spec PyProof.Rows L2
abbrev q20 : Program := PySem.W.view R.prog [0, 108]
theorem join3 {α β γ δ ε : Type} {x : Option α} {f : α → β} {g : α → γ} {o : α → δ} {e : α → ε} {b : β} {c : γ} {d : δ} {k : ε} (h1 : x.map (fun a => (f a, g a)) = some (b, c)) (h2 : x.map o = some d) (h3 : x.map e = some k) : x.map (fun a => (f a, g a, o a, e a)) = some (b, c, d, k) := by
  cases x with
  | none => cases h2
  | some a =>
    have h1' := Option.some.inj h1
    obtain ⟨rfl, rfl⟩ := Prod.mk.inj h1'
    obtain rfl := Option.some.inj h2
    obtain rfl := Option.some.inj h3
    rfl
theorem splitD {α : Type} {x : Option α} {k : α → PySem.W.Frag} {fa : List He.Fa} {A B : List He.DefD} (h1 : x.map (fun a => He.obsD fa A (k a)) = some (He.valD A)) (h2 : x.map (fun a => He.obsD [] B (k a)) = some (He.valD B)) : x.map (fun a => He.obsD fa (A ++ B) (k a)) = some (He.valD (A ++ B)) := by
  cases x with
  | none => cases h2
  | some a =>
    have e1 := Option.some.inj h1
    have e2 := Option.some.inj h2
    have a1 := congrArg Prod.fst e1
    have a2 := congrArg Prod.fst e2
    have b1 := congrArg Prod.snd e1
    have b2 := congrArg Prod.snd e2
    simp only [He.obsD, He.valD] at a1 a2 b1 b2
    show some _ = some _
    congr 1
    simp only [He.obsD, He.valD, List.all_append, List.map_append, b1, b2, Prod.mk.injEq, and_true]
    simp only [Bool.and_eq_true, List.all_nil, Bool.true_and] at a1 a2 ⊢
    exact ⟨a1.1, a1.2, a2⟩
theorem l_f (w : World) : told (wf w false) (fun x => (HandSHeadRun.looksF R.prog x.1.heap x.2.abs, HandSHeadRun.seenQ q20 names (importedModules R.prog.main.body) (fun s => PySem.W.xlAt q20 [] s && PySem.W.recOk R.toRowW.records s) x.2.abs)) = some (true, PySem.W.openGood q20 names) := by
  unfold told
  kernel_rfl
theorem o1_f (w : World) : told (wf w false) (fun x => He.obsD fa fnA (frK (HandSHeadRun.getT x.2))) = some (He.valD fnA) := by
  unfold told
  kernel_rfl
theorem o2_f (w : World) : told (wf w false) (fun x => He.obsD [] fnB (frK (HandSHeadRun.getT x.2))) = some (He.valD fnB) := by
  unfold told
  kernel_rfl
theorem o_f (w : World) : told (wf w false) (fun x => He.obsD fa fn (frK (HandSHeadRun.getT x.2))) = some (He.valD fn) := by
  have h1 := o1_f w
  have h2 := o2_f w
  unfold told at h1 h2 ⊢
  exact splitD h1 h2
theorem e_f (w : World) : told (wf w false) (fun x => (D1.ex (frK (HandSHeadRun.getT x.2)), He.dicW (frK (HandSHeadRun.getT x.2)) (He.ga (frK (HandSHeadRun.getT x.2)) "_SIZES"))) = some (true, some (He.keysIn (wf w false).params keys)) := by
  unfold told
  kernel_rfl
theorem run_f (w : World) : HandSHeadRun.RunEqI R (PySem.W.view R.prog [0, 108]) hk ob 20000 names (wf w false) := by
  unfold HandSHeadRun.RunEqI
  exact join3 (l_f w) (o_f w) (e_f w)
theorem l_t (w : World) : told (wf w true) (fun x => (HandSHeadRun.looksF R.prog x.1.heap x.2.abs, HandSHeadRun.seenQ q20 names (importedModules R.prog.main.body) (fun s => PySem.W.xlAt q20 [] s && PySem.W.recOk R.toRowW.records s) x.2.abs)) = some (true, PySem.W.openGood q20 names) := by
  unfold told
  kernel_rfl
theorem o1_t (w : World) : told (wf w true) (fun x => He.obsD fa fnA (frK (HandSHeadRun.getT x.2))) = some (He.valD fnA) := by
  unfold told
  kernel_rfl
theorem o2_t (w : World) : told (wf w true) (fun x => He.obsD [] fnB (frK (HandSHeadRun.getT x.2))) = some (He.valD fnB) := by
  unfold told
  kernel_rfl
theorem o_t (w : World) : told (wf w true) (fun x => He.obsD fa fn (frK (HandSHeadRun.getT x.2))) = some (He.valD fn) := by
  have h1 := o1_t w
  have h2 := o2_t w
  unfold told at h1 h2 ⊢
  exact splitD h1 h2
theorem e_t (w : World) : told (wf w true) (fun x => (D1.ex (frK (HandSHeadRun.getT x.2)), He.dicW (frK (HandSHeadRun.getT x.2)) (He.ga (frK (HandSHeadRun.getT x.2)) "_SIZES"))) = some (true, some (He.keysIn (wf w true).params keys)) := by
  unfold told
  kernel_rfl
theorem run_t (w : World) : HandSHeadRun.RunEqI R (PySem.W.view R.prog [0, 108]) hk ob 20000 names (wf w true) := by
  unfold HandSHeadRun.RunEqI
  exact join3 (l_t w) (o_t w) (e_t w)
theorem run (w : World) : HandSHeadRun.RunEqI R (PySem.W.view R.prog [0, 108]) hk ob 20000 names w := PySem.W.byRow2 "special-get-raises" (P := fun w => HandSHeadRun.RunEqI R (PySem.W.view R.prog [0, 108]) hk ob 20000 names w) run_f run_t w
end W20
end
section
set_option Elab.async false
set_option linter.all false
set_option maxRecDepth 100000
set_option maxHeartbeats 4000000
/-! X1: own exceptions of any of the eleven bases, made with positional arguments and keywords -/
namespace PySem
namespace VX
open PySem.W PySem.Calls PyProof.Rows PySem.HandSPX
section
variable {M : Model} {A : Around} {E : Value → Shared → Prop} {h : Heap} {g : Array GenState} {d : Drawn} {t : Nat} {os : OsState}
variable {nm q : Str} {C N : Addr} {bs bm bmB : List Value} {hdct : Bool} {sn : List Str} {sub : List Value} {ab : Bool} {col : Option Bool} {dd : Option Addr} {k0 k1 k2 k3 k5 : Option Value} {B newId initId : String}
theorem newGuardK (F : ExcBaseFacts B newId initId bmB) (hT : ∀ X : String, bm.contains (.type X) = bmB.contains (.type X)) {rest : List Value} {kw : List (Str × Value)} {Q : Unit → Shared → Prop}
    (hC : h.get? C = some (excClassObj nm q C N bs bm hdct sn sub ab col dd k0 k1 k2 k3 k5 newId)) (hq : Q () ⟨h, g, d, t, os⟩) :
    wpAny M A (checkBuiltinCall newId ⟨.ref C :: rest, kw⟩) Q E ⟨h, g, d, t, os⟩ := by
  have inB : (Value.ref C :: bm).contains (.type B) = true := by rw [List.contains_cons, hT, F.hasB]; exact Bool.or_true _
  have star := F.noStar
  simp only [checkBuiltinCall, F.newKind, F.newSplit, F.newRow]
  repeat (first
    | refine wpAny_loadPart_at hC ?_
    | (refine wpAny_isSubtype_exc hC ?_; rw [inB])
    | refine wpAny_staticBase_exc hC ?_
    | refine wpAny_madeBy_exc hC ?_
    | simp only [bne_self_eq_false, Bool.false_eq_true, if_false]
    | wp_step)
  exact hq
end
section
variable {prog : Program} {w : World} {A : Around} {E : Value → Shared → Prop} {R : Result → Shared → Prop} {h : Heap} {g : Array GenState} {d : Drawn} {t : Nat} {os : OsState}
variable {nm q : Str} {C N : Addr} {bs bm bmB : List Value} {hdct : Bool} {sn : List Str} {sub : List Value} {ab : Bool} {col : Option Bool} {dd : Option Addr} {k0 k1 k2 k3 k5 : Option Value} {B newId initId : String}
theorem newK (F : ExcBaseFacts B newId initId bmB) (hT : ∀ X : String, bm.contains (.type X) = bmB.contains (.type X)) {rest : List Value} {kw : List (Str × Value)}
    (hC : h.get? C = some (excClassObj nm q C N bs bm hdct sn sub ab col dd k0 k1 k2 k3 k5 newId))
    (hq : R (.ok (.ret (.ref (h.objs.size + 1)))) ⟨(h.push (kdv_tup rest)).push (excO C h.objs.size), g, d, t, os⟩) (hrest : rest.length ≤ sizeLine) :
    codeAny (model prog w) A (.builtin newId ⟨.ref C :: rest, kw⟩) R ⟨h, g, d, t, os⟩ := by
  have ends := F.ends
  have inB : (Value.ref C :: bm).contains (.type B) = true := by rw [List.contains_cons, hT, F.hasB]; exact Bool.or_true _
  have inA : (Value.ref C :: bm).contains (.type "AttributeError") = false := by rw [List.contains_cons, hT, F.noAttr] <;> rfl
  have inN : (Value.ref C :: bm).contains (.type "NameError") = false := by rw [List.contains_cons, hT, F.noName] <;> rfl
  refine codeAny_builtinAt F.entry ?_
  unfold Builtin.«BaseException.__new__»
  refine wpAt_bind ?_
  show wpAt _ _ _ (stack >>= _) _ _ _
  refine wpAt_bind (wpAt_stack fun p below => wpAt_of_wpAny ?_)
  wp_walk
  refine wpAt_of_wpAny ?_
  rw [F.owner]
  repeat (first
    | with_reducible refine wpAny_madeHere_exc F.canon hC ?_
    | with_reducible refine wpAny_loadPart_at hC ?_
    | (with_reducible refine wpAny_isSubtype_exc hC ?_; first | rw [inB] | rw [inA] | rw [inN])
    | wp_step)
  show R _ _
  rw [Heap.size_push]
  exact hq
theorem typeCallK (F : ExcBaseFacts B newId initId bmB) (hT : ∀ X : String, bm.contains (.type X) = bmB.contains (.type X)) {rest : List Value} {kw : List (Str × Value)} {fI : Addr} {Q : Fin → Shared → Prop}
    (hC : h.get? C = some (excClassObj nm q C N bs bm hdct sn sub ab col dd k0 k1 k2 k3 k5 newId))
    (hi : W.Looks (model prog w) h (typeLookup (.ref C) "__init__") (some (.ref fI))) (hb : ∀ self, W.Looks (model prog w) h (bindSpecial (.ref fI) self) (.ref fI, [self])) (hrest : rest.length ≤ sizeLine)
    (hq : codeAny (model prog w) A (.call (.ref fI) ⟨.ref (h.objs.size + 1) :: rest, kw⟩)
      (fun r s' => match r with | .ok (.ret v) => v = .none ∧ Q (.done (.ret (.ref (h.objs.size + 1)))) s' | .ok _ => False | .error e => E e s')
      ⟨(h.push (kdv_tup rest)).push (excO C h.objs.size), g, d, t, os⟩) :
    wpAny (model prog w) A (Builtin.«type.__call__» ⟨.ref C :: rest, kw⟩) Q E ⟨h, g, d, t, os⟩ := by
  repeat (first
    | with_reducible refine wpAny_loadPart_at hC ?_
    | with_reducible refine wpAny_madeBy_exc hC ?_
    | wp_step)
  refine codeAny_call_builtin_code (Code.quiet_builtin _ F.quiet) (newGuardK F hT hC ?_)
  refine newK F hT hC ?_ hrest
  show wpAny _ _ _ _ _ _
  have up : ∀ b o, h.get? b = some o → ((h.push (kdv_tup rest)).push (excO C h.objs.size)).get? b = some o := fun b o e => Heap.get?_push_of_some _ (Heap.get?_push_of_some _ e)
  have hC2 := up _ _ hC
  have here : ((h.push (kdv_tup rest)).push (excO C h.objs.size)).get? (h.objs.size + 1) = some (excO C h.objs.size) := by heap_get
  have inC : (Value.ref C :: bm).contains (.ref C) = true := by simp
  have i2 := hi.keeps up
  have b2 := (hb (.ref (h.objs.size + 1))).keeps up
  unfold isInstance
  repeat (first
    | with_reducible refine wpAny_loadPart_at here ?_
    | (with_reducible refine wpAny_isSubtype_exc hC2 ?_; rw [inC])
    | wp_step)
  show wpAny _ _ (typeLookup (.ref C) _) _ _ _
  refine i2.at ?_
  refine wpAny_holding (wpAny_bind (b2.at ?_))
  refine wpAny_bind (wpAny_call (codeAny_mono hq fun r s' z => ?_))
  rcases r with e | (v | _ | _ | _) <;> first | exact z | exact z.elim | skip
  obtain ⟨rfl, z⟩ := z
  first
    | exact wpAny_pure (wpAny_pure z)
    | (wp_walk; exact z)
end
section
variable {prog : Program} {w : World} {A : Around} {E : Value → Shared → Prop} {R : Result → Shared → Prop} {s : Shared} {K : Frag} {C fI : Addr} {bmB : List Value} {B newId initId : String}
/-- C(.., k = v): the object and its args are laid, then the class's own __init__ runs -/
theorem callK (F : ExcBaseFacts B newId initId bmB) (X : K.In s.heap) (q : excInitIn K C bmB newId = true) {rest : List Value} {kw : List (Str × Value)}
    (iC : findIn K (.ref C) "__init__" = some (some (.ref fI))) (tI : typeIn K (.ref fI) = some (.type "function")) (hrest : rest.length ≤ sizeLine)
    (hq : codeAny (model prog w) (A.under (.builtin "type.__call__" ⟨.ref C :: rest, kw⟩)) (.call (.ref fI) ⟨.ref (s.heap.objs.size + 1) :: rest, kw⟩) (W.InitBack (s.heap.objs.size + 1) R)
      { s with heap := (s.heap.push (kdv_tup rest)).push (excO C s.heap.objs.size) }) :
    codeAny (model prog w) A (.call (.ref C) ⟨rest, kw⟩) R s := by
  obtain ⟨nm, N', qn, bs, bm, hdct, sn, sub, ab, col, dd, k0, k1, k2, k3, k5, hC, hT⟩ := excInit_of X q
  have hi : W.Looks (model prog w) s.heap (typeLookup (.ref C) "__init__") (some (.ref fI)) := looks_findIn X iC
  have hb : ∀ self, W.Looks (model prog w) s.heap (bindSpecial (.ref fI) self) (.ref fI, [self]) := fun self => bind_fn X self tI
  obtain ⟨h, g, d, t, os⟩ := s
  have f1 := tc_lookup
  have f2 := tc_bind (.ref C)
  have hTy : (⟨h, g, d, t, os⟩ : Shared).TypeIs (.ref C) "type" := ⟨_, hC, rfl⟩
  refine codeAny_of_tree ?_
  show wpAny _ _ (callAny (.ref C) _) _ _ _
  repeat (any_goals (first | assumption | with_reducible refine wpAny_loadPart_at hC ?_ | wp_step))
  refine ⟨rfl, ?_⟩
  refine codeAny_call_builtin_at (Code.quiet_builtin _ (by decide +kernel)) entry_typeCall (wpAny_check_type_call_sub hC (typeCallK F hT hC hi hb hrest ?_))
  refine codeAny_mono hq fun r s' z => ?_
  rcases r with e | (v | _ | _ | _) <;> exact z
end
end VX
end PySem
end
section
set_option Elab.async false
set_option linter.all false
set_option maxRecDepth 100000
set_option maxHeartbeats 4000000
/-! X2: fields stored into such an exception -/
namespace PySem
namespace VX
open PySem.W PySem.Calls PyProof.Rows PySem.HandSPX
section
open Builtin Builtin.ObjectAttr
variable {prog : Program} {w : World} {A : Around} {R : Result → Shared → Prop} {K : Frag} {hp : Heap} {g : Array GenState} {d : Drawn} {t : Nat} {os : OsState} {C x dx : Addr} {bmB : List Value} {B : String} {name : Str} {tk : Tok} {v : Value} {fv : Array Value} {m0 : Str → Option Value} {nl : List Str}
/-- the first field: the dict is made -/
theorem storeFirst (SF : StoreFacts B bmB "object.__setattr__" "object") (X : K.In hp) (hx : hp.get? x = some { cls := .ref C, data := .fields fv }) (q : excOver K C bmB = true) (hh : hasDictIn K C = true) (ta : takerIn K C name = some none)
    (hq : ∀ h' tk' dx, (∀ b o, b ≠ x → hp.get? b = some o → h'.get? b = some o) → hp.objs.size ≤ dx → dx ≠ x → h'.get? x = some { cls := .ref C, dict := some dx, data := .fields fv } →
      h'.Ns1 dx (fun y => if y = name then some v else none) → R (.ok (.ret .none)) ⟨h', g, d, tk', os⟩) :
    codeAny (model prog w) A (.call (.builtin "object.__setattr__") ⟨[.ref x, .str name tk, v], []⟩) R ⟨hp, g, d, t, os⟩ := by
  obtain ⟨cd, hcd, hd'⟩ := any_some hh
  have lk : W.Looks (model prog w) hp (classData C) cd := looks_clsIn X hcd
  have nx : x ≠ hp.objs.size := Nat.ne_of_lt (Heap.lt_size hx)
  refine osa_openX (od := none) (ox := { cls := .ref C, data := .fields fv }) SF X ⟨hx, rfl, rfl, trivial⟩ q ta fun b => ?_
  show wpAny _ _ (storeInOwnDict (.ref x) (.ref C) (.str name tk) name v b) _ _ _
  obtain ⟨nm, bs, mro, ns, qn, hd, sn, sb, ab, col, del⟩ := cd
  dsimp only at hd'
  subst hd'
  unfold storeInOwnDict ownDictForStores
  repeat (first
    | with_reducible refine store_in_new ?_ ?_
    | with_reducible refine wpAny_loadPart_at hx ?_
    | with_reducible refine lk.at ?_
    | wp_step)
  · exact ⟨_, #[], _, (Heap.get?_update_ne _ _ _ _ nx.symm).trans (Heap.get?_push_at rfl rfl), rfl, fun e he => absurd he (by simp), fun _ => rfl⟩
  · intro h' tk' hn' hs
    have hx1 : (hp.push { cls := .type "dict", data := .dict #[] }).get? x = some { cls := .ref C, data := .fields fv } := Heap.get?_push_of_some _ hx
    refine hq h' tk' hp.objs.size (fun b o hb ho => ?_) (Nat.le_refl _) nx.symm ?_ hn'
    · exact (hs.2 b (Nat.ne_of_lt (Heap.lt_size ho))).trans ((Heap.get?_update_ne _ _ _ _ hb).trans (Heap.get?_push_of_some _ ho))
    · exact (hs.2 x nx).trans (Heap.get?_update_self _ hx1 rfl)
/-- a further field -/
theorem storeNext (SF : StoreFacts B bmB "object.__setattr__" "object") (X : K.In hp) (hx : hp.get? x = some { cls := .ref C, dict := some dx, data := .fields fv }) (hns : hp.Ns1 dx m0) (hw : Within m0 nl) (hz : nl.length ≤ 1000)
    (q : excOver K C bmB = true) (hh : hasDictIn K C = true) (ta : takerIn K C name = some none)
    (hq : ∀ h' tk', (∀ b o, b ≠ dx → hp.get? b = some o → h'.get? b = some o) → h'.Ns1 dx (fun y => if y = name then some v else m0 y) → R (.ok (.ret .none)) ⟨h', g, d, tk', os⟩) :
    codeAny (model prog w) A (.call (.builtin "object.__setattr__") ⟨[.ref x, .str name tk, v], []⟩) R ⟨hp, g, d, t, os⟩ := by
  obtain ⟨oD, esD, epD, hoD, hdD, _⟩ := hns.count hw
  obtain ⟨cd, hcd, hd'⟩ := any_some hh
  have lk : W.Looks (model prog w) hp (classData C) cd := looks_clsIn X hcd
  refine osa_openX (od := some oD) (ox := { cls := .ref C, dict := some dx, data := .fields fv }) SF X ⟨hx, rfl, rfl, hoD⟩ q ta fun b => ?_
  show wpAny _ _ (storeInOwnDict (.ref x) (.ref C) (.str name tk) name v b) _ _ _
  obtain ⟨nm, bs, mro, ns, qn, hd, sn, sb, ab, col, del⟩ := cd
  dsimp only at hd'
  subst hd'
  unfold storeInOwnDict ownDictForStores
  repeat (first
    | with_reducible refine OEX.store_in_old hns hw hz ?_
    | with_reducible refine wpAny_loadPart_at hx ?_
    | with_reducible refine lk.at ?_
    | wp_step)
  intro h' tk' hn' hs
  exact hq h' tk' (fun b o hb ho => (hs.2 b hb).trans ho) hn'
end
end VX
end PySem
end
section
set_option Elab.async false
set_option linter.all false
set_option maxRecDepth 100000
set_option maxHeartbeats 4000000
/-! X3: the program's own __init__s, each a store of its arguments -/
namespace PySem
namespace VX
open PySem.W PySem.Calls PyProof.Rows PySem.HandSPX
/-- what the written part says of an own exception class at C, fields fn, over the built-in base B -/
structure XB (K : Frag) (bmB : List Value) (newId : String) (C : Addr) (fn : List Str) : Prop where
  ini : excInitIn K C bmB newId = true
  over : excOver K C bmB = true
  hd : hasDictIn K C = true
  sa : findIn K (.ref C) "__setattr__" = some (some (.builtin "object.__setattr__"))
  ga : findIn K (.ref C) "__getattribute__" = some (some (.builtin "BaseException.__getattribute__"))
  gg : findIn K (.ref C) "__getattr__" = some none
  ca : findIn K (.ref C) "__class__" = some (some (.builtin "object.__class__"))
  mo : mroIn K C (.type "object") = some true
  no : ∀ f ∈ fn, findIn K (.ref C) f = some none
  keep : keepIn K (.ref C) = true
  exc : subIn K (.ref C) (.type "BaseException") = some true
  ty : typeIn K (.ref C) = some (.type "type")
theorem taker_of {K : Frag} {C : Addr} {f : Str} (h : findIn K (.ref C) f = some none) : takerIn K C f = some none := by
  unfold takerIn
  rw [h]
  rfl
def fS (f : Str) : Scope := { kind := .function, names := [(PySem.Str.ofString "self", .local), (f, .local)], isGenerator := false, isCoroutine := false, more := [] }
def fA (f : Str) (p1 p2 : Pos) : Arguments := { posonlyargs := [], args := [{ arg := "self", annotation := none, pos := p1 }, { arg := f, annotation := none, pos := p2 }], vararg := none, kwonlyargs := [], kw_defaults := [], kwarg := none, defaults := [] }
def fB (f : Str) (q1 q2 q3 q4 : Pos) : List Stmt := [.Assign [.Attribute (.Name "self" q1) f q2] (.Name f q3) q4]
/-- what __init__ leaves of the object at x -/
structure InitLeft (h h' : Heap) (x C dx t1 : Addr) (kvs : List (Str × Value)) : Prop where
  keep : ∀ b o, b ≠ x → h.get? b = some o → h'.get? b = some o
  obj : h'.get? x = some { cls := .ref C, dict := some dx, data := .fields #[.ref t1, .none, .none, .none, .bool false, .none] }
  dbig : h.objs.size ≤ dx
  dne : dx ≠ x
  ns : h'.Ns1 dx (fun y => kvs.lookup y)
theorem look1 (f : Str) (v : Value) : (fun y => if y = f then some v else none) = fun y => ([(f, v)] : List (Str × Value)).lookup y := by
  funext y
  by_cases e : y = f
  · subst e
    simp [List.lookup]
  · have q : (y == f) = false := by simpa using e
    rw [if_neg e]
    simp [List.lookup, q]
theorem look2 (f g : Str) (v u : Value) : (fun y => if y = g then some u else if y = f then some v else none) = fun y => ([(g, u), (f, v)] : List (Str × Value)).lookup y := by
  funext y
  by_cases e : y = g
  · subst e
    simp [List.lookup]
  · have q : (y == g) = false := by simpa using e
    rw [if_neg e]
    have l := congrFun (look1 f v) y
    rw [show (if y = f then some v else none) = _ from l]
    simp [List.lookup, q]
theorem localAt {M : Model} {s : Shared} {name : Str} {scope : Scope} {L a : Addr} {cd : Value} {m : Str → Option Value} {x : Str} {pos : Pos} {v : Value} {Q : Value → Shared → Prop} {A : Around} {E : Value → Shared → Prop}
    (hn : s.heap.Ns L m) (hv : m x = some v) (h : Q v s) (hk : scope.kind = .function := by rfl) (hl : (envOfC name scope L a cd).kindOf x = some .local := by rfl) (hd : (x == ("__debug__" : Str)) = false := by decide) :
    wpAny M A (eval (.Name x pos) (envOfC name scope L a cd)) Q E s := by
  refine wpAny_Name ?_ hd
  exact wpAny_loadName_local hk hl hn hv h
/-- the def of an __init__ with one field -/
structure Ini1 (K : Frag) (fI : Addr) (qual f : Str) (fd : FuncData) : Prop where
  ex : ∃ (oc : Value) (od : Option Addr) (doc pm : Value) (an : Option Addr) (cdv ct : Value) (osl : Array (Option Value)) (p1 p2 q1 q2 q3 q4 : Pos),
    fd = fnOf "__init__" qual (fA f p1 p2) (fB f q1 q2 q3 q4) (fS f) .none .none doc pm an cdv ct ∧ K.lookup fI = some ⟨oc, od, .func fd, osl⟩ ∧ codeIn K cdv qual = true
section
variable {prog : Program} {w : World} {A : Around} {E : Value → Shared → Prop} {R : Result → Shared → Prop} {s : Shared} {K : Frag} {C fI : Addr} {bmB : List Value} {B newId : String} {qual : Str} {fd : FuncData} {args : Args}
theorem init_what (SF : StoreFacts B bmB "object.__setattr__" "object") (T : XB K bmB newId C [("what" : Str)]) (D : Ini1 K fI qual "what" fd) {x t0 : Addr} {v : Value} (X : K.In s.heap) (hlim : s.heap.NoLimit)
    (hx : s.heap.get? x = some (excO C t0)) (hroom : A.depth < recursionLimit) (hb : BindsTo s fd args [("self", .ref x), ("what", v)])
    (hq : ∀ h' tk dx, InitLeft s.heap h' x C dx t0 [("what", v)] → R (.ok (.ret .none)) { s with heap := h', toks := tk }) :
    codeAny (model prog w) A (.call (.ref fI) args) R s := by
  obtain ⟨oc, od, doc, pm, an, cdv, ct, osl, p1, p2, q1, q2, q3, q4, rfl, ho, hcd⟩ := D.ex
  refine Att.call_fn (binds := [("self", .ref x), ("what", v)]) X hlim ho hcd hroom hb (by first | rfl | decide | with_unfolding_all rfl) (fun s1 IC => ?_) rfl rfl rfl
  obtain ⟨h1, tk1, rfl⟩ := IC.toInCall.same
  have up : ∀ b o, s.heap.get? b = some o → h1.get? b = some o := IC.toInCall.keep
  have hn := IC.toInCall.ns
  have X1 : K.In h1 := X.keeps up
  have hx1 := up _ _ hx
  show wpAny _ _ (execs _ _) _ _ _
  refine wpAny_execs_cons (plainObj_wpAny_Assign_Attribute ?_)
  refine localAt (v := v) hn (by first | rfl | with_unfolding_all rfl | kernel_rfl) (localAt (v := .ref x) hn (by first | rfl | with_unfolding_all rfl | kernel_rfl) ?_)
  refine set_plain X1 (ox := excO C t0) (od := none) ⟨hx1, rfl, rfl, trivial⟩ T.sa ?_
  refine storeFirst SF X1 hx1 T.over T.hd (taker_of (T.no _ (List.mem_cons_self ..))) (fun h3 tk3 dx k3 dn dne hx3 hn3 => ?_)
  show wpAny _ _ (execs _ _) _ _ _
  have z : s.heap.objs.size < h1.objs.size := hn.lt
  refine wpAny_execs_nil (hq h3 tk3 dx ⟨fun b o hb e => k3 b o hb (up b o e), hx3, Nat.le_of_lt (Nat.lt_of_lt_of_le z dn), dne, ?_⟩)
  rw [← look1]
  exact hn3
theorem init_why (SF : StoreFacts B bmB "object.__setattr__" "object") (T : XB K bmB newId C [("why" : Str)]) (D : Ini1 K fI qual "why" fd) {x t0 : Addr} {v : Value} (X : K.In s.heap) (hlim : s.heap.NoLimit)
    (hx : s.heap.get? x = some (excO C t0)) (hroom : A.depth < recursionLimit) (hb : BindsTo s fd args [("self", .ref x), ("why", v)])
    (hq : ∀ h' tk dx, InitLeft s.heap h' x C dx t0 [("why", v)] → R (.ok (.ret .none)) { s with heap := h', toks := tk }) :
    codeAny (model prog w) A (.call (.ref fI) args) R s := by
  obtain ⟨oc, od, doc, pm, an, cdv, ct, osl, p1, p2, q1, q2, q3, q4, rfl, ho, hcd⟩ := D.ex
  refine Att.call_fn (binds := [("self", .ref x), ("why", v)]) X hlim ho hcd hroom hb (by first | rfl | decide | with_unfolding_all rfl) (fun s1 IC => ?_) rfl rfl rfl
  obtain ⟨h1, tk1, rfl⟩ := IC.toInCall.same
  have up : ∀ b o, s.heap.get? b = some o → h1.get? b = some o := IC.toInCall.keep
  have hn := IC.toInCall.ns
  have X1 : K.In h1 := X.keeps up
  have hx1 := up _ _ hx
  show wpAny _ _ (execs _ _) _ _ _
  refine wpAny_execs_cons (plainObj_wpAny_Assign_Attribute ?_)
  refine localAt (v := v) hn (by first | rfl | with_unfolding_all rfl | kernel_rfl) (localAt (v := .ref x) hn (by first | rfl | with_unfolding_all rfl | kernel_rfl) ?_)
  refine set_plain X1 (ox := excO C t0) (od := none) ⟨hx1, rfl, rfl, trivial⟩ T.sa ?_
  refine storeFirst SF X1 hx1 T.over T.hd (taker_of (T.no _ (List.mem_cons_self ..))) (fun h3 tk3 dx k3 dn dne hx3 hn3 => ?_)
  show wpAny _ _ (execs _ _) _ _ _
  have z : s.heap.objs.size < h1.objs.size := hn.lt
  refine wpAny_execs_nil (hq h3 tk3 dx ⟨fun b o hb e => k3 b o hb (up b o e), hx3, Nat.le_of_lt (Nat.lt_of_lt_of_le z dn), dne, ?_⟩)
  rw [← look1]
  exact hn3
theorem init_line (SF : StoreFacts B bmB "object.__setattr__" "object") (T : XB K bmB newId C [("line" : Str)]) (D : Ini1 K fI qual "line" fd) {x t0 : Addr} {v : Value} (X : K.In s.heap) (hlim : s.heap.NoLimit)
    (hx : s.heap.get? x = some (excO C t0)) (hroom : A.depth < recursionLimit) (hb : BindsTo s fd args [("self", .ref x), ("line", v)])
    (hq : ∀ h' tk dx, InitLeft s.heap h' x C dx t0 [("line", v)] → R (.ok (.ret .none)) { s with heap := h', toks := tk }) :
    codeAny (model prog w) A (.call (.ref fI) args) R s := by
  obtain ⟨oc, od, doc, pm, an, cdv, ct, osl, p1, p2, q1, q2, q3, q4, rfl, ho, hcd⟩ := D.ex
  refine Att.call_fn (binds := [("self", .ref x), ("line", v)]) X hlim ho hcd hroom hb (by first | rfl | decide | with_unfolding_all rfl) (fun s1 IC => ?_) rfl rfl rfl
  obtain ⟨h1, tk1, rfl⟩ := IC.toInCall.same
  have up : ∀ b o, s.heap.get? b = some o → h1.get? b = some o := IC.toInCall.keep
  have hn := IC.toInCall.ns
  have X1 : K.In h1 := X.keeps up
  have hx1 := up _ _ hx
  show wpAny _ _ (execs _ _) _ _ _
  refine wpAny_execs_cons (plainObj_wpAny_Assign_Attribute ?_)
  refine localAt (v := v) hn (by first | rfl | with_unfolding_all rfl | kernel_rfl) (localAt (v := .ref x) hn (by first | rfl | with_unfolding_all rfl | kernel_rfl) ?_)
  refine set_plain X1 (ox := excO C t0) (od := none) ⟨hx1, rfl, rfl, trivial⟩ T.sa ?_
  refine storeFirst SF X1 hx1 T.over T.hd (taker_of (T.no _ (List.mem_cons_self ..))) (fun h3 tk3 dx k3 dn dne hx3 hn3 => ?_)
  show wpAny _ _ (execs _ _) _ _ _
  have z : s.heap.objs.size < h1.objs.size := hn.lt
  refine wpAny_execs_nil (hq h3 tk3 dx ⟨fun b o hb e => k3 b o hb (up b o e), hx3, Nat.le_of_lt (Nat.lt_of_lt_of_le z dn), dne, ?_⟩)
  rw [← look1]
  exact hn3
theorem init_step (SF : StoreFacts B bmB "object.__setattr__" "object") (T : XB K bmB newId C [("step" : Str)]) (D : Ini1 K fI qual "step" fd) {x t0 : Addr} {v : Value} (X : K.In s.heap) (hlim : s.heap.NoLimit)
    (hx : s.heap.get? x = some (excO C t0)) (hroom : A.depth < recursionLimit) (hb : BindsTo s fd args [("self", .ref x), ("step", v)])
    (hq : ∀ h' tk dx, InitLeft s.heap h' x C dx t0 [("step", v)] → R (.ok (.ret .none)) { s with heap := h', toks := tk }) :
    codeAny (model prog w) A (.call (.ref fI) args) R s := by
  obtain ⟨oc, od, doc, pm, an, cdv, ct, osl, p1, p2, q1, q2, q3, q4, rfl, ho, hcd⟩ := D.ex
  refine Att.call_fn (binds := [("self", .ref x), ("step", v)]) X hlim ho hcd hroom hb (by first | rfl | decide | with_unfolding_all rfl) (fun s1 IC => ?_) rfl rfl rfl
  obtain ⟨h1, tk1, rfl⟩ := IC.toInCall.same
  have up : ∀ b o, s.heap.get? b = some o → h1.get? b = some o := IC.toInCall.keep
  have hn := IC.toInCall.ns
  have X1 : K.In h1 := X.keeps up
  have hx1 := up _ _ hx
  show wpAny _ _ (execs _ _) _ _ _
  refine wpAny_execs_cons (plainObj_wpAny_Assign_Attribute ?_)
  refine localAt (v := v) hn (by first | rfl | with_unfolding_all rfl | kernel_rfl) (localAt (v := .ref x) hn (by first | rfl | with_unfolding_all rfl | kernel_rfl) ?_)
  refine set_plain X1 (ox := excO C t0) (od := none) ⟨hx1, rfl, rfl, trivial⟩ T.sa ?_
  refine storeFirst SF X1 hx1 T.over T.hd (taker_of (T.no _ (List.mem_cons_self ..))) (fun h3 tk3 dx k3 dn dne hx3 hn3 => ?_)
  show wpAny _ _ (execs _ _) _ _ _
  have z : s.heap.objs.size < h1.objs.size := hn.lt
  refine wpAny_execs_nil (hq h3 tk3 dx ⟨fun b o hb e => k3 b o hb (up b o e), hx3, Nat.le_of_lt (Nat.lt_of_lt_of_le z dn), dne, ?_⟩)
  rw [← look1]
  exact hn3
theorem init_most (SF : StoreFacts B bmB "object.__setattr__" "object") (T : XB K bmB newId C [("most" : Str)]) (D : Ini1 K fI qual "most" fd) {x t0 : Addr} {v : Value} (X : K.In s.heap) (hlim : s.heap.NoLimit)
    (hx : s.heap.get? x = some (excO C t0)) (hroom : A.depth < recursionLimit) (hb : BindsTo s fd args [("self", .ref x), ("most", v)])
    (hq : ∀ h' tk dx, InitLeft s.heap h' x C dx t0 [("most", v)] → R (.ok (.ret .none)) { s with heap := h', toks := tk }) :
    codeAny (model prog w) A (.call (.ref fI) args) R s := by
  obtain ⟨oc, od, doc, pm, an, cdv, ct, osl, p1, p2, q1, q2, q3, q4, rfl, ho, hcd⟩ := D.ex
  refine Att.call_fn (binds := [("self", .ref x), ("most", v)]) X hlim ho hcd hroom hb (by first | rfl | decide | with_unfolding_all rfl) (fun s1 IC => ?_) rfl rfl rfl
  obtain ⟨h1, tk1, rfl⟩ := IC.toInCall.same
  have up : ∀ b o, s.heap.get? b = some o → h1.get? b = some o := IC.toInCall.keep
  have hn := IC.toInCall.ns
  have X1 : K.In h1 := X.keeps up
  have hx1 := up _ _ hx
  show wpAny _ _ (execs _ _) _ _ _
  refine wpAny_execs_cons (plainObj_wpAny_Assign_Attribute ?_)
  refine localAt (v := v) hn (by first | rfl | with_unfolding_all rfl | kernel_rfl) (localAt (v := .ref x) hn (by first | rfl | with_unfolding_all rfl | kernel_rfl) ?_)
  refine set_plain X1 (ox := excO C t0) (od := none) ⟨hx1, rfl, rfl, trivial⟩ T.sa ?_
  refine storeFirst SF X1 hx1 T.over T.hd (taker_of (T.no _ (List.mem_cons_self ..))) (fun h3 tk3 dx k3 dn dne hx3 hn3 => ?_)
  show wpAny _ _ (execs _ _) _ _ _
  have z : s.heap.objs.size < h1.objs.size := hn.lt
  refine wpAny_execs_nil (hq h3 tk3 dx ⟨fun b o hb e => k3 b o hb (up b o e), hx3, Nat.le_of_lt (Nat.lt_of_lt_of_le z dn), dne, ?_⟩)
  rw [← look1]
  exact hn3
theorem init_name (SF : StoreFacts B bmB "object.__setattr__" "object") (T : XB K bmB newId C [("name" : Str)]) (D : Ini1 K fI qual "name" fd) {x t0 : Addr} {v : Value} (X : K.In s.heap) (hlim : s.heap.NoLimit)
    (hx : s.heap.get? x = some (excO C t0)) (hroom : A.depth < recursionLimit) (hb : BindsTo s fd args [("self", .ref x), ("name", v)])
    (hq : ∀ h' tk dx, InitLeft s.heap h' x C dx t0 [("name", v)] → R (.ok (.ret .none)) { s with heap := h', toks := tk }) :
    codeAny (model prog w) A (.call (.ref fI) args) R s := by
  obtain ⟨oc, od, doc, pm, an, cdv, ct, osl, p1, p2, q1, q2, q3, q4, rfl, ho, hcd⟩ := D.ex
  refine Att.call_fn (binds := [("self", .ref x), ("name", v)]) X hlim ho hcd hroom hb (by first | rfl | decide | with_unfolding_all rfl) (fun s1 IC => ?_) rfl rfl rfl
  obtain ⟨h1, tk1, rfl⟩ := IC.toInCall.same
  have up : ∀ b o, s.heap.get? b = some o → h1.get? b = some o := IC.toInCall.keep
  have hn := IC.toInCall.ns
  have X1 : K.In h1 := X.keeps up
  have hx1 := up _ _ hx
  show wpAny _ _ (execs _ _) _ _ _
  refine wpAny_execs_cons (plainObj_wpAny_Assign_Attribute ?_)
  refine localAt (v := v) hn (by first | rfl | with_unfolding_all rfl | kernel_rfl) (localAt (v := .ref x) hn (by first | rfl | with_unfolding_all rfl | kernel_rfl) ?_)
  refine set_plain X1 (ox := excO C t0) (od := none) ⟨hx1, rfl, rfl, trivial⟩ T.sa ?_
  refine storeFirst SF X1 hx1 T.over T.hd (taker_of (T.no _ (List.mem_cons_self ..))) (fun h3 tk3 dx k3 dn dne hx3 hn3 => ?_)
  show wpAny _ _ (execs _ _) _ _ _
  have z : s.heap.objs.size < h1.objs.size := hn.lt
  refine wpAny_execs_nil (hq h3 tk3 dx ⟨fun b o hb e => k3 b o hb (up b o e), hx3, Nat.le_of_lt (Nat.lt_of_lt_of_le z dn), dne, ?_⟩)
  rw [← look1]
  exact hn3
theorem init_users (SF : StoreFacts B bmB "object.__setattr__" "object") (T : XB K bmB newId C [("users" : Str)]) (D : Ini1 K fI qual "users" fd) {x t0 : Addr} {v : Value} (X : K.In s.heap) (hlim : s.heap.NoLimit)
    (hx : s.heap.get? x = some (excO C t0)) (hroom : A.depth < recursionLimit) (hb : BindsTo s fd args [("self", .ref x), ("users", v)])
    (hq : ∀ h' tk dx, InitLeft s.heap h' x C dx t0 [("users", v)] → R (.ok (.ret .none)) { s with heap := h', toks := tk }) :
    codeAny (model prog w) A (.call (.ref fI) args) R s := by
  obtain ⟨oc, od, doc, pm, an, cdv, ct, osl, p1, p2, q1, q2, q3, q4, rfl, ho, hcd⟩ := D.ex
  refine Att.call_fn (binds := [("self", .ref x), ("users", v)]) X hlim ho hcd hroom hb (by first | rfl | decide | with_unfolding_all rfl) (fun s1 IC => ?_) rfl rfl rfl
  obtain ⟨h1, tk1, rfl⟩ := IC.toInCall.same
  have up : ∀ b o, s.heap.get? b = some o → h1.get? b = some o := IC.toInCall.keep
  have hn := IC.toInCall.ns
  have X1 : K.In h1 := X.keeps up
  have hx1 := up _ _ hx
  show wpAny _ _ (execs _ _) _ _ _
  refine wpAny_execs_cons (plainObj_wpAny_Assign_Attribute ?_)
  refine localAt (v := v) hn (by first | rfl | with_unfolding_all rfl | kernel_rfl) (localAt (v := .ref x) hn (by first | rfl | with_unfolding_all rfl | kernel_rfl) ?_)
  refine set_plain X1 (ox := excO C t0) (od := none) ⟨hx1, rfl, rfl, trivial⟩ T.sa ?_
  refine storeFirst SF X1 hx1 T.over T.hd (taker_of (T.no _ (List.mem_cons_self ..))) (fun h3 tk3 dx k3 dn dne hx3 hn3 => ?_)
  show wpAny _ _ (execs _ _) _ _ _
  have z : s.heap.objs.size < h1.objs.size := hn.lt
  refine wpAny_execs_nil (hq h3 tk3 dx ⟨fun b o hb e => k3 b o hb (up b o e), hx3, Nat.le_of_lt (Nat.lt_of_lt_of_le z dn), dne, ?_⟩)
  rw [← look1]
  exact hn3
theorem init_circle (SF : StoreFacts B bmB "object.__setattr__" "object") (T : XB K bmB newId C [("circle" : Str)]) (D : Ini1 K fI qual "circle" fd) {x t0 : Addr} {v : Value} (X : K.In s.heap) (hlim : s.heap.NoLimit)
    (hx : s.heap.get? x = some (excO C t0)) (hroom : A.depth < recursionLimit) (hb : BindsTo s fd args [("self", .ref x), ("circle", v)])
    (hq : ∀ h' tk dx, InitLeft s.heap h' x C dx t0 [("circle", v)] → R (.ok (.ret .none)) { s with heap := h', toks := tk }) :
    codeAny (model prog w) A (.call (.ref fI) args) R s := by
  obtain ⟨oc, od, doc, pm, an, cdv, ct, osl, p1, p2, q1, q2, q3, q4, rfl, ho, hcd⟩ := D.ex
  refine Att.call_fn (binds := [("self", .ref x), ("circle", v)]) X hlim ho hcd hroom hb (by first | rfl | decide | with_unfolding_all rfl) (fun s1 IC => ?_) rfl rfl rfl
  obtain ⟨h1, tk1, rfl⟩ := IC.toInCall.same
  have up : ∀ b o, s.heap.get? b = some o → h1.get? b = some o := IC.toInCall.keep
  have hn := IC.toInCall.ns
  have X1 : K.In h1 := X.keeps up
  have hx1 := up _ _ hx
  show wpAny _ _ (execs _ _) _ _ _
  refine wpAny_execs_cons (plainObj_wpAny_Assign_Attribute ?_)
  refine localAt (v := v) hn (by first | rfl | with_unfolding_all rfl | kernel_rfl) (localAt (v := .ref x) hn (by first | rfl | with_unfolding_all rfl | kernel_rfl) ?_)
  refine set_plain X1 (ox := excO C t0) (od := none) ⟨hx1, rfl, rfl, trivial⟩ T.sa ?_
  refine storeFirst SF X1 hx1 T.over T.hd (taker_of (T.no _ (List.mem_cons_self ..))) (fun h3 tk3 dx k3 dn dne hx3 hn3 => ?_)
  show wpAny _ _ (execs _ _) _ _ _
  have z : s.heap.objs.size < h1.objs.size := hn.lt
  refine wpAny_execs_nil (hq h3 tk3 dx ⟨fun b o hb e => k3 b o hb (up b o e), hx3, Nat.le_of_lt (Nat.lt_of_lt_of_le z dn), dne, ?_⟩)
  rw [← look1]
  exact hn3
end
end VX
end PySem
end
section
set_option Elab.async false
set_option linter.all false
set_option maxRecDepth 100000
set_option maxHeartbeats 4000000
/-! X4: two fields; a made exception; raised, or held as a value -/
namespace PySem
namespace VX
open PySem.W PySem.Calls PyProof.Rows PySem.HandSPX
def gS : Scope := { kind := .function, names := [(PySem.Str.ofString "self", .local), (PySem.Str.ofString "rule", .local), (PySem.Str.ofString "things", .local)], isGenerator := false, isCoroutine := false, more := [] }
def gA (p1 p2 p3 : Pos) : Arguments := { posonlyargs := [], args := [{ arg := "self", annotation := none, pos := p1 }, { arg := "rule", annotation := none, pos := p2 }, { arg := "things", annotation := none, pos := p3 }], vararg := none, kwonlyargs := [], kw_defaults := [], kwarg := none, defaults := [] }
def gB (q1 q2 q3 q4 r1 r2 r3 r4 : Pos) : List Stmt := [.Assign [.Attribute (.Name "self" q1) "rule" q2] (.Name "rule" q3) q4, .Assign [.Attribute (.Name "self" r1) "things" r2] (.Name "things" r3) r4]
structure Ini2 (K : Frag) (fI : Addr) (qual : Str) (fd : FuncData) : Prop where
  ex : ∃ (oc : Value) (od : Option Addr) (doc pm : Value) (an : Option Addr) (cdv ct : Value) (osl : Array (Option Value)) (p1 p2 p3 q1 q2 q3 q4 r1 r2 r3 r4 : Pos),
    fd = fnOf "__init__" qual (gA p1 p2 p3) (gB q1 q2 q3 q4 r1 r2 r3 r4) gS .none .none doc pm an cdv ct ∧ K.lookup fI = some ⟨oc, od, .func fd, osl⟩ ∧ codeIn K cdv qual = true
section
variable {prog : Program} {w : World} {A : Around} {E : Value → Shared → Prop} {R : Result → Shared → Prop} {s : Shared} {K : Frag} {C fI : Addr} {bmB : List Value} {B newId initId : String} {fn : List Str} {qual : Str} {fd : FuncData} {args : Args}
theorem keptBut {h h' : Heap} {x : Addr} (X : K.In h) (hx : K.lookup x = none) (k : ∀ b o, b ≠ x → h.get? b = some o → h'.get? b = some o) : K.In h' := fun a o e => by
  refine k a o (fun z => ?_) (X a o e)
  rw [z, hx] at e
  cases e
theorem init_two (SF : StoreFacts B bmB "object.__setattr__" "object") (T : XB K bmB newId C [("rule" : Str), ("things" : Str)]) (D : Ini2 K fI qual fd) {x t0 : Addr} {v u : Value} (X : K.In s.heap) (hlim : s.heap.NoLimit)
    (hx : s.heap.get? x = some (excO C t0)) (hnx : K.lookup x = none) (hroom : A.depth < recursionLimit) (hb : BindsTo s fd args [("self", .ref x), ("rule", v), ("things", u)])
    (hq : ∀ h' tk dx, InitLeft s.heap h' x C dx t0 [("things", u), ("rule", v)] → R (.ok (.ret .none)) { s with heap := h', toks := tk }) :
    codeAny (model prog w) A (.call (.ref fI) args) R s := by
  obtain ⟨oc, od, doc, pm, an, cdv, ct, osl, p1, p2, p3, q1, q2, q3, q4, r1, r2, r3, r4, rfl, ho, hcd⟩ := D.ex
  refine Att.call_fn (binds := [("self", .ref x), ("rule", v), ("things", u)]) X hlim ho hcd hroom hb (by first | rfl | decide | with_unfolding_all rfl) (fun s1 IC => ?_) rfl rfl rfl
  obtain ⟨h1, tk1, rfl⟩ := IC.toInCall.same
  have up : ∀ b o, s.heap.get? b = some o → h1.get? b = some o := IC.toInCall.keep
  have hn := IC.toInCall.ns
  have nL : s.heap.objs.size ≠ x := Nat.ne_of_gt (Heap.lt_size hx)
  have X1 : K.In h1 := X.keeps up
  have hx1 := up _ _ hx
  show wpAny _ _ (execs _ _) _ _ _
  refine wpAny_execs_cons (plainObj_wpAny_Assign_Attribute ?_)
  refine localAt (v := v) hn (by first | rfl | with_unfolding_all rfl | kernel_rfl) (localAt (v := .ref x) hn (by first | rfl | with_unfolding_all rfl | kernel_rfl) ?_)
  refine set_plain X1 (ox := excO C t0) (od := none) ⟨hx1, rfl, rfl, trivial⟩ T.sa ?_
  refine storeFirst SF X1 hx1 T.over T.hd (taker_of (T.no _ (List.mem_cons_self ..))) (fun h3 tk3 dx k3 dn dne hx3 hn3 => ?_)
  have hnL : h3.Ns s.heap.objs.size _ := hn.at' fun o e => k3 _ o nL e
  have X3 : K.In h3 := keptBut X1 hnx k3
  have hw3 : Within (fun y => if y = ("rule" : Str) then some v else none) ["rule"] := Within.cons "rule" v Within.nil
  obtain ⟨oD, _, _, hoD, _, _⟩ := hn3.count hw3
  have z : s.heap.objs.size < h1.objs.size := hn.lt
  show wpAny _ _ (execs _ _) _ _ _
  refine wpAny_execs_cons (plainObj_wpAny_Assign_Attribute ?_)
  refine localAt (v := u) hnL (by first | rfl | with_unfolding_all rfl | kernel_rfl) (localAt (v := .ref x) hnL (by first | rfl | with_unfolding_all rfl | kernel_rfl) ?_)
  refine set_plain X3 (ox := { cls := .ref C, dict := some dx, data := .fields #[.ref t0, .none, .none, .none, .bool false, .none] }) (od := some oD) ⟨hx3, rfl, rfl, hoD⟩ T.sa ?_
  refine storeNext SF X3 hx3 hn3 hw3 (by decide) T.over T.hd (taker_of (T.no _ (List.mem_cons_of_mem _ (List.mem_cons_self ..)))) (fun h4 tk4 k4 hn4 => ?_)
  show wpAny _ _ (execs _ _) _ _ _
  have big : s.heap.objs.size ≤ dx := Nat.le_of_lt (Nat.lt_of_lt_of_le z dn)
  refine wpAny_execs_nil (hq h4 tk4 dx ⟨fun b o hb e => ?_, k4 _ _ (Ne.symm dne) hx3, big, dne, ?_⟩)
  · exact k4 b o (Nat.ne_of_lt (Nat.lt_of_lt_of_le (Heap.lt_size (up b o e)) dn)) (k3 b o hb (up b o e))
  · rw [← look2]
    exact hn4
/-- what the __init__ at fI makes of an exception at x: its fields -/
def InitDoes (prog : Program) (w : World) (K : Frag) (C fI : Addr) (rest : List Value) (kw : List (Str × Value)) (kvs : List (Str × Value)) : Prop :=
  ∀ (A : Around) (R : Result → Shared → Prop) (s : Shared) (x t0 : Addr), K.In s.heap → s.heap.NoLimit → s.heap.get? x = some (excO C t0) → K.lookup x = none → A.depth < recursionLimit →
    (∀ h' tk dx, InitLeft s.heap h' x C dx t0 kvs → R (.ok (.ret .none)) { s with heap := h', toks := tk }) → codeAny (model prog w) A (.call (.ref fI) ⟨.ref x :: rest, kw⟩) R s
/-- a made one -/
structure Made (h h' : Heap) (e C d : Addr) (kvs : List (Str × Value)) : Prop where
  keep : ∀ b o, h.get? b = some o → h'.get? b = some o
  new : h.objs.size ≤ e
  obj : ∃ t, h'.get? e = some { cls := .ref C, dict := some d, data := .fields #[.ref t, .none, .none, .none, .bool false, .none] }
  dbig : h.objs.size ≤ d
  dne : d ≠ e
  ns : h'.Ns1 d (fun y => kvs.lookup y)
theorem made (FB : ExcBaseFacts B newId initId bmB) (T : XB K bmB newId C fn) (iC : findIn K (.ref C) "__init__" = some (some (.ref fI))) (tI : typeIn K (.ref fI) = some (.type "function"))
    {rest : List Value} {kw kvs : List (Str × Value)} (D : InitDoes prog w K C fI rest kw kvs) (hrest : rest.length ≤ sizeLine) (X : K.In s.heap) (hlim : s.heap.NoLimit) (hroom : A.depth + 1 < recursionLimit)
    (hq : ∀ h' tk e d, Made s.heap h' e C d kvs → R (.ok (.ret (.ref e))) { s with heap := h', toks := tk }) : codeAny (model prog w) A (.call (.ref C) ⟨rest, kw⟩) R s := by
  have up : ∀ b o, s.heap.get? b = some o → ((s.heap.push (kdv_tup rest)).push (excO C s.heap.objs.size)).get? b = some o := fun b o e => Heap.get?_push_of_some _ (Heap.get?_push_of_some _ e)
  have here : ((s.heap.push (kdv_tup rest)).push (excO C s.heap.objs.size)).get? (s.heap.objs.size + 1) = some (excO C s.heap.objs.size) := by heap_get
  have nK : K.lookup (s.heap.objs.size + 1) = none := by
    cases e : K.lookup (s.heap.objs.size + 1) with
    | none => rfl
    | some o => exact absurd (Nat.lt_of_succ_lt (Heap.lt_size (X _ _ e))) (Nat.lt_irrefl _)
  refine callK FB X T.ini iC tI hrest ?_
  refine D _ _ _ _ s.heap.objs.size (X.keeps up) (hlim.keeps up) here nK hroom fun h' tk dx L => ⟨rfl, ?_⟩
  have old : ∀ b o, s.heap.get? b = some o → h'.get? b = some o := fun b o e => L.keep b o (Nat.ne_of_lt (Nat.lt_succ_of_lt (Heap.lt_size e))) (up b o e)
  have big : s.heap.objs.size + 1 + 1 ≤ dx := by
    have q := L.dbig
    first
      | (simpa only [Heap.size_push] using q)
      | exact q
      | (rw [Heap.size_push, Heap.size_push] at q; exact q)
  exact hq h' tk (s.heap.objs.size + 1) dx ⟨old, Nat.le_succ _, ⟨_, L.obj⟩, Nat.le_trans (Nat.le_trans (Nat.le_succ _) (Nat.le_succ _)) big, L.dne, L.ns⟩
end
end VX
end PySem
namespace L2
open PySem PySem.Spec PyProof.Rows PySem.VX
/-- an exception of the class at C, its fields in the dict at d -/
def exV (e C d : Addr) : HO := .ext fun h => ∃ (oe : Obj) (vs : Array Value), h.get? e = some oe ∧ oe.cls = .ref C ∧ oe.dict = some d ∧ oe.data = .fields vs
theorem exV_ok {P : Program} {w : World} {H : Hp} {h : Heap} {e C d : Addr} {oe : Obj} {vs : Array Value} (he : h.get? e = some oe) (hc : oe.cls = .ref C) (hd : oe.dict = some d) (hv : oe.data = .fields vs) : ObjOk P w H h e (exV e C d) :=
  ⟨⟨oe, vs, he, hc, hd, hv⟩, ⟨oe, he⟩, fun h1 h2 ⟨o, v, a, b⟩ k => ⟨o, v, k _ a, b⟩⟩
theorem exV_at {P : Program} {w : World} {H : Hp} {h : Heap} {e C d : Addr} (hok : HOk P w H h) (he : H e = some (exV e C d)) : ∃ (oe : Obj) (vs : Array Value), h.get? e = some oe ∧ oe.cls = .ref C ∧ oe.dict = some d ∧ oe.data = .fields vs := by
  have x : ObjOk P w H h e (.ext fun h => ∃ (oe : Obj) (vs : Array Value), h.get? e = some oe ∧ oe.cls = .ref C ∧ oe.dict = some d ∧ oe.data = .fields vs) := hok e _ he
  exact x.1
theorem relO_pairs : ∀ {fs : List (Str × V)} {kvs : List (Str × Value)}, KV fs kvs → ∀ f, RelO (fs.lookup f) (kvs.lookup f)
  | _, _, .nil, _ => True.intro
  | (a, x) :: fs, (b, u) :: kvs, .cons h t, f => by
    obtain ⟨e, r⟩ := h
    have e' : a = b := e
    subst e'
    cases q : (f == a) with
    | true => simp only [List.lookup, q]; exact r
    | false => simp only [List.lookup, q]; exact relO_pairs t f
/-- an own exception class of the text: fn its fields in order -/
structure OwnX (prog : Program) (w : World) (K : PySem.W.Frag) (mg : Str → Option Value) (nm : Str) (C : Addr) (fn : List Str) : Prop where
  g : mg nm = some (.ref C)
  some : ∃ (bmB : List Value) (B newId initId : String) (fI : Addr), ExcBaseFacts B newId initId bmB ∧ XB K bmB newId C fn ∧ PySem.W.findIn K (.ref C) "__init__" = some (some (.ref fI)) ∧ PySem.W.typeIn K (.ref fI) = some (.type "function") ∧
    (∀ us : List Value, us.length = fn.length → InitDoes prog w K C fI us [] (fn.zip us).reverse) ∧ (∀ ws : List Value, ws.length = fn.length → InitDoes prog w K C fI [] (fn.reverse.zip ws) (fn.zip ws.reverse).reverse)
  few : fn.length ≤ 3
theorem kv_zip : ∀ (fn : List Str) {vs : List V} {us : List Value}, Vals vs us → KV (fn.zip vs) (fn.zip us)
  | [], _, _, _ => .nil
  | _ :: _, _, _, .nil => .nil
  | f :: fn, _, _, .cons r t => .cons ⟨rfl, r⟩ (kv_zip fn t)
theorem paired_app {α β : Type} {F : α → β → Prop} : ∀ {a : List α} {b : List β} {c : List α} {d : List β}, Paired F a b → Paired F c d → Paired F (a ++ c) (b ++ d)
  | _, _, _, _, .nil, q => q
  | _, _, _, _, .cons h t, q => .cons h (paired_app t q)
theorem paired_rev {α β : Type} {F : α → β → Prop} : ∀ {a : List α} {b : List β}, Paired F a b → Paired F a.reverse b.reverse
  | _, _, .nil => .nil
  | _, _, .cons h t => by
    rw [List.reverse_cons, List.reverse_cons]
    exact paired_app (paired_rev t) (.cons h .nil)
section
variable {X : Cx} {C : Addr} {nm : Str} {fn : List Str} {ta tk : TA} {p pos : Pos} {k : Nat} {e : Expr} {es : List Expr} {kws : List Keyword}
/-- what was made, as the layer sees it: all old stands, the dict is new and told -/
theorem made_inv {pins : List (Addr × Obj)} {σ : St} {H : Hp} {hp h' : Heap} {g : Array GenState} {dr : Drawn} {tk tk' : Nat} {os : OsState} {a d : Addr} {fs : List (Str × V)} {kvs : List (Str × Value)} (I : Inv X pins σ H ⟨hp, g, dr, tk, os⟩) (M : Made hp h' a C d kvs) (r : KV fs kvs) :
    ∃ G : Heap, Inv X pins σ (upd H d (.xd fs)) ⟨G, g, dr, tk', os⟩ ∧ (∀ b o, G.get? b = some o → h'.get? b = some o) ∧ G.get? a = none ∧ (upd H d (.xd fs)) a = none ∧ H d = none := by
  obtain ⟨G, g1, g2⟩ := restrict h' fun b => decide (b ≠ a)
  have gk : ∀ b, b ≠ a → G.get? b = h'.get? b := fun b hb => g1 b (decide_eq_true hb)
  have ge : G.get? a = none := g2 a (by simp)
  have old : ∀ b o, hp.get? b = some o → G.get? b = some o := fun b o q => (gk b (Nat.ne_of_lt (Nat.lt_of_lt_of_le (Heap.lt_size q) M.new))).trans (M.keep b o q)
  have ob : ObjOk X.prog X.w (upd H d (.xd fs)) G d (.xd fs) := ⟨_, M.ns.at fun o q => (gk d M.dne).trans q, relO_pairs r⟩
  refine ⟨G, I.laid (t' := tk') old M.dbig ob, fun b o q => ?_, ge, ?_, I.hok.fresh M.dbig⟩
  · by_cases hb : b = a
    · rw [hb, ge] at q
      cases q
    · exact (gk b hb).symm.trans q
  · rw [upd_ne (Ne.symm M.dne)]
    exact I.hok.fresh M.new
/-- raise C(e, ..): what is made -/
def tMkX (C : Addr) (fn : List Str) (ta : TA) : St → Hp → XK → Prop := fun σ H Q => ta σ H fun vs H1 => vs.length = fn.length ∧ ∀ d, H1 d = none → Q (.ref C) (some d) (upd H1 d (.xd (fn.zip vs).reverse))
theorem pmk_own1 (O : OwnX X.prog X.w X.K X.mg nm C fn) (hr : Room k X.A) (ha : PA X (e :: es) ta) (hg : Gl X nm) (hdb : (nm == ("__debug__" : Str)) = false := by decide)
    (he : starEach (e :: es) X.env = (false, eval e X.env) :: starEach es X.env := by rfl) (hpl : (backTo pos (starEach es X.env)).any (·.1) = false := by rfl) :
    PMk X (.Call (.Name nm p) (e :: es) [] pos) (tMkX C fn ta) := by
  intro pins s σ H Q I h
  obtain ⟨bmB, B, newId, initId, fI, FB, T, iC, tI, D, _⟩ := O.some
  refine wpAny_Call_Name_kw (ld_glob I hg O.g ?_ hdb)
  refine PySem.W.callWith_K (h₀ := X.base) I.ok.mod.kin T.keep (thn (ha.run pos pins s σ H _ I h) fun us s1 hh => ?_) he hpl
  obtain ⟨vs, H1, I1, r1, hz, q1⟩ := hh
  refine ⟨I1.kIn, ?_⟩
  have hlim := I1.nolimit
  have hl : us.length = fn.length := r1.length.symm.trans hz
  obtain ⟨hp, g, dr, tk, os⟩ := s1
  show wpAny _ _ (call (.ref C) us) _ _ _
  refine wpAny_call (made FB T iC tI (D us hl) (by rw [hl, sizeLine_eq]; have := O.few; omega) I1.kIn hlim (by have := hr.dp; omega) fun h' tk' a d M => ?_)
  obtain ⟨G, J, kG, ge, na, nd⟩ := made_inv (tk' := tk') I1 M (paired_rev (kv_zip fn r1))
  obtain ⟨t, ho⟩ := M.obj
  exact ⟨a, _, _, ⟨G, g, dr, tk', os⟩, _, .ref C, some d, rfl, J, kG, ge, ho, ⟨rfl, rfl⟩, rfl, rfl, na, rfl, I1.bare, raises_own T.exc T.ty, q1 d nd⟩
/-- C(k = v, ..) as a value; the keywords stand in the fields' order turned about -/
def tNewKw (C : Addr) (fn : List Str) (tk : TA) : TE := fun σ H Q => tk σ H fun zs H1 => zs.length = fn.length ∧ ∀ a d, H1 a = none → H1 d = none → d ≠ a → Q (.ref a) (upd (upd H1 d (.xd (fn.zip zs.reverse).reverse)) a (exV a C d))
theorem pe_newKw (O : OwnX X.prog X.w X.K X.mg nm C fn) (hr : Room k X.A) (hkw : PK X kws tk) (hg : Gl X nm) (hdb : (nm == ("__debug__" : Str)) = false := by decide)
    (hall : (backToKw pos (keywordEach kws X.env)).all (·.1.isSome) = true := by rfl) (hks : (backToKw pos (keywordEach kws X.env)).filterMap (·.1) = fn.reverse := by rfl)
    (hpl : ((backTo pos (starEach [] X.env)).any (·.1) || (backToKw pos (keywordEach kws X.env)).any (·.1.isNone)) = false := by rfl) :
    PE X (.Call (.Name nm p) [] kws pos) (tNewKw C fn tk) := by
  refine ⟨fun pins s σ H Q I h => ?_⟩
  obtain ⟨bmB, B, newId, initId, fI, FB, T, iC, tI, _, D⟩ := O.some
  refine wpAny_Call_Name_kw (ld_glob I hg O.g ?_ hdb)
  refine PySem.W.callWith_KW0 (h₀ := X.base) I.ok.mod.kin T.keep hall ?_ hpl
  refine thn (hkw.run pos pins s σ H _ I h) fun ws s1 ⟨zs, H1, I1, rz, hz, q1⟩ => ⟨I1.kIn, ?_⟩
  rw [hks]
  have hlim := I1.nolimit
  have hl : ws.length = fn.length := rz.length.symm.trans hz
  obtain ⟨hp, g, dr, tk', os⟩ := s1
  show wpAny _ _ (call (.ref C) [] (fn.reverse.zip ws)) _ _ _
  refine wpAny_call (made FB T iC tI (D ws hl) (Nat.zero_le _) I1.kIn hlim (by have := hr.dp; omega) fun h' tk2 a d M => ?_)
  obtain ⟨G, J, kG, ge, na, nd⟩ := made_inv (tk' := tk2) I1 M (paired_rev (kv_zip fn (paired_rev rz)))
  obtain ⟨t, ho⟩ := M.obj
  have J2 := J.laidN (h' := h') (t' := tk2) (o := exV a C d) kG ge na (exV_ok ho rfl rfl rfl)
  have na1 : H1 a = none := by rw [upd_ne (Ne.symm M.dne)] at na; exact na
  exact ⟨.ref a, _, J2, rfl, q1 a d na1 nd M.dne⟩
end
end L2
end
section
set_option Elab.async false
set_option linter.all false
set_option maxRecDepth 100000
set_option maxHeartbeats 4000000
/-! X5: try with several clauses «except C as n», behind which the caught exception is told -/
namespace L2
open PySem PySem.Spec PyProof.Rows PySem.VX
section
variable {X : Cx} {pins : List (Addr × Obj)} {σ : St} {H : Hp} {s : Shared}
/-- an object that nobody tells of, new since the def's entry, is told from now on -/
theorem Inv.track {a C d : Addr} {oe : Obj} {vs : Array Value} (I : Inv X pins σ H s) (ho : s.heap.get? a = some oe) (hc : oe.cls = .ref C) (hd : oe.dict = some d) (hv : oe.data = .fields vs) (na : H a = none)
    (n0 : X.s_0.heap.get? a = none) (nL : a ≠ X.env.locals) (np : ∀ p ∈ X.pn ++ pins, p.1 ≠ a) : Inv X pins σ (upd H a (exV a C d)) s := by
  have ne0 : ∀ b o, X.s_0.heap.get? b = some o → b ≠ a := fun b o e z => by
    rw [z, n0] at e
    cases e
  have neS : ∀ b u, H b = some u → b ≠ a := fun b u e => ne_of_none e na
  refine ⟨I.ok, I.os, I.bare, ⟨I.base.keep, I.base.slot, fun b o e n hx => ?_, I.base.there, fun b xs e => ?_, fun b o u e => ?_, fun b ps e => ?_⟩, I.loc, I.cell, ?_, fun x c e => ?_, fun p hp => ?_, fun b u e => ?_, I.len⟩
  · rw [upd_ne (ne0 b o e)]
    exact I.base.free b o e n hx
  · have q := I.base.tups b xs e
    rw [upd_ne (neS b _ q)]
    exact q
  · have q := I.base.frzs b o u e
    rw [upd_ne (neS b _ q)]
    exact q
  · obtain ⟨m, q⟩ := I.base.tbls b ps e
    exact ⟨m, by rw [upd_ne (neS b _ q)]; exact q⟩
  · rw [upd_ne (Ne.symm nL)]
    exact I.free
  · have nc : c ≠ a := fun z => by
      obtain ⟨v, o, e1, e2⟩ := I.cell x c e
      rw [z, ho] at e1
      cases e1
      rw [hv] at e2
      cases e2
    rw [upd_ne nc]
    exact I.freeC x c e
  · obtain ⟨e1, e2, r⟩ := I.pin p hp
    exact ⟨e1, by rw [upd_ne (np p hp)]; exact e2, r⟩
  · by_cases hb : b = a
    · subst hb
      rw [upd_same] at e
      cases e
      exact exV_ok ho hc hd hv
    · rw [upd_ne hb] at e
      refine (I.hok b u e).stay (fun _ _ _ q => q) (fun c q => ?_) fun c xs q => ?_
      · rw [upd_ne (neS c _ q)]
        exact q
      · rw [upd_ne (neS c _ q)]
        exact q
end
/-- the clauses' wishes, one behind the other; n's slot is i -/
def wManyV (K : PySem.W.Frag) (i : Nat) (Wout : WX) (D : Ends) : List (Value × (Addr → Value → Option Addr → TS)) → WX
  | [] => Wout
  | (c, ts) :: r => fun cls d σ H => ∃ b, PySem.W.exmOne K cls c = some b ∧
      (b = true → ∃ C d', cls = .ref C ∧ d = some d' ∧ ∀ a, H a = none → ts a cls d { nx := fun σ' H' => D.nx (σ'.set i none) (upd H' a (exV a C d')), rt := fun v H' => D.rt v H', bk := fun σ' H' => D.bk (σ'.set i none) H', ct := fun σ' H' => D.ct (σ'.set i none) H' } (σ.set i (some (.ref a))) H) ∧
      (b = false → wManyV K i Wout D r cls d σ H)
inductive HdsV (X : Cx) (n : Str) : List ExceptHandler → List (Value × (Addr → Value → Option Addr → TS)) → Prop
  | nil : HdsV X n [] []
  | cons {x : Str} {c : Value} {ts : Addr → Value → Option Addr → TS} {b₀ : Stmt} {suite : List Stmt} {np pos' : Pos} {hds : List ExceptHandler} {l : List (Value × (Addr → Value → Option Addr → TS))} (hc : Names X x c)
      (hsu : ∀ (a : Addr) (oe : Obj) (cls : Value) (d : Option Addr) (pn : List (Addr × Obj)), Zc cls d oe → (∃ vs, oe.data = .fields vs) → PSs (X.suite a ((a, oe) :: pn)) (b₀ :: suite) (ts a cls d)) (r : HdsV X n hds l) :
      HdsV X n (.ExceptHandler (some (.Name x np)) (some n) (b₀ :: suite) pos' :: hds) ((c, ts) :: l)
section
variable {X : Cx} {n : Str} {i : Nat} {body : List Stmt} {h₀ : ExceptHandler} {hds : List ExceptHandler} {l : List (Value × (Addr → Value → Option Addr → TS))} {pos : Pos} {tb : WX → TS} {Wout : WX}
theorem ps_try_manyV (hs : X.stack = X.env :: X.outer) (hf : X.env.frame = some X.env.locals) (hex : X.ex = []) (hN : X.N.Nodup) (hi : X.N[i]? = some n) (hln : X.env.kindOf n = some .local) (tk : Takes X Wout)
    (hb : ∀ (W : WX) (pn : List (Addr × Obj)) (xe : Value → Shared → Prop), Takes (X.tr pn xe) W → PassesOwn (model X.prog X.w) X.A X.env xe → PSs (X.tr pn xe) body (tb W))
    (hh : HdsV X n (h₀ :: hds) l) : PS X (.Try body (h₀ :: hds) [] [] pos) (fun D σ H => tb (wManyV X.K i Wout D l) D σ H) := by
  refine ⟨fun pins s σ H D I h => ?_⟩
  have ok := I.ok
  have frm : X.A.frames = some (X.env :: X.outer) := ok.frames.trans (congrArg some hs)
  have hloc : Loc X.env.scope n := .inl hln
  refine wpAny_Try_except ?_
  refine wpAny_mono ((hb (wManyV X.K i Wout D l) (X.pn ++ pins) (fun e s₁ => wpAny (model X.prog X.w) X.A (noteFrame e X.env) (fun _ s₂ => wpAny (model X.prog X.w) X.A (setFlight e none) (fun _ s₃ =>
    wpAny (model X.prog X.w) X.A (handleBy e X.env (h₀ :: hds)) (SP X pins D) X.xe s₃) X.xe s₂) X.xe s₁) (fun u s' xx => ?_) PassesOwn.looking).run [] s σ H D (I.toTry _) h) (fun f s1 hsp => ?_) (fun _ _ he => he)
  · obtain ⟨a, B, sI, pins', σ', H', cls, d, rfl, J', nb, up, sky, na, os, ag, w⟩ := xx
    have J : Inv X pins σ' H' sI := J'.ofTry ok
    have sky' : Sky B (X.env :: X.outer) a (Zc cls d) X.env.locals s'.heap := by rw [← hs]; exact sky
    show wpAny (model X.prog X.w) X.A (noteFrame (.ref a) X.env) _ _ _
    refine Sky.land Zc.steady frm hf sky' fun h3 fl3 up3 => ?_
    have J3 : Inv X pins σ' H' { s' with heap := h3 } := J.landed nb fl3.1 (up.trans up3) os ag
    obtain ⟨oe3, vs3, he3, hz3, hd3⟩ := fl3.there
    have noFrame : a ∉ frs (X.env :: X.outer) := fun hm => by
      obtain ⟨_, o', e', hnf⟩ := fl3.2.2.1.mem hm
      rw [he3] at e'
      cases e'
      exact hnf _ hd3
    have noStack : a ∉ frs X.stack := by rw [hs]; exact noFrame
    have nL : a ≠ X.env.locals := fun z => noFrame (List.mem_filterMap.mpr ⟨X.env, List.mem_cons_self, by rw [hf, z]⟩)
    have nF : a ∉ X.fs := fun hm => by
      obtain ⟨e, he, q⟩ := List.mem_filterMap.mp hm
      exact noFrame (List.mem_filterMap.mpr ⟨e, List.mem_cons_of_mem _ he, q⟩)
    -- it wasn't there ahead
    have nB : B.get? a = none := fl3.2.1
    have nI : sI.heap.get? a = none := by
      cases e : sI.heap.get? a with
      | none => rfl
      | some o =>
        have z := nb a o e noStack
        rw [nB] at z
        cases z
    have n0 : X.s_0.heap.get? a = none := by
      cases e : X.s_0.heap.get? a with
      | none => rfl
      | some o =>
        obtain ⟨o', z⟩ := J.base.there a o e (by rw [hex]; exact fun z => nomatch z)
        rw [nI] at z
        cases z
    have np : ∀ p ∈ X.pn ++ pins, p.1 ≠ a := fun p hp z => by
      have q := (J.pin p hp).1
      rw [z, nI] at q
      cases q
    have S3 := J3.suite he3 hd3 na nL nF
    have go : ∀ {hds' : List ExceptHandler} {l' : List (Value × (Addr → Value → Option Addr → TS))}, HdsV X n hds' l' → wManyV X.K i Wout D l' cls d σ' H' →
        wpAny (model X.prog X.w) X.A (handleBy (.ref a) X.env hds') (SP X pins D) X.xe { s' with heap := h3 } := by
      intro hds' l' hk
      induction hk with
      | nil =>
        intro w
        refine wpAny_handleBy_nil ?_
        obtain ⟨k1, k2, k3, oe, vs, T, oT, ts', he, hz, hd, h1, hr⟩ := id fl3
        unfold PySem.passOn
        refine wpAny_bind (wpAny_field he hd h1 ?_)
        rw [if_neg (show ¬ ((Value.ref T == Value.none) = true) from by simp)]
        have away : wpAny (model X.prog X.w) X.A (setFlight (.ref a) X.env.frame) (fun _ s4 => wpAny (model X.prog X.w) X.A (throw (.ref a) : Sem Flow) (SP X pins D) X.xe s4) X.xe { s' with heap := h3 } := by
          rw [hf]
          refine HandSPX.setFlight_upZ fl3 fun h4 hh4 up4 => wpAny_throw (tk _ _ ?_)
          exact ⟨a, B, sI, pins, σ', H', cls, d, rfl, J, nb, (up.trans up3).trans up4, .inr (.inr (by rw [hs]; exact hh4)), na, os, ag, w⟩
        first
          | exact wpAny_bind (wpAny_pure (wpAny_bind away))
          | exact wpAny_bind away
      | @cons x c ts b₀ suite np' pos' hds2 l2 hc hsu r ih =>
        intro w
        obtain ⟨b, hb1, hyes, hno⟩ := w
        refine wpAny_handleBy_cons (codeAny_handlers_test ?_) (by intro q; cases q)
        have LT : PySem.W.Looks (model X.prog X.w) h3 (typeOf (.ref a)) cls := fun A Q E s k q => wpAny_typeOf_ref (k _ _ he3) (by rw [hz3.1]; exact q)
        have LM := PySem.W.exm_one (M := model X.prog X.w) (J3.kIn) LT hb1
        have test : ∀ {Q : Value → Shared → Prop} {E : Value → Shared → Prop}, Q c { s' with heap := h3 } → wpAny (model X.prog X.w) (X.A.mark (some (.ref a))) (eval (.Name x np') X.env) Q E { s' with heap := h3 } := fun {Q E} q => by
          obtain ⟨hg, hdbg, hm | ⟨hm, hv, hnn⟩⟩ := hc
          · exact ld_glob (X := X.suite a ((a, oe3) :: (X.pn ++ pins))) S3 hg hm q hdbg
          · exact ld_blt (X := X.suite a ((a, oe3) :: (X.pn ++ pins))) S3 hg hm hv q hnn hdbg
        refine test (LM.here ?_)
        cases b with
        | true =>
          obtain ⟨C, d', rfl, rfl, hyes'⟩ := hyes rfl
          refine codeAny_handlers_suite_as ?_
          refine HandSPX.lands_againZ fl3 fun h4 fl4 up4 => ?_
          have J4 : Inv X pins σ' H' { s' with heap := h4 } := J.landed nb fl4.1 ((up.trans up3).trans up4) os ag
          obtain ⟨oe4, vs4, he4, hz4, hd4⟩ := fl4.there
          have S4 := J4.suite he4 hd4 na nL nF
          refine store_ok (X := X.suite a ((a, oe4) :: (X.pn ++ pins))) (v := .ref a) S4 hN hi hloc rfl (fun s5 S5 => ?_) (.inr hln)
          refine wpAny_mono ((hsu a oe4 (.ref C) (some d') (X.pn ++ pins) hz4 ⟨_, hd4⟩).run [] s5 _ H' _ S5 (hyes' a na)) (fun f s6 hsp => ?_) (fun _ _ z => False.elim z)
          have plain : ∀ {τ : St} {G : Hp} {Q : Shared → Prop}, Inv (X.suite a ((a, oe4) :: (X.pn ++ pins))) [] τ G s6 → (∀ s7, Inv X pins (τ.set i none) G s7 → Q s7) →
              wpAny (model X.prog X.w) X.A (do bindName X.env n .none; unbindBehindTheSuite X.env n pos') (fun _ s7 => Q s7) X.xe s6 := fun {τ G Q} S6 hq => gone_ok (S6.unsuite ok) hN hi hln hq
          cases f with
          | next =>
            obtain ⟨τ, G, S6, q6⟩ := hsp
            obtain ⟨hoa, hna, _⟩ := S6.pin (a, oe4) (List.mem_append_left _ List.mem_cons_self)
            have T6 : Inv X pins τ (upd G a (exV a C d')) s6 := (S6.unsuite ok).track hoa hz4.1 hz4.2 hd4 hna n0 nL np
            exact gone_ok T6 hN hi hln fun s7 J7 => ⟨_, _, J7, q6⟩
          | brk =>
            obtain ⟨τ, G, S6, q6⟩ := hsp
            exact plain S6 fun s7 J7 => ⟨_, _, J7, q6⟩
          | cont =>
            obtain ⟨τ, G, S6, q6⟩ := hsp
            exact plain S6 fun s7 J7 => ⟨_, _, J7, q6⟩
          | ret u =>
            obtain ⟨v6, τ, G, S6, r6, q6⟩ := hsp
            exact plain S6 fun s7 J7 => ⟨_, _, _, J7, r6, q6⟩
        | false =>
          show wpAny _ X.A (handleBy (.ref a) X.env hds2) _ _ _
          exact ih (hno rfl)
    exact go hh w
  · cases f with
    | next =>
      obtain ⟨τ, G, J', q⟩ := hsp
      exact wpAny_execs_nil ⟨τ, G, J'.ofTry ok, q⟩
    | brk =>
      obtain ⟨τ, G, J', q⟩ := hsp
      exact ⟨τ, G, J'.ofTry ok, q⟩
    | cont =>
      obtain ⟨τ, G, J', q⟩ := hsp
      exact ⟨τ, G, J'.ofTry ok, q⟩
    | ret u =>
      obtain ⟨v, τ, G, J', r, q⟩ := hsp
      exact ⟨v, τ, G, J'.ofTry ok, r, q⟩
end
end L2
end
section
set_option Elab.async false
set_option linter.all false
set_option maxRecDepth 100000
set_option maxHeartbeats 4000000
/-! X6: an exception held as a value: its fields, isinstance -/
namespace L2
open PySem PySem.Spec PyProof.Rows PySem.VX
section
variable {X : Cx} {pins : List (Addr × Obj)} {σ : St} {H : Hp} {s : Shared}
theorem exV_inst (I : Inv X pins σ H s) {a C d : Addr} {fs : List (Str × V)} (ea : H a = some (exV a C d)) (ed : H d = some (.xd fs)) :
    ∃ (oe od : Obj) (mA : Str → Option Value), PySem.W.InstAt s.heap a oe C (some od) ∧ (∀ f, RelO (fs.lookup f) (mA f)) ∧ ∀ name, PySem.W.lookIn name od = some (mA name) := by
  obtain ⟨oe, vs, ho, hc, hd, hv⟩ := exV_at I.hok ea
  have hx : ObjOk X.prog X.w H s.heap d (.xd fs) := I.hok d _ ed
  obtain ⟨mA, hns, hr⟩ := hx
  obtain ⟨od, hod, hl⟩ := lookIn_ns hns
  exact ⟨oe, od, mA, ⟨ho, hc, by unfold PySem.W.notCls; rw [hv] <;> rfl, by rw [hd]; exact hod⟩, hr, hl⟩
/-- e.f, e such an exception -/
def tFldV (K : PySem.W.Frag) (f : Str) (te : TE) : TE := fun σ H Q => te σ H fun x H1 => ∃ (a C d : Addr) (fs : List (Str × V)) (v : V), x = .ref a ∧ H1 a = some (exV a C d) ∧ H1 d = some (.xd fs) ∧ XfC K C ∧ PySem.W.findIn K (.ref C) f = some none ∧ fs.lookup f = some v ∧ Q v H1
theorem pe_fldV {e : Expr} {te : TE} {pos : Pos} {n : Str} (he : PE X e te) (hb : attributeBase e n X.env (eval e X.env) = eval e X.env := by rfl) : PE X (.Attribute e n pos) (tFldV X.K n te) := by
  refine ⟨fun pins s σ H Q I h => ?_⟩
  refine attr_of hb (thn (he.run pins s σ H _ I h) fun u s1 hh => ?_)
  obtain ⟨x, H1, I1, rx, a, C, d, fs, v, ex, ea, ed, T, hno, l, q⟩ := hh
  subst ex
  obtain rfl : u = Value.ref a := rx
  obtain ⟨oe, od, mA, J, hr, hl⟩ := exV_inst I1 ea ed
  obtain ⟨u, hu, ru⟩ := RelO.some_of (v := v) (o := mA n) (by rw [← l]; exact hr n)
  exact HandSPX.exc_get I1.kIn J T.ga T.gg T.exC (PySem.W.findObj_own T.hdC hno rfl (by rw [hl, hu])) (handed_of ru) ⟨v, H1, I1.tok _, ru, q⟩
/-- isinstance(e, c), e such an exception -/
def rIsV (K : PySem.W.Frag) : List V → Hp → VK → Prop := fun xs H Q => ∃ (a C d : Addr) (fs : List (Str × V)) (c : V) (cv : Value) (b : Bool), xs = [.ref a, c] ∧ H a = some (exV a C d) ∧ H d = some (.xd fs) ∧ ExcC K C ∧ (∀ u, RelV c u → u = cv) ∧ PySem.W.kitOne K (.ref C) cv = some b ∧ Q (.bl b) H
theorem call_isV : CallR X (.builtin "isinstance") (rIsV X.K) := by
  intro pins s σ H xs us Q I r h
  obtain ⟨a, C, d, fs, c, cv, b, rfl, ea, ed, T, hcv, e, q⟩ := h
  obtain ⟨u, u2, rfl, ru, r2⟩ := vals2 r
  obtain rfl : u = Value.ref a := ru
  have ec := hcv _ r2
  subst ec
  obtain ⟨oe, od, mA, J, _, _⟩ := exV_inst I ea ed
  have hcl : (PySem.W.clsIn X.K C).isSome = true := by
    obtain ⟨cd, hc, _⟩ := PySem.W.any_some T.hd
    rw [hc]
    rfl
  exact PySem.W.kia_one (PySem.W.kitx_exc hcl T.hg T.hk T.hs T.ha T.hn T.ht T.hm) I.kIn J e (fun z => nomatch z) fun tk => ⟨.bl b, H, I.kept (t' := tk) fun _ _ z => z, rfl, q⟩
end
end L2
end
section
set_option Elab.async false
set_option linter.all false
set_option maxRecDepth 100000
set_option maxHeartbeats 4000000
/-! X7: repr of data, in defs that run while no repr does -/
namespace L2
open PySem PySem.Spec PyProof.Rows PySem.VX
theorem guards_deeper {A : Around} {env : Env} : (A.deeper env).guards = A.guards := by
  first
    | rfl
    | (obtain ⟨a, b, c, d, e⟩ := A; rfl)
    | (obtain ⟨a, b, c, d, e⟩ := A; cases d <;> rfl)
/-- a def's promise, where no repr runs around -/
structure FnG (P : Program) (w : World) (K : PySem.W.Frag) (mg : Str → Option Value) (base : Heap) (CX : CXT) (k : Nat) (f : Addr) (fd : FuncData) (ps : List Str) (sp : Sp) : Prop where
  len : ∀ vs H Q E, sp vs H Q E → vs.length = ps.length
  run : ∀ (A : Around) (outer : List Env) (s : Shared) (H : Hp) (args : Args) (us : List Value) (vs : List V) (Q : VK) (E : XK), Room k A → A.guards = some [] → Env0 P w K mg base A outer s H → BindsTo s fd args (ps.zip us) → Vals vs us → sp vs H Q E →
    codeAny (model P w) A (.call (.ref f) args) (CR CX outer P w H s Q E) s
section
variable {P : Program} {w : World} {K : PySem.W.Frag} {mg : Str → Option Value} {base : Heap}
theorem Fun.okG {x qual : Str} {st : Stmt} {f : Addr} {fd : FuncData} {N ps : List Str} {k : Nat} {sp : Sp} (F : Fun K x qual st f fd) (S : FnScope N ps (defScope st)) (len : ∀ vs H Q E, sp vs H Q E → vs.length = ps.length)
    (hbody : ∀ (cdv : Value) (A : Around) (outer : List Env) (s : Shared) (H : Hp) (vs : List V) (Q : VK) (E : XK), Room k (A.deeper (envOfC qual (defScope st) s.heap.objs.size f cdv)) → (A.deeper (envOfC qual (defScope st) s.heap.objs.size f cdv)).guards = some [] → sp vs H Q E →
      ∃ t, PSs (cxOf CX0 P w K mg base N qual (defScope st) f cdv A outer s H E).nox (defBody st) t ∧ t { nx := fun _ H' => Q .non H', rt := Q } (start N vs) H) : FnG P w K mg base CX0 (k + 1) f fd ps sp := by
  obtain ⟨oc, od, kV, doc, pm, an, cdv, ct, osl, rfl, lk, hcd⟩ := F.ex
  refine ⟨len, fun A outer s H args us vs Q E hr hG e0 hb r hsp => ?_⟩
  have hG2 : (A.deeper (envOfC qual (defScope st) s.heap.objs.size f cdv)).guards = some [] := guards_deeper.trans hG
  have hl := len _ _ _ _ hsp
  have KX : K.In s.heap := e0.mod.kin.keeps fun b o e => (e0.bs b o e).1
  have lim : s.heap.NoLimit := e0.mod.nolimit.keeps fun b o e => (e0.bs b o e).1
  have kinds : ∀ y ∈ ps.zip us, (defScope st).names.lookup y.1 = some .local ∨ ((defScope st).names.lookup y.1 = some .cell ∧ ((cellsFrom (s.heap.objs.size + 1) (defScope st).names []).lookup y.1).isSome = true) := by
    rintro ⟨n, v⟩ hy
    rcases S.par n (List.of_mem_zip hy).1 with q | q
    · exact .inl q
    · exact .inr ⟨q, PySem.W.cellsFrom_some _ _ _ (.inl q)⟩
  refine codeAny_call_function hr.depth (KX _ _ lk) rfl S.co S.gen rfl (PySem.W.codeRec_of KX hcd) (hb _ _ _ _ ?_)
  refine wpAny_newFunctionEnv_cells S.kind kinds fun env he s1 x => ?_
  subst he
  refine ⟨lim.keeps x.toInCall.keep, codeAny_func ?_⟩
  obtain ⟨t, ht, hq⟩ := hbody cdv A outer s H vs Q E (hr.deeper _) hG2 hsp
  have I : Inv (cxOf CX0 P w K mg base N qual (defScope st) f cdv A outer s H E) [] (start N vs) H s1 := inv_start S hr.hd e0 hl r x
  refine wpAny_mono (ht.nox.run [] s1 (start N vs) H _ I hq) (fun fl s' hs => ?_) fun _ _ z => z
  have done : ∀ {σ' : St} {H' : Hp} {v : V} {u : Value}, Inv (cxOf CX0 P w K mg base N qual (defScope st) f cdv A outer s H E) [] σ' H' s' → RelV v u → Q v H' → CE outer P w H s Q u s' :=
    fun {σ' H' v u} J rv q => ⟨v, H', J.os, J.bare, J.base, J.hok, rv, q⟩
  cases fl with
  | ret u =>
    obtain ⟨v, σ', H', J, rv, q⟩ := hs
    exact done J rv q
  | next =>
    obtain ⟨σ', H', J, q⟩ := hs
    exact done (v := V.non) (u := Value.none) J rfl q
  | brk => exact False.elim hs.choose_spec.choose_spec.2
  | cont => exact False.elim hs.choose_spec.choose_spec.2
end
section
variable {X : Cx} {CX : CXT} {k : Nat} {f : Addr} {fd : FuncData} {ps : List Str} {sp : Sp} {E : XK} {x : Str} {p pos : Pos} {e : Expr} {es : List Expr} {t : TA} {ds : List Value} {dvs : List V}
/-- f(e, ..), f a def of such a promise -/
theorem pe_callG (F : FnG X.prog X.w X.K X.mg X.base CX k f fd ps sp) (hr : Room k X.A) (hG : X.A.guards = some []) (hg : Gl X x) (hm : X.mg x = some (.ref f)) (hk : PySem.W.keepIn X.K (.ref f) = true) (hb : Binds X.K fd ps ds) (hd : Vals dvs ds) (hx : Passes CX X E)
    (ha : PA X (e :: es) t) (hdb : (x == ("__debug__" : Str)) = false := by decide) (he : starEach (e :: es) X.env = (false, eval e X.env) :: starEach es X.env := by rfl) (hpl : (backTo pos (starEach es X.env)).any (·.1) = false := by rfl) :
    PE X (.Call (.Name x p) (e :: es) [] pos) (tCall sp dvs E t) := by
  refine ⟨fun pins s σ H Q I h => ?_⟩
  refine wpAny_Call_Name_kw (ld_glob I hg hm ?_ hdb)
  refine PySem.W.callWith_K (h₀ := X.base) I.ok.mod.kin hk (thn (ha.run pos pins s σ H _ I h) fun us s1 ⟨vs, H1, I1, r, q⟩ => ⟨I1.kIn, ?_⟩) he hpl
  have r2 : Vals (vs ++ dvs) (us ++ ds) := r.append hd
  have hl : (us ++ ds).length = ps.length := by
    rw [← r2.length]
    exact F.len _ _ _ _ q
  refine wpAny_call (codeAny_mono (F.run X.A X.stack s1 H1 ⟨us, []⟩ (us ++ ds) (vs ++ dvs) Q E hr hG I1.env0 (hb s1 us I1.kIn hl) r2 q) fun r s' hq => ?_)
  cases r with
  | error er => exact hx pins σ H1 s1 er s' I1 hq
  | ok fl =>
    cases fl with
    | ret u => exact I1.after hq
    | next => exact False.elim hq
    | brk => exact False.elim hq
    | cont => exact False.elim hq
/-- repr(x), x a list or tuple of data -/
def rReprD (K : PySem.W.Frag) : List V → Hp → VK → Prop := fun xs H Q => ∃ (a : Addr) (d : PyData), xs = [.ref a] ∧ Dp K H (.ref a) d ∧ d.showable = true ∧ d.hasDict = false ∧ d.depth ≤ 60 ∧ d.shown.length ≤ sizeLine ∧ Q (.str d.shown) H
theorem call_reprD (hG : X.A.guards = some []) (hu : X.A.units + 64 < cLine) : CallR X (.builtin "repr") (rReprD X.K) := by
  intro pins s σ H xs us Q I r h
  obtain ⟨a, d, rfl, hd, hs, hnd, hdp, hz, q⟩ := h
  obtain ⟨u, rfl, ru⟩ := vals1 r
  obtain rfl : u = Value.ref a := ru
  obtain ⟨as, rd⟩ := Dp.reads I d _ _ hd (show RelV (.ref a) (.ref a) from rfl)
  refine repr_of_reads' rd hs (fun z => absurd z (by rw [hnd]; decide)) hG (by omega) (fun _ _ e => e) (fun h' u tk k => ?_) hz
  exact ⟨.str d.shown, H, I.kept (t' := tk) k, ⟨_, rfl⟩, q⟩
end
/-- the law's call, for such a promise of the law -/
theorem law_callG {P : Program} {w : World} {K : PySem.W.Frag} {mg mb : Str → Option Value} {CX : CXT} {k : Nat} {fa a : Addr} {fd : FuncData} {x : Str} {sp : Sp} {s1 : Shared} {vs : List Value} {ns : List Int}
    (KX : K.In s1.heap) (hns : s1.heap.Ns mainGlobals mg) (hb : s1.heap.Ns builtinsNs mb) (hbb : ∀ x : Str, x ≠ "__name__" → mb x = bootBuiltins x) (hlim : s1.heap.NoLimit) (hg : s1.gens = #[])
    (ha : s1.heap.get? a = some { cls := .type "list", data := .seq vs.toArray }) (hi : IntsAre vs ns) (hl : ns.length ≤ sizeLine) (hr : Room k callerA)
    (F : ∀ base : Heap, K.In base → base.Ns mainGlobals mg → FnG P w K mg base CX k fa fd [x] sp) (hbind : ∀ (s : Shared) (u : Value), BindsTo s fd ⟨[u], []⟩ [(x, u)])
    (hsp : ∀ H : Hp, Only H → SqL K H a (ns.map V.int) → sp [.ref a] H (fun v _ => v = .bl true) fun _ _ _ => False)
    (hCX : ∀ H e s', CX [] H s1 (fun _ _ _ => False) e s' → False) :
    codeAny (model P w) callerA (.call (.ref fa) ⟨[.ref a], []⟩) (fun r s' => r = .ok (.ret (.bool true)) ∧ OldK s1.heap s'.heap ∧ s'.os = s1.os ∧ AllBare s'.gens) s1 := by
  have rv := vals_ints hi
  have lenV := hi.length
  have core : ∀ H : Hp, Only H → SqL K H a (ns.map V.int) → HOk P w H s1.heap → (∀ b, H b ≠ none → b = a) → (H a ≠ none → K.lookup a = none) →
      codeAny (model P w) callerA (.call (.ref fa) ⟨[.ref a], []⟩) (fun r s' => r = .ok (.ret (.bool true)) ∧ OldK s1.heap s'.heap ∧ s'.os = s1.os ∧ AllBare s'.gens) s1 := by
    intro H hO hS hok hA hK
    have only : ∀ {b : Addr} {u : HO}, H b = some u → b = a := fun {b u} q => hA b (by rw [q]; exact Option.some_ne_none u)
    have free : ∀ {b : Addr} {o : Obj} {es : Array DictEntry} {ep : Nat}, s1.heap.get? b = some o → o.data = .dict es ep → H b = none := by
      intro b o es ep e d
      cases q : H b with
      | none => rfl
      | some u =>
        have e' := only q
        subst e'
        rw [ha] at e
        cases e
        cases (show Data.seq vs.toArray _ = Data.dict es ep from d)
    have nsK : ∀ {b : Addr} {m : Str → Option Value}, s1.heap.Ns b m → (hidT s1.heap H).Ns b m := fun {b m} ⟨o, es, ep, e, d, r⟩ => ⟨o, es, ep, hidT_get e (free e d), d, r⟩
    have hKb : K.In (hidT s1.heap H) := fun b o e => hidT_get (KX b o e) (by
      cases q : H b with
      | none => rfl
      | some u =>
        have e' := only q
        subst e'
        rw [hK (by rw [q]; exact Option.some_ne_none u)] at e
        cases e)
    have hM : Mod K mg (hidT s1.heap H) := ⟨hKb, nsK hns, ⟨mb, nsK hb, hbb⟩, let ⟨mc, h1, h2⟩ := hlim; ⟨mc, nsK h1, h2⟩⟩
    have none1 : ∀ b : Addr, b ∉ ([] : List Addr) := fun b z => nomatch z
    have e0 : Env0 P w K mg (hidT s1.heap H) callerA [] s1 H := ⟨rfl, hM, fun b o e => of_hidT e, Nat.le_of_eq (hidT_size _ _), trivial, fun b hb => absurd hb (none1 b), hok, .of_eq hg⟩
    refine codeAny_mono ((F _ hKb (nsK hns)).run callerA [] s1 H ⟨[.ref a], []⟩ [.ref a] [.ref a] _ _ hr rfl e0 (hbind s1 (.ref a)) (.cons rfl .nil) (hsp H hO hS)) fun r s' h => ?_
    cases r with
    | error e => exact (hCX H e s' h).elim
    | ok fl =>
      cases fl with
      | next => exact False.elim h
      | brk => exact False.elim h
      | cont => exact False.elim h
      | ret u =>
        obtain ⟨v, H', os, bare, un, hok', r', q⟩ := h
        obtain rfl : v = .bl true := q
        obtain rfl : u = Value.bool true := r'
        refine ⟨rfl, OldK.of_keep fun b o e => ?_, os, bare⟩
        cases q : H b with
        | none => exact un.keep b o e q (none1 b) (none1 b)
        | some u =>
          rcases hO b with z | ⟨ob, xs, z⟩
          · rw [q] at z
            cases z
          · obtain ⟨e1, _⟩ := hok b _ z
            obtain ⟨e2, _⟩ := hok' b _ (un.frzs b ob _ z)
            rw [e] at e1
            cases e1
            exact e2
  cases hk : K.lookup a with
  | some o =>
    have e := KX a o hk
    rw [ha] at e
    cases e
    refine core (fun _ => none) (fun _ => .inl rfl) (.inr ⟨_, vs.toArray, _, hk, rfl, rfl, rfl, by rw [List.size_toArray, lenV]; exact hl, by simpa using rv⟩) (fun b u z => by cases (show (none : Option HO) = some u from z)) (fun b z => absurd rfl z) fun z => absurd rfl z
  | none =>
    refine core (fun b => if b = a then some (.frz { cls := .type "list", data := .seq vs.toArray } (.lst (ns.map V.int))) else none) (fun b => ?_) (.inl (.inr ⟨{ cls := .type "list", data := .seq vs.toArray }, if_pos rfl⟩)) (fun b u z => ?_) (fun b z => ?_) fun _ => hk
    · by_cases hb : b = a
      · exact .inr ⟨_, _, if_pos hb⟩
      · exact .inl (if_neg hb)
    · by_cases hb : b = a
      · cases (if_pos hb).symm.trans z
        subst hb
        exact ⟨ha, by rw [List.length_map]; exact hl, vs, _, rv, ha⟩
      · cases (if_neg hb).symm.trans z
    · by_cases hb : b = a
      · exact hb
      · exact absurd (if_neg hb) z
theorem walk_ofG {l : PySem.W.OpenLaw} {n k : Nat} {q : Program} {loose : List Str} {XP : (Str → Option Value) → Heap → Prop} {YP : World → Heap → Prop} {d : DefRec} {K : Params → PySem.W.Frag} {sp : PySem.W.Frag → Sp} {x : Str}
    (hn : l.most = some n) (hn2 : n ≤ sizeLine) (hdf : d.params.defaults = []) (hr : Room k callerA)
    (hY : ∀ (w : World) (h : Heap), YP w h → (K w.params).In h)
    (F : ∀ (w : World) (mg : Str → Option Value) (fa : Addr) (h : Heap), (K w.params).In h → h.Ns mainGlobals mg → mg d.name = some (.ref fa) →
      ∃ fd : FuncData, (∀ (s : Shared) (u : Value), BindsTo s fd ⟨[u], []⟩ [(x, u)]) ∧ ∀ base : Heap, (K w.params).In base → base.Ns mainGlobals mg → FnG l.prog w (K w.params) mg base CX0 k fa fd [x] (sp (K w.params)))
    (hsp : ∀ (K : PySem.W.Frag) (H : Hp) (a : Addr) (ns : List Int), ns.length ≤ n → Only H → SqL K H a (ns.map V.int) → sp K [.ref a] H (fun v _ => v = .bl true) fun _ _ _ => False) :
    PySem.W.WalkO q loose XP YP l.row.toRowW d [] (fun f vs => PySem.call f vs) := by
  refine Att.attach_call hn hdf fun w s₀ s1 mg mb fa o pm cd doc a vs ns G Y ho hd hcd hmg hobj hints hlen hg => ?_
  have KX := hY w _ Y
  obtain ⟨fd, hb, hF⟩ := F w mg fa _ KX G.T.g hmg
  exact law_callG KX G.T.g G.T.b G.T.builtins G.T.nolimit hg hobj hints (Nat.le_trans hlen hn2) hr hF hb (fun H hO hS => hsp (K w.params) H a ns hlen hO hS) fun H e s' z => z
end L2
end
section
set_option Elab.async false
set_option linter.all false
set_option maxRecDepth 100000
set_option maxHeartbeats 4000000
/-! X8: try with several clauses .. as n, the exceptions let go behind each suite -/
namespace L2
open PySem PySem.Spec PyProof.Rows PySem.VX
/-- the clauses' wishes, one behind the other; n's slot is i -/
def wManyN (K : PySem.W.Frag) (i : Nat) (Wout : WX) (D : Ends) : List (Value × (Addr → Value → Option Addr → TS)) → WX
  | [] => Wout
  | (c, ts) :: r => fun cls d σ H => ∃ b, PySem.W.exmOne K cls c = some b ∧
      (b = true → ∃ C d', cls = .ref C ∧ d = some d' ∧ ∀ a, H a = none → ts a cls d { nx := fun σ' H' => D.nx (σ'.set i none) H', rt := fun v H' => D.rt v H', bk := fun σ' H' => D.bk (σ'.set i none) H', ct := fun σ' H' => D.ct (σ'.set i none) H' } (σ.set i (some (.ref a))) H) ∧
      (b = false → wManyN K i Wout D r cls d σ H)
inductive HdsN (X : Cx) (n : Str) : List ExceptHandler → List (Value × (Addr → Value → Option Addr → TS)) → Prop
  | nil : HdsN X n [] []
  | cons {x : Str} {c : Value} {ts : Addr → Value → Option Addr → TS} {b₀ : Stmt} {suite : List Stmt} {np pos' : Pos} {hds : List ExceptHandler} {l : List (Value × (Addr → Value → Option Addr → TS))} (hc : Names X x c)
      (hsu : ∀ (a : Addr) (oe : Obj) (cls : Value) (d : Option Addr) (pn : List (Addr × Obj)), Zc cls d oe → (∃ vs, oe.data = .fields vs) → PSs (X.suite a ((a, oe) :: pn)) (b₀ :: suite) (ts a cls d)) (r : HdsN X n hds l) :
      HdsN X n (.ExceptHandler (some (.Name x np)) (some n) (b₀ :: suite) pos' :: hds) ((c, ts) :: l)
section
variable {X : Cx} {n : Str} {i : Nat} {body : List Stmt} {h₀ : ExceptHandler} {hds : List ExceptHandler} {l : List (Value × (Addr → Value → Option Addr → TS))} {pos : Pos} {tb : WX → TS} {Wout : WX}
theorem ps_try_manyN (hs : X.stack = X.env :: X.outer) (hf : X.env.frame = some X.env.locals) (hex : X.ex = []) (hN : X.N.Nodup) (hi : X.N[i]? = some n) (hln : X.env.kindOf n = some .local) (tk : Takes X Wout)
    (hb : ∀ (W : WX) (pn : List (Addr × Obj)) (xe : Value → Shared → Prop), Takes (X.tr pn xe) W → PassesOwn (model X.prog X.w) X.A X.env xe → PSs (X.tr pn xe) body (tb W))
    (hh : HdsN X n (h₀ :: hds) l) : PS X (.Try body (h₀ :: hds) [] [] pos) (fun D σ H => tb (wManyN X.K i Wout D l) D σ H) := by
  refine ⟨fun pins s σ H D I h => ?_⟩
  have ok := I.ok
  have frm : X.A.frames = some (X.env :: X.outer) := ok.frames.trans (congrArg some hs)
  have hloc : Loc X.env.scope n := .inl hln
  refine wpAny_Try_except ?_
  refine wpAny_mono ((hb (wManyN X.K i Wout D l) (X.pn ++ pins) (fun e s₁ => wpAny (model X.prog X.w) X.A (noteFrame e X.env) (fun _ s₂ => wpAny (model X.prog X.w) X.A (setFlight e none) (fun _ s₃ =>
    wpAny (model X.prog X.w) X.A (handleBy e X.env (h₀ :: hds)) (SP X pins D) X.xe s₃) X.xe s₂) X.xe s₁) (fun u s' xx => ?_) PassesOwn.looking).run [] s σ H D (I.toTry _) h) (fun f s1 hsp => ?_) (fun _ _ he => he)
  · obtain ⟨a, B, sI, pins', σ', H', cls, d, rfl, J', nb, up, sky, na, os, ag, w⟩ := xx
    have J : Inv X pins σ' H' sI := J'.ofTry ok
    have sky' : Sky B (X.env :: X.outer) a (Zc cls d) X.env.locals s'.heap := by rw [← hs]; exact sky
    show wpAny (model X.prog X.w) X.A (noteFrame (.ref a) X.env) _ _ _
    refine Sky.land Zc.steady frm hf sky' fun h3 fl3 up3 => ?_
    have J3 : Inv X pins σ' H' { s' with heap := h3 } := J.landed nb fl3.1 (up.trans up3) os ag
    obtain ⟨oe3, vs3, he3, hz3, hd3⟩ := fl3.there
    have noFrame : a ∉ frs (X.env :: X.outer) := fun hm => by
      obtain ⟨_, o', e', hnf⟩ := fl3.2.2.1.mem hm
      rw [he3] at e'
      cases e'
      exact hnf _ hd3
    have noStack : a ∉ frs X.stack := by rw [hs]; exact noFrame
    have nL : a ≠ X.env.locals := fun z => noFrame (List.mem_filterMap.mpr ⟨X.env, List.mem_cons_self, by rw [hf, z]⟩)
    have nF : a ∉ X.fs := fun hm => by
      obtain ⟨e, he, q⟩ := List.mem_filterMap.mp hm
      exact noFrame (List.mem_filterMap.mpr ⟨e, List.mem_cons_of_mem _ he, q⟩)
    -- it wasn't there ahead
    have nB : B.get? a = none := fl3.2.1
    have nI : sI.heap.get? a = none := by
      cases e : sI.heap.get? a with
      | none => rfl
      | some o =>
        have z := nb a o e noStack
        rw [nB] at z
        cases z
    have n0 : X.s_0.heap.get? a = none := by
      cases e : X.s_0.heap.get? a with
      | none => rfl
      | some o =>
        obtain ⟨o', z⟩ := J.base.there a o e (by rw [hex]; exact fun z => nomatch z)
        rw [nI] at z
        cases z
    have np : ∀ p ∈ X.pn ++ pins, p.1 ≠ a := fun p hp z => by
      have q := (J.pin p hp).1
      rw [z, nI] at q
      cases q
    have S3 := J3.suite he3 hd3 na nL nF
    have go : ∀ {hds' : List ExceptHandler} {l' : List (Value × (Addr → Value → Option Addr → TS))}, HdsN X n hds' l' → wManyN X.K i Wout D l' cls d σ' H' →
        wpAny (model X.prog X.w) X.A (handleBy (.ref a) X.env hds') (SP X pins D) X.xe { s' with heap := h3 } := by
      intro hds' l' hk
      induction hk with
      | nil =>
        intro w
        refine wpAny_handleBy_nil ?_
        obtain ⟨k1, k2, k3, oe, vs, T, oT, ts', he, hz, hd, h1, hr⟩ := id fl3
        unfold PySem.passOn
        refine wpAny_bind (wpAny_field he hd h1 ?_)
        rw [if_neg (show ¬ ((Value.ref T == Value.none) = true) from by simp)]
        have away : wpAny (model X.prog X.w) X.A (setFlight (.ref a) X.env.frame) (fun _ s4 => wpAny (model X.prog X.w) X.A (throw (.ref a) : Sem Flow) (SP X pins D) X.xe s4) X.xe { s' with heap := h3 } := by
          rw [hf]
          refine HandSPX.setFlight_upZ fl3 fun h4 hh4 up4 => wpAny_throw (tk _ _ ?_)
          exact ⟨a, B, sI, pins, σ', H', cls, d, rfl, J, nb, (up.trans up3).trans up4, .inr (.inr (by rw [hs]; exact hh4)), na, os, ag, w⟩
        first
          | exact wpAny_bind (wpAny_pure (wpAny_bind away))
          | exact wpAny_bind away
      | @cons x c ts b₀ suite np' pos' hds2 l2 hc hsu r ih =>
        intro w
        obtain ⟨b, hb1, hyes, hno⟩ := w
        refine wpAny_handleBy_cons (codeAny_handlers_test ?_) (by intro q; cases q)
        have LT : PySem.W.Looks (model X.prog X.w) h3 (typeOf (.ref a)) cls := fun A Q E s k q => wpAny_typeOf_ref (k _ _ he3) (by rw [hz3.1]; exact q)
        have LM := PySem.W.exm_one (M := model X.prog X.w) (J3.kIn) LT hb1
        have test : ∀ {Q : Value → Shared → Prop} {E : Value → Shared → Prop}, Q c { s' with heap := h3 } → wpAny (model X.prog X.w) (X.A.mark (some (.ref a))) (eval (.Name x np') X.env) Q E { s' with heap := h3 } := fun {Q E} q => by
          obtain ⟨hg, hdbg, hm | ⟨hm, hv, hnn⟩⟩ := hc
          · exact ld_glob (X := X.suite a ((a, oe3) :: (X.pn ++ pins))) S3 hg hm q hdbg
          · exact ld_blt (X := X.suite a ((a, oe3) :: (X.pn ++ pins))) S3 hg hm hv q hnn hdbg
        refine test (LM.here ?_)
        cases b with
        | true =>
          obtain ⟨C, d', rfl, rfl, hyes'⟩ := hyes rfl
          refine codeAny_handlers_suite_as ?_
          refine HandSPX.lands_againZ fl3 fun h4 fl4 up4 => ?_
          have J4 : Inv X pins σ' H' { s' with heap := h4 } := J.landed nb fl4.1 ((up.trans up3).trans up4) os ag
          obtain ⟨oe4, vs4, he4, hz4, hd4⟩ := fl4.there
          have S4 := J4.suite he4 hd4 na nL nF
          refine store_ok (X := X.suite a ((a, oe4) :: (X.pn ++ pins))) (v := .ref a) S4 hN hi hloc rfl (fun s5 S5 => ?_) (.inr hln)
          refine wpAny_mono ((hsu a oe4 (.ref C) (some d') (X.pn ++ pins) hz4 ⟨_, hd4⟩).run [] s5 _ H' _ S5 (hyes' a na)) (fun f s6 hsp => ?_) (fun _ _ z => False.elim z)
          have plain : ∀ {τ : St} {G : Hp} {Q : Shared → Prop}, Inv (X.suite a ((a, oe4) :: (X.pn ++ pins))) [] τ G s6 → (∀ s7, Inv X pins (τ.set i none) G s7 → Q s7) →
              wpAny (model X.prog X.w) X.A (do bindName X.env n .none; unbindBehindTheSuite X.env n pos') (fun _ s7 => Q s7) X.xe s6 := fun {τ G Q} S6 hq => gone_ok (S6.unsuite ok) hN hi hln hq
          cases f with
          | next =>
            obtain ⟨τ, G, S6, q6⟩ := hsp
            exact plain S6 fun s7 J7 => ⟨_, _, J7, q6⟩
          | brk =>
            obtain ⟨τ, G, S6, q6⟩ := hsp
            exact plain S6 fun s7 J7 => ⟨_, _, J7, q6⟩
          | cont =>
            obtain ⟨τ, G, S6, q6⟩ := hsp
            exact plain S6 fun s7 J7 => ⟨_, _, J7, q6⟩
          | ret u =>
            obtain ⟨v6, τ, G, S6, r6, q6⟩ := hsp
            exact plain S6 fun s7 J7 => ⟨_, _, _, J7, r6, q6⟩
        | false =>
          show wpAny _ X.A (handleBy (.ref a) X.env hds2) _ _ _
          exact ih (hno rfl)
    exact go hh w
  · cases f with
    | next =>
      obtain ⟨τ, G, J', q⟩ := hsp
      exact wpAny_execs_nil ⟨τ, G, J'.ofTry ok, q⟩
    | brk =>
      obtain ⟨τ, G, J', q⟩ := hsp
      exact ⟨τ, G, J'.ofTry ok, q⟩
    | cont =>
      obtain ⟨τ, G, J', q⟩ := hsp
      exact ⟨τ, G, J'.ofTry ok, q⟩
    | ret u =>
      obtain ⟨v, τ, G, J', r, q⟩ := hsp
      exact ⟨v, τ, G, J'.ofTry ok, r, q⟩
end
end L2
end
section
set_option Elab.async false
set_option linter.all false
set_option maxRecDepth 100000
set_option maxHeartbeats 4000000
/-! Q1: == and != of instances by an own __eq__, whatever it answers -/
namespace L2
open PySem PySem.Spec PyProof.Rows PySem.VX Builtin
/-- x == y, x an instance of the class at C -/
def rEqO (K : PySem.W.Frag) (C : Addr) (sp : Sp) (E : XK) : R2 := fun x y H Q => ∃ a dx fs t, x = .ref a ∧ H a = some (.ins C dx fs) ∧ TyX K H y t ∧ PySem.W.notFirst K C t = true ∧ sp [x, y] H Q E
/-- x != y, where the class has no __ne__ -/
def rNeO (K : PySem.W.Frag) (C : Addr) (sp : Sp) (E : XK) : R2 := fun x y H Q => ∃ a dx fs t, x = .ref a ∧ H a = some (.ins C dx fs) ∧ TyX K H y t ∧ PySem.W.notFirst K C t = true ∧ sp [x, y] H (fun z H' => ∃ b, z = .bl b ∧ Q (.bl (!b)) H') E
section
variable {X : Cx} {CX : CXT} {n : Nat} {C f : Addr} {fd : FuncData} {ps : List Str} {sp : Sp} {E : XK}
theorem run_eq {A : Around} {pins : List (Addr × Obj)} {σ : L2.St} {H : Hp} {s : Shared} {Q : VK} {x y : V} {v u : Value} (F : FnOk X.prog X.w X.K X.mg X.base CX n f fd ps sp) (hb : Binds X.K fd ps []) (hx : Passes CX X E) (hr : Room n A) (fr : A.frames = X.A.frames)
    (I : Inv X pins σ H s) (rx : RelV x v) (ry : RelV y u) (h : sp [x, y] H Q E) : wpAny (model X.prog X.w) A (call (.ref f) [v, u]) (EP X pins σ Q) X.xe s := by
  have e0 : Env0 X.prog X.w X.K X.mg X.base A X.stack s H := by
    have e := I.env0
    exact ⟨by rw [fr]; exact e.frames, e.mod, e.bs, e.bsz, e.funs, e.frf, e.hok, e.bare⟩
  have hl := F.len _ _ _ _ h
  refine wpAny_call (codeAny_mono (F.run A X.stack s H ⟨[v, u], []⟩ [v, u] [x, y] Q E hr e0 (by
    have := hb s [v, u] I.kIn (by simpa using hl)
    simpa using this) (.cons rx (.cons ry .nil)) h) fun r s' hq => ?_)
  cases r with
  | error e => exact hx pins σ H s e s' I hq
  | ok fl =>
    cases fl with
    | ret w => exact I.after hq
    | next => exact False.elim hq
    | brk => exact False.elim hq
    | cont => exact False.elim hq
theorem op_eqO (F : FnOk X.prog X.w X.K X.mg X.base CX n f fd ps sp) (hs : PySem.W.findIn X.K (.ref C) "__eq__" = some (some (.ref f))) (hf : PySem.W.isFn X.K (.ref f) = true) (hb : Binds X.K fd ps []) (hx : Passes CX X E) (hr : Room n X.A) : OpR X (compareOp .Eq) (rEqO X.K C sp E) := by
  intro pins s σ H x y v u Q I rx ry h
  obtain ⟨a, dx, fs, t, rfl, ha, ty, hn, q⟩ := h
  cases (show v = Value.ref a from rx)
  obtain ⟨mA, J, _⟩ := ins_get I.hok ha
  obtain ⟨od, J, _⟩ := J.look
  obtain ⟨P, Z, p, _⟩ := kit_of I ry ty
  obtain ⟨m, hF⟩ := I.fr
  show wpAny (model X.prog X.w) X.A (richCompare .Eq (.ref a) u) (EP X pins σ Q) X.xe s
  refine PySem.W.cmp_K (op := .Eq) (tb := t) hr.units0 hF I.ok.mod.kin J (Z.ty _ _ I.kIn p) hn hs hf ?_
  refine wpAny_mono (run_eq F hb hx hr rfl I rx ry q) (fun w s' z => ?_) fun _ _ x => x
  obtain ⟨z', H', I', rz, qz⟩ := z
  exact SlX.cmpback rz ⟨z', H', I', rz, qz⟩
end
section
variable {prog : Program} {w : World} {A A₀ : Around} {E : Value → Shared → Prop} {s : Shared} {K : PySem.W.Frag} {x C L f : Addr} {h₀ : Heap} {m : Str → Option Value} {ox : Obj} {od : Option Obj} {name : Str} {b tb : Value}
theorem bind_ne (self : Value) : bindSpecial (.builtin "object.__ne__") self = pure (.builtin "object.__ne__", [self]) :=
  (Slot.of (T := "object") (name := "__ne__") (owner := "object") (n := "__ne__") (by rw [typeLookup_type, builtinLookup_eq_fast]; kernel_rfl) (by decide +kernel) (by decide +kernel) (by decide +kernel)
    (.inl (by decide +kernel)) (by rw [isSubtype_type]; kernel_rfl)).bind self
theorem ifBoundNe {M : Model} {args : List Value} {Q : Option Value → Shared → Prop} (X : K.In s.heap) (I : PySem.W.InstAt s.heap x ox C od) (hs : PySem.W.findIn K (.ref C) name = some (some (.builtin "object.__ne__")))
    (h : wpAny M A (call (.builtin "object.__ne__") (.ref x :: args)) (fun v => Q (some v)) E s) : wpAny M A (callSpecialIfBound? (.ref x) name args) Q E s := by
  simp only [callSpecialIfBound?, bindSpecialIfBound?]
  refine wpAny_holding (wpAny_bind (wpAny_bind (wpAny_bind (I.type.here ((PySem.W.looks_findIn X hs).here ?_)))))
  simp only [bind_ne]
  refine wpAny_bind (wpAny_askSetting (wpAny_ite ?_))
  have fin : wpAny M A (call (.builtin "object.__ne__") ([.ref x] ++ args) >>= fun v => pure (some v)) Q E s := wpAny_bind (wpAny_mono h (fun v s' h' => wpAny_pure h') fun _ _ h' => h')
  split
  · exact wpAny_bind (wpAny_pure (wpAny_pure fin))
  · exact wpAny_tryCatch (wpAny_bind (wpAny_pure (wpAny_pure fin)))
theorem ne_entry (X : K.In s.heap) (I : PySem.W.InstAt s.heap x ox C od) (hs : PySem.W.findIn K (.ref C) "__eq__" = some (some (.ref f))) (hf : PySem.W.isFn K (.ref f) = true) (hu : A.units < cLine) {Q : Fin → Shared → Prop}
    (hcall : wpAny (model prog w) A (call (.ref f) [.ref x, b]) (fun v s' => ∃ c, v = .bool c ∧ Q (.done (.ret (.bool (!c)))) s') E s) :
    wpAny (model prog w) A (Builtin.«object.__ne__» ⟨[.ref x, b], []⟩) Q E s := by
  unfold Builtin.«object.__ne__»
  repeat (first
    | with_reducible refine wpAny_cRoomFor hu ?_
    | (refine wpAny_bind (m := callSpecialIfBound? (.ref x) (Str.ofString "__eq__") [b])
        (PySem.W.ifBound_K X I hs hf (wpAny_mono hcall (fun r s' hr => by
          obtain ⟨c, rfl, hq⟩ := hr
          repeat (first | exact hq | exact wpAny_pure hq | exact wpAny_truthy_bool hq | (refine wpAny_bind (m := truthy (.bool _)) (wpAny_truthy_bool ?_)) | wp_step)) fun _ _ e => e)))
    | wp_step)
theorem ne_K {Q : Value → Shared → Prop} (hu : A.units + 1 < cLine) (F0 : Fr h₀ L s.heap m) (X₀ : K.In h₀) (I : PySem.W.InstAt s.heap x ox C od) (hb : PySem.W.Looks (model prog w) s.heap (typeOf b) tb) (hn : PySem.W.notFirst K C tb = true)
    (hs : PySem.W.findIn K (.ref C) "__eq__" = some (some (.ref f))) (hf : PySem.W.isFn K (.ref f) = true) (hne : PySem.W.findIn K (.ref C) "__ne__" = some (some (.builtin "object.__ne__"))) (hm : PySem.W.mroIn K C (.type "object") = some true)
    (h : wpAny (model prog w) A.in1 (call (.ref f) [.ref x, b]) (fun v s' => ∃ c, v = .bool c ∧ Q (.bool (!c)) s') E s) : wpAny (model prog w) A (richCompare .NotEq (.ref x) b) Q E s := by
  have X := X₀.keeps F0.keep
  have one : wpAny (model prog w) A (tryCompare (.ref x) (cmpInfo .NotEq).2.1 b) (fun r s' => ∃ v, r = some v ∧ Q v s') E s := by
    unfold tryCompare
    refine wpAny_bind (ifBoundNe X I hne (wpAny_call (codeAny_call_builtin (by decide +kernel) PySem.F.cmpEntry_ne
      (PySem.W.check_slot PySem.F.cmpKind_ne PySem.F.cmpSplit_ne (I.type.andThen (PySem.W.looks_mroIn X hm)) (PySem.F.cmpArgs_ne _ _)
        (ne_entry (A := A.in1) X I hs hf (by exact hu) (wpAny_mono h (fun v s' hv => ?_) fun _ _ e => e))))))
    obtain ⟨c, rfl, hq⟩ := hv
    first | exact ⟨c, rfl, wpAny_pure ⟨_, rfl, hq⟩⟩ | exact ⟨c, rfl, wpAny_pure (wpAny_pure ⟨_, rfl, hq⟩)⟩
  unfold richCompare
  simp only [oneThing_ref]
  refine wpAny_holding (wpAny_bind (wpAny_cRoomFor (Nat.lt_of_succ_lt hu) ?_))
  refine wpAny_bind (I.type.here (wpAny_bind (hb.here ?_)))
  split
  · rename_i q
    have e : PySem.W.subIn K tb (.ref C) = some false := by
      rcases Bool.or_eq_true_iff.mp hn with e | e
      · rw [beq_iff_eq.mp e] at q; simp at q
      · exact beq_iff_eq.mp e
    refine wpAny_bind ((PySem.W.looks_subIn X e).here ?_)
    simp only [Bool.false_eq_true, if_false]
    refine wpAny_bind (wpAny_mono one (fun r s' z => ?_) fun _ _ e => e)
    obtain ⟨v, rfl, hq⟩ := z
    exact wpAny_pure hq
  · refine wpAny_bind (wpAny_pure ?_)
    simp only [Bool.false_eq_true, if_false]
    refine wpAny_bind (wpAny_mono one (fun r s' z => ?_) fun _ _ e => e)
    obtain ⟨v, rfl, hq⟩ := z
    exact wpAny_pure hq
end
section
variable {X : Cx} {CX : CXT} {n : Nat} {C f : Addr} {fd : FuncData} {ps : List Str} {sp : Sp} {E : XK}
theorem op_neO (F : FnOk X.prog X.w X.K X.mg X.base CX n f fd ps sp) (hs : PySem.W.findIn X.K (.ref C) "__eq__" = some (some (.ref f))) (hf : PySem.W.isFn X.K (.ref f) = true) (hne : PySem.W.findIn X.K (.ref C) "__ne__" = some (some (.builtin "object.__ne__"))) (hm : PySem.W.mroIn X.K C (.type "object") = some true)
    (hb : Binds X.K fd ps []) (hx : Passes CX X E) (hr : Room (n + 1) X.A) : OpR X (compareOp .NotEq) (rNeO X.K C sp E) := by
  intro pins s σ H x y v u Q I rx ry h
  obtain ⟨a, dx, fs, t, rfl, ha, ty, hn, q⟩ := h
  cases (show v = Value.ref a from rx)
  obtain ⟨mA, J, _⟩ := ins_get I.hok ha
  obtain ⟨od, J, _⟩ := J.look
  obtain ⟨P, Z, p, _⟩ := kit_of I ry ty
  obtain ⟨m, hF⟩ := I.fr
  show wpAny (model X.prog X.w) X.A (richCompare .NotEq (.ref a) u) (EP X pins σ Q) X.xe s
  refine ne_K (tb := t) (by exact hr.in1.units0) hF I.ok.mod.kin J (Z.ty _ _ I.kIn p) hn hs hf hne hm ?_
  refine wpAny_mono (run_eq F hb hx hr.in1 rfl I rx ry q) (fun w s' z => ?_) fun _ _ x => x
  obtain ⟨z', H', I', rz, c, rfl, qz⟩ := z
  exact ⟨c, rz, ⟨.bl (!c), H', I', rfl, qz⟩⟩
end
end L2
end
section
set_option Elab.async false
set_option linter.all false
set_option maxRecDepth 100000
set_option maxHeartbeats 4000000
/-! T0: the toolbox -/
namespace D1
open PySem L2 Evl
/-- addresses that may change, and what is always true of them -/
structure Fr where
  chg : Addr → Prop
  inv : Hp → Prop
  mono : ∀ H H', Ex H H' → inv H → inv H'
  live : ∀ H b, inv H → chg b → H b ≠ none
/-- from H to H': the invariant holds behind, all else stays -/
structure Fr.R (F : Fr) (H H' : Hp) : Prop where
  inv : F.inv H'
  keep : ∀ b o, ¬F.chg b → H b = some o → H' b = some o
theorem Fr.R.trans {F : Fr} {H H1 H2 : Hp} (a : F.R H H1) (b : F.R H1 H2) : F.R H H2 := ⟨b.inv, fun c o n e => b.keep c o n (a.keep c o n e)⟩
theorem Fr.R.refl {F : Fr} {H : Hp} (h : F.inv H) : F.R H H := ⟨h, fun _ _ _ e => e⟩
theorem Fr.R.ex {F : Fr} {H H' : Hp} (h : F.inv H) (e : Ex H H') : F.R H H' := ⟨F.mono H H' e h, fun b o _ x => e b o x⟩
theorem Fr.R.new {F : Fr} {H : Hp} {p : Addr} {o : HO} (h : F.inv H) (hp : H p = none) : F.R H (upd H p o) := .ex h (.new hp)
theorem Fr.fresh {F : Fr} {H : Hp} {p : Addr} (h : F.inv H) (hp : H p = none) : ¬F.chg p := fun m => F.live H p h m hp
/-- an object of one's own changes -/
theorem Fr.R.set {F : Fr} {H H1 : Hp} {p : Addr} {o : HO} (hinv : F.inv (upd H1 p o)) (r : F.R H H1) (hp : H p = none) : F.R H (upd H1 p o) := ⟨hinv, fun b u n e => by
  rw [upd_ne (ne_of_none e hp)]
  exact r.keep b u n e⟩
theorem yes_of {c : Bool} {A B : Prop} (hc : c = true) (h : A) : if c = true then A else B := by
  rw [if_pos hc]
  exact h
theorem no_of {c : Bool} {A B : Prop} (hc : c = false) (h : B) : if c = true then A else B := by
  rw [hc, if_neg Bool.false_ne_true]
  exact h
theorem atI_of {xs : List V} {i : Int} {v : V} (h0 : 0 ≤ i) (h : xs[i.toNat]? = some v) : atI xs i = some v := by
  have e1 : i = (i.toNat : Int) := by omega
  generalize i.toNat = j at e1 h
  subst e1
  exact atI_nat h
theorem seq0 {n : Nat} (h : 0 < n) : seqIndex? 0 n = some 0 := by
  unfold seqIndex?
  first
    | rfl
    | simp [h]
/-! ### // by a divisor of any size up to 2 ^ 64 -/
def CDivL (i j : Int) : Prop := 0 < j ∧ j < 2 ^ 64
theorem op_fdivL {X : Cx} : OpR X (binaryOp .FloorDiv) (rI CDivL fun i j => .int (i / j)) := opI fun i j _ _ _ _ _ hc q => by
  have h1 : (0 : Int) < j := hc.1
  have h2 : j < 2 ^ 64 := hc.2
  refine PyProof.Rows.floordiv_int (by omega) (by rw [Int.fdiv_eq_ediv_of_nonneg i (by omega)]; exact q) (.inl (PyProof.noPylong_of_log2 ?_))
  have h0 : j.natAbs ≠ 0 := by omega
  have h3 : j.natAbs < 2 ^ 64 := by omega
  have := (Nat.log2_lt h0).mpr h3
  omega
end D1
namespace D1
open PySem PySem.Spec PyProof.Rows L2 Evl ClX
section
variable {X : Cx} {CX : CXT} {k : Nat} {C g : Addr} {fd : FuncData} {ps : List Str} {sp : Sp} {dvs : List V} {ds : List Value} {E : XK} {m : Str} {o e : Expr} {es : List Expr} {ta : TE} {t : TA} {apos pos : Pos} {mc : Value}
/-- Base.m(self, ..) -/
def tCfn (C : Addr) (sp : Sp) (dvs : List V) (E : XK) (ta : TE) (t : TA) : TE := fun σ H Q => ta σ H fun x H1 => x = .ref C ∧ t σ H1 fun vs H2 => sp (vs ++ dvs) H2 Q E
theorem pe_cfn {pl : Sem Bool} (he : PE X o ta) (r : CRead X.K C mc) (c : CVal X.K C mc m (.ref g) (.ref g)) (F : FnOk X.prog X.w X.K X.mg X.base CX k g fd ps sp) (hr : Room k X.A) (hk : PySem.W.keepIn X.K (.ref g) = true) (hb : Binds X.K fd ps ds) (hd : Vals dvs ds) (hx : Passes CX X E) (ha : PA X (e :: es) t)
    (hst : starEach (e :: es) X.env = (false, eval e X.env) :: starEach es X.env := by rfl) (hpl : (backTo pos (starEach es X.env)).any (·.1) = false := by rfl)
    (ht : eval (.Call (.Attribute o m apos) (e :: es) [] pos) X.env = (do
      let ov ← eval o X.env
      standAt apos.atName
      let (f, first) ← holding [ov] (getMethod ov m pl)
      callWith pos f first (backTo pos (starEach (e :: es) X.env)) (backToKw pos (keywordEach [] X.env))) := by rfl) :
    PE X (.Call (.Attribute o m apos) (e :: es) [] pos) (tCfn C sp dvs E ta t) := by
  refine ⟨fun pins s σ H Q I h => ?_⟩
  refine PySem.W.methodCall_KW (pl := pl) (thn (he.run pins s σ H _ I h) fun u s1 ⟨x, H1, I1, rx, ex, q⟩ => ?_) ht
  subst ex
  obtain rfl : u = Value.ref C := rx
  refine PySem.W.method_cls I1.kIn r.ga (getcval_ok I1 r c fun s2 I2 => ?_)
  refine PySem.W.callWith_K (first := []) (h₀ := X.base) I2.ok.mod.kin hk (thn (ha.run pos pins s2 σ H1 _ I2 q) fun us s3 ⟨vs, H3, I3, r3, q3⟩ => ⟨I3.kIn, ?_⟩) hst hpl
  exact run_fn F hr hb hd hx I3 r3 q3
/-- a class of several, and the promise of its method -/
structure HeldM (P : Program) (w : World) (K : PySem.W.Frag) (mg : Str → Option Value) (base : Heap) (k : Nat) (m : Str) (C : Addr) (sp : Sp) : Prop where
  cls : Cls K C
  ex : ∃ (g : Addr) (fd : FuncData) (ps : List Str), Meth K C m g ∧ FnOk P w K mg base CX0 k g fd ps sp ∧ Binds K fd ps []
def tMethA (m : Str) (S : Addr → Option Sp) (ta : TE) (t : TA) : TE := fun σ H Q => ta σ H fun x H1 => ∃ a C dx fs sp, x = .ref a ∧ S C = some sp ∧ H1 a = some (.ins C dx fs) ∧ fs.lookup m = none ∧ t σ H1 fun vs H2 => sp (x :: vs) H2 Q E0
theorem pe_methA {pl : Sem Bool} {S : Addr → Option Sp} (A : ∀ C sp, S C = some sp → HeldM X.prog X.w X.K X.mg X.base k m C sp) (he : PE X o ta) (hr : Room k X.A) (ha : PA X (e :: es) t)
    (hst : starEach (e :: es) X.env = (false, eval e X.env) :: starEach es X.env := by rfl) (hpl : (backTo pos (starEach es X.env)).any (·.1) = false := by rfl)
    (ht : eval (.Call (.Attribute o m apos) (e :: es) [] pos) X.env = (do
      let ov ← eval o X.env
      standAt apos.atName
      let (f, first) ← holding [ov] (getMethod ov m pl)
      callWith pos f first (backTo pos (starEach (e :: es) X.env)) (backToKw pos (keywordEach [] X.env))) := by rfl) :
    PE X (.Call (.Attribute o m apos) (e :: es) [] pos) (tMethA m S ta t) := by
  refine ⟨fun pins s σ H Q I h => ?_⟩
  refine PySem.W.methodCall_KW (pl := pl) (thn (he.run pins s σ H _ I h) fun u s1 ⟨x, H1, I1, rx, a, C, dx, fs, sp, ex, hS, ea, l, q⟩ => ?_) ht
  subst ex
  obtain rfl : u = Value.ref a := rx
  have HM := A C sp hS
  obtain ⟨g, fd, ps, hm, F, hb⟩ := HM.ex
  refine getmeth_ok I1 ea HM.cls hm l ?_
  refine PySem.W.callWith_K (first := [.ref a]) (h₀ := X.base) I.ok.mod.kin hm.kp (thn (ha.run pos pins s1 σ H1 _ I1 q) fun us s2 ⟨vs, H2, I2, r, q2⟩ => ⟨I2.kIn, ?_⟩) hst hpl
  exact run_fn (dvs := []) (ds := []) (E := E0) (us := .ref a :: us) (vs := .ref a :: vs) F hr hb .nil pass0 I2 (.cons rfl r) (by rw [List.append_nil]; exact q2)
theorem pe_methA0 {pl : Sem Bool} {S : Addr → Option Sp} (A : ∀ C sp, S C = some sp → HeldM X.prog X.w X.K X.mg X.base k m C sp) (he : PE X o ta) (hr : Room k X.A)
    (ht : eval (.Call (.Attribute o m apos) [] [] pos) X.env = (do
      let ov ← eval o X.env
      standAt apos.atName
      let (f, first) ← holding [ov] (getMethod ov m pl)
      callWith pos f first (backTo pos (starEach [] X.env)) (backToKw pos (keywordEach [] X.env))) := by rfl) :
    PE X (.Call (.Attribute o m apos) [] [] pos) (tMethA m S ta tNil) := by
  refine ⟨fun pins s σ H Q I h => ?_⟩
  refine PySem.W.methodCall_KW (pl := pl) (thn (he.run pins s σ H _ I h) fun u s1 ⟨x, H1, I1, rx, a, C, dx, fs, sp, ex, hS, ea, l, q⟩ => ?_) ht
  subst ex
  obtain rfl : u = Value.ref a := rx
  have HM := A C sp hS
  obtain ⟨g, fd, ps, hm, F, hb⟩ := HM.ex
  refine getmeth_ok I1 ea HM.cls hm l ?_
  exact PySem.W.callWith_K0 (first := [.ref a]) I1.kIn hm.kp (run_fn (dvs := []) (ds := []) (E := E0) (us := [.ref a]) (vs := [.ref a]) F hr hb .nil pass0 I1 (.cons rfl .nil) (by rw [List.append_nil]; exact q))
end
end D1
namespace L2
open PySem PySem.Spec PyProof.Rows PySem.VX
theorem FunD.asFun {K : PySem.W.Frag} {x qual : Str} {st : Stmt} {f : Addr} {fd : FuncData} (F : FunD K x qual (defArgs st) (defBody st) (defScope st) [] [] f fd) : Fun K x qual st f fd := by
  obtain ⟨oc, od, dV, kV, doc, pm, an, cdv, ct, osl, e, lk, hcd, hD, _⟩ := F.ex
  rcases hD with ⟨_, rfl⟩ | ⟨hn, _⟩
  · exact ⟨⟨oc, od, kV, doc, pm, an, cdv, ct, osl, e, lk, hcd⟩, F.kp⟩
  · exact absurd rfl hn
def shN : V → Str
  | .non => "None"
  | .int i => toString i
  | _ => ""
/-- repr(x), x None or a number -/
def rReprN : List V → Hp → VK → Prop := fun xs H Q => ∃ v, xs = [v] ∧ (v = .non ∨ ∃ i, v = .int i ∧ i.natAbs.log2 < 1920) ∧ Q (.str (shN v)) H
theorem call_reprN {X : Cx} : CallR X (.builtin "repr") rReprN := by
  intro pins s σ H xs us Q I r h
  obtain ⟨v, rfl, hv, q⟩ := h
  obtain ⟨u, rfl, ru⟩ := vals1 r
  rcases hv with rfl | ⟨i, rfl, hi⟩
  · obtain rfl : u = Value.none := ru
    exact PySem.P.repr_of_none ⟨.str "None", H, I.tok _, ⟨_, rfl⟩, q⟩
  · obtain ⟨t, rfl⟩ := ru
    exact PySem.P.repr_of_int hi ⟨.str _, H, I.tok _, ⟨_, rfl⟩, q⟩
end L2
namespace D1
open PySem L2
def Low (z : Str) : Prop := ∀ c ∈ z.cps.toList, c < 128
structure Shp (d : PyData) (k n : Nat) : Prop where
  fs : d.showable = true
  fn : d.hasDict = false
  fd : d.depth ≤ k
  fl : d.leavesShort 8 = true
  fw : d.weight ≤ n
structure ShpA (ds : List PyData) (k n : Nat) : Prop where
  fs : PyData.showableAll ds = true
  fn : PyData.hasDictAll ds = false
  fd : PyData.depthAll ds ≤ k
  fl : PyData.leavesShortAll 8 ds = true
  fw : PyData.weightAll ds ≤ n
theorem ShpA.nil {k n : Nat} : ShpA [] k n := ⟨rfl, rfl, by simp [PyData.depthAll], rfl, by simp [PyData.weightAll]⟩
theorem ShpA.cons {d : PyData} {ds : List PyData} {k n m p : Nat} (h : Shp d k n) (r : ShpA ds k m) (hp : n + 1 + m ≤ p) : ShpA (d :: ds) k p := by
  refine ⟨?_, ?_, ?_, ?_, ?_⟩
  · simp only [PyData.showableAll, h.fs, r.fs, Bool.and_self]
  · simp only [PyData.hasDictAll, h.fn, r.fn, Bool.or_self]
  · simp only [PyData.depthAll]
    exact Nat.max_le.mpr ⟨h.fd, r.fd⟩
  · simp only [PyData.leavesShortAll, h.fl, r.fl, Bool.and_self]
  · simp only [PyData.weightAll]
    have a := h.fw
    have b := r.fw
    omega
theorem Shp.list {ds : List PyData} {k n : Nat} (h : ShpA ds k n) : Shp (.list ds) (k + 1) n := ⟨h.fs, h.fn, Nat.succ_le_succ h.fd, h.fl, h.fw⟩
theorem Shp.tuple {ds : List PyData} {k n : Nat} (h : ShpA ds k n) : Shp (.tuple ds) (k + 1) n := ⟨h.fs, h.fn, Nat.succ_le_succ h.fd, h.fl, h.fw⟩
theorem Shp.none {k n : Nat} : Shp .none k n := ⟨rfl, rfl, by simp [PyData.depth], rfl, by simp [PyData.weight]⟩
theorem Shp.bool {b : Bool} {k n : Nat} : Shp (.bool b) k n := ⟨rfl, rfl, by simp [PyData.depth], rfl, by simp [PyData.weight]⟩
theorem Shp.str {z : Str} {k n : Nat} (h : Low z) (hn : z.length ≤ n) : Shp (.str z) k n := by
  refine ⟨rfl, rfl, by simp [PyData.depth], ?_, ?_⟩
  · simp only [PyData.leavesShort, List.all_eq_true, decide_eq_true_eq]
    exact fun c hc => Nat.lt_of_lt_of_le (h c hc) (by decide)
  · simp only [PyData.weight]
    exact hn
theorem ShpA.strs {k n m : Nat} : ∀ {zs : List Str}, (∀ z ∈ zs, Low z ∧ z.length ≤ n) → zs.length * (n + 1) ≤ m → ShpA (zs.map .str) k m
  | [], _, _ => .nil
  | z :: r, h, hm => by
    rw [List.length_cons, Nat.succ_mul] at hm
    exact ShpA.cons (.str (h z List.mem_cons_self).1 (h z List.mem_cons_self).2) (ShpA.strs (n := n) (m := r.length * (n + 1)) (fun y hy => h y (List.mem_cons_of_mem _ hy)) (Nat.le_refl _)) (by omega)
theorem Shp.fits {d : PyData} {k n : Nat} (h : Shp d k n) (hn : n ≤ 1600000) : d.shown.length ≤ sizeLine := by
  have a := PyData.shown_le 8 (by decide) d h.fl
  have b := h.fw
  rw [sizeLine_eq]
  omega
section
variable {K : PySem.W.Frag} {σ : L2.St} {H : Hp} {te ta : TE} {Q : VK}
/-- repr of data, as a reading -/
theorem rep_of {p : Addr} {d : PyData} {k n : Nat} (h : Dp K H (.ref p) d) (s : Shp d k n) (hk : k ≤ 60) (hn : n ≤ 1600000) (q : Q (.str d.shown) H) : rReprD K [.ref p] H Q :=
  ⟨p, d, rfl, h, s.fs, s.fn, Nat.le_trans s.fd hk, s.fits hn, q⟩
end
end D1
namespace L2
open PySem PySem.Spec PyProof.Rows
theorem ps_dead {X : Cx} {st : Stmt} : PS X st (fun _ _ _ => False) := ⟨fun _ _ _ _ _ _ h => h.elim⟩
end L2
namespace D1
open PySem L2 Evl RZ ClX PySem.VX
theorem turns_it {J : It} {n : Nat} {G : Hp → Prop} {Y : Nat → Hp → V → Hp → Prop} (w : Walk J n G Y) {Qd : Hp → Prop} {H1 : Hp} {B : V → Hp → (Hp → Prop) → Prop} (Pv : Nat → Hp → Prop) (h0 : Pv 0 H1) (hG : ∀ i H, i ≤ n → Pv i H → G H)
    (hs : ∀ i x H H', i < n → Pv i H → Y i H x H' → B x H' (Pv (i + 1))) (hd : ∀ H, Pv n H → Qd H) :
    ∃ W : Nat → Nat → Hp → Prop, (∃ m, W 0 m H1) ∧ ∀ i m H, W i m H → (J.stop i H ∧ Qd H) ∨ (J.go i H ∧ ∃ Nx : Hp → Prop, (∀ H', Nx H' → ∃ m', m' < m ∧ W (i + 1) m' H') ∧ ∀ x H', J.yld i H x H' → B x H' Nx) := by
  refine ⟨fun i m H => m = n - i ∧ i ≤ n ∧ Pv i H, ⟨n, by simp, Nat.zero_le _, h0⟩, ?_⟩
  rintro i m H ⟨rfl, hi, p⟩
  have q := hG i H hi p
  by_cases hlt : i < n
  · refine .inr ⟨w.goes i H hlt q, Pv (i + 1), fun H' p' => ⟨n - (i + 1), by omega, rfl, hlt, p'⟩, fun x H' y => hs i x H H' hlt p (w.yields i H x H' hlt q y)⟩
  · have e : i = n := by omega
    subst e
    exact .inl ⟨w.stops H q, hd H p⟩
theorem tyes_go {σ : L2.St} {H : Hp} {P : Bool → Hp → Prop} (h : P true H) : tYes σ H P := h
section
variable {K : PySem.W.Frag} {σ : L2.St} {H : Hp} {te ta tb tl tx : TE}
theorem ev_all {bs : List Bool} (h : EvL ta σ H (bs.map V.bl)) : Ev (tCB (rAll K) (tCons ta tNil)) σ H (.bl (bs.all id)) := fun H1 e Q q =>
  h H1 e _ fun p H2 _ e2 hp => ⟨p, bs, rfl, sq_of hp, q H2 e2⟩
theorem given_map (n : Nat) (g : Nat → Bool) : given n (fun _ => true) (fun i => V.bl (g i)) = (((List.range n).map g).map V.bl) := by
  unfold given
  rw [List.filter_eq_self.mpr (fun _ _ => rfl), List.map_map]
  rfl
theorem all_range (n : Nat) (g : Nat → Bool) : ((List.range n).map g).all id = (List.range n).all g := by
  rw [List.all_map]
  rfl
theorem ev_eqI {σ : L2.St} {H : Hp} {ta tb : TE} {x y : Int} (ha : Ev ta σ H (.int x)) (hb : Ev tb σ H (.int y)) : Ev (tOp rEq ta tb) σ H (.bl (x == y)) := by
  have h := ev_op ha hb (rv_eq (x := .int x) (y := .int y) rfl)
  rw [dec_int] at h
  exact h
theorem ev_isi {T U : String} {b : Bool} (hx : Ev tx σ H x) (ty : ∀ H1, Ex H H1 → TyX K H1 x (.type T)) (k : PySem.W.kitOne K (.type T) (.type U) = some b) (c : ClsV (.ty U) (.type U)) : Ev (tCB (rIsi K) (tCons tx (tCons (tC (.ty U)) tNil))) σ H (.bl b) := fun H1 e Q q =>
  hx H1 e _ fun H2 e2 => ⟨x, .ty U, .type T, .type U, b, rfl, c, ty H2 (e.trans e2), k, q H2 e2⟩
theorem ev_lenT {p : Addr} {ys : List V} (hx : Ev tx σ H (.ref p)) (h : SqT K H p ys) : Ev (tCB (fun xs H Q => ∃ p ys, xs = [V.ref p] ∧ (SqL K H p ys ∨ SqT K H p ys) ∧ Q (.int ys.length) H) (tCons tx tNil)) σ H (.int ys.length) := fun H1 e Q q =>
  hx H1 e _ fun H2 e2 => ⟨p, ys, rfl, .inr (ex_t (e.trans e2) h), q H2 e2⟩
theorem ev_neI {ta tb : TE} {a b : Int} (ha : Ev ta σ H (.int a)) (hb : Ev tb σ H (.int b)) : Ev (tOp rNe ta tb) σ H (.bl (!(a == b))) := by
  have h := ev_op ha hb (show RV rNe (.int a) (.int b) H (.bl (!decide (V.int a = V.int b))) from fun H1 _ _ q => ⟨rfl, q H1 (Ex.refl H1)⟩)
  rw [dec_int] at h
  exact h
theorem tup_ty {H : Hp} {a : Addr} {xs : List V} (h : H a = some (.tup xs)) : ∀ H1, Ex H H1 → TyX K H1 (.ref a) (.type "tuple") := fun H1 e => .base (.tup (e _ _ h))
theorem kit_tt : PySem.W.kitOne K (.type "tuple") (.type "tuple") = some true := kit_ty (show kitB _ _ = some true by decide +kernel)
theorem kit_ii : PySem.W.kitOne K (.type "int") (.type "int") = some true := kit_ty (show kitB _ _ = some true by decide +kernel)
theorem kit_ib : PySem.W.kitOne K (.type "int") (.type "bool") = some false := kit_ty (show kitB _ _ = some false by decide +kernel)
theorem kit_ss : PySem.W.kitOne K (.type "str") (.type "str") = some true := kit_ty (show kitB _ _ = some true by decide +kernel)
/-- [e for x in t], t a tuple -/
theorem el_lcT {a : Addr} {xs : List V} {j : Nat} {vs : List Nat} (v : Nat → V) (h : Ev tl σ H (.ref a)) (hx : SqT K H a xs) (hz : xs.length ≤ 40000) (hw : ∀ x, wipe ((wipe σ vs).set j (some x)) vs = wipe σ vs)
    (he : ∀ (i : Nat) (x : V) H1, Ex H H1 → xs[i]? = some x → Ev te ((wipe σ vs).set j (some x)) H1 (v i)) :
    EvL (tLc (iTup K tl) (gName j) tYes te vs) σ H (given xs.length (fun _ => true) v) := fun H0 e Q q => h H0 e _ fun H1 e1 => ⟨a, rfl, ⟨xs, ex_t (e.trans e1) hx⟩, fun Dl hD =>
  lc_it (walk_tup (xs := xs)) (Cw H1 (fun _ => true) v Dl) ⟨hD, Ex.new hD, upd_same⟩ (fun i H' _ p => ex_t ((e.trans e1).trans p.2.1) hx) (fun i x H5 H6 hi p y => by
    obtain ⟨rfl, hx⟩ := y
    exact ⟨hw _, cw_turn (f := fun _ => true) p (by omega) (fun H4 _ Q' q => q H4 (Ex.refl H4)) (fun _ => he i x H1 (e.trans e1) hx)⟩) (fun H' p => q Dl H' (fresh_back e1 p.1) (e1.trans p.2.1) p.2.2)⟩
def within (a b i : Int) : Bool := decide (a ≤ i) && decide (i ≤ b)
theorem ev_chainLe {ta tb tc : TE} {a b c : Int} (ha : Ev ta σ H (.int a)) (hb : Ev tb σ H (.int b)) (hc : Ev tc σ H (.int c)) : Ev (tChain (rI0 fun i j => .bl (decide (i ≤ j))) (rI0 fun i j => .bl (decide (i ≤ j))) ta tb tc) σ H (.bl (within a c b)) := fun H1 e Q q =>
  ha H1 e _ fun H2 e2 => hb H2 (e.trans e2) _ fun H3 e3 => ⟨a, b, rfl, rfl, _, rfl, by
    unfold within at q
    cases hk : decide (a ≤ b) with
    | true =>
      rw [hk, Bool.true_and] at q
      refine yes_of rfl (hc H3 ((e.trans e2).trans e3) _ fun H4 e4 => ⟨b, c, rfl, rfl, q H4 ((e2.trans e3).trans e4)⟩)
    | false =>
      rw [hk, Bool.false_and] at q
      exact no_of rfl (q H3 (e2.trans e3))⟩
/-- all([e for x in t]) -/
theorem ev_allT {a : Addr} {xs : List V} {j : Nat} {vs : List Nat} (g : Nat → Bool) (h : Ev tl σ H (.ref a)) (hx : SqT K H a xs) (hz : xs.length ≤ 40000) (hw : ∀ x, wipe ((wipe σ vs).set j (some x)) vs = wipe σ vs)
    (he : ∀ (i : Nat) (x : V) H1, Ex H H1 → xs[i]? = some x → Ev te ((wipe σ vs).set j (some x)) H1 (.bl (g i))) :
    Ev (tCB (rAll K) (tCons (tLc (iTup K tl) (gName j) tYes te vs) tNil)) σ H (.bl ((List.range xs.length).all g)) := by
  have h1 := el_lcT (fun i => V.bl (g i)) h hx hz hw he
  rw [given_map] at h1
  have h2 := ev_all (K := K) h1
  rw [all_range] at h2
  exact h2
theorem all_rangeD {α : Type} {f : α → Bool} {d : α} (l : List α) : ((List.range l.length).all fun i => f (l.getD i d)) = l.all f := by
  rw [Bool.eq_iff_iff, List.all_eq_true, List.all_eq_true]
  constructor
  · intro h x hx
    obtain ⟨i, hi, rfl⟩ := List.mem_iff_getElem.mp hx
    have := h i (List.mem_range.mpr hi)
    rw [List.getD_eq_getElem?_getD, List.getElem?_eq_getElem hi] at this
    exact this
  · intro h i hi
    have hi2 := List.mem_range.mp hi
    rw [List.getD_eq_getElem?_getD, List.getElem?_eq_getElem hi2]
    exact h _ (List.getElem_mem hi2)
end
section
variable {K : PySem.W.Frag} {σ : L2.St} {H : Hp} {te ta tb tl tx : TE}
theorem ev_eqS {σ : L2.St} {H : Hp} {ta tb : TE} {x y : Str} (ha : Ev ta σ H (.str x)) (hb : Ev tb σ H (.str y)) : Ev (tOp rEq ta tb) σ H (.bl (x == y)) := by
  have h := ev_op ha hb (rv_eq (x := .str x) (y := .str y) rfl)
  rw [dec_str] at h
  exact h
theorem ev_gtI {σ : L2.St} {H : Hp} {ta tb : TE} {x y : Int} (ha : Ev ta σ H (.int x)) (hb : Ev tb σ H (.int y)) : Ev (tOp (rI0 fun i j => .bl (decide (j < i))) ta tb) σ H (.bl (decide (y < x))) := ev_op ha hb rv_I0
theorem ev_rep {K : PySem.W.Frag} {σ : L2.St} {H : Hp} {te : TE} {p : Addr} {d : PyData} {k n : Nat} (h : Ev te σ H (.ref p)) (dp : ∀ H1, Ex H H1 → Dp K H1 (.ref p) d) (s : Shp d k n) (hk : k ≤ 60) (hn : n ≤ 1600000) : Ev (tCB (rReprD K) (tCons te tNil)) σ H (.str d.shown) := fun H1 e Q q =>
  h H1 e _ fun H2 e2 => rep_of (dp H2 (e.trans e2)) s hk hn (q H2 e2)
theorem ev_isi0 {K : PySem.W.Frag} {σ : L2.St} {H : Hp} {tx : TE} {x : V} {t u : Value} {U : String} {b : Bool} (hx : Ev tx σ H x) (ty : ∀ H1, Ex H H1 → TyX K H1 x t) (k : PySem.W.kitOne K t u = some b) (c : ClsV (.ty U) u) : Ev (tCB (rIsi K) (tCons tx (tCons (tC (.ty U)) tNil))) σ H (.bl b) := fun H1 e Q q =>
  hx H1 e _ fun H2 e2 => ⟨x, .ty U, t, u, b, rfl, c, ty H2 (e.trans e2), k, q H2 e2⟩
theorem ev_neS {σ : L2.St} {H : Hp} {ta tb : TE} {x : Str} (ha : Ev ta σ H (.str x)) (hb : Ev tb σ H (.str x)) : Ev (tOp rNe ta tb) σ H (.bl false) := ev_op ha hb fun H1 _ Q q => ⟨rfl, by rw [decide_eq_true rfl]; exact q H1 (Ex.refl H1)⟩
theorem ev_isiC {x c : V} {t u : Value} {b : Bool} (hx : Ev tx σ H x) (ty : ∀ H1, Ex H H1 → TyX K H1 x t) (k : PySem.W.kitOne K t u = some b) (cc : ClsV c u) : Ev (tCB (rIsi K) (tCons tx (tCons (tC c) tNil))) σ H (.bl b) := fun H1 e Q q =>
  hx H1 e _ fun H2 e2 => ⟨x, c, t, u, b, rfl, cc, ty H2 (e.trans e2), k, q H2 e2⟩
end
def EvD (K : PySem.W.Frag) (te : TE) (σ : L2.St) (H : Hp) (d : PyData) : Prop := ∀ H1, Ex H H1 → ∀ Q : VK, (∀ p H2, Ex H1 H2 → Dp K H2 (.ref p) d → Q (.ref p) H2) → te σ H1 Q
theorem Dp.exD {K : PySem.W.Frag} {H : Hp} {p : Addr} {vs : List V} {ds : List PyData} (h : H p = some (.lst vs)) (hd : DpAll K H vs ds) : Dp K H (.ref p) (.list ds) := .lst (.inl (.inl h)) hd
section
variable {K : PySem.W.Frag} {σ : L2.St} {H : Hp} {te ta tb : TE} {tt : TT} {d : PyData}
theorem evd_L {vs : List V} {ds : List PyData} (h : EvL te σ H vs) (hd : ∀ H1, DpAll K H1 vs ds) : EvD K te σ H (.list ds) := fun H1 e Q q => h H1 e Q fun p H2 _ e2 h2 => q p H2 e2 (.lst (.inl (.inl h2)) (hd H2))
theorem evd_U {vs : List V} {ds : List PyData} (h : EvU te σ H vs) (hd : ∀ H1, DpAll K H1 vs ds) : EvD K te σ H (.tuple ds) := fun H1 e Q q => h H1 e Q fun p H2 _ e2 h2 => q p H2 e2 (.tup (.inl (.inl h2)) (hd H2))
theorem evd_var {i : Nat} {p : Addr} (hi : σ[i]? = some (some (.ref p))) (hd : ∀ H1, Ex H H1 → Dp K H1 (.ref p) d) : EvD K (tVar i) σ H d := fun H1 e Q q => ⟨_, hi, q p H1 (Ex.refl H1) (hd H1 e)⟩
theorem evd_if {b : Bool} (h : EvT tt σ H b) (h1 : b = true → EvD K ta σ H d) (h2 : b = false → EvD K tb σ H d) : EvD K (tIf tt ta tb) σ H d := fun H1 e Q q => h H1 e _ fun H2 e2 => by
  cases b with
  | true =>
    show ta σ H2 Q
    exact h1 rfl H2 (e.trans e2) Q fun p H3 e3 => q p H3 (e2.trans e3)
  | false =>
    show tb σ H2 Q
    exact h2 rfl H2 (e.trans e2) Q fun p H3 e3 => q p H3 (e2.trans e3)
theorem ev_repD {k n : Nat} (h : EvD K te σ H d) (s : Shp d k n) (hk : k ≤ 60) (hn : n ≤ 1600000) : Ev (tCB (rReprD K) (tCons te tNil)) σ H (.str d.shown) := fun H1 e Q q =>
  h H1 e _ fun p H2 e2 hd => rep_of hd s hk hn (q H2 e2)
/-- what is told, and what is due: alike -/
theorem ev_neRep {k n : Nat} (h : EvD K ta σ H d) (h' : EvD K tb σ H d) (s : Shp d k n) (hk : k ≤ 60) (hn : n ≤ 1600000) : Ev (tOp rNe (tCB (rReprD K) (tCons ta tNil)) (tCB (rReprD K) (tCons tb tNil))) σ H (.bl false) := ev_neS (ev_repD h s hk hn) (ev_repD h' s hk hn)
theorem ev_eqRep {k n : Nat} (h : EvD K ta σ H d) (h' : EvD K tb σ H d) (s : Shp d k n) (hk : k ≤ 60) (hn : n ≤ 1600000) : Ev (tOp rEq (tCB (rReprD K) (tCons ta tNil)) (tCB (rReprD K) (tCons tb tNil))) σ H (.bl true) := by
  have x := ev_eqS (ev_repD h s hk hn) (ev_repD h' s hk hn)
  rw [beq_self_eq_true] at x
  exact x
end
theorem low_of_dec {z : Str} (h : z.cps.toList.all (fun c => decide (c < 128)) = true) : Low z := fun c hc => of_decide_eq_true (List.all_eq_true.mp h c hc)
theorem Shp.up {d : PyData} {k k' n n' : Nat} (h : Shp d k n) (hk : k ≤ k') (hn : n ≤ n') : Shp d k' n' := ⟨h.fs, h.fn, Nat.le_trans h.fd hk, h.fl, Nat.le_trans h.fw hn⟩
section
variable {K : PySem.W.Frag} {H : Hp}
theorem dp_ints2 : ∀ row : List Int, DpAll K H (row.map V.int) (row.map PyData.int)
  | [] => .nil
  | _ :: r => .cons (.int _) (dp_ints2 r)
end
theorem asg_step {i : Nat} {te : TE} {z : TS} {D : Ends} {σ : L2.St} {H : Hp} (h : te σ H fun x H1 => z D (σ.set i (some x)) H1) : tSeq (tAsg te (gName i)) z D σ H := h
theorem ret_ix {r : R2} {te ti : TE} {t : TA} {D : Ends} {σ : L2.St} {H : Hp} (h : te σ H fun x H1 => t σ H1 fun xs H2 => (x :: xs).length ≤ sizeLine ∧ ∀ p, H2 p = none → ti σ (upd H2 p (.lst (x :: xs))) fun y H3 => r (.ref p) y H3 D.rt) : tRet (tOp r (tLst (tCons te t)) ti) D σ H := h
theorem asg_to {i : Nat} {te : TE} {z : TS} {D : Ends} {σ : L2.St} {H : Hp} (h : te σ H fun x H1 => ∃ σ', σ.set i (some x) = σ' ∧ z D σ' H1) : tSeq (tAsg te (gName i)) z D σ H := by
  have e : (fun x H1 => ∃ σ', σ.set i (some x) = σ' ∧ z D σ' H1) = fun x H1 => z D (σ.set i (some x)) H1 := by
    funext x H1
    exact propext ⟨fun ⟨_, e, h⟩ => e ▸ h, fun h => ⟨_, rfl, h⟩⟩
  rw [e] at h
  exact h
structure OkC (K : PySem.W.Frag) (C : Addr) : Prop where
  cls : Cls K C
  no : ∀ f ∈ fields, NoAttr K C f
/-- all but a stays -/
def Only (a : Addr) (H H' : Hp) : Prop := ∀ b o, b ≠ a → H b = some o → H' b = some o
theorem Only.upd {a : Addr} {H H1 : Hp} {o : HO} (h : Only a H H1) : Only a H (upd H1 a o) := fun b u n e => by
  rw [upd_ne n]
  exact h b u n e
theorem Only.refl {a : Addr} {H : Hp} : Only a H H := fun _ _ _ e => e
theorem Only.ex {a : Addr} {H H1 H2 : Hp} (h : Only a H H1) (e : Ex H1 H2) : Only a H H2 := fun b u n k => e _ _ (h b u n k)
theorem Only.trans {a : Addr} {H H1 H2 : Hp} (h : Only a H H1) (k : Only a H1 H2) : Only a H H2 := fun b u n e => k b u n (h b u n e)
/-- Base.__init__ read off the class -/
structure BaseI (K : PySem.W.Frag) (mg : Str → Option Value) (x : Str) (g : Addr) : Prop where
  ex : ∃ (C : Addr) (mc : Value), mg x = some (.ref C) ∧ CRead K C mc ∧ CVal K C mc "__init__" (.ref g) (.ref g)
theorem put_len (f : Str) (v : V) : ∀ fs : List (Str × V), (putF f v fs).length ≤ fs.length + 1
  | [] => Nat.le_refl _
  | (g, x) :: r => by
    unfold putF
    split
    · simp
    · have := put_len f v r
      simp only [List.length_cons]
      omega
theorem made_ex {H H' : Hp} {x dx C : Addr} (nx : H x = none) (ndx : H dx = none) (o : Only x (upd (upd H dx (.own x)) x (.ins C dx [])) H') : Ex H H' := fun b u e => o b u (ne_of_none e nx) (by rw [upd_ne (ne_of_none e nx), upd_ne (ne_of_none e ndx)]; exact e)
theorem new_ex {H : Hp} {x dx C : Addr} (nx : H x = none) (ndx : H dx = none) : Ex H (upd (upd H dx (.own x)) x (.ins C dx [])) := made_ex nx ndx Only.refl
theorem rv_notB {a b : Bool} : RV rNotB (.bl a) (.bl b) H (.bl (!decide (a = b))) := fun H1 _ Q q => ⟨a, b, rfl, rfl, q H1 (Ex.refl H1)⟩
theorem rv_isB {a b : Bool} : RV rIsB (.bl a) (.bl b) H (.bl (decide (a = b))) := fun H1 _ Q q => ⟨a, b, rfl, rfl, q H1 (Ex.refl H1)⟩
def rRepI : List V → Hp → VK → Prop := fun xs H Q => ∃ i : Int, xs = [.int i] ∧ i.natAbs.log2 < 1920 ∧ Q (.str (toString i)) H
section
variable {K : PySem.W.Frag} {σ : L2.St} {H : Hp} {te ta tb tl tx : TE}
theorem ev_repI {i : Int} (h : Ev te σ H (.int i)) (hs : i.natAbs.log2 < 1920) : Ev (tCB rRepI (tCons te tNil)) σ H (.str (toString i)) := fun H1 e Q q => h H1 e _ fun H2 e2 => ⟨i, rfl, hs, q H2 e2⟩
/-- two new tuples of flat data: unlike, or not -/
theorem ev_neU {vs us : List V} {ds es : List PyData} (h : EvU ta σ H vs) (h' : EvU tb σ H us) (hd : ∀ H1, DpAll K H1 vs ds) (he : ∀ H1, DpAll K H1 us es) (sd : SeqAt.shaped (.tuple ds) = true) (se : SeqAt.shaped (.tuple es) = true) :
    Ev (tOp (rNeD K) ta tb) σ H (.bl (!PyData.eqv (.tuple ds) (.tuple es))) := ev_opUU h h' fun p q H1 hp hq _ H2 e2 Q k => ⟨.tuple ds, .tuple es, .tup (.inl (.inl (e2 _ _ hp))) (hd H2), .tup (.inl (.inl (e2 _ _ hq))) (he H2), sd, se, k H2 (Ex.refl H2)⟩
end
end D1
namespace D1
open PySem L2 Evl RZ ClX PySem.VX
/-- isinstance(e, c) within the suite that holds e -/
def rIsX (K : PySem.W.Frag) (cls : Value) (d : Option Addr) (a : Addr) : List V → Hp → VK → Prop := fun xs H Q => ∃ (C dd : Addr) (fs : List (Str × V)) (c : V) (cv : Value) (b : Bool), xs = [.ref a, c] ∧ cls = .ref C ∧ d = some dd ∧ H dd = some (.xd fs) ∧ ExcC K C ∧ (∀ u, RelV c u → u = cv) ∧ PySem.W.kitOne K (.ref C) cv = some b ∧ Q (.bl b) H
theorem call_isX {X : Cx} {a : Addr} {oe : Obj} {cls : Value} {d : Option Addr} {pn : List (Addr × Obj)} (hz : Zc cls d oe) (hf : ∃ vs, oe.data = .fields vs) : CallR (X.suite a ((a, oe) :: pn)) (.builtin "isinstance") (rIsX X.K cls d a) := by
  intro pins s σ H xs us Q I r h
  obtain ⟨C, dd, fs, c, cv, b, rfl, ec, ed, hdd, T, hcv, e, q⟩ := h
  subst ec
  subst ed
  obtain ⟨u, u2, rfl, ru, r2⟩ := vals2 r
  obtain rfl : u = Value.ref a := ru
  have ec := hcv _ r2
  subst ec
  obtain ⟨ha, _⟩ := I.pin (a, oe) (List.mem_append_left _ List.mem_cons_self)
  obtain ⟨vs, hd⟩ := hf
  have hx : ObjOk X.prog X.w H s.heap dd (.xd fs) := I.hok dd _ hdd
  obtain ⟨mA, hns, hr⟩ := hx
  obtain ⟨od, ho, hl⟩ := lookIn_ns hns
  have J : PySem.W.InstAt s.heap a oe C (some od) := ⟨ha, hz.1, by unfold PySem.W.notCls; rw [hd] <;> rfl, by rw [hz.2]; exact ho⟩
  have hcl : (PySem.W.clsIn X.K C).isSome = true := by
    obtain ⟨cd, hc, _⟩ := PySem.W.any_some T.hd
    rw [hc]
    rfl
  exact PySem.W.kia_one (PySem.W.kitx_exc hcl T.hg T.hk T.hs T.ha T.hn T.ht T.hm) I.kIn J e (fun z => nomatch z) fun tk => ⟨.bl b, H, I.kept (t' := tk) fun _ _ z => z, rfl, q⟩
end D1
end
section
set_option Elab.async false
set_option linter.all false
set_option maxRecDepth 100000
set_option maxHeartbeats 4000000
/-! R0: data as it lies; kinds of rings -/
namespace D1
open PySem L2 Evl RZ ClX PySem.VX
mutual
inductive DtAt (H : Hp) : V → PyData → Prop
  | non : DtAt H .non .none
  | bl (b : Bool) : DtAt H (.bl b) (.bool b)
  | int (i : Int) : DtAt H (.int i) (.int i)
  | str (z : Str) : DtAt H (.str z) (.str z)
  | tup {a : Addr} {us : List V} {ds : List PyData} (h : H a = some (.tup us)) (r : DtAll H us ds) : DtAt H (.ref a) (.tuple ds)
inductive DtAll (H : Hp) : List V → List PyData → Prop
  | nil : DtAll H [] []
  | cons {v : V} {us : List V} {d : PyData} {ds : List PyData} (h : DtAt H v d) (r : DtAll H us ds) : DtAll H (v :: us) (d :: ds)
end
/-- tuples and instances stay -/
def stays : HO → Bool
  | .tup _ => true
  | .ins _ _ _ => true
  | _ => false
def Kp (H H' : Hp) : Prop := ∀ a o, stays o = true → H a = some o → H' a = some o
theorem Kp.ex {H H' : Hp} (e : Ex H H') : Kp H H' := fun a o _ h => e a o h
theorem Kp.refl (H : Hp) : Kp H H := fun _ _ _ h => h
theorem Kp.trans {H H1 H2 : Hp} (a : Kp H H1) (b : Kp H1 H2) : Kp H H2 := fun x o s h => b x o s (a x o s h)
theorem Kp.tup {H H' : Hp} (k : Kp H H') {a : Addr} {us : List V} (h : H a = some (.tup us)) : H' a = some (.tup us) := k a _ rfl h
theorem Kp.ins {H H' : Hp} (k : Kp H H') {a C dx : Addr} {fs : List (Str × V)} (h : H a = some (.ins C dx fs)) : H' a = some (.ins C dx fs) := k a _ rfl h
mutual
theorem DtAt.kp' {H H' : Hp} (k : Kp H H') : ∀ (d : PyData) (v : V), DtAt H v d → DtAt H' v d
  | .tuple ds, _, h => by
    cases h with
    | tup h r => exact .tup (k.tup h) (DtAll.kp' k ds _ r)
  | .none, _, h => by
    cases h
    exact .non
  | .bool _, _, h => by
    cases h
    exact .bl _
  | .int _, _, h => by
    cases h
    exact .int _
  | .str _, _, h => by
    cases h
    exact .str _
  | .list _, _, h => by cases h
  | .dict _, _, h => by cases h
theorem DtAll.kp' {H H' : Hp} (k : Kp H H') : ∀ (ds : List PyData) (us : List V), DtAll H us ds → DtAll H' us ds
  | [], _, h => by
    cases h
    exact .nil
  | d :: ds, _, h => by
    cases h with
    | cons h r => exact .cons (DtAt.kp' k d _ h) (DtAll.kp' k ds _ r)
end
theorem DtAt.kp {H H' : Hp} {v : V} {d : PyData} (h : DtAt H v d) (k : Kp H H') : DtAt H' v d := DtAt.kp' k d v h
theorem DtAll.kp {H H' : Hp} {v : List V} {d : List PyData} (h : DtAll H v d) (k : Kp H H') : DtAll H' v d := DtAll.kp' k d v h
theorem DtAt.ex {H H' : Hp} {v : V} {d : PyData} (h : DtAt H v d) (e : Ex H H') : DtAt H' v d := h.kp (.ex e)
theorem DtAll.ex {H H' : Hp} {v : List V} {d : List PyData} (h : DtAll H v d) (e : Ex H H') : DtAll H' v d := h.kp (.ex e)
mutual
theorem DtAt.dp' {K : PySem.W.Frag} {H : Hp} : ∀ (d : PyData) (v : V), DtAt H v d → Dp K H v d
  | .tuple ds, _, h => by
    cases h with
    | tup h r => exact .tup (.inl (.inl h)) (DtAll.dp' ds _ r)
  | .none, _, h => by
    cases h
    exact .non
  | .bool _, _, h => by
    cases h
    exact .bl _
  | .int _, _, h => by
    cases h
    exact .int _
  | .str _, _, h => by
    cases h
    exact .str _
  | .list _, _, h => by cases h
  | .dict _, _, h => by cases h
theorem DtAll.dp' {K : PySem.W.Frag} {H : Hp} : ∀ (ds : List PyData) (us : List V), DtAll H us ds → DpAll K H us ds
  | [], _, h => by
    cases h
    exact .nil
  | d :: ds, _, h => by
    cases h with
    | cons h r => exact .cons (DtAt.dp' d _ h) (DtAll.dp' ds _ r)
end
theorem DtAt.dp {K : PySem.W.Frag} {H : Hp} {v : V} {d : PyData} (h : DtAt H v d) : Dp K H v d := DtAt.dp' d v h
theorem DtAll.dp {K : PySem.W.Frag} {H : Hp} {v : List V} {d : List PyData} (h : DtAll H v d) : DpAll K H v d := DtAll.dp' d v h
theorem DtAll.len {H : Hp} : ∀ {us : List V} {ds : List PyData}, DtAll H us ds → us.length = ds.length
  | _, [], h => by
    cases h
    rfl
  | _, _ :: _, h => by
    cases h with
    | cons h r => rw [List.length_cons, List.length_cons, DtAll.len r]
theorem DtAll.get {H : Hp} : ∀ {us : List V} {ds : List PyData}, DtAll H us ds → ∀ {i : Nat} {v : V}, us[i]? = some v → ∃ d, ds[i]? = some d ∧ DtAt H v d
  | _, [], h, i, v, hv => by
    cases h
    simp at hv
  | _, d :: ds, h, i, v, hv => by
    cases h with
    | cons h r =>
      cases i with
      | zero =>
        simp at hv
        subst hv
        exact ⟨d, rfl, h⟩
      | succ i => exact DtAll.get r (i := i) (by simpa using hv)
theorem DtAll.get' {H : Hp} : ∀ {us : List V} {ds : List PyData}, DtAll H us ds → ∀ {i : Nat} {d : PyData}, ds[i]? = some d → ∃ v, us[i]? = some v ∧ DtAt H v d
  | _, [], h, i, v, hv => by simp at hv
  | _, d :: ds, h, i, v, hv => by
    cases h with
    | cons h r =>
      cases i with
      | zero =>
        simp at hv
        subst hv
        exact ⟨_, rfl, h⟩
      | succ i => exact DtAll.get' r (i := i) (by simpa using hv)
theorem DtAll.append {H : Hp} : ∀ {us vs : List V} {ds es : List PyData}, DtAll H us ds → DtAll H vs es → DtAll H (us ++ vs) (ds ++ es)
  | _, _, [], _, h, h' => by
    cases h
    exact h'
  | _, _, _ :: _, _, h, h' => by
    cases h with
    | cons h r => exact .cons h (DtAll.append r h')
theorem DtAt.two {H : Hp} {v : V} {x y : PyData} (h : DtAt H v (.tuple [x, y])) : ∃ a u w, v = .ref a ∧ H a = some (.tup [u, w]) ∧ DtAt H u x ∧ DtAt H w y := by
  cases h with
  | tup h r =>
    cases r with
    | cons h1 r =>
      cases r with
      | cons h2 r =>
        cases r
        exact ⟨_, _, _, rfl, h, h1, h2⟩
theorem DtAt.three {H : Hp} {v : V} {x y z : PyData} (h : DtAt H v (.tuple [x, y, z])) : ∃ a u w t, v = .ref a ∧ H a = some (.tup [u, w, t]) ∧ DtAt H u x ∧ DtAt H w y ∧ DtAt H t z := by
  cases h with
  | tup h r =>
    cases r with
    | cons h1 r =>
      cases r with
      | cons h2 r =>
        cases r with
        | cons h3 r =>
          cases r
          exact ⟨_, _, _, _, rfl, h, h1, h2, h3⟩
theorem DtAt.one {H : Hp} {v : V} {x : PyData} (h : DtAt H v (.tuple [x])) : ∃ a u, v = .ref a ∧ H a = some (.tup [u]) ∧ DtAt H u x := by
  cases h with
  | tup h r =>
    cases r with
    | cons h1 r =>
      cases r
      exact ⟨_, _, rfl, h, h1⟩
theorem DtAt.int_inv {H : Hp} {v : V} {i : Int} (h : DtAt H v (.int i)) : v = .int i := by
  cases h
  rfl
theorem DtAt.str_inv {H : Hp} {v : V} {i : Str} (h : DtAt H v (.str i)) : v = .str i := by
  cases h
  rfl
theorem DtAt.bl_inv {H : Hp} {v : V} {i : Bool} (h : DtAt H v (.bool i)) : v = .bl i := by
  cases h
  rfl
/-- a new tuple of data -/
theorem DtAt.new {H : Hp} {p : Addr} {us : List V} {ds : List PyData} (hp : H p = none) (r : DtAll H us ds) : DtAt (upd H p (.tup us)) (.ref p) (.tuple ds) := .tup upd_same (r.ex (Ex.new hp))
/-! ### what isinstance tells of data -/
def dInt : PyData → Bool
  | .int _ => true
  | _ => false
def dIB : PyData → Bool
  | .int _ => true
  | .bool _ => true
  | _ => false
def dBl : PyData → Bool
  | .bool _ => true
  | _ => false
def dTx : PyData → Bool
  | .str _ => true
  | _ => false
def dTu : PyData → Bool
  | .tuple _ => true
  | _ => false
theorem kk {K : PySem.W.Frag} (T U : String) {b : Bool} (h : kitB T U = some b) : PySem.W.kitOne K (.type T) (.type U) = some b := kit_ty h
/-- of a known kind -/
structure Tells (K : PySem.W.Frag) (H : Hp) (v : V) (int bool str tup lst : Bool) : Prop where
  ex : ∃ t : Value, (∀ H1, Ex H H1 → TyX K H1 v t) ∧ PySem.W.kitOne K t (.type "int") = some int ∧ PySem.W.kitOne K t (.type "bool") = some bool ∧ PySem.W.kitOne K t (.type "str") = some str ∧ PySem.W.kitOne K t (.type "tuple") = some tup ∧ PySem.W.kitOne K t (.type "list") = some lst
section
variable {K : PySem.W.Frag} {H H' : Hp}
theorem Tells.up {v : V} {a b c d e : Bool} (h : Tells K H v a b c d e) (x : Ex H H') : Tells K H' v a b c d e := by
  obtain ⟨t, h1, h2⟩ := h
  exact ⟨t, fun H1 e1 => h1 H1 (x.trans e1), h2⟩
theorem tl_int (i : Int) : Tells K H (.int i) true false false false false := ⟨.type "int", fun _ _ => .base (.int i), kk (b := true) "int" "int" (by decide +kernel), kk (b := false) "int" "bool" (by decide +kernel), kk (b := false) "int" "str" (by decide +kernel), kk (b := false) "int" "tuple" (by decide +kernel), kk (b := false) "int" "list" (by decide +kernel)⟩
theorem tl_bl (i : Bool) : Tells K H (.bl i) true true false false false := ⟨.type "bool", fun _ _ => .base (.bl i), kk (b := true) "bool" "int" (by decide +kernel), kk (b := true) "bool" "bool" (by decide +kernel), kk (b := false) "bool" "str" (by decide +kernel), kk (b := false) "bool" "tuple" (by decide +kernel), kk (b := false) "bool" "list" (by decide +kernel)⟩
theorem tl_non : Tells K H .non false false false false false := ⟨.type "NoneType", fun _ _ => .base .non, kk (b := false) "NoneType" "int" (by decide +kernel), kk (b := false) "NoneType" "bool" (by decide +kernel), kk (b := false) "NoneType" "str" (by decide +kernel), kk (b := false) "NoneType" "tuple" (by decide +kernel), kk (b := false) "NoneType" "list" (by decide +kernel)⟩
theorem tl_str (z : Str) : Tells K H (.str z) false false true false false := ⟨.type "str", fun _ _ => .base (.str z), kk (b := false) "str" "int" (by decide +kernel), kk (b := false) "str" "bool" (by decide +kernel), kk (b := true) "str" "str" (by decide +kernel), kk (b := false) "str" "tuple" (by decide +kernel), kk (b := false) "str" "list" (by decide +kernel)⟩
theorem tl_tup {a : Addr} {xs : List V} (h : H a = some (.tup xs)) : Tells K H (.ref a) false false false true false := ⟨.type "tuple", fun _ e => .base (.tup (e _ _ h)), kk (b := false) "tuple" "int" (by decide +kernel), kk (b := false) "tuple" "bool" (by decide +kernel), kk (b := false) "tuple" "str" (by decide +kernel), kk (b := true) "tuple" "tuple" (by decide +kernel), kk (b := false) "tuple" "list" (by decide +kernel)⟩
theorem tl_lst {a : Addr} {xs : List V} (h : H a = some (.lst xs)) : Tells K H (.ref a) false false false false true := ⟨.type "list", fun _ e => .base (.lst (e _ _ h)), kk (b := false) "list" "int" (by decide +kernel), kk (b := false) "list" "bool" (by decide +kernel), kk (b := false) "list" "str" (by decide +kernel), kk (b := false) "list" "tuple" (by decide +kernel), kk (b := true) "list" "list" (by decide +kernel)⟩
theorem tl_dic {a : Addr} {xs : List (Key × V)} (h : H a = some (.dK xs)) : Tells K H (.ref a) false false false false false := ⟨.type "dict", fun _ e => .base (.dK (e _ _ h)), kk (b := false) "dict" "int" (by decide +kernel), kk (b := false) "dict" "bool" (by decide +kernel), kk (b := false) "dict" "str" (by decide +kernel), kk (b := false) "dict" "tuple" (by decide +kernel), kk (b := false) "dict" "list" (by decide +kernel)⟩
theorem DtAt.tells {v : V} {d : PyData} (h : DtAt H v d) : Tells K H v (dIB d) (dBl d) (dTx d) (dTu d) false := by
  cases h with
  | non => exact tl_non
  | bl b => exact tl_bl b
  | int i => exact tl_int i
  | str z => exact tl_str z
  | tup h r => exact tl_tup h
variable {σ : L2.St} {te : TE} {v : V} {a b c d e : Bool}
theorem ev_tInt (h : Ev te σ H v) (t : Tells K H v a b c d e) : Ev (tCB (rIsi K) (tCons te (tCons (tC (.ty "int")) tNil))) σ H (.bl a) := by
  obtain ⟨t, h1, h2, h3, h4, h5, h6⟩ := t
  exact ev_isi0 h h1 h2 (.ty "int")
theorem ev_tBool (h : Ev te σ H v) (t : Tells K H v a b c d e) : Ev (tCB (rIsi K) (tCons te (tCons (tC (.ty "bool")) tNil))) σ H (.bl b) := by
  obtain ⟨t, h1, h2, h3, h4, h5, h6⟩ := t
  exact ev_isi0 h h1 h3 (.ty "bool")
theorem ev_tStr (h : Ev te σ H v) (t : Tells K H v a b c d e) : Ev (tCB (rIsi K) (tCons te (tCons (tC (.ty "str")) tNil))) σ H (.bl c) := by
  obtain ⟨t, h1, h2, h3, h4, h5, h6⟩ := t
  exact ev_isi0 h h1 h4 (.ty "str")
theorem ev_tTup (h : Ev te σ H v) (t : Tells K H v a b c d e) : Ev (tCB (rIsi K) (tCons te (tCons (tC (.ty "tuple")) tNil))) σ H (.bl d) := by
  obtain ⟨t, h1, h2, h3, h4, h5, h6⟩ := t
  exact ev_isi0 h h1 h5 (.ty "tuple")
theorem ev_tLst (h : Ev te σ H v) (t : Tells K H v a b c d e) : Ev (tCB (rIsi K) (tCons te (tCons (tC (.ty "list")) tNil))) σ H (.bl e) := by
  obtain ⟨t, h1, h2, h3, h4, h5, h6⟩ := t
  exact ev_isi0 h h1 h6 (.ty "list")
end
/-! ### kinds of closed rings -/
inductive RK where
  | truth | count | least | most | narrow | share
  | lot (n : Nat)
  | pair (a b : RK)
def RK.depth : RK → Nat
  | .pair a b => max a.depth b.depth + 1
  | _ => 0
def E : PyData := .str "endless"
def N : PyData := .str "none"
def nameOf : RK → Str
  | .truth => "truth"
  | .count => "count"
  | .least => "least"
  | .most => "most"
  | .narrow => "narrow"
  | .share => "share"
  | .lot _ => "lot"
  | .pair _ _ => "pair"
def madeD : RK → PyData
  | .lot n => .tuple [.str "lot", .int n]
  | .pair a b => .tuple [.str "pair", madeD a, madeD b]
  | k => .tuple [.str (nameOf k)]
def RK.ok : RK → Prop
  | .lot n => 1 ≤ n ∧ n ≤ 12
  | .pair a b => a.ok ∧ b.ok
  | _ => True
end D1
end
section
set_option Elab.async false
set_option linter.all false
set_option maxRecDepth 100000
set_option maxHeartbeats 4000000
/-! M0: products of weights -/
namespace D1
open PySem L2
def isN : PyData → Bool
  | .str z => z == "none"
  | _ => false
def isE : PyData → Bool
  | .str z => z == "endless"
  | _ => false
def i0 : PyData → Bool
  | .int i => i == 0
  | _ => false
def andB : PyData → PyData → PyData
  | .bool a, .bool b => .bool (a && b)
  | a, _ => a
def countT : PyData → PyData → PyData
  | .int i, .int j => .int (i * j)
  | a, b => if (i0 a || i0 b) = true then .int 0 else E
def boundT : PyData → PyData → PyData
  | .int i, .int j => .int (i + j)
  | a, b => if (isN a || isN b) = true then N else E
def narrT : PyData → PyData → PyData
  | .int i, .int j => .int (if i ≤ j then i else j)
  | .int i, _ => .int i
  | _, b => b
def gI (a b : Int) : Int := ((Nat.gcd a.natAbs b.natAbs : Nat) : Int)
def low (p q : Int) : PyData := .tuple [.int (p / gI p q), .int (q / gI p q)]
def shareT : PyData → PyData → PyData
  | .tuple [.int p, .int q], .tuple [.int r, .int s] => low (p * r) (q * s)
  | a, _ => a
def lotT : PyData → PyData → PyData
  | .int i, .int j => .int (Builtin.bitAnd i j)
  | a, _ => a
def times : RK → PyData → PyData → PyData
  | .truth => andB
  | .count => countT
  | .least => boundT
  | .most => boundT
  | .narrow => narrT
  | .share => shareT
  | .lot _ => lotT
  | .pair k l => fun x y => match x, y with
    | .tuple [a, b], .tuple [c, d] => .tuple [times k a c, times l b d]
    | x, _ => x
def oneD : RK → PyData
  | .truth => .bool true
  | .count => .int 1
  | .least => .int 0
  | .most => .int 0
  | .narrow => E
  | .share => .tuple [.int 1, .int 1]
  | .lot n => .int (2 ^ n - 1)
  | .pair k l => .tuple [oneD k, oneD l]
def zeroD : RK → PyData
  | .truth => .bool false
  | .count => .int 0
  | .least => N
  | .most => N
  | .narrow => .int 0
  | .share => .tuple [.int 0, .int 1]
  | .lot _ => .int 0
  | .pair k l => .tuple [zeroD k, zeroD l]
def cnGood : PyData → Bool
  | .str z => z == "endless"
  | .int i => decide (0 ≤ i)
  | _ => false
def bGood : PyData → Bool
  | .str z => z == "none" || z == "endless"
  | .int _ => true
  | _ => false
def shGood : PyData → Bool
  | .tuple [.int p, .int q] => (decide (0 ≤ p) && decide (p ≤ q)) && (gI p q == 1)
  | _ => false
def lotGood (n : Nat) : PyData → Bool
  | .int i => decide (0 ≤ i) && decide (i ≤ 2 ^ n - 1)
  | _ => false
def prGood (f g : PyData → Bool) : PyData → Bool
  | .tuple [x, y] => f x && g y
  | _ => false
def goodB : RK → PyData → Bool
  | .truth => dBl
  | .count => cnGood
  | .narrow => cnGood
  | .least => bGood
  | .most => bGood
  | .share => shGood
  | .lot n => lotGood n
  | .pair k l => prGood (goodB k) (goodB l)
/-! ### what good weights look like -/
theorem good_truth {d : PyData} (h : goodB .truth d = true) : ∃ b, d = .bool b := by
  cases d <;> first | exact ⟨_, rfl⟩ | cases h
theorem good_cn {d : PyData} (h : cnGood d = true) : d = E ∨ ∃ i, d = .int i ∧ 0 ≤ i := by
  cases d with
  | int i => exact .inr ⟨i, rfl, of_decide_eq_true h⟩
  | str z =>
    have h : (z == "endless") = true := h
    exact .inl (by rw [eq_of_beq h]; rfl)
  | _ => cases h
theorem good_b {d : PyData} (h : bGood d = true) : d = E ∨ d = N ∨ ∃ i, d = .int i := by
  cases d with
  | int i => exact .inr (.inr ⟨i, rfl⟩)
  | str z =>
    have h : (z == "none" || z == "endless") = true := h
    rcases Bool.or_eq_true_iff.mp h with h | h
    · exact .inr (.inl (by rw [eq_of_beq h]; rfl))
    · exact .inl (by rw [eq_of_beq h]; rfl)
  | _ => cases h
theorem good_share {d : PyData} (h : shGood d = true) : ∃ p q : Int, d = .tuple [.int p, .int q] ∧ 0 ≤ p ∧ p ≤ q ∧ gI p q = 1 := by
  unfold shGood at h
  split at h
  · simp only [Bool.and_eq_true, decide_eq_true_eq, beq_iff_eq] at h
    exact ⟨_, _, rfl, h.1.1, h.1.2, h.2⟩
  · cases h
theorem good_lot {n : Nat} {d : PyData} (h : lotGood n d = true) : ∃ i, d = .int i ∧ 0 ≤ i ∧ i ≤ 2 ^ n - 1 := by
  cases d with
  | int i =>
    have h : (decide (0 ≤ i) && decide (i ≤ 2 ^ n - 1)) = true := h
    simp only [Bool.and_eq_true, decide_eq_true_eq] at h
    exact ⟨i, rfl, h⟩
  | _ => cases h
theorem good_pair {f g : PyData → Bool} {d : PyData} (h : prGood f g d = true) : ∃ x y, d = .tuple [x, y] ∧ f x = true ∧ g y = true := by
  unfold prGood at h
  split at h
  · exact ⟨_, _, rfl, (Bool.and_eq_true_iff.mp h).1, (Bool.and_eq_true_iff.mp h).2⟩
  · cases h
/-! ### fractions in lowest terms, by natural numbers -/
def lowN (p q : Nat) : Nat × Nat := (p / Nat.gcd p q, q / Nat.gcd p q)
theorem low_nat (p q : Nat) : low (p : Int) (q : Int) = .tuple [.int ((lowN p q).1 : Nat), .int ((lowN p q).2 : Nat)] := by
  unfold low gI lowN
  rw [Int.natAbs_natCast, Int.natAbs_natCast, Int.natCast_ediv, Int.natCast_ediv]
theorem lowN_mul {p q k : Nat} (hk : 0 < k) : lowN (k * p) (k * q) = lowN p q := by
  unfold lowN
  rw [Nat.gcd_mul_left]
  rw [Nat.mul_div_mul_left _ _ hk, Nat.mul_div_mul_left _ _ hk]
/-- a product behind a product put in lowest terms -/
theorem lowN_low {p q r s : Nat} (hq : 0 < q) : lowN ((lowN p q).1 * r) ((lowN p q).2 * s) = lowN (p * r) (q * s) := by
  have hg : 0 < Nat.gcd p q := Nat.gcd_pos_of_pos_right p hq
  have h1 : Nat.gcd p q * (p / Nat.gcd p q) = p := Nat.mul_div_cancel' (Nat.gcd_dvd_left p q)
  have h2 : Nat.gcd p q * (q / Nat.gcd p q) = q := Nat.mul_div_cancel' (Nat.gcd_dvd_right p q)
  have h := lowN_mul (p := p / Nat.gcd p q * r) (q := q / Nat.gcd p q * s) hg
  rw [← Nat.mul_assoc, ← Nat.mul_assoc, h1, h2] at h
  exact h.symm
theorem lowN_pos {p q : Nat} (hq : 0 < q) : 0 < (lowN p q).2 := Nat.div_pos (Nat.le_of_dvd hq (Nat.gcd_dvd_right p q)) (Nat.gcd_pos_of_pos_right p hq)
theorem lowN_gcd {p q : Nat} (hq : 0 < q) : Nat.gcd (lowN p q).1 (lowN p q).2 = 1 := Nat.gcd_div_gcd_div_gcd_of_pos_right hq
theorem lowN_le {p q : Nat} (h : p ≤ q) : (lowN p q).1 ≤ (lowN p q).2 := Nat.div_le_div_right h
theorem lowN_self {p q : Nat} (h : Nat.gcd p q = 1) : lowN p q = (p, q) := by
  unfold lowN
  rw [h, Nat.div_one, Nat.div_one]
def shN (p q : Nat) : PyData := .tuple [.int (p : Nat), .int (q : Nat)]
/-- a good share, by natural numbers -/
theorem share_nat {d : PyData} (h : shGood d = true) : ∃ p q : Nat, d = shN p q ∧ p ≤ q ∧ 0 < q ∧ Nat.gcd p q = 1 := by
  obtain ⟨p, q, rfl, h1, h2, h3⟩ := good_share h
  obtain ⟨p, rfl⟩ := Int.eq_ofNat_of_zero_le h1
  obtain ⟨q, rfl⟩ := Int.eq_ofNat_of_zero_le (Int.le_trans h1 h2)
  have h3 : Nat.gcd p q = 1 := by
    unfold gI at h3
    rw [Int.natAbs_natCast, Int.natAbs_natCast] at h3
    exact Int.ofNat.inj h3
  refine ⟨p, q, rfl, by omega, ?_, h3⟩
  rcases Nat.eq_zero_or_pos q with rfl | hq
  · have : p = 0 := by omega
    subst this
    cases h3
  · exact hq
theorem nat_share {p q : Nat} (h : p ≤ q) (hg : Nat.gcd p q = 1) : shGood (shN p q) = true := by
  have e : gI (p : Int) (q : Int) = 1 := by
    unfold gI
    rw [Int.natAbs_natCast, Int.natAbs_natCast, hg]
    rfl
  show ((decide ((0 : Int) ≤ (p : Int)) && decide ((p : Int) ≤ (q : Int))) && (gI p q == 1)) = true
  rw [e, decide_eq_true (by omega : (0 : Int) ≤ (p : Int)), decide_eq_true (by omega : (p : Int) ≤ (q : Int))]
  rfl
theorem shareT_nat (p q r s : Nat) : shareT (shN p q) (shN r s) = shN (lowN (p * r) (q * s)).1 (lowN (p * r) (q * s)).2 := by
  show low ((p : Int) * (r : Int)) ((q : Int) * (s : Int)) = _
  rw [← Int.natCast_mul, ← Int.natCast_mul, low_nat]
  rfl
/-! ### products are weights; ONE; brackets -/
theorem and_nat (a b : Nat) : lotT (.int a) (.int b) = .int ((a &&& b : Nat) : Int) := congrArg PyData.int (PySem.W.os_band a b)
theorem lot_nat {n : Nat} {d : PyData} (h : lotGood n d = true) : ∃ i : Nat, d = .int (i : Int) ∧ i < 2 ^ n := by
  obtain ⟨i, rfl, h1, h2⟩ := good_lot h
  obtain ⟨i, rfl⟩ := Int.eq_ofNat_of_zero_le h1
  refine ⟨i, rfl, ?_⟩
  have h3 : ((2 : Int) ^ n) = ((2 ^ n : Nat) : Int) := by simp
  rw [h3] at h2
  omega
theorem nat_lot {n i : Nat} (h : i < 2 ^ n) : lotGood n (.int (i : Int)) = true := by
  have h3 : ((2 : Int) ^ n) = ((2 ^ n : Nat) : Int) := by simp
  show (decide ((0 : Int) ≤ (i : Int)) && decide ((i : Int) ≤ 2 ^ n - 1)) = true
  rw [h3, decide_eq_true (by omega : (0 : Int) ≤ (i : Int)), decide_eq_true (by omega : (i : Int) ≤ ((2 ^ n : Nat) : Int) - 1)]
  rfl
theorem one_lot (n : Nat) : (2 : Int) ^ n - 1 = ((2 ^ n - 1 : Nat) : Int) := by
  have h3 : ((2 : Int) ^ n) = ((2 ^ n : Nat) : Int) := by simp
  have := Nat.one_le_two_pow (n := n)
  rw [h3]
  omega
theorem good_one : ∀ k : RK, goodB k (oneD k) = true
  | .truth => rfl
  | .count => rfl
  | .least => rfl
  | .most => rfl
  | .narrow => rfl
  | .share => by decide +kernel
  | .lot n => by
    show lotGood n (.int (2 ^ n - 1)) = true
    rw [one_lot]
    exact nat_lot (by have := Nat.one_le_two_pow (n := n); omega)
  | .pair k l => by
    show (goodB k (oneD k) && goodB l (oneD l)) = true
    rw [good_one k, good_one l]
    rfl
theorem good_times : ∀ (k : RK) {a b : PyData}, goodB k a = true → goodB k b = true → goodB k (times k a b) = true
  | .truth, a, b, h, h' => by
    obtain ⟨x, rfl⟩ := good_truth h
    obtain ⟨y, rfl⟩ := good_truth h'
    rfl
  | .count, a, b, h, h' => by
    rcases good_cn h with rfl | ⟨i, rfl, hi⟩ <;> rcases good_cn h' with rfl | ⟨j, rfl, hj⟩
    · rfl
    · show cnGood (if (i0 E || i0 (.int j)) = true then .int 0 else E) = true
      split <;> rfl
    · show cnGood (if (i0 (.int i) || i0 E) = true then .int 0 else E) = true
      split <;> rfl
    · exact decide_eq_true (Int.mul_nonneg hi hj)
  | .least, a, b, h, h' => by
    rcases good_b h with rfl | rfl | ⟨i, rfl⟩ <;> rcases good_b h' with rfl | rfl | ⟨j, rfl⟩ <;> rfl
  | .most, a, b, h, h' => by
    rcases good_b h with rfl | rfl | ⟨i, rfl⟩ <;> rcases good_b h' with rfl | rfl | ⟨j, rfl⟩ <;> rfl
  | .narrow, a, b, h, h' => by
    rcases good_cn h with rfl | ⟨i, rfl, hi⟩ <;> rcases good_cn h' with rfl | ⟨j, rfl, hj⟩
    · rfl
    · exact decide_eq_true hj
    · exact decide_eq_true hi
    · refine decide_eq_true (p := 0 ≤ (if i ≤ j then i else j)) ?_
      split
      · exact hi
      · exact hj
  | .share, a, b, h, h' => by
    obtain ⟨p, q, rfl, h1, h2, h3⟩ := share_nat h
    obtain ⟨r, s, rfl, h4, h5, h6⟩ := share_nat h'
    show shGood (shareT _ _) = true
    rw [shareT_nat]
    exact nat_share (lowN_le (Nat.mul_le_mul h1 h4)) (lowN_gcd (Nat.mul_pos h2 h5))
  | .lot n, a, b, h, h' => by
    obtain ⟨i, rfl, hi⟩ := lot_nat h
    obtain ⟨j, rfl, hj⟩ := lot_nat h'
    show lotGood n (lotT _ _) = true
    rw [and_nat]
    exact nat_lot (Nat.lt_of_le_of_lt Nat.and_le_left hi)
  | .pair k l, a, b, h, h' => by
    obtain ⟨x, y, rfl, h1, h2⟩ := good_pair h
    obtain ⟨z, w, rfl, h3, h4⟩ := good_pair h'
    show (goodB k (times k x z) && goodB l (times l y w)) = true
    rw [good_times k h1 h3, good_times l h2 h4]
    rfl
theorem one_times : ∀ (k : RK) {a : PyData}, goodB k a = true → times k (oneD k) a = a
  | .truth, a, h => by
    obtain ⟨x, rfl⟩ := good_truth h
    rfl
  | .count, a, h => by
    rcases good_cn h with rfl | ⟨i, rfl, hi⟩
    · rfl
    · show PyData.int (1 * i) = _
      rw [Int.one_mul]
  | .least, a, h => by
    rcases good_b h with rfl | rfl | ⟨i, rfl⟩
    · rfl
    · rfl
    · show PyData.int (0 + i) = _
      rw [Int.zero_add]
  | .most, a, h => by
    rcases good_b h with rfl | rfl | ⟨i, rfl⟩
    · rfl
    · rfl
    · show PyData.int (0 + i) = _
      rw [Int.zero_add]
  | .narrow, a, h => by
    rcases good_cn h with rfl | ⟨i, rfl, hi⟩ <;> rfl
  | .share, a, h => by
    obtain ⟨p, q, rfl, h1, h2, h3⟩ := share_nat h
    show shareT (shN 1 1) (shN p q) = _
    rw [shareT_nat, Nat.one_mul, Nat.one_mul, lowN_self h3]
  | .lot n, a, h => by
    obtain ⟨i, rfl, hi⟩ := lot_nat h
    show lotT (.int (2 ^ n - 1)) _ = _
    rw [one_lot, and_nat, Nat.and_comm, Nat.and_two_pow_sub_one_eq_mod, Nat.mod_eq_of_lt hi]
  | .pair k l, a, h => by
    obtain ⟨x, y, rfl, h1, h2⟩ := good_pair h
    show PyData.tuple [times k (oneD k) x, times l (oneD l) y] = _
    rw [one_times k h1, one_times l h2]
theorem times_assoc : ∀ (k : RK) {a b c : PyData}, goodB k a = true → goodB k b = true → goodB k c = true → times k (times k a b) c = times k a (times k b c)
  | .truth, a, b, c, ha, hb, hc => by
    obtain ⟨x, rfl⟩ := good_truth ha
    obtain ⟨y, rfl⟩ := good_truth hb
    obtain ⟨z, rfl⟩ := good_truth hc
    cases x <;> cases y <;> cases z <;> rfl
  | .count, a, b, c, ha, hb, hc => by
    rcases good_cn ha with rfl | ⟨i, rfl, hi⟩ <;> rcases good_cn hb with rfl | ⟨j, rfl, hj⟩ <;> rcases good_cn hc with rfl | ⟨l, rfl, hl⟩
    · rfl
    · simp only [times, countT, E, i0, Bool.false_or, Bool.or_false]
      by_cases h : l = 0 <;> simp [h, i0, countT, E]
    · simp only [times, countT, E, i0, Bool.false_or, Bool.or_false]
      by_cases h : j = 0 <;> simp [h, i0, countT, E]
    · simp only [times, countT, E, i0, Bool.false_or, Bool.or_false]
      by_cases h : j = 0 <;> by_cases h2 : l = 0 <;> simp [h, h2, i0, countT, E, Int.mul_eq_zero]
    · simp only [times, countT, E, i0, Bool.false_or, Bool.or_false]
      by_cases h : i = 0 <;> simp [h, i0, countT, E]
    · simp only [times, countT, E, i0, Bool.false_or, Bool.or_false]
      by_cases h : i = 0 <;> by_cases h2 : l = 0 <;> simp [h, h2, i0, countT, E]
    · simp only [times, countT, E, i0, Bool.false_or, Bool.or_false]
      by_cases h : i = 0 <;> by_cases h2 : j = 0 <;> simp [h, h2, i0, countT, E, Int.mul_eq_zero]
    · simp only [times, countT, Int.mul_assoc]
  | .least, a, b, c, ha, hb, hc => by
    rcases good_b ha with rfl | rfl | ⟨i, rfl⟩ <;> rcases good_b hb with rfl | rfl | ⟨j, rfl⟩ <;> rcases good_b hc with rfl | rfl | ⟨l, rfl⟩ <;> first | rfl | (simp only [times, boundT, Int.add_assoc])
  | .most, a, b, c, ha, hb, hc => by
    rcases good_b ha with rfl | rfl | ⟨i, rfl⟩ <;> rcases good_b hb with rfl | rfl | ⟨j, rfl⟩ <;> rcases good_b hc with rfl | rfl | ⟨l, rfl⟩ <;> first | rfl | (simp only [times, boundT, Int.add_assoc])
  | .narrow, a, b, c, ha, hb, hc => by
    rcases good_cn ha with rfl | ⟨i, rfl, hi⟩ <;> rcases good_cn hb with rfl | ⟨j, rfl, hj⟩ <;> rcases good_cn hc with rfl | ⟨l, rfl, hl⟩ <;> first | rfl | (simp only [times, narrT, E]; congr 1; split <;> split <;> (try split) <;> omega)
  | .share, a, b, c, ha, hb, hc => by
    obtain ⟨p, q, rfl, h1, h2, h3⟩ := share_nat ha
    obtain ⟨r, s, rfl, h4, h5, h6⟩ := share_nat hb
    obtain ⟨t, u, rfl, h7, h8, h9⟩ := share_nat hc
    show shareT (shareT _ _) _ = shareT _ (shareT _ _)
    rw [shareT_nat, shareT_nat, shareT_nat, shareT_nat, lowN_low (Nat.mul_pos h2 h5)]
    rw [Nat.mul_comm p (lowN (r * t) (s * u)).1, Nat.mul_comm q (lowN (r * t) (s * u)).2, lowN_low (Nat.mul_pos h5 h8)]
    rw [show r * t * p = p * r * t by rw [Nat.mul_comm, Nat.mul_assoc], show s * u * q = q * s * u by rw [Nat.mul_comm, Nat.mul_assoc]]
  | .lot n, a, b, c, ha, hb, hc => by
    obtain ⟨i, rfl, hi⟩ := lot_nat ha
    obtain ⟨j, rfl, hj⟩ := lot_nat hb
    obtain ⟨l, rfl, hl⟩ := lot_nat hc
    show lotT (lotT _ _) _ = lotT _ (lotT _ _)
    rw [and_nat, and_nat, and_nat, and_nat, Nat.and_assoc]
  | .pair k l, a, b, c, ha, hb, hc => by
    obtain ⟨x, y, rfl, h1, h2⟩ := good_pair ha
    obtain ⟨z, w, rfl, h3, h4⟩ := good_pair hb
    obtain ⟨u, v, rfl, h5, h6⟩ := good_pair hc
    show PyData.tuple [times k (times k x z) u, times l (times l y w) v] = .tuple [times k x (times k z u), times l y (times l w v)]
    rw [times_assoc k h1 h3 h5, times_assoc l h2 h4 h6]
end D1
end
section
set_option Elab.async false
set_option linter.all false
set_option maxRecDepth 100000
set_option maxHeartbeats 4000000
/-! R1: kinds as they lie -/
namespace D1
open PySem L2 Evl RZ ClX PySem.VX
mutual
/-- all numbers in it are below 2 ^ B -/
def Sz (B : Nat) : PyData → Prop
  | .int i => i.natAbs < 2 ^ B
  | .tuple ds => SzA B ds
  | _ => True
def SzA (B : Nat) : List PyData → Prop
  | [] => True
  | d :: ds => Sz B d ∧ SzA B ds
end
mutual
theorem Sz.up' {B C : Nat} (h : B ≤ C) : ∀ d : PyData, Sz B d → Sz C d
  | .int i, s => Nat.lt_of_lt_of_le s (Nat.pow_le_pow_right (by decide) h)
  | .tuple ds, s => SzA.up' h ds s
  | .none, _ => True.intro
  | .bool _, _ => True.intro
  | .str _, _ => True.intro
  | .list _, _ => True.intro
  | .dict _, _ => True.intro
theorem SzA.up' {B C : Nat} (h : B ≤ C) : ∀ ds : List PyData, SzA B ds → SzA C ds
  | [], _ => True.intro
  | d :: ds, ⟨s, r⟩ => ⟨Sz.up' h d s, SzA.up' h ds r⟩
end
theorem Sz.up {B C : Nat} {d : PyData} (s : Sz B d) (h : B ≤ C) : Sz C d := Sz.up' h d s
theorem sz_pow {B C : Nat} {x y : Nat} (hx : x < 2 ^ B) (hy : y < 2 ^ C) : x * y < 2 ^ (B + C) := by
  rw [Nat.pow_add]
  rcases Nat.eq_zero_or_pos x with rfl | h
  · rw [Nat.zero_mul]
    exact Nat.mul_pos (Nat.two_pow_pos _) (Nat.two_pow_pos _)
  · exact Nat.lt_of_le_of_lt (Nat.mul_le_mul_left x (Nat.le_of_lt hy)) (Nat.mul_lt_mul_of_lt_of_le hx (Nat.le_refl _) (Nat.two_pow_pos _))
theorem sz_add {B C : Nat} {x y : Int} (hx : x.natAbs < 2 ^ B) (hy : y.natAbs < 2 ^ C) (hB : 0 < B) (hC : 0 < C) : (x + y).natAbs < 2 ^ (B + C) := by
  have h1 : (x + y).natAbs ≤ x.natAbs + y.natAbs := Int.natAbs_add_le x y
  have hb : 2 ^ B * 2 ≤ 2 ^ (B + C) := by
    rw [Nat.pow_add]
    exact Nat.mul_le_mul_left _ (by
      have := Nat.pow_le_pow_right (n := 2) (by decide) hC
      omega)
  have hc : 2 * 2 ^ C ≤ 2 ^ (B + C) := by
    rw [Nat.pow_add]
    exact Nat.mul_le_mul_right _ (by
      have := Nat.pow_le_pow_right (n := 2) (by decide) hB
      omega)
  omega
theorem sz_times : ∀ (k : RK) {a b : PyData} {B C : Nat}, goodB k a = true → goodB k b = true → Sz B a → Sz C b → 0 < B → 0 < C → Sz (B + C) (times k a b)
  | .truth, a, b, B, C, h, h', s, s', hB, hC => by
    obtain ⟨x, rfl⟩ := good_truth h
    obtain ⟨y, rfl⟩ := good_truth h'
    exact True.intro
  | .count, a, b, B, C, h, h', s, s', hB, hC => by
    have z : Sz (B + C) (.int 0) := Nat.two_pow_pos _
    rcases good_cn h with rfl | ⟨i, rfl, hi⟩ <;> rcases good_cn h' with rfl | ⟨j, rfl, hj⟩
    · exact True.intro
    · show Sz _ (if (i0 E || i0 (.int j)) = true then .int 0 else E)
      split
      · exact z
      · exact True.intro
    · show Sz _ (if (i0 (.int i) || i0 E) = true then .int 0 else E)
      split
      · exact z
      · exact True.intro
    · show (i * j).natAbs < _
      rw [Int.natAbs_mul]
      exact sz_pow s s'
  | .least, a, b, B, C, h, h', s, s', hB, hC => by
    rcases good_b h with rfl | rfl | ⟨i, rfl⟩ <;> rcases good_b h' with rfl | rfl | ⟨j, rfl⟩ <;> first | exact True.intro | exact sz_add s s' hB hC
  | .most, a, b, B, C, h, h', s, s', hB, hC => by
    rcases good_b h with rfl | rfl | ⟨i, rfl⟩ <;> rcases good_b h' with rfl | rfl | ⟨j, rfl⟩ <;> first | exact True.intro | exact sz_add s s' hB hC
  | .narrow, a, b, B, C, h, h', s, s', hB, hC => by
    rcases good_cn h with rfl | ⟨i, rfl, hi⟩ <;> rcases good_cn h' with rfl | ⟨j, rfl, hj⟩
    · exact True.intro
    · exact Sz.up s' (by omega)
    · exact Sz.up s (by omega)
    · show Sz _ (.int (if i ≤ j then i else j))
      split
      · exact Sz.up s (by omega)
      · exact Sz.up s' (by omega)
  | .share, a, b, B, C, h, h', s, s', hB, hC => by
    obtain ⟨p, q, rfl, h1, h2, h3⟩ := share_nat h
    obtain ⟨r, t, rfl, h4, h5, h6⟩ := share_nat h'
    show Sz _ (shareT _ _)
    rw [shareT_nat]
    obtain ⟨s1, s2, _⟩ : p < 2 ^ B ∧ q < 2 ^ B ∧ True := s
    obtain ⟨s3, s4, _⟩ : r < 2 ^ C ∧ t < 2 ^ C ∧ True := s'
    refine ⟨?_, ?_, True.intro⟩
    · exact Nat.lt_of_le_of_lt (Nat.div_le_self _ _) (sz_pow s1 s3)
    · exact Nat.lt_of_le_of_lt (Nat.div_le_self _ _) (sz_pow s2 s4)
  | .lot n, a, b, B, C, h, h', s, s', hB, hC => by
    obtain ⟨i, rfl, hi⟩ := lot_nat h
    obtain ⟨j, rfl, hj⟩ := lot_nat h'
    show Sz _ (lotT _ _)
    rw [and_nat]
    exact Nat.lt_of_le_of_lt Nat.and_le_left (Sz.up s (by omega : B ≤ B + C))
  | .pair k l, a, b, B, C, h, h', s, s', hB, hC => by
    obtain ⟨x, y, rfl, h1, h2⟩ := good_pair h
    obtain ⟨z, w, rfl, h3, h4⟩ := good_pair h'
    obtain ⟨s1, s2, _⟩ := s
    obtain ⟨s3, s4, _⟩ := s'
    exact ⟨sz_times k h1 h3 s1 s3 hB hC, sz_times l h2 h4 s2 s4 hB hC, True.intro⟩
/-! ### kinds as they lie -/
def idx : RK → Nat
  | .truth => 0
  | .count => 1
  | .least => 2
  | .most => 2
  | .narrow => 3
  | .share => 4
  | .lot _ => 5
  | .pair _ _ => 6
def KC.cls (C : KC) : RK → Addr
  | .truth => C.tr
  | .count => C.co
  | .least => C.bo
  | .most => C.bo
  | .narrow => C.na
  | .share => C.sh
  | .lot _ => C.lo
  | .pair _ _ => C.pa
theorem KC.cls_at (C : KC) (k : RK) : C.all[idx k]? = some (C.cls k) := by cases k <;> rfl
theorem KC.idx_of {C : KC} (nd : C.all.Nodup) {k : RK} {i : Nat} {c : Addr} (hi : C.all[i]? = some c) (h : C.cls k = c) : idx k = i := by
  subst h
  have h2 := C.cls_at k
  obtain ⟨l2, _⟩ := List.getElem?_eq_some_iff.mp h2
  exact (List.getElem?_inj l2 nd).mp (h2.trans hi.symm)
theorem KC.mem (C : KC) (k : RK) : C.cls k ∈ C.all := List.mem_of_getElem? (C.cls_at k)
/-- the fields that all kinds have -/
structure Com (H : Hp) (k : RK) (fs : List (Str × V)) : Prop where
  text : ∃ t : Str, fs.lookup ("_text" : Str) = some (.str t) ∧ t.length + 6 ≤ 100 * 2 ^ k.depth
  zero : ∃ z, fs.lookup ("_zero" : Str) = some z ∧ DtAt H z (zeroD k)
  one : ∃ z, fs.lookup ("_one" : Str) = some z ∧ DtAt H z (oneD k)
  no : ∀ f, f ∉ fields → fs.lookup f = none
theorem Com.kp {H H' : Hp} {k : RK} {fs : List (Str × V)} (h : Com H k fs) (x : Kp H H') : Com H' k fs := by
  obtain ⟨h1, ⟨z, h2, h3⟩, ⟨o, h4, h5⟩, h6⟩ := h
  exact ⟨h1, ⟨z, h2, h3.kp x⟩, ⟨o, h4, h5.kp x⟩, h6⟩
/-- the fields of a kind alone -/
def Own (H : Hp) (fs : List (Str × V)) : RK → Prop
  | .count => ∃ p, fs.lookup ("_others" : Str) = some (.ref p) ∧ H p = some (.tup [.str "endless"])
  | .narrow => ∃ p, fs.lookup ("_others" : Str) = some (.ref p) ∧ H p = some (.tup [.str "endless"])
  | .least => (∃ p, fs.lookup ("_others" : Str) = some (.ref p) ∧ H p = some (.tup [.str "none", .str "endless"])) ∧ fs.lookup ("_sign" : Str) = some (.int 1)
  | .most => (∃ p, fs.lookup ("_others" : Str) = some (.ref p) ∧ H p = some (.tup [.str "none", .str "endless"])) ∧ fs.lookup ("_sign" : Str) = some (.int (-1))
  | .lot n => fs.lookup ("_size" : Str) = some (.int n)
  | _ => True
theorem Own.kp {H H' : Hp} {fs : List (Str × V)} (x : Kp H H') : ∀ {k : RK}, Own H fs k → Own H' fs k
  | .count, ⟨p, a, b⟩ => ⟨p, a, x.tup b⟩
  | .narrow, ⟨p, a, b⟩ => ⟨p, a, x.tup b⟩
  | .least, ⟨⟨p, a, b⟩, c⟩ => ⟨⟨p, a, x.tup b⟩, c⟩
  | .most, ⟨⟨p, a, b⟩, c⟩ => ⟨⟨p, a, x.tup b⟩, c⟩
  | .lot _, h => h
  | .truth, _ => True.intro
  | .share, _ => True.intro
  | .pair _ _, _ => True.intro
/-- a kind at v -/
def KindAt (C : KC) (H : Hp) : RK → V → Prop
  | .pair k l, v => ∃ (a dx : Addr) (fs : List (Str × V)) (x y : V), v = .ref a ∧ H a = some (.ins C.pa dx fs) ∧ Com H (.pair k l) fs ∧ fs.lookup ("_left" : Str) = some x ∧ fs.lookup ("_right" : Str) = some y ∧ KindAt C H k x ∧ KindAt C H l y
  | k, v => ∃ (a dx : Addr) (fs : List (Str × V)), v = .ref a ∧ H a = some (.ins (C.cls k) dx fs) ∧ Com H k fs ∧ Own H fs k
theorem KindAt.kp {C : KC} {H H' : Hp} (x : Kp H H') : ∀ {k : RK} {v : V}, KindAt C H k v → KindAt C H' k v
  | .pair k l, v, ⟨a, dx, fs, u, w, h1, h2, h3, h4, h5, h6, h7⟩ => ⟨a, dx, fs, u, w, h1, x.ins h2, h3.kp x, h4, h5, KindAt.kp x h6, KindAt.kp x h7⟩
  | .truth, v, ⟨a, dx, fs, h1, h2, h3, h4⟩ => ⟨a, dx, fs, h1, x.ins h2, h3.kp x, h4⟩
  | .count, v, ⟨a, dx, fs, h1, h2, h3, h4⟩ => ⟨a, dx, fs, h1, x.ins h2, h3.kp x, Own.kp x (k := .count) h4⟩
  | .least, v, ⟨a, dx, fs, h1, h2, h3, h4⟩ => ⟨a, dx, fs, h1, x.ins h2, h3.kp x, Own.kp x (k := .least) h4⟩
  | .most, v, ⟨a, dx, fs, h1, h2, h3, h4⟩ => ⟨a, dx, fs, h1, x.ins h2, h3.kp x, Own.kp x (k := .most) h4⟩
  | .narrow, v, ⟨a, dx, fs, h1, h2, h3, h4⟩ => ⟨a, dx, fs, h1, x.ins h2, h3.kp x, Own.kp x (k := .narrow) h4⟩
  | .share, v, ⟨a, dx, fs, h1, h2, h3, h4⟩ => ⟨a, dx, fs, h1, x.ins h2, h3.kp x, h4⟩
  | .lot n, v, ⟨a, dx, fs, h1, h2, h3, h4⟩ => ⟨a, dx, fs, h1, x.ins h2, h3.kp x, h4⟩
theorem KindAt.ex {C : KC} {H H' : Hp} {k : RK} {v : V} (h : KindAt C H k v) (e : Ex H H') : KindAt C H' k v := h.kp (.ex e)
/-- what all have -/
theorem KindAt.com {C : KC} {H : Hp} : ∀ {k : RK} {v : V}, KindAt C H k v → ∃ (a dx : Addr) (fs : List (Str × V)), v = .ref a ∧ H a = some (.ins (C.cls k) dx fs) ∧ Com H k fs
  | .pair k l, v, ⟨a, dx, fs, u, w, h1, h2, h3, _⟩ => ⟨a, dx, fs, h1, h2, h3⟩
  | .truth, v, ⟨a, dx, fs, h1, h2, h3, _⟩ => ⟨a, dx, fs, h1, h2, h3⟩
  | .count, v, ⟨a, dx, fs, h1, h2, h3, _⟩ => ⟨a, dx, fs, h1, h2, h3⟩
  | .least, v, ⟨a, dx, fs, h1, h2, h3, _⟩ => ⟨a, dx, fs, h1, h2, h3⟩
  | .most, v, ⟨a, dx, fs, h1, h2, h3, _⟩ => ⟨a, dx, fs, h1, h2, h3⟩
  | .narrow, v, ⟨a, dx, fs, h1, h2, h3, _⟩ => ⟨a, dx, fs, h1, h2, h3⟩
  | .share, v, ⟨a, dx, fs, h1, h2, h3, _⟩ => ⟨a, dx, fs, h1, h2, h3⟩
  | .lot n, v, ⟨a, dx, fs, h1, h2, h3, _⟩ => ⟨a, dx, fs, h1, h2, h3⟩
/-- the promises of a method for each class -/
def SK (C : KC) (sp : Addr → Sp) : Addr → Option Sp := fun c => if c ∈ C.all then some (sp c) else none
theorem SK.at {C : KC} {sp : Addr → Sp} (k : RK) : SK C sp (C.cls k) = some (sp (C.cls k)) := if_pos (C.mem k)
theorem SK.inv {C : KC} {sp : Addr → Sp} {c : Addr} {s : Sp} (h : SK C sp c = some s) : s = sp c ∧ ∃ i : Nat, C.all[i]? = some c := by
  unfold SK at h
  split at h
  · rename_i hm
    obtain ⟨i, hi⟩ := List.mem_iff_getElem?.mp hm
    exact ⟨(Option.some.inj h).symm, i, hi⟩
  · cases h
end D1
end
section
set_option Elab.async false
set_option linter.all false
set_option maxRecDepth 100000
set_option maxHeartbeats 4000000
/-! LH: the law's top -/
namespace D1
open PySem L2
end D1
end
section
set_option Elab.async false
set_option linter.all false
set_option maxRecDepth 100000
set_option maxHeartbeats 4000000
/-! R2: products, ONE, ZERO, .. of the kinds that have no parts -/
namespace D1
open PySem L2 Evl RZ ClX PySem.VX
/-- a number, or none -/
structure Num (K : PySem.W.Frag) (H : Hp) (v : V) (o : Option Int) : Prop where
  ex : ∃ a b c d e, Tells K H v a b c d e ∧ (a && !b) = o.isSome ∧ ∀ i, o = some i → v = .int i
theorem Num.up {K : PySem.W.Frag} {H H' : Hp} {v : V} {o : Option Int} (h : Num K H v o) (e : Ex H H') : Num K H' v o := by
  obtain ⟨a, b, c, d, f, t, h1, h2⟩ := h
  exact ⟨a, b, c, d, f, t.up e, h1, h2⟩
def dNum : PyData → Option Int
  | .int i => some i
  | _ => none
theorem DtAt.num {K : PySem.W.Frag} {H : Hp} {v : V} {d : PyData} (h : DtAt H v d) : Num K H v (dNum d) := by
  refine ⟨_, _, _, _, _, h.tells, ?_, fun i hi => ?_⟩
  · cases d <;> rfl
  · cases d <;> cases hi
    exact h.int_inv
theorem num_lst {K : PySem.W.Frag} {H : Hp} {a : Addr} {xs : List V} (h : H a = some (.lst xs)) : Num K H (.ref a) none := ⟨_, _, _, _, _, tl_lst h, rfl, fun i hi => by cases hi⟩
theorem num_dic {K : PySem.W.Frag} {H : Hp} {a : Addr} {xs : List (Key × V)} (h : H a = some (.dK xs)) : Num K H (.ref a) none := ⟨_, _, _, _, _, tl_dic h, rfl, fun i hi => by cases hi⟩
def whO (lo hi : Int) : Option Int → Bool
  | some i => within lo hi i
  | none => false
/-! ### flat weights -/
def Fl (d : PyData) : Prop := (∃ z : Str, d = .str z ∧ PyData.strOk z = true) ∨ ∃ i, d = .int i
theorem fl_int (i : Int) : Fl (.int i) := .inr ⟨i, rfl⟩
theorem fl_E : Fl E := .inl ⟨_, rfl, by decide +kernel⟩
theorem fl_N : Fl N := .inl ⟨_, rfl, by decide +kernel⟩
theorem fl_cn {d : PyData} (h : cnGood d = true) : Fl d := by
  rcases good_cn h with rfl | ⟨i, rfl, _⟩
  · exact fl_E
  · exact fl_int i
theorem fl_b {d : PyData} (h : bGood d = true) : Fl d := by
  rcases good_b h with rfl | rfl | ⟨i, rfl⟩
  · exact fl_E
  · exact fl_N
  · exact fl_int i
theorem Fl.shaped {d : PyData} (h : Fl d) : SeqAt.shaped d = true := by
  rcases h with ⟨z, rfl, hz⟩ | ⟨i, rfl⟩
  · show (PyData.strOk z && decide (PyData.depth (.str z) ≤ 64)) = true
    rw [hz, Bool.true_and, decide_eq_true_eq]
    simp [PyData.depth]
  · rfl
theorem eqv_0 {d : PyData} (h : Fl d) : PyData.eqv d (.int 0) = i0 d := by
  rcases h with ⟨z, rfl, hz⟩ | ⟨i, rfl⟩ <;> rfl
theorem eqv_E {d : PyData} (h : Fl d) : PyData.eqv d E = isE d := by
  rcases h with ⟨z, rfl, hz⟩ | ⟨i, rfl⟩ <;> rfl
theorem eqv_N {d : PyData} (h : Fl d) : PyData.eqv d N = isN d := by
  rcases h with ⟨z, rfl, hz⟩ | ⟨i, rfl⟩ <;> rfl
section
variable {K : PySem.W.Frag} {σ : L2.St} {H : Hp} {ta tb : TE} {x y : V} {d e : PyData}
theorem ev_eqDt (h : Ev ta σ H x) (h' : Ev tb σ H y) (hx : DtAt H x d) (hy : DtAt H y e) (sd : SeqAt.shaped d = true) (se : SeqAt.shaped e = true) : Ev (tOp (rEqD K) ta tb) σ H (.bl (PyData.eqv d e)) :=
  ev_op h h' fun H1 e1 Q q => ⟨d, e, (hx.ex e1).dp, (hy.ex e1).dp, sd, se, q H1 (Ex.refl H1)⟩
theorem ev_neDt (h : Ev ta σ H x) (h' : Ev tb σ H y) (hx : DtAt H x d) (hy : DtAt H y e) (sd : SeqAt.shaped d = true) (se : SeqAt.shaped e = true) : Ev (tOp (rNeD K) ta tb) σ H (.bl (!PyData.eqv d e)) :=
  ev_op h h' fun H1 e1 Q q => ⟨d, e, (hx.ex e1).dp, (hy.ex e1).dp, sd, se, q H1 (Ex.refl H1)⟩
theorem ev_eq0 (h : Ev ta σ H x) (hx : DtAt H x d) (f : Fl d) : Ev (tOp (rEqD K) ta (tC (.int 0))) σ H (.bl (i0 d)) := ev_is (ev_eqDt h ev_c hx (.int 0) f.shaped rfl) (by rw [eqv_0 f])
theorem ev_eqE (h : Ev ta σ H x) (hx : DtAt H x d) (f : Fl d) : Ev (tOp (rEqD K) ta (tC (.str "endless"))) σ H (.bl (isE d)) := ev_is (ev_eqDt h ev_c hx (.str "endless") f.shaped (by decide +kernel)) (by rw [← eqv_E f]; rfl)
theorem ev_eqN (h : Ev ta σ H x) (hx : DtAt H x d) (f : Fl d) : Ev (tOp (rEqD K) ta (tC (.str "none"))) σ H (.bl (isN d)) := ev_is (ev_eqDt h ev_c hx (.str "none") f.shaped (by decide +kernel)) (by rw [← eqv_N f]; rfl)
end
theorem count0 {a b : PyData} (h : (i0 a || i0 b) = true) (ha : cnGood a = true) (hb : cnGood b = true) : countT a b = .int 0 := by
  rcases good_cn ha with rfl | ⟨i, rfl, hi⟩ <;> rcases good_cn hb with rfl | ⟨j, rfl, hj⟩
  · cases h
  · exact if_pos h
  · exact if_pos h
  · have h : ((i == 0) || (j == 0)) = true := h
    show PyData.int (i * j) = _
    rcases Bool.or_eq_true_iff.mp h with h | h
    · rw [eq_of_beq h, Int.zero_mul]
    · rw [eq_of_beq h, Int.mul_zero]
theorem countE {a b : PyData} (h : (i0 a || i0 b) = false) (h2 : (isE a || isE b) = true) (ha : cnGood a = true) (hb : cnGood b = true) : countT a b = E := by
  rcases good_cn ha with rfl | ⟨i, rfl, hi⟩ <;> rcases good_cn hb with rfl | ⟨j, rfl, hj⟩
  · rfl
  · exact if_neg (by rw [h]; decide)
  · exact if_neg (by rw [h]; decide)
  · cases h2
theorem cn_int {a : PyData} (h : cnGood a = true) (h2 : isE a = false) : ∃ i, a = .int i ∧ 0 ≤ i := by
  rcases good_cn h with rfl | ⟨i, rfl, hi⟩
  · cases h2
  · exact ⟨i, rfl, hi⟩
theorem b_int {a : PyData} (h : bGood a = true) (h2 : isE a = false) (h3 : isN a = false) : ∃ i, a = .int i := by
  rcases good_b h with rfl | rfl | ⟨i, rfl⟩
  · cases h2
  · cases h3
  · exact ⟨i, rfl⟩
theorem boundN {a b : PyData} (h : (isN a || isN b) = true) (ha : bGood a = true) (hb : bGood b = true) : boundT a b = N := by
  rcases good_b ha with rfl | rfl | ⟨i, rfl⟩ <;> rcases good_b hb with rfl | rfl | ⟨j, rfl⟩ <;> first | rfl | cases h
theorem boundE {a b : PyData} (h : (isN a || isN b) = false) (h2 : (isE a || isE b) = true) (ha : bGood a = true) (hb : bGood b = true) : boundT a b = E := by
  have e1 : isN N = true := by decide +kernel
  rcases good_b ha with rfl | rfl | ⟨i, rfl⟩
  · rcases good_b hb with rfl | rfl | ⟨j, rfl⟩
    · rfl
    · rw [e1, Bool.or_true] at h
      cases h
    · rfl
  · rw [e1, Bool.true_or] at h
    cases h
  · rcases good_b hb with rfl | rfl | ⟨j, rfl⟩
    · rfl
    · rw [e1, Bool.or_true] at h
      cases h
    · cases h2
theorem narrE {a b : PyData} (ha : cnGood a = true) (hb : cnGood b = true) (h : (isE a || isE b) = true) : narrT a b = if isE b = true then a else b := by
  rcases good_cn ha with rfl | ⟨i, rfl, hi⟩ <;> rcases good_cn hb with rfl | ⟨j, rfl, hj⟩ <;> first | rfl | cases h
theorem r_if {t : TT} {ta tb : TE} {D : Ends} {σ : L2.St} {H : Hp} {b : Bool} (h : EvT t σ H b) (h1 : b = true → ∀ H1, Ex H H1 → tRet ta D σ H1) (h2 : b = false → ∀ H1, Ex H H1 → tRet tb D σ H1) : tRet (tIf t ta tb) D σ H := h H (Ex.refl H) _ fun H1 e => by
  cases b with
  | true => exact h1 rfl H1 e
  | false => exact h2 rfl H1 e
theorem or_no {a b : Bool} (h : (a || b) = false) : a = false ∧ b = false := by
  cases a <;> cases b <;> first | exact ⟨rfl, rfl⟩ | cases h
/-! ### the promises -/
def spTimes (C : KC) (d : Nat) (c : Addr) : Sp := fun vs H Q _ => ∃ (s : V) (k : RK) (x y : V) (dx dy : PyData) (B : Nat), vs = [s, x, y] ∧ KindAt C H k s ∧ C.cls k = c ∧ k.depth < d ∧ DtAt H x dx ∧ DtAt H y dy ∧ goodB k dx = true ∧ goodB k dy = true ∧ Sz B dx ∧ Sz B dy ∧ B ≤ 4000 ∧ ∀ r H', Ex H H' → DtAt H' r (times k dx dy) → Q r H'
def spGood (C : KC) (d : Nat) (c : Addr) : Sp := fun vs H Q _ => ∃ (s : V) (k : RK) (x : V) (dx : PyData), vs = [s, x] ∧ KindAt C H k s ∧ C.cls k = c ∧ k.depth < d ∧ DtAt H x dx ∧ ∀ H', Ex H H' → Q (.bl (goodB k dx)) H'
def spClosed (C : KC) (d : Nat) (c : Addr) : Sp := fun vs H Q _ => ∃ (s : V) (k : RK), vs = [s] ∧ KindAt C H k s ∧ C.cls k = c ∧ k.depth < d ∧ ∀ H', Ex H H' → Q (.bl true) H'
def spOne (C : KC) (d : Nat) (c : Addr) : Sp := fun vs H Q _ => ∃ (s : V) (k : RK), vs = [s] ∧ KindAt C H k s ∧ C.cls k = c ∧ k.depth < d ∧ ∀ r H', Ex H H' → DtAt H' r (oneD k) → Q r H'
def spZero (C : KC) (d : Nat) (c : Addr) : Sp := fun vs H Q _ => ∃ (s : V) (k : RK), vs = [s] ∧ KindAt C H k s ∧ C.cls k = c ∧ k.depth < d ∧ ∀ r H', Ex H H' → DtAt H' r (zeroD k) → Q r H'
def spText (C : KC) (d : Nat) (c : Addr) : Sp := fun vs H Q _ => ∃ (s : V) (k : RK), vs = [s] ∧ KindAt C H k s ∧ C.cls k = c ∧ k.depth < d ∧ ∀ (t : Str) H', Ex H H' → t.length + 6 ≤ 100 * 2 ^ k.depth → Q (.str t) H'
def spNum (K : PySem.W.Frag) : Sp := fun vs H Q _ => ∃ (v : V) (o : Option Int), vs = [v] ∧ Num K H v o ∧ ∀ H', Ex H H' → Q (.bl o.isSome) H'
def spWhole (K : PySem.W.Frag) : Sp := fun vs H Q _ => ∃ (v : V) (o : Option Int) (lo hi : Int), vs = [v, .int lo, .int hi] ∧ Num K H v o ∧ ∀ H', Ex H H' → Q (.bl (whO lo hi o)) H'
section
variable {P : Program} {w : World} {K : PySem.W.Frag} {mg : Str → Option Value} {base : Heap}
abbrev s_is_number : Stmt := top 20
theorem sc_is_number : FnScope ["thing"] ["thing"] (defScope s_is_number) := ⟨rfl, rfl, rfl, by decide +kernel, rfl, by decide +kernel, by decide +kernel⟩
theorem ok_is_number {f : Addr} {fd : FuncData} (F : FnP K "is_number" s_is_number f fd) (z_isinstance : mg "isinstance" = none) (z_int : mg "int" = none) (z_bool : mg "bool" = none) : FnOk P w K mg base (CX0) 1 f fd ["thing"] (spNum K) := by
  refine F.ok (CX := CX0) sc_is_number (fun vs H Q E h => ?_) (fun cdv A outer s H vs Q E hr h => ?_)
  · obtain ⟨v, o, rfl, _⟩ := h
    rfl
  · obtain ⟨v, o, rfl, hv, q⟩ := h
    have hu := hu_of hr
    have hu64 := hr.units
    refine ⟨_, PSs.nox (pss_one (ps_ret (pe_and (pe_callB call_isi (by rfl) z_isinstance PyProof.Rows.boot_isinstance (pa_cons (pv 0) (pa_cons (pe_bltn (v := .ty "int") rfl z_int (by decide +kernel) rfl) pa_nil))) (pe_one (pe_not (pe_callB call_isi (by rfl) z_isinstance PyProof.Rows.boot_isinstance (pa_cons (pv 0) (pa_cons (pe_bltn (v := .ty "bool") rfl z_bool (by decide +kernel) rfl) pa_nil)))))))), ?_⟩
    obtain ⟨a, b, c, d, e, t, h1, h2⟩ := id hv
    refine s_ret (D := { nx := fun _ H' => Q .non H', rt := Q }) (v := .bl o.isSome) ?_ fun H' e => q H' e
    rw [← h1]
    exact ev_andV (ev_tInt (ev_var rfl) t) fun _ => ev_notV (ev_tBool (ev_var rfl) t)
abbrev s_is_whole : Stmt := top 21
theorem sc_is_whole : FnScope ["thing", "least", "most"] ["thing", "least", "most"] (defScope s_is_whole) := ⟨rfl, rfl, rfl, by decide +kernel, rfl, by decide +kernel, by decide +kernel⟩
theorem ok_is_whole {f : Addr} {fd : FuncData} (F : FnP K "is_whole" s_is_whole f fd) {f_is_number : Addr} {fd_is_number : FuncData} (F_is_number : FnP K "is_number" s_is_number f_is_number fd_is_number) (g_is_number : mg "is_number" = some (.ref f_is_number)) (G_is_number : FnOk P w K mg base (CX0) 1 f_is_number fd_is_number ["thing"] (spNum K)) : FnOk P w K mg base (CX0) 2 f fd ["thing", "least", "most"] (spWhole K) := by
  have b_is_number : Binds K fd_is_number ["thing"] [] := F_is_number.bindsN fun _ _ _ _ _ _ us hl => match us, hl with | [_], _ => rfl
  refine F.ok (CX := CX0) sc_is_whole (fun vs H Q E h => ?_) (fun cdv A outer s H vs Q E hr h => ?_)
  · obtain ⟨v, o, lo, hi, rfl, _⟩ := h
    rfl
  · obtain ⟨v, o, lo, hi, rfl, hv, q⟩ := h
    have hu := hu_of hr
    have hu64 := hr.units
    have hr_is_number := hr.mono (by decide : 1 ≤ 1)
    refine ⟨_, PSs.nox (pss_one (ps_ret (pe_and (pe_call G_is_number hr_is_number rfl g_is_number F_is_number.kp b_is_number .nil pass0 (pa_cons (pv 0) pa_nil)) (pe_one (pe_chain op_le op_le (pv 1) (pv 0) (pv 2)))))), ?_⟩
    refine s_ret (D := { nx := fun _ H' => Q .non H', rt := Q }) (v := .bl (whO lo hi o)) ?_ fun H' e => q H' e
    have hq : whO lo hi o = (o.isSome && whO lo hi o) := by cases o <;> rfl
    rw [hq]
    refine ev_andV (ev_call (z := .bl o.isSome) (ea_cons (ev_var rfl) ea_nil) fun H1 e1 Q' k' E' => ⟨v, o, rfl, hv.up e1, fun H2 e2 => k' H2 e2⟩) fun hi' => ?_
    obtain ⟨a, b, c, d, e, t, h1, h2⟩ := id hv
    cases o with
    | some i =>
      obtain rfl := h2 i rfl
      exact ev_chainLe (ev_var rfl) (ev_var rfl) (ev_var rfl)
    | none => cases hi'
abbrev s_Count_times : Stmt := meth 27 2
theorem sc_Count_times : FnScope ["self", "a", "b"] ["self", "a", "b"] (defScope s_Count_times) := ⟨rfl, rfl, rfl, by decide +kernel, rfl, by decide +kernel, by decide +kernel⟩
theorem ok_Count_times {f : Addr} {fd : FuncData} (F : FnM K "Count" "times" s_Count_times f fd) {C : KC} (nd : C.all.Nodup) (d : Nat) : FnOk P w K mg base (CX0) 1 f fd ["self", "a", "b"] (spTimes C d C.co) := by
  refine F.ok (CX := CX0) sc_Count_times (fun vs H Q E h => ?_) (fun cdv A outer s H vs Q E hr h => ?_)
  · obtain ⟨s, k, x, y, dx, dy, B, rfl, _⟩ := h
    rfl
  · obtain ⟨s, k, x, y, dx, dy, B, rfl, hK, hc, hd, hx, hy, gx, gy, sx, sy, hB, q⟩ := h
    have hu := hu_of hr
    have hu64 := hr.units
    refine ⟨_, PSs.nox (pss_cons (ps_if (PW.pt (pw_or (pt_cmpR (op_eqD hu64) (pv 1) pe_int (nomark _)) (pw_or1 (pt_cmpR (op_eqD hu64) (pv 2) pe_int (nomark _))))) (pss_one (ps_ret pe_int)) pss_nil)
      (pss_cons (ps_if (PW.pt (pw_or (pt_cmpR (op_eqD hu64) (pv 1) pe_str (nomark _)) (pw_or1 (pt_cmpR (op_eqD hu64) (pv 2) pe_str (nomark _))))) (pss_one (ps_ret pe_str)) pss_nil)
      (pss_one (ps_ret (pe_op op_mulW (pv 1) (pv 2)))))), ?_⟩
    have hi := KC.idx_of nd (i := 1) rfl hc
    have e : k = .count := by cases k <;> first | rfl | cases hi
    subst e
    have wx := fl_cn gx
    have wy := fl_cn gy
    refine q_when (b := i0 dx || i0 dy) (et_or (et_test (ev_eq0 (ev_var rfl) hx wx)) (fun _ => et_test (ev_eq0 (ev_var rfl) hy wy))) (fun hb H1 e1 => ?_) (fun hb H1 e1 => ?_)
    · exact s_ret ev_c fun H2 e2 => q _ H2 (e1.trans e2) (by show DtAt _ _ (countT dx dy); rw [count0 hb gx gy]; exact .int 0)
    refine q_when (b := isE dx || isE dy) (et_or (et_test (ev_eqE (ev_var rfl) (hx.ex e1) wx)) (fun _ => et_test (ev_eqE (ev_var rfl) (hy.ex e1) wy))) (fun hb2 H2 e2 => ?_) (fun hb2 H2 e2 => ?_)
    · exact s_ret ev_c fun H3 e3 => q _ H3 ((e1.trans e2).trans e3) (by show DtAt _ _ (countT dx dy); rw [countE hb hb2 gx gy]; exact .str _)
    obtain ⟨i, rfl, i0'⟩ := cn_int gx (or_no hb2).1
    obtain ⟨j, rfl, j0'⟩ := cn_int gy (or_no hb2).2
    obtain rfl := hx.int_inv
    obtain rfl := hy.int_inv
    exact s_ret (ev_op (ev_var rfl) (ev_var rfl) (rv_I (wide_mul (a := B + 1) (b := B + 1) (Sz.up sx (by omega)) (Sz.up sy (by omega)) (by omega) (by omega) (by omega)))) fun H3 e3 => q _ H3 ((e1.trans e2).trans e3) (.int _)
abbrev s_Bounded_times : Stmt := meth 28 3
theorem sc_Bounded_times : FnScope ["self", "a", "b"] ["self", "a", "b"] (defScope s_Bounded_times) := ⟨rfl, rfl, rfl, by decide +kernel, rfl, by decide +kernel, by decide +kernel⟩
theorem ok_Bounded_times {f : Addr} {fd : FuncData} (F : FnM K "Bounded" "times" s_Bounded_times f fd) {C : KC} (nd : C.all.Nodup) (d : Nat) : FnOk P w K mg base (CX0) 1 f fd ["self", "a", "b"] (spTimes C d C.bo) := by
  refine F.ok (CX := CX0) sc_Bounded_times (fun vs H Q E h => ?_) (fun cdv A outer s H vs Q E hr h => ?_)
  · obtain ⟨s, k, x, y, dx, dy, B, rfl, _⟩ := h
    rfl
  · obtain ⟨s, k, x, y, dx, dy, B, rfl, hK, hc, hd, hx, hy, gx, gy, sx, sy, hB, q⟩ := h
    have hu := hu_of hr
    have hu64 := hr.units
    refine ⟨_, PSs.nox (pss_cons (ps_if (PW.pt (pw_or (pt_cmpR (op_eqD hu64) (pv 1) pe_str (nomark _)) (pw_or1 (pt_cmpR (op_eqD hu64) (pv 2) pe_str (nomark _))))) (pss_one (ps_ret pe_str)) pss_nil)
      (pss_cons (ps_if (PW.pt (pw_or (pt_cmpR (op_eqD hu64) (pv 1) pe_str (nomark _)) (pw_or1 (pt_cmpR (op_eqD hu64) (pv 2) pe_str (nomark _))))) (pss_one (ps_ret pe_str)) pss_nil)
      (pss_one (ps_ret (pe_op op_add (pv 1) (pv 2)))))), ?_⟩
    have hi := KC.idx_of nd (i := 2) rfl hc
    have e : (k = .least ∨ k = .most) := by cases k <;> first | exact .inl rfl | exact .inr rfl | cases hi
    have gx : bGood dx = true := by rcases e with rfl | rfl <;> exact gx
    have gy : bGood dy = true := by rcases e with rfl | rfl <;> exact gy
    have ht : times k dx dy = boundT dx dy := by rcases e with rfl | rfl <;> rfl
    rw [ht] at q
    have wx := fl_b gx
    have wy := fl_b gy
    refine q_when (b := isN dx || isN dy) (et_or (et_test (ev_eqN (ev_var rfl) hx wx)) (fun _ => et_test (ev_eqN (ev_var rfl) hy wy))) (fun hb H1 e1 => ?_) (fun hb H1 e1 => ?_)
    · exact s_ret ev_c fun H2 e2 => q _ H2 (e1.trans e2) (by rw [boundN hb gx gy]; exact .str _)
    refine q_when (b := isE dx || isE dy) (et_or (et_test (ev_eqE (ev_var rfl) (hx.ex e1) wx)) (fun _ => et_test (ev_eqE (ev_var rfl) (hy.ex e1) wy))) (fun hb2 H2 e2 => ?_) (fun hb2 H2 e2 => ?_)
    · exact s_ret ev_c fun H3 e3 => q _ H3 ((e1.trans e2).trans e3) (by rw [boundE hb hb2 gx gy]; exact .str _)
    obtain ⟨i, rfl⟩ := b_int gx (or_no hb2).1 (or_no hb).1
    obtain ⟨j, rfl⟩ := b_int gy (or_no hb2).2 (or_no hb).2
    obtain rfl := hx.int_inv
    obtain rfl := hy.int_inv
    exact s_ret (ev_op (ev_var rfl) (ev_var rfl) rv_I0) fun H3 e3 => q _ H3 ((e1.trans e2).trans e3) (.int _)
abbrev s_Narrow_times : Stmt := meth 29 3
theorem sc_Narrow_times : FnScope ["self", "a", "b"] ["self", "a", "b"] (defScope s_Narrow_times) := ⟨rfl, rfl, rfl, by decide +kernel, rfl, by decide +kernel, by decide +kernel⟩
theorem ok_Narrow_times {f : Addr} {fd : FuncData} (F : FnM K "Narrow" "times" s_Narrow_times f fd) {C : KC} (nd : C.all.Nodup) (d : Nat) : FnOk P w K mg base (CX0) 1 f fd ["self", "a", "b"] (spTimes C d C.na) := by
  refine F.ok (CX := CX0) sc_Narrow_times (fun vs H Q E h => ?_) (fun cdv A outer s H vs Q E hr h => ?_)
  · obtain ⟨s, k, x, y, dx, dy, B, rfl, _⟩ := h
    rfl
  · obtain ⟨s, k, x, y, dx, dy, B, rfl, hK, hc, hd, hx, hy, gx, gy, sx, sy, hB, q⟩ := h
    have hu := hu_of hr
    have hu64 := hr.units
    refine ⟨_, PSs.nox (pss_cons (ps_if (PW.pt (pw_or (pt_cmpR (op_eqD hu64) (pv 1) pe_str (nomark _)) (pw_or1 (pt_cmpR (op_eqD hu64) (pv 2) pe_str (nomark _))))) (pss_one (ps_ret (pe_ifExp (pt_cmpR (op_eqD hu64) (pv 2) pe_str (nomark _)) (pv 1) (pv 2)))) pss_nil)
      (pss_one (ps_ret (pe_ifExp (pt_cmpR op_le (pv 1) (pv 2) (nomark _)) (pv 1) (pv 2))))), ?_⟩
    have hi := KC.idx_of nd (i := 3) rfl hc
    have e : k = .narrow := by cases k <;> first | rfl | cases hi
    subst e
    have wx := fl_cn gx
    have wy := fl_cn gy
    refine q_when (b := isE dx || isE dy) (et_or (et_test (ev_eqE (ev_var rfl) hx wx)) (fun _ => et_test (ev_eqE (ev_var rfl) hy wy))) (fun hb H1 e1 => ?_) (fun hb H1 e1 => ?_)
    · refine r_if (b := isE dy) (et_test (ev_eqE (ev_var rfl) (hy.ex e1) wy)) (fun h2 H2 e2 => ?_) (fun h2 H2 e2 => ?_)
      · exact s_ret (ev_var rfl) fun H3 e3 => q _ H3 ((e1.trans e2).trans e3) (by show DtAt _ _ (narrT dx dy); rw [narrE gx gy hb, if_pos h2]; exact hx.ex ((e1.trans e2).trans e3))
      · exact s_ret (ev_var rfl) fun H3 e3 => q _ H3 ((e1.trans e2).trans e3) (by show DtAt _ _ (narrT dx dy); rw [narrE gx gy hb, if_neg (by rw [h2]; decide)]; exact hy.ex ((e1.trans e2).trans e3))
    obtain ⟨i, rfl, i0'⟩ := cn_int gx (or_no hb).1
    obtain ⟨j, rfl, j0'⟩ := cn_int gy (or_no hb).2
    obtain rfl := hx.int_inv
    obtain rfl := hy.int_inv
    refine r_if (b := decide (i ≤ j)) (et_test (ev_op (ev_var rfl) (ev_var rfl) rv_I0)) (fun h2 H2 e2 => ?_) (fun h2 H2 e2 => ?_)
    · exact s_ret (ev_var rfl) fun H3 e3 => q _ H3 ((e1.trans e2).trans e3) (by show DtAt _ _ (.int (if i ≤ j then i else j)); rw [if_pos (of_decide_eq_true h2)]; exact .int _)
    · exact s_ret (ev_var rfl) fun H3 e3 => q _ H3 ((e1.trans e2).trans e3) (by show DtAt _ _ (.int (if i ≤ j then i else j)); rw [if_neg (of_decide_eq_false h2)]; exact .int _)
abbrev s_Truth_times : Stmt := meth 41 4
theorem sc_Truth_times : FnScope ["self", "a", "b"] ["self", "a", "b"] (defScope s_Truth_times) := ⟨rfl, rfl, rfl, by decide +kernel, rfl, by decide +kernel, by decide +kernel⟩
theorem ok_Truth_times {f : Addr} {fd : FuncData} (F : FnM K "Truth" "times" s_Truth_times f fd) {C : KC} (nd : C.all.Nodup) (d : Nat) : FnOk P w K mg base (CX0) 1 f fd ["self", "a", "b"] (spTimes C d C.tr) := by
  refine F.ok (CX := CX0) sc_Truth_times (fun vs H Q E h => ?_) (fun cdv A outer s H vs Q E hr h => ?_)
  · obtain ⟨s, k, x, y, dx, dy, B, rfl, _⟩ := h
    rfl
  · obtain ⟨s, k, x, y, dx, dy, B, rfl, hK, hc, hd, hx, hy, gx, gy, sx, sy, hB, q⟩ := h
    have hu := hu_of hr
    have hu64 := hr.units
    refine ⟨_, PSs.nox (pss_one (ps_ret (pe_and (pv 1) (pe_one (pv 2))))), ?_⟩
    have hi := KC.idx_of nd (i := 0) rfl hc
    have e : k = .truth := by cases k <;> first | rfl | cases hi
    subst e
    obtain ⟨a, rfl⟩ := good_truth gx
    obtain ⟨b, rfl⟩ := good_truth gy
    obtain rfl := hx.bl_inv
    obtain rfl := hy.bl_inv
    exact s_ret (D := { nx := fun _ H' => Q .non H', rt := Q }) (ev_andV (a := a) (b := b) (ev_var rfl) fun _ => ev_var rfl) fun H1 e1 => q _ H1 e1 (.bl _)
abbrev s_Lot_times : Stmt := meth 43 4
theorem sc_Lot_times : FnScope ["self", "a", "b"] ["self", "a", "b"] (defScope s_Lot_times) := ⟨rfl, rfl, rfl, by decide +kernel, rfl, by decide +kernel, by decide +kernel⟩
theorem ok_Lot_times {f : Addr} {fd : FuncData} (F : FnM K "Lot" "times" s_Lot_times f fd) {C : KC} (nd : C.all.Nodup) (d : Nat) : FnOk P w K mg base (CX0) 1 f fd ["self", "a", "b"] (spTimes C d C.lo) := by
  refine F.ok (CX := CX0) sc_Lot_times (fun vs H Q E h => ?_) (fun cdv A outer s H vs Q E hr h => ?_)
  · obtain ⟨s, k, x, y, dx, dy, B, rfl, _⟩ := h
    rfl
  · obtain ⟨s, k, x, y, dx, dy, B, rfl, hK, hc, hd, hx, hy, gx, gy, sx, sy, hB, q⟩ := h
    have hu := hu_of hr
    have hu64 := hr.units
    refine ⟨_, PSs.nox (pss_one (ps_ret (pe_op op_and (pv 1) (pv 2)))), ?_⟩
    have hi := KC.idx_of nd (i := 5) rfl hc
    obtain ⟨n, rfl⟩ : ∃ n, k = .lot n := by cases k <;> first | exact ⟨_, rfl⟩ | cases hi
    obtain ⟨i, rfl, h1, h2⟩ := good_lot gx
    obtain ⟨j, rfl, h3, h4⟩ := good_lot gy
    obtain rfl := hx.int_inv
    obtain rfl := hy.int_inv
    exact s_ret (D := { nx := fun _ H' => Q .non H', rt := Q }) (ev_op (ev_var rfl) (ev_var rfl) rv_I0) fun H1 e1 => q _ H1 e1 (.int _)
abbrev s_Share_times : Stmt := meth 42 3
theorem sc_Share_times : FnScope ["self", "a", "b", "top", "bottom", "shared"] ["self", "a", "b"] (defScope s_Share_times) := ⟨rfl, rfl, rfl, by decide +kernel, rfl, by decide +kernel, by decide +kernel⟩
theorem ok_Share_times {f : Addr} {fd : FuncData} (F : FnM K "Share" "times" s_Share_times f fd) {C : KC} (nd : C.all.Nodup) (d : Nat) (g_gcd : mg "gcd" = some (.builtin "math.gcd")) : FnOk P w K mg base (CX0) 1 f fd ["self", "a", "b"] (spTimes C d C.sh) := by
  refine F.ok (CX := CX0) sc_Share_times (fun vs H Q E h => ?_) (fun cdv A outer s H vs Q E hr h => ?_)
  · obtain ⟨s, k, x, y, dx, dy, B, rfl, _⟩ := h
    rfl
  · obtain ⟨s, k, x, y, dx, dy, B, rfl, hK, hc, hd, hx, hy, gx, gy, sx, sy, hB, q⟩ := h
    have hu := hu_of hr
    have hu64 := hr.units
    refine ⟨_, PSs.nox (pss_cons (ps_set (i := 3) sc_Share_times.nd rfl (Or.inl rfl) (pe_op op_mulW (pe_ix ix_tup (pv 1) pe_int (fun _ _ => rfl)) (pe_ix ix_tup (pv 2) pe_int (fun _ _ => rfl))))
      (pss_cons (ps_set (i := 4) sc_Share_times.nd rfl (Or.inl rfl) (pe_op op_mulW (pe_ix ix_tup (pv 1) pe_int (fun _ _ => rfl)) (pe_ix ix_tup (pv 2) pe_int (fun _ _ => rfl))))
      (pss_cons (ps_set (i := 5) sc_Share_times.nd rfl (Or.inl rfl) (pe_callBfun cr_gcd (by rfl) g_gcd (pa_cons (pv 3) (pa_cons (pv 4) pa_nil))))
      (pss_one (ps_ret (pe_tup (pa_cons (pe_op op_fdivW (pv 3) (pv 5)) (pa_cons (pe_op op_fdivW (pv 4) (pv 5)) pa_nil)))))))), ?_⟩
    have hi := KC.idx_of nd (i := 4) rfl hc
    have e : k = .share := by cases k <;> first | rfl | cases hi
    subst e
    obtain ⟨p, r, rfl, h1, h2, h3⟩ := share_nat gx
    obtain ⟨t, u, rfl, h4, h5, h6⟩ := share_nat gy
    obtain ⟨ax, _, _, rfl, hax, k1, k2⟩ := id hx.two
    obtain ⟨ay, _, _, rfl, hay, k3, k4⟩ := id hy.two
    obtain rfl := k1.int_inv
    obtain rfl := k2.int_inv
    obtain rfl := k3.int_inv
    obtain rfl := k4.int_inv
    obtain ⟨s1, s2, _⟩ : p < 2 ^ B ∧ r < 2 ^ B ∧ True := sx
    obtain ⟨s3, s4, _⟩ : t < 2 ^ B ∧ u < 2 ^ B ∧ True := sy
    have up : ∀ {x : Nat}, x < 2 ^ B → ((x : Int)).natAbs < 2 ^ (B + 1) := fun {x} h => by
      rw [Int.natAbs_natCast]
      exact Nat.lt_of_lt_of_le h (Nat.pow_le_pow_right (by decide) (by omega))
    refine q_asg (v := .int ((p : Int) * (t : Int))) (ev_op (ev_op (ev_var rfl) ev_c (rv_ixT (.inl (.inl hax)) rfl)) (ev_op (ev_var rfl) ev_c (rv_ixT (.inl (.inl hay)) rfl)) (rv_I (wide_mul (up s1) (up s3) (by omega) (by omega) (by omega)))) fun H1 e1 => ?_
    refine q_asg (v := .int ((r : Int) * (u : Int))) (ev_op (ev_op (ev_var rfl) ev_c (rv_ixT (.inl (.inl (e1 _ _ hax))) rfl)) (ev_op (ev_var rfl) ev_c (rv_ixT (.inl (.inl (e1 _ _ hay))) rfl)) (rv_I (wide_mul (up s2) (up s4) (by omega) (by omega) (by omega)))) fun H2 e2 => ?_
    refine q_asg (v := .int (gI ((p : Int) * t) ((r : Int) * u))) (ev_cb (ea_cons (ev_var rfl) (ea_cons (ev_var rfl) ea_nil)) fun H3 e3 Q' q' => ⟨_, _, rfl, q' H3 (Ex.refl H3)⟩) fun H3 e3 => ?_
    have hg : gI ((p : Int) * t) ((r : Int) * u) = ((Nat.gcd (p * t) (r * u) : Nat) : Int) := by
      unfold gI
      rw [← Int.natCast_mul, ← Int.natCast_mul, Int.natAbs_natCast, Int.natAbs_natCast]
    have hru : 0 < r * u := Nat.mul_pos h2 h5
    have g0 : 0 < Nat.gcd (p * t) (r * u) := Nat.gcd_pos_of_pos_right _ hru
    have g1 : Nat.gcd (p * t) (r * u) < 2 ^ (B + B) := Nat.lt_of_le_of_lt (Nat.le_of_dvd hru (Nat.gcd_dvd_right _ _)) (sz_pow s2 s4)
    have cd : ∀ z : Int, CDivW z (gI ((p : Int) * t) ((r : Int) * u)) := fun z => by
      rw [hg]
      refine wide_div (b := B + B + 1) (by omega) ?_ (by omega) (by omega)
      rw [Int.natAbs_natCast]
      exact Nat.lt_of_lt_of_le g1 (Nat.pow_le_pow_right (by decide) (by omega))
    exact s_retU (eu_tup (ea_cons (ev_op (ev_var rfl) (ev_var rfl) (rv_I (cd _))) (ea_cons (ev_op (ev_var rfl) (ev_var rfl) (rv_I (cd _))) ea_nil)) (by show 2 ≤ 100000; decide)) fun l H4 _ e4 hl => q _ H4 (((e1.trans e2).trans e3).trans e4) (.tup hl (.cons (.int _) (.cons (.int _) .nil)))
end
end D1
end
section
set_option Elab.async false
set_option linter.all false
set_option maxRecDepth 100000
set_option maxHeartbeats 4000000
/-! R3: ONE, ZERO, whether closed, whether good: the kinds that have no parts -/
namespace D1
open PySem L2 Evl RZ ClX PySem.VX
structure ClsK (K : PySem.W.Frag) (C : KC) : Prop where
  nd : C.all.Nodup
  ok : ∀ c ∈ C.all, OkC K c
theorem ClsK.cls {K : PySem.W.Frag} {C : KC} (T : ClsK K C) {k : RK} {c : Addr} (h : C.cls k = c) : OkC K c := h ▸ T.ok _ (C.mem k)
section
variable {K : PySem.W.Frag} {σ : L2.St} {H : Hp} {ta tb te : TE}
theorem ev_fldK {a Cc dx : Addr} {fs : List (Str × V)} {f : Str} {v : V} (h : Ev ta σ H (.ref a)) (ha : H a = some (.ins Cc dx fs)) (ok : OkC K Cc) (hf : f ∈ fields) (hl : fs.lookup f = some v) : Ev (tFld K ta f) σ H v := fun H1 e Q q =>
  h H1 e _ fun H2 e2 => ⟨a, Cc, dx, fs, v, rfl, (e.trans e2) _ _ ha, ok.cls, ok.no f hf, hl, q H2 e2⟩
end
/-- the class at c is one of three -/
def ThreeC (C : KC) (c : Addr) : Prop := c = C.co ∨ c = C.bo ∨ c = C.na
def ThreeT (C : KC) (c : Addr) : Prop := c = C.tr ∨ c = C.sh ∨ c = C.lo
theorem three_kind {C : KC} (nd : C.all.Nodup) {c : Addr} (h3 : ThreeC C c) {k : RK} (h : C.cls k = c) : k = .count ∨ k = .narrow ∨ k = .least ∨ k = .most := by
  have hi : idx k = 1 ∨ idx k = 2 ∨ idx k = 3 := by
    rcases h3 with rfl | rfl | rfl
    · exact .inl (KC.idx_of nd (i := 1) rfl h)
    · exact .inr (.inl (KC.idx_of nd (i := 2) rfl h))
    · exact .inr (.inr (KC.idx_of nd (i := 3) rfl h))
  cases k with
  | count => exact .inl rfl
  | narrow => exact .inr (.inl rfl)
  | least => exact .inr (.inr (.inl rfl))
  | most => exact .inr (.inr (.inr rfl))
  | _ => rcases hi with h | h | h <;> cases h
/-- what the three have: words beside numbers -/
def wordsOf : RK → List V
  | .least => [.str "none", .str "endless"]
  | .most => [.str "none", .str "endless"]
  | _ => [.str "endless"]
theorem KindAt.three {C : KC} {H : Hp} {k : RK} {v : V} (h : KindAt C H k v) (h3 : k = .count ∨ k = .narrow ∨ k = .least ∨ k = .most) : ∃ (a dx : Addr) (fs : List (Str × V)) (p : Addr), v = .ref a ∧ H a = some (.ins (C.cls k) dx fs) ∧ Com H k fs ∧ fs.lookup ("_others" : Str) = some (.ref p) ∧ H p = some (.tup (wordsOf k)) := by
  rcases h3 with rfl | rfl | rfl | rfl
  · obtain ⟨a, dx, fs, h1, h2, h3, p, h4, h5⟩ := h
    exact ⟨a, dx, fs, p, h1, h2, h3, h4, h5⟩
  · obtain ⟨a, dx, fs, h1, h2, h3, p, h4, h5⟩ := h
    exact ⟨a, dx, fs, p, h1, h2, h3, h4, h5⟩
  · obtain ⟨a, dx, fs, h1, h2, h3, ⟨p, h4, h5⟩, _⟩ := h
    exact ⟨a, dx, fs, p, h1, h2, h3, h4, h5⟩
  · obtain ⟨a, dx, fs, h1, h2, h3, ⟨p, h4, h5⟩, _⟩ := h
    exact ⟨a, dx, fs, p, h1, h2, h3, h4, h5⟩
theorem inV_str (z y : Str) : inV (.str z) [.str y] = (z == y) := by
  show (eqV (.str y) (.str z) || false) = _
  rw [Bool.or_false]
  show (y == z) = _
  rw [Bool.eq_iff_iff, beq_iff_eq, beq_iff_eq]
  exact eq_comm
theorem words_good {k : RK} (h3 : k = .count ∨ k = .narrow ∨ k = .least ∨ k = .most) (z : Str) : inV (.str z) (wordsOf k) = goodB k (.str z) := by
  have two : inV (.str z) [.str "none", .str "endless"] = (z == "none" || z == "endless") := by
    show (eqV (.str "none") (.str z) || (eqV (.str "endless") (.str z) || false)) = _
    rw [Bool.or_false]
    show (("none" : Str) == z || ("endless" : Str) == z) = _
    congr 1
    · rw [Bool.eq_iff_iff, beq_iff_eq, beq_iff_eq]
      exact eq_comm
    · rw [Bool.eq_iff_iff, beq_iff_eq, beq_iff_eq]
      exact eq_comm
  rcases h3 with rfl | rfl | rfl | rfl
  · exact inV_str z _
  · exact inV_str z _
  · exact two
  · exact two
/-- whether a number fits -/
def fitB : RK → Int → Bool
  | .least, _ => true
  | .most, _ => true
  | _, i => decide (0 ≤ i)
def spFits (C : KC) (c : Addr) : Sp := fun vs H Q _ => ∃ (s : V) (k : RK) (i : Int), vs = [s, .int i] ∧ KindAt C H k s ∧ C.cls k = c ∧ ∀ H', Ex H H' → Q (.bl (fitB k i)) H'
section
variable {P : Program} {w : World} {K : PySem.W.Frag} {mg : Str → Option Value} {base : Heap}
abbrev s_Kind_one : Stmt := meth 23 3
theorem sc_Kind_one : FnScope ["self"] ["self"] (defScope s_Kind_one) := ⟨rfl, rfl, rfl, by decide +kernel, rfl, by decide +kernel, by decide +kernel⟩
theorem ok_Kind_one {f : Addr} {fd : FuncData} (F : FnM K "Kind" "one" s_Kind_one f fd) {C : KC} (T : ClsK K C) (d : Nat) {c : Addr} : FnOk P w K mg base (CX0) 1 f fd ["self"] (spOne C d c) := by
  refine F.ok (CX := CX0) sc_Kind_one (fun vs H Q E h => ?_) (fun cdv A outer s H vs Q E hr h => ?_)
  · obtain ⟨s, k, rfl, _⟩ := h
    rfl
  · obtain ⟨s, k, rfl, hK, hc, hd, q⟩ := h
    have hu := hu_of hr
    have hu64 := hr.units
    refine ⟨_, PSs.nox (pss_one (ps_ret (pe_fld (pv 0) rfl))), ?_⟩
    have ok := T.cls hc
    obtain ⟨a, dx, fs, rfl, ha, com⟩ := hK.com
    rw [hc] at ha
    obtain ⟨z, hl, hz⟩ := com.one
    exact s_ret (D := { nx := fun _ H' => Q .non H', rt := Q }) (ev_fldK (ev_var rfl) ha ok (by decide) hl) fun H1 e1 => q z H1 e1 (hz.ex e1)
abbrev s_Kind_zero : Stmt := meth 23 2
theorem sc_Kind_zero : FnScope ["self"] ["self"] (defScope s_Kind_zero) := ⟨rfl, rfl, rfl, by decide +kernel, rfl, by decide +kernel, by decide +kernel⟩
theorem ok_Kind_zero {f : Addr} {fd : FuncData} (F : FnM K "Kind" "zero" s_Kind_zero f fd) {C : KC} (T : ClsK K C) (d : Nat) {c : Addr} : FnOk P w K mg base (CX0) 1 f fd ["self"] (spZero C d c) := by
  refine F.ok (CX := CX0) sc_Kind_zero (fun vs H Q E h => ?_) (fun cdv A outer s H vs Q E hr h => ?_)
  · obtain ⟨s, k, rfl, _⟩ := h
    rfl
  · obtain ⟨s, k, rfl, hK, hc, hd, q⟩ := h
    have hu := hu_of hr
    have hu64 := hr.units
    refine ⟨_, PSs.nox (pss_one (ps_ret (pe_fld (pv 0) rfl))), ?_⟩
    have ok := T.cls hc
    obtain ⟨a, dx, fs, rfl, ha, com⟩ := hK.com
    rw [hc] at ha
    obtain ⟨z, hl, hz⟩ := com.zero
    exact s_ret (D := { nx := fun _ H' => Q .non H', rt := Q }) (ev_fldK (ev_var rfl) ha ok (by decide) hl) fun H1 e1 => q z H1 e1 (hz.ex e1)
abbrev s_Kind_text : Stmt := meth 23 1
theorem sc_Kind_text : FnScope ["self"] ["self"] (defScope s_Kind_text) := ⟨rfl, rfl, rfl, by decide +kernel, rfl, by decide +kernel, by decide +kernel⟩
theorem ok_Kind_text {f : Addr} {fd : FuncData} (F : FnM K "Kind" "text" s_Kind_text f fd) {C : KC} (T : ClsK K C) (d : Nat) {c : Addr} : FnOk P w K mg base (CX0) 1 f fd ["self"] (spText C d c) := by
  refine F.ok (CX := CX0) sc_Kind_text (fun vs H Q E h => ?_) (fun cdv A outer s H vs Q E hr h => ?_)
  · obtain ⟨s, k, rfl, _⟩ := h
    rfl
  · obtain ⟨s, k, rfl, hK, hc, hd, q⟩ := h
    have hu := hu_of hr
    have hu64 := hr.units
    refine ⟨_, PSs.nox (pss_one (ps_ret (pe_fld (pv 0) rfl))), ?_⟩
    have ok := T.cls hc
    obtain ⟨a, dx, fs, rfl, ha, com⟩ := hK.com
    rw [hc] at ha
    obtain ⟨z, hl, hz⟩ := com.text
    exact s_ret (D := { nx := fun _ H' => Q .non H', rt := Q }) (ev_fldK (ev_var rfl) ha ok (by decide) hl) fun H1 e1 => q z H1 e1 hz
abbrev s_Endless_closed : Stmt := meth 26 0
theorem sc_Endless_closed : FnScope ["self"] ["self"] (defScope s_Endless_closed) := ⟨rfl, rfl, rfl, by decide +kernel, rfl, by decide +kernel, by decide +kernel⟩
theorem ok_Endless_closed {f : Addr} {fd : FuncData} (F : FnM K "Endless" "closed" s_Endless_closed f fd) {C : KC} (d : Nat) {c : Addr} : FnOk P w K mg base (CX0) 1 f fd ["self"] (spClosed C d c) := by
  refine F.ok (CX := CX0) sc_Endless_closed (fun vs H Q E h => ?_) (fun cdv A outer s H vs Q E hr h => ?_)
  · obtain ⟨s, k, rfl, _⟩ := h
    rfl
  · obtain ⟨s, k, rfl, hK, hc, hd, q⟩ := h
    have hu := hu_of hr
    have hu64 := hr.units
    refine ⟨_, PSs.nox (pss_one (ps_ret pe_bl)), ?_⟩
    exact q H (Ex.refl H)
abbrev s_Topped_closed : Stmt := meth 40 0
theorem sc_Topped_closed : FnScope ["self"] ["self"] (defScope s_Topped_closed) := ⟨rfl, rfl, rfl, by decide +kernel, rfl, by decide +kernel, by decide +kernel⟩
theorem ok_Topped_closed {f : Addr} {fd : FuncData} (F : FnM K "Topped" "closed" s_Topped_closed f fd) {C : KC} (d : Nat) {c : Addr} : FnOk P w K mg base (CX0) 1 f fd ["self"] (spClosed C d c) := by
  refine F.ok (CX := CX0) sc_Topped_closed (fun vs H Q E h => ?_) (fun cdv A outer s H vs Q E hr h => ?_)
  · obtain ⟨s, k, rfl, _⟩ := h
    rfl
  · obtain ⟨s, k, rfl, hK, hc, hd, q⟩ := h
    have hu := hu_of hr
    have hu64 := hr.units
    refine ⟨_, PSs.nox (pss_one (ps_ret pe_bl)), ?_⟩
    exact q H (Ex.refl H)
abbrev s_Counted_fits : Stmt := meth 24 2
theorem sc_Counted_fits : FnScope ["self", "number"] ["self", "number"] (defScope s_Counted_fits) := ⟨rfl, rfl, rfl, by decide +kernel, rfl, by decide +kernel, by decide +kernel⟩
theorem ok_Counted_fits {f : Addr} {fd : FuncData} (F : FnM K "Counted" "fits" s_Counted_fits f fd) {C : KC} (nd : C.all.Nodup) {c : Addr} (h3 : c = C.co ∨ c = C.na) : FnOk P w K mg base (CX0) 1 f fd ["self", "number"] (spFits C c) := by
  refine F.ok (CX := CX0) sc_Counted_fits (fun vs H Q E h => ?_) (fun cdv A outer s H vs Q E hr h => ?_)
  · obtain ⟨s, k, i, rfl, _⟩ := h
    rfl
  · obtain ⟨s, k, i, rfl, hK, hc, q⟩ := h
    have hu := hu_of hr
    have hu64 := hr.units
    refine ⟨_, PSs.nox (pss_one (ps_ret (pe_cmpR op_ge (pv 1) pe_int (nomark _)))), ?_⟩
    have hk : fitB k i = decide (0 ≤ i) := by
      have hi : idx k = 1 ∨ idx k = 3 := by
        rcases h3 with rfl | rfl
        · exact .inl (KC.idx_of nd (i := 1) rfl hc)
        · exact .inr (KC.idx_of nd (i := 3) rfl hc)
      cases k <;> first | rfl | (rcases hi with h | h <;> cases h)
    rw [hk] at q
    exact s_ret (D := { nx := fun _ H' => Q .non H', rt := Q }) (ev_op (ev_var rfl) ev_c rv_I0) fun H1 e1 => q H1 e1
abbrev s_Bounded_fits : Stmt := meth 28 1
theorem sc_Bounded_fits : FnScope ["self", "number"] ["self", "number"] (defScope s_Bounded_fits) := ⟨rfl, rfl, rfl, by decide +kernel, rfl, by decide +kernel, by decide +kernel⟩
theorem ok_Bounded_fits {f : Addr} {fd : FuncData} (F : FnM K "Bounded" "fits" s_Bounded_fits f fd) {C : KC} (nd : C.all.Nodup) : FnOk P w K mg base (CX0) 1 f fd ["self", "number"] (spFits C C.bo) := by
  refine F.ok (CX := CX0) sc_Bounded_fits (fun vs H Q E h => ?_) (fun cdv A outer s H vs Q E hr h => ?_)
  · obtain ⟨s, k, i, rfl, _⟩ := h
    rfl
  · obtain ⟨s, k, i, rfl, hK, hc, q⟩ := h
    have hu := hu_of hr
    have hu64 := hr.units
    refine ⟨_, PSs.nox (pss_one (ps_ret pe_bl)), ?_⟩
    have hk : fitB k i = true := by
      have hi := KC.idx_of nd (i := 2) rfl hc
      cases k <;> first | rfl | cases hi
    rw [hk] at q
    exact q H (Ex.refl H)
abbrev s_Counted_good : Stmt := meth 24 1
theorem sc_Counted_good : FnScope ["self", "thing"] ["self", "thing"] (defScope s_Counted_good) := ⟨rfl, rfl, rfl, by decide +kernel, rfl, by decide +kernel, by decide +kernel⟩
theorem ok_Counted_good {f : Addr} {fd : FuncData} (F : FnM K "Counted" "good" s_Counted_good f fd) {f_is_number : Addr} {fd_is_number : FuncData} (F_is_number : FnP K "is_number" s_is_number f_is_number fd_is_number) (g_is_number : mg "is_number" = some (.ref f_is_number)) (G_is_number : FnOk P w K mg base (CX0) 1 f_is_number fd_is_number ["thing"] (spNum K)) {C : KC} (T : ClsK K C) (d : Nat) {c : Addr} (h3 : ThreeC C c) (HA : ∀ e sp, (fun e => if e = c then some (spFits C c) else none) e = some sp → HeldM P w K mg base 1 "fits" e sp) (z_isinstance : mg "isinstance" = none) (z_str : mg "str" = none) : FnOk P w K mg base (CX0) 2 f fd ["self", "thing"] (spGood C d c) := by
  have b_is_number : Binds K fd_is_number ["thing"] [] := F_is_number.bindsN fun _ _ _ _ _ _ us hl => match us, hl with | [_], _ => rfl
  refine F.ok (CX := CX0) sc_Counted_good (fun vs H Q E h => ?_) (fun cdv A outer s H vs Q E hr h => ?_)
  · obtain ⟨s, k, x, dx, rfl, _⟩ := h
    rfl
  · obtain ⟨s, k, x, dx, rfl, hK, hc, hd, hx, q⟩ := h
    have hu := hu_of hr
    have hu64 := hr.units
    have hr_is_number := hr.mono (by decide : 1 ≤ 1)
    have hr_fits := hr.mono (by decide : 1 ≤ 1)
    refine ⟨_, PSs.nox (pss_cons (ps_if (pt_val (pe_callB call_isi (by rfl) z_isinstance PyProof.Rows.boot_isinstance (pa_cons (pv 1) (pa_cons (pe_bltn (v := .ty "str") rfl z_str (by decide +kernel) rfl) pa_nil)))) (pss_one (ps_ret (pe_cmpR op_in_seq (pv 1) (pe_fld (pv 0) rfl) (by rfl)))) pss_nil)
      (pss_one (ps_ret (pe_and (pe_call G_is_number hr_is_number rfl g_is_number F_is_number.kp b_is_number .nil pass0 (pa_cons (pv 1) pa_nil)) (pe_one (pe_methA (S := fun e => if e = c then some (spFits C c) else none) HA (pv 0) hr_fits (pa_cons (pv 1) pa_nil))))))), ?_⟩
    have ok := T.cls hc
    have hk := three_kind T.nd h3 hc
    obtain ⟨a, da, fs, p, rfl, ha, com, ho, hp⟩ := hK.three hk
    rw [hc] at ha
    have hG : dTx dx = false → goodB k dx = ((dNum dx).isSome && match dNum dx with | some i => fitB k i | none => false) := fun h => by
      rcases hk with rfl | rfl | rfl | rfl <;> cases dx <;> first | rfl | cases h
    refine q_when (b := dTx dx) (et_B (ev_tStr (ev_var rfl) hx.tells)) (fun hb H1 e1 => ?_) (fun hb H1 e1 => ?_)
    · cases hx with
      | str z =>
        have fl : (wordsOf k).all flatV = true := by rcases hk with rfl | rfl | rfl | rfl <;> rfl
        refine s_ret (ev_op (ev_var rfl) (ev_fldK (ev_var rfl) (e1 _ _ ha) ok (by decide) ho) (rv_isT (.inl (.inl (e1 _ _ hp))) rfl fl)) fun H2 e2 => ?_
        rw [words_good hk]
        exact q H2 (e1.trans e2)
      | _ => cases hb
    · rw [hG hb] at q
      refine s_ret (v := .bl ((dNum dx).isSome && match dNum dx with | some i => fitB k i | none => false)) (ev_andV (ev_call (ea_cons (ev_var rfl) ea_nil) fun H2 e2 Q' q' E' => ⟨x, _, rfl, (hx.ex (e1.trans e2)).num, fun H3 e3 => q' H3 e3⟩) fun hs => ?_) fun H2 e2 => q H2 (e1.trans e2)
      cases dx with
      | int i =>
        obtain rfl := hx.int_inv
        intro H2 e2 Q' q'
        have e12 := e1.trans e2
        exact ⟨_, rfl, a, c, da, fs, spFits C c, rfl, if_pos rfl, e12 _ _ ha, com.no _ (by decide), _, rfl, .ref a, k, i, rfl, hK.ex e12, hc, fun H3 e3 => q' H3 e3⟩
      | _ => cases hs
abbrev s_Truth_good : Stmt := meth 41 2
theorem sc_Truth_good : FnScope ["self", "thing"] ["self", "thing"] (defScope s_Truth_good) := ⟨rfl, rfl, rfl, by decide +kernel, rfl, by decide +kernel, by decide +kernel⟩
theorem ok_Truth_good {f : Addr} {fd : FuncData} (F : FnM K "Truth" "good" s_Truth_good f fd) {C : KC} (nd : C.all.Nodup) (d : Nat) (z_isinstance : mg "isinstance" = none) (z_bool : mg "bool" = none) : FnOk P w K mg base (CX0) 1 f fd ["self", "thing"] (spGood C d C.tr) := by
  refine F.ok (CX := CX0) sc_Truth_good (fun vs H Q E h => ?_) (fun cdv A outer s H vs Q E hr h => ?_)
  · obtain ⟨s, k, x, dx, rfl, _⟩ := h
    rfl
  · obtain ⟨s, k, x, dx, rfl, hK, hc, hd, hx, q⟩ := h
    have hu := hu_of hr
    have hu64 := hr.units
    refine ⟨_, PSs.nox (pss_one (ps_ret (pe_callB call_isi (by rfl) z_isinstance PyProof.Rows.boot_isinstance (pa_cons (pv 1) (pa_cons (pe_bltn (v := .ty "bool") rfl z_bool (by decide +kernel) rfl) pa_nil))))), ?_⟩
    have hi := KC.idx_of nd (i := 0) rfl hc
    have e : k = .truth := by cases k <;> first | rfl | cases hi
    subst e
    exact s_ret (D := { nx := fun _ H' => Q .non H', rt := Q }) (ev_tBool (ev_var rfl) hx.tells) fun H1 e1 => q H1 e1
def lenD : PyData → Nat
  | .tuple ds => ds.length
  | _ => 0
theorem ev_lenD {K : PySem.W.Frag} {σ : L2.St} {H : Hp} {te : TE} {v : V} {d : PyData} (h : Ev te σ H v) (hv : DtAt H v d) (ht : dTu d = true) : Ev (tCB (fun xs H Q => ∃ p ys, xs = [V.ref p] ∧ (SqL K H p ys ∨ SqT K H p ys) ∧ Q (.int ys.length) H) (tCons te tNil)) σ H (.int (lenD d)) := by
  cases hv with
  | tup ha r =>
    rw [show lenD (.tuple _) = _ from r.len.symm]
    exact ev_lenT h (.inl (.inl ha))
  | _ => cases ht
theorem two_of {d : PyData} (h : dTu d = true) (h2 : lenD d = 2) : ∃ x y, d = .tuple [x, y] := by
  cases d with
  | tuple ds =>
    match ds, h2 with
    | [x, y], _ => exact ⟨x, y, rfl⟩
  | _ => cases h
theorem ne_2 (n : Nat) : (!((n : Int) == (2 : Int))) = !decide (n = 2) := by
  by_cases h : n = 2
  · subst h
    rfl
  · rw [decide_eq_false h]
    have : ((n : Int) == (2 : Int)) = false := by
      rw [beq_eq_false_iff_ne]
      omega
    rw [this]
theorem shGood_tu {d : PyData} (h : (!dTu d || !decide (lenD d = 2)) = true) : shGood d = false := by
  unfold shGood
  split
  · cases h
  · rfl
theorem prGood_tu {f g : PyData → Bool} {d : PyData} (h : (!dTu d || !decide (lenD d = 2)) = true) : prGood f g d = false := by
  unfold prGood
  split
  · cases h
  · rfl
theorem shGood_two (x y : PyData) : shGood (.tuple [x, y]) = match dNum x, dNum y with | some p, some q => (decide (0 ≤ p) && decide (p ≤ q)) && (gI p q == 1) | _, _ => false := by
  cases x <;> cases y <;> rfl
abbrev s_Share_good : Stmt := meth 42 1
theorem sc_Share_good : FnScope ["self", "thing", "top", "bottom"] ["self", "thing"] (defScope s_Share_good) := ⟨rfl, rfl, rfl, by decide +kernel, rfl, by decide +kernel, by decide +kernel⟩
theorem ok_Share_good {f : Addr} {fd : FuncData} (F : FnM K "Share" "good" s_Share_good f fd) {f_is_number : Addr} {fd_is_number : FuncData} (F_is_number : FnP K "is_number" s_is_number f_is_number fd_is_number) (g_is_number : mg "is_number" = some (.ref f_is_number)) (G_is_number : FnOk P w K mg base (CX0) 1 f_is_number fd_is_number ["thing"] (spNum K)) {C : KC} (nd : C.all.Nodup) (d : Nat) (g_gcd : mg "gcd" = some (.builtin "math.gcd")) (z_isinstance : mg "isinstance" = none) (z_tuple : mg "tuple" = none) (z_len : mg "len" = none) : FnOk P w K mg base (CX0) 2 f fd ["self", "thing"] (spGood C d C.sh) := by
  have b_is_number : Binds K fd_is_number ["thing"] [] := F_is_number.bindsN fun _ _ _ _ _ _ us hl => match us, hl with | [_], _ => rfl
  refine F.ok (CX := CX0) sc_Share_good (fun vs H Q E h => ?_) (fun cdv A outer s H vs Q E hr h => ?_)
  · obtain ⟨s, k, x, dx, rfl, _⟩ := h
    rfl
  · obtain ⟨s, k, x, dx, rfl, hK, hc, hd, hx, q⟩ := h
    have hu := hu_of hr
    have hu64 := hr.units
    have hr_is_number := hr.mono (by decide : 1 ≤ 1)
    refine ⟨_, PSs.nox (pss_cons (ps_if (PW.pt (pw_or (pt_not (pt_val (pe_callB call_isi (by rfl) z_isinstance PyProof.Rows.boot_isinstance (pa_cons (pv 1) (pa_cons (pe_bltn (v := .ty "tuple") rfl z_tuple (by decide +kernel) rfl) pa_nil))))) (pw_or1 (pt_cmpR op_ne (pe_callB call_len_seq (by rfl) z_len PySem.boot_len (pa_cons (pv 1) pa_nil)) pe_int (nomark _))))) (pss_one (ps_ret pe_bl)) pss_nil)
      (pss_cons (ps_asg (pv 1) (pg_tup rfl (pgs_cons (pg_name (i := 2) sc_Share_good.nd rfl (Or.inl rfl)) (pgs_cons (pg_name (i := 3) sc_Share_good.nd rfl (Or.inl rfl)) pgs_nil))))
      (pss_cons (ps_if (PW.pt (pw_or (pt_not (pt_val (pe_call G_is_number hr_is_number rfl g_is_number F_is_number.kp b_is_number .nil pass0 (pa_cons (pv 2) pa_nil)))) (pw_or1 (pt_not (pt_val (pe_call G_is_number hr_is_number rfl g_is_number F_is_number.kp b_is_number .nil pass0 (pa_cons (pv 3) pa_nil))))))) (pss_one (ps_ret pe_bl)) pss_nil)
      (pss_one (ps_ret (pe_and (pe_chain op_le op_le pe_int (pv 2) (pv 3)) (pe_one (pe_cmpR op_eq (pe_callBfun cr_gcd (by rfl) g_gcd (pa_cons (pv 2) (pa_cons (pv 3) pa_nil))) pe_int (nomark _))))))))), ?_⟩
    have hi := KC.idx_of nd (i := 4) rfl hc
    have e : k = .share := by cases k <;> first | rfl | cases hi
    subst e
    have q : ∀ H', Ex H H' → Q (.bl (shGood dx)) H' := q
    refine q_when (b := !dTu dx || !decide (lenD dx = 2)) (et_or (et_not (et_B (ev_tTup (ev_var rfl) hx.tells))) (fun ht => et_is (et_test (ev_neI (ev_lenD (ev_var rfl) hx (by simpa using ht)) ev_c)) (ne_2 _))) (fun hb H1 e1 => ?_) (fun hb H1 e1 => ?_)
    · exact s_ret ev_c fun H2 e2 => by
        have := q H2 (e1.trans e2)
        rw [shGood_tu hb] at this
        exact this
    obtain ⟨h1, h2⟩ := or_no hb
    obtain ⟨dp, dq, rfl⟩ := two_of (by simpa using h1) (by simpa using h2)
    obtain ⟨ax, up, uq, rfl, hax, hp, hq⟩ := id hx.two
    rw [shGood_two] at q
    refine ⟨_, rfl, ax, [up, uq], rfl, .inl (.inl (e1 _ _ hax)), rfl, _, _, rfl, _, _, rfl, rfl, ?_⟩
    refine q_when (b := !(dNum dp).isSome || !(dNum dq).isSome) (et_or (et_not (et_B (ev_call (ea_cons (ev_var rfl) ea_nil) fun H2 e2 Q' q' E' => ⟨_, _, rfl, (hp.ex (e1.trans e2)).num, fun H3 e3 => q' H3 e3⟩))) (fun _ => et_not (et_B (ev_call (ea_cons (ev_var rfl) ea_nil) fun H2 e2 Q' q' E' => ⟨_, _, rfl, (hq.ex (e1.trans e2)).num, fun H3 e3 => q' H3 e3⟩)))) (fun hb2 H2 e2 => ?_) (fun hb2 H2 e2 => ?_)
    · exact s_ret ev_c fun H3 e3 => by
        have := q H3 ((e1.trans e2).trans e3)
        cases hdp : dNum dp with
        | none =>
          rw [hdp] at this
          exact this
        | some i =>
          cases hdq : dNum dq with
          | none =>
            rw [hdp, hdq] at this
            exact this
          | some j =>
            rw [hdp, hdq] at hb2
            cases hb2
    · obtain ⟨h3, h4⟩ := or_no hb2
      cases dp with
      | int p =>
        cases dq with
        | int r =>
          obtain rfl := hp.int_inv
          obtain rfl := hq.int_inv
          exact s_ret (v := .bl ((decide (0 ≤ p) && decide (p ≤ r)) && (gI p r == 1))) (ev_andV (ev_chainLe ev_c (ev_var rfl) (ev_var rfl)) fun _ => ev_eqI (ev_cb (ea_cons (ev_var rfl) (ea_cons (ev_var rfl) ea_nil)) fun H3 e3 Q' q' => ⟨_, _, rfl, q' H3 (Ex.refl H3)⟩) ev_c) fun H3 e3 => q H3 ((e1.trans e2).trans e3)
        | _ => cases h4
      | _ => cases h3
abbrev s_Lot_good : Stmt := meth 43 2
theorem sc_Lot_good : FnScope ["self", "thing"] ["self", "thing"] (defScope s_Lot_good) := ⟨rfl, rfl, rfl, by decide +kernel, rfl, by decide +kernel, by decide +kernel⟩
theorem ok_Lot_good {f : Addr} {fd : FuncData} (F : FnM K "Lot" "good" s_Lot_good f fd) {f_is_number : Addr} {fd_is_number : FuncData} (F_is_number : FnP K "is_number" s_is_number f_is_number fd_is_number) (g_is_number : mg "is_number" = some (.ref f_is_number)) (G_is_number : FnOk P w K mg base (CX0) 1 f_is_number fd_is_number ["thing"] (spNum K)) {C : KC} (nd : C.all.Nodup) (d : Nat) (HA : ∀ e sp, (fun e => if e = C.lo then some (spOne C d C.lo) else none) e = some sp → HeldM P w K mg base 1 "one" e sp) : FnOk P w K mg base (CX0) 2 f fd ["self", "thing"] (spGood C d C.lo) := by
  have b_is_number : Binds K fd_is_number ["thing"] [] := F_is_number.bindsN fun _ _ _ _ _ _ us hl => match us, hl with | [_], _ => rfl
  refine F.ok (CX := CX0) sc_Lot_good (fun vs H Q E h => ?_) (fun cdv A outer s H vs Q E hr h => ?_)
  · obtain ⟨s, k, x, dx, rfl, _⟩ := h
    rfl
  · obtain ⟨s, k, x, dx, rfl, hK, hc, hd, hx, q⟩ := h
    have hu := hu_of hr
    have hu64 := hr.units
    have hr_is_number := hr.mono (by decide : 1 ≤ 1)
    have hr_one := hr.mono (by decide : 1 ≤ 1)
    refine ⟨_, PSs.nox (pss_one (ps_ret (pe_and (pe_call G_is_number hr_is_number rfl g_is_number F_is_number.kp b_is_number .nil pass0 (pa_cons (pv 1) pa_nil)) (pe_one (pe_chain op_le op_le pe_int (pv 1) (pe_methA0 (S := fun e => if e = C.lo then some (spOne C d C.lo) else none) HA (pv 0) hr_one)))))), ?_⟩
    have hi := KC.idx_of nd (i := 5) rfl hc
    obtain ⟨n, rfl⟩ : ∃ n, k = .lot n := by cases k <;> first | exact ⟨_, rfl⟩ | cases hi
    obtain ⟨a, da, fs, rfl, ha, com⟩ := hK.com
    have q : ∀ H', Ex H H' → Q (.bl (lotGood n dx)) H' := q
    have hG : lotGood n dx = ((dNum dx).isSome && lotGood n dx) := by cases dx <;> rfl
    rw [hG] at q
    refine s_ret (D := { nx := fun _ H' => Q .non H', rt := Q }) (ev_andV (ev_call (z := .bl (dNum dx).isSome) (ea_cons (ev_var rfl) ea_nil) fun H2 e2 Q' q' E' => ⟨x, _, rfl, (hx.ex e2).num, fun H3 e3 => q' H3 e3⟩) fun hs => ?_) fun H2 e2 => q H2 e2
    cases dx with
    | int i =>
      obtain rfl := hx.int_inv
      refine ev_is (ev_chainLe ev_c (ev_var rfl) (c := 2 ^ n - 1) fun H2 e2 Q' q' => ⟨_, rfl, a, C.lo, da, fs, spOne C d C.lo, rfl, if_pos rfl, e2 _ _ ha, com.no _ (by decide), .ref a, .lot n, rfl, hK.ex e2, rfl, hd, fun r H3 e3 hr => ?_⟩) rfl
      obtain rfl := hr.int_inv
      exact q' H3 e3
    | _ => cases hs
end
end D1
end
section
set_option Elab.async false
set_option linter.all false
set_option maxRecDepth 100000
set_option maxHeartbeats 4000000
/-! R4: pairs, and so all kinds -/
namespace D1
open PySem L2 Evl RZ ClX PySem.VX
section
variable {P : Program} {w : World} {K : PySem.W.Frag} {mg : Str → Option Value} {base : Heap}
theorem fn_never {CX : CXT} {k : Nat} {f : Addr} {fd : FuncData} {ps : List Str} {sp : Sp} (h : ∀ vs H Q E, ¬sp vs H Q E) : FnOk P w K mg base CX k f fd ps sp := ⟨fun vs H Q E z => (h vs H Q E z).elim, fun _ _ _ _ _ _ vs Q E _ _ _ _ z => (h vs _ Q E z).elim⟩
theorem pair_kind {C : KC} (nd : C.all.Nodup) {k : RK} (h : C.cls k = C.pa) : ∃ l r, k = .pair l r := by
  have hi := KC.idx_of nd (i := 6) rfl h
  cases k <;> first | exact ⟨_, _, rfl⟩ | cases hi
theorem depth_l {l r : RK} {d : Nat} (h : (RK.pair l r).depth < d + 1) : l.depth < d := by
  have h : max l.depth r.depth + 1 < d + 1 := h
  have := Nat.le_max_left l.depth r.depth
  omega
theorem depth_r {l r : RK} {d : Nat} (h : (RK.pair l r).depth < d + 1) : r.depth < d := by
  have h : max l.depth r.depth + 1 < d + 1 := h
  have := Nat.le_max_right l.depth r.depth
  omega
abbrev s_Pair_times : Stmt := meth 35 5
theorem sc_Pair_times : FnScope ["self", "a", "b"] ["self", "a", "b"] (defScope s_Pair_times) := ⟨rfl, rfl, rfl, by decide +kernel, rfl, by decide +kernel, by decide +kernel⟩
theorem ok_Pair_times {f : Addr} {fd : FuncData} (F : FnM K "Pair" "times" s_Pair_times f fd) {C : KC} (T : ClsK K C) {d : Nat} (HA : ∀ e sp, SK C (spTimes C d) e = some sp → HeldM P w K mg base (d + 1) "times" e sp) : FnOk P w K mg base (CX0) (d + 2) f fd ["self", "a", "b"] (spTimes C (d + 1) C.pa) := by
  refine F.ok (CX := CX0) sc_Pair_times (fun vs H Q E h => ?_) (fun cdv A outer s H vs Q E hr h => ?_)
  · obtain ⟨s, k, x, y, dx, dy, B, rfl, _⟩ := h
    rfl
  · obtain ⟨s, k, x, y, dx, dy, B, rfl, hK, hc, hd, hx, hy, gx, gy, sx, sy, hB, q⟩ := h
    have hu := hu_of hr
    have hu64 := hr.units
    have hr_in := hr.mono (Nat.le_refl _)
    refine ⟨_, PSs.nox (pss_one (ps_ret (pe_tup (pa_cons (pe_methA (S := SK C (spTimes C d)) HA (pe_fld (pv 0) rfl) hr_in (pa_cons (pe_ix ix_tup (pv 1) pe_int (fun _ _ => rfl)) (pa_cons (pe_ix ix_tup (pv 2) pe_int (fun _ _ => rfl)) pa_nil))) (pa_cons (pe_methA (S := SK C (spTimes C d)) HA (pe_fld (pv 0) rfl) hr_in (pa_cons (pe_ix ix_tup (pv 1) pe_int (fun _ _ => rfl)) (pa_cons (pe_ix ix_tup (pv 2) pe_int (fun _ _ => rfl)) pa_nil))) pa_nil))))), ?_⟩
    obtain ⟨kl, kr, rfl⟩ := pair_kind T.nd hc
    have ok := T.cls (k := .pair kl kr) rfl
    obtain ⟨x1, x2, rfl, g1, g2⟩ := good_pair gx
    obtain ⟨y1, y2, rfl, g3, g4⟩ := good_pair gy
    obtain ⟨s1, s2, _⟩ := sx
    obtain ⟨s3, s4, _⟩ := sy
    obtain ⟨ax, u1, u2, rfl, hax, v1, v2⟩ := id hx.two
    obtain ⟨ay, t1, t2, rfl, hay, v3, v4⟩ := id hy.two
    obtain ⟨a, da, fs, fl, fr, rfl, ha, com, l1, l2, k1, k2⟩ := id hK
    obtain ⟨la, ld, lf, rfl, hla, lcom⟩ := id k1.com
    obtain ⟨ra, rd, rf, rfl, hra, rcom⟩ := id k2.com
    refine ⟨_, rfl, a, _, da, fs, _, rfl, ha, ok.cls, ok.no _ (by decide), l1, la, _, ld, lf, _, rfl, SK.at kl, hla, lcom.no _ (by decide), ?_⟩
    refine ⟨_, rfl, ax, _, _, _, rfl, rfl, .inl (.inl hax), rfl, _, rfl, ay, _, _, _, rfl, rfl, .inl (.inl hay), rfl, .ref la, kl, _, _, _, _, B, rfl, k1, rfl, depth_l hd, v1, v3, g1, g3, s1, s3, hB, fun r1 H1 e1 hr1 => ?_⟩
    refine ⟨_, rfl, a, _, da, fs, _, rfl, e1 _ _ ha, ok.cls, ok.no _ (by decide), l2, ra, _, rd, rf, _, rfl, SK.at kr, e1 _ _ hra, rcom.no _ (by decide), ?_⟩
    refine ⟨_, rfl, ax, _, _, _, rfl, rfl, .inl (.inl (e1 _ _ hax)), rfl, _, rfl, ay, _, _, _, rfl, rfl, .inl (.inl (e1 _ _ hay)), rfl, .ref ra, kr, _, _, _, _, B, rfl, k2.ex e1, rfl, depth_r hd, v2.ex e1, v4.ex e1, g2, g4, s2, s4, hB, fun r2 H2 e2 hr2 => ⟨by show 2 ≤ sizeLine; decide, fun l hl => ?_⟩⟩
    exact q _ _ ((e1.trans e2).trans (Ex.new hl)) (.new hl (.cons (hr1.ex e2) (.cons hr2 .nil)))
abbrev s_Pair_closed : Stmt := meth 35 1
theorem sc_Pair_closed : FnScope ["self"] ["self"] (defScope s_Pair_closed) := ⟨rfl, rfl, rfl, by decide +kernel, rfl, by decide +kernel, by decide +kernel⟩
theorem ok_Pair_closed {f : Addr} {fd : FuncData} (F : FnM K "Pair" "closed" s_Pair_closed f fd) {C : KC} (T : ClsK K C) {d : Nat} (HA : ∀ e sp, SK C (spClosed C d) e = some sp → HeldM P w K mg base (d + 1) "closed" e sp) : FnOk P w K mg base (CX0) (d + 2) f fd ["self"] (spClosed C (d + 1) C.pa) := by
  refine F.ok (CX := CX0) sc_Pair_closed (fun vs H Q E h => ?_) (fun cdv A outer s H vs Q E hr h => ?_)
  · obtain ⟨s, k, rfl, _⟩ := h
    rfl
  · obtain ⟨s, k, rfl, hK, hc, hd, q⟩ := h
    have hu := hu_of hr
    have hu64 := hr.units
    have hr_in := hr.mono (Nat.le_refl _)
    refine ⟨_, PSs.nox (pss_one (ps_ret (pe_and (pe_methA0 (S := SK C (spClosed C d)) HA (pe_fld (pv 0) rfl) hr_in) (pe_one (pe_methA0 (S := SK C (spClosed C d)) HA (pe_fld (pv 0) rfl) hr_in))))), ?_⟩
    obtain ⟨kl, kr, rfl⟩ := pair_kind T.nd hc
    have ok := T.cls (k := .pair kl kr) rfl
    obtain ⟨a, da, fs, fl, fr, rfl, ha, com, l1, l2, k1, k2⟩ := id hK
    obtain ⟨la, ld, lf, rfl, hla, lcom⟩ := id k1.com
    obtain ⟨ra, rd, rf, rfl, hra, rcom⟩ := id k2.com
    refine s_ret (D := { nx := fun _ H' => Q .non H', rt := Q }) (v := .bl true) (ev_is (ev_andV (a := true) (b := true) (fun H1 e1 Q' q' => ?_) (fun _ H1 e1 Q' q' => ?_)) rfl) fun H1 e1 => q H1 e1
    · exact ⟨_, rfl, a, _, da, fs, _, rfl, e1 _ _ ha, ok.cls, ok.no _ (by decide), l1, la, _, ld, lf, _, rfl, SK.at kl, e1 _ _ hla, lcom.no _ (by decide), .ref la, kl, rfl, k1.ex e1, rfl, depth_l hd, fun H2 e2 => q' H2 e2⟩
    · exact ⟨_, rfl, a, _, da, fs, _, rfl, e1 _ _ ha, ok.cls, ok.no _ (by decide), l2, ra, _, rd, rf, _, rfl, SK.at kr, e1 _ _ hra, rcom.no _ (by decide), .ref ra, kr, rfl, k2.ex e1, rfl, depth_r hd, fun H2 e2 => q' H2 e2⟩
abbrev s_Pair_good : Stmt := meth 35 3
theorem sc_Pair_good : FnScope ["self", "thing"] ["self", "thing"] (defScope s_Pair_good) := ⟨rfl, rfl, rfl, by decide +kernel, rfl, by decide +kernel, by decide +kernel⟩
theorem ok_Pair_good {f : Addr} {fd : FuncData} (F : FnM K "Pair" "good" s_Pair_good f fd) {C : KC} (T : ClsK K C) {d : Nat} (HA : ∀ e sp, SK C (spGood C d) e = some sp → HeldM P w K mg base (d + 2) "good" e sp) (z_isinstance : mg "isinstance" = none) (z_tuple : mg "tuple" = none) (z_len : mg "len" = none) : FnOk P w K mg base (CX0) (d + 3) f fd ["self", "thing"] (spGood C (d + 1) C.pa) := by
  refine F.ok (CX := CX0) sc_Pair_good (fun vs H Q E h => ?_) (fun cdv A outer s H vs Q E hr h => ?_)
  · obtain ⟨s, k, x, dx, rfl, _⟩ := h
    rfl
  · obtain ⟨s, k, x, dx, rfl, hK, hc, hd, hx, q⟩ := h
    have hu := hu_of hr
    have hu64 := hr.units
    have hr_in := hr.mono (Nat.le_refl _)
    refine ⟨_, PSs.nox (pss_cons (ps_if (PW.pt (pw_or (pt_not (pt_val (pe_callB call_isi (by rfl) z_isinstance PyProof.Rows.boot_isinstance (pa_cons (pv 1) (pa_cons (pe_bltn (v := .ty "tuple") rfl z_tuple (by decide +kernel) rfl) pa_nil))))) (pw_or1 (pt_cmpR op_ne (pe_callB call_len_seq (by rfl) z_len PySem.boot_len (pa_cons (pv 1) pa_nil)) pe_int (nomark _))))) (pss_one (ps_ret pe_bl)) pss_nil)
      (pss_one (ps_ret (pe_and (pe_methA (S := SK C (spGood C d)) HA (pe_fld (pv 0) rfl) hr_in (pa_cons (pe_ix ix_tup (pv 1) pe_int (fun _ _ => rfl)) pa_nil)) (pe_one (pe_methA (S := SK C (spGood C d)) HA (pe_fld (pv 0) rfl) hr_in (pa_cons (pe_ix ix_tup (pv 1) pe_int (fun _ _ => rfl)) pa_nil))))))), ?_⟩
    obtain ⟨kl, kr, rfl⟩ := pair_kind T.nd hc
    have ok := T.cls (k := .pair kl kr) rfl
    obtain ⟨a, da, fs, fl, fr, rfl, ha, com, l1, l2, k1, k2⟩ := id hK
    obtain ⟨la, ld, lf, rfl, hla, lcom⟩ := id k1.com
    obtain ⟨ra, rd, rf, rfl, hra, rcom⟩ := id k2.com
    have q : ∀ H', Ex H H' → Q (.bl (prGood (goodB kl) (goodB kr) dx)) H' := q
    refine q_when (b := !dTu dx || !decide (lenD dx = 2)) (et_or (et_not (et_B (ev_tTup (ev_var rfl) hx.tells))) (fun ht => et_is (et_test (ev_neI (ev_lenD (ev_var rfl) hx (by simpa using ht)) ev_c)) (ne_2 _))) (fun hb H1 e1 => ?_) (fun hb H1 e1 => ?_)
    · exact s_ret ev_c fun H2 e2 => by
        have := q H2 (e1.trans e2)
        rw [prGood_tu hb] at this
        exact this
    obtain ⟨h1, h2⟩ := or_no hb
    obtain ⟨dp, dq, rfl⟩ := two_of (by simpa using h1) (by simpa using h2)
    obtain ⟨ax, up, uq, rfl, hax, hp, hq⟩ := id hx.two
    refine s_ret (v := .bl (goodB kl dp && goodB kr dq)) (ev_andV (fun H2 e2 Q' q' => ?_) (fun _ H2 e2 Q' q' => ?_)) fun H2 e2 => q H2 (e1.trans e2)
    · have e := e1.trans e2
      exact ⟨_, rfl, a, _, da, fs, _, rfl, e _ _ ha, ok.cls, ok.no _ (by decide), l1, la, _, ld, lf, _, rfl, SK.at kl, e _ _ hla, lcom.no _ (by decide), _, rfl, ax, _, _, _, rfl, rfl, .inl (.inl (e _ _ hax)), rfl, .ref la, kl, _, _, rfl, k1.ex e, rfl, depth_l hd, hp.ex e, fun H3 e3 => q' H3 e3⟩
    · have e := e1.trans e2
      exact ⟨_, rfl, a, _, da, fs, _, rfl, e _ _ ha, ok.cls, ok.no _ (by decide), l2, ra, _, rd, rf, _, rfl, SK.at kr, e _ _ hra, rcom.no _ (by decide), _, rfl, ax, _, _, _, rfl, rfl, .inl (.inl (e _ _ hax)), rfl, .ref ra, kr, _, _, rfl, k2.ex e, rfl, depth_r hd, hq.ex e, fun H3 e3 => q' H3 e3⟩
theorem all_times {C : KC} (T : ClsK K C) {f_tr : Addr} {fd_tr : FuncData} (m_tr : Meth K C.tr "times" f_tr) (b_tr : Binds K fd_tr ["self", "a", "b"] []) {f_co : Addr} {fd_co : FuncData} (m_co : Meth K C.co "times" f_co) (b_co : Binds K fd_co ["self", "a", "b"] []) {f_bo : Addr} {fd_bo : FuncData} (m_bo : Meth K C.bo "times" f_bo) (b_bo : Binds K fd_bo ["self", "a", "b"] []) {f_na : Addr} {fd_na : FuncData} (m_na : Meth K C.na "times" f_na) (b_na : Binds K fd_na ["self", "a", "b"] []) {f_sh : Addr} {fd_sh : FuncData} (m_sh : Meth K C.sh "times" f_sh) (b_sh : Binds K fd_sh ["self", "a", "b"] []) {f_lo : Addr} {fd_lo : FuncData} (m_lo : Meth K C.lo "times" f_lo) (b_lo : Binds K fd_lo ["self", "a", "b"] []) {f_pa : Addr} {fd_pa : FuncData} (m_pa : Meth K C.pa "times" f_pa) (b_pa : Binds K fd_pa ["self", "a", "b"] []) (G_tr : ∀ d, FnOk P w K mg base CX0 1 f_tr fd_tr ["self", "a", "b"] (spTimes C d C.tr)) (G_co : ∀ d, FnOk P w K mg base CX0 1 f_co fd_co ["self", "a", "b"] (spTimes C d C.co)) (G_bo : ∀ d, FnOk P w K mg base CX0 1 f_bo fd_bo ["self", "a", "b"] (spTimes C d C.bo)) (G_na : ∀ d, FnOk P w K mg base CX0 1 f_na fd_na ["self", "a", "b"] (spTimes C d C.na)) (G_sh : ∀ d, FnOk P w K mg base CX0 1 f_sh fd_sh ["self", "a", "b"] (spTimes C d C.sh)) (G_lo : ∀ d, FnOk P w K mg base CX0 1 f_lo fd_lo ["self", "a", "b"] (spTimes C d C.lo)) (G_pa : ∀ d, (∀ e sp, SK C (spTimes C d) e = some sp → HeldM P w K mg base (d + 1) "times" e sp) → FnOk P w K mg base CX0 (d + 2) f_pa fd_pa ["self", "a", "b"] (spTimes C (d + 1) C.pa)) : ∀ d, ∀ e sp, SK C (spTimes C d) e = some sp → HeldM P w K mg base (d + 1) "times" e sp
  | 0, e, sp, h => by
    obtain ⟨rfl, i, hi⟩ := SK.inv h
    match i, hi with
    | 0, hi => cases Option.some.inj hi; exact ⟨(T.ok _ (List.mem_of_getElem? (i := 0) rfl)).cls, f_tr, fd_tr, _, m_tr, (G_tr 0).mono (by omega), b_tr⟩
    | 1, hi => cases Option.some.inj hi; exact ⟨(T.ok _ (List.mem_of_getElem? (i := 1) rfl)).cls, f_co, fd_co, _, m_co, (G_co 0).mono (by omega), b_co⟩
    | 2, hi => cases Option.some.inj hi; exact ⟨(T.ok _ (List.mem_of_getElem? (i := 2) rfl)).cls, f_bo, fd_bo, _, m_bo, (G_bo 0).mono (by omega), b_bo⟩
    | 3, hi => cases Option.some.inj hi; exact ⟨(T.ok _ (List.mem_of_getElem? (i := 3) rfl)).cls, f_na, fd_na, _, m_na, (G_na 0).mono (by omega), b_na⟩
    | 4, hi => cases Option.some.inj hi; exact ⟨(T.ok _ (List.mem_of_getElem? (i := 4) rfl)).cls, f_sh, fd_sh, _, m_sh, (G_sh 0).mono (by omega), b_sh⟩
    | 5, hi => cases Option.some.inj hi; exact ⟨(T.ok _ (List.mem_of_getElem? (i := 5) rfl)).cls, f_lo, fd_lo, _, m_lo, (G_lo 0).mono (by omega), b_lo⟩
    | 6, hi => cases Option.some.inj hi; exact ⟨(T.ok _ (List.mem_of_getElem? (i := 6) rfl)).cls, f_pa, fd_pa, _, m_pa, fn_never (fun vs H Q E ⟨_, _, _, _, _, _, _, _, _, _, hd, _⟩ => absurd hd (by omega)), b_pa⟩
    | i + 7, hi => exact absurd hi (by simp [KC.all])
  | d + 1, e, sp, h => by
    have ih := all_times T m_tr b_tr m_co b_co m_bo b_bo m_na b_na m_sh b_sh m_lo b_lo m_pa b_pa G_tr G_co G_bo G_na G_sh G_lo G_pa d
    obtain ⟨rfl, i, hi⟩ := SK.inv h
    match i, hi with
    | 0, hi => cases Option.some.inj hi; exact ⟨(T.ok _ (List.mem_of_getElem? (i := 0) rfl)).cls, f_tr, fd_tr, _, m_tr, (G_tr (d + 1)).mono (by omega), b_tr⟩
    | 1, hi => cases Option.some.inj hi; exact ⟨(T.ok _ (List.mem_of_getElem? (i := 1) rfl)).cls, f_co, fd_co, _, m_co, (G_co (d + 1)).mono (by omega), b_co⟩
    | 2, hi => cases Option.some.inj hi; exact ⟨(T.ok _ (List.mem_of_getElem? (i := 2) rfl)).cls, f_bo, fd_bo, _, m_bo, (G_bo (d + 1)).mono (by omega), b_bo⟩
    | 3, hi => cases Option.some.inj hi; exact ⟨(T.ok _ (List.mem_of_getElem? (i := 3) rfl)).cls, f_na, fd_na, _, m_na, (G_na (d + 1)).mono (by omega), b_na⟩
    | 4, hi => cases Option.some.inj hi; exact ⟨(T.ok _ (List.mem_of_getElem? (i := 4) rfl)).cls, f_sh, fd_sh, _, m_sh, (G_sh (d + 1)).mono (by omega), b_sh⟩
    | 5, hi => cases Option.some.inj hi; exact ⟨(T.ok _ (List.mem_of_getElem? (i := 5) rfl)).cls, f_lo, fd_lo, _, m_lo, (G_lo (d + 1)).mono (by omega), b_lo⟩
    | 6, hi => cases Option.some.inj hi; exact ⟨(T.ok _ (List.mem_of_getElem? (i := 6) rfl)).cls, f_pa, fd_pa, _, m_pa, (by have := G_pa d ih; rw [show d + 2 = d + 1 + 1 by omega] at this; exact this), b_pa⟩
    | i + 7, hi => exact absurd hi (by simp [KC.all])
theorem all_good {C : KC} (T : ClsK K C) {f_tr : Addr} {fd_tr : FuncData} (m_tr : Meth K C.tr "good" f_tr) (b_tr : Binds K fd_tr ["self", "thing"] []) {f_co : Addr} {fd_co : FuncData} (m_co : Meth K C.co "good" f_co) (b_co : Binds K fd_co ["self", "thing"] []) {f_bo : Addr} {fd_bo : FuncData} (m_bo : Meth K C.bo "good" f_bo) (b_bo : Binds K fd_bo ["self", "thing"] []) {f_na : Addr} {fd_na : FuncData} (m_na : Meth K C.na "good" f_na) (b_na : Binds K fd_na ["self", "thing"] []) {f_sh : Addr} {fd_sh : FuncData} (m_sh : Meth K C.sh "good" f_sh) (b_sh : Binds K fd_sh ["self", "thing"] []) {f_lo : Addr} {fd_lo : FuncData} (m_lo : Meth K C.lo "good" f_lo) (b_lo : Binds K fd_lo ["self", "thing"] []) {f_pa : Addr} {fd_pa : FuncData} (m_pa : Meth K C.pa "good" f_pa) (b_pa : Binds K fd_pa ["self", "thing"] []) (G_tr : ∀ d, FnOk P w K mg base CX0 2 f_tr fd_tr ["self", "thing"] (spGood C d C.tr)) (G_co : ∀ d, FnOk P w K mg base CX0 2 f_co fd_co ["self", "thing"] (spGood C d C.co)) (G_bo : ∀ d, FnOk P w K mg base CX0 2 f_bo fd_bo ["self", "thing"] (spGood C d C.bo)) (G_na : ∀ d, FnOk P w K mg base CX0 2 f_na fd_na ["self", "thing"] (spGood C d C.na)) (G_sh : ∀ d, FnOk P w K mg base CX0 2 f_sh fd_sh ["self", "thing"] (spGood C d C.sh)) (G_lo : ∀ d, FnOk P w K mg base CX0 2 f_lo fd_lo ["self", "thing"] (spGood C d C.lo)) (G_pa : ∀ d, (∀ e sp, SK C (spGood C d) e = some sp → HeldM P w K mg base (d + 2) "good" e sp) → FnOk P w K mg base CX0 (d + 3) f_pa fd_pa ["self", "thing"] (spGood C (d + 1) C.pa)) : ∀ d, ∀ e sp, SK C (spGood C d) e = some sp → HeldM P w K mg base (d + 2) "good" e sp
  | 0, e, sp, h => by
    obtain ⟨rfl, i, hi⟩ := SK.inv h
    match i, hi with
    | 0, hi => cases Option.some.inj hi; exact ⟨(T.ok _ (List.mem_of_getElem? (i := 0) rfl)).cls, f_tr, fd_tr, _, m_tr, (G_tr 0).mono (by omega), b_tr⟩
    | 1, hi => cases Option.some.inj hi; exact ⟨(T.ok _ (List.mem_of_getElem? (i := 1) rfl)).cls, f_co, fd_co, _, m_co, (G_co 0).mono (by omega), b_co⟩
    | 2, hi => cases Option.some.inj hi; exact ⟨(T.ok _ (List.mem_of_getElem? (i := 2) rfl)).cls, f_bo, fd_bo, _, m_bo, (G_bo 0).mono (by omega), b_bo⟩
    | 3, hi => cases Option.some.inj hi; exact ⟨(T.ok _ (List.mem_of_getElem? (i := 3) rfl)).cls, f_na, fd_na, _, m_na, (G_na 0).mono (by omega), b_na⟩
    | 4, hi => cases Option.some.inj hi; exact ⟨(T.ok _ (List.mem_of_getElem? (i := 4) rfl)).cls, f_sh, fd_sh, _, m_sh, (G_sh 0).mono (by omega), b_sh⟩
    | 5, hi => cases Option.some.inj hi; exact ⟨(T.ok _ (List.mem_of_getElem? (i := 5) rfl)).cls, f_lo, fd_lo, _, m_lo, (G_lo 0).mono (by omega), b_lo⟩
    | 6, hi => cases Option.some.inj hi; exact ⟨(T.ok _ (List.mem_of_getElem? (i := 6) rfl)).cls, f_pa, fd_pa, _, m_pa, fn_never (fun vs H Q E ⟨_, _, _, _, _, _, _, hd, _⟩ => absurd hd (by omega)), b_pa⟩
    | i + 7, hi => exact absurd hi (by simp [KC.all])
  | d + 1, e, sp, h => by
    have ih := all_good T m_tr b_tr m_co b_co m_bo b_bo m_na b_na m_sh b_sh m_lo b_lo m_pa b_pa G_tr G_co G_bo G_na G_sh G_lo G_pa d
    obtain ⟨rfl, i, hi⟩ := SK.inv h
    match i, hi with
    | 0, hi => cases Option.some.inj hi; exact ⟨(T.ok _ (List.mem_of_getElem? (i := 0) rfl)).cls, f_tr, fd_tr, _, m_tr, (G_tr (d + 1)).mono (by omega), b_tr⟩
    | 1, hi => cases Option.some.inj hi; exact ⟨(T.ok _ (List.mem_of_getElem? (i := 1) rfl)).cls, f_co, fd_co, _, m_co, (G_co (d + 1)).mono (by omega), b_co⟩
    | 2, hi => cases Option.some.inj hi; exact ⟨(T.ok _ (List.mem_of_getElem? (i := 2) rfl)).cls, f_bo, fd_bo, _, m_bo, (G_bo (d + 1)).mono (by omega), b_bo⟩
    | 3, hi => cases Option.some.inj hi; exact ⟨(T.ok _ (List.mem_of_getElem? (i := 3) rfl)).cls, f_na, fd_na, _, m_na, (G_na (d + 1)).mono (by omega), b_na⟩
    | 4, hi => cases Option.some.inj hi; exact ⟨(T.ok _ (List.mem_of_getElem? (i := 4) rfl)).cls, f_sh, fd_sh, _, m_sh, (G_sh (d + 1)).mono (by omega), b_sh⟩
    | 5, hi => cases Option.some.inj hi; exact ⟨(T.ok _ (List.mem_of_getElem? (i := 5) rfl)).cls, f_lo, fd_lo, _, m_lo, (G_lo (d + 1)).mono (by omega), b_lo⟩
    | 6, hi => cases Option.some.inj hi; exact ⟨(T.ok _ (List.mem_of_getElem? (i := 6) rfl)).cls, f_pa, fd_pa, _, m_pa, (by have := G_pa d ih; rw [show d + 3 = d + 1 + 2 by omega] at this; exact this), b_pa⟩
    | i + 7, hi => exact absurd hi (by simp [KC.all])
theorem all_closed {C : KC} (T : ClsK K C) {f_tr : Addr} {fd_tr : FuncData} (m_tr : Meth K C.tr "closed" f_tr) (b_tr : Binds K fd_tr ["self"] []) {f_co : Addr} {fd_co : FuncData} (m_co : Meth K C.co "closed" f_co) (b_co : Binds K fd_co ["self"] []) {f_bo : Addr} {fd_bo : FuncData} (m_bo : Meth K C.bo "closed" f_bo) (b_bo : Binds K fd_bo ["self"] []) {f_na : Addr} {fd_na : FuncData} (m_na : Meth K C.na "closed" f_na) (b_na : Binds K fd_na ["self"] []) {f_sh : Addr} {fd_sh : FuncData} (m_sh : Meth K C.sh "closed" f_sh) (b_sh : Binds K fd_sh ["self"] []) {f_lo : Addr} {fd_lo : FuncData} (m_lo : Meth K C.lo "closed" f_lo) (b_lo : Binds K fd_lo ["self"] []) {f_pa : Addr} {fd_pa : FuncData} (m_pa : Meth K C.pa "closed" f_pa) (b_pa : Binds K fd_pa ["self"] []) (G_tr : ∀ d, FnOk P w K mg base CX0 1 f_tr fd_tr ["self"] (spClosed C d C.tr)) (G_co : ∀ d, FnOk P w K mg base CX0 1 f_co fd_co ["self"] (spClosed C d C.co)) (G_bo : ∀ d, FnOk P w K mg base CX0 1 f_bo fd_bo ["self"] (spClosed C d C.bo)) (G_na : ∀ d, FnOk P w K mg base CX0 1 f_na fd_na ["self"] (spClosed C d C.na)) (G_sh : ∀ d, FnOk P w K mg base CX0 1 f_sh fd_sh ["self"] (spClosed C d C.sh)) (G_lo : ∀ d, FnOk P w K mg base CX0 1 f_lo fd_lo ["self"] (spClosed C d C.lo)) (G_pa : ∀ d, (∀ e sp, SK C (spClosed C d) e = some sp → HeldM P w K mg base (d + 1) "closed" e sp) → FnOk P w K mg base CX0 (d + 2) f_pa fd_pa ["self"] (spClosed C (d + 1) C.pa)) : ∀ d, ∀ e sp, SK C (spClosed C d) e = some sp → HeldM P w K mg base (d + 1) "closed" e sp
  | 0, e, sp, h => by
    obtain ⟨rfl, i, hi⟩ := SK.inv h
    match i, hi with
    | 0, hi => cases Option.some.inj hi; exact ⟨(T.ok _ (List.mem_of_getElem? (i := 0) rfl)).cls, f_tr, fd_tr, _, m_tr, (G_tr 0).mono (by omega), b_tr⟩
    | 1, hi => cases Option.some.inj hi; exact ⟨(T.ok _ (List.mem_of_getElem? (i := 1) rfl)).cls, f_co, fd_co, _, m_co, (G_co 0).mono (by omega), b_co⟩
    | 2, hi => cases Option.some.inj hi; exact ⟨(T.ok _ (List.mem_of_getElem? (i := 2) rfl)).cls, f_bo, fd_bo, _, m_bo, (G_bo 0).mono (by omega), b_bo⟩
    | 3, hi => cases Option.some.inj hi; exact ⟨(T.ok _ (List.mem_of_getElem? (i := 3) rfl)).cls, f_na, fd_na, _, m_na, (G_na 0).mono (by omega), b_na⟩
    | 4, hi => cases Option.some.inj hi; exact ⟨(T.ok _ (List.mem_of_getElem? (i := 4) rfl)).cls, f_sh, fd_sh, _, m_sh, (G_sh 0).mono (by omega), b_sh⟩
    | 5, hi => cases Option.some.inj hi; exact ⟨(T.ok _ (List.mem_of_getElem? (i := 5) rfl)).cls, f_lo, fd_lo, _, m_lo, (G_lo 0).mono (by omega), b_lo⟩
    | 6, hi => cases Option.some.inj hi; exact ⟨(T.ok _ (List.mem_of_getElem? (i := 6) rfl)).cls, f_pa, fd_pa, _, m_pa, fn_never (fun vs H Q E ⟨_, _, _, _, _, hd, _⟩ => absurd hd (by omega)), b_pa⟩
    | i + 7, hi => exact absurd hi (by simp [KC.all])
  | d + 1, e, sp, h => by
    have ih := all_closed T m_tr b_tr m_co b_co m_bo b_bo m_na b_na m_sh b_sh m_lo b_lo m_pa b_pa G_tr G_co G_bo G_na G_sh G_lo G_pa d
    obtain ⟨rfl, i, hi⟩ := SK.inv h
    match i, hi with
    | 0, hi => cases Option.some.inj hi; exact ⟨(T.ok _ (List.mem_of_getElem? (i := 0) rfl)).cls, f_tr, fd_tr, _, m_tr, (G_tr (d + 1)).mono (by omega), b_tr⟩
    | 1, hi => cases Option.some.inj hi; exact ⟨(T.ok _ (List.mem_of_getElem? (i := 1) rfl)).cls, f_co, fd_co, _, m_co, (G_co (d + 1)).mono (by omega), b_co⟩
    | 2, hi => cases Option.some.inj hi; exact ⟨(T.ok _ (List.mem_of_getElem? (i := 2) rfl)).cls, f_bo, fd_bo, _, m_bo, (G_bo (d + 1)).mono (by omega), b_bo⟩
    | 3, hi => cases Option.some.inj hi; exact ⟨(T.ok _ (List.mem_of_getElem? (i := 3) rfl)).cls, f_na, fd_na, _, m_na, (G_na (d + 1)).mono (by omega), b_na⟩
    | 4, hi => cases Option.some.inj hi; exact ⟨(T.ok _ (List.mem_of_getElem? (i := 4) rfl)).cls, f_sh, fd_sh, _, m_sh, (G_sh (d + 1)).mono (by omega), b_sh⟩
    | 5, hi => cases Option.some.inj hi; exact ⟨(T.ok _ (List.mem_of_getElem? (i := 5) rfl)).cls, f_lo, fd_lo, _, m_lo, (G_lo (d + 1)).mono (by omega), b_lo⟩
    | 6, hi => cases Option.some.inj hi; exact ⟨(T.ok _ (List.mem_of_getElem? (i := 6) rfl)).cls, f_pa, fd_pa, _, m_pa, (by have := G_pa d ih; rw [show d + 2 = d + 1 + 1 by omega] at this; exact this), b_pa⟩
    | i + 7, hi => exact absurd hi (by simp [KC.all])
theorem all_one {C : KC} (T : ClsK K C) {f : Addr} {fd : FuncData} (b : Binds K fd ["self"] []) (G : ∀ (d : Nat) (c : Addr), FnOk P w K mg base CX0 1 f fd ["self"] (spOne C d c)) (M : ∀ c ∈ C.all, Meth K c "one" f) (d : Nat) : ∀ e sp, SK C (spOne C d) e = some sp → HeldM P w K mg base 1 "one" e sp := fun e sp h => by
  obtain ⟨rfl, i, hi⟩ := SK.inv h
  have hm := List.mem_of_getElem? hi
  exact ⟨(T.ok _ hm).cls, f, fd, _, M _ hm, G d e, b⟩
theorem all_zero {C : KC} (T : ClsK K C) {f : Addr} {fd : FuncData} (b : Binds K fd ["self"] []) (G : ∀ (d : Nat) (c : Addr), FnOk P w K mg base CX0 1 f fd ["self"] (spZero C d c)) (M : ∀ c ∈ C.all, Meth K c "zero" f) (d : Nat) : ∀ e sp, SK C (spZero C d) e = some sp → HeldM P w K mg base 1 "zero" e sp := fun e sp h => by
  obtain ⟨rfl, i, hi⟩ := SK.inv h
  have hm := List.mem_of_getElem? hi
  exact ⟨(T.ok _ hm).cls, f, fd, _, M _ hm, G d e, b⟩
theorem all_text {C : KC} (T : ClsK K C) {f : Addr} {fd : FuncData} (b : Binds K fd ["self"] []) (G : ∀ (d : Nat) (c : Addr), FnOk P w K mg base CX0 1 f fd ["self"] (spText C d c)) (M : ∀ c ∈ C.all, Meth K c "text" f) (d : Nat) : ∀ e sp, SK C (spText C d) e = some sp → HeldM P w K mg base 1 "text" e sp := fun e sp h => by
  obtain ⟨rfl, i, hi⟩ := SK.inv h
  have hm := List.mem_of_getElem? hi
  exact ⟨(T.ok _ hm).cls, f, fd, _, M _ hm, G d e, b⟩
end
end D1
end
section
set_option Elab.async false
set_option linter.all false
set_option maxRecDepth 100000
set_option maxHeartbeats 4000000
/-! R5: how kinds are made -/
namespace D1
open PySem L2 Evl RZ ClX PySem.VX
def spKind (K : PySem.W.Frag) : Sp := fun vs H Q _ => ∃ (a C dx : Addr) (fs : List (Str × V)) (t z n : V), vs = [.ref a, t, z, n] ∧ H a = some (.ins C dx fs) ∧ OkC K C ∧ fs.length < 100 ∧ ∀ H', Only a H H' → H' a = some (.ins C dx (putF "_one" n (putF "_zero" z (putF "_text" t fs)))) → Q .non H'
def fsCounted (t z n o : V) (fs : List (Str × V)) : List (Str × V) := putF "_others" o (putF "_one" n (putF "_zero" z (putF "_text" t fs)))
def spCounted (K : PySem.W.Frag) : Sp := fun vs H Q _ => ∃ (a C dx : Addr) (fs : List (Str × V)) (t z n o : V), vs = [.ref a, t, z, n, o] ∧ H a = some (.ins C dx fs) ∧ OkC K C ∧ fs.length < 50 ∧ ∀ H', Only a H H' → H' a = some (.ins C dx (fsCounted t z n o fs)) → Q .non H'
/-- a new kind: only itself changes, and it lies as it ought -/
def spMk (C : KC) (k : RK) (args : List V) : Sp := fun vs H Q _ => ∃ (a dx : Addr), vs = .ref a :: args ∧ H a = some (.ins (C.cls k) dx []) ∧ ∀ H', Only a H H' → KindAt C H' k (.ref a) → Q .non H'
def spMkLot (C : KC) : Sp := fun vs H Q _ => ∃ (n : Nat) (a dx : Addr), vs = [.ref a, .int n] ∧ 1 ≤ n ∧ n ≤ 12 ∧ H a = some (.ins C.lo dx []) ∧ ∀ H', Only a H H' → KindAt C H' (.lot n) (.ref a) → Q .non H'
def spMkBound (C : KC) : Sp := fun vs H Q _ => ∃ (k : RK) (z : Str) (i : Int) (a dx : Addr), vs = [.ref a, .str z, .int i] ∧ ((k = .least ∧ z = "least" ∧ i = 1) ∨ (k = .most ∧ z = "most" ∧ i = -1)) ∧ H a = some (.ins C.bo dx []) ∧ ∀ H', Only a H H' → KindAt C H' k (.ref a) → Q .non H'
def spMkPair (C : KC) : Sp := fun vs H Q _ => ∃ (k l : RK) (x y : V) (a dx : Addr), vs = [.ref a, x, y] ∧ KindAt C H k x ∧ KindAt C H l y ∧ k.depth < 4 ∧ l.depth < 4 ∧ H a = some (.ins C.pa dx []) ∧ ∀ H', Only a H H' → KindAt C H' (.pair k l) (.ref a) → Q .non H'
theorem no_fs {fs : List (Str × V)} (hb : (fs.map (·.1)).all (fun x => fields.contains x) = true) : ∀ f, f ∉ fields → fs.lookup f = none := by
  have h : ∀ p ∈ fs, p.1 ∈ fields := fun p hp => List.contains_iff_mem.mp (List.all_eq_true.mp hb _ (List.mem_map.mpr ⟨p, hp, rfl⟩))
  clear hb
  intro f hf
  induction fs with
  | nil => rfl
  | cons p r ih =>
    obtain ⟨g, x⟩ := p
    have hg := h (g, x) List.mem_cons_self
    have hb : (f == g) = false := beq_eq_false_iff_ne.mpr fun z => hf (z ▸ hg)
    simp only [List.lookup, hb]
    exact ih fun p hp => h p (List.mem_cons_of_mem _ hp)
theorem Only.kp {a : Addr} {H H' : Hp} (h : Only a H H') {v : V} {d : PyData} (hv : DtAt H v d) (ha : ∃ C dx fs, H a = some (.ins C dx fs)) : DtAt H' v d := by
  obtain ⟨C, dx, fs, ha⟩ := ha
  have main : (∀ d : PyData, ∀ v, DtAt H v d → DtAt H' v d) := by
    intro d v hv
    exact DtAt.rec (motive_1 := fun v d _ => DtAt H' v d) (motive_2 := fun us ds _ => DtAll H' us ds) .non (fun b => .bl b) (fun i => .int i) (fun z => .str z) (fun {b us ds} hb _ r => .tup (h b _ (fun z => by rw [z, ha] at hb; cases hb) hb) r) .nil (fun _ _ h r => .cons h r) hv
  exact main d v hv
theorem Com.only {a Cc dx : Addr} {fs0 : List (Str × V)} {H H' : Hp} {k : RK} {fs : List (Str × V)} (h : Com H k fs) (o : Only a H H') (ha : H a = some (.ins Cc dx fs0)) : Com H' k fs := by
  obtain ⟨h1, ⟨z, h2, h3⟩, ⟨y, h4, h5⟩, h6⟩ := h
  exact ⟨h1, ⟨z, h2, o.kp h3 ⟨_, _, _, ha⟩⟩, ⟨y, h4, o.kp h5 ⟨_, _, _, ha⟩⟩, h6⟩
theorem Com.off {a b Cc dx Cb db : Addr} {fs0 fs : List (Str × V)} {H : Hp} {k : RK} (h : Com H k fs) (hb : H b = some (.ins Cb db fs)) (ha : H a = some (.ins Cc dx fs0)) (hn : fs0.lookup ("_text" : Str) = none) : b ≠ a := fun z => by
  obtain ⟨t, h1, _⟩ := h.text
  rw [z, ha] at hb
  have e : fs0 = fs := by injection (Option.some.inj hb)
  rw [← e, hn] at h1
  cases h1
theorem Own.only {a Cc dx : Addr} {fs0 fs : List (Str × V)} {H H' : Hp} (o : Only a H H') (ha : H a = some (.ins Cc dx fs0)) : ∀ {k : RK}, Own H fs k → Own H' fs k := by
  have f : ∀ {p : Addr} {us : List V}, H p = some (.tup us) → H' p = some (.tup us) := fun {p us} hp => o _ _ (fun z => by rw [z, ha] at hp; cases hp) hp
  intro k h
  cases k with
  | count => obtain ⟨p, x, y⟩ := h; exact ⟨p, x, f y⟩
  | narrow => obtain ⟨p, x, y⟩ := h; exact ⟨p, x, f y⟩
  | least => obtain ⟨⟨p, x, y⟩, z⟩ := h; exact ⟨⟨p, x, f y⟩, z⟩
  | most => obtain ⟨⟨p, x, y⟩, z⟩ := h; exact ⟨⟨p, x, f y⟩, z⟩
  | lot _ => exact h
  | _ => exact True.intro
theorem KindAt.only {C : KC} {a Cc dx : Addr} {fs0 : List (Str × V)} {H H' : Hp} {k : RK} {v : V} (h : KindAt C H k v) (o : Only a H H') (ha : H a = some (.ins Cc dx fs0)) (hn : fs0.lookup ("_text" : Str) = none) : KindAt C H' k v := by
  induction k generalizing v with
  | pair k l ik il =>
    obtain ⟨b, db, fs, u, w, h1, h2, h3, h4, h5, h6, h7⟩ := h
    exact ⟨b, db, fs, u, w, h1, o _ _ (h3.off h2 ha hn) h2, h3.only o ha, h4, h5, ik h6, il h7⟩
  | _ =>
    obtain ⟨b, db, fs, h1, h2, h3, h4⟩ := h
    exact ⟨b, db, fs, h1, o _ _ (h3.off h2 ha hn) h2, h3.only o ha, Own.only o ha h4⟩
theorem lot_len : ∀ k : Fin 13, ((toString ((k.val : Nat) : Int) : String) : Str).length ≤ 40 := by decide +kernel
theorem str_len (a b : Str) : (a ++ b).length = a.length + b.length := by
  show (a ++ b).cps.size = a.cps.size + b.cps.size
  show (a.cps ++ b.cps).size = _
  exact Array.size_append
section
variable {P : Program} {w : World} {K : PySem.W.Frag} {mg : Str → Option Value} {base : Heap}
abbrev s_Kind_init : Stmt := meth 23 0
theorem sc_Kind_init : FnScope ["self", "text", "zero", "one"] ["self", "text", "zero", "one"] (defScope s_Kind_init) := ⟨rfl, rfl, rfl, by decide +kernel, rfl, by decide +kernel, by decide +kernel⟩
theorem ok_Kind_init {f : Addr} {fd : FuncData} (F : FnM K "Kind" "__init__" s_Kind_init f fd) : FnOk P w K mg base (CX0) 1 f fd ["self", "text", "zero", "one"] (spKind K) := by
  refine F.ok (CX := CX0) sc_Kind_init (fun vs H Q E h => ?_) (fun cdv A outer s H vs Q E hr h => ?_)
  · obtain ⟨a, C, dx, fs, t, z, n, rfl, _⟩ := h
    rfl
  · obtain ⟨a, C, dx, fs, t, z, n, rfl, ha, ok, hl, q⟩ := h
    have hu := hu_of hr
    have hu64 := hr.units
    refine ⟨_, PSs.nox (pss_cons (ps_fld (pv 0) (pv 1) rfl)
      (pss_cons (ps_fld (pv 0) (pv 2) rfl)
      (pss_one (ps_fld (pv 0) (pv 3) rfl)))), ?_⟩
    have l1 := put_len "_text" t fs
    have l2 := put_len "_zero" z (putF "_text" t fs)
    refine ⟨_, rfl, _, rfl, a, C, dx, fs, rfl, ha, ok.cls, ok.no _ (by decide), by omega, ?_⟩
    refine ⟨_, rfl, _, rfl, a, C, dx, _, rfl, upd_same, ok.cls, ok.no _ (by decide), by omega, ?_⟩
    refine ⟨_, rfl, _, rfl, a, C, dx, _, rfl, upd_same, ok.cls, ok.no _ (by decide), by omega, ?_⟩
    exact q _ (((Only.refl.upd).upd).upd) upd_same
abbrev s_Counted_init : Stmt := meth 24 0
theorem sc_Counted_init : FnScope ["self", "text", "zero", "one", "others"] ["self", "text", "zero", "one", "others"] (defScope s_Counted_init) := ⟨rfl, rfl, rfl, by decide +kernel, rfl, by decide +kernel, by decide +kernel⟩
theorem ok_Counted_init {f : Addr} {fd : FuncData} (F : FnM K "Counted" "__init__" s_Counted_init f fd) {f_Kind_init : Addr} {fd_Kind_init : FuncData} (F_Kind_init : FnM K "Kind" "__init__" s_Kind_init f_Kind_init fd_Kind_init) (G_Kind_init : FnOk P w K mg base CX0 1 f_Kind_init fd_Kind_init ["self", "text", "zero", "one"] (spKind K)) (B_Kind : BaseI K mg "Kind" f_Kind_init) : FnOk P w K mg base (CX0) 2 f fd ["self", "text", "zero", "one", "others"] (spCounted K) := by
  obtain ⟨C_Kind, mc_Kind, g_Kind, r_Kind, c_Kind⟩ := B_Kind.ex
  have b_Kind_init : Binds K fd_Kind_init ["self", "text", "zero", "one"] [] := F_Kind_init.bindsN fun _ _ _ _ _ _ us hl => match us, hl with | [_, _, _, _], _ => rfl
  refine F.ok (CX := CX0) sc_Counted_init (fun vs H Q E h => ?_) (fun cdv A outer s H vs Q E hr h => ?_)
  · obtain ⟨a, C, dx, fs, t, z, n, o, rfl, _⟩ := h
    rfl
  · obtain ⟨a, C, dx, fs, t, z, n, o, rfl, ha, ok, hl, q⟩ := h
    have hu := hu_of hr
    have hu64 := hr.units
    have hr_Kind_init := hr.mono (by decide : 1 ≤ 1)
    refine ⟨_, PSs.nox (pss_cons (ps_expr (pe_cfn (C := C_Kind) (mc := mc_Kind) (pe_glob (v := .ref C_Kind) rfl g_Kind rfl) r_Kind c_Kind G_Kind_init hr_Kind_init F_Kind_init.kp b_Kind_init .nil pass0 (pa_cons (pv 0) (pa_cons (pv 1) (pa_cons (pv 2) (pa_cons (pv 3) pa_nil))))))
      (pss_one (ps_fld (pv 0) (pv 4) rfl))), ?_⟩
    have l1 := put_len "_text" t fs
    have l2 := put_len "_zero" z (putF "_text" t fs)
    have l3 := put_len "_one" n (putF "_zero" z (putF "_text" t fs))
    refine ⟨rfl, _, rfl, _, rfl, _, rfl, _, rfl, a, C, dx, fs, t, z, n, rfl, ha, ok, by omega, fun H1 o1 h1 => ?_⟩
    refine ⟨_, rfl, _, rfl, a, C, dx, _, rfl, h1, ok.cls, ok.no _ (by decide), by omega, ?_⟩
    exact q _ o1.upd upd_same
abbrev s_Count_init : Stmt := meth 27 0
theorem sc_Count_init : FnScope ["self"] ["self"] (defScope s_Count_init) := ⟨rfl, rfl, rfl, by decide +kernel, rfl, by decide +kernel, by decide +kernel⟩
theorem ok_Count_init {f : Addr} {fd : FuncData} (F : FnM K "Count" "__init__" s_Count_init f fd) {f_Counted_init : Addr} {fd_Counted_init : FuncData} (F_Counted_init : FnM K "Counted" "__init__" s_Counted_init f_Counted_init fd_Counted_init) (G_Counted_init : FnOk P w K mg base CX0 2 f_Counted_init fd_Counted_init ["self", "text", "zero", "one", "others"] (spCounted K)) (B_Endless : BaseI K mg "Endless" f_Counted_init) {C : KC} (T : ClsK K C) : FnOk P w K mg base (CX0) 3 f fd ["self"] (spMk C .count []) := by
  obtain ⟨C_Endless, mc_Endless, g_Endless, r_Endless, c_Endless⟩ := B_Endless.ex
  have b_Counted_init : Binds K fd_Counted_init ["self", "text", "zero", "one", "others"] [] := F_Counted_init.bindsN fun _ _ _ _ _ _ us hl => match us, hl with | [_, _, _, _, _], _ => rfl
  refine F.ok (CX := CX0) sc_Count_init (fun vs H Q E h => ?_) (fun cdv A outer s H vs Q E hr h => ?_)
  · obtain ⟨a, dx, rfl, _⟩ := h
    rfl
  · obtain ⟨a, dx, rfl, ha, q⟩ := h
    have hu := hu_of hr
    have hu64 := hr.units
    have hr_Counted_init := hr.mono (by decide : 2 ≤ 2)
    refine ⟨_, PSs.nox (pss_one (ps_expr (pe_cfn (C := C_Endless) (mc := mc_Endless) (pe_glob (v := .ref C_Endless) rfl g_Endless rfl) r_Endless c_Endless G_Counted_init hr_Counted_init F_Counted_init.kp b_Counted_init .nil pass0 (pa_cons (pv 0) (pa_cons pe_str (pa_cons pe_int (pa_cons pe_int (pa_cons (pe_tup (pa_cons pe_str pa_nil)) pa_nil)))))))), ?_⟩
    have ok := T.cls (k := .count) rfl
    refine ⟨rfl, _, rfl, by show 1 ≤ sizeLine; decide, fun p hp => ?_⟩
    have e1 := Ex.new (o := .tup [.str "endless"]) hp
    have hpa : a ≠ p := ne_of_none ha hp
    refine ⟨a, _, dx, [], .str "count", .int 0, .int 1, .ref p, rfl, e1 _ _ ha, ok, by decide, fun H1 o1 h1 => ?_⟩
    have o2 : Only a H H1 := Only.trans (fun b o _ e => e1 b o e) o1
    refine q H1 o2 ⟨a, dx, _, rfl, h1, ⟨⟨_, rfl, by decide⟩, ⟨_, rfl, .int 0⟩, ⟨_, rfl, .int 1⟩, no_fs (by rfl)⟩, ⟨p, rfl, o1 _ _ (Ne.symm hpa) upd_same⟩⟩
abbrev s_Narrow_init : Stmt := meth 29 0
theorem sc_Narrow_init : FnScope ["self"] ["self"] (defScope s_Narrow_init) := ⟨rfl, rfl, rfl, by decide +kernel, rfl, by decide +kernel, by decide +kernel⟩
theorem ok_Narrow_init {f : Addr} {fd : FuncData} (F : FnM K "Narrow" "__init__" s_Narrow_init f fd) {f_Counted_init : Addr} {fd_Counted_init : FuncData} (F_Counted_init : FnM K "Counted" "__init__" s_Counted_init f_Counted_init fd_Counted_init) (G_Counted_init : FnOk P w K mg base CX0 2 f_Counted_init fd_Counted_init ["self", "text", "zero", "one", "others"] (spCounted K)) (B_Endless : BaseI K mg "Endless" f_Counted_init) {C : KC} (T : ClsK K C) : FnOk P w K mg base (CX0) 3 f fd ["self"] (spMk C .narrow []) := by
  obtain ⟨C_Endless, mc_Endless, g_Endless, r_Endless, c_Endless⟩ := B_Endless.ex
  have b_Counted_init : Binds K fd_Counted_init ["self", "text", "zero", "one", "others"] [] := F_Counted_init.bindsN fun _ _ _ _ _ _ us hl => match us, hl with | [_, _, _, _, _], _ => rfl
  refine F.ok (CX := CX0) sc_Narrow_init (fun vs H Q E h => ?_) (fun cdv A outer s H vs Q E hr h => ?_)
  · obtain ⟨a, dx, rfl, _⟩ := h
    rfl
  · obtain ⟨a, dx, rfl, ha, q⟩ := h
    have hu := hu_of hr
    have hu64 := hr.units
    have hr_Counted_init := hr.mono (by decide : 2 ≤ 2)
    refine ⟨_, PSs.nox (pss_one (ps_expr (pe_cfn (C := C_Endless) (mc := mc_Endless) (pe_glob (v := .ref C_Endless) rfl g_Endless rfl) r_Endless c_Endless G_Counted_init hr_Counted_init F_Counted_init.kp b_Counted_init .nil pass0 (pa_cons (pv 0) (pa_cons pe_str (pa_cons pe_int (pa_cons pe_str (pa_cons (pe_tup (pa_cons pe_str pa_nil)) pa_nil)))))))), ?_⟩
    have ok := T.cls (k := .narrow) rfl
    refine ⟨rfl, _, rfl, by show 1 ≤ sizeLine; decide, fun p hp => ?_⟩
    have e1 := Ex.new (o := .tup [.str "endless"]) hp
    have hpa : a ≠ p := ne_of_none ha hp
    refine ⟨a, _, dx, [], .str "narrow", .int 0, .str "endless", .ref p, rfl, e1 _ _ ha, ok, by decide, fun H1 o1 h1 => ?_⟩
    have o2 : Only a H H1 := Only.trans (fun b o _ e => e1 b o e) o1
    refine q H1 o2 ⟨a, dx, _, rfl, h1, ⟨⟨_, rfl, by decide⟩, ⟨_, rfl, .int 0⟩, ⟨_, rfl, .str _⟩, no_fs (by rfl)⟩, ⟨p, rfl, o1 _ _ (Ne.symm hpa) upd_same⟩⟩
abbrev s_Bounded_init : Stmt := meth 28 0
theorem sc_Bounded_init : FnScope ["self", "text", "sign"] ["self", "text", "sign"] (defScope s_Bounded_init) := ⟨rfl, rfl, rfl, by decide +kernel, rfl, by decide +kernel, by decide +kernel⟩
theorem ok_Bounded_init {f : Addr} {fd : FuncData} (F : FnM K "Bounded" "__init__" s_Bounded_init f fd) {f_Counted_init : Addr} {fd_Counted_init : FuncData} (F_Counted_init : FnM K "Counted" "__init__" s_Counted_init f_Counted_init fd_Counted_init) (G_Counted_init : FnOk P w K mg base CX0 2 f_Counted_init fd_Counted_init ["self", "text", "zero", "one", "others"] (spCounted K)) (B_Endless : BaseI K mg "Endless" f_Counted_init) {C : KC} (T : ClsK K C) : FnOk P w K mg base (CX0) 3 f fd ["self", "text", "sign"] (spMkBound C) := by
  obtain ⟨C_Endless, mc_Endless, g_Endless, r_Endless, c_Endless⟩ := B_Endless.ex
  have b_Counted_init : Binds K fd_Counted_init ["self", "text", "zero", "one", "others"] [] := F_Counted_init.bindsN fun _ _ _ _ _ _ us hl => match us, hl with | [_, _, _, _, _], _ => rfl
  refine F.ok (CX := CX0) sc_Bounded_init (fun vs H Q E h => ?_) (fun cdv A outer s H vs Q E hr h => ?_)
  · obtain ⟨k, z, i, a, dx, rfl, _⟩ := h
    rfl
  · obtain ⟨k, z, i, a, dx, rfl, hk, ha, q⟩ := h
    have hu := hu_of hr
    have hu64 := hr.units
    have hr_Counted_init := hr.mono (by decide : 2 ≤ 2)
    refine ⟨_, PSs.nox (pss_cons (ps_expr (pe_cfn (C := C_Endless) (mc := mc_Endless) (pe_glob (v := .ref C_Endless) rfl g_Endless rfl) r_Endless c_Endless G_Counted_init hr_Counted_init F_Counted_init.kp b_Counted_init .nil pass0 (pa_cons (pv 0) (pa_cons (pv 1) (pa_cons pe_str (pa_cons pe_int (pa_cons (pe_tup (pa_cons pe_str (pa_cons pe_str pa_nil))) pa_nil)))))))
      (pss_one (ps_fld (pv 0) (pv 2) rfl))), ?_⟩
    have ok := T.cls (k := .least) rfl
    refine ⟨rfl, _, rfl, _, rfl, by show 2 ≤ sizeLine; decide, fun p hp => ?_⟩
    have e1 := Ex.new (o := .tup [.str "none", .str "endless"]) hp
    have hpa : a ≠ p := ne_of_none ha hp
    refine ⟨a, _, dx, [], .str z, .str "none", .int 0, .ref p, rfl, e1 _ _ ha, ok, by decide, fun H1 o1 h1 => ?_⟩
    have o2 : Only a H H1 := Only.trans (fun b o _ e => e1 b o e) o1
    refine ⟨_, rfl, _, rfl, a, _, dx, _, rfl, h1, ok.cls, ok.no _ (by decide), by (show 4 < 1000; decide), ?_⟩
    have hp1 := o1 _ _ (Ne.symm hpa) upd_same
    have hp2 : (upd H1 a (.ins C.bo dx (putF "_sign" (.int i) (fsCounted (.str z) (.str "none") (.int 0) (.ref p) [])))) p = some (.tup [.str "none", .str "endless"]) := by rw [upd_ne (Ne.symm hpa)]; exact hp1
    rcases hk with ⟨rfl, rfl, rfl⟩ | ⟨rfl, rfl, rfl⟩
    · exact q _ o2.upd ⟨a, dx, _, rfl, upd_same, ⟨⟨_, rfl, by decide⟩, ⟨_, rfl, .str _⟩, ⟨_, rfl, .int 0⟩, no_fs (by rfl)⟩, ⟨p, rfl, hp2⟩, rfl⟩
    · exact q _ o2.upd ⟨a, dx, _, rfl, upd_same, ⟨⟨_, rfl, by decide⟩, ⟨_, rfl, .str _⟩, ⟨_, rfl, .int 0⟩, no_fs (by rfl)⟩, ⟨p, rfl, hp2⟩, rfl⟩
abbrev s_Truth_init : Stmt := meth 41 0
theorem sc_Truth_init : FnScope ["self"] ["self"] (defScope s_Truth_init) := ⟨rfl, rfl, rfl, by decide +kernel, rfl, by decide +kernel, by decide +kernel⟩
theorem ok_Truth_init {f : Addr} {fd : FuncData} (F : FnM K "Truth" "__init__" s_Truth_init f fd) {f_Kind_init : Addr} {fd_Kind_init : FuncData} (F_Kind_init : FnM K "Kind" "__init__" s_Kind_init f_Kind_init fd_Kind_init) (G_Kind_init : FnOk P w K mg base CX0 1 f_Kind_init fd_Kind_init ["self", "text", "zero", "one"] (spKind K)) (B_Topped : BaseI K mg "Topped" f_Kind_init) {C : KC} (T : ClsK K C) : FnOk P w K mg base (CX0) 2 f fd ["self"] (spMk C .truth []) := by
  obtain ⟨C_Topped, mc_Topped, g_Topped, r_Topped, c_Topped⟩ := B_Topped.ex
  have b_Kind_init : Binds K fd_Kind_init ["self", "text", "zero", "one"] [] := F_Kind_init.bindsN fun _ _ _ _ _ _ us hl => match us, hl with | [_, _, _, _], _ => rfl
  refine F.ok (CX := CX0) sc_Truth_init (fun vs H Q E h => ?_) (fun cdv A outer s H vs Q E hr h => ?_)
  · obtain ⟨a, dx, rfl, _⟩ := h
    rfl
  · obtain ⟨a, dx, rfl, ha, q⟩ := h
    have hu := hu_of hr
    have hu64 := hr.units
    have hr_Kind_init := hr.mono (by decide : 1 ≤ 1)
    refine ⟨_, PSs.nox (pss_one (ps_expr (pe_cfn (C := C_Topped) (mc := mc_Topped) (pe_glob (v := .ref C_Topped) rfl g_Topped rfl) r_Topped c_Topped G_Kind_init hr_Kind_init F_Kind_init.kp b_Kind_init .nil pass0 (pa_cons (pv 0) (pa_cons pe_str (pa_cons pe_bl (pa_cons pe_bl pa_nil))))))), ?_⟩
    have ok := T.cls (k := .truth) rfl
    refine ⟨rfl, _, rfl, a, _, dx, [], .str "truth", .bl false, .bl true, rfl, ha, ok, by decide, fun H1 o1 h1 => ?_⟩
    exact q H1 o1 ⟨a, dx, _, rfl, h1, ⟨⟨_, rfl, by decide⟩, ⟨_, rfl, .bl _⟩, ⟨_, rfl, .bl _⟩, no_fs (by rfl)⟩, True.intro⟩
abbrev s_Share_init : Stmt := meth 42 0
theorem sc_Share_init : FnScope ["self"] ["self"] (defScope s_Share_init) := ⟨rfl, rfl, rfl, by decide +kernel, rfl, by decide +kernel, by decide +kernel⟩
theorem ok_Share_init {f : Addr} {fd : FuncData} (F : FnM K "Share" "__init__" s_Share_init f fd) {f_Kind_init : Addr} {fd_Kind_init : FuncData} (F_Kind_init : FnM K "Kind" "__init__" s_Kind_init f_Kind_init fd_Kind_init) (G_Kind_init : FnOk P w K mg base CX0 1 f_Kind_init fd_Kind_init ["self", "text", "zero", "one"] (spKind K)) (B_Topped : BaseI K mg "Topped" f_Kind_init) {C : KC} (T : ClsK K C) : FnOk P w K mg base (CX0) 2 f fd ["self"] (spMk C .share []) := by
  obtain ⟨C_Topped, mc_Topped, g_Topped, r_Topped, c_Topped⟩ := B_Topped.ex
  have b_Kind_init : Binds K fd_Kind_init ["self", "text", "zero", "one"] [] := F_Kind_init.bindsN fun _ _ _ _ _ _ us hl => match us, hl with | [_, _, _, _], _ => rfl
  refine F.ok (CX := CX0) sc_Share_init (fun vs H Q E h => ?_) (fun cdv A outer s H vs Q E hr h => ?_)
  · obtain ⟨a, dx, rfl, _⟩ := h
    rfl
  · obtain ⟨a, dx, rfl, ha, q⟩ := h
    have hu := hu_of hr
    have hu64 := hr.units
    have hr_Kind_init := hr.mono (by decide : 1 ≤ 1)
    refine ⟨_, PSs.nox (pss_one (ps_expr (pe_cfn (C := C_Topped) (mc := mc_Topped) (pe_glob (v := .ref C_Topped) rfl g_Topped rfl) r_Topped c_Topped G_Kind_init hr_Kind_init F_Kind_init.kp b_Kind_init .nil pass0 (pa_cons (pv 0) (pa_cons pe_str (pa_cons (pe_tup (pa_cons pe_int (pa_cons pe_int pa_nil))) (pa_cons (pe_tup (pa_cons pe_int (pa_cons pe_int pa_nil))) pa_nil))))))), ?_⟩
    have ok := T.cls (k := .share) rfl
    refine ⟨rfl, _, rfl, by show 2 ≤ sizeLine; decide, fun p hp => ⟨by show 2 ≤ sizeLine; decide, fun r hr' => ?_⟩⟩
    have e1 := Ex.new (o := .tup [.int 0, .int 1]) hp
    have e2 := Ex.new (o := .tup [.int 1, .int 1]) hr'
    have i1 : upd (upd H p (.tup [.int 0, .int 1])) r (.tup [.int 1, .int 1]) p = some (.tup [.int 0, .int 1]) := e2 _ _ upd_same
    have hpa : p ≠ a := fun z => by rw [z, ha] at hp; cases hp
    have hra : r ≠ a := fun z => by
      have h := e1 _ _ ha
      rw [← z, hr'] at h
      cases h
    refine ⟨a, _, dx, [], .str "share", .ref p, .ref r, rfl, (e1.trans e2) _ _ ha, ok, by decide, fun H1 o1 h1 => ?_⟩
    exact q H1 (Only.trans (fun b o _ e => (e1.trans e2) b o e) o1) ⟨a, dx, _, rfl, h1, ⟨⟨_, rfl, by decide⟩, ⟨_, rfl, .tup (o1 _ _ hpa i1) (.cons (.int _) (.cons (.int _) .nil))⟩, ⟨_, rfl, .tup (o1 _ _ hra upd_same) (.cons (.int _) (.cons (.int _) .nil))⟩, no_fs (by rfl)⟩, True.intro⟩
abbrev s_Lot_init : Stmt := meth 43 0
theorem sc_Lot_init : FnScope ["self", "size"] ["self", "size"] (defScope s_Lot_init) := ⟨rfl, rfl, rfl, by decide +kernel, rfl, by decide +kernel, by decide +kernel⟩
theorem ok_Lot_init {f : Addr} {fd : FuncData} (F : FnM K "Lot" "__init__" s_Lot_init f fd) {f_Kind_init : Addr} {fd_Kind_init : FuncData} (F_Kind_init : FnM K "Kind" "__init__" s_Kind_init f_Kind_init fd_Kind_init) (G_Kind_init : FnOk P w K mg base CX0 1 f_Kind_init fd_Kind_init ["self", "text", "zero", "one"] (spKind K)) (B_Topped : BaseI K mg "Topped" f_Kind_init) {C : KC} (T : ClsK K C) : FnOk P w K mg base (CX0) 2 f fd ["self", "size"] (spMkLot C) := by
  obtain ⟨C_Topped, mc_Topped, g_Topped, r_Topped, c_Topped⟩ := B_Topped.ex
  have b_Kind_init : Binds K fd_Kind_init ["self", "text", "zero", "one"] [] := F_Kind_init.bindsN fun _ _ _ _ _ _ us hl => match us, hl with | [_, _, _, _], _ => rfl
  refine F.ok (CX := CX0) sc_Lot_init (fun vs H Q E h => ?_) (fun cdv A outer s H vs Q E hr h => ?_)
  · obtain ⟨n, a, dx, rfl, _⟩ := h
    rfl
  · obtain ⟨n, a, dx, rfl, n1, n2, ha, q⟩ := h
    have hu := hu_of hr
    have hu64 := hr.units
    have hr_Kind_init := hr.mono (by decide : 1 ≤ 1)
    refine ⟨_, PSs.nox (pss_cons (ps_expr (pe_cfn (C := C_Topped) (mc := mc_Topped) (pe_glob (v := .ref C_Topped) rfl g_Topped rfl) r_Topped c_Topped G_Kind_init hr_Kind_init F_Kind_init.kp b_Kind_init .nil pass0 (pa_cons (pv 0) (pa_cons (pe_joined (PJ.cons pe_str (PJ.cons (pe_fmt (pv 1)) PJ.nil))) (pa_cons pe_int (pa_cons (pe_op op_sub (pe_op op_shl pe_int (pv 1)) pe_int) pa_nil))))))
      (pss_one (ps_fld (pv 0) (pv 1) rfl))), ?_⟩
    have ok := T.cls (k := .lot n) rfl
    have big : (300000 : Nat) ≤ sizeLine := by decide
    have hl : ((toString ((n : Nat) : Int) : String) : Str).length ≤ 40 := lot_len ⟨n, by omega⟩
    have h0 : (Str.empty ++ ("lot " : Str)).length = 4 := by decide
    have hs : (n : Int).natAbs.log2 < 1920 := by
      have h : ∀ k : Fin 13, Nat.log2 k.val < 1920 := by decide
      rw [Int.natAbs_natCast]
      exact h ⟨n, by omega⟩
    refine ⟨rfl, _, rfl, _, rfl, by rw [h0]; omega, _, rfl, .inr ⟨_, rfl, hs, _, rfl, by rw [str_len, h0]; omega, _, rfl, 1, _, rfl, rfl, ⟨by omega, by omega, by first | decide | omega⟩, _, _, rfl, rfl, ?_⟩⟩
    have tl : ((Str.empty ++ ("lot " : Str)) ++ ((toString ((n : Nat) : Int) : String) : Str)).length + 6 ≤ 100 * 2 ^ (RK.lot n).depth := by
      rw [str_len, h0]
      show _ ≤ 100 * 2 ^ 0
      omega
    generalize (Str.empty ++ ("lot " : Str)) ++ ((toString ((n : Nat) : Int) : String) : Str) = z at tl ⊢
    have hone : (1 : Int) * 2 ^ (n : Int).toNat - 1 = 2 ^ n - 1 := by rw [Int.one_mul, Int.toNat_natCast]
    refine ⟨a, _, dx, [], .str z, .int 0, .int ((1 : Int) * 2 ^ (n : Int).toNat - 1), rfl, ha, ok, by decide, fun H1 o1 h1 => ?_⟩
    refine ⟨_, rfl, _, rfl, a, _, dx, _, rfl, h1, ok.cls, ok.no _ (by decide), by (show 3 < 1000; decide), ?_⟩
    exact q _ o1.upd ⟨a, dx, _, rfl, upd_same, ⟨⟨_, rfl, tl⟩, ⟨_, rfl, .int _⟩, ⟨_, rfl, by rw [hone]; exact .int _⟩, no_fs (by rfl)⟩, rfl⟩
abbrev s_Pair_init : Stmt := meth 35 0
theorem sc_Pair_init : FnScope ["self", "left", "right", "text"] ["self", "left", "right"] (defScope s_Pair_init) := ⟨rfl, rfl, rfl, by decide +kernel, rfl, by decide +kernel, by decide +kernel⟩
theorem ok_Pair_init {f : Addr} {fd : FuncData} (F : FnM K "Pair" "__init__" s_Pair_init f fd) {f_Kind_init : Addr} {fd_Kind_init : FuncData} (F_Kind_init : FnM K "Kind" "__init__" s_Kind_init f_Kind_init fd_Kind_init) (G_Kind_init : FnOk P w K mg base CX0 1 f_Kind_init fd_Kind_init ["self", "text", "zero", "one"] (spKind K)) (B_Kind : BaseI K mg "Kind" f_Kind_init) {C : KC} (T : ClsK K C) (A_text : ∀ e sp, SK C (spText C 4) e = some sp → HeldM P w K mg base 1 "text" e sp) (A_zero : ∀ e sp, SK C (spZero C 4) e = some sp → HeldM P w K mg base 1 "zero" e sp) (A_one : ∀ e sp, SK C (spOne C 4) e = some sp → HeldM P w K mg base 1 "one" e sp) : FnOk P w K mg base (CX0) 2 f fd ["self", "left", "right"] (spMkPair C) := by
  obtain ⟨C_Kind, mc_Kind, g_Kind, r_Kind, c_Kind⟩ := B_Kind.ex
  have b_Kind_init : Binds K fd_Kind_init ["self", "text", "zero", "one"] [] := F_Kind_init.bindsN fun _ _ _ _ _ _ us hl => match us, hl with | [_, _, _, _], _ => rfl
  refine F.ok (CX := CX0) sc_Pair_init (fun vs H Q E h => ?_) (fun cdv A outer s H vs Q E hr h => ?_)
  · obtain ⟨k, l, x, y, a, dx, rfl, _⟩ := h
    rfl
  · obtain ⟨k, l, x, y, a, dx, rfl, hk, hl, dk, dl, ha, q⟩ := h
    have hu := hu_of hr
    have hu64 := hr.units
    have hr_Kind_init := hr.mono (by decide : 1 ≤ 1)
    have hr_in := hr.mono (by decide : 1 ≤ 1)
    refine ⟨_, PSs.nox (pss_cons (ps_set (i := 3) sc_Pair_init.nd rfl (Or.inl rfl) (pe_joined (PJ.cons pe_str (PJ.cons (pe_fmt (pe_methA0 (S := SK C (spText C 4)) A_text (pv 1) hr_in)) (PJ.cons pe_str (PJ.cons (pe_fmt (pe_methA0 (S := SK C (spText C 4)) A_text (pv 2) hr_in)) PJ.nil))))))
      (pss_cons (ps_expr (pe_cfn (C := C_Kind) (mc := mc_Kind) (pe_glob (v := .ref C_Kind) rfl g_Kind rfl) r_Kind c_Kind G_Kind_init hr_Kind_init F_Kind_init.kp b_Kind_init .nil pass0 (pa_cons (pv 0) (pa_cons (pv 3) (pa_cons (pe_tup (pa_cons (pe_methA0 (S := SK C (spZero C 4)) A_zero (pv 1) hr_in) (pa_cons (pe_methA0 (S := SK C (spZero C 4)) A_zero (pv 2) hr_in) pa_nil))) (pa_cons (pe_tup (pa_cons (pe_methA0 (S := SK C (spOne C 4)) A_one (pv 1) hr_in) (pa_cons (pe_methA0 (S := SK C (spOne C 4)) A_one (pv 2) hr_in) pa_nil))) pa_nil))))))
      (pss_cons (ps_fld (pv 0) (pv 1) rfl)
      (pss_one (ps_fld (pv 0) (pv 2) rfl))))), ?_⟩
    have ok := T.cls (k := .pair k l) rfl
    obtain ⟨la, ld, lf, rfl, l1, l2⟩ := id hk.com
    obtain ⟨ra, rd, rf, rfl, r1, r2⟩ := id hl.com
    have big : (300000 : Nat) ≤ sizeLine := by decide
    have h5 : ("pair " : Str).length = 5 := by decide
    have h1 : (" " : Str).length = 1 := by decide
    have h0 : (Str.empty ++ ("pair " : Str)).length = 5 := by decide
    have pk : 2 ^ k.depth ≤ 2 ^ max k.depth l.depth := Nat.pow_le_pow_right (by decide) (Nat.le_max_left _ _)
    have pl : 2 ^ l.depth ≤ 2 ^ max k.depth l.depth := Nat.pow_le_pow_right (by decide) (Nat.le_max_right _ _)
    have pm : 2 ^ max k.depth l.depth ≤ 2 ^ 3 := Nat.pow_le_pow_right (by decide) (by omega)
    have p1 : 1 ≤ 2 ^ max k.depth l.depth := Nat.one_le_two_pow
    have KA : ∀ {G : Hp}, Ex H G → KindAt C G k (.ref la) ∧ KindAt C G l (.ref ra) ∧ G la = some (.ins (C.cls k) ld lf) ∧ G ra = some (.ins (C.cls l) rd rf) := fun e => ⟨hk.ex e, hl.ex e, e _ _ l1, e _ _ r1⟩
    refine ⟨_, rfl, by rw [h0]; omega, _, rfl, la, _, ld, lf, _, rfl, SK.at k, l1, l2.no _ (by decide), .ref la, k, rfl, hk, rfl, dk, fun lz G1 g1 lt => .inl ⟨lz, rfl, by omega, _, rfl, by rw [str_len, h0]; omega, ?_⟩⟩
    obtain ⟨kk1, kk2, kk3, kk4⟩ := KA g1
    refine ⟨_, rfl, by rw [str_len, str_len, h0, h1]; omega, _, rfl, ra, _, rd, rf, _, rfl, SK.at l, kk4, r2.no _ (by decide), .ref ra, l, rfl, kk2, rfl, dl, fun rz G2 g2 rt => .inl ⟨rz, rfl, by omega, _, rfl, by rw [str_len, str_len, str_len, h0, h1]; omega, ?_⟩⟩
    have tl : (((Str.empty ++ ("pair " : Str)) ++ lz) ++ (" " : Str) ++ rz).length + 6 ≤ 100 * 2 ^ (RK.pair k l).depth := by
      rw [str_len, str_len, str_len, h0, h1]
      show _ ≤ 100 * 2 ^ (max k.depth l.depth + 1)
      rw [Nat.pow_succ]
      omega
    generalize hz : ((Str.empty ++ ("pair " : Str)) ++ lz) ++ (" " : Str) ++ rz = z at tl
    have g12 := g1.trans g2
    obtain ⟨kk1, kk2, kk3, kk4⟩ := KA g12
    refine ⟨rfl, _, rfl, _, rfl, ?_⟩
    refine ⟨_, rfl, la, _, ld, lf, _, rfl, SK.at k, kk3, l2.no _ (by decide), .ref la, k, rfl, kk1, rfl, dk, fun v1 G3 g3 d1 => ?_⟩
    obtain ⟨kk1, kk2, kk3, kk4⟩ := KA (g12.trans g3)
    refine ⟨_, rfl, ra, _, rd, rf, _, rfl, SK.at l, kk4, r2.no _ (by decide), .ref ra, l, rfl, kk2, rfl, dl, fun v2 G4 g4 d2 => ⟨by show 2 ≤ sizeLine; decide, fun T0 hT0 => ?_⟩⟩
    have e0 := Ex.new (o := .tup [v1, v2]) hT0
    have D0 : DtAt (upd G4 T0 (.tup [v1, v2])) (.ref T0) (zeroD (.pair k l)) := .new hT0 (.cons (d1.ex g4) (.cons d2 .nil))
    have e5 := ((g12.trans g3).trans g4).trans e0
    generalize upd G4 T0 (.tup [v1, v2]) = G5 at e0 D0 e5 ⊢
    obtain ⟨kk1, kk2, kk3, kk4⟩ := KA e5
    refine ⟨_, rfl, la, _, ld, lf, _, rfl, SK.at k, kk3, l2.no _ (by decide), .ref la, k, rfl, kk1, rfl, dk, fun v3 G6 g6 d3 => ?_⟩
    obtain ⟨kk1, kk2, kk3, kk4⟩ := KA (e5.trans g6)
    refine ⟨_, rfl, ra, _, rd, rf, _, rfl, SK.at l, kk4, r2.no _ (by decide), .ref ra, l, rfl, kk2, rfl, dl, fun v4 G7 g7 d4 => ⟨by show 2 ≤ sizeLine; decide, fun T1 hT1 => ?_⟩⟩
    have e1 := Ex.new (o := .tup [v3, v4]) hT1
    have DT1 : DtAt (upd G7 T1 (.tup [v3, v4])) (.ref T1) (oneD (.pair k l)) := .new hT1 (.cons (d3.ex g7) (.cons d4 .nil))
    have D0' := D0.ex ((g6.trans g7).trans e1)
    have e8 := ((e5.trans g6).trans g7).trans e1
    generalize upd G7 T1 (.tup [v3, v4]) = G8 at DT1 D0' e8 ⊢
    have ha8 := e8 _ _ ha
    refine ⟨a, _, dx, [], .str z, .ref T0, .ref T1, rfl, ha8, ok, by decide, fun H1 o1 h1 => ?_⟩
    refine ⟨_, rfl, _, rfl, a, _, dx, _, rfl, h1, ok.cls, ok.no _ (by decide), by (show 3 < 1000; decide), ?_⟩
    refine ⟨_, rfl, _, rfl, a, _, dx, _, rfl, upd_same, ok.cls, ok.no _ (by decide), by (show 4 < 1000; decide), ?_⟩
    have o2 := (o1.upd (o := .ins C.pa dx (putF "_left" (.ref la) (putF "_one" (.ref T1) (putF "_zero" (.ref T0) (putF "_text" (.str z) [])))))).upd (o := .ins C.pa dx (putF "_right" (.ref ra) (putF "_left" (.ref la) (putF "_one" (.ref T1) (putF "_zero" (.ref T0) (putF "_text" (.str z) []))))))
    have hal : ∃ Cc dd ff, G8 a = some (.ins Cc dd ff) := ⟨_, _, _, ha8⟩
    refine q _ (Only.trans (fun b o _ e => e8 b o e) o2) ⟨a, dx, _, .ref la, .ref ra, rfl, upd_same, ⟨⟨_, rfl, tl⟩, ⟨_, rfl, o2.kp D0' hal⟩, ⟨_, rfl, o2.kp DT1 hal⟩, no_fs (by rfl)⟩, rfl, rfl, (KA e8).1.only o2 ha8 rfl, (KA e8).2.1.only o2 ha8 rfl⟩
end
end D1
end
section
set_option Elab.async false
set_option linter.all false
set_option maxRecDepth 100000
set_option maxHeartbeats 4000000
/-! R6: kinds of tuples; Rings; the form -/
namespace D1
open PySem L2 Evl RZ ClX PySem.VX
def bare : RK → Bool
  | .lot _ => false
  | .pair _ _ => false
  | _ => true
theorem bare_made {k : RK} (h : bare k = true) : madeD k = .tuple [.str (nameOf k)] := by cases k <;> first | rfl | cases h
def RingAt (C : KC) (CR : Addr) (H : Hp) (v : V) (k : RK) : Prop := ∃ (r dr : Addr) (fr : List (Str × V)) (m x : V), v = .ref r ∧ H r = some (.ins CR dr fr) ∧ fr.lookup ("_made" : Str) = some m ∧ DtAt H m (madeD k) ∧ fr.lookup ("_kind" : Str) = some x ∧ KindAt C H k x ∧ ∀ f, f ∉ fields → fr.lookup f = none
theorem RingAt.kp {C : KC} {CR : Addr} {H H' : Hp} {v : V} {k : RK} (h : RingAt C CR H v k) (x : Kp H H') : RingAt C CR H' v k := by
  obtain ⟨r, dr, fr, m, y, h1, h2, h3, h4, h5, h6, h7⟩ := h
  exact ⟨r, dr, fr, m, y, h1, x.ins h2, h3, h4.kp x, h5, h6.kp x, h7⟩
theorem RingAt.ex {C : KC} {CR : Addr} {H H' : Hp} {v : V} {k : RK} (h : RingAt C CR H v k) (e : Ex H H') : RingAt C CR H' v k := h.kp (.ex e)
structure SizesC (K : PySem.W.Frag) (w : World) (mg : Str → Option Value) (d : Addr) (es : Array DictEntry) (n : Nat) (a2 : Addr) : Prop where
  g : mg "_SIZES" = some (.ref d)
  D : KDict K w d es n
  no : ∀ k : RK, (∀ n, k ≠ .lot n) → PySem.W.nsIn K d (nameOf k) = some none
  lot : PySem.W.nsIn K d "lot" = some (some (.ref a2))
  two : ∀ H, SqT K H a2 [.int 1, .int 12]
structure BareK (K : PySem.W.Frag) (mg : Str → Option Value) (aB : Addr) : Prop where
  g : mg "_BARE" = some (.ref aB)
  at_ : ∀ H, SqT K H aB [.str "truth", .str "count", .str "least", .str "most", .str "narrow", .str "share"]
def spBare (C : KC) : Sp := fun vs H Q _ => ∃ k : RK, vs = [.str (nameOf k)] ∧ bare k = true ∧ ∀ (r : V) H', Ex H H' → KindAt C H' k r → Q r H'
def spSized (C : KC) : Sp := fun vs H Q _ => ∃ n : Nat, vs = [.str "lot", .int n] ∧ 1 ≤ n ∧ n ≤ 12 ∧ ∀ (r : V) H', Ex H H' → KindAt C H' (.lot n) r → Q r H'
def spKindOf (C : KC) (d : Nat) : Sp := fun vs H Q _ => ∃ (v : V) (k : RK), vs = [v] ∧ DtAt H v (madeD k) ∧ k.depth < d ∧ k.ok ∧ ∀ (r : V) H', Ex H H' → KindAt C H' k r → Q r H'
def spRingI (C : KC) (CR : Addr) : Sp := fun vs H Q _ => ∃ (a dx : Addr) (v : V) (k : RK), vs = [.ref a, v] ∧ H a = some (.ins CR dx []) ∧ DtAt H v (madeD k) ∧ k.depth < 4 ∧ k.ok ∧ ∀ H', Only a H H' → RingAt C CR H' (.ref a) k → Q .non H'
def spForm (d : Nat) : Sp := fun vs H Q _ => ∃ (v : V) (k : RK) (n : Int), vs = [v, .int n] ∧ DtAt H v (madeD k) ∧ k.ok ∧ k.depth < d ∧ (k.depth : Int) ≤ n ∧ ∀ H', Ex H H' → Q (.bl true) H'
def spTabs (d : Nat) : Sp := fun vs H Q _ => ∃ (v : V) (k : RK), vs = [v] ∧ DtAt H v (madeD k) ∧ k.depth < d ∧ ∀ p H', H p = none → Ex H H' → H' p = some (.lst []) → Q (.ref p) H'
def spRingOf (C : KC) (CR : Addr) : Sp := fun vs H Q _ => ∃ (v : V) (k : RK), vs = [v] ∧ DtAt H v (madeD k) ∧ k.ok ∧ k.depth < 4 ∧ ∀ (r : V) H', Ex H H' → RingAt C CR H' r k → Q r H'
theorem is_lot {k : RK} : (∀ n, k ≠ .lot n) ∨ ∃ n, k = .lot n := by cases k <;> first | exact .inr ⟨_, rfl⟩ | exact .inl fun n h => by cases h
/-- the tuple of which a ring is made -/
theorem made_at {H : Hp} {v : V} {k : RK} (h : DtAt H v (madeD k)) : ∃ (a : Addr) (xs : List V), v = .ref a ∧ H a = some (.tup (.str (nameOf k) :: xs)) ∧ (bare k = true → xs = []) ∧ (∀ n, k = .lot n → xs = [.int n]) ∧ ∀ x y, k = .pair x y → ∃ u w, xs = [u, w] ∧ DtAt H u (madeD x) ∧ DtAt H w (madeD y) := by
  cases k with
  | lot n =>
    obtain ⟨a, u, w, rfl, ha, h1, h2⟩ := h.two
    obtain rfl := h1.str_inv
    obtain rfl := h2.int_inv
    exact ⟨a, _, rfl, ha, fun h => (by cases h), fun m e => (by cases e; rfl), fun x y e => (by cases e)⟩
  | pair x y =>
    obtain ⟨a, u, w, t, rfl, ha, h1, h2, h3⟩ := h.three
    obtain rfl := h1.str_inv
    exact ⟨a, _, rfl, ha, fun h => (by cases h), fun m e => (by cases e), fun x' y' e => (by cases e; exact ⟨w, t, rfl, h2, h3⟩)⟩
  | _ =>
    obtain ⟨a, u, rfl, ha, h1⟩ := h.one
    obtain rfl := h1.str_inv
    exact ⟨a, _, rfl, ha, fun _ => rfl, fun m e => (by cases e), fun x y e => (by cases e)⟩
section
variable {P : Program} {w : World} {K : PySem.W.Frag} {mg : Str → Option Value} {base : Heap}
abbrev s__bare_kind : Stmt := top 47
theorem sc__bare_kind : FnScope ["name"] ["name"] (defScope s__bare_kind) := ⟨rfl, rfl, rfl, by decide +kernel, rfl, by decide +kernel, by decide +kernel⟩
theorem ok__bare_kind {f : Addr} {fd : FuncData} (F : FnP K "_bare_kind" s__bare_kind f fd) {C : KC} {f_Truth_init : Addr} {fd_Truth_init : FuncData} (b_Truth_init : Binds K fd_Truth_init ["self"] []) (G_Truth_init : FnOk P w K mg base CX0 2 f_Truth_init fd_Truth_init ["self"] (spMk C .truth [])) (M_Truth : L2.Mk K C.tr f_Truth_init) (g_Truth : mg "Truth" = some (.ref C.tr)) {f_Count_init : Addr} {fd_Count_init : FuncData} (b_Count_init : Binds K fd_Count_init ["self"] []) (G_Count_init : FnOk P w K mg base CX0 3 f_Count_init fd_Count_init ["self"] (spMk C .count [])) (M_Count : L2.Mk K C.co f_Count_init) (g_Count : mg "Count" = some (.ref C.co)) {f_Bounded_init : Addr} {fd_Bounded_init : FuncData} (b_Bounded_init : Binds K fd_Bounded_init ["self", "text", "sign"] []) (G_Bounded_init : FnOk P w K mg base CX0 3 f_Bounded_init fd_Bounded_init ["self", "text", "sign"] (spMkBound C)) (M_Bounded : L2.Mk K C.bo f_Bounded_init) (g_Bounded : mg "Bounded" = some (.ref C.bo)) {f_Narrow_init : Addr} {fd_Narrow_init : FuncData} (b_Narrow_init : Binds K fd_Narrow_init ["self"] []) (G_Narrow_init : FnOk P w K mg base CX0 3 f_Narrow_init fd_Narrow_init ["self"] (spMk C .narrow [])) (M_Narrow : L2.Mk K C.na f_Narrow_init) (g_Narrow : mg "Narrow" = some (.ref C.na)) {f_Share_init : Addr} {fd_Share_init : FuncData} (b_Share_init : Binds K fd_Share_init ["self"] []) (G_Share_init : FnOk P w K mg base CX0 2 f_Share_init fd_Share_init ["self"] (spMk C .share [])) (M_Share : L2.Mk K C.sh f_Share_init) (g_Share : mg "Share" = some (.ref C.sh)) : FnOk P w K mg base (CX0) 5 f fd ["name"] (spBare C) := by
  refine F.ok (CX := CX0) sc__bare_kind (fun vs H Q E h => ?_) (fun cdv A outer s H vs Q E hr h => ?_)
  · obtain ⟨k, rfl, _⟩ := h
    rfl
  · obtain ⟨k, rfl, hb, q⟩ := h
    have hu := hu_of hr
    have hu64 := hr.units
    have hr_Truth := hr.mono (by decide : 2 + 1 ≤ 4)
    have hr_Share := hr.mono (by decide : 2 + 1 ≤ 4)
    have hr_Count := hr.mono (by decide : 3 + 1 ≤ 4)
    have hr_Bounded := hr.mono (by decide : 3 + 1 ≤ 4)
    have hr_Narrow := hr.mono (by decide : 3 + 1 ≤ 4)
    refine ⟨_, PSs.nox (pss_cons (ps_if (pt_cmpR op_eq (pv 0) pe_str (nomark _)) (pss_one (ps_ret (pe_make0 M_Truth G_Truth_init hr_Truth rfl g_Truth b_Truth_init .nil pass0))) pss_nil)
      (pss_cons (ps_if (pt_cmpR op_eq (pv 0) pe_str (nomark _)) (pss_one (ps_ret (pe_make0 M_Count G_Count_init hr_Count rfl g_Count b_Count_init .nil pass0))) pss_nil)
      (pss_cons (ps_if (pt_cmpR op_eq (pv 0) pe_str (nomark _)) (pss_one (ps_ret (pe_make M_Bounded G_Bounded_init hr_Bounded rfl g_Bounded b_Bounded_init .nil pass0 (pa_cons pe_str (pa_cons pe_int pa_nil))))) pss_nil)
      (pss_cons (ps_if (pt_cmpR op_eq (pv 0) pe_str (nomark _)) (pss_one (ps_ret (pe_make M_Bounded G_Bounded_init hr_Bounded rfl g_Bounded b_Bounded_init .nil pass0 (pa_cons pe_str (pa_cons (pe_un un_neg pe_int) pa_nil))))) pss_nil)
      (pss_cons (ps_if (pt_cmpR op_eq (pv 0) pe_str (nomark _)) (pss_one (ps_ret (pe_make0 M_Narrow G_Narrow_init hr_Narrow rfl g_Narrow b_Narrow_init .nil pass0))) pss_nil)
      (pss_one (ps_ret (pe_make0 M_Share G_Share_init hr_Share rfl g_Share b_Share_init .nil pass0)))))))), ?_⟩
    cases k with
    | truth =>
      refine ⟨_, rfl, rfl, _, rfl, yes_of (by first | rfl | (rw [dec_str]; rfl)) ?_⟩
      intro x dx nx ndx nex
      exact ⟨x, dx, rfl, upd_same, fun H' o1 hk => ⟨rfl, q (.ref x) H' (made_ex nx ndx o1) hk⟩⟩
    | count =>
      refine ⟨_, rfl, rfl, _, rfl, no_of (by first | rfl | (rw [dec_str]; rfl)) ?_⟩
      refine ⟨_, rfl, rfl, _, rfl, yes_of (by first | rfl | (rw [dec_str]; rfl)) ?_⟩
      intro x dx nx ndx nex
      exact ⟨x, dx, rfl, upd_same, fun H' o1 hk => ⟨rfl, q (.ref x) H' (made_ex nx ndx o1) hk⟩⟩
    | least =>
      refine ⟨_, rfl, rfl, _, rfl, no_of (by first | rfl | (rw [dec_str]; rfl)) ?_⟩
      refine ⟨_, rfl, rfl, _, rfl, no_of (by first | rfl | (rw [dec_str]; rfl)) ?_⟩
      refine ⟨_, rfl, rfl, _, rfl, yes_of (by first | rfl | (rw [dec_str]; rfl)) ?_⟩
      intro x dx nx ndx nex
      exact ⟨.least, _, _, x, dx, rfl, .inl ⟨rfl, rfl, rfl⟩, upd_same, fun H' o1 hk => ⟨rfl, q (.ref x) H' (made_ex nx ndx o1) hk⟩⟩
    | most =>
      refine ⟨_, rfl, rfl, _, rfl, no_of (by first | rfl | (rw [dec_str]; rfl)) ?_⟩
      refine ⟨_, rfl, rfl, _, rfl, no_of (by first | rfl | (rw [dec_str]; rfl)) ?_⟩
      refine ⟨_, rfl, rfl, _, rfl, no_of (by first | rfl | (rw [dec_str]; rfl)) ?_⟩
      refine ⟨_, rfl, rfl, _, rfl, yes_of (by first | rfl | (rw [dec_str]; rfl)) ?_⟩
      refine ⟨1, rfl, ?_⟩
      intro x dx nx ndx nex
      exact ⟨.most, _, _, x, dx, rfl, .inr ⟨rfl, rfl, rfl⟩, upd_same, fun H' o1 hk => ⟨rfl, q (.ref x) H' (made_ex nx ndx o1) hk⟩⟩
    | narrow =>
      refine ⟨_, rfl, rfl, _, rfl, no_of (by first | rfl | (rw [dec_str]; rfl)) ?_⟩
      refine ⟨_, rfl, rfl, _, rfl, no_of (by first | rfl | (rw [dec_str]; rfl)) ?_⟩
      refine ⟨_, rfl, rfl, _, rfl, no_of (by first | rfl | (rw [dec_str]; rfl)) ?_⟩
      refine ⟨_, rfl, rfl, _, rfl, no_of (by first | rfl | (rw [dec_str]; rfl)) ?_⟩
      refine ⟨_, rfl, rfl, _, rfl, yes_of (by first | rfl | (rw [dec_str]; rfl)) ?_⟩
      intro x dx nx ndx nex
      exact ⟨x, dx, rfl, upd_same, fun H' o1 hk => ⟨rfl, q (.ref x) H' (made_ex nx ndx o1) hk⟩⟩
    | share =>
      refine ⟨_, rfl, rfl, _, rfl, no_of (by first | rfl | (rw [dec_str]; rfl)) ?_⟩
      refine ⟨_, rfl, rfl, _, rfl, no_of (by first | rfl | (rw [dec_str]; rfl)) ?_⟩
      refine ⟨_, rfl, rfl, _, rfl, no_of (by first | rfl | (rw [dec_str]; rfl)) ?_⟩
      refine ⟨_, rfl, rfl, _, rfl, no_of (by first | rfl | (rw [dec_str]; rfl)) ?_⟩
      refine ⟨_, rfl, rfl, _, rfl, no_of (by first | rfl | (rw [dec_str]; rfl)) ?_⟩
      intro x dx nx ndx nex
      exact ⟨x, dx, rfl, upd_same, fun H' o1 hk => ⟨rfl, q (.ref x) H' (made_ex nx ndx o1) hk⟩⟩
    | _ => cases hb
abbrev s__sized_kind : Stmt := top 46
theorem sc__sized_kind : FnScope ["name", "size"] ["name", "size"] (defScope s__sized_kind) := ⟨rfl, rfl, rfl, by decide +kernel, rfl, by decide +kernel, by decide +kernel⟩
theorem ok__sized_kind {f : Addr} {fd : FuncData} (F : FnP K "_sized_kind" s__sized_kind f fd) {C : KC} {f_Lot_init : Addr} {fd_Lot_init : FuncData} (b_Lot_init : Binds K fd_Lot_init ["self", "size"] []) (G_Lot_init : FnOk P w K mg base CX0 2 f_Lot_init fd_Lot_init ["self", "size"] (spMkLot C)) (M_Lot : L2.Mk K C.lo f_Lot_init) (g_Lot : mg "Lot" = some (.ref C.lo)) : FnOk P w K mg base (CX0) 4 f fd ["name", "size"] (spSized C) := by
  refine F.ok (CX := CX0) sc__sized_kind (fun vs H Q E h => ?_) (fun cdv A outer s H vs Q E hr h => ?_)
  · obtain ⟨n, rfl, _⟩ := h
    rfl
  · obtain ⟨n, rfl, n1, n2, q⟩ := h
    have hu := hu_of hr
    have hu64 := hr.units
    have hr_Lot := hr.mono (by decide : 2 + 1 ≤ 3)
    refine ⟨_, PSs.nox (pss_cons (ps_if (pt_cmpR op_eq (pv 0) pe_str (nomark _)) (pss_one (ps_ret (pe_make M_Lot G_Lot_init hr_Lot rfl g_Lot b_Lot_init .nil pass0 (pa_cons (pv 1) pa_nil)))) pss_nil)
      (pss_cons (ps_if (pt_cmpR op_eq (pv 0) pe_str (nomark _)) (pss_one (ps_dead)) pss_nil)
      (pss_one (ps_dead)))), ?_⟩
    refine ⟨_, rfl, rfl, _, rfl, yes_of (by first | rfl | (rw [dec_str]; rfl)) ⟨_, rfl, ?_⟩⟩
    intro x dx nx ndx nex
    exact ⟨n, x, dx, rfl, n1, n2, upd_same, fun H' o1 hk => ⟨rfl, q (.ref x) H' (made_ex nx ndx o1) hk⟩⟩
abbrev s_kind_of : Stmt := top 45
theorem sc_kind_of : FnScope ["made", "name"] ["made"] (defScope s_kind_of) := ⟨rfl, rfl, rfl, by decide +kernel, rfl, by decide +kernel, by decide +kernel⟩
theorem ok_kind_of {f : Addr} {fd : FuncData} (F : FnP K "kind_of" s_kind_of f fd) (g_kind_of : mg "kind_of" = some (.ref f)) {C : KC} {f_Pair_init : Addr} {fd_Pair_init : FuncData} (b_Pair_init : Binds K fd_Pair_init ["self", "left", "right"] []) (G_Pair_init : FnOk P w K mg base CX0 2 f_Pair_init fd_Pair_init ["self", "left", "right"] (spMkPair C)) (M_Pair : L2.Mk K C.pa f_Pair_init) (g_Pair : mg "Pair" = some (.ref C.pa)) {f__bare_kind : Addr} {fd__bare_kind : FuncData} (F__bare_kind : FnP K "_bare_kind" s__bare_kind f__bare_kind fd__bare_kind) (g__bare_kind : mg "_bare_kind" = some (.ref f__bare_kind)) (G__bare_kind : FnOk P w K mg base (CX0) 5 f__bare_kind fd__bare_kind ["name"] (spBare C)) {f__sized_kind : Addr} {fd__sized_kind : FuncData} (F__sized_kind : FnP K "_sized_kind" s__sized_kind f__sized_kind fd__sized_kind) (g__sized_kind : mg "_sized_kind" = some (.ref f__sized_kind)) (G__sized_kind : FnOk P w K mg base (CX0) 4 f__sized_kind fd__sized_kind ["name", "size"] (spSized C)) (z_len : mg "len" = none) : ∀ d : Nat, d ≤ 4 → FnOk P w K mg base CX0 (d + 6) f fd ["made"] (spKindOf C d) := by
  have F_kind_of := F
  have b_kind_of : Binds K fd ["made"] [] := F.bindsN fun _ _ _ _ _ _ us hl => match us, hl with | [_], _ => rfl
  have b__bare_kind : Binds K fd__bare_kind ["name"] [] := F__bare_kind.bindsN fun _ _ _ _ _ _ us hl => match us, hl with | [_], _ => rfl
  have b__sized_kind : Binds K fd__sized_kind ["name", "size"] [] := F__sized_kind.bindsN fun _ _ _ _ _ _ us hl => match us, hl with | [_, _], _ => rfl
  intro d
  induction d with
  | zero =>
    intro _
    exact fn_never fun vs H Q E ⟨v, k, _, _, h, _⟩ => Nat.not_lt_zero _ h
  | succ d ih =>
    intro hd
    have G_kind_of := ih (by omega)
    refine F.ok sc_kind_of (fun vs H Q E h => ?_) (fun cdv A outer s H vs Q E hr h => ?_)
    · obtain ⟨v, k, rfl, _⟩ := h
      rfl
    · obtain ⟨v, k, rfl, hM, hdep, hok, q⟩ := h
      have hr_kind_of := hr
      have hr_Pair := hr.mono (by omega : 2 + 1 ≤ d + 6)
      have hr__bare_kind := hr.mono (by omega : 5 ≤ d + 6)
      have hr__sized_kind := hr.mono (by omega : 4 ≤ d + 6)
      refine ⟨_, PSs.nox (pss_cons (ps_set (i := 1) sc_kind_of.nd rfl (Or.inl rfl) (pe_ix ix_tup (pv 0) pe_int (fun _ _ => rfl)))
      (pss_cons (ps_if (pt_cmpR op_eq (pv 1) pe_str (nomark _)) (pss_one (ps_ret (pe_make M_Pair G_Pair_init hr_Pair rfl g_Pair b_Pair_init .nil pass0 (pa_cons (pe_call G_kind_of hr_kind_of rfl g_kind_of F_kind_of.kp b_kind_of .nil pass0 (pa_cons (pe_ix ix_tup (pv 0) pe_int (fun _ _ => rfl)) pa_nil)) (pa_cons (pe_call G_kind_of hr_kind_of rfl g_kind_of F_kind_of.kp b_kind_of .nil pass0 (pa_cons (pe_ix ix_tup (pv 0) pe_int (fun _ _ => rfl)) pa_nil)) pa_nil))))) pss_nil)
      (pss_cons (ps_if (pt_cmpR op_eq (pv 1) pe_str (nomark _)) (pss_one (ps_dead)) pss_nil)
      (pss_cons (ps_if (pt_cmpR op_eq (pe_callB call_len_seq (by rfl) z_len PySem.boot_len (pa_cons (pv 0) pa_nil)) pe_int (nomark _)) (pss_one (ps_ret (pe_call G__sized_kind hr__sized_kind rfl g__sized_kind F__sized_kind.kp b__sized_kind .nil pass0 (pa_cons (pv 1) (pa_cons (pe_ix ix_tup (pv 0) pe_int (fun _ _ => rfl)) pa_nil))))) pss_nil)
      (pss_one (ps_ret (pe_call G__bare_kind hr__bare_kind rfl g__bare_kind F__bare_kind.kp b__bare_kind .nil pass0 (pa_cons (pv 1) pa_nil)))))))), ?_⟩
      obtain ⟨a, xs, rfl, ha, h1, h2, h3⟩ := made_at hM
      refine ⟨_, rfl, a, _, _, .str (nameOf k), rfl, rfl, .inl (.inl ha), atI_of (Int.le_refl 0) rfl, ?_⟩
      by_cases hb : bare k = true
      · obtain rfl := h1 hb
        have n1 : nameOf k ≠ "pair" := by cases k <;> first | (intro h; exact absurd h (by decide)) | cases hb
        have n2 : nameOf k ≠ "table" := by cases k <;> first | (intro h; exact absurd h (by decide)) | cases hb
        refine ⟨_, rfl, rfl, _, rfl, no_of (by rw [dec_str]; exact beq_eq_false_iff_ne.mpr n1) ?_⟩
        refine ⟨_, rfl, rfl, _, rfl, no_of (by rw [dec_str]; exact beq_eq_false_iff_ne.mpr n2) ?_⟩
        refine ⟨_, rfl, a, _, rfl, .inr (.inl (.inl ha)), rfl, _, rfl, no_of (by first | rfl | (rw [dec_int]; rfl)) ?_⟩
        exact ⟨_, rfl, k, rfl, hb, fun r H' e hk => q r H' e hk⟩
      · cases k with
        | lot n =>
          obtain rfl := h2 n rfl
          obtain ⟨n1, n2⟩ : 1 ≤ n ∧ n ≤ 12 := hok
          refine ⟨_, rfl, rfl, _, rfl, no_of (by first | rfl | (rw [dec_str]; rfl)) ?_⟩
          refine ⟨_, rfl, rfl, _, rfl, no_of (by first | rfl | (rw [dec_str]; rfl)) ?_⟩
          refine ⟨_, rfl, a, _, rfl, .inr (.inl (.inl ha)), rfl, _, rfl, yes_of (by first | rfl | (rw [dec_int]; rfl)) ?_⟩
          exact ⟨_, rfl, _, rfl, a, _, _, _, rfl, rfl, .inl (.inl ha), rfl, n, rfl, n1, n2, fun r H' e hk => q r H' e hk⟩
        | pair y z =>
          obtain ⟨u, u', rfl, hy, hz⟩ := h3 y z rfl
          obtain ⟨ok1, ok2⟩ : y.ok ∧ z.ok := hok
          have d1 := depth_l hdep
          have d2 := depth_r hdep
          refine ⟨_, rfl, rfl, _, rfl, yes_of (by first | rfl | (rw [dec_str]; rfl)) ?_⟩
          refine ⟨_, rfl, a, _, _, _, rfl, rfl, .inl (.inl ha), rfl, u, y, rfl, hy, d1, ok1, fun k1 H1 e1 hk1 => ?_⟩
          refine ⟨_, rfl, a, _, _, _, rfl, rfl, .inl (.inl (e1 _ _ ha)), rfl, u', z, rfl, hz.ex e1, d2, ok2, fun k2 H2 e2 hk2 => ?_⟩
          intro x dx nx ndx nex
          have eN := new_ex (C := C.pa) nx ndx
          exact ⟨y, z, k1, k2, x, dx, rfl, (hk1.ex e2).ex eN, hk2.ex eN, by omega, by omega, upd_same, fun H' o1 hk => ⟨rfl, q (.ref x) H' ((e1.trans e2).trans (made_ex nx ndx o1)) hk⟩⟩
        | _ => exact absurd rfl hb
abbrev s_Ring_init : Stmt := meth 49 0
theorem sc_Ring_init : FnScope ["self", "made"] ["self", "made"] (defScope s_Ring_init) := ⟨rfl, rfl, rfl, by decide +kernel, rfl, by decide +kernel, by decide +kernel⟩
theorem ok_Ring_init {f : Addr} {fd : FuncData} (F : FnM K "Ring" "__init__" s_Ring_init f fd) {C : KC} {CR : Addr} (okR : OkC K CR) {f_kind_of : Addr} {fd_kind_of : FuncData} (F_kind_of : FnP K "kind_of" s_kind_of f_kind_of fd_kind_of) (g_kind_of : mg "kind_of" = some (.ref f_kind_of)) (G_kind_of : FnOk P w K mg base (CX0) 10 f_kind_of fd_kind_of ["made"] (spKindOf C 4)) : FnOk P w K mg base (CX0) 11 f fd ["self", "made"] (spRingI C CR) := by
  have b_kind_of : Binds K fd_kind_of ["made"] [] := F_kind_of.bindsN fun _ _ _ _ _ _ us hl => match us, hl with | [_], _ => rfl
  refine F.ok (CX := CX0) sc_Ring_init (fun vs H Q E h => ?_) (fun cdv A outer s H vs Q E hr h => ?_)
  · obtain ⟨a, dx, v, k, rfl, _⟩ := h
    rfl
  · obtain ⟨a, dx, v, k, rfl, ha, hM, hd, hok, q⟩ := h
    have hu := hu_of hr
    have hu64 := hr.units
    have hr_kind_of := hr.mono (by decide : 10 ≤ 10)
    refine ⟨_, PSs.nox (pss_cons (ps_fld (pv 0) (pv 1) rfl)
      (pss_one (ps_fld (pv 0) (pe_call G_kind_of hr_kind_of rfl g_kind_of F_kind_of.kp b_kind_of .nil pass0 (pa_cons (pv 1) pa_nil)) rfl))), ?_⟩
    refine ⟨_, rfl, _, rfl, a, CR, dx, [], rfl, ha, okR.cls, okR.no _ (by decide), by decide, ?_⟩
    have o1 : Only a H (upd H a (.ins CR dx (putF "_made" v []))) := Only.refl.upd
    refine ⟨_, rfl, v, k, rfl, o1.kp hM ⟨_, _, _, ha⟩, hd, hok, fun x H2 e hk => ?_⟩
    have ha2 : H2 a = some (.ins CR dx (putF "_made" v [])) := e _ _ upd_same
    refine ⟨_, rfl, a, CR, dx, _, rfl, ha2, okR.cls, okR.no _ (by decide), by (show 1 < 1000; decide), ?_⟩
    have o2 : Only a H2 (upd H2 a (.ins CR dx (putF "_kind" x (putF "_made" v [])))) := Only.refl.upd
    have hM2 := (o1.kp hM ⟨_, _, _, ha⟩).ex e
    exact q _ ((o1.ex e).trans o2) ⟨a, dx, _, v, x, rfl, upd_same, rfl, o2.kp hM2 ⟨_, _, _, ha2⟩, rfl, hk.only o2 ha2 rfl, no_fs (by rfl)⟩
abbrev s__has_form : Stmt := top 84
theorem sc__has_form : FnScope ["made", "deep", "name", "least", "most"] ["made", "deep"] (defScope s__has_form) := ⟨rfl, rfl, rfl, by decide +kernel, rfl, by decide +kernel, by decide +kernel⟩
theorem ok__has_form {f : Addr} {fd : FuncData} (F : FnP K "_has_form" s__has_form f fd) (g__has_form : mg "_has_form" = some (.ref f)) {f_is_whole : Addr} {fd_is_whole : FuncData} (F_is_whole : FnP K "is_whole" s_is_whole f_is_whole fd_is_whole) (g_is_whole : mg "is_whole" = some (.ref f_is_whole)) (G_is_whole : FnOk P w K mg base (CX0) 2 f_is_whole fd_is_whole ["thing", "least", "most"] (spWhole K)) {dS aS2 aB : Addr} {es : Array DictEntry} {nS : Nat} (SZ : SizesC K w mg dS es nS aS2) (BA : BareK K mg aB) (z_isinstance : mg "isinstance" = none) (z_tuple : mg "tuple" = none) (z_len : mg "len" = none) (z_str : mg "str" = none) : ∀ d : Nat, FnOk P w K mg base CX0 (d + 5) f fd ["made", "deep"] (spForm d) := by
  have F__has_form := F
  have b__has_form : Binds K fd ["made", "deep"] [] := F__has_form.bindsN fun _ _ _ _ _ _ us hl => match us, hl with | [_, _], _ => rfl
  have b_is_whole : Binds K fd_is_whole ["thing", "least", "most"] [] := F_is_whole.bindsN fun _ _ _ _ _ _ us hl => match us, hl with | [_, _, _], _ => rfl
  intro d
  induction d with
  | zero => exact fn_never fun vs H Q E ⟨v, k, n, _, _, _, h, _⟩ => Nat.not_lt_zero _ h
  | succ d ih =>
    have G__has_form := ih
    refine F.ok sc__has_form (fun vs H Q E h => ?_) (fun cdv A outer s H vs Q E hr h => ?_)
    · obtain ⟨v, k, n, rfl, _⟩ := h
      rfl
    · obtain ⟨v, k, n, rfl, hM, hok, hdep, hn, q⟩ := h
      have hu := hu_of hr
      have hr__has_form := hr
      have hr_is_whole := hr.mono (by omega : 2 ≤ d + 5)
      refine ⟨_, PSs.nox (pss_cons (ps_if (PW.pt (pw_or (pt_not (pt_val (pe_callB call_isi (by rfl) z_isinstance PyProof.Rows.boot_isinstance (pa_cons (pv 0) (pa_cons (pe_bltn (v := .ty "tuple") rfl z_tuple (by decide +kernel) rfl) pa_nil))))) (pw_or (pt_cmpR op_eq (pe_callB call_len_seq (by rfl) z_len PySem.boot_len (pa_cons (pv 0) pa_nil)) pe_int (nomark _)) (pw_or1 (pt_not (pt_val (pe_callB call_isi (by rfl) z_isinstance PyProof.Rows.boot_isinstance (pa_cons (pe_ix ix_tup (pv 0) pe_int (fun _ _ => rfl)) (pa_cons (pe_bltn (v := .ty "str") rfl z_str (by decide +kernel) rfl) pa_nil))))))))) (pss_one (ps_ret pe_bl)) pss_nil)
      (pss_cons (ps_set (i := 2) sc__has_form.nd rfl (Or.inl rfl) (pe_ix ix_tup (pv 0) pe_int (fun _ _ => rfl)))
      (pss_cons (ps_if (pt_cmpR (op_in_kd SZ.D) (pv 2) (pe_glob (v := .ref dS) rfl SZ.g rfl) (by rfl)) (pss_cons (ps_asg (pe_ix ix_kdict (pe_glob (v := .ref dS) rfl SZ.g rfl) (pv 2) (fun _ _ => rfl)) (pg_tup rfl (pgs_cons (pg_name (i := 3) sc__has_form.nd rfl (Or.inl rfl)) (pgs_cons (pg_name (i := 4) sc__has_form.nd rfl (Or.inl rfl)) pgs_nil))))
      (pss_one (ps_ret (pe_and (pe_cmpR op_eq (pe_callB call_len_seq (by rfl) z_len PySem.boot_len (pa_cons (pv 0) pa_nil)) pe_int (nomark _)) (pe_one (pe_call G_is_whole hr_is_whole rfl g_is_whole F_is_whole.kp b_is_whole .nil pass0 (pa_cons (pe_ix ix_tup (pv 0) pe_int (fun _ _ => rfl)) (pa_cons (pv 3) (pa_cons (pv 4) pa_nil))))))))) pss_nil)
      (pss_cons (ps_if (PW.pt (pw_and (pt_cmpR op_eq (pe_callB call_len_seq (by rfl) z_len PySem.boot_len (pa_cons (pv 0) pa_nil)) pe_int (nomark _)) (pw_and1 (pt_cmpR op_eq (pv 2) pe_str (nomark _))))) (pss_one (ps_dead)) pss_nil)
      (pss_cons (ps_if (PW.pt (pw_and (pt_cmpR op_eq (pe_callB call_len_seq (by rfl) z_len PySem.boot_len (pa_cons (pv 0) pa_nil)) pe_int (nomark _)) (pw_and1 (pt_cmpR op_eq (pv 2) pe_str (nomark _))))) (pss_one (ps_ret (pe_and (pe_cmpR op_gt (pv 1) pe_int (nomark _)) (pe_and (pe_call G__has_form hr__has_form rfl g__has_form F__has_form.kp b__has_form .nil pass0 (pa_cons (pe_ix ix_tup (pv 0) pe_int (fun _ _ => rfl)) (pa_cons (pe_op op_sub (pv 1) pe_int) pa_nil))) (pe_one (pe_call G__has_form hr__has_form rfl g__has_form F__has_form.kp b__has_form .nil pass0 (pa_cons (pe_ix ix_tup (pv 0) pe_int (fun _ _ => rfl)) (pa_cons (pe_op op_sub (pv 1) pe_int) pa_nil)))))))) pss_nil)
      (pss_one (ps_ret (pe_and (pe_cmpR op_eq (pe_callB call_len_seq (by rfl) z_len PySem.boot_len (pa_cons (pv 0) pa_nil)) pe_int (nomark _)) (pe_one (pe_cmpR op_in_seq (pv 2) (pe_glob (v := .ref aB) rfl BA.g rfl) (by rfl))))))))))), ?_⟩
      obtain ⟨a, xs, rfl, ha, h1, h2, h3⟩ := made_at hM
      have hS : SqT K H a (.str (nameOf k) :: xs) := .inl (.inl ha)
      refine q_when (b := false) (et_is (et_or (et_not (et_B (ev_tTup (ev_var rfl) (tl_tup ha)))) (fun _ => et_or (a := false) (et_is (et_test (ev_eqI (ev_lenT (ev_var rfl) hS) ev_c)) ?_) (fun _ => et_not (et_B (ev_tStr (ev_op (ev_var rfl) ev_c (rv_ixT hS (v := .str (nameOf k)) (atI_of (Int.le_refl 0) rfl))) (tl_str _)))))) rfl) (fun hb => (by cases hb)) (fun _ H1 e1 => ?_)
      · rw [beq_eq_false_iff_ne]
        show ((xs.length + 1 : Nat) : Int) ≠ 0
        omega
      refine q_asg (ev_op (ev_var rfl) ev_c (rv_ixT (ex_t e1 hS) (v := .str (nameOf k)) (atI_of (Int.le_refl 0) rfl))) fun H2 e2 => ?_
      have e3 := e1.trans e2
      have hS2 := ex_t e3 hS
      rcases is_lot (k := k) with hnl | ⟨m, rfl⟩
      · refine q_when (b := false) (et_test (ev_op (ev_var rfl) ev_c fun H3 _ Q' k' => ⟨_, none, rfl, rfl, SZ.no k hnl, k' H3 (Ex.refl H3)⟩)) (fun hb => (by cases hb)) (fun _ H3 e4 => ?_)
        by_cases hb : bare k = true
        · obtain rfl := h1 hb
          refine q_when (b := false) (et_is (et_and (a := false) (b := false) (et_is (et_test (ev_eqI (ev_lenT (ev_var rfl) (ex_t (e3.trans e4) hS)) ev_c)) rfl) (fun hb => (by cases hb))) rfl) (fun hb => (by cases hb)) (fun _ H4 e5 => ?_)
          refine q_when (b := false) (et_is (et_and (a := false) (b := false) (et_is (et_test (ev_eqI (ev_lenT (ev_var rfl) (ex_t ((e3.trans e4).trans e5) hS)) ev_c)) rfl) (fun hb => (by cases hb))) rfl) (fun hb => (by cases hb)) (fun _ H5 e6 => ?_)
          have e7 := ((e3.trans e4).trans e5).trans e6
          refine s_ret (ev_andV (a := true) (b := true) (ev_is (ev_eqI (ev_lenT (ev_var rfl) (ex_t e7 hS)) ev_c) rfl) (fun _ => ev_is (ev_op (ev_var rfl) ev_c (rv_inT (BA.at_ H5) rfl rfl)) (by cases k <;> first | (exact congrArg V.bl (by decide)) | cases hb))) fun H6 e8 => q H6 (e7.trans e8)
        · cases k with
          | pair y z =>
            obtain ⟨u, u', rfl, hy, hz⟩ := h3 y z rfl
            obtain ⟨ok1, ok2⟩ : y.ok ∧ z.ok := hok
            have d1 := depth_l hdep
            have d2 := depth_r hdep
            have hn2 : ((max y.depth z.depth + 1 : Nat) : Int) ≤ n := hn
            have m1 := Nat.le_max_left y.depth z.depth
            have m2 := Nat.le_max_right y.depth z.depth
            refine q_when (b := false) (et_is (et_and (a := true) (b := false) (et_is (et_test (ev_eqI (ev_lenT (ev_var rfl) (ex_t (e3.trans e4) hS)) ev_c)) rfl) (fun _ => et_is (et_test (ev_eqS (ev_var rfl) ev_c)) (by show (("pair" : Str) == "table") = false; decide +kernel))) rfl) (fun hb => (by cases hb)) (fun _ H4 e5 => ?_)
            refine q_when (b := true) (et_is (et_and (a := true) (b := true) (et_is (et_test (ev_eqI (ev_lenT (ev_var rfl) (ex_t ((e3.trans e4).trans e5) hS)) ev_c)) rfl) (fun _ => et_is (et_test (ev_eqS (ev_var rfl) ev_c)) (by show (("pair" : Str) == "pair") = true; decide +kernel))) rfl) (fun _ H5 e6 => ?_) (fun hb => (by cases hb))
            have e7 := ((e3.trans e4).trans e5).trans e6
            refine s_ret (v := .bl true) (ev_is (ev_andV (a := true) (b := true) (ev_is (ev_gtI (ev_var rfl) ev_c) (by rw [decide_eq_true (by omega : (0 : Int) < n)])) fun _ => ev_is (ev_andV (a := true) (b := true) (ev_call (ea_cons (ev_op (ev_var rfl) ev_c (rv_ixT (ex_t e7 hS) (v := u) rfl)) (ea_cons (ev_op (ev_var rfl) ev_c rv_I0) ea_nil)) fun H6 e8 Q' k' E' => ⟨u, y, n - 1, rfl, hy.ex (e7.trans e8), ok1, d1, by omega, fun H7 e9 => k' H7 e9⟩) fun _ => ev_call (ea_cons (ev_op (ev_var rfl) ev_c (rv_ixT (ex_t e7 hS) (v := u') rfl)) (ea_cons (ev_op (ev_var rfl) ev_c rv_I0) ea_nil)) fun H6 e8 Q' k' E' => ⟨u', z, n - 1, rfl, hz.ex (e7.trans e8), ok2, d2, by omega, fun H7 e9 => k' H7 e9⟩) rfl) rfl) fun H6 e8 => q H6 (e7.trans e8)
          | lot m => exact absurd rfl (hnl m)
          | _ => exact absurd rfl hb
      · obtain rfl := h2 m rfl
        obtain ⟨n1, n2⟩ : 1 ≤ m ∧ m ≤ 12 := hok
        refine q_when (b := true) (et_test (ev_op (ev_var rfl) ev_c fun H3 _ Q' k => ⟨_, some (.ref aS2), rfl, rfl, SZ.lot, k H3 (Ex.refl H3)⟩)) (fun _ H3 e4 => ?_) (fun hb => (by cases hb))
        refine ⟨_, rfl, dS, _, .ref aS2, rfl, rfl, ⟨es, nS, .ref aS2, SZ.D.at_, SZ.D.lit, SZ.lot, rfl⟩, aS2, _, rfl, SZ.two _, rfl, _, _, rfl, _, _, rfl, rfl, ?_⟩
        have e7 := e3.trans e4
        refine s_ret (v := .bl true) (ev_is (ev_andV (a := true) (b := true) (ev_is (ev_eqI (ev_lenT (ev_var rfl) (ex_t e7 hS)) ev_c) rfl) (fun _ => ev_is (ev_call (ea_cons (ev_op (ev_var rfl) ev_c (rv_ixT (ex_t e7 hS) (v := .int m) rfl)) (ea_cons (ev_var rfl) (ea_cons (ev_var rfl) ea_nil))) fun H5 e8 Q' k' E' => ⟨_, some (m : Int), _, _, rfl, (DtAt.int (m : Int)).num, fun H6 e9 => k' H6 e9⟩) (by show V.bl (within 1 12 (m : Int)) = _; unfold within; rw [decide_eq_true (by omega : (1 : Int) ≤ (m : Int)), decide_eq_true (by omega : (m : Int) ≤ 12)]; rfl))) rfl) fun H6 e8 => q H6 (e7.trans e8)
abbrev s__tables : Stmt := top 88
theorem sc__tables : FnScope ["made"] ["made"] (defScope s__tables) := ⟨rfl, rfl, rfl, by decide +kernel, rfl, by decide +kernel, by decide +kernel⟩
theorem ok__tables {f : Addr} {fd : FuncData} (F : FnP K "_tables" s__tables f fd) (g__tables : mg "_tables" = some (.ref f)) : ∀ d : Nat, FnOk P w K mg base CX0 d f fd ["made"] (spTabs d) := by
  have F__tables := F
  have b__tables : Binds K fd ["made"] [] := F__tables.bindsN fun _ _ _ _ _ _ us hl => match us, hl with | [_], _ => rfl
  intro d
  induction d with
  | zero => exact fn_never fun vs H Q E ⟨v, k, _, _, h, _⟩ => Nat.not_lt_zero _ h
  | succ d ih =>
    have G__tables := ih
    refine F.ok sc__tables (fun vs H Q E h => ?_) (fun cdv A outer s H vs Q E hr h => ?_)
    · obtain ⟨v, k, rfl, _⟩ := h
      rfl
    · obtain ⟨v, k, rfl, hM, hdep, q⟩ := h
      have hr__tables := hr
      refine ⟨_, PSs.nox (pss_cons (ps_if (pt_cmpR op_eq (pe_ix ix_tup (pv 0) pe_int (fun _ _ => rfl)) pe_str (nomark _)) (pss_one (ps_dead)) pss_nil)
      (pss_cons (ps_if (pt_cmpR op_eq (pe_ix ix_tup (pv 0) pe_int (fun _ _ => rfl)) pe_str (nomark _)) (pss_one (ps_ret (pe_lst (StX.pa_star (pe_call G__tables hr__tables rfl g__tables F__tables.kp b__tables .nil pass0 (pa_cons (pe_ix ix_tup (pv 0) pe_int (fun _ _ => rfl)) pa_nil)) (StX.pa_star (pe_call G__tables hr__tables rfl g__tables F__tables.kp b__tables .nil pass0 (pa_cons (pe_ix ix_tup (pv 0) pe_int (fun _ _ => rfl)) pa_nil)) pa_nil))))) pss_nil)
      (pss_one (ps_ret (pe_lst pa_nil))))), ?_⟩
      obtain ⟨a, xs, rfl, ha, h1, h2, h3⟩ := made_at hM
      have n2 : nameOf k ≠ "table" := by cases k <;> first | (intro h; exact absurd h (by decide)) | (show ¬(("lot" : Str) = "table"); decide) | (show ¬(("pair" : Str) = "table"); decide)
      refine ⟨_, rfl, a, _, _, .str (nameOf k), rfl, rfl, .inl (.inl ha), atI_of (Int.le_refl 0) rfl, rfl, _, rfl, no_of (by rw [dec_str]; exact beq_eq_false_iff_ne.mpr n2) ?_⟩
      by_cases hp : ∃ y z, k = .pair y z
      · obtain ⟨y, z, rfl⟩ := hp
        obtain ⟨u, u', rfl, hy, hz⟩ := h3 y z rfl
        refine ⟨_, rfl, a, _, _, _, rfl, rfl, .inl (.inl ha), rfl, rfl, _, rfl, yes_of (by first | rfl | (rw [dec_str]; rfl)) ?_⟩
        refine ⟨_, rfl, a, _, _, _, rfl, rfl, .inl (.inl ha), rfl, u, y, rfl, hy, depth_l hdep, fun D1 H1 hD1 e1 hL1 => ⟨D1, _, rfl, .inr (SqL.of hL1), ?_⟩⟩
        have ha1 := e1 _ _ ha
        refine ⟨_, rfl, a, _, _, _, rfl, rfl, .inl (.inl ha1), rfl, u', z, rfl, hz.ex e1, depth_r hdep, fun D2 H2 hD2 e2 hL2 => ⟨D2, _, rfl, .inr (SqL.of hL2), ?_⟩⟩
        exact ⟨Nat.zero_le _, fun D hD => q D _ (fresh_back (e1.trans e2) hD) ((e1.trans e2).trans (Ex.new hD)) upd_same⟩
      · have n3 : nameOf k ≠ "pair" := by cases k <;> first | (intro h; exact absurd h (by decide)) | exact absurd ⟨_, _, rfl⟩ hp | (show ¬(("lot" : Str) = "pair"); decide)
        refine ⟨_, rfl, a, _, _, .str (nameOf k), rfl, rfl, .inl (.inl ha), atI_of (Int.le_refl 0) rfl, rfl, _, rfl, no_of (by rw [dec_str]; exact beq_eq_false_iff_ne.mpr n3) ?_⟩
        exact ⟨Nat.zero_le _, fun D hD => q D _ hD (Ex.new hD) upd_same⟩
abbrev s_ring_of : Stmt := top 83
theorem sc_ring_of : FnScope ["made", "sums", "products", "broken"] ["made"] (defScope s_ring_of) := ⟨rfl, rfl, rfl, by decide +kernel, rfl, by decide +kernel, by decide +kernel⟩
theorem ok_ring_of {f : Addr} {fd : FuncData} (F : FnP K "ring_of" s_ring_of f fd) {C : KC} {CR : Addr} {f__has_form : Addr} {fd__has_form : FuncData} (F__has_form : FnP K "_has_form" s__has_form f__has_form fd__has_form) (g__has_form : mg "_has_form" = some (.ref f__has_form)) (G__has_form : FnOk P w K mg base (CX0) 9 f__has_form fd__has_form ["made", "deep"] (spForm 4)) {f__tables : Addr} {fd__tables : FuncData} (F__tables : FnP K "_tables" s__tables f__tables fd__tables) (g__tables : mg "_tables" = some (.ref f__tables)) (G__tables : FnOk P w K mg base (CX0) 4 f__tables fd__tables ["made"] (spTabs 4)) {f_Ring_init : Addr} {fd_Ring_init : FuncData} (b_Ring_init : Binds K fd_Ring_init ["self", "made"] []) (G_Ring_init : FnOk P w K mg base CX0 11 f_Ring_init fd_Ring_init ["self", "made"] (spRingI C CR)) (M_R : L2.Mk K CR f_Ring_init) (g_Ring : mg "Ring" = some (.ref CR)) {tP : Tok} (g_PAIRS : mg "_PAIRS" = some (.int 3 tP)) : FnOk P w K mg base (CX0) 13 f fd ["made"] (spRingOf C CR) := by
  have b__has_form : Binds K fd__has_form ["made", "deep"] [] := F__has_form.bindsN fun _ _ _ _ _ _ us hl => match us, hl with | [_, _], _ => rfl
  have b__tables : Binds K fd__tables ["made"] [] := F__tables.bindsN fun _ _ _ _ _ _ us hl => match us, hl with | [_], _ => rfl
  refine F.ok (CX := CX0) sc_ring_of (fun vs H Q E h => ?_) (fun cdv A outer s H vs Q E hr h => ?_)
  · obtain ⟨v, k, rfl, _⟩ := h
    rfl
  · obtain ⟨v, k, rfl, hM, hok, hd, q⟩ := h
    have hu := hu_of hr
    have hu64 := hr.units
    have hr__has_form := hr.mono (by decide : 9 ≤ 12)
    have hr__tables := hr.mono (by decide : 4 ≤ 12)
    have hr_Ring := hr.mono (by decide : 11 + 1 ≤ 12)
    refine ⟨_, PSs.nox (pss_cons (ps_if (pt_not (pt_val (pe_call G__has_form hr__has_form rfl g__has_form F__has_form.kp b__has_form .nil pass0 (pa_cons (pv 0) (pa_cons (pe_glob (v := .int 3) rfl g_PAIRS ⟨_, rfl⟩) pa_nil))))) (pss_one (ps_dead)) pss_nil)
      (pss_cons (ps_for PassesOwn.never rfl (pi_list (pe_call G__tables hr__tables rfl g__tables F__tables.kp b__tables .nil pass0 (pa_cons (pv 0) pa_nil))) (pg_tup rfl (pgs_cons (pg_name (i := 1) sc_ring_of.nd rfl (Or.inl rfl)) (pgs_cons (pg_name (i := 2) sc_ring_of.nd rfl (Or.inl rfl)) pgs_nil))) (pss_cons (ps_dead)
      (pss_one (ps_if (pt_cmpR op_notN (pv 3) pe_non (nomark _)) (pss_one (ps_dead)) pss_nil))))
      (pss_one (ps_ret (pe_make M_R G_Ring_init hr_Ring rfl g_Ring b_Ring_init .nil pass0 (pa_cons (pv 0) pa_nil)))))), ?_⟩
    refine q_when (b := false) (et_is (et_not (et_B (ev_call (z := .bl true) (ea_cons (ev_var rfl) (ea_cons ev_c ea_nil)) fun H1 e1 Q' k' E' => ⟨v, k, 3, rfl, hM.ex e1, hok, hd, by omega, fun H2 e2 => k' H2 e2⟩))) rfl) (fun hb => (by cases hb)) (fun hb H1 e1 => ?_)
    refine ⟨_, rfl, v, k, rfl, hM.ex e1, hd, fun D H2 hD e2 hL => ⟨D, rfl, ⟨_, SqL.of hL⟩, ?_⟩⟩
    refine for_it (walk_list (K := K) (a := D) (xs := [])) (fun i σ' G => σ' = [some v, none, none, none] ∧ Ex H2 G) ⟨rfl, Ex.refl H2⟩ (fun i σ' G _ h => ex_l h.2 (SqL.of hL)) (fun i x σ' H' G hi => absurd hi (Nat.not_lt_zero _)) ?_
    rintro σ' G ⟨rfl, eG⟩
    refine ⟨_, rfl, ?_⟩
    intro x dx nx ndx nex
    have e := (e1.trans e2).trans eG
    exact ⟨x, dx, v, k, rfl, upd_same, (hM.ex e).ex (new_ex nx ndx), hd, hok, fun H' o1 hR => ⟨rfl, q (.ref x) H' (e.trans (made_ex nx ndx o1)) hR⟩⟩
end
end D1
end
section
set_option Elab.async false
set_option linter.all false
set_option maxRecDepth 100000
set_option maxHeartbeats 4000000
/-! W0: what is a list or a tuple; webs and paths as they lie -/
namespace L2
open PySem PySem.Spec PyProof.Rows Evl RZ
/-- a list (true) or a tuple (false) -/
def objQ (q : Bool) (xs : List V) : HO := if q then .lst xs else .tup xs
def SqQ (K : PySem.W.Frag) (q : Bool) (H : Hp) (a : Addr) (xs : List V) : Prop := (q = true ∧ SqL K H a xs) ∨ (q = false ∧ SqT K H a xs)
theorem SqQ.of {K : PySem.W.Frag} {q : Bool} {H : Hp} {a : Addr} {xs : List V} (h : H a = some (objQ q xs)) : SqQ K q H a xs := by
  cases q with
  | true => exact .inl ⟨rfl, sq_of h⟩
  | false => exact .inr ⟨rfl, st_of h⟩
theorem ex_q {K : PySem.W.Frag} {q : Bool} {H H' : Hp} {a : Addr} {xs : List V} (e : Ex H H') (h : SqQ K q H a xs) : SqQ K q H' a xs := by
  rcases h with ⟨z, h⟩ | ⟨z, h⟩
  · exact .inl ⟨z, ex_l e h⟩
  · exact .inr ⟨z, ex_t e h⟩
def ItQ (K : PySem.W.Frag) (q : Bool) (a : Addr) : It := if q then Itl K a else Itt K a
def iSeq (K : PySem.W.Frag) (tl : TE) : TI := fun σ H R => tl σ H fun x H1 => ∃ a q xs, x = .ref a ∧ SqQ K q H1 a xs ∧ R (ItQ K q a) H1
section
variable {X : Cx} {tg : Expr}
theorem pi_seq {l : Expr} {tl : TE} (hl : PE X l tl) : PI X tg l (iSeq X.K tl) := by
  refine ⟨fun pins s σ H R I h => ?_⟩
  refine thn (hl.run pins s σ H _ I h) fun v s1 ⟨x, H1, I1, r1, q1⟩ => ?_
  obtain ⟨a, q, xs, e, hq, k⟩ := q1
  subst e
  cases r1
  rcases hq with ⟨rfl, hq⟩ | ⟨rfl, hq⟩
  · obtain ⟨its, rv, p, hz⟩ := I1.list hq
    refine wpAny_pyIter_list p.isList ?_
    refine ⟨s1.heap.objs.size, [s1.heap.objs.size], _, _, H1, rfl, I1.kept (t' := s1.toks) fun b o e => Heap.get?_push_of_some _ e, turn_list a _, ⟨_, Heap.get?_push_size _ rfl, rfl, rfl⟩, fun b hb => ?_, k⟩
    have e : b = s1.heap.objs.size := by simpa using hb
    subst e
    exact I1.fpOk (Nat.le_refl _) (I1.hok.fresh (Nat.le_refl _))
  · obtain ⟨its, rv, p, hz⟩ := I1.tuple hq
    refine wpAny_pyIter_tuple (show s1.heap.IsTuple a its.toArray from p) ?_
    refine ⟨s1.heap.objs.size, [s1.heap.objs.size], _, _, H1, rfl, I1.kept (t' := s1.toks) fun b o e => Heap.get?_push_of_some _ e, turn_tuple a _, ⟨_, Heap.get?_push_size _ rfl, rfl, rfl⟩, fun b hb => ?_, k⟩
    have e : b = s1.heap.objs.size := by simpa using hb
    subst e
    exact I1.fpOk (Nat.le_refl _) (I1.hok.fresh (Nat.le_refl _))
theorem sl_seq : SlR X (fun x lo hi H Q => rSlL X.K x lo hi H Q ∨ rSlA X.K x lo hi H Q) := SlR.or sl_list sl_tupA
theorem ix_seq_walk {K : PySem.W.Frag} {q : Bool} {a : Addr} {xs : List V} : Walk (ItQ K q a) xs.length (fun H => SqQ K q H a xs) (YAt xs) := by
  cases q with
  | true => exact ⟨fun i H hi g => (walk_list (K := K) (a := a) (xs := xs)).goes i H hi (by rcases g with ⟨_, g⟩ | ⟨h, _⟩; exact g; cases h), fun H g => (walk_list (K := K) (a := a) (xs := xs)).stops H (by rcases g with ⟨_, g⟩ | ⟨h, _⟩; exact g; cases h), fun i H x H' hi g y => (walk_list (K := K) (a := a) (xs := xs)).yields i H x H' hi (by rcases g with ⟨_, g⟩ | ⟨h, _⟩; exact g; cases h) y⟩
  | false => exact ⟨fun i H hi g => (walk_tup (K := K) (a := a) (xs := xs)).goes i H hi (by rcases g with ⟨h, _⟩ | ⟨_, g⟩; cases h; exact g), fun H g => (walk_tup (K := K) (a := a) (xs := xs)).stops H (by rcases g with ⟨h, _⟩ | ⟨_, g⟩; cases h; exact g), fun i H x H' hi g y => (walk_tup (K := K) (a := a) (xs := xs)).yields i H x H' hi (by rcases g with ⟨h, _⟩ | ⟨_, g⟩; cases h; exact g) y⟩
end
section
variable {K : PySem.W.Frag} {σ : L2.St} {H : Hp} {te ta tb tl tx : TE}
/-- [e for x in s], s a list or a tuple -/
theorem el_lcQ {a : Addr} {q : Bool} {xs : List V} {j : Nat} {vs : List Nat} (v : Nat → V) (h : Ev tl σ H (.ref a)) (hx : SqQ K q H a xs) (hz : xs.length ≤ 40000) (hw : ∀ x, wipe ((wipe σ vs).set j (some x)) vs = wipe σ vs)
    (he : ∀ (i : Nat) (x : V) H1, Ex H H1 → xs[i]? = some x → Ev te ((wipe σ vs).set j (some x)) H1 (v i)) :
    EvL (tLc (iSeq K tl) (gName j) tYes te vs) σ H (given xs.length (fun _ => true) v) := fun H0 e Q k => h H0 e _ fun H1 e1 => ⟨a, q, xs, rfl, ex_q (e.trans e1) hx, fun Dl hD =>
  lc_it (ix_seq_walk (xs := xs)) (Cw H1 (fun _ => true) v Dl) ⟨hD, Ex.new hD, upd_same⟩ (fun i H' _ p => ex_q ((e.trans e1).trans p.2.1) hx) (fun i x H5 H6 hi p y => by
    obtain ⟨rfl, hx⟩ := y
    exact ⟨hw _, cw_turn (f := fun _ => true) p (by omega) (fun H4 _ Q' q => q H4 (Ex.refl H4)) (fun _ => he i x H1 (e.trans e1) hx)⟩) (fun H' p => k Dl H' (fresh_back e1 p.1) (e1.trans p.2.1) p.2.2)⟩
theorem ev_allQ {a : Addr} {q : Bool} {xs : List V} {j : Nat} {vs : List Nat} (g : Nat → Bool) (h : Ev tl σ H (.ref a)) (hx : SqQ K q H a xs) (hz : xs.length ≤ 40000) (hw : ∀ x, wipe ((wipe σ vs).set j (some x)) vs = wipe σ vs)
    (he : ∀ (i : Nat) (x : V) H1, Ex H H1 → xs[i]? = some x → Ev te ((wipe σ vs).set j (some x)) H1 (.bl (g i))) :
    Ev (tCB (rAll K) (tCons (tLc (iSeq K tl) (gName j) tYes te vs) tNil)) σ H (.bl ((List.range xs.length).all g)) := by
  have h1 := el_lcQ (fun i => V.bl (g i)) h hx hz hw he
  rw [D1.given_map] at h1
  have h2 := D1.ev_all (K := K) h1
  rw [D1.all_range] at h2
  exact h2
theorem ev_lenQ {p : Addr} {q : Bool} {ys : List V} (hx : Ev tx σ H (.ref p)) (h : SqQ K q H p ys) : Ev (tCB (fun xs H Q => ∃ p ys, xs = [V.ref p] ∧ (SqL K H p ys ∨ SqT K H p ys) ∧ Q (.int ys.length) H) (tCons tx tNil)) σ H (.int ys.length) := fun H1 e Q k =>
  hx H1 e _ fun H2 e2 => ⟨p, ys, rfl, by
    rcases ex_q (e.trans e2) h with ⟨_, h⟩ | ⟨_, h⟩
    · exact .inl h
    · exact .inr h, k H2 e2⟩
end
end L2
namespace D1
open PySem L2 Evl RZ ClX PySem.VX
section
variable {K : PySem.W.Frag} {σ : L2.St} {H : Hp} {te ta tb tl tx : TE}
/-- isinstance(x, (list, tuple)) -/
theorem ev_tLT {v : V} {a b c d e : Bool} (h : Ev te σ H v) (t : Tells K H v a b c d e) : Ev (tCB (rIsiT K) (tCons te (tCons (tTup (tCons (tC (.ty "list")) (tCons (tC (.ty "tuple")) tNil))) tNil))) σ H (.bl (e || d)) := fun H1 e1 Q q => by
  obtain ⟨t, h1, h2, h3, h4, h5, h6⟩ := t
  refine h H1 e1 _ fun H2 e2 => ⟨by show 2 ≤ sizeLine; decide, fun l hl => ?_⟩
  refine ⟨v, l, _, t, [.type "list", .type "tuple"], e || d, rfl, upd_same, .cons (.ty "list") (.cons (.ty "tuple") .nil), h1 _ ((e1.trans e2).trans (Ex.new hl)), ?_, q _ (e2.trans (Ex.new hl))⟩
  cases e with
  | true => exact kitAny_cons h6 (fun h => by cases h) (fun _ => rfl)
  | false => exact kitAny_cons h6 (fun _ => by
      cases d with
      | true => exact kitAny_cons h5 (fun h => by cases h) (fun _ => rfl)
      | false => exact kitAny_cons h5 (fun _ => kitAny_nil) (fun h => by cases h)) (fun h => by cases h)
theorem tl_q {a : Addr} {q : Bool} {xs : List V} (h : H a = some (objQ q xs)) : Tells K H (.ref a) false false false (!q) q := by
  cases q with
  | true => exact tl_lst h
  | false => exact tl_tup h
end
/-! ### webs and paths -/
abbrev Step := Nat × Nat × PyData
def stepD (s : Step) : PyData := .tuple [.int (s.1 : Nat), .int (s.2.1 : Nat), s.2.2]
def webD (n : Nat) (ss : List Step) : PyData := .tuple [.int (n : Nat), .tuple (ss.map stepD)]
structure WebOk (k : RK) (n : Nat) (ss : List Step) : Prop where
  n1 : 1 ≤ n
  n12 : n ≤ 12
  len : ss.length ≤ 80
  at_ : ∀ s ∈ ss, s.1 < n ∧ s.2.1 < n ∧ goodB k s.2.2 = true
abbrev Line := Option (List (Option Int))
def NumAll (K : PySem.W.Frag) (H : Hp) : List V → List (Option Int) → Prop
  | [], [] => True
  | v :: vs, o :: os => Num K H v o ∧ NumAll K H vs os
  | _, _ => False
theorem NumAll.up {K : PySem.W.Frag} {H H' : Hp} (e : Ex H H') : ∀ {vs : List V} {os : List (Option Int)}, NumAll K H vs os → NumAll K H' vs os
  | [], [], h => h
  | _ :: _, _ :: _, ⟨h, r⟩ => ⟨h.up e, NumAll.up e r⟩
  | [], _ :: _, h => h.elim
  | _ :: _, [], h => h.elim
theorem NumAll.len {K : PySem.W.Frag} {H : Hp} : ∀ {vs : List V} {os : List (Option Int)}, NumAll K H vs os → vs.length = os.length
  | [], [], h => rfl
  | _ :: _, _ :: _, ⟨h, r⟩ => congrArg (· + 1) (NumAll.len r)
  | [], _ :: _, h => h.elim
  | _ :: _, [], h => h.elim
theorem NumAll.get {K : PySem.W.Frag} {H : Hp} : ∀ {vs : List V} {os : List (Option Int)}, NumAll K H vs os → ∀ {i : Nat} {v : V}, vs[i]? = some v → ∃ o, os[i]? = some o ∧ Num K H v o
  | [], [], h, i, v, hv => by simp at hv
  | _ :: _, o :: _, ⟨h, r⟩, 0, v, hv => by
    simp at hv
    subst hv
    exact ⟨o, rfl, h⟩
  | _ :: _, _ :: _, ⟨h, r⟩, i + 1, v, hv => NumAll.get r (i := i) (by simpa using hv)
  | [], _ :: _, h, _, _, _ => h.elim
  | _ :: _, [], h, _, _, _ => h.elim
/-- a path as it lies: a list or a tuple of numbers and other things; or no such thing -/
def PathAt (K : PySem.W.Frag) (H : Hp) (v : V) : Line → Prop
  | some os => ∃ (a : Addr) (q : Bool) (xs : List V), v = .ref a ∧ H a = some (objQ q xs) ∧ NumAll K H xs os ∧ os.length ≤ 1000
  | none => ∃ a b c, Tells K H v a b c false false
theorem PathAt.up {K : PySem.W.Frag} {H H' : Hp} {v : V} (e : Ex H H') : ∀ {l : Line}, PathAt K H v l → PathAt K H' v l
  | some os, ⟨a, q, xs, h1, h2, h3, h4⟩ => ⟨a, q, xs, h1, e _ _ h2, h3.up e, h4⟩
  | none, ⟨a, b, c, t⟩ => ⟨a, b, c, t.up e⟩
def numB (m : Nat) (o : Option Int) : Bool := whO 0 ((m : Int) - 1) o
def stepN (ss : List Step) (o : Option Int) : Step := ss.getD (o.getD 0).toNat (0, 0, .none)
def linkB (ss : List Step) (os : List (Option Int)) : Bool := (List.range (os.length - 1)).all fun i => ((stepN ss (os.getD i none)).2.1 : Int) == (stepN ss (os.getD (i + 1) none)).1
def isPathB (ss : List Step) : Line → Bool
  | some os => os.all (numB ss.length) && linkB ss os
  | none => false
def lineLen : Line → Nat
  | some os => os.length
  | none => 0
def wtD (k : RK) (ss : List Step) (os : List (Option Int)) : PyData := os.foldl (fun d o => times k d (stepN ss o).2.2) (oneD k)
theorem numB_step {ss : List Step} {o : Option Int} (h : numB ss.length o = true) : ∃ i : Nat, o = some (i : Int) ∧ i < ss.length ∧ ss[i]? = some (stepN ss o) := by
  cases o with
  | none => cases h
  | some j =>
    have h : within 0 ((ss.length : Int) - 1) j = true := h
    unfold within at h
    rw [Bool.and_eq_true, decide_eq_true_eq, decide_eq_true_eq] at h
    obtain ⟨h1, h2⟩ := h
    have hj : j.toNat < ss.length := by omega
    refine ⟨j.toNat, by rw [Int.toNat_of_nonneg h1], hj, ?_⟩
    unfold stepN
    rw [Option.getD_some, List.getD_eq_getElem?_getD, List.getElem?_eq_getElem hj, Option.getD_some]
theorem WebOk.step {k : RK} {n : Nat} {ss : List Step} (h : WebOk k n ss) {i : Nat} {s : Step} (hs : ss[i]? = some s) : s.1 < n ∧ s.2.1 < n ∧ goodB k s.2.2 = true := h.at_ s (List.mem_of_getElem? hs)
/-- the parts of a web as they lie -/
theorem web_at {H : Hp} {v : V} {n : Nat} {ss : List Step} (h : DtAt H v (webD n ss)) : ∃ a p us, v = .ref a ∧ H a = some (.tup [.int (n : Nat), .ref p]) ∧ H p = some (.tup us) ∧ DtAll H us (ss.map stepD) ∧ us.length = ss.length := by
  obtain ⟨a, u, w, rfl, ha, h1, h2⟩ := h.two
  obtain rfl := h1.int_inv
  cases h2 with
  | tup h r => exact ⟨a, _, _, rfl, ha, h, r, by rw [DtAll.len r, List.length_map]⟩
theorem step_at {H : Hp} {us : List V} {ss : List Step} (h : DtAll H us (ss.map stepD)) {i : Nat} {s : Step} (hs : ss[i]? = some s) : ∃ a w, us[i]? = some (.ref a) ∧ H a = some (.tup [.int (s.1 : Nat), .int (s.2.1 : Nat), w]) ∧ DtAt H w s.2.2 := by
  obtain ⟨v, hv, hd⟩ := h.get' (i := i) (d := stepD s) (by rw [List.getElem?_map, hs]; rfl)
  obtain ⟨a, u, w, t, rfl, ha, h1, h2, h3⟩ := hd.three
  obtain rfl := h1.int_inv
  obtain rfl := h2.int_inv
  exact ⟨a, t, hv, ha, h3⟩
end D1
end
section
set_option Elab.async false
set_option linter.all false
set_option maxRecDepth 100000
set_option maxHeartbeats 4000000
/-! W1: each and its next of a list or a tuple -/
namespace D1
open PySem L2 Evl RZ ClX PySem.VX
abbrev rLenQ (K : PySem.W.Frag) : List V → Hp → VK → Prop := fun xs H Q => ∃ p ys, xs = [V.ref p] ∧ (SqL K H p ys ∨ SqT K H p ys) ∧ Q (.int ys.length) H
theorem cut1 (xs : List V) : cutV xs (some 1) none = xs.drop 1 := by
  unfold cutV
  rw [show HT.sIx xs.length 0 (some 1) = min 1 xs.length from HT.sIx_nat _ _ 1, HT.sIx_none]
  rcases xs with _ | ⟨x, xs⟩
  · rfl
  · have h : min 1 (x :: xs).length = 1 := by rw [List.length_cons]; omega
    rw [h]
    exact List.take_of_length_le (by rw [List.length_drop]; exact Nat.le_refl _)
theorem walk_zipQ {K : PySem.W.Frag} {a b : Addr} {xs ys : List V} {n : Nat} (hn : n = min xs.length ys.length) : Walk (ItzT K a b) n (fun H => SqT K H a xs ∧ SqT K H b ys) (YPair (fun i => xs[i]?) (fun i => ys[i]?)) := by
  subst hn
  refine ⟨fun i _ hi q => ?_, fun _ q => ⟨xs, ys, q.1, q.2, by omega⟩, fun i H v H' _ q y => ?_⟩
  · have h1 : i < xs.length := by omega
    have h2 : i < ys.length := by omega
    exact ⟨xs, ys, xs[i], ys[i], q.1, q.2, by simp [h1], by simp [h2]⟩
  · obtain ⟨T, x, z, h1, h2, h3, h4, h5⟩ := y
    exact ⟨T, x, z, h1, h2, h3, h4 xs q.1, h5 ys q.2⟩
section
variable {K : PySem.W.Frag} {σ : L2.St} {H : Hp} {te ta tb tl tx : TE}
def sl1 (K : PySem.W.Frag) (tl : TE) : TE := tSl (fun x lo hi H Q => rSlL K x lo hi H Q ∨ rSlA K x lo hi H Q) tl (tPart (tC (.int 1))) tNoPart
/-- s[1:] -/
theorem sl1_ok {a : Addr} {q : Bool} {xs : List V} (h : Ev tl σ H (.ref a)) (hx : H a = some (objQ q xs)) {H1 : Hp} (e : Ex H H1) {Q : VK} (k : ∀ b H2, Ex H1 H2 → H2 b = some (objQ q (xs.drop 1)) → Q (.ref b) H2) : sl1 K tl σ H1 Q := by
  refine h H1 e _ fun H2 e2 => ?_
  have hx2 := (e.trans e2) _ _ hx
  refine ⟨1, rfl, ?_⟩
  cases q with
  | true =>
    refine .inl ⟨a, xs, rfl, sq_of hx2, fun p hp => k p _ (e2.trans (Ex.new hp)) ?_⟩
    rw [upd_same, cut1]
    rfl
  | false =>
    refine .inr ⟨a, xs, rfl, st_of hx2, fun hw => ?_, fun hw p hp => k p _ (e2.trans (Ex.new hp)) ?_⟩
    · have h0 : xs.length = 0 := by
        have h1 : min 1 xs.length = 0 := by rw [← show HT.sIx xs.length 0 (some 1) = min 1 xs.length from HT.sIx_nat _ _ 1]; exact hw.1
        omega
      refine k a _ e2 ?_
      rw [hx2]
      cases xs with
      | nil => rfl
      | cons _ _ => cases h0
    · rw [upd_same, cut1]
      rfl
/-- all([e for x, y in zip(s, s[1:])]) -/
theorem ev_allZ {a : Addr} {q : Bool} {xs : List V} {j k : Nat} {vs : List Nat} (g : Nat → Bool) (h : Ev tl σ H (.ref a)) (hx : H a = some (objQ q xs)) (hz : xs.length ≤ 40000)
    (hw : ∀ x y, wipe (((wipe σ vs).set j (some x)).set k (some y)) vs = wipe σ vs)
    (he : ∀ (i : Nat) (x y : V) H1, Ex H H1 → xs[i]? = some x → xs[i + 1]? = some y → Ev te (((wipe σ vs).set j (some x)).set k (some y)) H1 (.bl (g i))) :
    Ev (tCB (rAll K) (tCons (tLc (iZipA K (tCons tl (tCons (sl1 K tl) tNil))) (gTup K 2 (gCons (gName j) (gCons (gName k) gNil))) tYes te vs) tNil)) σ H (.bl ((List.range (xs.length - 1)).all g)) := by
  have main : EvL (tLc (iZipA K (tCons tl (tCons (sl1 K tl) tNil))) (gTup K 2 (gCons (gName j) (gCons (gName k) gNil))) tYes te vs) σ H (given (xs.length - 1) (fun _ => true) fun i => .bl (g i)) := fun H0 e Q k' => by
    refine h H0 e _ fun H1 e1 => sl1_ok h hx (e.trans e1) fun b H2 e2 hb => ?_
    have e12 := e1.trans e2
    have ha := (e.trans e12) _ _ hx
    have hn : xs.length - 1 = min xs.length (xs.drop 1).length := by rw [List.length_drop]; omega
    refine ⟨a, b, xs, xs.drop 1, rfl, ?_⟩
    have turn : ∀ (Dl : Addr) (i : Nat) (x : V) (H5 H6 : Hp), i < xs.length - 1 → Cw H2 (fun _ => true) (fun i => V.bl (g i)) Dl i H5 → YPair (fun i => xs[i]?) (fun i => (xs.drop 1)[i]?) i H5 x H6 → gTup K 2 (gCons (gName j) (gCons (gName k) gNil)) x (wipe σ vs) H6 fun σ2 H2' => wipe σ2 vs = wipe σ vs ∧ tYes σ2 H2' fun b' H3 =>
        if b' = true then te σ2 H3 fun y H4 => ∃ acc, H4 Dl = some (.lst acc) ∧ acc.length < sizeLine ∧ Cw H2 (fun _ => true) (fun i => V.bl (g i)) Dl (i + 1) (upd H4 Dl (.lst (acc ++ [y]))) else Cw H2 (fun _ => true) (fun i => V.bl (g i)) Dl (i + 1) H3 := fun Dl i x H5 H6 hi p y => by
      obtain ⟨Tp, c, d, rfl, hT, rfl, hc, hd⟩ := y
      have hd : xs[i + 1]? = some d := by
        have hd : (xs.drop 1)[i]? = some d := hd
        rw [List.getElem?_drop, Nat.add_comm] at hd
        exact hd
      have p2 : Cw H2 (fun _ => true) (fun i => V.bl (g i)) Dl i (upd H5 Tp (.tup [c, d])) := ⟨p.1, p.2.1.trans (Ex.new hT), by rw [upd_ne (ne_of_none p.2.2 hT)]; exact p.2.2⟩
      exact ⟨Tp, _, rfl, .inl (.inl upd_same), rfl, _, _, rfl, _, _, rfl, rfl, hw _ _, cw_turn (f := fun _ => true) p2 (by omega) (fun H4 _ Q' q => q H4 (Ex.refl H4)) (fun _ => he i c d H2 (e.trans e12) hc hd)⟩
    cases q with
    | true =>
      refine .inl ⟨sq_of ha, sq_of hb, fun Dl hD => ?_⟩
      exact lc_it (walk_zip (K := K) (a := a) (b := b) (xs := xs) (ys := xs.drop 1) hn) (Cw H2 (fun _ => true) (fun i => V.bl (g i)) Dl) ⟨hD, Ex.new hD, upd_same⟩ (fun i H' _ p => ⟨sq_of (p.2.1 _ _ ha), sq_of (p.2.1 _ _ hb)⟩) (fun i x H5 H6 hi p y => turn Dl i x H5 H6 hi p y) (fun H' p => k' Dl H' (fresh_back e12 p.1) (e12.trans p.2.1) p.2.2)
    | false =>
      refine .inr ⟨st_of ha, st_of hb, fun Dl hD => ?_⟩
      exact lc_it (walk_zipQ (K := K) (a := a) (b := b) (xs := xs) (ys := xs.drop 1) hn) (Cw H2 (fun _ => true) (fun i => V.bl (g i)) Dl) ⟨hD, Ex.new hD, upd_same⟩ (fun i H' _ p => ⟨st_of (p.2.1 _ _ ha), st_of (p.2.1 _ _ hb)⟩) (fun i x H5 H6 hi p y => turn Dl i x H5 H6 hi p y) (fun H' p => k' Dl H' (fresh_back e12 p.1) (e12.trans p.2.1) p.2.2)
  rw [given_map] at main
  have h2 := ev_all (K := K) main
  rw [all_range] at h2
  exact h2
end
end D1
end
section
set_option Elab.async false
set_option linter.all false
set_option maxRecDepth 100000
set_option maxHeartbeats 4000000
/-! R7: Rings' methods; webs and their paths -/
namespace D1
open PySem L2 Evl RZ ClX PySem.VX
/-- what the written part says of Ring -/
structure RingF (K : PySem.W.Frag) (CR : Addr) : Prop where
  ok : OkC K CR
  hcl : PySem.W.findIn K (.ref CR) "__class__" = some (some (.builtin "object.__class__"))
  hgn : PySem.W.specialIn K (.builtin "object.__class__") "__get__" = some (some (.builtin "getset_descriptor.__get__"))
  htk : PySem.W.takesIn K (.builtin "object.__class__") = some true
  hmo : PySem.W.mroIn K CR (.type "object") = some true
  rr : PySem.W.kitOne K (.ref CR) (.ref CR) = some true
theorem RingAt.ty {K : PySem.W.Frag} {C : KC} {CR : Addr} {H : Hp} {v : V} {k : RK} (T : RingF K CR) (h : RingAt C CR H v k) : ∀ H1, Ex H H1 → TyX K H1 v (.ref CR) := fun H1 e => by
  obtain ⟨r, dr, fr, m, x, rfl, h2, _⟩ := h
  exact .base (.ins (e _ _ h2) T.ok.cls T.hcl T.hgn T.htk T.hmo)
theorem RingAt.no {C : KC} {CR : Addr} {H : Hp} {v : V} {k : RK} (h : RingAt C CR H v k) {m : Str} (hm : m ∉ fields) : ∃ r dr fr, v = .ref r ∧ H r = some (.ins CR dr fr) ∧ fr.lookup m = none := by
  obtain ⟨r, dr, fr, _, x, rfl, h2, h3, h4, h5, h6, h7⟩ := h
  exact ⟨r, dr, fr, rfl, h2, h7 m hm⟩
def spRKind (C : KC) (CR : Addr) : Sp := fun vs H Q _ => ∃ (s : V) (k : RK), vs = [s] ∧ RingAt C CR H s k ∧ ∀ x H', Ex H H' → KindAt C H' k x → Q x H'
def spRClosed (C : KC) (CR : Addr) : Sp := fun vs H Q _ => ∃ (s : V) (k : RK), vs = [s] ∧ RingAt C CR H s k ∧ k.depth < 4 ∧ ∀ H', Ex H H' → Q (.bl true) H'
def spRGood (C : KC) (CR : Addr) : Sp := fun vs H Q _ => ∃ (s : V) (k : RK) (x : V) (dx : PyData), vs = [s, x] ∧ RingAt C CR H s k ∧ k.depth < 4 ∧ DtAt H x dx ∧ ∀ H', Ex H H' → Q (.bl (goodB k dx)) H'
def spNeedRing (C : KC) (CR : Addr) : Sp := fun vs H Q _ => ∃ (s : V) (k : RK), vs = [s] ∧ RingAt C CR H s k ∧ ∀ H', Ex H H' → Q .non H'
def spIsStep (C : KC) (CR : Addr) : Sp := fun vs H Q _ => ∃ (r : V) (k : RK) (n : Nat) (v : V) (s : Step), vs = [r, .int (n : Nat), v] ∧ RingAt C CR H r k ∧ k.depth < 4 ∧ DtAt H v (stepD s) ∧ s.1 < n ∧ s.2.1 < n ∧ goodB k s.2.2 = true ∧ ∀ H', Ex H H' → Q (.bl true) H'
def spIsWeb (C : KC) (CR : Addr) : Sp := fun vs H Q _ => ∃ (r : V) (k : RK) (n : Nat) (v : V) (ss : List Step), vs = [r, v] ∧ RingAt C CR H r k ∧ k.depth < 4 ∧ DtAt H v (webD n ss) ∧ WebOk k n ss ∧ ∀ H', Ex H H' → Q (.bl true) H'
def spNeedWeb (C : KC) (CR : Addr) : Sp := fun vs H Q _ => ∃ (r : V) (k : RK) (n : Nat) (v : V) (ss : List Step), vs = [r, v] ∧ RingAt C CR H r k ∧ k.depth < 4 ∧ DtAt H v (webD n ss) ∧ WebOk k n ss ∧ ∀ H', Ex H H' → Q .non H'
def spIsPath (K : PySem.W.Frag) : Sp := fun vs H Q _ => ∃ (a : Addr) (us : List V) (ss : List Step) (v : V) (l : Line), vs = [.ref a, v] ∧ H a = some (.tup us) ∧ DtAll H us (ss.map stepD) ∧ PathAt K H v l ∧ ∀ H', Ex H H' → Q (.bl (isPathB ss l)) H'
section
variable {P : Program} {w : World} {K : PySem.W.Frag} {mg : Str → Option Value} {base : Heap}
abbrev s_Ring_kind : Stmt := meth 49 1
theorem sc_Ring_kind : FnScope ["self"] ["self"] (defScope s_Ring_kind) := ⟨rfl, rfl, rfl, by decide +kernel, rfl, by decide +kernel, by decide +kernel⟩
theorem ok_Ring_kind {f : Addr} {fd : FuncData} (F : FnM K "Ring" "kind" s_Ring_kind f fd) {C : KC} {CR : Addr} (T : RingF K CR) : FnOk P w K mg base (CX0) 1 f fd ["self"] (spRKind C CR) := by
  refine F.ok (CX := CX0) sc_Ring_kind (fun vs H Q E h => ?_) (fun cdv A outer s H vs Q E hr h => ?_)
  · obtain ⟨s, k, rfl, _⟩ := h
    rfl
  · obtain ⟨s, k, rfl, hR, q⟩ := h
    have hu := hu_of hr
    have hu64 := hr.units
    refine ⟨_, PSs.nox (pss_one (ps_ret (pe_fld (pv 0) rfl))), ?_⟩
    obtain ⟨r, dr, fr, m, x, rfl, h2, h3, h4, h5, h6, h7⟩ := hR
    exact s_ret (ev_fldK (ev_var rfl) h2 T.ok (by decide) h5) fun H1 e1 => q x H1 e1 (h6.ex e1)
abbrev s_Ring_is_closed : Stmt := meth 49 5
theorem sc_Ring_is_closed : FnScope ["self"] ["self"] (defScope s_Ring_is_closed) := ⟨rfl, rfl, rfl, by decide +kernel, rfl, by decide +kernel, by decide +kernel⟩
theorem ok_Ring_is_closed {f : Addr} {fd : FuncData} (F : FnM K "Ring" "is_closed" s_Ring_is_closed f fd) {C : KC} {CR : Addr} (T : RingF K CR) (HA : ∀ e sp, SK C (spClosed C 4) e = some sp → HeldM P w K mg base (5) "closed" e sp) : FnOk P w K mg base (CX0) 6 f fd ["self"] (spRClosed C CR) := by
  refine F.ok (CX := CX0) sc_Ring_is_closed (fun vs H Q E h => ?_) (fun cdv A outer s H vs Q E hr h => ?_)
  · obtain ⟨s, k, rfl, _⟩ := h
    rfl
  · obtain ⟨s, k, rfl, hR, hd, q⟩ := h
    have hu := hu_of hr
    have hu64 := hr.units
    have hr_in := hr.mono (Nat.le_refl _)
    refine ⟨_, PSs.nox (pss_one (ps_ret (pe_methA0 (S := SK C (spClosed C 4)) HA (pe_fld (pv 0) rfl) hr_in))), ?_⟩
    obtain ⟨r, dr, fr, m, x, rfl, h2, h3, h4, h5, h6, h7⟩ := hR
    obtain ⟨la, ld, lf, rfl, hla, lcom⟩ := id h6.com
    exact ⟨_, rfl, r, _, dr, fr, _, rfl, h2, T.ok.cls, T.ok.no _ (by decide), h5, la, _, ld, lf, _, rfl, SK.at k, hla, lcom.no _ (by decide), .ref la, k, rfl, h6, rfl, hd, fun H2 e2 => q H2 e2⟩
abbrev s_Ring_good : Stmt := meth 49 7
theorem sc_Ring_good : FnScope ["self", "thing"] ["self", "thing"] (defScope s_Ring_good) := ⟨rfl, rfl, rfl, by decide +kernel, rfl, by decide +kernel, by decide +kernel⟩
theorem ok_Ring_good {f : Addr} {fd : FuncData} (F : FnM K "Ring" "good" s_Ring_good f fd) {C : KC} {CR : Addr} (T : RingF K CR) (HA : ∀ e sp, SK C (spGood C 4) e = some sp → HeldM P w K mg base (6) "good" e sp) : FnOk P w K mg base (CX0) 7 f fd ["self", "thing"] (spRGood C CR) := by
  refine F.ok (CX := CX0) sc_Ring_good (fun vs H Q E h => ?_) (fun cdv A outer s H vs Q E hr h => ?_)
  · obtain ⟨s, k, x, dx, rfl, _⟩ := h
    rfl
  · obtain ⟨s, k, x, dx, rfl, hR, hd, hx, q⟩ := h
    have hu := hu_of hr
    have hu64 := hr.units
    have hr_in := hr.mono (Nat.le_refl _)
    refine ⟨_, PSs.nox (pss_one (ps_ret (pe_methA (S := SK C (spGood C 4)) HA (pe_fld (pv 0) rfl) hr_in (pa_cons (pv 1) pa_nil)))), ?_⟩
    obtain ⟨r, dr, fr, m, x', rfl, h2, h3, h4, h5, h6, h7⟩ := hR
    obtain ⟨la, ld, lf, rfl, hla, lcom⟩ := id h6.com
    exact ⟨_, rfl, r, _, dr, fr, _, rfl, h2, T.ok.cls, T.ok.no _ (by decide), h5, la, _, ld, lf, _, rfl, SK.at k, hla, lcom.no _ (by decide), _, rfl, .ref la, k, x, dx, rfl, h6, rfl, hd, hx, fun H2 e2 => q H2 e2⟩
abbrev s_need_ring : Stmt := top 51
theorem sc_need_ring : FnScope ["thing"] ["thing"] (defScope s_need_ring) := ⟨rfl, rfl, rfl, by decide +kernel, rfl, by decide +kernel, by decide +kernel⟩
theorem ok_need_ring {f : Addr} {fd : FuncData} (F : FnP K "need_ring" s_need_ring f fd) {C : KC} {CR : Addr} (T : RingF K CR) (g_Ring : mg "Ring" = some (.ref CR)) (z_isinstance : mg "isinstance" = none) : FnOk P w K mg base (CX0) 1 f fd ["thing"] (spNeedRing C CR) := by
  refine F.ok (CX := CX0) sc_need_ring (fun vs H Q E h => ?_) (fun cdv A outer s H vs Q E hr h => ?_)
  · obtain ⟨s, k, rfl, _⟩ := h
    rfl
  · obtain ⟨s, k, rfl, hR, q⟩ := h
    have hu := hu_of hr
    have hu64 := hr.units
    refine ⟨_, PSs.nox (pss_one (ps_if (pt_not (pt_val (pe_callB call_isi (by rfl) z_isinstance PyProof.Rows.boot_isinstance (pa_cons (pv 0) (pa_cons (pe_glob (v := .ref CR) rfl g_Ring rfl) pa_nil))))) (pss_one (ps_dead)) pss_nil)), ?_⟩
    exact s_when (b := false) (et_is (et_not (et_B (ev_isiC (ev_var rfl) (hR.ty T) T.rr (.own CR)))) rfl) (fun hb => (by cases hb)) (fun _ H1 e1 => q H1 e1)
abbrev s__is_step : Stmt := top 57
theorem sc__is_step : FnScope ["ring", "states", "step", "i", "j", "weight"] ["ring", "states", "step"] (defScope s__is_step) := ⟨rfl, rfl, rfl, by decide +kernel, rfl, by decide +kernel, by decide +kernel⟩
theorem ok__is_step {f : Addr} {fd : FuncData} (F : FnP K "_is_step" s__is_step f fd) {C : KC} {CR : Addr} (T : RingF K CR) {f_is_whole : Addr} {fd_is_whole : FuncData} (F_is_whole : FnP K "is_whole" s_is_whole f_is_whole fd_is_whole) (g_is_whole : mg "is_whole" = some (.ref f_is_whole)) (G_is_whole : FnOk P w K mg base (CX0) 2 f_is_whole fd_is_whole ["thing", "least", "most"] (spWhole K)) {f_good : Addr} {fd_good : FuncData} (m_good : Meth K CR "good" f_good) (b_good : Binds K fd_good ["self", "thing"] []) (G_good : FnOk P w K mg base CX0 7 f_good fd_good ["self", "thing"] (spRGood C CR)) (z_isinstance : mg "isinstance" = none) (z_tuple : mg "tuple" = none) (z_len : mg "len" = none) : FnOk P w K mg base (CX0) 8 f fd ["ring", "states", "step"] (spIsStep C CR) := by
  have b_is_whole : Binds K fd_is_whole ["thing", "least", "most"] [] := F_is_whole.bindsN fun _ _ _ _ _ _ us hl => match us, hl with | [_, _, _], _ => rfl
  refine F.ok (CX := CX0) sc__is_step (fun vs H Q E h => ?_) (fun cdv A outer s H vs Q E hr h => ?_)
  · obtain ⟨r, k, n, v, s, rfl, _⟩ := h
    rfl
  · obtain ⟨r, k, n, v, s, rfl, hR, hd, hv, hi, hj, hg, q⟩ := h
    have hu := hu_of hr
    have hu64 := hr.units
    have hr_is_whole := hr.mono (by decide : 2 ≤ 7)
    have hr_good := hr.mono (Nat.le_refl _)
    refine ⟨_, PSs.nox (pss_cons (ps_if (PW.pt (pw_or (pt_not (pt_val (pe_callB call_isi (by rfl) z_isinstance PyProof.Rows.boot_isinstance (pa_cons (pv 2) (pa_cons (pe_bltn (v := .ty "tuple") rfl z_tuple (by decide +kernel) rfl) pa_nil))))) (pw_or1 (pt_cmpR op_ne (pe_callB call_len_seq (by rfl) z_len PySem.boot_len (pa_cons (pv 2) pa_nil)) pe_int (nomark _))))) (pss_one (ps_ret pe_bl)) pss_nil)
      (pss_cons (ps_asg (pv 2) (pg_tup rfl (pgs_cons (pg_name (i := 3) sc__is_step.nd rfl (Or.inl rfl)) (pgs_cons (pg_name (i := 4) sc__is_step.nd rfl (Or.inl rfl)) (pgs_cons (pg_name (i := 5) sc__is_step.nd rfl (Or.inl rfl)) pgs_nil)))))
      (pss_one (ps_ret (pe_and (pe_call G_is_whole hr_is_whole rfl g_is_whole F_is_whole.kp b_is_whole .nil pass0 (pa_cons (pv 3) (pa_cons pe_int (pa_cons (pe_op op_sub (pv 1) pe_int) pa_nil)))) (pe_and (pe_call G_is_whole hr_is_whole rfl g_is_whole F_is_whole.kp b_is_whole .nil pass0 (pa_cons (pv 4) (pa_cons pe_int (pa_cons (pe_op op_sub (pv 1) pe_int) pa_nil)))) (pe_one (pe_meth (C := CR) (pv 0) T.ok.cls m_good G_good hr_good b_good .nil pass0 (pa_cons (pv 5) pa_nil))))))))), ?_⟩
    obtain ⟨a, u, w1, w2, rfl, ha, h1, h2, h3⟩ := id hv.three
    obtain rfl := h1.int_inv
    obtain rfl := h2.int_inv
    have hS : SqT K H a [.int (s.1 : Nat), .int (s.2.1 : Nat), w2] := .inl (.inl ha)
    refine q_when (b := false) (et_is (et_or (et_not (et_B (ev_tTup (ev_var rfl) (tl_tup ha)))) (fun _ => et_is (et_test (ev_neI (ev_lenT (ev_var rfl) hS) ev_c)) (by rfl : (!((([V.int (s.1 : Nat), .int (s.2.1 : Nat), w2].length : Nat) : Int) == 3)) = false))) rfl) (fun hb => (by cases hb)) (fun _ H1 e1 => ?_)
    refine ⟨_, rfl, a, _, rfl, ex_t e1 hS, rfl, _, _, rfl, _, _, rfl, _, _, rfl, rfl, ?_⟩
    have wh : ∀ i : Nat, i < n → whO 0 ((n : Int) - 1) (some (i : Int)) = true := fun i hi => by
      show (decide ((0 : Int) ≤ (i : Int)) && decide ((i : Int) ≤ (n : Int) - 1)) = true
      rw [decide_eq_true (by omega : (0 : Int) ≤ (i : Int)), decide_eq_true (by omega : (i : Int) ≤ (n : Int) - 1)]
      rfl
    refine s_ret (v := .bl true) (ev_is (ev_andV (a := true) (b := true) (ev_call (ea_cons (ev_var rfl) (ea_cons ev_c (ea_cons (ev_op (ev_var rfl) ev_c rv_I0) ea_nil))) fun H2 e2 Q' k' E' => ⟨_, some (s.1 : Int), _, _, rfl, (DtAt.int (s.1 : Int)).num, fun H3 e3 => (by rw [wh _ hi]; exact k' H3 e3)⟩) fun _ => ev_andV (a := true) (b := true) (ev_call (ea_cons (ev_var rfl) (ea_cons ev_c (ea_cons (ev_op (ev_var rfl) ev_c rv_I0) ea_nil))) fun H2 e2 Q' k' E' => ⟨_, some (s.2.1 : Int), _, _, rfl, (DtAt.int (s.2.1 : Int)).num, fun H3 e3 => (by rw [wh _ hj]; exact k' H3 e3)⟩) (fun _ H2 e2 Q' k' => ?_)) rfl) fun H2 e2 => q H2 (e1.trans e2)
    have e12 := e1.trans e2
    obtain ⟨r', dr, fr, rfl, hr2, hn⟩ := (hR.ex e12).no (m := ("good" : Str)) (by decide)
    exact ⟨_, rfl, r', dr, fr, rfl, hr2, hn, _, rfl, .ref r', k, _, _, rfl, hR.ex e12, hd, h3.ex e12, fun H3 e3 => (by rw [hg]; exact k' H3 e3)⟩
abbrev s__is_web : Stmt := top 56
theorem sc__is_web : FnScope ["ring", "web", "states", "steps", "step"] ["ring", "web"] (defScope s__is_web) := ⟨rfl, rfl, rfl, by decide +kernel, rfl, by decide +kernel, by decide +kernel⟩
theorem ok__is_web {f : Addr} {fd : FuncData} (F : FnP K "_is_web" s__is_web f fd) {C : KC} {CR : Addr} (T : RingF K CR) {f_is_whole : Addr} {fd_is_whole : FuncData} (F_is_whole : FnP K "is_whole" s_is_whole f_is_whole fd_is_whole) (g_is_whole : mg "is_whole" = some (.ref f_is_whole)) (G_is_whole : FnOk P w K mg base (CX0) 2 f_is_whole fd_is_whole ["thing", "least", "most"] (spWhole K)) {f__is_step : Addr} {fd__is_step : FuncData} (F__is_step : FnP K "_is_step" s__is_step f__is_step fd__is_step) (g__is_step : mg "_is_step" = some (.ref f__is_step)) (G__is_step : FnOk P w K mg base (CX0) 8 f__is_step fd__is_step ["ring", "states", "step"] (spIsStep C CR)) {t1 t2 : Tok} (g_STATES : mg "_STATES" = some (.int 12 t1)) (g_STEPS : mg "_STEPS" = some (.int 80 t2)) (z_isinstance : mg "isinstance" = none) (z_tuple : mg "tuple" = none) (z_len : mg "len" = none) (z_all : mg "all" = none) : FnOk P w K mg base (CX0) 9 f fd ["ring", "web"] (spIsWeb C CR) := by
  have b_is_whole : Binds K fd_is_whole ["thing", "least", "most"] [] := F_is_whole.bindsN fun _ _ _ _ _ _ us hl => match us, hl with | [_, _, _], _ => rfl
  have b__is_step : Binds K fd__is_step ["ring", "states", "step"] [] := F__is_step.bindsN fun _ _ _ _ _ _ us hl => match us, hl with | [_, _, _], _ => rfl
  refine F.ok (CX := CX0) sc__is_web (fun vs H Q E h => ?_) (fun cdv A outer s H vs Q E hr h => ?_)
  · obtain ⟨r, k, n, v, ss, rfl, _⟩ := h
    rfl
  · obtain ⟨r, k, n, v, ss, rfl, hR, hd, hv, ok, q⟩ := h
    have hu := hu_of hr
    have hu64 := hr.units
    have hr_is_whole := hr.mono (by decide : 2 ≤ 8)
    have hr__is_step := hr.mono (Nat.le_refl _)
    refine ⟨_, PSs.nox (pss_cons (ps_if (PW.pt (pw_or (pt_not (pt_val (pe_callB call_isi (by rfl) z_isinstance PyProof.Rows.boot_isinstance (pa_cons (pv 1) (pa_cons (pe_bltn (v := .ty "tuple") rfl z_tuple (by decide +kernel) rfl) pa_nil))))) (pw_or1 (pt_cmpR op_ne (pe_callB call_len_seq (by rfl) z_len PySem.boot_len (pa_cons (pv 1) pa_nil)) pe_int (nomark _))))) (pss_one (ps_ret pe_bl)) pss_nil)
      (pss_cons (ps_asg (pv 1) (pg_tup rfl (pgs_cons (pg_name (i := 2) sc__is_web.nd rfl (Or.inr rfl)) (pgs_cons (pg_name (i := 3) sc__is_web.nd rfl (Or.inl rfl)) pgs_nil))))
      (pss_cons (ps_if (PW.pt (pw_or (pt_not (pt_val (pe_call G_is_whole hr_is_whole rfl g_is_whole F_is_whole.kp b_is_whole .nil pass0 (pa_cons (pv 2) (pa_cons pe_int (pa_cons (pe_glob (v := .int 12) rfl g_STATES ⟨_, rfl⟩) pa_nil)))))) (pw_or (pt_not (pt_val (pe_callB call_isi (by rfl) z_isinstance PyProof.Rows.boot_isinstance (pa_cons (pv 3) (pa_cons (pe_bltn (v := .ty "tuple") rfl z_tuple (by decide +kernel) rfl) pa_nil))))) (pw_or1 (pt_cmpR op_gt (pe_callB call_len_seq (by rfl) z_len PySem.boot_len (pa_cons (pv 3) pa_nil)) (pe_glob (v := .int 80) rfl g_STEPS ⟨_, rfl⟩) (nomark _)))))) (pss_one (ps_ret pe_bl)) pss_nil)
      (pss_one (ps_ret (pe_callB (cr_all rfl) (by rfl) z_all PyProof.Rows.boot_all (pa_cons (pe_lc (own := [("step", 4)]) (g := gName 4) (tt := tYes) (by rfl) sc__is_web.nd (pi_tup (pv 3)) (blkOk_by (own := [("step", 4)]) (N := ["ring", "web", "states", "steps", "step"]) (sc := defScope s__is_web) (by decide +kernel)) (fun _ _ _ _ _ => pg_name (i := 4) sc__is_web.nd rfl (Or.inl rfl)) (fun _ _ _ _ _ => pts_nil) (fun _ _ _ _ _ => pe_call G__is_step hr__is_step rfl g__is_step F__is_step.kp b__is_step .nil pass0 (pa_cons (pv 0) (pa_cons (pv 2) (pa_cons (pv 4) pa_nil))))) pa_nil))))))), ?_⟩
    obtain ⟨a, p, us, rfl, ha, hp, hus, hlen⟩ := web_at hv
    have hS : SqT K H a [.int (n : Nat), .ref p] := .inl (.inl ha)
    have hP : SqT K H p us := .inl (.inl hp)
    have l80 := ok.len
    have n1 := ok.n1
    have n12 := ok.n12
    refine q_when (b := false) (et_is (et_or (et_not (et_B (ev_tTup (ev_var rfl) (tl_tup ha)))) (fun _ => et_is (et_test (ev_neI (ev_lenT (ev_var rfl) hS) ev_c)) (by rfl : (!((([V.int (n : Nat), .ref p].length : Nat) : Int) == 2)) = false))) rfl) (fun hb => (by cases hb)) (fun _ H1 e1 => ?_)
    refine ⟨_, rfl, a, _, rfl, ex_t e1 hS, rfl, _, _, rfl, _, _, rfl, rfl, ?_⟩
    refine q_when (b := false) (et_is (et_or (a := false) (et_is (et_not (et_B (ev_call (z := .bl true) (ea_cons (ev_var rfl) (ea_cons ev_c (ea_cons ev_c ea_nil))) fun H2 e2 Q' k' E' => ⟨_, some (n : Int), _, _, rfl, (DtAt.int (n : Int)).num, fun H3 e3 => (by
      have hw : whO 1 12 (some (n : Int)) = true := by
        show (decide ((1 : Int) ≤ (n : Int)) && decide ((n : Int) ≤ 12)) = true
        rw [decide_eq_true (by omega : (1 : Int) ≤ (n : Int)), decide_eq_true (by omega : (n : Int) ≤ 12)]
        rfl
      rw [hw]
      exact k' H3 e3)⟩))) rfl) fun _ => et_or (a := false) (et_is (et_not (et_B (ev_tTup (ev_var rfl) (tl_tup (e1 _ _ hp))))) rfl) fun _ => et_is (et_test (ev_gtI (ev_lenT (ev_var rfl) (ex_t e1 hP)) ev_c)) (decide_eq_false (by omega : ¬((80 : Int) < ((us.length : Nat) : Int))))) rfl) (fun hb => (by cases hb)) (fun _ H2 e2 => ?_)
    have e12 := e1.trans e2
    refine s_ret (ev_allT (fun _ => true) (ev_var rfl) (ex_t e12 hP) (by omega) (fun _ => rfl) fun i x H3 e3 hx => ev_call (ea_cons (ev_var rfl) (ea_cons (ev_var rfl) (ea_cons (ev_var rfl) ea_nil))) fun H4 e4 Q' k' E' => ?_) fun H3 e3 => (by
      have hall : (List.range us.length).all (fun _ => true) = true := List.all_eq_true.mpr fun _ _ => rfl
      rw [hall]
      exact q H3 (e12.trans e3))
    have e := (e12.trans e3).trans e4
    obtain ⟨d, hd1, hd2⟩ := hus.get hx
    rw [List.getElem?_map] at hd1
    obtain ⟨s, hs, rfl⟩ := Option.map_eq_some_iff.mp hd1
    obtain ⟨s1, s2, s3⟩ := ok.step hs
    exact ⟨r, k, n, x, s, rfl, hR.ex e, hd, hd2.ex e, s1, s2, s3, fun H5 e5 => k' H5 e5⟩
abbrev s_need_web : Stmt := top 55
theorem sc_need_web : FnScope ["ring", "web"] ["ring", "web"] (defScope s_need_web) := ⟨rfl, rfl, rfl, by decide +kernel, rfl, by decide +kernel, by decide +kernel⟩
theorem ok_need_web {f : Addr} {fd : FuncData} (F : FnP K "need_web" s_need_web f fd) {C : KC} {CR : Addr} (T : RingF K CR) {f_need_ring : Addr} {fd_need_ring : FuncData} (F_need_ring : FnP K "need_ring" s_need_ring f_need_ring fd_need_ring) (g_need_ring : mg "need_ring" = some (.ref f_need_ring)) (G_need_ring : FnOk P w K mg base (CX0) 1 f_need_ring fd_need_ring ["thing"] (spNeedRing C CR)) {f__is_web : Addr} {fd__is_web : FuncData} (F__is_web : FnP K "_is_web" s__is_web f__is_web fd__is_web) (g__is_web : mg "_is_web" = some (.ref f__is_web)) (G__is_web : FnOk P w K mg base (CX0) 9 f__is_web fd__is_web ["ring", "web"] (spIsWeb C CR)) {f_is_closed : Addr} {fd_is_closed : FuncData} (m_is_closed : Meth K CR "is_closed" f_is_closed) (b_is_closed : Binds K fd_is_closed ["self"] []) (G_is_closed : FnOk P w K mg base CX0 6 f_is_closed fd_is_closed ["self"] (spRClosed C CR)) : FnOk P w K mg base (CX0) 10 f fd ["ring", "web"] (spNeedWeb C CR) := by
  have b_need_ring : Binds K fd_need_ring ["thing"] [] := F_need_ring.bindsN fun _ _ _ _ _ _ us hl => match us, hl with | [_], _ => rfl
  have b__is_web : Binds K fd__is_web ["ring", "web"] [] := F__is_web.bindsN fun _ _ _ _ _ _ us hl => match us, hl with | [_, _], _ => rfl
  refine F.ok (CX := CX0) sc_need_web (fun vs H Q E h => ?_) (fun cdv A outer s H vs Q E hr h => ?_)
  · obtain ⟨r, k, n, v, ss, rfl, _⟩ := h
    rfl
  · obtain ⟨r, k, n, v, ss, rfl, hR, hd, hv, ok, q⟩ := h
    have hu := hu_of hr
    have hu64 := hr.units
    have hr_need_ring := hr.mono (by decide : 1 ≤ 9)
    have hr__is_web := hr.mono (Nat.le_refl _)
    have hr_is_closed := hr.mono (by decide : 6 ≤ 9)
    refine ⟨_, PSs.nox (pss_cons (ps_expr (pe_call G_need_ring hr_need_ring rfl g_need_ring F_need_ring.kp b_need_ring .nil pass0 (pa_cons (pv 0) pa_nil)))
      (pss_cons (ps_if (pt_not (pt_val (pe_meth0 (C := CR) (pv 0) T.ok.cls m_is_closed G_is_closed hr_is_closed b_is_closed .nil pass0))) (pss_one (ps_dead)) pss_nil)
      (pss_one (ps_if (pt_not (pt_val (pe_call G__is_web hr__is_web rfl g__is_web F__is_web.kp b__is_web .nil pass0 (pa_cons (pv 0) (pa_cons (pv 1) pa_nil))))) (pss_one (ps_dead)) pss_nil)))), ?_⟩
    refine q_drop (v := .non) (ev_call (ea_cons (ev_var rfl) ea_nil) fun H1 e1 Q' k' E' => ⟨r, k, rfl, hR.ex e1, fun H2 e2 => k' H2 e2⟩) fun H1 e1 => ?_
    refine q_when (b := false) (et_is (et_not (a := true) (et_B fun H2 e2 Q' k' => ?_)) rfl) (fun hb => (by cases hb)) (fun _ H2 e2 => ?_)
    · obtain ⟨r', dr, fr, rfl, hr2, hn⟩ := (hR.ex (e1.trans e2)).no (m := ("is_closed" : Str)) (by decide)
      exact ⟨_, rfl, r', dr, fr, rfl, hr2, hn, .ref r', k, rfl, hR.ex (e1.trans e2), hd, fun H3 e3 => k' H3 e3⟩
    · have e12 := e1.trans e2
      exact s_when (b := false) (et_is (et_not (et_B (ev_call (z := .bl true) (ea_cons (ev_var rfl) (ea_cons (ev_var rfl) ea_nil)) fun H3 e3 Q' k' E' => ⟨r, k, n, v, ss, rfl, hR.ex (e12.trans e3), hd, hv.ex (e12.trans e3), ok, fun H4 e4 => k' H4 e4⟩))) rfl) (fun hb => (by cases hb)) (fun _ H3 e3 => q H3 (e12.trans e3))
end
end D1
end
section
set_option Elab.async false
set_option linter.all false
set_option maxRecDepth 100000
set_option maxHeartbeats 4000000
/-! R8: product_of, path_weight -/
namespace D1
open PySem L2 Evl RZ ClX PySem.VX
theorem sz_one : ∀ {k : RK}, k.ok → Sz 12 (oneD k)
  | .truth, _ => True.intro
  | .count, _ => by show (1 : Int).natAbs < 2 ^ 12; decide
  | .least, _ => by show (0 : Int).natAbs < 2 ^ 12; decide
  | .most, _ => by show (0 : Int).natAbs < 2 ^ 12; decide
  | .narrow, _ => True.intro
  | .share, _ => by
    refine ⟨?_, ?_, True.intro⟩ <;> (show (1 : Int).natAbs < 2 ^ 12; decide)
  | .lot n, ⟨h1, h2⟩ => by
    show ((2 : Int) ^ n - 1).natAbs < 2 ^ 12
    rw [one_lot, Int.natAbs_natCast]
    have := Nat.pow_le_pow_right (n := 2) (by decide) h2
    have := Nat.two_pow_pos n
    omega
  | .pair a b, ⟨h1, h2⟩ => ⟨sz_one h1, sz_one h2, True.intro⟩
def prodD (k : RK) (ds : List PyData) : PyData := ds.foldl (times k) (oneD k)
theorem foldl_snoc {α β : Type} (f : β → α → β) (z : β) {l : List α} {i : Nat} {x : α} (h : l[i]? = some x) : (l.take (i + 1)).foldl f z = f ((l.take i).foldl f z) x := by
  rw [List.take_succ, h, List.foldl_append]
  rfl
theorem prod_good {k : RK} {ds : List PyData} (h : ∀ d ∈ ds, goodB k d = true) : goodB k (prodD k ds) = true := by
  unfold prodD
  have : ∀ (ds : List PyData) (z : PyData), goodB k z = true → (∀ d ∈ ds, goodB k d = true) → goodB k (ds.foldl (times k) z) = true := by
    intro ds
    induction ds with
    | nil => intro z hz _; exact hz
    | cons d r ih => intro z hz h; exact ih _ (good_times k hz (h d List.mem_cons_self)) fun x hx => h x (List.mem_cons_of_mem _ hx)
  exact this ds _ (good_one k) h
theorem prod_sz {k : RK} {B : Nat} (hB : 0 < B) (ok : k.ok) {ds : List PyData} (h : ∀ d ∈ ds, goodB k d = true) (hs : ∀ d ∈ ds, Sz B d) : Sz (12 + ds.length * B) (prodD k ds) := by
  unfold prodD
  have : ∀ (ds : List PyData) (z : PyData) (A : Nat), 0 < A → goodB k z = true → Sz A z → (∀ d ∈ ds, goodB k d = true) → (∀ d ∈ ds, Sz B d) → Sz (A + ds.length * B) (ds.foldl (times k) z) := by
    intro ds
    induction ds with
    | nil => intro z A _ _ hz _ _; rw [List.length_nil, Nat.zero_mul, Nat.add_zero]; exact hz
    | cons d r ih =>
      intro z A hA hz sz h hs
      have hd := h d List.mem_cons_self
      have := ih (times k z d) (A + B) (by omega) (good_times k hz hd) (sz_times k hz hd sz (hs d List.mem_cons_self) hA hB) (fun x hx => h x (List.mem_cons_of_mem _ hx)) fun x hx => hs x (List.mem_cons_of_mem _ hx)
      rw [List.length_cons, Nat.succ_mul, Nat.add_comm (r.length * B) B, ← Nat.add_assoc]
      exact this
  exact this ds _ 12 (by decide) (good_one k) (sz_one ok) h hs
theorem given_get (ws : List V) : given ws.length (fun _ => true) (fun i => ws.getD i .non) = ws := by
  unfold given
  rw [List.filter_eq_self.mpr (fun _ _ => rfl)]
  apply List.ext_getElem (by simp)
  intro i h1 h2
  simp [h2]
end D1
end
section
set_option Elab.async false
set_option linter.all false
set_option maxRecDepth 100000
set_option maxHeartbeats 4000000
/-! L1: draws -/
namespace D1
open PySem L2 Evl RZ ClX PySem.VX
theorem shaped_ints (ls : List Int) : SeqAt.shaped (.list (ls.map PyData.int)) = true := PySem.W.shaped_ints ls
theorem eqv_nil (ls : List Int) : PyData.eqv (.list (ls.map PyData.int)) (.list []) = ls.isEmpty := by
  cases ls <;> rfl
theorem int_get {xs : List Int} {i : Nat} {y : Int} (h : xs[i]? = some y) : (xs.map V.int)[i]? = some (V.int y) := by
  rw [List.getElem?_map, h]
  rfl
theorem int_atL {cs : List Int} {i : Nat} {x : V} (h : (cs.map V.int)[i]? = some x) : x = .int (cs.getD i 0) := by
  rw [List.getElem?_map] at h
  obtain ⟨y, hy, rfl⟩ := Option.map_eq_some_iff.mp h
  rw [List.getD_eq_getElem?_getD, hy]
  rfl
theorem cut9 {ns : List Int} {k : Nat} (hk : k < ns.length) : cutV (ns.map V.int) (some (k : Int)) (some ((k : Int) + 9)) = ((ns.drop k).take 9).map V.int := by
  unfold cutV
  rw [HT.sIx_nat, show ((k : Int) + 9) = ((k + 9 : Nat) : Int) by omega, HT.sIx_nat, List.length_map, List.map_take, List.map_drop]
  have h1 : min k ns.length = k := by omega
  rw [h1]
  apply List.ext_getElem?
  intro i
  rw [List.getElem?_take, List.getElem?_take]
  by_cases h : i < 9
  · rw [if_pos h]
    by_cases h2 : i < min (k + 9) ns.length - k
    · rw [if_pos h2]
    · rw [if_neg h2, List.getElem?_eq_none (by rw [List.length_drop, List.length_map]; omega)]
  · rw [if_neg h, if_neg (by omega)]
/-- read to such values, in such heaps -/
def EvP (te : TE) (σ : L2.St) (H : Hp) (M : V → Hp → Prop) : Prop := ∀ Q : VK, (∀ x H', M x H' → Q x H') → te σ H Q
theorem asg_p {i : Nat} {te : TE} {z : TS} {D : Ends} {σ : L2.St} {H : Hp} {M : V → Hp → Prop} (h : EvP te σ H M) (k : ∀ x H', M x H' → z D (σ.set i (some x)) H') : tSeq (tAsg te (gName i)) z D σ H := h _ k
theorem ret_p {te : TE} {D : Ends} {σ : L2.St} {H : Hp} {M : V → Hp → Prop} (h : EvP te σ H M) (k : ∀ x H', M x H' → D.rt x H') : tRet te D σ H := h _ k
theorem Ev.p {te : TE} {σ : L2.St} {H : Hp} {v : V} (h : Ev te σ H v) : EvP te σ H (fun x H' => x = v ∧ Ex H H') := fun Q k => h H (Ex.refl H) Q fun H' e => k v H' ⟨rfl, e⟩
/-- the state of draws: so many at most drawn -/
structure DS (m pc pg : Addr) (cs : List Int) (j : Nat) (H : Hp) : Prop where
  mc : m ≠ pc
  mg : m ≠ pg
  cg : pc ≠ pg
  cne : cs ≠ []
  hc : H pc = some (.lst (cs.map V.int))
  ex : ∃ (a : Nat) (r : Int) (gs : List Int), H m = some (.lst [.ref pc, .int (a : Int), .int r, .ref pg]) ∧ H pg = some (.lst (gs.map V.int)) ∧ a ≤ j ∧ 0 ≤ r ∧ (∀ g ∈ gs, 0 < g) ∧ gs.length ≤ 63
theorem DS.up {m pc pg : Addr} {cs : List Int} {i j : Nat} {H : Hp} (h : DS m pc pg cs i H) (e : i ≤ j) : DS m pc pg cs j H := by
  obtain ⟨h1, h2, h3, h4, h5, a, r, gs, h6, h7, h8, h9⟩ := h
  exact ⟨h1, h2, h3, h4, h5, a, r, gs, h6, h7, Nat.le_trans h8 e, h9⟩
def frD (m pc pg : Addr) (cs : List Int) (j : Nat) : Fr where
  chg := fun b => b = m ∨ b = pg
  inv := DS m pc pg cs j
  mono := fun H H' e h => by
    obtain ⟨h1, h2, h3, h4, h5, a, r, gs, h6, h7, h8⟩ := h
    exact ⟨h1, h2, h3, h4, e _ _ h5, a, r, gs, e _ _ h6, e _ _ h7, h8⟩
  live := fun H b h => by
    obtain ⟨h1, h2, h3, h4, h5, a, r, gs, h6, h7, h8⟩ := h
    rintro (rfl | rfl)
    · rw [h6]
      exact Option.some_ne_none _
    · rw [h7]
      exact Option.some_ne_none _
section
variable {m pc pg : Addr} {cs : List Int} {i j : Nat} {H H1 H2 : Hp}
abbrev RD (m pc pg : Addr) (cs : List Int) (j : Nat) (H H' : Hp) : Prop := (frD m pc pg cs j).R H H'
theorem RD.up (r : RD m pc pg cs i H H1) (e : i ≤ j) : RD m pc pg cs j H H1 := ⟨DS.up r.inv e, r.keep⟩
theorem RD.then (a : RD m pc pg cs i H H1) (b : RD m pc pg cs j H1 H2) : RD m pc pg cs j H H2 := ⟨b.inv, fun c o n e => b.keep c o n (a.keep c o n e)⟩
theorem RD.ofEx (h : DS m pc pg cs j H) (e : Ex H H1) : RD m pc pg cs j H H1 := .ex h e
/-- tuples and instances stay -/
theorem RD.kp (h : DS m pc pg cs i H) (r : RD m pc pg cs j H H1) : Kp H H1 := fun a o so ha => by
  obtain ⟨h1, h2, h3, h4, h5, b, r', gs, h6, h7, h8⟩ := h
  refine r.keep a o (fun hc => ?_) ha
  rcases hc with rfl | rfl
  · rw [h6] at ha
    cases ha
    cases so
  · rw [h7] at ha
    cases ha
    cases so
/-- an object that the draws don't hold stays -/
theorem RD.stay (r : RD m pc pg cs j H H1) {p : Addr} {o : HO} (h1 : p ≠ m) (h2 : p ≠ pg) (hp : H p = some o) : H1 p = some o := r.keep p o (fun hc => hc.elim h1 h2) hp
/-- a fresh address isn't one of theirs -/
theorem DS.fresh (h : DS m pc pg cs j H) {p : Addr} (hp : H p = none) : p ≠ m ∧ p ≠ pg := by
  obtain ⟨h1, h2, h3, h4, h5, b, r', gs, h6, h7, h8⟩ := h
  refine ⟨fun z => ?_, fun z => ?_⟩
  · rw [z, h6] at hp
    cases hp
  · rw [z, h7] at hp
    cases hp
/-- an object of one's own changes, the draws go on -/
theorem RD.set (r : RD m pc pg cs j H H1) {p : Addr} {o : HO} (d : DS m pc pg cs i H) (hp : H p = none) : RD m pc pg cs j H (upd H1 p o) := by
  obtain ⟨n1, n2⟩ := d.fresh hp
  have n3 : p ≠ pc := fun z => by
    have := d.hc
    rw [← z, hp] at this
    cases this
  obtain ⟨h1, h2, h3, h4, h5, b, r', gs, h6, h7, h8⟩ := r.inv
  exact Fr.R.set (F := frD m pc pg cs j) ⟨h1, h2, h3, h4, by rw [upd_ne (Ne.symm n3)]; exact h5, b, r', gs, by rw [upd_ne (Ne.symm n1)]; exact h6, by rw [upd_ne (Ne.symm n2)]; exact h7, h8⟩ r hp
end
section
variable {P : Program} {w : World} {K : PySem.W.Frag} {mg : Str → Option Value} {base : Heap}
def spMixed : Sp := fun vs H Q _ => ∃ c k : Int, vs = [.int c, .int k] ∧ 0 ≤ k ∧ k ≤ 10000000 ∧ ∀ (x : Int) H', 0 ≤ x → x < 2 ^ 31 → Ex H H' → Q (.int x) H'
/-- the draw begun: all objects are new -/
def spDraw (K : PySem.W.Frag) : Sp := fun vs H Q _ => ∃ (a : Addr) (ns : List Int) (k : Nat), vs = [.ref a, .int (k : Int)] ∧ SqL K H a (ns.map V.int) ∧ ns.length ≤ 63 ∧ (ns ≠ [] → k < ns.length) ∧ k ≤ 63 ∧ ∀ m pc pg cs H', Ex H H' → H m = none → H pc = none → H pg = none → DS m pc pg cs (64 * k) H' → Q (.ref m) H'
def spNext : Sp := fun vs H Q _ => ∃ (m pc pg : Addr) (cs : List Int) (j : Nat) (n : Int), vs = [.ref m, .int n] ∧ DS m pc pg cs j H ∧ j ≤ 100000 ∧ 0 < n ∧ n.natAbs.log2 < 9000 ∧ ∀ (x : Int) H', 0 ≤ x → x < n → RD m pc pg cs (j + 1) H H' → Q (.int x) H'
abbrev s_mixed : Stmt := top 90
theorem sc_mixed : FnScope ["_law_cell", "_law_k", "_law_prime"] ["_law_cell", "_law_k"] (defScope s_mixed) := ⟨rfl, rfl, rfl, by decide +kernel, rfl, by decide +kernel, by decide +kernel⟩
theorem ok_mixed {f : Addr} {fd : FuncData} (F : FnP K "_law_mixed" s_mixed f fd) : FnOk P w K mg base (CX0) 1 f fd ["_law_cell", "_law_k"] (spMixed) := by
  refine F.ok (CX := CX0) sc_mixed (fun vs H Q E h => ?_) (fun cdv A outer s H vs Q E hr h => ?_)
  · obtain ⟨c, k, rfl, _⟩ := h
    rfl
  · obtain ⟨c, k, rfl, k0, k1, q⟩ := h
    have hu := hu_of hr
    have hu64 := hr.units
    refine ⟨_, PSs.nox (pss_cons (ps_set (i := 2) sc_mixed.nd rfl (Or.inl rfl) (pe_ix ix_list (pe_lst (pa_cons pe_int (pa_cons pe_int (pa_cons pe_int (pa_cons pe_int (pa_cons pe_int pa_nil)))))) (pe_op op_mod (pv 1) pe_int) (fun _ _ => rfl)))
      (pss_one (ps_ret (pe_op op_mod (pe_op op_mul (pe_op op_mod (pe_op op_pow (pe_op op_mod (pe_op op_add (pe_op op_add (pv 0) (pe_op op_mul pe_int (pv 1))) pe_int) (pv 2)) pe_int) (pv 2)) (pe_op op_add pe_int (pe_op op_mul pe_int (pv 1)))) (pv 2))))), ?_⟩
    have hp : ∃ p : Int, atI [V.int 2147483629, .int 2147483587, .int 2147483579, .int 2147483563, .int 2147483549] (k % 5) = some (.int p) ∧ 0 < p ∧ p < 2 ^ 31 := by
      have h0 : 0 ≤ k % 5 := Int.emod_nonneg _ (by decide)
      have h1 : k % 5 < 5 := Int.emod_lt_of_pos _ (by decide)
      generalize k % 5 = z at h0 h1
      have h2 : z = 0 ∨ z = 1 ∨ z = 2 ∨ z = 3 ∨ z = 4 := by omega
      rcases h2 with rfl | rfl | rfl | rfl | rfl
      · exact ⟨_, rfl, by decide, by decide⟩
      · exact ⟨_, rfl, by decide, by decide⟩
      · exact ⟨_, rfl, by decide, by decide⟩
      · exact ⟨_, rfl, by decide, by decide⟩
      · exact ⟨_, rfl, by decide, by decide⟩
    obtain ⟨p, hp, p0, p1⟩ := hp
    refine q_asg (v := .int p) (ev_opL1 (el_lst (ea_cons ev_c (ea_cons ev_c (ea_cons ev_c (ea_cons ev_c (ea_cons ev_c ea_nil))))) (by decide)) (fun H1 e1 => ev_op (ev_var rfl) ev_c (rv_I (by decide : (0 : Int) < 5))) fun l H1 hl e1 => rv_ixL (sq_of hl) hp) fun H1 e1 => ?_
    have m0 : ∀ z : Int, 0 ≤ z % p := fun z => Int.emod_nonneg _ (by omega)
    have m1 : ∀ z : Int, z % p < p := fun z => Int.emod_lt_of_pos _ p0
    refine s_ret (ev_op (ev_op (ev_op (ev_op (ev_op (ev_op (ev_op (ev_var rfl) (ev_op ev_c (ev_var rfl) (rv_I (.inl ⟨by decide, by decide⟩))) rv_I0) ev_c rv_I0) (ev_var rfl) (rv_I p0)) ev_c (rv_I ⟨by decide, by decide, ?_⟩)) (ev_var rfl) (rv_I p0)) (ev_op ev_c (ev_op ev_c (ev_var rfl) (rv_I (.inl ⟨by decide, by decide⟩))) rv_I0) (rv_I (.inl ⟨?_, ?_⟩))) (ev_var rfl) (rv_I p0)) fun H2 e2 => q _ H2 (m0 _) (Int.lt_trans (m1 _) p1) (e1.trans e2)
    · have h1 := m0 (c + 7919 * k + 104729)
      have h2 := m1 (c + 7919 * k + 104729)
      generalize (c + 7919 * k + 104729) % p = z at h1 h2
      omega
    · have h1 := m0 (((c + 7919 * k + 104729) % p) ^ (5 : Int).toNat)
      omega
    · have h1 := m1 (((c + 7919 * k + 104729) % p) ^ (5 : Int).toNat)
      omega
abbrev s_draw : Stmt := top 91
theorem sc_draw : FnScope ["_law_script", "_law_k", "_law_cells", "_law_cell"] ["_law_script", "_law_k"] (defScope s_draw) := ⟨rfl, rfl, rfl, by decide +kernel, rfl, by decide +kernel, by decide +kernel⟩
theorem ok_draw {f : Addr} {fd : FuncData} (F : FnP K "_law_draw" s_draw f fd) : FnOk P w K mg base (CX0) 1 f fd ["_law_script", "_law_k"] (spDraw K) := by
  refine F.ok (CX := CX0) sc_draw (fun vs H Q E h => ?_) (fun cdv A outer s H vs Q E hr h => ?_)
  · obtain ⟨a, ns, k, rfl, _⟩ := h
    rfl
  · obtain ⟨a, ns, k, rfl, hS, hl, hk, k63, q⟩ := h
    have hu := hu_of hr
    have hu64 := hr.units
    refine ⟨_, PSs.nox (pss_cons (ps_set (i := 2) sc_draw.nd rfl (Or.inl rfl) (pe_ifExp (pt_cmpR (op_neD hu64) (pv 0) (pe_lst pa_nil) (nomark _)) (pe_slice sl_list (pv 0) (po_some (pv 1)) (po_some (pe_op op_add (pv 1) pe_int))) (pe_lst (pa_cons pe_int pa_nil))))
      (pss_one (ps_ret (pe_lst (pa_cons (pv 2) (pa_cons (pe_op op_mul pe_int (pv 1)) (pa_cons pe_int (pa_cons (pe_lc (own := [("_law_cell", 3)]) (g := gName 3) (by rfl) sc_draw.nd (pi_list (pv 2)) (blkOk_by (own := [("_law_cell", 3)]) (N := ["_law_script", "_law_k", "_law_cells", "_law_cell"]) (sc := defScope s_draw) (by decide +kernel)) (fun _ _ _ _ _ => pg_name (i := 3) sc_draw.nd rfl (Or.inl rfl)) (fun _ _ _ _ _ => pts_one (pt_cmpR op_ge (pv 3) (pe_op op_pow pe_int pe_int) (nomark _))) (fun _ _ _ _ _ => pv 3)) pa_nil)))))))), ?_⟩
    refine asg_p (M := fun v G => ∃ cs pc, v = .ref pc ∧ H pc = none ∧ cs ≠ [] ∧ cs.length ≤ 63 ∧ Ex H G ∧ G pc = some (.lst (cs.map V.int))) (fun Q' k' => ?_) ?_
    · refine ⟨_, rfl, (by show 0 ≤ sizeLine; decide), fun e he => ?_⟩
      have eE : Ex H (upd H e (.lst [])) := Ex.new he
      refine ⟨.list (ns.map PyData.int), .list [], .lst (ex_l eE hS) (dp_ints2 ns), .lst (.inl (.inl upd_same)) .nil, shaped_ints ns, rfl, _, rfl, ?_⟩
      rw [eqv_nil]
      by_cases hn : ns = []
      · subst hn
        refine no_of rfl ⟨(by show 1 ≤ sizeLine; decide), fun l hl2 => ?_⟩
        exact k' _ _ ⟨[0], l, rfl, fresh_back eE hl2, by decide, by decide, eE.trans (Ex.new hl2), upd_same⟩
      · have hb : (!ns.isEmpty) = true := by
          cases ns with
          | nil => exact absurd rfl hn
          | cons _ _ => rfl
        refine yes_of hb ⟨_, rfl, _, rfl, (k : Int), rfl, _, rfl, (k : Int), 9, rfl, rfl, _, rfl, a, _, rfl, ex_l eE hS, fun p hp => ?_⟩
        refine k' _ _ ⟨(ns.drop k).take 9, p, rfl, fresh_back eE hp, ?_, ?_, eE.trans (Ex.new hp), ?_⟩
        · have := hk hn
          intro z
          have := congrArg List.length z
          rw [List.length_take, List.length_drop, List.length_nil] at this
          omega
        · rw [List.length_take, List.length_drop]
          omega
        · rw [upd_same, cut9 (hk hn)]
    · rintro v G ⟨cs, pc, rfl, hpc, hne, hcl, eG, hG⟩
      refine ⟨_, rfl, _, rfl, 64, (k : Int), rfl, rfl, .inl ⟨by decide, by decide⟩, ?_⟩
      have hE := el_lcL (K := K) (t := tTest (tOp (rI0 fun i j => .bl (decide (j ≤ i))) (tVar 3) (tOp (rI CPow fun i j => .int (i ^ j.toNat)) (tC (.int 10)) (tC (.int 18))))) (te := tVar 3) (tl := tVar 2) (σ := [some (.ref a), some (.int (k : Int)), some (.ref pc), none]) (a := pc) (xs := cs.map V.int) (j := 3) (vs := [3]) (H := G) (fun i => decide ((10 : Int) ^ (18 : Int).toNat ≤ cs.getD i 0)) (fun i => V.int (cs.getD i 0)) (ev_var rfl) (sq_of hG) (by rw [List.length_map]; omega) (fun _ => rfl) (fun i x H5 e5 hx => by
        obtain rfl := int_atL hx
        exact et_test (ev_op (ev_var rfl) (ev_op ev_c ev_c (rv_I ⟨by decide, by decide, by decide⟩)) rv_I0)) (fun i x H5 e5 hx _ => by
        obtain rfl := int_atL hx
        exact ev_var rfl)
      dsimp only [tCons, tC]
      refine hE G (Ex.refl G) _ fun pg G1 hpg e1 h1 => ?_
      refine ⟨by show 4 ≤ sizeLine; decide, fun m hm => ?_⟩
      have pcne : pc ≠ pg := ne_of_none hG hpg
      have hpc1 := e1 _ _ hG
      have m1 : m ≠ pc := fun z => by
        rw [z, hpc1] at hm
        cases hm
      have m2 : m ≠ pg := fun z => by
        rw [z, h1] at hm
        cases hm
      refine q m pc pg cs _ ((eG.trans e1).trans (Ex.new hm)) (fresh_back (eG.trans e1) hm) hpc (fresh_back eG hpg) ⟨m1, m2, pcne, hne, by rw [upd_ne (Ne.symm m1)]; exact hpc1, 64 * k, 0, ((List.range cs.length).filter fun i => decide ((10 : Int) ^ (18 : Int).toNat ≤ cs.getD i 0)).map (fun i => cs.getD i 0), by rw [upd_same, Int.natCast_mul]; rfl, ?_, Nat.le_refl _, Int.le_refl _, ?_, ?_⟩
      · rw [upd_ne (Ne.symm m2), h1]
        unfold given
        rw [List.length_map, List.map_map]
        rfl
      · intro g hg
        obtain ⟨i, hi, rfl⟩ := List.mem_map.mp hg
        have := of_decide_eq_true (List.mem_filter.mp hi).2
        exact Int.lt_of_lt_of_le (by decide) this
      · rw [List.length_map]
        exact Nat.le_trans (List.length_filter_le _ _) (by rw [List.length_range]; exact hcl)
end
end D1
end
section
set_option linter.all false
/-! A0: sums over commutative semirings -/
namespace D1
structure SR (α : Type) where
  add : α → α → α
  mul : α → α → α
  zero : α
  one : α
  add_comm : ∀ a b, add a b = add b a
  add_assoc : ∀ a b c, add (add a b) c = add a (add b c)
  zero_add : ∀ a, add zero a = a
  mul_comm : ∀ a b, mul a b = mul b a
  mul_assoc : ∀ a b c, mul (mul a b) c = mul a (mul b c)
  one_mul : ∀ a, mul one a = a
  zero_mul : ∀ a, mul zero a = zero
  add_mul : ∀ a b c, mul (add a b) c = add (mul a c) (mul b c)
namespace SR
variable {α : Type} (S : SR α)
theorem add_zero (a : α) : S.add a S.zero = a := by rw [S.add_comm, S.zero_add]
theorem mul_one (a : α) : S.mul a S.one = a := by rw [S.mul_comm, S.one_mul]
theorem mul_zero (a : α) : S.mul a S.zero = S.zero := by rw [S.mul_comm, S.zero_mul]
theorem mul_add (a b c : α) : S.mul a (S.add b c) = S.add (S.mul a b) (S.mul a c) := by rw [S.mul_comm, S.add_mul, S.mul_comm b, S.mul_comm c]
theorem add_left (a b c : α) : S.add a (S.add b c) = S.add b (S.add a c) := by rw [← S.add_assoc, S.add_comm a b, S.add_assoc]
theorem add4 (a b c d : α) : S.add (S.add a b) (S.add c d) = S.add (S.add a c) (S.add b d) := by
  rw [S.add_assoc, S.add_left b c d, ← S.add_assoc]
/-- sum below n -/
def sm (f : Nat → α) : Nat → α
  | 0 => S.zero
  | n + 1 => S.add (sm f n) (f n)
theorem sm_congr {f g : Nat → α} : ∀ {n : Nat}, (∀ i, i < n → f i = g i) → S.sm f n = S.sm g n
  | 0, _ => rfl
  | n + 1, h => by
    show S.add _ _ = S.add _ _
    rw [sm_congr (n := n) fun i hi => h i (Nat.lt_succ_of_lt hi), h n (Nat.lt_succ_self n)]
theorem sm_zero {f : Nat → α} : ∀ {n : Nat}, (∀ i, i < n → f i = S.zero) → S.sm f n = S.zero
  | 0, _ => rfl
  | n + 1, h => by
    show S.add _ _ = _
    rw [sm_zero (n := n) fun i hi => h i (Nat.lt_succ_of_lt hi), h n (Nat.lt_succ_self n), S.zero_add]
theorem sm_add {f g : Nat → α} : ∀ n : Nat, S.sm (fun i => S.add (f i) (g i)) n = S.add (S.sm f n) (S.sm g n)
  | 0 => (S.zero_add _).symm
  | n + 1 => by
    show S.add _ _ = S.add (S.add _ _) (S.add _ _)
    rw [sm_add n, S.add4]
theorem sm_mul {f : Nat → α} (c : α) : ∀ n : Nat, S.mul (S.sm f n) c = S.sm (fun i => S.mul (f i) c) n
  | 0 => S.zero_mul c
  | n + 1 => by
    show S.mul (S.add _ _) c = S.add _ _
    rw [S.add_mul, sm_mul c n]
theorem mul_sm {f : Nat → α} (c : α) (n : Nat) : S.mul c (S.sm f n) = S.sm (fun i => S.mul c (f i)) n := by
  rw [S.mul_comm, sm_mul]
  exact S.sm_congr fun i _ => S.mul_comm _ _
theorem sm_swap {f : Nat → Nat → α} (m : Nat) : ∀ n : Nat, S.sm (fun i => S.sm (f i) m) n = S.sm (fun j => S.sm (fun i => f i j) n) m
  | 0 => (S.sm_zero fun _ _ => rfl).symm
  | n + 1 => by
    show S.add _ _ = S.sm (fun j => S.add _ _) m
    rw [sm_swap m n, ← S.sm_add]
/-- a sum of which one part alone isn't nought -/
theorem sm_one {f : Nat → α} {j : Nat} : ∀ {n : Nat}, j < n → (∀ i, i < n → i ≠ j → f i = S.zero) → S.sm f n = f j
  | 0, h, _ => absurd h (Nat.not_lt_zero j)
  | n + 1, h, k => by
    show S.add _ _ = _
    by_cases e : j = n
    · subst e
      rw [S.sm_zero fun i hi => k i (Nat.lt_succ_of_lt hi) (Nat.ne_of_lt hi), S.zero_add]
    · rw [sm_one (by omega) fun i hi => k i (Nat.lt_succ_of_lt hi), k n (Nat.lt_succ_self n) (Ne.symm e), S.add_zero]
theorem sm_head {f : Nat → α} : ∀ n : Nat, S.sm f (n + 1) = S.add (f 0) (S.sm (fun i => f (i + 1)) n)
  | 0 => by
    show S.add S.zero _ = S.add _ S.zero
    rw [S.zero_add, S.add_zero]
  | n + 1 => by
    show S.add (S.sm f (n + 1)) _ = S.add _ (S.add _ _)
    rw [sm_head n, S.add_assoc]
/-- sum of a list -/
def ls {β : Type} (f : β → α) : List β → α
  | [] => S.zero
  | x :: xs => S.add (f x) (ls f xs)
theorem ls_append {β : Type} (f : β → α) : ∀ xs ys : List β, S.ls f (xs ++ ys) = S.add (S.ls f xs) (S.ls f ys)
  | [], ys => (S.zero_add _).symm
  | x :: xs, ys => by
    show S.add _ (S.ls f (xs ++ ys)) = S.add (S.add _ _) _
    rw [ls_append f xs ys, S.add_assoc]
theorem ls_congr {β : Type} {f g : β → α} : ∀ {xs : List β}, (∀ x ∈ xs, f x = g x) → S.ls f xs = S.ls g xs
  | [], _ => rfl
  | x :: xs, h => by
    show S.add _ _ = S.add _ _
    rw [h x List.mem_cons_self, ls_congr fun y hy => h y (List.mem_cons_of_mem _ hy)]
theorem ls_zero {β : Type} {f : β → α} : ∀ {xs : List β}, (∀ x ∈ xs, f x = S.zero) → S.ls f xs = S.zero
  | [], _ => rfl
  | x :: xs, h => by
    show S.add _ _ = _
    rw [h x List.mem_cons_self, ls_zero fun y hy => h y (List.mem_cons_of_mem _ hy), S.zero_add]
theorem ls_mul {β : Type} {f : β → α} (c : α) : ∀ xs : List β, S.mul (S.ls f xs) c = S.ls (fun x => S.mul (f x) c) xs
  | [] => S.zero_mul c
  | x :: xs => by
    show S.mul (S.add _ _) c = S.add _ _
    rw [S.add_mul, ls_mul c xs]
theorem mul_ls {β : Type} {f : β → α} (c : α) (xs : List β) : S.mul c (S.ls f xs) = S.ls (fun x => S.mul c (f x)) xs := by
  rw [S.mul_comm, ls_mul]
  exact S.ls_congr fun i _ => S.mul_comm _ _
theorem ls_add {β : Type} {f g : β → α} : ∀ xs : List β, S.ls (fun x => S.add (f x) (g x)) xs = S.add (S.ls f xs) (S.ls g xs)
  | [] => (S.zero_add _).symm
  | x :: xs => by
    show S.add _ _ = S.add (S.add _ _) (S.add _ _)
    rw [ls_add xs, S.add4]
theorem ls_map {β γ : Type} {f : γ → α} (g : β → γ) : ∀ xs : List β, S.ls f (xs.map g) = S.ls (fun x => f (g x)) xs
  | [] => rfl
  | x :: xs => by
    show S.add _ _ = S.add _ _
    rw [ls_map g xs]
theorem ls_filter {β : Type} {f : β → α} (p : β → Bool) : ∀ xs : List β, S.ls f (xs.filter p) = S.ls (fun x => if p x = true then f x else S.zero) xs
  | [] => rfl
  | x :: xs => by
    rw [List.filter_cons]
    show _ = S.add (if p x = true then f x else S.zero) _
    cases h : p x
    · rw [if_neg Bool.false_ne_true, ls_filter p xs, if_neg Bool.false_ne_true, S.zero_add]
    · rw [if_pos rfl, if_pos rfl]
      show S.add _ (S.ls f (xs.filter p)) = _
      rw [ls_filter p xs]
theorem ls_flat {β γ : Type} {f : γ → α} (g : β → List γ) : ∀ xs : List β, S.ls f (xs.flatMap g) = S.ls (fun x => S.ls f (g x)) xs
  | [] => rfl
  | x :: xs => by
    rw [List.flatMap_cons, ls_append, ls_flat g xs]
    rfl
theorem ls_sm {β : Type} {f : β → Nat → α} (n : Nat) : ∀ xs : List β, S.ls (fun x => S.sm (f x) n) xs = S.sm (fun i => S.ls (fun x => f x i) xs) n
  | [] => (S.sm_zero fun _ _ => rfl).symm
  | x :: xs => by
    show S.add _ _ = S.sm (fun i => S.add _ _) n
    rw [ls_sm n xs, ← S.sm_add]
theorem ls_ls {β γ : Type} {f : β → γ → α} (ys : List γ) : ∀ xs : List β, S.ls (fun x => S.ls (f x) ys) xs = S.ls (fun y => S.ls (fun x => f x y) xs) ys
  | [] => (S.ls_zero fun _ _ => rfl).symm
  | x :: xs => by
    show S.add _ _ = S.ls (fun y => S.add _ _) ys
    rw [ls_ls ys xs, ← S.ls_add]
theorem ls_perm {β : Type} {f : β → α} {xs ys : List β} (h : xs.Perm ys) : S.ls f xs = S.ls f ys := by
  induction h with
  | nil => rfl
  | cons x _ ih => show S.add _ _ = S.add _ _; rw [ih]
  | swap x y l => show S.add _ (S.add _ _) = S.add _ (S.add _ _); rw [S.add_left]
  | trans _ _ h1 h2 => rw [h1, h2]
/-- a left fold is a sum -/
theorem foldl_ls {β : Type} {f : β → α} : ∀ (xs : List β) (z : α), xs.foldl (fun a x => S.add a (f x)) z = S.add z (S.ls f xs)
  | [], z => (S.add_zero z).symm
  | x :: xs, z => by
    show xs.foldl _ (S.add z (f x)) = S.add z (S.add _ _)
    rw [foldl_ls xs, S.add_assoc]
/-! ### matrices -/
def dl (i j : Nat) : α := if i = j then S.one else S.zero
theorem dl_ne {i j : Nat} (h : i ≠ j) : S.dl i j = S.zero := if_neg h
theorem dl_eq (i : Nat) : S.dl i i = S.one := if_pos rfl
/-- powers: one step more behind -/
def pw (A : Nat → Nat → α) (n : Nat) : Nat → Nat → Nat → α
  | 0 => S.dl
  | m + 1 => fun i j => S.sm (fun l => S.mul (pw A n m i l) (A l j)) n
theorem pw_left (A : Nat → Nat → α) (n : Nat) : ∀ (m i j : Nat), i < n → j < n → S.pw A n (m + 1) i j = S.sm (fun l => S.mul (A i l) (S.pw A n m l j)) n
  | 0, i, j, hi, hj => by
    show S.sm (fun l => S.mul (S.dl i l) (A l j)) n = S.sm (fun l => S.mul (A i l) (S.dl l j)) n
    rw [S.sm_one hi fun l _ h => by rw [S.dl_ne (Ne.symm h), S.zero_mul], S.sm_one hj fun l _ h => by rw [S.dl_ne h, S.mul_zero], S.dl_eq, S.dl_eq, S.one_mul, S.mul_one]
  | m + 1, i, j, hi, hj => by
    have h1 : S.pw A n (m + 2) i j = S.sm (fun l => S.mul (S.sm (fun k => S.mul (A i k) (S.pw A n m k l)) n) (A l j)) n := S.sm_congr fun l hl => by rw [pw_left A n m i l hi hl]
    have h2 : S.sm (fun l => S.mul (A i l) (S.pw A n (m + 1) l j)) n = S.sm (fun l => S.sm (fun k => S.mul (A i l) (S.mul (S.pw A n m l k) (A k j))) n) n := S.sm_congr fun l hl => S.mul_sm _ _
    rw [h1, h2, S.sm_swap]
    refine S.sm_congr fun l hl => ?_
    rw [S.sm_mul]
    exact S.sm_congr fun k hk => S.mul_assoc _ _ _
/-- rounds: R_0 = start, R_(m+1) = start + R_m A -/
def rnd (A : Nat → Nat → α) (n s : Nat) : Nat → Nat → α
  | 0 => S.dl s
  | m + 1 => fun j => S.add (S.dl s j) (S.sm (fun l => S.mul (rnd A n s m l) (A l j)) n)
theorem rnd_pw (A : Nat → Nat → α) (n s : Nat) : ∀ m j, S.rnd A n s m j = S.sm (fun l => S.pw A n l s j) (m + 1)
  | 0, j => (S.zero_add _).symm
  | m + 1, j => by
    rw [S.sm_head (m + 1)]
    show S.add _ (S.sm (fun l => S.mul (S.rnd A n s m l) (A l j)) n) = S.add _ _
    congr 1
    rw [S.sm_congr (g := fun l => S.sm (fun q => S.mul (S.pw A n q s l) (A l j)) (m + 1)) fun l _ => by rw [rnd_pw A n s m l, S.sm_mul], S.sm_swap]
    rfl
/-- tables: with ways over one more state -/
def tb (st : α → α) (A : Nat → Nat → α) : Nat → Nat → Nat → α
  | 0 => A
  | m + 1 => fun i j => S.add (tb st A m i j) (S.mul (tb st A m i m) (S.mul (st (tb st A m m m)) (tb st A m m j)))
theorem tb_row {st : α → α} (hst : ∀ a, st a = S.add S.one (S.mul a (st a))) (A : Nat → Nat → α) (m j : Nat) : S.tb st A (m + 1) m j = S.mul (st (S.tb st A m m m)) (S.tb st A m m j) := by
  show S.add _ (S.mul _ (S.mul (st _) _)) = _
  have h := hst (S.tb st A m m m)
  generalize S.tb st A m m m = a at *
  generalize S.tb st A m m j = b at *
  generalize st a = c at *
  have e : S.mul c b = S.add b (S.mul a (S.mul c b)) := (congrArg (S.mul · b) h).trans (by
    show S.mul (S.add S.one (S.mul a c)) b = _
    rw [S.add_mul, S.one_mul, S.mul_assoc])
  exact e.symm
theorem tb_left {st : α → α} (hst : ∀ a, st a = S.add S.one (S.mul a (st a))) (A : Nat → Nat → α) : ∀ m i j, S.tb st A m i j = S.add (A i j) (S.sm (fun l => S.mul (A i l) (S.tb st A m l j)) m)
  | 0, i, j => (S.add_zero _).symm
  | m + 1, i, j => by
    show S.add (S.tb st A m i j) (S.mul (S.tb st A m i m) (S.mul (st (S.tb st A m m m)) (S.tb st A m m j))) = S.add _ (S.add (S.sm _ m) (S.mul (A i m) (S.tb st A (m + 1) m j)))
    rw [tb_row S hst]
    generalize hc : S.mul (st (S.tb st A m m m)) (S.tb st A m m j) = c
    have e : S.sm (fun l => S.mul (A i l) (S.tb st A (m + 1) l j)) m = S.add (S.sm (fun l => S.mul (A i l) (S.tb st A m l j)) m) (S.mul (S.sm (fun l => S.mul (A i l) (S.tb st A m l m)) m) c) := by
      rw [S.sm_mul, ← S.sm_add]
      refine S.sm_congr fun l _ => ?_
      show S.mul (A i l) (S.add _ (S.mul _ (S.mul _ _))) = _
      rw [hc, S.mul_add, S.mul_assoc]
    rw [e]
    have i1 := tb_left hst A m i j
    have i2 := tb_left hst A m i m
    generalize S.sm (fun l => S.mul (A i l) (S.tb st A m l j)) m = x at *
    generalize S.sm (fun l => S.mul (A i l) (S.tb st A m l m)) m = y at *
    rw [i1, i2, S.add_mul, S.add_assoc, S.add_assoc, S.add_comm (S.mul (A i m) c)]
theorem tb_right {st : α → α} (hst : ∀ a, st a = S.add S.one (S.mul a (st a))) (A : Nat → Nat → α) : ∀ m i j, S.tb st A m i j = S.add (A i j) (S.sm (fun l => S.mul (S.tb st A m i l) (A l j)) m)
  | 0, i, j => (S.add_zero _).symm
  | m + 1, i, j => by
    have hst' : ∀ a, st a = S.add S.one (S.mul a (st a)) := hst
    -- the column of the new one
    have col : S.tb st A (m + 1) i m = S.mul (S.tb st A m i m) (st (S.tb st A m m m)) := by
      show S.add _ (S.mul _ (S.mul (st _) _)) = _
      have h := hst (S.tb st A m m m)
      have : S.mul (S.tb st A m i m) (st (S.tb st A m m m)) = S.mul (S.tb st A m i m) (S.add S.one (S.mul (S.tb st A m m m) (st (S.tb st A m m m)))) := by rw [← h]
      rw [this, S.mul_add, S.mul_one, S.mul_comm (st _)]
    show S.add (S.tb st A m i j) (S.mul (S.tb st A m i m) (S.mul (st (S.tb st A m m m)) (S.tb st A m m j))) = S.add _ (S.add (S.sm _ m) (S.mul (S.tb st A (m + 1) i m) (A m j)))
    rw [col, ← S.mul_assoc]
    generalize hc : S.mul (S.tb st A m i m) (st (S.tb st A m m m)) = c
    have e : S.sm (fun l => S.mul (S.tb st A (m + 1) i l) (A l j)) m = S.add (S.sm (fun l => S.mul (S.tb st A m i l) (A l j)) m) (S.mul c (S.sm (fun l => S.mul (S.tb st A m m l) (A l j)) m)) := by
      rw [S.mul_sm, ← S.sm_add]
      refine S.sm_congr fun l _ => ?_
      show S.mul (S.add _ (S.mul _ (S.mul _ _))) (A l j) = _
      rw [← S.mul_assoc, hc, S.add_mul, S.mul_assoc]
    rw [e]
    have i1 := tb_right hst A m i j
    have i2 := tb_right hst A m m j
    generalize S.sm (fun l => S.mul (S.tb st A m i l) (A l j)) m = x at *
    generalize S.sm (fun l => S.mul (S.tb st A m m l) (A l j)) m = y at *
    rw [i1, i2, S.mul_add, S.add_assoc, S.add_assoc, S.add_comm (S.mul c (A m j))]
/-- what by_states tells -/
def fin (st : α → α) (A : Nat → Nat → α) (n : Nat) (i j : Nat) : α := if i = j then S.add S.one (S.tb st A n i j) else S.tb st A n i j
theorem fin_dl (st : α → α) (A : Nat → Nat → α) (n i j : Nat) : S.fin st A n i j = S.add (S.dl i j) (S.tb st A n i j) := by
  unfold fin dl
  by_cases h : i = j
  · rw [if_pos h, if_pos h]
  · rw [if_neg h, if_neg h, S.zero_add]
theorem fin_right {st : α → α} (hst : ∀ a, st a = S.add S.one (S.mul a (st a))) (A : Nat → Nat → α) (n : Nat) {i j : Nat} (hi : i < n) : S.fin st A n i j = S.add (S.dl i j) (S.sm (fun l => S.mul (S.fin st A n i l) (A l j)) n) := by
  rw [fin_dl, S.tb_right hst A n i j]
  congr 1
  rw [show S.sm (fun l => S.mul (S.fin st A n i l) (A l j)) n = S.sm (fun l => S.add (S.mul (S.dl i l) (A l j)) (S.mul (S.tb st A n i l) (A l j))) n from S.sm_congr fun l _ => by rw [fin_dl, S.add_mul], S.sm_add]
  congr 1
  rw [S.sm_one hi fun l _ h => by rw [S.dl_ne (Ne.symm h), S.zero_mul], S.dl_eq, S.one_mul]
/-! ### no way back -/
/-- steps lead to higher ranks alone -/
def Fwd (A : Nat → Nat → α) (n : Nat) (rk : Nat → Nat) : Prop := ∀ i j, i < n → j < n → ¬rk i < rk j → A i j = S.zero
theorem pw_fwd {A : Nat → Nat → α} {n : Nat} {rk : Nat → Nat} (h : S.Fwd A n rk) : ∀ (m i j : Nat), j < n → rk j < m + rk i → S.pw A n m i j = S.zero
  | 0, i, j, hj, hr => S.dl_ne fun e => by subst e; omega
  | m + 1, i, j, hj, hr => S.sm_zero fun l hl => by
    by_cases hlj : rk l < rk j
    · rw [pw_fwd h m i l hl (by omega), S.zero_mul]
    · rw [h l j hl hj hlj, S.mul_zero]
/-- one row alone keeps such a rule -/
theorem fwd_unique {A : Nat → Nat → α} {n : Nat} {rk : Nat → Nat} (h : S.Fwd A n rk) {x y e : Nat → α} (hx : ∀ j, j < n → x j = S.add (e j) (S.sm (fun l => S.mul (x l) (A l j)) n)) (hy : ∀ j, j < n → y j = S.add (e j) (S.sm (fun l => S.mul (y l) (A l j)) n)) : ∀ (r j : Nat), j < n → rk j < r → x j = y j
  | 0, j, _, hr => absurd hr (Nat.not_lt_zero _)
  | r + 1, j, hj, hr => by
    rw [hx j hj, hy j hj]
    congr 1
    refine S.sm_congr fun l hl => ?_
    by_cases hlj : rk l < rk j
    · rw [fwd_unique h hx hy r l hl (by omega)]
    · rw [h l j hl hj hlj, S.mul_zero, S.mul_zero]
/-- sums over all paths of less steps than states -/
def ds (A : Nat → Nat → α) (n : Nat) (i j : Nat) : α := S.sm (fun m => S.pw A n m i j) n
theorem ds_rnd (A : Nat → Nat → α) {n : Nat} (hn : 0 < n) (i j : Nat) : S.ds A n i j = S.rnd A n i (n - 1) j := by
  rw [S.rnd_pw, Nat.sub_add_cancel hn]
  rfl
theorem ds_next {A : Nat → Nat → α} {n : Nat} {rk : Nat → Nat} (h : S.Fwd A n rk) (hrk : ∀ i, i < n → rk i < n) {i j : Nat} (hj : j < n) : S.ds A n i j = S.add (S.dl i j) (S.sm (fun l => S.mul (S.ds A n i l) (A l j)) n) := by
  have e : S.sm (fun l => S.mul (S.ds A n i l) (A l j)) n = S.sm (fun m => S.pw A n (m + 1) i j) n := by
    unfold ds
    rw [S.sm_congr (g := fun l => S.sm (fun m => S.mul (S.pw A n m i l) (A l j)) n) fun l _ => S.sm_mul _ _, S.sm_swap]
    rfl
  rw [e]
  refine Eq.trans ?_ (S.sm_head (f := fun m => S.pw A n m i j) n)
  show _ = S.add (S.ds A n i j) (S.pw A n n i j)
  rw [S.pw_fwd h n i j hj (by have := hrk j hj; omega), S.add_zero]
theorem fin_ds {st : α → α} (hst : ∀ a, st a = S.add S.one (S.mul a (st a))) {A : Nat → Nat → α} {n : Nat} {rk : Nat → Nat} (h : S.Fwd A n rk) (hrk : ∀ i, i < n → rk i < n) {i j : Nat} (hi : i < n) (hj : j < n) : S.fin st A n i j = S.ds A n i j :=
  S.fwd_unique h (x := S.fin st A n i) (y := S.ds A n i) (e := S.dl i) (fun j _ => S.fin_right hst A n hi) (fun j hj => S.ds_next h hrk hj) (rk j + 1) j hj (Nat.lt_succ_self _)
end SR
end D1
end
section
set_option Elab.async false
set_option linter.all false
set_option maxRecDepth 100000
set_option maxHeartbeats 4000000
/-! M3: sums of weights; weights are a semiring -/
namespace D1
open PySem L2
def orB : PyData → PyData → PyData
  | .bool a, .bool b => .bool (a || b)
  | a, _ => a
def countP : PyData → PyData → PyData
  | .int i, .int j => .int (i + j)
  | _, _ => E
def boundP (s : Int) : PyData → PyData → PyData
  | .int i, .int j => .int (if s * i ≤ s * j then i else j)
  | a, b => if (isE a || isE b) = true then E else if isN b = true then a else b
def narrP : PyData → PyData → PyData
  | .int i, .int j => .int (if j ≤ i then i else j)
  | _, _ => E
def shareP : PyData → PyData → PyData
  | .tuple [.int p, .int q], .tuple [.int r, .int s] => if r * q ≤ p * s then .tuple [.int p, .int q] else .tuple [.int r, .int s]
  | a, _ => a
def lotP : PyData → PyData → PyData
  | .int i, .int j => .int (Builtin.bitOr i j)
  | a, _ => a
def plus : RK → PyData → PyData → PyData
  | .truth => orB
  | .count => countP
  | .least => boundP 1
  | .most => boundP (-1)
  | .narrow => narrP
  | .share => shareP
  | .lot _ => lotP
  | .pair k l => fun x y => match x, y with
    | .tuple [a, b], .tuple [c, d] => .tuple [plus k a c, plus l b d]
    | x, _ => x
theorem good_zero : ∀ k : RK, goodB k (zeroD k) = true
  | .truth => rfl
  | .count => rfl
  | .least => by decide +kernel
  | .most => by decide +kernel
  | .narrow => rfl
  | .share => by decide +kernel
  | .lot n => by
    show (decide ((0 : Int) ≤ 0) && decide ((0 : Int) ≤ 2 ^ n - 1)) = true
    rw [one_lot, decide_eq_true (by omega : (0 : Int) ≤ ((2 ^ n - 1 : Nat) : Int))]
    rfl
  | .pair a b => by
    show (goodB a (zeroD a) && goodB b (zeroD b)) = true
    rw [good_zero a, good_zero b]
    rfl
theorem or_nat (a b : Nat) : lotP (.int a) (.int b) = .int ((a ||| b : Nat) : Int) := by
  show PyData.int (Builtin.bitOr (a : Int) (b : Int)) = _
  rw [Bits.bitOr_pp (Int.natCast_nonneg a) (Int.natCast_nonneg b), Int.toNat_natCast, Int.toNat_natCast]
theorem shareP_nat (p q r s : Nat) : shareP (shN p q) (shN r s) = if r * q ≤ p * s then shN p q else shN r s := by
  show (if (r : Int) * (q : Int) ≤ (p : Int) * (s : Int) then shN p q else shN r s) = _
  rw [← Int.natCast_mul, ← Int.natCast_mul]
  by_cases h : r * q ≤ p * s
  · rw [if_pos h, if_pos (by omega)]
  · rw [if_neg h, if_neg (by omega)]
theorem good_plus : ∀ (k : RK) {a b : PyData}, goodB k a = true → goodB k b = true → goodB k (plus k a b) = true
  | .truth, a, b, h, h' => by
    obtain ⟨x, rfl⟩ := good_truth h
    obtain ⟨y, rfl⟩ := good_truth h'
    rfl
  | .count, a, b, h, h' => by
    rcases good_cn h with rfl | ⟨i, rfl, hi⟩ <;> rcases good_cn h' with rfl | ⟨j, rfl, hj⟩ <;> first | rfl | exact decide_eq_true (Int.add_nonneg hi hj)
  | .least, a, b, h, h' => by
    rcases good_b h with rfl | rfl | ⟨i, rfl⟩ <;> rcases good_b h' with rfl | rfl | ⟨j, rfl⟩ <;> first | rfl | decide +kernel
  | .most, a, b, h, h' => by
    rcases good_b h with rfl | rfl | ⟨i, rfl⟩ <;> rcases good_b h' with rfl | rfl | ⟨j, rfl⟩ <;> first | rfl | decide +kernel
  | .narrow, a, b, h, h' => by
    rcases good_cn h with rfl | ⟨i, rfl, hi⟩ <;> rcases good_cn h' with rfl | ⟨j, rfl, hj⟩ <;> first | rfl | exact decide_eq_true (by split <;> assumption)
  | .share, a, b, h, h' => by
    obtain ⟨p, q, rfl, h1, h2, h3⟩ := share_nat h
    obtain ⟨r, s, rfl, h4, h5, h6⟩ := share_nat h'
    show shGood (shareP _ _) = true
    rw [shareP_nat]
    split
    · exact h
    · exact h'
  | .lot n, a, b, h, h' => by
    obtain ⟨i, rfl, hi⟩ := lot_nat h
    obtain ⟨j, rfl, hj⟩ := lot_nat h'
    show lotGood n (lotP _ _) = true
    rw [or_nat]
    exact nat_lot (Nat.or_lt_two_pow hi hj)
  | .pair k l, a, b, h, h' => by
    obtain ⟨x, y, rfl, h1, h2⟩ := good_pair h
    obtain ⟨z, w, rfl, h3, h4⟩ := good_pair h'
    show (goodB k (plus k x z) && goodB l (plus l y w)) = true
    rw [good_plus k h1 h3, good_plus l h2 h4]
    rfl
/-! ### shares are ordered -/
theorem share_inj {p q r s : Nat} (hq : 0 < q) (hs : 0 < s) (g1 : Nat.gcd p q = 1) (g2 : Nat.gcd r s = 1) (h : p * s = r * q) : p = r ∧ q = s := by
  have d1 : q ∣ s := by
    have : q ∣ p * s := ⟨r, by rw [h, Nat.mul_comm]⟩
    exact Nat.Coprime.dvd_of_dvd_mul_left (by rw [Nat.coprime_iff_gcd_eq_one, Nat.gcd_comm]; exact g1) this
  have d2 : s ∣ q := by
    have : s ∣ r * q := ⟨p, by rw [← h, Nat.mul_comm]⟩
    exact Nat.Coprime.dvd_of_dvd_mul_left (by rw [Nat.coprime_iff_gcd_eq_one, Nat.gcd_comm]; exact g2) this
  have e : q = s := Nat.dvd_antisymm d1 d2
  subst e
  exact ⟨Nat.eq_of_mul_eq_mul_right hq h, rfl⟩
theorem share_trans {p q r s t u : Nat} (hq : 0 < q) (hs : 0 < s) (hu : 0 < u) (h1 : r * q ≤ p * s) (h2 : t * s ≤ r * u) : t * q ≤ p * u := by
  have a : t * s * q ≤ r * u * q := Nat.mul_le_mul_right q h2
  have b : r * q * u ≤ p * s * u := Nat.mul_le_mul_right u h1
  have c : (t * q) * s ≤ (p * u) * s := by
    rw [Nat.mul_right_comm t q s, Nat.mul_right_comm p u s]
    rw [Nat.mul_right_comm r u q] at a
    omega
  exact Nat.le_of_mul_le_mul_right c hs
theorem shareP_of {p q r s : Nat} (hq : 0 < q) (hs : 0 < s) (g1 : Nat.gcd p q = 1) (g2 : Nat.gcd r s = 1) (h : p * s ≤ r * q) : shareP (shN p q) (shN r s) = shN r s := by
  rw [shareP_nat]
  by_cases h2 : r * q ≤ p * s
  · rw [if_pos h2]
    obtain ⟨rfl, rfl⟩ := share_inj hq hs g1 g2 (Nat.le_antisymm h h2)
    rfl
  · rw [if_neg h2]
theorem lowN_ratio (p q : Nat) : (lowN p q).1 * q = p * (lowN p q).2 := by
  unfold lowN
  have h1 : Nat.gcd p q * (p / Nat.gcd p q) = p := Nat.mul_div_cancel' (Nat.gcd_dvd_left p q)
  have h2 : Nat.gcd p q * (q / Nat.gcd p q) = q := Nat.mul_div_cancel' (Nat.gcd_dvd_right p q)
  show p / Nat.gcd p q * q = p * (q / Nat.gcd p q)
  generalize p / Nat.gcd p q = x at *
  generalize q / Nat.gcd p q = y at *
  generalize Nat.gcd p q = g at *
  subst h1
  subst h2
  rw [Nat.mul_left_comm, Nat.mul_assoc]
theorem lowN_cmp {p q r s : Nat} (hq : 0 < q) (hs : 0 < s) (h : r * q ≤ p * s) : (lowN r s).1 * (lowN p q).2 ≤ (lowN p q).1 * (lowN r s).2 := by
  have e1 := lowN_ratio p q
  have e2 := lowN_ratio r s
  have p1 := lowN_pos (p := p) hq
  have p2 := lowN_pos (p := r) hs
  generalize (lowN p q).1 = a at *
  generalize (lowN p q).2 = b at *
  generalize (lowN r s).1 = c at *
  generalize (lowN r s).2 = d at *
  -- a q = p b, c s = r d; c b ≤ a d
  have x : (c * b) * (q * s) ≤ (a * d) * (q * s) := by
    have l : (c * b) * (q * s) = (c * s) * (b * q) := by simp only [Nat.mul_comm, Nat.mul_left_comm, Nat.mul_assoc]
    have r' : (a * d) * (q * s) = (a * q) * (d * s) := by simp only [Nat.mul_comm, Nat.mul_left_comm, Nat.mul_assoc]
    rw [l, r', e1, e2]
    have l2 : r * d * (b * q) = (r * q) * (b * d) := by simp only [Nat.mul_comm, Nat.mul_left_comm, Nat.mul_assoc]
    have r2 : p * b * (d * s) = (p * s) * (b * d) := by simp only [Nat.mul_comm, Nat.mul_left_comm, Nat.mul_assoc]
    rw [l2, r2]
    exact Nat.mul_le_mul_right _ h
  exact Nat.le_of_mul_le_mul_right x (Nat.mul_pos hq hs)
/-! ### the rules -/
theorem plus_comm : ∀ (k : RK) {a b : PyData}, goodB k a = true → goodB k b = true → plus k a b = plus k b a
  | .truth, a, b, h, h' => by
    obtain ⟨x, rfl⟩ := good_truth h
    obtain ⟨y, rfl⟩ := good_truth h'
    cases x <;> cases y <;> rfl
  | .count, a, b, h, h' => by
    rcases good_cn h with rfl | ⟨i, rfl, hi⟩ <;> rcases good_cn h' with rfl | ⟨j, rfl, hj⟩ <;> first | rfl | (simp only [plus, countP, Int.add_comm])
  | .least, a, b, h, h' => by
    rcases good_b h with rfl | rfl | ⟨i, rfl⟩ <;> rcases good_b h' with rfl | rfl | ⟨j, rfl⟩ <;> first | rfl | (simp only [plus, boundP]; congr 1; split <;> split <;> omega)
  | .most, a, b, h, h' => by
    rcases good_b h with rfl | rfl | ⟨i, rfl⟩ <;> rcases good_b h' with rfl | rfl | ⟨j, rfl⟩ <;> first | rfl | (simp only [plus, boundP]; congr 1; split <;> split <;> omega)
  | .narrow, a, b, h, h' => by
    rcases good_cn h with rfl | ⟨i, rfl, hi⟩ <;> rcases good_cn h' with rfl | ⟨j, rfl, hj⟩ <;> first | rfl | (simp only [plus, narrP]; congr 1; split <;> split <;> omega)
  | .share, a, b, h, h' => by
    obtain ⟨p, q, rfl, h1, h2, h3⟩ := share_nat h
    obtain ⟨r, s, rfl, h4, h5, h6⟩ := share_nat h'
    show shareP _ _ = shareP _ _
    rcases Nat.le_total (p * s) (r * q) with h | h
    · rw [shareP_of h2 h5 h3 h6 h, shareP_nat, if_pos h]
    · rw [shareP_of h5 h2 h6 h3 h, shareP_nat, if_pos h]
  | .lot n, a, b, h, h' => by
    obtain ⟨i, rfl, hi⟩ := lot_nat h
    obtain ⟨j, rfl, hj⟩ := lot_nat h'
    show lotP _ _ = lotP _ _
    rw [or_nat, or_nat, Nat.or_comm]
  | .pair k l, a, b, h, h' => by
    obtain ⟨x, y, rfl, h1, h2⟩ := good_pair h
    obtain ⟨z, w, rfl, h3, h4⟩ := good_pair h'
    show PyData.tuple [plus k x z, plus l y w] = .tuple [plus k z x, plus l w y]
    rw [plus_comm k h1 h3, plus_comm l h2 h4]
theorem plus_assoc : ∀ (k : RK) {a b c : PyData}, goodB k a = true → goodB k b = true → goodB k c = true → plus k (plus k a b) c = plus k a (plus k b c)
  | .truth, a, b, c, ha, hb, hc => by
    obtain ⟨x, rfl⟩ := good_truth ha
    obtain ⟨y, rfl⟩ := good_truth hb
    obtain ⟨z, rfl⟩ := good_truth hc
    cases x <;> cases y <;> cases z <;> rfl
  | .count, a, b, c, ha, hb, hc => by
    rcases good_cn ha with rfl | ⟨i, rfl, hi⟩ <;> rcases good_cn hb with rfl | ⟨j, rfl, hj⟩ <;> rcases good_cn hc with rfl | ⟨l, rfl, hl⟩ <;> first | rfl | (simp only [plus, countP, Int.add_assoc])
  | .least, a, b, c, ha, hb, hc => by
    rcases good_b ha with rfl | rfl | ⟨i, rfl⟩ <;> rcases good_b hb with rfl | rfl | ⟨j, rfl⟩ <;> rcases good_b hc with rfl | rfl | ⟨l, rfl⟩ <;> first | rfl | (simp only [plus, boundP]; congr 1; split <;> split <;> (try split) <;> (try split) <;> omega)
  | .most, a, b, c, ha, hb, hc => by
    rcases good_b ha with rfl | rfl | ⟨i, rfl⟩ <;> rcases good_b hb with rfl | rfl | ⟨j, rfl⟩ <;> rcases good_b hc with rfl | rfl | ⟨l, rfl⟩ <;> first | rfl | (simp only [plus, boundP]; congr 1; split <;> split <;> (try split) <;> (try split) <;> omega)
  | .narrow, a, b, c, ha, hb, hc => by
    rcases good_cn ha with rfl | ⟨i, rfl, hi⟩ <;> rcases good_cn hb with rfl | ⟨j, rfl, hj⟩ <;> rcases good_cn hc with rfl | ⟨l, rfl, hl⟩ <;> first | rfl | (simp only [plus, narrP]; congr 1; split <;> split <;> (try split) <;> (try split) <;> omega)
  | .share, a, b, c, ha, hb, hc => by
    obtain ⟨p, q, rfl, h1, h2, h3⟩ := share_nat ha
    obtain ⟨r, s, rfl, h4, h5, h6⟩ := share_nat hb
    obtain ⟨t, u, rfl, h7, h8, h9⟩ := share_nat hc
    show shareP (shareP _ _) _ = shareP _ (shareP _ _)
    by_cases x : r * q ≤ p * s <;> by_cases y : t * s ≤ r * u
    · rw [shareP_nat p q r s, if_pos x, shareP_nat r s t u, if_pos y, shareP_nat p q r s, if_pos x, shareP_nat, if_pos (share_trans h2 h5 h8 x y)]
    · rw [shareP_nat p q r s, if_pos x, shareP_nat r s t u, if_neg y]
    · rw [shareP_nat p q r s, if_neg x, shareP_nat r s t u, if_pos y, shareP_nat p q r s, if_neg x]
    · rw [shareP_nat p q r s, if_neg x, shareP_nat r s t u, if_neg y]
      exact (shareP_of h2 h8 h3 h9 (share_trans (p := t) (q := u) (r := r) (s := s) (t := p) (u := q) h8 h5 h2 (Nat.le_of_not_le y) (Nat.le_of_not_le x))).symm
  | .lot n, a, b, c, ha, hb, hc => by
    obtain ⟨i, rfl, hi⟩ := lot_nat ha
    obtain ⟨j, rfl, hj⟩ := lot_nat hb
    obtain ⟨l, rfl, hl⟩ := lot_nat hc
    show lotP (lotP _ _) _ = lotP _ (lotP _ _)
    rw [or_nat, or_nat, or_nat, or_nat, Nat.or_assoc]
  | .pair k l, a, b, c, ha, hb, hc => by
    obtain ⟨x, y, rfl, h1, h2⟩ := good_pair ha
    obtain ⟨z, w, rfl, h3, h4⟩ := good_pair hb
    obtain ⟨u, v, rfl, h5, h6⟩ := good_pair hc
    show PyData.tuple [plus k (plus k x z) u, plus l (plus l y w) v] = .tuple [plus k x (plus k z u), plus l y (plus l w v)]
    rw [plus_assoc k h1 h3 h5, plus_assoc l h2 h4 h6]
theorem zero_plus : ∀ (k : RK) {a : PyData}, goodB k a = true → plus k (zeroD k) a = a
  | .truth, a, h => by
    obtain ⟨x, rfl⟩ := good_truth h
    cases x <;> rfl
  | .count, a, h => by
    rcases good_cn h with rfl | ⟨i, rfl, hi⟩
    · rfl
    · show PyData.int (0 + i) = _
      rw [Int.zero_add]
  | .least, a, h => by
    rcases good_b h with rfl | rfl | ⟨i, rfl⟩ <;> rfl
  | .most, a, h => by
    rcases good_b h with rfl | rfl | ⟨i, rfl⟩ <;> rfl
  | .narrow, a, h => by
    rcases good_cn h with rfl | ⟨i, rfl, hi⟩
    · rfl
    · show PyData.int (if i ≤ 0 then 0 else i) = _
      congr 1
      split <;> omega
  | .share, a, h => by
    obtain ⟨p, q, rfl, h1, h2, h3⟩ := share_nat h
    show shareP (shN 0 1) (shN p q) = _
    exact shareP_of (by decide) h2 (by decide) h3 (by omega)
  | .lot n, a, h => by
    obtain ⟨i, rfl, hi⟩ := lot_nat h
    show lotP (.int ((0 : Nat) : Int)) _ = _
    rw [or_nat, Nat.zero_or]
  | .pair k l, a, h => by
    obtain ⟨x, y, rfl, h1, h2⟩ := good_pair h
    show PyData.tuple [plus k (zeroD k) x, plus l (zeroD l) y] = _
    rw [zero_plus k h1, zero_plus l h2]
theorem times_comm : ∀ (k : RK) {a b : PyData}, goodB k a = true → goodB k b = true → times k a b = times k b a
  | .truth, a, b, h, h' => by
    obtain ⟨x, rfl⟩ := good_truth h
    obtain ⟨y, rfl⟩ := good_truth h'
    cases x <;> cases y <;> rfl
  | .count, a, b, h, h' => by
    rcases good_cn h with rfl | ⟨i, rfl, hi⟩ <;> rcases good_cn h' with rfl | ⟨j, rfl, hj⟩
    · rfl
    · show (if (i0 E || i0 (.int j)) = true then PyData.int 0 else E) = (if (i0 (.int j) || i0 E) = true then PyData.int 0 else E)
      rw [Bool.or_comm]
    · show (if (i0 (.int i) || i0 E) = true then PyData.int 0 else E) = (if (i0 E || i0 (.int i)) = true then PyData.int 0 else E)
      rw [Bool.or_comm]
    · simp only [times, countT, Int.mul_comm]
  | .least, a, b, h, h' => by
    rcases good_b h with rfl | rfl | ⟨i, rfl⟩ <;> rcases good_b h' with rfl | rfl | ⟨j, rfl⟩ <;> first | rfl | (simp only [times, boundT, Int.add_comm])
  | .most, a, b, h, h' => by
    rcases good_b h with rfl | rfl | ⟨i, rfl⟩ <;> rcases good_b h' with rfl | rfl | ⟨j, rfl⟩ <;> first | rfl | (simp only [times, boundT, Int.add_comm])
  | .narrow, a, b, h, h' => by
    rcases good_cn h with rfl | ⟨i, rfl, hi⟩ <;> rcases good_cn h' with rfl | ⟨j, rfl, hj⟩ <;> first | rfl | (simp only [times, narrT]; congr 1; split <;> split <;> omega)
  | .share, a, b, h, h' => by
    obtain ⟨p, q, rfl, h1, h2, h3⟩ := share_nat h
    obtain ⟨r, s, rfl, h4, h5, h6⟩ := share_nat h'
    show shareT _ _ = shareT _ _
    rw [shareT_nat, shareT_nat, Nat.mul_comm p, Nat.mul_comm q]
  | .lot n, a, b, h, h' => by
    obtain ⟨i, rfl, hi⟩ := lot_nat h
    obtain ⟨j, rfl, hj⟩ := lot_nat h'
    show lotT _ _ = lotT _ _
    rw [and_nat, and_nat, Nat.and_comm]
  | .pair k l, a, b, h, h' => by
    obtain ⟨x, y, rfl, h1, h2⟩ := good_pair h
    obtain ⟨z, w, rfl, h3, h4⟩ := good_pair h'
    show PyData.tuple [times k x z, times l y w] = .tuple [times k z x, times l w y]
    rw [times_comm k h1 h3, times_comm l h2 h4]
theorem zero_times : ∀ (k : RK) {a : PyData}, goodB k a = true → times k (zeroD k) a = zeroD k
  | .truth, a, h => by
    obtain ⟨x, rfl⟩ := good_truth h
    cases x <;> rfl
  | .count, a, h => by
    rcases good_cn h with rfl | ⟨i, rfl, hi⟩
    · rfl
    · show PyData.int (0 * i) = _
      rw [Int.zero_mul]
      rfl
  | .least, a, h => by
    rcases good_b h with rfl | rfl | ⟨i, rfl⟩ <;> rfl
  | .most, a, h => by
    rcases good_b h with rfl | rfl | ⟨i, rfl⟩ <;> rfl
  | .narrow, a, h => by
    rcases good_cn h with rfl | ⟨i, rfl, hi⟩
    · rfl
    · show PyData.int (if 0 ≤ i then 0 else i) = _
      rw [if_pos hi]
      rfl
  | .share, a, h => by
    obtain ⟨p, q, rfl, h1, h2, h3⟩ := share_nat h
    show shareT (shN 0 1) (shN p q) = shN 0 1
    rw [shareT_nat, Nat.zero_mul, Nat.one_mul]
    unfold lowN
    rw [Nat.gcd_zero_left, Nat.zero_div, Nat.div_self h2]
  | .lot n, a, h => by
    obtain ⟨i, rfl, hi⟩ := lot_nat h
    show lotT (.int ((0 : Nat) : Int)) _ = _
    rw [and_nat, Nat.zero_and]
    rfl
  | .pair k l, a, h => by
    obtain ⟨x, y, rfl, h1, h2⟩ := good_pair h
    show PyData.tuple [times k (zeroD k) x, times l (zeroD l) y] = _
    rw [zero_times k h1, zero_times l h2]
    rfl
theorem plus_times : ∀ (k : RK) {a b c : PyData}, goodB k a = true → goodB k b = true → goodB k c = true → times k (plus k a b) c = plus k (times k a c) (times k b c)
  | .truth, a, b, c, ha, hb, hc => by
    obtain ⟨x, rfl⟩ := good_truth ha
    obtain ⟨y, rfl⟩ := good_truth hb
    obtain ⟨z, rfl⟩ := good_truth hc
    cases x <;> cases y <;> cases z <;> rfl
  | .count, a, b, c, ha, hb, hc => by
    rcases good_cn ha with rfl | ⟨i, rfl, hi⟩ <;> rcases good_cn hb with rfl | ⟨j, rfl, hj⟩ <;> rcases good_cn hc with rfl | ⟨l, rfl, hl⟩
    · rfl
    · simp only [plus, times, countT, countP, E, i0, Bool.false_or, Bool.or_false]
      by_cases h : l = 0 <;> simp [h, i0, countT, E, countP]
    · simp only [plus, times, countT, countP, E, i0, Bool.false_or, Bool.or_false]
      by_cases h : j = 0 <;> simp [h, i0, countT, E, countP]
    · simp only [plus, times, countT, countP, E, i0, Bool.false_or, Bool.or_false]
      by_cases h : l = 0 <;> simp [h, i0, countT, E, countP]
    · simp only [plus, times, countT, countP, E, i0, Bool.false_or, Bool.or_false]
      by_cases h : i = 0 <;> simp [h, i0, countT, E, countP]
    · simp only [plus, times, countT, countP, E, i0, Bool.false_or, Bool.or_false]
      by_cases h : l = 0 <;> simp [h, i0, countT, E, countP]
    · simp only [plus, times, countT, countP, E, i0, Bool.false_or, Bool.or_false]
      by_cases h : i = 0 <;> by_cases h2 : j = 0
      · simp [h, h2, i0, countT, E, countP]
      · simp [h, h2, i0, countT, E, countP]
      · simp [h, h2, i0, countT, E, countP]
      · have : ¬(i + j = 0) := by omega
        simp [h, h2, this, i0, countT, E, countP]
    · simp only [plus, times, countT, countP, Int.add_mul]
  | .least, a, b, c, ha, hb, hc => by
    rcases good_b ha with rfl | rfl | ⟨i, rfl⟩ <;> rcases good_b hb with rfl | rfl | ⟨j, rfl⟩ <;> rcases good_b hc with rfl | rfl | ⟨l, rfl⟩ <;> first | rfl | (simp only [plus, times, boundP, boundT]; congr 1; split <;> split <;> omega)
  | .most, a, b, c, ha, hb, hc => by
    rcases good_b ha with rfl | rfl | ⟨i, rfl⟩ <;> rcases good_b hb with rfl | rfl | ⟨j, rfl⟩ <;> rcases good_b hc with rfl | rfl | ⟨l, rfl⟩ <;> first | rfl | (simp only [plus, times, boundP, boundT]; congr 1; split <;> split <;> omega)
  | .narrow, a, b, c, ha, hb, hc => by
    rcases good_cn ha with rfl | ⟨i, rfl, hi⟩ <;> rcases good_cn hb with rfl | ⟨j, rfl, hj⟩ <;> rcases good_cn hc with rfl | ⟨l, rfl, hl⟩ <;> first | rfl | (simp only [plus, times, narrP, narrT, E]; congr 1; repeat' split <;> omega)
  | .share, a, b, c, ha, hb, hc => by
    obtain ⟨p, q, rfl, h1, h2, h3⟩ := share_nat ha
    obtain ⟨r, s, rfl, h4, h5, h6⟩ := share_nat hb
    obtain ⟨t, u, rfl, h7, h8, h9⟩ := share_nat hc
    show shareT (shareP _ _) _ = shareP (shareT _ _) (shareT _ _)
    have qu := Nat.mul_pos h2 h8
    have su := Nat.mul_pos h5 h8
    have m1 : (r * t) * (q * u) = (r * q) * (t * u) := by simp only [Nat.mul_comm, Nat.mul_left_comm, Nat.mul_assoc]
    have m2 : (p * t) * (s * u) = (p * s) * (t * u) := by simp only [Nat.mul_comm, Nat.mul_left_comm, Nat.mul_assoc]
    rcases Nat.le_total (r * q) (p * s) with h | h
    · rw [shareP_nat, if_pos h, shareT_nat, shareT_nat, shareP_nat, if_pos]
      refine lowN_cmp qu su ?_
      rw [m1, m2]
      exact Nat.mul_le_mul_right _ h
    · rw [shareP_of h2 h5 h3 h6 h, shareT_nat, shareT_nat, shareP_of (lowN_pos qu) (lowN_pos su) (lowN_gcd qu) (lowN_gcd su)]
      refine lowN_cmp su qu ?_
      rw [m1, m2]
      exact Nat.mul_le_mul_right _ h
  | .lot n, a, b, c, ha, hb, hc => by
    obtain ⟨i, rfl, hi⟩ := lot_nat ha
    obtain ⟨j, rfl, hj⟩ := lot_nat hb
    obtain ⟨l, rfl, hl⟩ := lot_nat hc
    show lotT (lotP _ _) _ = lotP (lotT _ _) (lotT _ _)
    rw [or_nat, and_nat, and_nat, and_nat, or_nat, Nat.and_or_distrib_right]
  | .pair k l, a, b, c, ha, hb, hc => by
    obtain ⟨x, y, rfl, h1, h2⟩ := good_pair ha
    obtain ⟨z, w, rfl, h3, h4⟩ := good_pair hb
    obtain ⟨u, v, rfl, h5, h6⟩ := good_pair hc
    show PyData.tuple [times k (plus k x z) u, times l (plus l y w) v] = .tuple [plus k (times k x u) (times k z u), plus l (times l y v) (times l w v)]
    rw [plus_times k h1 h3 h5, plus_times l h2 h4 h6]
/-- the weights of a kind -/
abbrev Wt (k : RK) : Type := { d : PyData // goodB k d = true }
def WS (k : RK) : SR (Wt k) where
  add a b := ⟨plus k a.1 b.1, good_plus k a.2 b.2⟩
  mul a b := ⟨times k a.1 b.1, good_times k a.2 b.2⟩
  zero := ⟨zeroD k, good_zero k⟩
  one := ⟨oneD k, good_one k⟩
  add_comm a b := Subtype.ext (plus_comm k a.2 b.2)
  add_assoc a b c := Subtype.ext (plus_assoc k a.2 b.2 c.2)
  zero_add a := Subtype.ext (zero_plus k a.2)
  mul_comm a b := Subtype.ext (times_comm k a.2 b.2)
  mul_assoc a b c := Subtype.ext (times_assoc k a.2 b.2 c.2)
  one_mul a := Subtype.ext (one_times k a.2)
  zero_mul a := Subtype.ext (zero_times k a.2)
  add_mul a b c := Subtype.ext (plus_times k a.2 b.2 c.2)
end D1
end
section
set_option Elab.async false
set_option linter.all false
set_option maxRecDepth 100000
set_option maxHeartbeats 4000000
/-! M4: stars, what is beyond, sizes of sums -/
namespace D1
open PySem L2
def boundS (s : Int) : PyData → PyData
  | .int i => if 0 ≤ s * i then .int 0 else E
  | .str z => if z == "none" then .int 0 else E
  | a => a
def countS : PyData → PyData
  | .int i => if i == 0 then .int 1 else E
  | _ => E
def starD : RK → PyData → PyData
  | .count => countS
  | .least => boundS 1
  | .most => boundS (-1)
  | .pair k l => fun x => match x with
    | .tuple [a, b] => .tuple [starD k a, starD l b]
    | x => x
  | k => fun _ => oneD k
def beyondD : RK → PyData → PyData → PyData
  | .count => fun a b => if PyData.eqv a b = true then .int 0 else E
  | .least => fun a b => if PyData.eqv a b = true then N else E
  | .most => fun a b => if PyData.eqv a b = true then N else E
  | .pair k l => fun x y => match x, y with
    | .tuple [a, b], .tuple [c, d] => .tuple [beyondD k a c, beyondD l b d]
    | x, _ => x
  | k => fun _ _ => zeroD k
theorem good_star : ∀ (k : RK) {a : PyData}, goodB k a = true → goodB k (starD k a) = true
  | .truth, a, h => rfl
  | .count, a, h => by
    rcases good_cn h with rfl | ⟨i, rfl, hi⟩
    · rfl
    · show cnGood (if (i == 0) = true then .int 1 else E) = true
      split <;> rfl
  | .least, a, h => by
    rcases good_b h with rfl | rfl | ⟨i, rfl⟩
    · rfl
    · rfl
    · show bGood (if 0 ≤ (1 : Int) * i then .int 0 else E) = true
      split <;> rfl
  | .most, a, h => by
    rcases good_b h with rfl | rfl | ⟨i, rfl⟩
    · rfl
    · rfl
    · show bGood (if 0 ≤ (-1 : Int) * i then .int 0 else E) = true
      split <;> rfl
  | .narrow, a, h => good_one .narrow
  | .share, a, h => good_one .share
  | .lot n, a, h => good_one (.lot n)
  | .pair k l, a, h => by
    obtain ⟨x, y, rfl, h1, h2⟩ := good_pair h
    show (goodB k (starD k x) && goodB l (starD l y)) = true
    rw [good_star k h1, good_star l h2]
    rfl
theorem good_beyond : ∀ (k : RK) {a b : PyData}, goodB k a = true → goodB k b = true → goodB k (beyondD k a b) = true
  | .truth, a, b, h, h' => rfl
  | .count, a, b, h, h' => by
    show cnGood (if PyData.eqv a b = true then .int 0 else E) = true
    split <;> rfl
  | .least, a, b, h, h' => by
    show bGood (if PyData.eqv a b = true then N else E) = true
    split <;> decide +kernel
  | .most, a, b, h, h' => by
    show bGood (if PyData.eqv a b = true then N else E) = true
    split <;> decide +kernel
  | .narrow, a, b, h, h' => rfl
  | .share, a, b, h, h' => good_zero .share
  | .lot n, a, b, h, h' => good_zero (.lot n)
  | .pair k l, a, b, h, h' => by
    obtain ⟨x, y, rfl, h1, h2⟩ := good_pair h
    obtain ⟨z, w, rfl, h3, h4⟩ := good_pair h'
    show (goodB k (beyondD k x z) && goodB l (beyondD l y w)) = true
    rw [good_beyond k h1 h3, good_beyond l h2 h4]
    rfl
/-- all that is one from one on: ONE and a weight sum to ONE -/
theorem top_share {p q : Nat} (h : p ≤ q) (hq : 0 < q) : shareP (shN 1 1) (shN p q) = shN 1 1 := by
  rw [shareP_nat, if_pos (by omega)]
theorem star_rule : ∀ (k : RK) {a : PyData}, goodB k a = true → starD k a = plus k (oneD k) (times k a (starD k a))
  | .truth, a, h => by
    obtain ⟨x, rfl⟩ := good_truth h
    cases x <;> rfl
  | .count, a, h => by
    rcases good_cn h with rfl | ⟨i, rfl, hi⟩
    · rfl
    · show (if (i == 0) = true then PyData.int 1 else E) = countP (.int 1) (countT (.int i) (if (i == 0) = true then .int 1 else E))
      by_cases h0 : i = 0
      · subst h0
        rfl
      · have hb : (i == 0) = false := beq_eq_false_iff_ne.mpr h0
        rw [hb]
        show E = countP (.int 1) (if (i0 (.int i) || i0 E) = true then .int 0 else E)
        have : (i0 (.int i) || i0 E) = false := by
          show ((i == 0) || false) = false
          rw [hb]
          rfl
        rw [this]
        rfl
  | .least, a, h => by
    rcases good_b h with rfl | rfl | ⟨i, rfl⟩
    · rfl
    · rfl
    · show (if 0 ≤ (1 : Int) * i then PyData.int 0 else E) = boundP 1 (.int 0) (boundT (.int i) (if 0 ≤ (1 : Int) * i then .int 0 else E))
      by_cases h0 : 0 ≤ (1 : Int) * i
      · rw [if_pos h0]
        show PyData.int 0 = .int (if (1 : Int) * 0 ≤ 1 * (i + 0) then 0 else i + 0)
        rw [if_pos (by omega)]
      · rw [if_neg h0]
        rfl
  | .most, a, h => by
    rcases good_b h with rfl | rfl | ⟨i, rfl⟩
    · rfl
    · rfl
    · show (if 0 ≤ (-1 : Int) * i then PyData.int 0 else E) = boundP (-1) (.int 0) (boundT (.int i) (if 0 ≤ (-1 : Int) * i then .int 0 else E))
      by_cases h0 : 0 ≤ (-1 : Int) * i
      · rw [if_pos h0]
        show PyData.int 0 = .int (if (-1 : Int) * 0 ≤ -1 * (i + 0) then 0 else i + 0)
        rw [if_pos (by omega)]
      · rw [if_neg h0]
        rfl
  | .narrow, a, h => by
    rcases good_cn h with rfl | ⟨i, rfl, hi⟩ <;> rfl
  | .share, a, h => by
    obtain ⟨p, q, rfl, h1, h2, h3⟩ := share_nat h
    show shN 1 1 = shareP (shN 1 1) (shareT (shN p q) (shN 1 1))
    rw [shareT_nat, top_share]
    · exact lowN_le (by omega)
    · exact lowN_pos (by omega)
  | .lot n, a, h => by
    obtain ⟨i, rfl, hi⟩ := lot_nat h
    show PyData.int (2 ^ n - 1) = lotP (.int (2 ^ n - 1)) (lotT (.int (i : Int)) (.int (2 ^ n - 1)))
    rw [one_lot, and_nat, or_nat, Nat.and_two_pow_sub_one_eq_mod, Nat.mod_eq_of_lt hi]
    have e : (2 ^ n - 1) ||| i = 2 ^ n - 1 := by
      apply Nat.eq_of_testBit_eq
      intro j
      rw [Nat.testBit_or, Nat.testBit_two_pow_sub_one]
      by_cases hj : j < n
      · rw [decide_eq_true hj, Bool.true_or]
      · have : i.testBit j = false := Nat.testBit_lt_two_pow (Nat.lt_of_lt_of_le hi (Nat.pow_le_pow_right (by decide) (by omega)))
        rw [decide_eq_false hj, this]
        rfl
    rw [e]
  | .pair k l, a, h => by
    obtain ⟨x, y, rfl, h1, h2⟩ := good_pair h
    show PyData.tuple [starD k x, starD l y] = .tuple [plus k (oneD k) (times k x (starD k x)), plus l (oneD l) (times l y (starD l y))]
    rw [← star_rule k h1, ← star_rule l h2]
def WSt (k : RK) : Wt k → Wt k := fun a => ⟨starD k a.1, good_star k a.2⟩
theorem WSt_rule (k : RK) (a : Wt k) : WSt k a = (WS k).add (WS k).one ((WS k).mul a (WSt k a)) := Subtype.ext (star_rule k a.2)
/-! ### sizes -/
mutual
/-- all numbers in it are below M -/
def Bd (M : Nat) : PyData → Prop
  | .int i => i.natAbs < M
  | .tuple ds => BdA M ds
  | _ => True
def BdA (M : Nat) : List PyData → Prop
  | [] => True
  | d :: ds => Bd M d ∧ BdA M ds
end
mutual
theorem Bd.up' {M L : Nat} (h : M ≤ L) : ∀ d : PyData, Bd M d → Bd L d
  | .int i, s => Nat.lt_of_lt_of_le s h
  | .tuple ds, s => BdA.up' h ds s
  | .none, _ => True.intro
  | .bool _, _ => True.intro
  | .str _, _ => True.intro
  | .list _, _ => True.intro
  | .dict _, _ => True.intro
theorem BdA.up' {M L : Nat} (h : M ≤ L) : ∀ ds : List PyData, BdA M ds → BdA L ds
  | [], _ => True.intro
  | d :: ds, ⟨s, r⟩ => ⟨Bd.up' h d s, BdA.up' h ds r⟩
end
theorem Bd.up {M L : Nat} {d : PyData} (s : Bd M d) (h : M ≤ L) : Bd L d := Bd.up' h d s
mutual
theorem Sz.bd' {B : Nat} : ∀ d : PyData, Sz B d → Bd (2 ^ B) d
  | .int i, s => s
  | .tuple ds, s => SzA.bd' ds s
  | .none, _ => True.intro
  | .bool _, _ => True.intro
  | .str _, _ => True.intro
  | .list _, _ => True.intro
  | .dict _, _ => True.intro
theorem SzA.bd' {B : Nat} : ∀ ds : List PyData, SzA B ds → BdA (2 ^ B) ds
  | [], _ => True.intro
  | d :: ds, ⟨s, r⟩ => ⟨Sz.bd' d s, SzA.bd' ds r⟩
end
theorem Sz.bd {B : Nat} {d : PyData} (s : Sz B d) : Bd (2 ^ B) d := Sz.bd' d s
mutual
theorem Bd.sz' {B : Nat} : ∀ d : PyData, Bd (2 ^ B) d → Sz B d
  | .int i, s => s
  | .tuple ds, s => BdA.sz' ds s
  | .none, _ => True.intro
  | .bool _, _ => True.intro
  | .str _, _ => True.intro
  | .list _, _ => True.intro
  | .dict _, _ => True.intro
theorem BdA.sz' {B : Nat} : ∀ ds : List PyData, BdA (2 ^ B) ds → SzA B ds
  | [], _ => True.intro
  | d :: ds, ⟨s, r⟩ => ⟨Bd.sz' d s, BdA.sz' ds r⟩
end
theorem Bd.sz {B M : Nat} {d : PyData} (s : Bd M d) (h : M ≤ 2 ^ B) : Sz B d := Bd.sz' d (s.up h)
theorem or_le_add (a b : Nat) : a ||| b ≤ a + b := by
  induction a using Nat.div2Induction generalizing b with
  | ind n ih =>
    by_cases h : n = 0
    · subst h
      rw [Nat.zero_or]
      omega
    · have := ih (by omega) (b / 2)
      have e : (n ||| b) / 2 = n / 2 ||| b / 2 := by
        have := Nat.shiftRight_or_distrib (a := n) (b := b) (i := 1)
        rw [Nat.shiftRight_eq_div_pow, Nat.shiftRight_eq_div_pow, Nat.shiftRight_eq_div_pow, Nat.pow_one] at this
        exact this
      have m : (n ||| b) % 2 ≤ n % 2 + b % 2 := by
        have hm := Nat.or_mod_two_pow (a := n) (b := b) (n := 1)
        rw [show (2 : Nat) ^ 1 = 2 from rfl] at hm
        rw [hm]
        have h1 : n % 2 = 0 ∨ n % 2 = 1 := by omega
        have h2 : b % 2 = 0 ∨ b % 2 = 1 := by omega
        rcases h1 with h1 | h1 <;> rcases h2 with h2 | h2 <;> rw [h1, h2] <;> decide
      omega
theorem bd_plus : ∀ (k : RK) {a b : PyData} {M L : Nat}, goodB k a = true → goodB k b = true → Bd M a → Bd L b → Bd (M + L) (plus k a b)
  | .truth, a, b, M, L, h, h', s, s' => by
    obtain ⟨x, rfl⟩ := good_truth h
    obtain ⟨y, rfl⟩ := good_truth h'
    exact True.intro
  | .count, a, b, M, L, h, h', s, s' => by
    rcases good_cn h with rfl | ⟨i, rfl, hi⟩ <;> rcases good_cn h' with rfl | ⟨j, rfl, hj⟩ <;> first | exact True.intro | skip
    have s : i.natAbs < M := s
    have s' : j.natAbs < L := s'
    show (i + j).natAbs < M + L
    omega
  | .least, a, b, M, L, h, h', s, s' => by
    rcases good_b h with rfl | rfl | ⟨i, rfl⟩ <;> rcases good_b h' with rfl | rfl | ⟨j, rfl⟩ <;> first | exact True.intro | exact Bd.up s (by omega) | exact Bd.up s' (by omega) | skip
    show Bd _ (.int (if 1 * i ≤ 1 * j then i else j))
    split
    · exact Bd.up s (by omega)
    · exact Bd.up s' (by omega)
  | .most, a, b, M, L, h, h', s, s' => by
    rcases good_b h with rfl | rfl | ⟨i, rfl⟩ <;> rcases good_b h' with rfl | rfl | ⟨j, rfl⟩ <;> first | exact True.intro | exact Bd.up s (by omega) | exact Bd.up s' (by omega) | skip
    show Bd _ (.int (if -1 * i ≤ -1 * j then i else j))
    split
    · exact Bd.up s (by omega)
    · exact Bd.up s' (by omega)
  | .narrow, a, b, M, L, h, h', s, s' => by
    rcases good_cn h with rfl | ⟨i, rfl, hi⟩ <;> rcases good_cn h' with rfl | ⟨j, rfl, hj⟩ <;> first | exact True.intro | skip
    show Bd _ (.int (if j ≤ i then i else j))
    split
    · exact Bd.up s (by omega)
    · exact Bd.up s' (by omega)
  | .share, a, b, M, L, h, h', s, s' => by
    obtain ⟨p, q, rfl, h1, h2, h3⟩ := share_nat h
    obtain ⟨r, t, rfl, h4, h5, h6⟩ := share_nat h'
    show Bd _ (shareP _ _)
    rw [shareP_nat]
    split
    · exact Bd.up s (by omega)
    · exact Bd.up s' (by omega)
  | .lot n, a, b, M, L, h, h', s, s' => by
    obtain ⟨i, rfl, hi⟩ := lot_nat h
    obtain ⟨j, rfl, hj⟩ := lot_nat h'
    show Bd _ (lotP _ _)
    rw [or_nat]
    have s : (i : Int).natAbs < M := s
    have s' : (j : Int).natAbs < L := s'
    have := or_le_add i j
    show ((i ||| j : Nat) : Int).natAbs < M + L
    omega
  | .pair k l, a, b, M, L, h, h', s, s' => by
    obtain ⟨x, y, rfl, h1, h2⟩ := good_pair h
    obtain ⟨z, w, rfl, h3, h4⟩ := good_pair h'
    obtain ⟨s1, s2, _⟩ := s
    obtain ⟨s3, s4, _⟩ := s'
    exact ⟨bd_plus k h1 h3 s1 s3, bd_plus l h2 h4 s2 s4, True.intro⟩
theorem le_mul_r {a M L : Nat} (h : a < M) (hL : 0 < L) : a < M * L := Nat.lt_of_lt_of_le h (Nat.le_mul_of_pos_right M hL)
theorem le_mul_l {a M L : Nat} (h : a < L) (hM : 0 < M) : a < M * L := Nat.lt_of_lt_of_le h (Nat.le_mul_of_pos_left L hM)
theorem lt_mul_mul {a b M L : Nat} (h : a < M) (h' : b < L) : a * b < M * L := by
  rcases Nat.eq_zero_or_pos a with rfl | ha
  · rw [Nat.zero_mul]
    exact Nat.mul_pos (by omega) (by omega)
  · exact Nat.lt_of_lt_of_le (Nat.mul_lt_mul_of_pos_left h' ha) (Nat.mul_le_mul_right L (Nat.le_of_lt h))
theorem add_lt_mul {a b M L : Nat} (h : a < M) (h' : b < L) : a + b < M * L := by
  have h1 : (a + 1) * (b + 1) ≤ M * L := Nat.mul_le_mul h h'
  have h2 : (a + 1) * (b + 1) = a * b + a + b + 1 := by rw [Nat.add_mul, Nat.mul_add, Nat.mul_one, Nat.one_mul]; omega
  have : 0 ≤ a * b := Nat.zero_le _
  omega
theorem bd_times : ∀ (k : RK) {a b : PyData} {M L : Nat}, goodB k a = true → goodB k b = true → Bd M a → Bd L b → 0 < M → 0 < L → Bd (M * L) (times k a b)
  | .truth, a, b, M, L, h, h', s, s', hM, hL => by
    obtain ⟨x, rfl⟩ := good_truth h
    obtain ⟨y, rfl⟩ := good_truth h'
    exact True.intro
  | .count, a, b, M, L, h, h', s, s', hM, hL => by
    have z : Bd (M * L) (.int 0) := Nat.mul_pos hM hL
    rcases good_cn h with rfl | ⟨i, rfl, hi⟩ <;> rcases good_cn h' with rfl | ⟨j, rfl, hj⟩
    · exact True.intro
    · show Bd _ (if (i0 E || i0 (.int j)) = true then .int 0 else E)
      split
      · exact z
      · exact True.intro
    · show Bd _ (if (i0 (.int i) || i0 E) = true then .int 0 else E)
      split
      · exact z
      · exact True.intro
    · show (i * j).natAbs < _
      rw [Int.natAbs_mul]
      exact lt_mul_mul s s'
  | .least, a, b, M, L, h, h', s, s', hM, hL => by
    rcases good_b h with rfl | rfl | ⟨i, rfl⟩ <;> rcases good_b h' with rfl | rfl | ⟨j, rfl⟩ <;> first | exact True.intro | skip
    exact Nat.lt_of_le_of_lt (Int.natAbs_add_le i j) (add_lt_mul s s')
  | .most, a, b, M, L, h, h', s, s', hM, hL => by
    rcases good_b h with rfl | rfl | ⟨i, rfl⟩ <;> rcases good_b h' with rfl | rfl | ⟨j, rfl⟩ <;> first | exact True.intro | skip
    exact Nat.lt_of_le_of_lt (Int.natAbs_add_le i j) (add_lt_mul s s')
  | .narrow, a, b, M, L, h, h', s, s', hM, hL => by
    rcases good_cn h with rfl | ⟨i, rfl, hi⟩ <;> rcases good_cn h' with rfl | ⟨j, rfl, hj⟩
    · exact True.intro
    · exact Bd.up s' (Nat.le_mul_of_pos_left L hM)
    · exact Bd.up s (Nat.le_mul_of_pos_right M hL)
    · show Bd _ (.int (if i ≤ j then i else j))
      split
      · exact Bd.up s (Nat.le_mul_of_pos_right M hL)
      · exact Bd.up s' (Nat.le_mul_of_pos_left L hM)
  | .share, a, b, M, L, h, h', s, s', hM, hL => by
    obtain ⟨p, q, rfl, h1, h2, h3⟩ := share_nat h
    obtain ⟨r, t, rfl, h4, h5, h6⟩ := share_nat h'
    show Bd _ (shareT _ _)
    rw [shareT_nat]
    obtain ⟨s1, s2, _⟩ : p < M ∧ q < M ∧ True := s
    obtain ⟨s3, s4, _⟩ : r < L ∧ t < L ∧ True := s'
    refine ⟨?_, ?_, True.intro⟩
    · exact Nat.lt_of_le_of_lt (Nat.div_le_self _ _) (lt_mul_mul s1 s3)
    · exact Nat.lt_of_le_of_lt (Nat.div_le_self _ _) (lt_mul_mul s2 s4)
  | .lot n, a, b, M, L, h, h', s, s', hM, hL => by
    obtain ⟨i, rfl, hi⟩ := lot_nat h
    obtain ⟨j, rfl, hj⟩ := lot_nat h'
    show Bd _ (lotT _ _)
    rw [and_nat]
    have s : i < M := s
    exact Nat.lt_of_le_of_lt Nat.and_le_left (le_mul_r s hL)
  | .pair k l, a, b, M, L, h, h', s, s', hM, hL => by
    obtain ⟨x, y, rfl, h1, h2⟩ := good_pair h
    obtain ⟨z, w, rfl, h3, h4⟩ := good_pair h'
    obtain ⟨s1, s2, _⟩ := s
    obtain ⟨s3, s4, _⟩ := s'
    exact ⟨bd_times k h1 h3 s1 s3 hM hL, bd_times l h2 h4 s2 s4 hM hL, True.intro⟩
theorem bd_int {M : Nat} {i : Int} (h : i.natAbs < M) : Bd M (.int i) := h
theorem bd_zero : ∀ k : RK, Bd 2 (zeroD k)
  | .truth => True.intro
  | .count => bd_int (by decide)
  | .least => True.intro
  | .most => True.intro
  | .narrow => bd_int (by decide)
  | .share => ⟨bd_int (by decide), bd_int (by decide), True.intro⟩
  | .lot _ => bd_int (by decide)
  | .pair a b => ⟨bd_zero a, bd_zero b, True.intro⟩
theorem bd_one : ∀ {k : RK}, k.ok → Bd 4096 (oneD k)
  | .truth, _ => True.intro
  | .count, _ => bd_int (by decide)
  | .least, _ => bd_int (by decide)
  | .most, _ => bd_int (by decide)
  | .narrow, _ => True.intro
  | .share, _ => ⟨bd_int (by decide), bd_int (by decide), True.intro⟩
  | .lot n, ⟨h1, h2⟩ => by
    show ((2 : Int) ^ n - 1).natAbs < 4096
    rw [one_lot, Int.natAbs_natCast]
    have := Nat.pow_le_pow_right (n := 2) (by decide) h2
    have := Nat.two_pow_pos n
    omega
  | .pair a b, ⟨h1, h2⟩ => ⟨bd_one h1, bd_one h2, True.intro⟩
theorem bd_star : ∀ {k : RK} {a : PyData}, k.ok → goodB k a = true → Bd 4096 (starD k a)
  | .truth, a, ok, h => True.intro
  | .count, a, ok, h => by
    rcases good_cn h with rfl | ⟨i, rfl, hi⟩
    · exact True.intro
    · show Bd _ (if (i == 0) = true then .int 1 else E)
      split
      · show (1 : Int).natAbs < 4096
        decide
      · exact True.intro
  | .least, a, ok, h => by
    rcases good_b h with rfl | rfl | ⟨i, rfl⟩
    · exact True.intro
    · show (0 : Int).natAbs < 4096
      decide
    · show Bd _ (if 0 ≤ (1 : Int) * i then .int 0 else E)
      split
      · show (0 : Int).natAbs < 4096
        decide
      · exact True.intro
  | .most, a, ok, h => by
    rcases good_b h with rfl | rfl | ⟨i, rfl⟩
    · exact True.intro
    · show (0 : Int).natAbs < 4096
      decide
    · show Bd _ (if 0 ≤ (-1 : Int) * i then .int 0 else E)
      split
      · show (0 : Int).natAbs < 4096
        decide
      · exact True.intro
  | .narrow, a, ok, h => True.intro
  | .share, a, ok, h => bd_one (k := .share) ok
  | .lot n, a, ok, h => bd_one (k := .lot n) ok
  | .pair k l, a, ok, h => by
    obtain ⟨x, y, rfl, h1, h2⟩ := good_pair h
    exact ⟨bd_star ok.1 h1, bd_star ok.2 h2, True.intro⟩
theorem bd_beyond : ∀ {k : RK} {a b : PyData}, goodB k a = true → goodB k b = true → Bd 2 (beyondD k a b)
  | .truth, a, b, h, h' => True.intro
  | .count, a, b, h, h' => by
    show Bd _ (if PyData.eqv a b = true then .int 0 else E)
    split
    · show (0 : Int).natAbs < 2
      decide
    · exact True.intro
  | .least, a, b, h, h' => by
    show Bd _ (if PyData.eqv a b = true then N else E)
    split <;> exact True.intro
  | .most, a, b, h, h' => by
    show Bd _ (if PyData.eqv a b = true then N else E)
    split <;> exact True.intro
  | .narrow, a, b, h, h' => by
    show (0 : Int).natAbs < 2
    decide
  | .share, a, b, h, h' => bd_zero .share
  | .lot n, a, b, h, h' => bd_zero (.lot n)
  | .pair k l, a, b, h, h' => by
    obtain ⟨x, y, rfl, h1, h2⟩ := good_pair h
    obtain ⟨z, w, rfl, h3, h4⟩ := good_pair h'
    exact ⟨bd_beyond h1 h3, bd_beyond h2 h4, True.intro⟩
/-- nothing is beyond what stays -/
theorem beyond_same : ∀ {k : RK} {a : PyData}, goodB k a = true → beyondD k a a = zeroD k
  | .truth, a, h => rfl
  | .count, a, h => by
    rcases good_cn h with rfl | ⟨i, rfl, hi⟩
    · rfl
    · show (if (i == i) = true then PyData.int 0 else E) = _
      rw [beq_self_eq_true]
      rfl
  | .least, a, h => by
    rcases good_b h with rfl | rfl | ⟨i, rfl⟩
    · rfl
    · rfl
    · show (if (i == i) = true then N else E) = _
      rw [beq_self_eq_true]
      rfl
  | .most, a, h => by
    rcases good_b h with rfl | rfl | ⟨i, rfl⟩
    · rfl
    · rfl
    · show (if (i == i) = true then N else E) = _
      rw [beq_self_eq_true]
      rfl
  | .narrow, a, h => rfl
  | .share, a, h => rfl
  | .lot n, a, h => rfl
  | .pair k l, a, h => by
    obtain ⟨x, y, rfl, h1, h2⟩ := good_pair h
    show PyData.tuple [beyondD k x x, beyondD l y y] = _
    rw [beyond_same h1, beyond_same h2]
    rfl
end D1
end
section
set_option Elab.async false
set_option linter.all false
set_option maxRecDepth 100000
set_option maxHeartbeats 4000000
/-! R9: sums, stars, what is beyond: all kinds -/
namespace D1
open PySem L2 Evl RZ ClX PySem.VX
theorem countPE {a b : PyData} (h : (isE a || isE b) = true) (ha : cnGood a = true) (hb : cnGood b = true) : countP a b = E := by
  rcases good_cn ha with rfl | ⟨i, rfl, hi⟩ <;> rcases good_cn hb with rfl | ⟨j, rfl, hj⟩ <;> first | rfl | cases h
theorem narrPE {a b : PyData} (h : (isE a || isE b) = true) (ha : cnGood a = true) (hb : cnGood b = true) : narrP a b = E := by
  rcases good_cn ha with rfl | ⟨i, rfl, hi⟩ <;> rcases good_cn hb with rfl | ⟨j, rfl, hj⟩ <;> first | rfl | cases h
theorem boundPE {s : Int} {a b : PyData} (h : (isE a || isE b) = true) (ha : bGood a = true) (hb : bGood b = true) : boundP s a b = E := by
  rcases good_b ha with rfl | rfl | ⟨i, rfl⟩ <;> rcases good_b hb with rfl | rfl | ⟨j, rfl⟩ <;> first | rfl | cases h
theorem boundPN {s : Int} {a b : PyData} (h : (isE a || isE b) = false) (h2 : (isN a || isN b) = true) (ha : bGood a = true) (hb : bGood b = true) : boundP s a b = if isN b = true then a else b := by
  rcases good_b ha with rfl | rfl | ⟨i, rfl⟩ <;> rcases good_b hb with rfl | rfl | ⟨j, rfl⟩ <;> first | rfl | (cases h; done) | cases h2
def signOf : RK → Int
  | .most => -1
  | _ => 1
theorem plus_bo {k : RK} (h : k = .least ∨ k = .most) : plus k = boundP (signOf k) := by rcases h with rfl | rfl <;> rfl
theorem sign_at {C : KC} {H : Hp} {k : RK} {v : V} (h : KindAt C H k v) (e : k = .least ∨ k = .most) : ∃ (a dx : Addr) (fs : List (Str × V)), v = .ref a ∧ H a = some (.ins C.bo dx fs) ∧ fs.lookup ("_sign" : Str) = some (.int (signOf k)) := by
  rcases e with rfl | rfl
  · obtain ⟨a, dx, fs, h1, h2, h3, _, h4⟩ := h
    exact ⟨a, dx, fs, h1, h2, h4⟩
  · obtain ⟨a, dx, fs, h1, h2, h3, _, h4⟩ := h
    exact ⟨a, dx, fs, h1, h2, h4⟩
theorem ev_isN {σ : L2.St} {H : Hp} {te : TE} {v : V} (h : Ev te σ H v) : Ev (tOp (fun x y H Q => y = .non ∧ Q (.bl (decide (x = .non))) H) te (tC .non)) σ H (.bl (decide (v = .non))) :=
  ev_op h ev_c fun H1 e1 Q q => ⟨rfl, q H1 (Ex.refl H1)⟩
theorem DtAt.non_iff {H : Hp} {v : V} {d : PyData} (h : DtAt H v d) (hd : d ≠ .none) : decide (v = .non) = false := by
  cases h <;> first | exact absurd rfl hd | rfl
/-! ### the promises -/
def spPlus (C : KC) (d : Nat) (c : Addr) : Sp := fun vs H Q _ => ∃ (s : V) (k : RK) (x y : V) (dx dy : PyData) (B : Nat), vs = [s, x, y] ∧ KindAt C H k s ∧ C.cls k = c ∧ k.depth < d ∧ DtAt H x dx ∧ DtAt H y dy ∧ goodB k dx = true ∧ goodB k dy = true ∧ Sz B dx ∧ Sz B dy ∧ B ≤ 4000 ∧ ∀ r H', Ex H H' → DtAt H' r (plus k dx dy) → Q r H'
def spResting (C : KC) (c : Addr) : Sp := fun vs H Q _ => ∃ (s : V) (k : RK) (x : V) (dx : PyData), vs = [s, x] ∧ KindAt C H k s ∧ C.cls k = c ∧ DtAt H x dx ∧ goodB k dx = true ∧ ((isE (starD k dx) = false ∨ isE dx = true ∨ k = .narrow) → ∀ r H', Ex H H' → DtAt H' r (starD k dx) → Q r H') ∧ (starD k dx = E → isE dx = false → ∀ H', Ex H H' → Q .non H')
def spStar (C : KC) (d : Nat) (c : Addr) : Sp := fun vs H Q _ => ∃ (s : V) (k : RK) (x : V) (dx : PyData), vs = [s, x] ∧ KindAt C H k s ∧ C.cls k = c ∧ k.depth < d ∧ DtAt H x dx ∧ goodB k dx = true ∧ ∀ r H', Ex H H' → DtAt H' r (starD k dx) → Q r H'
def spBeyond (C : KC) (d : Nat) (c : Addr) : Sp := fun vs H Q _ => ∃ (s : V) (k : RK) (x y : V) (dx dy : PyData), vs = [s, x, y] ∧ KindAt C H k s ∧ C.cls k = c ∧ k.depth < d ∧ DtAt H x dx ∧ DtAt H y dy ∧ goodB k dx = true ∧ goodB k dy = true ∧ ∀ r H', Ex H H' → DtAt H' r (beyondD k dx dy) → Q r H'
section
variable {P : Program} {w : World} {K : PySem.W.Frag} {mg : Str → Option Value} {base : Heap}
abbrev s_Count_plus : Stmt := meth 27 1
theorem sc_Count_plus : FnScope ["self", "a", "b"] ["self", "a", "b"] (defScope s_Count_plus) := ⟨rfl, rfl, rfl, by decide +kernel, rfl, by decide +kernel, by decide +kernel⟩
theorem ok_Count_plus {f : Addr} {fd : FuncData} (F : FnM K "Count" "plus" s_Count_plus f fd) {C : KC} (nd : C.all.Nodup) (d : Nat) : FnOk P w K mg base (CX0) 1 f fd ["self", "a", "b"] (spPlus C d C.co) := by
  refine F.ok (CX := CX0) sc_Count_plus (fun vs H Q E h => ?_) (fun cdv A outer s H vs Q E hr h => ?_)
  · obtain ⟨s, k, x, y, dx, dy, B, rfl, _⟩ := h
    rfl
  · obtain ⟨s, k, x, y, dx, dy, B, rfl, hK, hc, hd, hx, hy, gx, gy, sx, sy, hB, q⟩ := h
    have hu := hu_of hr
    have hu64 := hr.units
    refine ⟨_, PSs.nox (pss_cons (ps_if (PW.pt (pw_or (pt_cmpR (op_eqD hu64) (pv 1) pe_str (nomark _)) (pw_or1 (pt_cmpR (op_eqD hu64) (pv 2) pe_str (nomark _))))) (pss_one (ps_ret pe_str)) pss_nil)
      (pss_one (ps_ret (pe_op op_add (pv 1) (pv 2))))), ?_⟩
    have hi := KC.idx_of nd (i := 1) rfl hc
    have e : k = .count := by cases k <;> first | rfl | cases hi
    subst e
    have wx := fl_cn gx
    have wy := fl_cn gy
    refine q_when (b := isE dx || isE dy) (et_or (et_test (ev_eqE (ev_var rfl) hx wx)) (fun _ => et_test (ev_eqE (ev_var rfl) hy wy))) (fun hb2 H2 e2 => ?_) (fun hb2 H2 e2 => ?_)
    · exact s_ret ev_c fun H3 e3 => q _ H3 (e2.trans e3) (by show DtAt _ _ (countP dx dy); rw [countPE hb2 gx gy]; exact .str _)
    obtain ⟨i, rfl, i0'⟩ := cn_int gx (or_no hb2).1
    obtain ⟨j, rfl, j0'⟩ := cn_int gy (or_no hb2).2
    obtain rfl := hx.int_inv
    obtain rfl := hy.int_inv
    exact s_ret (ev_op (ev_var rfl) (ev_var rfl) rv_I0) fun H3 e3 => q _ H3 (e2.trans e3) (.int _)
abbrev s_Bounded_plus : Stmt := meth 28 2
theorem sc_Bounded_plus : FnScope ["self", "a", "b"] ["self", "a", "b"] (defScope s_Bounded_plus) := ⟨rfl, rfl, rfl, by decide +kernel, rfl, by decide +kernel, by decide +kernel⟩
theorem ok_Bounded_plus {f : Addr} {fd : FuncData} (F : FnM K "Bounded" "plus" s_Bounded_plus f fd) {C : KC} (T : ClsK K C) (d : Nat) : FnOk P w K mg base (CX0) 1 f fd ["self", "a", "b"] (spPlus C d C.bo) := by
  refine F.ok (CX := CX0) sc_Bounded_plus (fun vs H Q E h => ?_) (fun cdv A outer s H vs Q E hr h => ?_)
  · obtain ⟨s, k, x, y, dx, dy, B, rfl, _⟩ := h
    rfl
  · obtain ⟨s, k, x, y, dx, dy, B, rfl, hK, hc, hd, hx, hy, gx, gy, sx, sy, hB, q⟩ := h
    have hu := hu_of hr
    have hu64 := hr.units
    refine ⟨_, PSs.nox (pss_cons (ps_if (PW.pt (pw_or (pt_cmpR (op_eqD hu64) (pv 1) pe_str (nomark _)) (pw_or1 (pt_cmpR (op_eqD hu64) (pv 2) pe_str (nomark _))))) (pss_one (ps_ret pe_str)) pss_nil)
      (pss_cons (ps_if (PW.pt (pw_or (pt_cmpR (op_eqD hu64) (pv 1) pe_str (nomark _)) (pw_or1 (pt_cmpR (op_eqD hu64) (pv 2) pe_str (nomark _))))) (pss_one (ps_ret (pe_ifExp (pt_cmpR (op_eqD hu64) (pv 2) pe_str (nomark _)) (pv 1) (pv 2)))) pss_nil)
      (pss_one (ps_ret (pe_ifExp (pt_cmpR op_le (pe_op op_mul (pe_fld (pv 0) rfl) (pv 1)) (pe_op op_mul (pe_fld (pv 0) rfl) (pv 2)) (nomark _)) (pv 1) (pv 2)))))), ?_⟩
    have hi := KC.idx_of T.nd (i := 2) rfl hc
    have ok := T.cls hc
    have e : (k = .least ∨ k = .most) := by cases k <;> first | exact .inl rfl | exact .inr rfl | cases hi
    have gx : bGood dx = true := by rcases e with rfl | rfl <;> exact gx
    have gy : bGood dy = true := by rcases e with rfl | rfl <;> exact gy
    rw [plus_bo e] at q
    obtain ⟨a, da, fs, rfl, ha, hsg⟩ := sign_at hK e
    have sg : signOf k = 1 ∨ signOf k = -1 := by rcases e with rfl | rfl <;> first | exact .inl rfl | exact .inr rfl
    generalize signOf k = sn at *
    have wx := fl_b gx
    have wy := fl_b gy
    refine q_when (b := isE dx || isE dy) (et_or (et_test (ev_eqE (ev_var rfl) hx wx)) (fun _ => et_test (ev_eqE (ev_var rfl) hy wy))) (fun hb H1 e1 => ?_) (fun hb H1 e1 => ?_)
    · exact s_ret ev_c fun H2 e2 => q _ H2 (e1.trans e2) (by rw [boundPE hb gx gy]; exact .str _)
    refine q_when (b := isN dx || isN dy) (et_or (et_test (ev_eqN (ev_var rfl) (hx.ex e1) wx)) (fun _ => et_test (ev_eqN (ev_var rfl) (hy.ex e1) wy))) (fun hb2 H2 e2 => ?_) (fun hb2 H2 e2 => ?_)
    · refine r_if (b := isN dy) (et_test (ev_eqN (ev_var rfl) (hy.ex (e1.trans e2)) wy)) (fun h2 H3 e3 => ?_) (fun h2 H3 e3 => ?_)
      · exact s_ret (ev_var rfl) fun H4 e4 => q _ H4 (((e1.trans e2).trans e3).trans e4) (by rw [boundPN hb hb2 gx gy, if_pos h2]; exact hx.ex (((e1.trans e2).trans e3).trans e4))
      · exact s_ret (ev_var rfl) fun H4 e4 => q _ H4 (((e1.trans e2).trans e3).trans e4) (by rw [boundPN hb hb2 gx gy, if_neg (by rw [h2]; decide)]; exact hy.ex (((e1.trans e2).trans e3).trans e4))
    obtain ⟨i, rfl⟩ := b_int gx (or_no hb).1 (or_no hb2).1
    obtain ⟨j, rfl⟩ := b_int gy (or_no hb).2 (or_no hb2).2
    obtain rfl := hx.int_inv
    obtain rfl := hy.int_inv
    have e12 := e1.trans e2
    have mb : ∀ {z : Int}, (-(2 ^ 64) < sn ∧ sn < 2 ^ 64) ∨ (-(2 ^ 64) < z ∧ z < 2 ^ 64) := fun {z} => .inl (by rcases sg with h | h <;> rw [h] <;> decide)
    refine r_if (b := decide (sn * i ≤ sn * j)) (et_test (ev_op (ev_op (ev_fldK (ev_var rfl) (e12 _ _ ha) ok (by decide) hsg) (ev_var rfl) (rv_I mb)) (ev_op (ev_fldK (ev_var rfl) (e12 _ _ ha) ok (by decide) hsg) (ev_var rfl) (rv_I mb)) rv_I0)) (fun h2 H3 e3 => ?_) (fun h2 H3 e3 => ?_)
    · exact s_ret (ev_var rfl) fun H4 e4 => q _ H4 ((e12.trans e3).trans e4) (by show DtAt _ _ (.int (if sn * i ≤ sn * j then i else j)); rw [if_pos (of_decide_eq_true h2)]; exact .int _)
    · exact s_ret (ev_var rfl) fun H4 e4 => q _ H4 ((e12.trans e3).trans e4) (by show DtAt _ _ (.int (if sn * i ≤ sn * j then i else j)); rw [if_neg (of_decide_eq_false h2)]; exact .int _)
abbrev s_Narrow_plus : Stmt := meth 29 2
theorem sc_Narrow_plus : FnScope ["self", "a", "b"] ["self", "a", "b"] (defScope s_Narrow_plus) := ⟨rfl, rfl, rfl, by decide +kernel, rfl, by decide +kernel, by decide +kernel⟩
theorem ok_Narrow_plus {f : Addr} {fd : FuncData} (F : FnM K "Narrow" "plus" s_Narrow_plus f fd) {C : KC} (nd : C.all.Nodup) (d : Nat) : FnOk P w K mg base (CX0) 1 f fd ["self", "a", "b"] (spPlus C d C.na) := by
  refine F.ok (CX := CX0) sc_Narrow_plus (fun vs H Q E h => ?_) (fun cdv A outer s H vs Q E hr h => ?_)
  · obtain ⟨s, k, x, y, dx, dy, B, rfl, _⟩ := h
    rfl
  · obtain ⟨s, k, x, y, dx, dy, B, rfl, hK, hc, hd, hx, hy, gx, gy, sx, sy, hB, q⟩ := h
    have hu := hu_of hr
    have hu64 := hr.units
    refine ⟨_, PSs.nox (pss_cons (ps_if (PW.pt (pw_or (pt_cmpR (op_eqD hu64) (pv 1) pe_str (nomark _)) (pw_or1 (pt_cmpR (op_eqD hu64) (pv 2) pe_str (nomark _))))) (pss_one (ps_ret pe_str)) pss_nil)
      (pss_one (ps_ret (pe_ifExp (pt_cmpR op_ge (pv 1) (pv 2) (nomark _)) (pv 1) (pv 2))))), ?_⟩
    have hi := KC.idx_of nd (i := 3) rfl hc
    have e : k = .narrow := by cases k <;> first | rfl | cases hi
    subst e
    have wx := fl_cn gx
    have wy := fl_cn gy
    refine q_when (b := isE dx || isE dy) (et_or (et_test (ev_eqE (ev_var rfl) hx wx)) (fun _ => et_test (ev_eqE (ev_var rfl) hy wy))) (fun hb H1 e1 => ?_) (fun hb H1 e1 => ?_)
    · exact s_ret ev_c fun H2 e2 => q _ H2 (e1.trans e2) (by show DtAt _ _ (narrP dx dy); rw [narrPE hb gx gy]; exact .str _)
    obtain ⟨i, rfl, i0'⟩ := cn_int gx (or_no hb).1
    obtain ⟨j, rfl, j0'⟩ := cn_int gy (or_no hb).2
    obtain rfl := hx.int_inv
    obtain rfl := hy.int_inv
    refine r_if (b := decide (j ≤ i)) (et_test (ev_op (ev_var rfl) (ev_var rfl) rv_I0)) (fun h2 H2 e2 => ?_) (fun h2 H2 e2 => ?_)
    · exact s_ret (ev_var rfl) fun H3 e3 => q _ H3 ((e1.trans e2).trans e3) (by show DtAt _ _ (.int (if j ≤ i then i else j)); rw [if_pos (of_decide_eq_true h2)]; exact .int _)
    · exact s_ret (ev_var rfl) fun H3 e3 => q _ H3 ((e1.trans e2).trans e3) (by show DtAt _ _ (.int (if j ≤ i then i else j)); rw [if_neg (of_decide_eq_false h2)]; exact .int _)
abbrev s_Truth_plus : Stmt := meth 41 3
theorem sc_Truth_plus : FnScope ["self", "a", "b"] ["self", "a", "b"] (defScope s_Truth_plus) := ⟨rfl, rfl, rfl, by decide +kernel, rfl, by decide +kernel, by decide +kernel⟩
theorem ok_Truth_plus {f : Addr} {fd : FuncData} (F : FnM K "Truth" "plus" s_Truth_plus f fd) {C : KC} (nd : C.all.Nodup) (d : Nat) : FnOk P w K mg base (CX0) 1 f fd ["self", "a", "b"] (spPlus C d C.tr) := by
  refine F.ok (CX := CX0) sc_Truth_plus (fun vs H Q E h => ?_) (fun cdv A outer s H vs Q E hr h => ?_)
  · obtain ⟨s, k, x, y, dx, dy, B, rfl, _⟩ := h
    rfl
  · obtain ⟨s, k, x, y, dx, dy, B, rfl, hK, hc, hd, hx, hy, gx, gy, sx, sy, hB, q⟩ := h
    have hu := hu_of hr
    have hu64 := hr.units
    refine ⟨_, PSs.nox (pss_one (ps_ret (pe_or (pv 1) (pe_one (pv 2))))), ?_⟩
    have hi := KC.idx_of nd (i := 0) rfl hc
    have e : k = .truth := by cases k <;> first | rfl | cases hi
    subst e
    obtain ⟨a, rfl⟩ := good_truth gx
    obtain ⟨b, rfl⟩ := good_truth gy
    obtain rfl := hx.bl_inv
    obtain rfl := hy.bl_inv
    exact s_ret (D := { nx := fun _ H' => Q .non H', rt := Q }) (ev_orV (a := a) (b := b) (ev_var rfl) fun _ => ev_var rfl) fun H1 e1 => q _ H1 e1 (.bl _)
abbrev s_Lot_plus : Stmt := meth 43 3
theorem sc_Lot_plus : FnScope ["self", "a", "b"] ["self", "a", "b"] (defScope s_Lot_plus) := ⟨rfl, rfl, rfl, by decide +kernel, rfl, by decide +kernel, by decide +kernel⟩
theorem ok_Lot_plus {f : Addr} {fd : FuncData} (F : FnM K "Lot" "plus" s_Lot_plus f fd) {C : KC} (nd : C.all.Nodup) (d : Nat) : FnOk P w K mg base (CX0) 1 f fd ["self", "a", "b"] (spPlus C d C.lo) := by
  refine F.ok (CX := CX0) sc_Lot_plus (fun vs H Q E h => ?_) (fun cdv A outer s H vs Q E hr h => ?_)
  · obtain ⟨s, k, x, y, dx, dy, B, rfl, _⟩ := h
    rfl
  · obtain ⟨s, k, x, y, dx, dy, B, rfl, hK, hc, hd, hx, hy, gx, gy, sx, sy, hB, q⟩ := h
    have hu := hu_of hr
    have hu64 := hr.units
    refine ⟨_, PSs.nox (pss_one (ps_ret (pe_op op_or (pv 1) (pv 2)))), ?_⟩
    have hi := KC.idx_of nd (i := 5) rfl hc
    obtain ⟨n, rfl⟩ : ∃ n, k = .lot n := by cases k <;> first | exact ⟨_, rfl⟩ | cases hi
    obtain ⟨i, rfl, h1, h2⟩ := good_lot gx
    obtain ⟨j, rfl, h3, h4⟩ := good_lot gy
    obtain rfl := hx.int_inv
    obtain rfl := hy.int_inv
    exact s_ret (D := { nx := fun _ H' => Q .non H', rt := Q }) (ev_op (ev_var rfl) (ev_var rfl) rv_I0) fun H1 e1 => q _ H1 e1 (.int _)
abbrev s_Share_plus : Stmt := meth 42 2
theorem sc_Share_plus : FnScope ["self", "a", "b"] ["self", "a", "b"] (defScope s_Share_plus) := ⟨rfl, rfl, rfl, by decide +kernel, rfl, by decide +kernel, by decide +kernel⟩
theorem ok_Share_plus {f : Addr} {fd : FuncData} (F : FnM K "Share" "plus" s_Share_plus f fd) {C : KC} (nd : C.all.Nodup) (d : Nat) : FnOk P w K mg base (CX0) 1 f fd ["self", "a", "b"] (spPlus C d C.sh) := by
  refine F.ok (CX := CX0) sc_Share_plus (fun vs H Q E h => ?_) (fun cdv A outer s H vs Q E hr h => ?_)
  · obtain ⟨s, k, x, y, dx, dy, B, rfl, _⟩ := h
    rfl
  · obtain ⟨s, k, x, y, dx, dy, B, rfl, hK, hc, hd, hx, hy, gx, gy, sx, sy, hB, q⟩ := h
    have hu := hu_of hr
    have hu64 := hr.units
    refine ⟨_, PSs.nox (pss_one (ps_ret (pe_ifExp (pt_cmpR op_ge (pe_op op_mulW (pe_ix ix_tup (pv 1) pe_int (fun _ _ => rfl)) (pe_ix ix_tup (pv 2) pe_int (fun _ _ => rfl))) (pe_op op_mulW (pe_ix ix_tup (pv 2) pe_int (fun _ _ => rfl)) (pe_ix ix_tup (pv 1) pe_int (fun _ _ => rfl))) (nomark _)) (pv 1) (pv 2)))), ?_⟩
    have hi := KC.idx_of nd (i := 4) rfl hc
    have e : k = .share := by cases k <;> first | rfl | cases hi
    subst e
    obtain ⟨p, r, rfl, h1, h2, h3⟩ := share_nat gx
    obtain ⟨t, u, rfl, h4, h5, h6⟩ := share_nat gy
    obtain ⟨ax, _, _, rfl, hax, k1, k2⟩ := id hx.two
    obtain ⟨ay, _, _, rfl, hay, k3, k4⟩ := id hy.two
    obtain rfl := k1.int_inv
    obtain rfl := k2.int_inv
    obtain rfl := k3.int_inv
    obtain rfl := k4.int_inv
    obtain ⟨s1, s2, _⟩ : p < 2 ^ B ∧ r < 2 ^ B ∧ True := sx
    obtain ⟨s3, s4, _⟩ : t < 2 ^ B ∧ u < 2 ^ B ∧ True := sy
    have up : ∀ {x : Nat}, x < 2 ^ B → ((x : Int)).natAbs < 2 ^ (B + 1) := fun {x} h => by
      rw [Int.natAbs_natCast]
      exact Nat.lt_of_lt_of_le h (Nat.pow_le_pow_right (by decide) (by omega))
    refine r_if (b := decide ((t : Int) * (r : Int) ≤ (p : Int) * (u : Int))) (et_test (ev_op (ev_op (ev_op (ev_var rfl) ev_c (rv_ixT (.inl (.inl hax)) rfl)) (ev_op (ev_var rfl) ev_c (rv_ixT (.inl (.inl hay)) rfl)) (rv_I (wide_mul (up s1) (up s4) (by omega) (by omega) (by omega)))) (ev_op (ev_op (ev_var rfl) ev_c (rv_ixT (.inl (.inl hay)) rfl)) (ev_op (ev_var rfl) ev_c (rv_ixT (.inl (.inl hax)) rfl)) (rv_I (wide_mul (up s3) (up s2) (by omega) (by omega) (by omega)))) rv_I0)) (fun h2 H2 e2 => ?_) (fun h2 H2 e2 => ?_)
    · exact s_ret (ev_var rfl) fun H3 e3 => q _ H3 (e2.trans e3) (by show DtAt _ _ (if (t : Int) * (r : Int) ≤ (p : Int) * (u : Int) then shN p r else shN t u); rw [if_pos (of_decide_eq_true h2)]; exact hx.ex (e2.trans e3))
    · exact s_ret (ev_var rfl) fun H3 e3 => q _ H3 (e2.trans e3) (by show DtAt _ _ (if (t : Int) * (r : Int) ≤ (p : Int) * (u : Int) then shN p r else shN t u); rw [if_neg (of_decide_eq_false h2)]; exact hy.ex (e2.trans e3))
abbrev s_Pair_plus : Stmt := meth 35 4
theorem sc_Pair_plus : FnScope ["self", "a", "b"] ["self", "a", "b"] (defScope s_Pair_plus) := ⟨rfl, rfl, rfl, by decide +kernel, rfl, by decide +kernel, by decide +kernel⟩
theorem ok_Pair_plus {f : Addr} {fd : FuncData} (F : FnM K "Pair" "plus" s_Pair_plus f fd) {C : KC} (T : ClsK K C) {d : Nat} (HA_plus : ∀ e sp, SK C (spPlus C d) e = some sp → HeldM P w K mg base (d + 1) "plus" e sp) : FnOk P w K mg base (CX0) (d + 2) f fd ["self", "a", "b"] (spPlus C (d + 1) C.pa) := by
  refine F.ok (CX := CX0) sc_Pair_plus (fun vs H Q E h => ?_) (fun cdv A outer s H vs Q E hr h => ?_)
  · obtain ⟨s, k, x, y, dx, dy, B, rfl, _⟩ := h
    rfl
  · obtain ⟨s, k, x, y, dx, dy, B, rfl, hK, hc, hd, hx, hy, gx, gy, sx, sy, hB, q⟩ := h
    have hu := hu_of hr
    have hu64 := hr.units
    have hr_plus := hr.mono (Nat.le_refl _)
    refine ⟨_, PSs.nox (pss_one (ps_ret (pe_tup (pa_cons (pe_methA (S := SK C (spPlus C d)) HA_plus (pe_fld (pv 0) rfl) hr_plus (pa_cons (pe_ix ix_tup (pv 1) pe_int (fun _ _ => rfl)) (pa_cons (pe_ix ix_tup (pv 2) pe_int (fun _ _ => rfl)) pa_nil))) (pa_cons (pe_methA (S := SK C (spPlus C d)) HA_plus (pe_fld (pv 0) rfl) hr_plus (pa_cons (pe_ix ix_tup (pv 1) pe_int (fun _ _ => rfl)) (pa_cons (pe_ix ix_tup (pv 2) pe_int (fun _ _ => rfl)) pa_nil))) pa_nil))))), ?_⟩
    obtain ⟨kl, kr, rfl⟩ := pair_kind T.nd hc
    have ok := T.cls (k := .pair kl kr) rfl
    obtain ⟨x1, x2, rfl, g1, g2⟩ := good_pair gx
    obtain ⟨y1, y2, rfl, g3, g4⟩ := good_pair gy
    obtain ⟨s1, s2, _⟩ := sx
    obtain ⟨s3, s4, _⟩ := sy
    obtain ⟨ax, u1, u2, rfl, hax, v1, v2⟩ := id hx.two
    obtain ⟨ay, t1, t2, rfl, hay, v3, v4⟩ := id hy.two
    obtain ⟨a, da, fs, fl, fr, rfl, ha, com, l1, l2, k1, k2⟩ := id hK
    obtain ⟨la, ld, lf, rfl, hla, lcom⟩ := id k1.com
    obtain ⟨ra, rd, rf, rfl, hra, rcom⟩ := id k2.com
    refine ⟨_, rfl, a, _, da, fs, _, rfl, ha, ok.cls, ok.no _ (by decide), l1, la, _, ld, lf, _, rfl, SK.at kl, hla, lcom.no _ (by decide), ?_⟩
    refine ⟨_, rfl, ax, _, _, _, rfl, rfl, .inl (.inl hax), rfl, _, rfl, ay, _, _, _, rfl, rfl, .inl (.inl hay), rfl, .ref la, kl, _, _, _, _, B, rfl, k1, rfl, depth_l hd, v1, v3, g1, g3, s1, s3, hB, fun r1 H1 e1 hr1 => ?_⟩
    refine ⟨_, rfl, a, _, da, fs, _, rfl, e1 _ _ ha, ok.cls, ok.no _ (by decide), l2, ra, _, rd, rf, _, rfl, SK.at kr, e1 _ _ hra, rcom.no _ (by decide), ?_⟩
    refine ⟨_, rfl, ax, _, _, _, rfl, rfl, .inl (.inl (e1 _ _ hax)), rfl, _, rfl, ay, _, _, _, rfl, rfl, .inl (.inl (e1 _ _ hay)), rfl, .ref ra, kr, _, _, _, _, B, rfl, k2.ex e1, rfl, depth_r hd, v2.ex e1, v4.ex e1, g2, g4, s2, s4, hB, fun r2 H2 e2 hr2 => ⟨by show 2 ≤ sizeLine; decide, fun l hl => ?_⟩⟩
    exact q _ _ ((e1.trans e2).trans (Ex.new hl)) (.new hl (.cons (hr1.ex e2) (.cons hr2 .nil)))
abbrev s_Count_resting : Stmt := meth 27 3
theorem sc_Count_resting : FnScope ["self", "a"] ["self", "a"] (defScope s_Count_resting) := ⟨rfl, rfl, rfl, by decide +kernel, rfl, by decide +kernel, by decide +kernel⟩
theorem ok_Count_resting {f : Addr} {fd : FuncData} (F : FnM K "Count" "resting" s_Count_resting f fd) {C : KC} (nd : C.all.Nodup) : FnOk P w K mg base (CX0) 1 f fd ["self", "a"] (spResting C C.co) := by
  refine F.ok (CX := CX0) sc_Count_resting (fun vs H Q E h => ?_) (fun cdv A outer s H vs Q E hr h => ?_)
  · obtain ⟨s, k, x, dx, rfl, _⟩ := h
    rfl
  · obtain ⟨s, k, x, dx, rfl, hK, hc, hx, gx, q1, q2⟩ := h
    have hu := hu_of hr
    have hu64 := hr.units
    refine ⟨_, PSs.nox (pss_cons (ps_if (pt_cmpR (op_eqD hu64) (pv 1) pe_int (nomark _)) (pss_one (ps_ret pe_int)) pss_nil)
      (pss_one (ps_ret (pe_ifExp (pt_cmpR (op_eqD hu64) (pv 1) pe_str (nomark _)) pe_str pe_non)))), ?_⟩
    have hi := KC.idx_of nd (i := 1) rfl hc
    have e : k = .count := by cases k <;> first | rfl | cases hi
    subst e
    have wx := fl_cn gx
    refine q_when (b := i0 dx) (et_test (ev_eq0 (ev_var rfl) hx wx)) (fun hb H1 e1 => ?_) (fun hb H1 e1 => ?_)
    · obtain rfl : dx = .int 0 := by
        rcases good_cn gx with rfl | ⟨i, rfl, hi⟩
        · cases hb
        · have hb : (i == 0) = true := hb
          rw [eq_of_beq hb]
      exact s_ret ev_c fun H2 e2 => q1 (.inl (by decide +kernel)) _ H2 (e1.trans e2) (.int 1)
    refine r_if (b := isE dx) (et_test (ev_eqE (ev_var rfl) (hx.ex e1) wx)) (fun h2 H2 e2 => ?_) (fun h2 H2 e2 => ?_)
    · obtain rfl : dx = D1.E := by
        rcases good_cn gx with rfl | ⟨i, rfl, hi⟩
        · rfl
        · cases h2
      exact s_ret ev_c fun H3 e3 => q1 (.inr (.inl h2)) _ H3 ((e1.trans e2).trans e3) (.str _)
    · refine s_ret ev_c fun H3 e3 => q2 ?_ h2 H3 ((e1.trans e2).trans e3)
      obtain ⟨i, rfl, hi0⟩ := cn_int gx h2
      show (if (i == 0) = true then PyData.int 1 else D1.E) = D1.E
      rw [if_neg (by rw [show (i == 0) = false from hb]; decide)]
abbrev s_Bounded_resting : Stmt := meth 28 4
theorem sc_Bounded_resting : FnScope ["self", "a"] ["self", "a"] (defScope s_Bounded_resting) := ⟨rfl, rfl, rfl, by decide +kernel, rfl, by decide +kernel, by decide +kernel⟩
theorem ok_Bounded_resting {f : Addr} {fd : FuncData} (F : FnM K "Bounded" "resting" s_Bounded_resting f fd) {C : KC} (T : ClsK K C) : FnOk P w K mg base (CX0) 1 f fd ["self", "a"] (spResting C C.bo) := by
  refine F.ok (CX := CX0) sc_Bounded_resting (fun vs H Q E h => ?_) (fun cdv A outer s H vs Q E hr h => ?_)
  · obtain ⟨s, k, x, dx, rfl, _⟩ := h
    rfl
  · obtain ⟨s, k, x, dx, rfl, hK, hc, hx, gx, q1, q2⟩ := h
    have hu := hu_of hr
    have hu64 := hr.units
    refine ⟨_, PSs.nox (pss_cons (ps_if (pt_cmpR (op_eqD hu64) (pv 1) pe_str (nomark _)) (pss_one (ps_ret pe_str)) pss_nil)
      (pss_one (ps_ret (pe_ifExp (PW.pt (pw_or (pt_cmpR (op_eqD hu64) (pv 1) pe_str (nomark _)) (pw_or1 (pt_cmpR op_ge (pe_op op_mul (pe_fld (pv 0) rfl) (pv 1)) pe_int (nomark _))))) pe_int pe_non)))), ?_⟩
    have hi := KC.idx_of T.nd (i := 2) rfl hc
    have ok := T.cls hc
    have e : (k = .least ∨ k = .most) := by cases k <;> first | exact .inl rfl | exact .inr rfl | cases hi
    have gx : bGood dx = true := by rcases e with rfl | rfl <;> exact gx
    have wx := fl_b gx
    have hs : starD k = boundS (signOf k) := by rcases e with rfl | rfl <;> rfl
    rw [hs] at q1 q2
    obtain ⟨a, da, fs, rfl, ha, hsg⟩ := sign_at hK e
    have sg : signOf k = 1 ∨ signOf k = -1 := by rcases e with rfl | rfl <;> first | exact .inl rfl | exact .inr rfl
    generalize signOf k = sn at *
    refine q_when (b := isE dx) (et_test (ev_eqE (ev_var rfl) hx wx)) (fun hb H1 e1 => ?_) (fun hb H1 e1 => ?_)
    · refine s_ret ev_c fun H3 e3 => q1 (.inr (.inl hb)) _ H3 (e1.trans e3) ?_
      rcases good_b gx with rfl | rfl | ⟨i, rfl⟩
      · exact .str _
      · cases hb
      · cases hb
    rcases good_b gx with rfl | rfl | ⟨i, rfl⟩
    · cases hb
    · refine r_if (b := true) (et_is (et_or (a := true) (b := true) (et_is (et_test (ev_eqN (ev_var rfl) (hx.ex e1) wx)) (by decide +kernel)) (fun h => (by cases h))) rfl) (fun h2 H2 e2 => ?_) (fun h2 => (by cases h2))
      exact s_ret ev_c fun H3 e3 => q1 (.inl (by rfl)) _ H3 ((e1.trans e2).trans e3) (.int 0)
    · obtain rfl := hx.int_inv
      have mb : ∀ {z : Int}, (-(2 ^ 64) < sn ∧ sn < 2 ^ 64) ∨ (-(2 ^ 64) < z ∧ z < 2 ^ 64) := fun {z} => .inl (by rcases sg with h | h <;> rw [h] <;> decide)
      refine r_if (b := decide (0 ≤ sn * i)) (et_is (et_or (a := false) (et_is (et_test (ev_eqN (ev_var rfl) (hx.ex e1) wx)) (by rfl)) (fun h => et_test (ev_op (ev_op (ev_fldK (ev_var rfl) (e1 _ _ ha) ok (by decide) hsg) (ev_var rfl) (rv_I mb)) ev_c rv_I0))) (Bool.false_or _)) (fun h2 H2 e2 => ?_) (fun h2 H2 e2 => ?_)
      · have e0 : boundS sn (.int i) = .int 0 := if_pos (of_decide_eq_true h2)
        rw [e0] at q1
        exact s_ret ev_c fun H3 e3 => q1 (.inl rfl) _ H3 ((e1.trans e2).trans e3) (.int 0)
      · have e0 : boundS sn (.int i) = D1.E := if_neg (of_decide_eq_false h2)
        exact s_ret ev_c fun H3 e3 => q2 e0 rfl H3 ((e1.trans e2).trans e3)
abbrev s_Narrow_resting : Stmt := meth 29 4
theorem sc_Narrow_resting : FnScope ["self", "a"] ["self", "a"] (defScope s_Narrow_resting) := ⟨rfl, rfl, rfl, by decide +kernel, rfl, by decide +kernel, by decide +kernel⟩
theorem ok_Narrow_resting {f : Addr} {fd : FuncData} (F : FnM K "Narrow" "resting" s_Narrow_resting f fd) {C : KC} (nd : C.all.Nodup) : FnOk P w K mg base (CX0) 1 f fd ["self", "a"] (spResting C C.na) := by
  refine F.ok (CX := CX0) sc_Narrow_resting (fun vs H Q E h => ?_) (fun cdv A outer s H vs Q E hr h => ?_)
  · obtain ⟨s, k, x, dx, rfl, _⟩ := h
    rfl
  · obtain ⟨s, k, x, dx, rfl, hK, hc, hx, gx, q1, q2⟩ := h
    have hu := hu_of hr
    have hu64 := hr.units
    refine ⟨_, PSs.nox (pss_one (ps_ret pe_str)), ?_⟩
    have hi := KC.idx_of nd (i := 3) rfl hc
    have e : k = .narrow := by cases k <;> first | rfl | cases hi
    subst e
    exact q1 (.inr (.inr rfl)) _ H (Ex.refl H) (.str _)
abbrev s_Endless_star : Stmt := meth 26 1
theorem sc_Endless_star : FnScope ["self", "a", "told"] ["self", "a"] (defScope s_Endless_star) := ⟨rfl, rfl, rfl, by decide +kernel, rfl, by decide +kernel, by decide +kernel⟩
theorem ok_Endless_star {f : Addr} {fd : FuncData} (F : FnM K "Endless" "star" s_Endless_star f fd) {C : KC} (T : ClsK K C) (d : Nat) {c : Addr} (h3 : ThreeC C c) (HA : ∀ e sp, (fun e => if e = c then some (spResting C c) else none) e = some sp → HeldM P w K mg base 1 "resting" e sp) : FnOk P w K mg base (CX0) 2 f fd ["self", "a"] (spStar C d c) := by
  refine F.ok (CX := CX0) sc_Endless_star (fun vs H Q E h => ?_) (fun cdv A outer s H vs Q E hr h => ?_)
  · obtain ⟨s, k, x, dx, rfl, _⟩ := h
    rfl
  · obtain ⟨s, k, x, dx, rfl, hK, hc, hd, hx, gx, q⟩ := h
    have hu := hu_of hr
    have hu64 := hr.units
    have hr_resting := hr.mono (by decide : 1 ≤ 1)
    refine ⟨_, PSs.nox (pss_cons (ps_set (i := 2) sc_Endless_star.nd rfl (Or.inl rfl) (pe_methA (S := fun e => if e = c then some (spResting C c) else none) HA (pv 0) hr_resting (pa_cons (pv 1) pa_nil)))
      (pss_one (ps_ret (pe_ifExp (pt_cmpR op_isN (pv 2) pe_non (nomark _)) pe_str (pv 2))))), ?_⟩
    have hk := three_kind T.nd h3 hc
    obtain ⟨a, da, fs, rfl, ha, com⟩ := id hK.com
    rw [hc] at ha
    refine asg_step ⟨_, rfl, a, c, da, fs, spResting C c, rfl, if_pos rfl, ha, com.no _ (by decide), _, rfl, .ref a, k, x, dx, rfl, hK, hc, hx, gx, fun hn r H1 e1 hr1 => ?_, fun hE hn H1 e1 => ?_⟩
    · refine r_if (b := false) (et_is (et_test (ev_isN (ev_var rfl))) (hr1.non_iff ?_)) (fun h => (by cases h)) (fun _ H2 e2 => s_ret (ev_var rfl) fun H3 e3 => q r H3 ((e1.trans e2).trans e3) (hr1.ex (e2.trans e3)))
      intro hs
      have gs := good_star k gx
      rw [hs] at gs
      rcases hk with rfl | rfl | rfl | rfl <;> cases gs
    · rw [hE] at q
      exact r_if (b := true) (et_is (et_test (ev_isN (v := .non) (ev_var rfl))) rfl) (fun _ H2 e2 => s_ret ev_c fun H3 e3 => q _ H3 ((e1.trans e2).trans e3) (.str _)) (fun h => (by cases h))
abbrev s_Topped_star : Stmt := meth 40 1
theorem sc_Topped_star : FnScope ["self", "a"] ["self", "a"] (defScope s_Topped_star) := ⟨rfl, rfl, rfl, by decide +kernel, rfl, by decide +kernel, by decide +kernel⟩
theorem ok_Topped_star {f : Addr} {fd : FuncData} (F : FnM K "Topped" "star" s_Topped_star f fd) {C : KC} (T : ClsK K C) (d : Nat) {c : Addr} (h3 : ThreeT C c) (HA : ∀ e sp, (fun e => if e = c then some (spOne C d c) else none) e = some sp → HeldM P w K mg base 1 "one" e sp) : FnOk P w K mg base (CX0) 2 f fd ["self", "a"] (spStar C d c) := by
  refine F.ok (CX := CX0) sc_Topped_star (fun vs H Q E h => ?_) (fun cdv A outer s H vs Q E hr h => ?_)
  · obtain ⟨s, k, x, dx, rfl, _⟩ := h
    rfl
  · obtain ⟨s, k, x, dx, rfl, hK, hc, hd, hx, gx, q⟩ := h
    have hu := hu_of hr
    have hu64 := hr.units
    have hr_one := hr.mono (by decide : 1 ≤ 1)
    refine ⟨_, PSs.nox (pss_one (ps_ret (pe_methA0 (S := fun e => if e = c then some (spOne C d c) else none) HA (pv 0) hr_one))), ?_⟩
    have hs : starD k dx = oneD k := by
      have hi : idx k = 0 ∨ idx k = 4 ∨ idx k = 5 := by
        rcases h3 with rfl | rfl | rfl
        · exact .inl (KC.idx_of T.nd (i := 0) rfl hc)
        · exact .inr (.inl (KC.idx_of T.nd (i := 4) rfl hc))
        · exact .inr (.inr (KC.idx_of T.nd (i := 5) rfl hc))
      cases k <;> first | rfl | (rcases hi with h | h | h <;> cases h)
    rw [hs] at q
    obtain ⟨a, da, fs, rfl, ha, com⟩ := id hK.com
    rw [hc] at ha
    exact ⟨_, rfl, a, c, da, fs, spOne C d c, rfl, if_pos rfl, ha, com.no _ (by decide), .ref a, k, rfl, hK, hc, hd, fun r H1 e1 hr1 => q r H1 e1 hr1⟩
abbrev s_Pair_star : Stmt := meth 35 6
theorem sc_Pair_star : FnScope ["self", "a"] ["self", "a"] (defScope s_Pair_star) := ⟨rfl, rfl, rfl, by decide +kernel, rfl, by decide +kernel, by decide +kernel⟩
theorem ok_Pair_star {f : Addr} {fd : FuncData} (F : FnM K "Pair" "star" s_Pair_star f fd) {C : KC} (T : ClsK K C) {d : Nat} (HA_star : ∀ e sp, SK C (spStar C d) e = some sp → HeldM P w K mg base (d + 3) "star" e sp) (HA_closed : ∀ e sp, (fun e => if e = C.pa then some (spClosed C (d + 1) C.pa) else none) e = some sp → HeldM P w K mg base (d + 2) "closed" e sp) : FnOk P w K mg base (CX0) (d + 4) f fd ["self", "a"] (spStar C (d + 1) C.pa) := by
  refine F.ok (CX := CX0) sc_Pair_star (fun vs H Q E h => ?_) (fun cdv A outer s H vs Q E hr h => ?_)
  · obtain ⟨s, k, x, dx, rfl, _⟩ := h
    rfl
  · obtain ⟨s, k, x, dx, rfl, hK, hc, hd, hx, gx, q⟩ := h
    have hu := hu_of hr
    have hu64 := hr.units
    have hr_star := hr.mono (Nat.le_refl _)
    have hr_closed := hr.mono (by omega : d + 2 ≤ d + 3)
    refine ⟨_, PSs.nox (pss_cons (ps_if (pt_not (pt_val (pe_methA0 (S := fun e => if e = C.pa then some (spClosed C (d + 1) C.pa) else none) HA_closed (pv 0) hr_closed))) (pss_one (ps_dead)) pss_nil)
      (pss_one (ps_ret (pe_tup (pa_cons (pe_methA (S := SK C (spStar C d)) HA_star (pe_fld (pv 0) rfl) hr_star (pa_cons (pe_ix ix_tup (pv 1) pe_int (fun _ _ => rfl)) pa_nil)) (pa_cons (pe_methA (S := SK C (spStar C d)) HA_star (pe_fld (pv 0) rfl) hr_star (pa_cons (pe_ix ix_tup (pv 1) pe_int (fun _ _ => rfl)) pa_nil)) pa_nil)))))), ?_⟩
    obtain ⟨kl, kr, rfl⟩ := pair_kind T.nd hc
    have ok := T.cls (k := .pair kl kr) rfl
    obtain ⟨x1, x2, rfl, g1, g2⟩ := good_pair gx
    obtain ⟨ax, u1, u2, rfl, hax, v1, v2⟩ := id hx.two
    obtain ⟨a, da, fs, fl, fr, rfl, ha, com, l1, l2, k1, k2⟩ := id hK
    obtain ⟨la, ld, lf, rfl, hla, lcom⟩ := id k1.com
    obtain ⟨ra, rd, rf, rfl, hra, rcom⟩ := id k2.com
    refine q_when (b := false) (et_is (et_not (a := true) (et_B fun H1 e1 Q' q' => ?_)) rfl) (fun h => (by cases h)) (fun _ H0 e0 => ?_)
    · exact ⟨_, rfl, a, C.pa, da, fs, spClosed C (d + 1) C.pa, rfl, if_pos rfl, e1 _ _ ha, com.no _ (by decide), .ref a, .pair kl kr, rfl, hK.ex e1, rfl, hd, fun H2 e2 => q' H2 e2⟩
    refine ⟨_, rfl, a, _, da, fs, _, rfl, e0 _ _ ha, ok.cls, ok.no _ (by decide), l1, la, _, ld, lf, _, rfl, SK.at kl, e0 _ _ hla, lcom.no _ (by decide), ?_⟩
    refine ⟨_, rfl, ax, _, _, _, rfl, rfl, .inl (.inl (e0 _ _ hax)), rfl, .ref la, kl, _, _, rfl, k1.ex e0, rfl, depth_l hd, v1.ex e0, g1, fun r1 H1 e1' hr1 => ?_⟩
    have e1 := e0.trans e1'
    refine ⟨_, rfl, a, _, da, fs, _, rfl, e1 _ _ ha, ok.cls, ok.no _ (by decide), l2, ra, _, rd, rf, _, rfl, SK.at kr, e1 _ _ hra, rcom.no _ (by decide), ?_⟩
    refine ⟨_, rfl, ax, _, _, _, rfl, rfl, .inl (.inl (e1 _ _ hax)), rfl, .ref ra, kr, _, _, rfl, k2.ex e1, rfl, depth_r hd, v2.ex e1, g2, fun r2 H2 e2 hr2 => ⟨by show 2 ≤ sizeLine; decide, fun l hl => ?_⟩⟩
    exact q _ _ ((e1.trans e2).trans (Ex.new hl)) (.new hl (.cons (hr1.ex e2) (.cons hr2 .nil)))
theorem all_plus {C : KC} (T : ClsK K C) {f_tr : Addr} {fd_tr : FuncData} (m_tr : Meth K C.tr "plus" f_tr) (b_tr : Binds K fd_tr ["self", "a", "b"] []) {f_co : Addr} {fd_co : FuncData} (m_co : Meth K C.co "plus" f_co) (b_co : Binds K fd_co ["self", "a", "b"] []) {f_bo : Addr} {fd_bo : FuncData} (m_bo : Meth K C.bo "plus" f_bo) (b_bo : Binds K fd_bo ["self", "a", "b"] []) {f_na : Addr} {fd_na : FuncData} (m_na : Meth K C.na "plus" f_na) (b_na : Binds K fd_na ["self", "a", "b"] []) {f_sh : Addr} {fd_sh : FuncData} (m_sh : Meth K C.sh "plus" f_sh) (b_sh : Binds K fd_sh ["self", "a", "b"] []) {f_lo : Addr} {fd_lo : FuncData} (m_lo : Meth K C.lo "plus" f_lo) (b_lo : Binds K fd_lo ["self", "a", "b"] []) {f_pa : Addr} {fd_pa : FuncData} (m_pa : Meth K C.pa "plus" f_pa) (b_pa : Binds K fd_pa ["self", "a", "b"] []) (G_tr : ∀ d, FnOk P w K mg base CX0 1 f_tr fd_tr ["self", "a", "b"] (spPlus C d C.tr)) (G_co : ∀ d, FnOk P w K mg base CX0 1 f_co fd_co ["self", "a", "b"] (spPlus C d C.co)) (G_bo : ∀ d, FnOk P w K mg base CX0 1 f_bo fd_bo ["self", "a", "b"] (spPlus C d C.bo)) (G_na : ∀ d, FnOk P w K mg base CX0 1 f_na fd_na ["self", "a", "b"] (spPlus C d C.na)) (G_sh : ∀ d, FnOk P w K mg base CX0 1 f_sh fd_sh ["self", "a", "b"] (spPlus C d C.sh)) (G_lo : ∀ d, FnOk P w K mg base CX0 1 f_lo fd_lo ["self", "a", "b"] (spPlus C d C.lo)) (G_pa : ∀ d, (∀ e sp, SK C (spPlus C d) e = some sp → HeldM P w K mg base (d + 1) "plus" e sp) → FnOk P w K mg base CX0 (d + 2) f_pa fd_pa ["self", "a", "b"] (spPlus C (d + 1) C.pa)) : ∀ d, ∀ e sp, SK C (spPlus C d) e = some sp → HeldM P w K mg base (d + 1) "plus" e sp
  | 0, e, sp, h => by
    obtain ⟨rfl, i, hi⟩ := SK.inv h
    match i, hi with
    | 0, hi => cases Option.some.inj hi; exact ⟨(T.ok _ (List.mem_of_getElem? (i := 0) rfl)).cls, f_tr, fd_tr, _, m_tr, (G_tr 0).mono (by omega), b_tr⟩
    | 1, hi => cases Option.some.inj hi; exact ⟨(T.ok _ (List.mem_of_getElem? (i := 1) rfl)).cls, f_co, fd_co, _, m_co, (G_co 0).mono (by omega), b_co⟩
    | 2, hi => cases Option.some.inj hi; exact ⟨(T.ok _ (List.mem_of_getElem? (i := 2) rfl)).cls, f_bo, fd_bo, _, m_bo, (G_bo 0).mono (by omega), b_bo⟩
    | 3, hi => cases Option.some.inj hi; exact ⟨(T.ok _ (List.mem_of_getElem? (i := 3) rfl)).cls, f_na, fd_na, _, m_na, (G_na 0).mono (by omega), b_na⟩
    | 4, hi => cases Option.some.inj hi; exact ⟨(T.ok _ (List.mem_of_getElem? (i := 4) rfl)).cls, f_sh, fd_sh, _, m_sh, (G_sh 0).mono (by omega), b_sh⟩
    | 5, hi => cases Option.some.inj hi; exact ⟨(T.ok _ (List.mem_of_getElem? (i := 5) rfl)).cls, f_lo, fd_lo, _, m_lo, (G_lo 0).mono (by omega), b_lo⟩
    | 6, hi => cases Option.some.inj hi; exact ⟨(T.ok _ (List.mem_of_getElem? (i := 6) rfl)).cls, f_pa, fd_pa, _, m_pa, fn_never (fun vs H Q E ⟨_, _, _, _, _, _, _, _, _, _, hd, _⟩ => absurd hd (by omega)), b_pa⟩
    | i + 7, hi => exact absurd hi (by simp [KC.all])
  | d + 1, e, sp, h => by
    have ih := all_plus T m_tr b_tr m_co b_co m_bo b_bo m_na b_na m_sh b_sh m_lo b_lo m_pa b_pa G_tr G_co G_bo G_na G_sh G_lo G_pa d
    obtain ⟨rfl, i, hi⟩ := SK.inv h
    match i, hi with
    | 0, hi => cases Option.some.inj hi; exact ⟨(T.ok _ (List.mem_of_getElem? (i := 0) rfl)).cls, f_tr, fd_tr, _, m_tr, (G_tr (d + 1)).mono (by omega), b_tr⟩
    | 1, hi => cases Option.some.inj hi; exact ⟨(T.ok _ (List.mem_of_getElem? (i := 1) rfl)).cls, f_co, fd_co, _, m_co, (G_co (d + 1)).mono (by omega), b_co⟩
    | 2, hi => cases Option.some.inj hi; exact ⟨(T.ok _ (List.mem_of_getElem? (i := 2) rfl)).cls, f_bo, fd_bo, _, m_bo, (G_bo (d + 1)).mono (by omega), b_bo⟩
    | 3, hi => cases Option.some.inj hi; exact ⟨(T.ok _ (List.mem_of_getElem? (i := 3) rfl)).cls, f_na, fd_na, _, m_na, (G_na (d + 1)).mono (by omega), b_na⟩
    | 4, hi => cases Option.some.inj hi; exact ⟨(T.ok _ (List.mem_of_getElem? (i := 4) rfl)).cls, f_sh, fd_sh, _, m_sh, (G_sh (d + 1)).mono (by omega), b_sh⟩
    | 5, hi => cases Option.some.inj hi; exact ⟨(T.ok _ (List.mem_of_getElem? (i := 5) rfl)).cls, f_lo, fd_lo, _, m_lo, (G_lo (d + 1)).mono (by omega), b_lo⟩
    | 6, hi => cases Option.some.inj hi; exact ⟨(T.ok _ (List.mem_of_getElem? (i := 6) rfl)).cls, f_pa, fd_pa, _, m_pa, (by have := G_pa d ih; rw [show d + 2 = d + 1 + 1 by omega] at this; exact this), b_pa⟩
    | i + 7, hi => exact absurd hi (by simp [KC.all])
theorem all_beyond {C : KC} (T : ClsK K C) {f_tr : Addr} {fd_tr : FuncData} (m_tr : Meth K C.tr "beyond" f_tr) (b_tr : Binds K fd_tr ["self", "before", "after"] []) {f_co : Addr} {fd_co : FuncData} (m_co : Meth K C.co "beyond" f_co) (b_co : Binds K fd_co ["self", "before", "after"] []) {f_bo : Addr} {fd_bo : FuncData} (m_bo : Meth K C.bo "beyond" f_bo) (b_bo : Binds K fd_bo ["self", "before", "after"] []) {f_na : Addr} {fd_na : FuncData} (m_na : Meth K C.na "beyond" f_na) (b_na : Binds K fd_na ["self", "before", "after"] []) {f_sh : Addr} {fd_sh : FuncData} (m_sh : Meth K C.sh "beyond" f_sh) (b_sh : Binds K fd_sh ["self", "before", "after"] []) {f_lo : Addr} {fd_lo : FuncData} (m_lo : Meth K C.lo "beyond" f_lo) (b_lo : Binds K fd_lo ["self", "before", "after"] []) {f_pa : Addr} {fd_pa : FuncData} (m_pa : Meth K C.pa "beyond" f_pa) (b_pa : Binds K fd_pa ["self", "before", "after"] []) (G_tr : ∀ d, FnOk P w K mg base CX0 1 f_tr fd_tr ["self", "before", "after"] (spBeyond C d C.tr)) (G_co : ∀ d, FnOk P w K mg base CX0 1 f_co fd_co ["self", "before", "after"] (spBeyond C d C.co)) (G_bo : ∀ d, FnOk P w K mg base CX0 1 f_bo fd_bo ["self", "before", "after"] (spBeyond C d C.bo)) (G_na : ∀ d, FnOk P w K mg base CX0 1 f_na fd_na ["self", "before", "after"] (spBeyond C d C.na)) (G_sh : ∀ d, FnOk P w K mg base CX0 1 f_sh fd_sh ["self", "before", "after"] (spBeyond C d C.sh)) (G_lo : ∀ d, FnOk P w K mg base CX0 1 f_lo fd_lo ["self", "before", "after"] (spBeyond C d C.lo)) (G_pa : ∀ d, (∀ e sp, SK C (spBeyond C d) e = some sp → HeldM P w K mg base (d + 1) "beyond" e sp) → FnOk P w K mg base CX0 (d + 2) f_pa fd_pa ["self", "before", "after"] (spBeyond C (d + 1) C.pa)) : ∀ d, ∀ e sp, SK C (spBeyond C d) e = some sp → HeldM P w K mg base (d + 1) "beyond" e sp
  | 0, e, sp, h => by
    obtain ⟨rfl, i, hi⟩ := SK.inv h
    match i, hi with
    | 0, hi => cases Option.some.inj hi; exact ⟨(T.ok _ (List.mem_of_getElem? (i := 0) rfl)).cls, f_tr, fd_tr, _, m_tr, (G_tr 0).mono (by omega), b_tr⟩
    | 1, hi => cases Option.some.inj hi; exact ⟨(T.ok _ (List.mem_of_getElem? (i := 1) rfl)).cls, f_co, fd_co, _, m_co, (G_co 0).mono (by omega), b_co⟩
    | 2, hi => cases Option.some.inj hi; exact ⟨(T.ok _ (List.mem_of_getElem? (i := 2) rfl)).cls, f_bo, fd_bo, _, m_bo, (G_bo 0).mono (by omega), b_bo⟩
    | 3, hi => cases Option.some.inj hi; exact ⟨(T.ok _ (List.mem_of_getElem? (i := 3) rfl)).cls, f_na, fd_na, _, m_na, (G_na 0).mono (by omega), b_na⟩
    | 4, hi => cases Option.some.inj hi; exact ⟨(T.ok _ (List.mem_of_getElem? (i := 4) rfl)).cls, f_sh, fd_sh, _, m_sh, (G_sh 0).mono (by omega), b_sh⟩
    | 5, hi => cases Option.some.inj hi; exact ⟨(T.ok _ (List.mem_of_getElem? (i := 5) rfl)).cls, f_lo, fd_lo, _, m_lo, (G_lo 0).mono (by omega), b_lo⟩
    | 6, hi => cases Option.some.inj hi; exact ⟨(T.ok _ (List.mem_of_getElem? (i := 6) rfl)).cls, f_pa, fd_pa, _, m_pa, fn_never (fun vs H Q E ⟨_, _, _, _, _, _, _, _, _, hd, _⟩ => absurd hd (by omega)), b_pa⟩
    | i + 7, hi => exact absurd hi (by simp [KC.all])
  | d + 1, e, sp, h => by
    have ih := all_beyond T m_tr b_tr m_co b_co m_bo b_bo m_na b_na m_sh b_sh m_lo b_lo m_pa b_pa G_tr G_co G_bo G_na G_sh G_lo G_pa d
    obtain ⟨rfl, i, hi⟩ := SK.inv h
    match i, hi with
    | 0, hi => cases Option.some.inj hi; exact ⟨(T.ok _ (List.mem_of_getElem? (i := 0) rfl)).cls, f_tr, fd_tr, _, m_tr, (G_tr (d + 1)).mono (by omega), b_tr⟩
    | 1, hi => cases Option.some.inj hi; exact ⟨(T.ok _ (List.mem_of_getElem? (i := 1) rfl)).cls, f_co, fd_co, _, m_co, (G_co (d + 1)).mono (by omega), b_co⟩
    | 2, hi => cases Option.some.inj hi; exact ⟨(T.ok _ (List.mem_of_getElem? (i := 2) rfl)).cls, f_bo, fd_bo, _, m_bo, (G_bo (d + 1)).mono (by omega), b_bo⟩
    | 3, hi => cases Option.some.inj hi; exact ⟨(T.ok _ (List.mem_of_getElem? (i := 3) rfl)).cls, f_na, fd_na, _, m_na, (G_na (d + 1)).mono (by omega), b_na⟩
    | 4, hi => cases Option.some.inj hi; exact ⟨(T.ok _ (List.mem_of_getElem? (i := 4) rfl)).cls, f_sh, fd_sh, _, m_sh, (G_sh (d + 1)).mono (by omega), b_sh⟩
    | 5, hi => cases Option.some.inj hi; exact ⟨(T.ok _ (List.mem_of_getElem? (i := 5) rfl)).cls, f_lo, fd_lo, _, m_lo, (G_lo (d + 1)).mono (by omega), b_lo⟩
    | 6, hi => cases Option.some.inj hi; exact ⟨(T.ok _ (List.mem_of_getElem? (i := 6) rfl)).cls, f_pa, fd_pa, _, m_pa, (by have := G_pa d ih; rw [show d + 2 = d + 1 + 1 by omega] at this; exact this), b_pa⟩
    | i + 7, hi => exact absurd hi (by simp [KC.all])
theorem all_star {C : KC} (T : ClsK K C) {f_tr : Addr} {fd_tr : FuncData} (m_tr : Meth K C.tr "star" f_tr) (b_tr : Binds K fd_tr ["self", "a"] []) {f_co : Addr} {fd_co : FuncData} (m_co : Meth K C.co "star" f_co) (b_co : Binds K fd_co ["self", "a"] []) {f_bo : Addr} {fd_bo : FuncData} (m_bo : Meth K C.bo "star" f_bo) (b_bo : Binds K fd_bo ["self", "a"] []) {f_na : Addr} {fd_na : FuncData} (m_na : Meth K C.na "star" f_na) (b_na : Binds K fd_na ["self", "a"] []) {f_sh : Addr} {fd_sh : FuncData} (m_sh : Meth K C.sh "star" f_sh) (b_sh : Binds K fd_sh ["self", "a"] []) {f_lo : Addr} {fd_lo : FuncData} (m_lo : Meth K C.lo "star" f_lo) (b_lo : Binds K fd_lo ["self", "a"] []) {f_pa : Addr} {fd_pa : FuncData} (m_pa : Meth K C.pa "star" f_pa) (b_pa : Binds K fd_pa ["self", "a"] []) (G_tr : ∀ d, FnOk P w K mg base CX0 2 f_tr fd_tr ["self", "a"] (spStar C d C.tr)) (G_co : ∀ d, FnOk P w K mg base CX0 2 f_co fd_co ["self", "a"] (spStar C d C.co)) (G_bo : ∀ d, FnOk P w K mg base CX0 2 f_bo fd_bo ["self", "a"] (spStar C d C.bo)) (G_na : ∀ d, FnOk P w K mg base CX0 2 f_na fd_na ["self", "a"] (spStar C d C.na)) (G_sh : ∀ d, FnOk P w K mg base CX0 2 f_sh fd_sh ["self", "a"] (spStar C d C.sh)) (G_lo : ∀ d, FnOk P w K mg base CX0 2 f_lo fd_lo ["self", "a"] (spStar C d C.lo)) (G_pa : ∀ d, (∀ e sp, SK C (spStar C d) e = some sp → HeldM P w K mg base (d + 3) "star" e sp) → FnOk P w K mg base CX0 (d + 4) f_pa fd_pa ["self", "a"] (spStar C (d + 1) C.pa)) : ∀ d, ∀ e sp, SK C (spStar C d) e = some sp → HeldM P w K mg base (d + 3) "star" e sp
  | 0, e, sp, h => by
    obtain ⟨rfl, i, hi⟩ := SK.inv h
    match i, hi with
    | 0, hi => cases Option.some.inj hi; exact ⟨(T.ok _ (List.mem_of_getElem? (i := 0) rfl)).cls, f_tr, fd_tr, _, m_tr, (G_tr 0).mono (by omega), b_tr⟩
    | 1, hi => cases Option.some.inj hi; exact ⟨(T.ok _ (List.mem_of_getElem? (i := 1) rfl)).cls, f_co, fd_co, _, m_co, (G_co 0).mono (by omega), b_co⟩
    | 2, hi => cases Option.some.inj hi; exact ⟨(T.ok _ (List.mem_of_getElem? (i := 2) rfl)).cls, f_bo, fd_bo, _, m_bo, (G_bo 0).mono (by omega), b_bo⟩
    | 3, hi => cases Option.some.inj hi; exact ⟨(T.ok _ (List.mem_of_getElem? (i := 3) rfl)).cls, f_na, fd_na, _, m_na, (G_na 0).mono (by omega), b_na⟩
    | 4, hi => cases Option.some.inj hi; exact ⟨(T.ok _ (List.mem_of_getElem? (i := 4) rfl)).cls, f_sh, fd_sh, _, m_sh, (G_sh 0).mono (by omega), b_sh⟩
    | 5, hi => cases Option.some.inj hi; exact ⟨(T.ok _ (List.mem_of_getElem? (i := 5) rfl)).cls, f_lo, fd_lo, _, m_lo, (G_lo 0).mono (by omega), b_lo⟩
    | 6, hi => cases Option.some.inj hi; exact ⟨(T.ok _ (List.mem_of_getElem? (i := 6) rfl)).cls, f_pa, fd_pa, _, m_pa, fn_never (fun vs H Q E ⟨_, _, _, _, _, _, _, hd, _⟩ => absurd hd (by omega)), b_pa⟩
    | i + 7, hi => exact absurd hi (by simp [KC.all])
  | d + 1, e, sp, h => by
    have ih := all_star T m_tr b_tr m_co b_co m_bo b_bo m_na b_na m_sh b_sh m_lo b_lo m_pa b_pa G_tr G_co G_bo G_na G_sh G_lo G_pa d
    obtain ⟨rfl, i, hi⟩ := SK.inv h
    match i, hi with
    | 0, hi => cases Option.some.inj hi; exact ⟨(T.ok _ (List.mem_of_getElem? (i := 0) rfl)).cls, f_tr, fd_tr, _, m_tr, (G_tr (d + 1)).mono (by omega), b_tr⟩
    | 1, hi => cases Option.some.inj hi; exact ⟨(T.ok _ (List.mem_of_getElem? (i := 1) rfl)).cls, f_co, fd_co, _, m_co, (G_co (d + 1)).mono (by omega), b_co⟩
    | 2, hi => cases Option.some.inj hi; exact ⟨(T.ok _ (List.mem_of_getElem? (i := 2) rfl)).cls, f_bo, fd_bo, _, m_bo, (G_bo (d + 1)).mono (by omega), b_bo⟩
    | 3, hi => cases Option.some.inj hi; exact ⟨(T.ok _ (List.mem_of_getElem? (i := 3) rfl)).cls, f_na, fd_na, _, m_na, (G_na (d + 1)).mono (by omega), b_na⟩
    | 4, hi => cases Option.some.inj hi; exact ⟨(T.ok _ (List.mem_of_getElem? (i := 4) rfl)).cls, f_sh, fd_sh, _, m_sh, (G_sh (d + 1)).mono (by omega), b_sh⟩
    | 5, hi => cases Option.some.inj hi; exact ⟨(T.ok _ (List.mem_of_getElem? (i := 5) rfl)).cls, f_lo, fd_lo, _, m_lo, (G_lo (d + 1)).mono (by omega), b_lo⟩
    | 6, hi => cases Option.some.inj hi; exact ⟨(T.ok _ (List.mem_of_getElem? (i := 6) rfl)).cls, f_pa, fd_pa, _, m_pa, (by have := G_pa d ih; rw [show d + 4 = d + 1 + 3 by omega] at this; exact this), b_pa⟩
    | i + 7, hi => exact absurd hi (by simp [KC.all])
end
end D1
end
section
set_option Elab.async false
set_option linter.all false
set_option maxRecDepth 100000
set_option maxHeartbeats 4000000
/-! C0: comprehensions of things as they lie; rows and tables of weights -/
namespace D1
open PySem L2 Evl RZ ClX PySem.VX
theorem upd_kp {H : Hp} {D : Addr} {xs ys : List V} (h : H D = some (.lst xs)) : Kp H (upd H D (.lst ys)) := fun a o so ha => by
  have : a ≠ D := fun z => by
    rw [z, h] at ha
    cases ha
    cases so
  rw [upd_ne this]
  exact ha
theorem DtAt.off {H : Hp} {v : V} {d : PyData} {D : Addr} {xs : List V} (h : DtAt H v d) (hD : H D = some (.lst xs)) : v ≠ .ref D := by
  intro e
  cases h with
  | tup h r =>
    obtain rfl := V.ref.inj e
    rw [h] at hD
    cases hD
  | _ => cases e
/-- a comprehension: its elements lie as R tells -/
theorem lc_el {J : It} {n : Nat} {G : Hp → Prop} {Y : Nat → Hp → V → Hp → Prop} (w : Walk J n G Y) {g : TG} {te : TE} {vs : List Nat} {σ : L2.St} {H1 : Hp} {Q : VK} (R : Nat → V → Hp → Prop)
    (up : ∀ i v H H', R i v H → Ex H H' → R i v H')
    (aw : ∀ i v H D xs ys, R i v H → H D = some (.lst xs) → v ≠ .ref D → R i v (upd H D (.lst ys)))
    (hn : n ≤ 1000000) (hG : ∀ H, Ex H1 H → G H)
    (hs : ∀ i x H H', i < n → Ex H1 H → Y i H x H' → g x (wipe σ vs) H' fun σ2 H2 => wipe σ2 vs = wipe σ vs ∧ Ex H H2 ∧ EvP te σ2 H2 fun v H3 => Ex H2 H3 ∧ R i v H3 ∧ ∀ D xs, H D = some (.lst xs) → v ≠ .ref D)
    (k : ∀ D us G', H1 D = none → Ex H1 G' → G' D = some (.lst us) → us.length = n → (∀ i v, us[i]? = some v → v ≠ .ref D ∧ R i v G') → Q (.ref D) G') {D : Addr} (hD : H1 D = none) (gm : ∀ {x : V} {σ : L2.St} {H : Hp} {P P' : L2.St → Hp → Prop}, (∀ s h, P s h → P' s h) → g x σ H P → g x σ H P') :
    ∃ W : Nat → Nat → Hp → Prop, (∃ m, W 0 m (upd H1 D (.lst []))) ∧ ∀ i m H, W i m H →
      (J.stop i H ∧ Q (.ref D) H) ∨ (J.go i H ∧ ∃ Nx : Hp → Prop, (∀ H', Nx H' → ∃ m', m' < m ∧ W (i + 1) m' H') ∧ ∀ x H', J.yld i H x H' → g x (wipe σ vs) H' fun σ2 H2 => wipe σ2 vs = wipe σ vs ∧ tYes σ2 H2 fun b H3 =>
        if b = true then te σ2 H3 fun y H4 => ∃ acc, H4 D = some (.lst acc) ∧ acc.length < sizeLine ∧ Nx (upd H4 D (.lst (acc ++ [y]))) else Nx H3) := by
  refine lc_it w (fun i H => Ex H1 H ∧ ∃ us, H D = some (.lst us) ∧ us.length = i ∧ ∀ j v, us[j]? = some v → v ≠ .ref D ∧ R j v H) ⟨Ex.new hD, [], upd_same, rfl, fun j v h => by simp at h⟩ (fun i H _ p => hG H p.1) ?_ ?_
  · rintro i x H H' hi ⟨e, us, hu, hl, hr⟩ y
    refine gm ?_ (hs i x H H' hi e y)
    rintro σ2 H2 ⟨h1, e2, h2⟩
    refine ⟨h1, tyes_go (yes_of rfl ?_)⟩
    refine h2 _ fun v H3 ⟨e3, hv, off⟩ => ?_
    have e23 := e2.trans e3
    have hu3 := e23 _ _ hu
    have offD := off D us hu
    refine ⟨us, hu3, Nat.lt_of_lt_of_le (by omega : us.length < 1000000) (by decide), Ex.mut (e.trans e23) hD, us ++ [v], upd_same, by rw [List.length_append, hl]; rfl, fun j u hj => ?_⟩
    by_cases hji : j < us.length
    · rw [List.getElem?_append_left hji] at hj
      obtain ⟨a, b⟩ := hr j u hj
      exact ⟨a, aw j u H3 D us _ (up j u H H3 b e23) hu3 a⟩
    · rw [List.getElem?_append_right (by omega)] at hj
      have h0 : j - us.length = 0 := by
        cases hh : j - us.length with
        | zero => rfl
        | succ q =>
          rw [hh] at hj
          simp at hj
      rw [h0] at hj
      simp at hj
      subst hj
      obtain rfl : j = i := by omega
      exact ⟨offD, aw _ _ H3 D us _ hv hu3 offD⟩
  · rintro H ⟨e, us, hu, hl, hr⟩
    exact k D us H hD e hu hl hr
theorem gn_mono {i : Nat} {x : V} {σ : L2.St} {H : Hp} {P P' : L2.St → Hp → Prop} (h : ∀ s h, P s h → P' s h) (g : gName i x σ H P) : gName i x σ H P' := h _ _ g
theorem gt2_mono {K : PySem.W.Frag} {i j : Nat} {x : V} {σ : L2.St} {H : Hp} {P P' : L2.St → Hp → Prop} (h : ∀ s h, P s h → P' s h) (g : gTup K 2 (gCons (gName i) (gCons (gName j) gNil)) x σ H P) : gTup K 2 (gCons (gName i) (gCons (gName j) gNil)) x σ H P' := by
  obtain ⟨a, xs, rfl, h1, h2, u, us, rfl, v, vs, rfl, rfl, g⟩ := g
  exact ⟨a, _, rfl, h1, h2, _, _, rfl, _, _, rfl, rfl, h _ _ g⟩
/-! ### rows -/
abbrev vec (f : Nat → PyData) (n : Nat) : List PyData := (List.range n).map f
theorem vec_len (f : Nat → PyData) (n : Nat) : (vec f n).length = n := by rw [List.length_map, List.length_range]
theorem vec_get {f : Nat → PyData} {n i : Nat} (h : i < n) : (vec f n)[i]? = some (f i) := by
  rw [List.getElem?_map, List.getElem?_range h]
  rfl
theorem vec_congr {f g : Nat → PyData} {n : Nat} (h : ∀ i, i < n → f i = g i) : vec f n = vec g n := List.map_congr_left fun i hi => h i (List.mem_range.mp hi)
/-- a row of things as they lie in a list -/
def RowAt (H : Hp) (v : V) (ds : List PyData) : Prop := ∃ p us, v = .ref p ∧ H p = some (.lst us) ∧ DtAll H us ds
theorem RowAt.ex {H H' : Hp} {v : V} {ds : List PyData} (h : RowAt H v ds) (e : Ex H H') : RowAt H' v ds := by
  obtain ⟨p, us, h1, h2, h3⟩ := h
  exact ⟨p, us, h1, e _ _ h2, h3.ex e⟩
theorem RowAt.aw {H : Hp} {v : V} {ds : List PyData} {D : Addr} {xs ys : List V} (h : RowAt H v ds) (hD : H D = some (.lst xs)) (n : v ≠ .ref D) : RowAt (upd H D (.lst ys)) v ds := by
  obtain ⟨p, us, rfl, h2, h3⟩ := h
  have hp : p ≠ D := fun z => n (by rw [z])
  exact ⟨p, us, rfl, by rw [upd_ne hp]; exact h2, h3.kp (upd_kp hD)⟩
theorem dtAll_of {H : Hp} : ∀ {us : List V} {ds : List PyData}, us.length = ds.length → (∀ (i : Nat) (u : V) (d : PyData), us[i]? = some u → ds[i]? = some d → DtAt H u d) → DtAll H us ds
  | [], [], _, _ => .nil
  | u :: us, d :: ds, h, k => .cons (k 0 u d rfl rfl) (dtAll_of (by simpa using h) fun i x y hx hy => k (i + 1) x y (by simpa using hx) (by simpa using hy))
  | [], _ :: _, h, _ => by cases h
  | _ :: _, [], h, _ => by cases h
theorem DtAll.set {H : Hp} {us : List V} {f : Nat → PyData} {n j : Nat} {v : V} {d : PyData} (h : DtAll H us (vec f n)) (hv : DtAt H v d) : DtAll H (us.set j v) (vec (fun i => if i = j then d else f i) n) := by
  have hl := h.len
  rw [vec_len] at hl
  refine dtAll_of (by rw [List.length_set, hl, vec_len]) fun i u e hu he => ?_
  by_cases hi : i < n
  · rw [vec_get hi] at he
    obtain rfl := Option.some.inj he
    by_cases hij : i = j
    · subst hij
      rw [List.getElem?_set_self (by omega)] at hu
      rw [if_pos rfl]
      exact (Option.some.inj hu) ▸ hv
    · rw [List.getElem?_set_ne (Ne.symm hij)] at hu
      rw [if_neg hij]
      obtain ⟨d', hd', h'⟩ := h.get hu
      rw [vec_get hi] at hd'
      exact (Option.some.inj hd') ▸ h'
  · rw [List.getElem?_eq_none (by rw [vec_len]; omega)] at he
    cases he
theorem RowAt.get {H : Hp} {v : V} {f : Nat → PyData} {n i : Nat} (h : RowAt H v (vec f n)) (hi : i < n) : ∃ p us u, v = .ref p ∧ H p = some (.lst us) ∧ us[i]? = some u ∧ DtAt H u (f i) ∧ us.length = n := by
  obtain ⟨p, us, rfl, h2, h3⟩ := h
  obtain ⟨u, hu, hd⟩ := h3.get' (vec_get hi)
  exact ⟨p, us, u, rfl, h2, hu, hd, by rw [h3.len, vec_len]⟩
/-- data in a row -/
theorem row_of {H : Hp} {D : Addr} {us : List V} {f : Nat → PyData} {n : Nat} (hD : H D = some (.lst us)) (hl : us.length = n) (h : ∀ (i : Nat) (v : V), us[i]? = some v → DtAt H v (f i)) : RowAt H (.ref D) (vec f n) :=
  ⟨D, us, rfl, hD, dtAll_of (by rw [hl, vec_len]) fun i u d hu hd => by
    have hi : i < n := by
      have := (List.getElem?_eq_some_iff.mp hu).1
      omega
    rw [vec_get hi] at hd
    exact (Option.some.inj hd) ▸ h i u hu⟩
/-! ### tables -/
/-- a table: a list of rows, no row twice; all its lists are such as N tells (new ones) -/
def TabAt (N : Addr → Prop) (H : Hp) (D : Addr) (n : Nat) (f : Nat → Nat → PyData) : Prop := ∃ ps : List Addr, H D = some (.lst (ps.map V.ref)) ∧ ps.length = n ∧ ps.Nodup ∧ N D ∧ (∀ p ∈ ps, p ≠ D ∧ N p) ∧ ∀ (i : Nat) (p : Addr), ps[i]? = some p → RowAt H (.ref p) (vec (f i) n)
section
variable {N : Addr → Prop}
theorem TabAt.ex {H H' : Hp} {D : Addr} {n : Nat} {f : Nat → Nat → PyData} (h : TabAt N H D n f) (e : Ex H H') : TabAt N H' D n f := by
  obtain ⟨ps, h1, h2, h3, h0, h4, h5⟩ := h
  exact ⟨ps, e _ _ h1, h2, h3, h0, h4, fun i p hp => (h5 i p hp).ex e⟩
theorem TabAt.nw {N' : Addr → Prop} {H : Hp} {D : Addr} {n : Nat} {f : Nat → Nat → PyData} (h : TabAt N H D n f) (e : ∀ a, N a → N' a) : TabAt N' H D n f := by
  obtain ⟨ps, h1, h2, h3, h0, h4, h5⟩ := h
  exact ⟨ps, h1, h2, h3, e _ h0, fun p hp => ⟨(h4 p hp).1, e _ (h4 p hp).2⟩, h5⟩
theorem TabAt.congr {H : Hp} {D : Addr} {n : Nat} {f g : Nat → Nat → PyData} (h : TabAt N H D n f) (e : ∀ i j, i < n → j < n → f i j = g i j) : TabAt N H D n g := by
  obtain ⟨ps, h1, h2, h3, h0, h4, h5⟩ := h
  refine ⟨ps, h1, h2, h3, h0, h4, fun i p hp => ?_⟩
  have hi : i < n := by
    have := (List.getElem?_eq_some_iff.mp hp).1
    omega
  rw [← vec_congr fun j hj => e i j hi hj]
  exact h5 i p hp
theorem TabAt.row {H : Hp} {D : Addr} {n i : Nat} {f : Nat → Nat → PyData} (h : TabAt N H D n f) (hi : i < n) : ∃ (xs : List V) (p : Addr), H D = some (.lst xs) ∧ xs.length = n ∧ xs[i]? = some (.ref p) ∧ p ≠ D ∧ N p ∧ RowAt H (.ref p) (vec (f i) n) := by
  obtain ⟨ps, h1, h2, h3, h0, h4, h5⟩ := h
  have hp : ps[i]? = some ps[i] := List.getElem?_eq_getElem (by omega)
  exact ⟨_, _, h1, by rw [List.length_map, h2], by rw [List.getElem?_map, hp]; rfl, (h4 _ (List.getElem_mem _)).1, (h4 _ (List.getElem_mem _)).2, h5 i _ hp⟩
theorem TabAt.lst {H : Hp} {D : Addr} {n : Nat} {f : Nat → Nat → PyData} (h : TabAt N H D n f) : ∃ xs : List V, H D = some (.lst xs) ∧ xs.length = n ∧ ∀ (i : Nat) (x : V), xs[i]? = some x → i < n ∧ RowAt H x (vec (f i) n) := by
  obtain ⟨ps, h1, h2, h3, h0, h4, h5⟩ := h
  refine ⟨_, h1, by rw [List.length_map, h2], fun i x hx => ?_⟩
  rw [List.getElem?_map] at hx
  obtain ⟨p, hp, rfl⟩ := Option.map_eq_some_iff.mp hx
  have := (List.getElem?_eq_some_iff.mp hp).1
  exact ⟨by omega, h5 i p hp⟩
/-- a cell is set -/
theorem TabAt.set {H : Hp} {D : Addr} {n i j : Nat} {f : Nat → Nat → PyData} {xs us : List V} {p : Addr} {v : V} {d : PyData} (h : TabAt N H D n f) (hi : i < n) (hxs : H D = some (.lst xs)) (hp : xs[i]? = some (.ref p)) (hus : H p = some (.lst us)) (hv : DtAt H v d) :
    TabAt N (upd H p (.lst (us.set j v))) D n (fun a b => if a = i ∧ b = j then d else f a b) := by
  obtain ⟨ps, h1, h2, h3, h0, h4, h5⟩ := h
  rw [h1] at hxs
  cases hxs
  rw [List.getElem?_map] at hp
  obtain ⟨p', hp', e⟩ := Option.map_eq_some_iff.mp hp
  obtain rfl := V.ref.inj e
  have hpD := (h4 p' (List.mem_of_getElem? hp')).1
  have kp : Kp H (upd H p' (.lst (us.set j v))) := upd_kp hus
  refine ⟨ps, by rw [upd_ne (Ne.symm hpD)]; exact h1, h2, h3, h0, h4, fun a q hq => ?_⟩
  by_cases hai : a = i
  · subst hai
    rw [hp'] at hq
    obtain rfl := Option.some.inj hq
    obtain ⟨p2, us2, e2, hu2, r⟩ := h5 a _ hp'
    obtain rfl := V.ref.inj e2
    rw [hus] at hu2
    cases hu2
    refine ⟨_, _, rfl, upd_same, ?_⟩
    have := (r.kp kp).set (j := j) (hv.kp kp)
    rw [vec_congr (g := fun b => if a = a ∧ b = j then d else f a b) fun b _ => ?_] at this
    · exact this
    · by_cases hb : b = j
      · rw [if_pos hb, if_pos ⟨rfl, hb⟩]
      · rw [if_neg hb, if_neg fun h => hb h.2]
  · have hqp : q ≠ p' := fun z => by
      subst z
      obtain ⟨l1, g1⟩ := List.getElem?_eq_some_iff.mp hq
      obtain ⟨l2, g2⟩ := List.getElem?_eq_some_iff.mp hp'
      exact hai ((List.getElem_inj h3).mp (g1.trans g2.symm))
    obtain ⟨p2, us2, e2, hu2, r⟩ := h5 a _ hq
    obtain rfl := V.ref.inj e2
    refine ⟨_, us2, rfl, by rw [upd_ne hqp]; exact hu2, ?_⟩
    rw [vec_congr (g := f a) fun b _ => if_neg fun h => hai h.1]
    exact r.kp kp
end
/-- a comprehension of new rows: a table -/
theorem lc_rows {J : It} {n : Nat} {G : Hp → Prop} {Y : Nat → Hp → V → Hp → Prop} (w : Walk J n G Y) {g : TG} {te : TE} {vs : List Nat} {σ : L2.St} {H1 : Hp} {Q : VK} (f : Nat → Nat → PyData)
    (hn : n ≤ 1000000) (hG : ∀ H, Ex H1 H → G H)
    (hs : ∀ i x H H', i < n → Ex H1 H → Y i H x H' → g x (wipe σ vs) H' fun σ2 H2 => wipe σ2 vs = wipe σ vs ∧ Ex H H2 ∧ EvP te σ2 H2 fun v H3 => Ex H2 H3 ∧ ∃ p, v = .ref p ∧ H2 p = none ∧ RowAt H3 v (vec (f i) n))
    (k : ∀ D G', Ex H1 G' → TabAt (fun a => H1 a = none) G' D n f → Q (.ref D) G') {D : Addr} (hD : H1 D = none) (gm : ∀ {x : V} {σ : L2.St} {H : Hp} {P P' : L2.St → Hp → Prop}, (∀ s h, P s h → P' s h) → g x σ H P → g x σ H P') :
    ∃ W : Nat → Nat → Hp → Prop, (∃ m, W 0 m (upd H1 D (.lst []))) ∧ ∀ i m H, W i m H →
      (J.stop i H ∧ Q (.ref D) H) ∨ (J.go i H ∧ ∃ Nx : Hp → Prop, (∀ H', Nx H' → ∃ m', m' < m ∧ W (i + 1) m' H') ∧ ∀ x H', J.yld i H x H' → g x (wipe σ vs) H' fun σ2 H2 => wipe σ2 vs = wipe σ vs ∧ tYes σ2 H2 fun b H3 =>
        if b = true then te σ2 H3 fun y H4 => ∃ acc, H4 D = some (.lst acc) ∧ acc.length < sizeLine ∧ Nx (upd H4 D (.lst (acc ++ [y]))) else Nx H3) := by
  refine lc_it w (fun i H => Ex H1 H ∧ ∃ ps : List Addr, H D = some (.lst (ps.map V.ref)) ∧ ps.length = i ∧ ps.Nodup ∧ (∀ p ∈ ps, p ≠ D ∧ H1 p = none ∧ H p ≠ none) ∧ ∀ (j : Nat) (p : Addr), ps[j]? = some p → RowAt H (.ref p) (vec (f j) n)) ⟨Ex.new hD, [], upd_same, rfl, List.nodup_nil, (fun p h => by cases h), (fun j v h => by simp at h)⟩ (fun i H _ p => hG H p.1) ?_ ?_
  · rintro i x H H' hi ⟨e, ps, hu, hl, nd, hp, hr⟩ y
    refine gm ?_ (hs i x H H' hi e y)
    rintro σ2 H2 ⟨h1, e2, h2⟩
    refine ⟨h1, tyes_go (yes_of rfl ?_)⟩
    refine h2 _ ?_
    rintro v H3 ⟨e3, q, rfl, hq, hv⟩
    have e23 := e2.trans e3
    have hu3 := e23 _ _ hu
    have hu2 := e2 _ _ hu
    have qD : q ≠ D := fun z => by
      rw [z, hu2] at hq
      cases hq
    have q1 : H1 q = none := fresh_back (e.trans e2) hq
    have qps : q ∉ ps := fun h => by
      have h3 := (hp q h).2.2
      have := fresh_back e2 hq
      exact h3 this
    refine ⟨ps.map V.ref, hu3, by rw [List.length_map]; exact Nat.lt_of_lt_of_le (by omega : ps.length < 1000000) (by decide), Ex.mut (e.trans e23) hD, ps ++ [q], by rw [upd_same, List.map_append]; rfl, by rw [List.length_append, hl]; rfl, ?_, fun p h => ?_, fun j u hj => ?_⟩
    · rw [List.nodup_append]
      refine ⟨nd, List.pairwise_singleton _ _, fun a ha b hb => ?_⟩
      rw [List.mem_singleton] at hb
      subst hb
      exact fun z => qps (z ▸ ha)
    · have live : ∀ {a : Addr}, H3 a ≠ none → upd H3 D (.lst (ps.map V.ref ++ [V.ref q])) a ≠ none := fun {a} ha => by
        by_cases z : a = D
        · rw [z, upd_same]
          exact fun h => by cases h
        · rw [upd_ne z]
          exact ha
      rcases List.mem_append.mp h with h | h
      · obtain ⟨a, b, c⟩ := hp p h
        refine ⟨a, b, live fun z => ?_⟩
        exact c (fresh_back e23 z)
      · rw [List.mem_singleton] at h
        subst h
        obtain ⟨p', us', e', hp', _⟩ := hv
        obtain rfl := V.ref.inj e'
        exact ⟨qD, q1, live (by rw [hp']; exact fun h => by cases h)⟩
    · by_cases hji : j < ps.length
      · rw [List.getElem?_append_left hji] at hj
        exact ((hr j u hj).ex e23).aw hu3 (fun z => (hp u (List.mem_of_getElem? hj)).1 (V.ref.inj z))
      · rw [List.getElem?_append_right (by omega)] at hj
        have h0 : j - ps.length = 0 := by
          cases hh : j - ps.length with
          | zero => rfl
          | succ q =>
            rw [hh] at hj
            simp at hj
        rw [h0] at hj
        simp at hj
        subst hj
        obtain rfl : j = i := by omega
        exact hv.aw hu3 (fun z => qD (V.ref.inj z))
  · rintro H ⟨e, ps, hu, hl, nd, hp, hr⟩
    exact k D H e ⟨ps, hu, hl, nd, hD, fun p h => ⟨(hp p h).1, (hp p h).2.1⟩, hr⟩
end D1
end
section
set_option Elab.async false
set_option linter.all false
set_option maxRecDepth 100000
set_option maxHeartbeats 4000000
/-! C1: comprehensions that make rows and tables -/
namespace D1
open PySem L2 Evl RZ ClX PySem.VX
section
variable {K : PySem.W.Frag} {σ : L2.St} {H : Hp} {te tl ta : TE} {f : Nat → PyData} {t : Nat → Nat → PyData} {n j : Nat} {vs : List Nat}
/-- a new row -/
abbrev NewRow (H : Hp) (ds : List PyData) : V → Hp → Prop := fun x H' => Ex H H' ∧ ∃ D, x = .ref D ∧ H D = none ∧ RowAt H' x ds
abbrev NewTab (H : Hp) (n : Nat) (f : Nat → Nat → PyData) : V → Hp → Prop := fun x H' => Ex H H' ∧ ∃ D, x = .ref D ∧ TabAt (fun a => H a = none) H' D n f
theorem lcr_row {tn : TA} (h : EvA tn σ H [.int (n : Int)]) (hn : n ≤ 1000000) (hw : ∀ x, wipe ((wipe σ vs).set j (some x)) vs = wipe σ vs)
    (hs : ∀ (i : Nat) (G : Hp), i < n → Ex H G → EvP te ((wipe σ vs).set j (some (.int (0 + (i : Int))))) G fun v G' => Ex G G' ∧ DtAt G' v (f i)) : EvP (tLc (iRng1 tn) (gName j) tYes te vs) σ H (NewRow H (vec f n)) := fun Q q => by
  refine h H (Ex.refl H) _ fun H1 e1 => ⟨(n : Int), rfl, by omega, by omega, fun D hD => ?_⟩
  refine lc_el (n := n) (walk_range (lo := 0) (n := n)) (fun i v G => DtAt G v (f i)) (fun i v G G' h e => h.ex e) (fun i v G D xs ys h hD _ => h.kp (upd_kp hD)) hn (fun _ _ => True.intro) ?_ (fun D us' G' hn' e hD' hl hall => q _ G' ⟨e1.trans e, D, rfl, fresh_back e1 hn', row_of hD' hl fun i v hv => (hall i v hv).2⟩) hD gn_mono
  rintro i x _ G hi e ⟨rfl, rfl⟩
  refine ⟨hw _, Ex.refl _, fun Q' q' => hs i G hi (e1.trans e) Q' fun v G' hv => q' v G' ⟨hv.1, hv.2, fun D xs hD => hv.2.off (hv.1 _ _ hD)⟩⟩
theorem lcr_tab {tn : TA} (h : EvA tn σ H [.int (n : Int)]) (hn : n ≤ 1000000) (hw : ∀ x, wipe ((wipe σ vs).set j (some x)) vs = wipe σ vs)
    (hs : ∀ (i : Nat) (G : Hp), i < n → Ex H G → EvP te ((wipe σ vs).set j (some (.int (0 + (i : Int))))) G (NewRow G (vec (t i) n))) : EvP (tLc (iRng1 tn) (gName j) tYes te vs) σ H (NewTab H n t) := fun Q q => by
  refine h H (Ex.refl H) _ fun H1 e1 => ⟨(n : Int), rfl, by omega, by omega, fun D hD => ?_⟩
  refine lc_rows (n := n) (walk_range (lo := 0) (n := n)) t hn (fun _ _ => True.intro) ?_ (fun D G' e hT => q _ G' ⟨e1.trans e, D, rfl, hT.nw fun a h => fresh_back e1 h⟩) hD gn_mono
  rintro i x _ G hi e ⟨rfl, rfl⟩
  refine ⟨hw _, Ex.refl _, fun Q' q' => hs i G hi (e1.trans e) Q' fun v G' hv => q' v G' hv⟩
theorem lcl_row {a : Addr} {xs : List V} (h : Ev tl σ H (.ref a)) (hx : SqL K H a xs) (hl : xs.length = n) (hn : n ≤ 1000000) (hw : ∀ x, wipe ((wipe σ vs).set j (some x)) vs = wipe σ vs)
    (hs : ∀ (i : Nat) (x : V) (G : Hp), i < n → Ex H G → xs[i]? = some x → EvP te ((wipe σ vs).set j (some x)) G fun v G' => Ex G G' ∧ DtAt G' v (f i)) : EvP (tLc (iList K tl) (gName j) tYes te vs) σ H (NewRow H (vec f n)) := fun Q q => by
  refine h H (Ex.refl H) _ fun H1 e1 => ⟨a, rfl, ⟨xs, ex_l e1 hx⟩, fun D hD => ?_⟩
  refine lc_el (n := n) (G := fun G => SqL K G a xs) (Y := YAt xs) (by rw [← hl]; exact walk_list) (fun i v G => DtAt G v (f i)) (fun i v G G' h e => h.ex e) (fun i v G D xs ys h hD _ => h.kp (upd_kp hD)) hn (fun G e => ex_l (e1.trans e) hx) ?_ (fun D us' G' hn' e hD' hl hall => q _ G' ⟨e1.trans e, D, rfl, fresh_back e1 hn', row_of hD' hl fun i v hv => (hall i v hv).2⟩) hD gn_mono
  rintro i x _ G hi e ⟨rfl, hxi⟩
  refine ⟨hw _, Ex.refl _, fun Q' q' => hs i x G hi (e1.trans e) hxi Q' fun v G' hv => q' v G' ⟨hv.1, hv.2, fun D xs hD => hv.2.off (hv.1 _ _ hD)⟩⟩
theorem lcl_tab {a : Addr} {xs : List V} (h : Ev tl σ H (.ref a)) (hx : SqL K H a xs) (hl : xs.length = n) (hn : n ≤ 1000000) (hw : ∀ x, wipe ((wipe σ vs).set j (some x)) vs = wipe σ vs)
    (hs : ∀ (i : Nat) (x : V) (G : Hp), i < n → Ex H G → xs[i]? = some x → EvP te ((wipe σ vs).set j (some x)) G (NewRow G (vec (t i) n))) : EvP (tLc (iList K tl) (gName j) tYes te vs) σ H (NewTab H n t) := fun Q q => by
  refine h H (Ex.refl H) _ fun H1 e1 => ⟨a, rfl, ⟨xs, ex_l e1 hx⟩, fun D hD => ?_⟩
  refine lc_rows (n := n) (G := fun G => SqL K G a xs) (Y := YAt xs) (by rw [← hl]; exact walk_list) t hn (fun G e => ex_l (e1.trans e) hx) ?_ (fun D G' e hT => q _ G' ⟨e1.trans e, D, rfl, hT.nw fun a h => fresh_back e1 h⟩) hD gn_mono
  rintro i x _ G hi e ⟨rfl, hxi⟩
  refine ⟨hw _, Ex.refl _, fun Q' q' => hs i x G hi (e1.trans e) hxi Q' fun v G' hv => q' v G' hv⟩
theorem lcz_row {tn : TA} {a b : Addr} {xs ys : List V} {jj : Nat} (h : EvA tn σ H [.ref a, .ref b]) (hx : SqL K H a xs) (hy : SqL K H b ys) (hl : xs.length = n) (hl' : ys.length = n) (hn : n ≤ 1000000) (hw : ∀ x y, wipe (((wipe σ vs).set j (some x)).set jj (some y)) vs = wipe σ vs)
    (hs : ∀ (i : Nat) (x y : V) (G : Hp), i < n → Ex H G → xs[i]? = some x → ys[i]? = some y → EvP te (((wipe σ vs).set j (some x)).set jj (some y)) G fun v G' => Ex G G' ∧ DtAt G' v (f i)) : EvP (tLc (iZip K tn) (gTup K 2 (gCons (gName j) (gCons (gName jj) gNil))) tYes te vs) σ H (NewRow H (vec f n)) := fun Q q => by
  refine h H (Ex.refl H) _ fun H1 e1 => ⟨a, b, xs, ys, rfl, ex_l e1 hx, ex_l e1 hy, fun D hD => ?_⟩
  refine lc_el (n := n) (walk_zip (n := n) (K := K) (a := a) (b := b) (xs := xs) (ys := ys) (by omega)) (fun i v G => DtAt G v (f i)) (fun i v G G' h e => h.ex e) (fun i v G D xs ys h hD _ => h.kp (upd_kp hD)) hn (fun G e => ⟨ex_l (e1.trans e) hx, ex_l (e1.trans e) hy⟩) ?_ (fun D us' G' hn' e hD' hl hall => q _ G' ⟨e1.trans e, D, rfl, fresh_back e1 hn', row_of hD' hl fun i v hv => (hall i v hv).2⟩) hD gt2_mono
  rintro i _ G _ hi e ⟨T, x, y, rfl, hT, rfl, hxi, hyi⟩
  have eT := Ex.new (o := .tup [x, y]) hT
  refine ⟨T, _, rfl, .inl (.inl upd_same), rfl, _, _, rfl, _, _, rfl, rfl, hw _ _, eT, fun Q' q' => hs i x y _ hi ((e1.trans e).trans eT) hxi hyi Q' fun v G' hv => q' v G' ⟨hv.1, hv.2, fun D xs hD => hv.2.off ((eT.trans hv.1) _ _ hD)⟩⟩
end
end D1
end
section
set_option Elab.async false
set_option linter.all false
set_option maxRecDepth 100000
set_option maxHeartbeats 4000000
/-! M5: webs' tables and rounds as sums -/
namespace D1
open PySem L2
def toW (k : RK) (d : PyData) : Wt k := if h : goodB k d = true then ⟨d, h⟩ else ⟨zeroD k, good_zero k⟩
theorem toW_val {k : RK} {d : PyData} (h : goodB k d = true) : (toW k d).1 = d := by
  unfold toW
  rw [dif_pos h]
/-- a step's weight, where it leads from i to j -/
def stW (k : RK) (i j : Nat) (s : Step) : Wt k := if s.1 = i ∧ s.2.1 = j then toW k s.2.2 else (WS k).zero
/-- the sums of the steps -/
def stA (k : RK) (ss : List Step) (i j : Nat) : Wt k := (WS k).ls (stW k i j) ss
theorem take_snoc {α : Type} {l : List α} {t : Nat} {x : α} (h : l[t]? = some x) : l.take (t + 1) = l.take t ++ [x] := by
  rw [List.take_succ, h]
  rfl
theorem ls_snoc {k : RK} {β : Type} (f : β → Wt k) {l : List β} {t : Nat} {x : β} (h : l[t]? = some x) : (WS k).ls f (l.take (t + 1)) = (WS k).add ((WS k).ls f (l.take t)) (f x) := by
  rw [take_snoc h, (WS k).ls_append]
  congr 1
  exact (WS k).add_zero _
/-- what a round makes of a row: with the steps to j -/
def nxW (k : RK) (r : Nat → Wt k) (j : Nat) (s : Step) : Wt k := if s.2.1 = j then (WS k).mul (r s.1) (toW k s.2.2) else (WS k).zero
def nxt (k : RK) (ss : List Step) (s : Nat) (r : Nat → Wt k) (j : Nat) : Wt k := (WS k).add ((WS k).dl s j) ((WS k).ls (nxW k r j) ss)
theorem nxt_sm {k : RK} {ss : List Step} {n : Nat} (hs : ∀ s ∈ ss, s.1 < n) (s : Nat) (r : Nat → Wt k) (j : Nat) : nxt k ss s r j = (WS k).add ((WS k).dl s j) ((WS k).sm (fun l => (WS k).mul (r l) (stA k ss l j)) n) := by
  unfold nxt stA
  congr 1
  rw [show (WS k).sm (fun l => (WS k).mul (r l) ((WS k).ls (stW k l j) ss)) n = (WS k).sm (fun l => (WS k).ls (fun s => (WS k).mul (r l) (stW k l j s)) ss) n from (WS k).sm_congr fun l _ => (WS k).mul_ls _ _, ← (WS k).ls_sm]
  refine (WS k).ls_congr fun s hm => ?_
  rw [(WS k).sm_one (hs s hm) fun l _ hl => by
    unfold stW
    rw [if_neg fun h => hl h.1.symm, (WS k).mul_zero]]
  unfold nxW stW
  by_cases h : s.2.1 = j
  · rw [if_pos h, if_pos ⟨rfl, h⟩]
  · rw [if_neg h, if_neg fun x => h x.2, (WS k).mul_zero]
/-- rounds by steps are rounds by sums -/
def rndW (k : RK) (ss : List Step) (s : Nat) : Nat → Nat → Wt k
  | 0 => (WS k).dl s
  | m + 1 => nxt k ss s (rndW k ss s m)
theorem rndW_eq {k : RK} {ss : List Step} {n : Nat} (hs : ∀ s ∈ ss, s.1 < n) (s : Nat) : ∀ m j, rndW k ss s m j = (WS k).rnd (stA k ss) n s m j
  | 0, j => rfl
  | m + 1, j => by
    show nxt k ss s (rndW k ss s m) j = _
    rw [show rndW k ss s m = (WS k).rnd (stA k ss) n s m from funext (rndW_eq hs s m), nxt_sm hs]
    rfl
/-! ### sizes of sums -/
theorem bd_ls {k : RK} {β : Type} {M : Nat} {f : β → Wt k} : ∀ {xs : List β}, (∀ x ∈ xs, Bd M (f x).1) → Bd (2 + xs.length * M) ((WS k).ls f xs).1
  | [], _ => (bd_zero k).up (by omega)
  | x :: xs, h => by
    have h1 := bd_ls (xs := xs) fun y hy => h y (List.mem_cons_of_mem _ hy)
    refine (bd_plus k (f x).2 ((WS k).ls f xs).2 (h x List.mem_cons_self) h1).up ?_
    rw [List.length_cons, Nat.succ_mul]
    omega
theorem bd_sm {k : RK} {M : Nat} {f : Nat → Wt k} : ∀ {n : Nat}, (∀ x, x < n → Bd M (f x).1) → Bd (2 + n * M) ((WS k).sm f n).1
  | 0, _ => (bd_zero k).up (by omega)
  | n + 1, h => by
    have h1 := bd_sm (n := n) fun y hy => h y (by omega)
    refine (bd_plus k ((WS k).sm f n).2 (f n).2 h1 (h n (Nat.lt_succ_self n))).up ?_
    rw [Nat.succ_mul]
    omega
theorem bd_stW {k : RK} {B i j : Nat} {s : Step} (g : goodB k s.2.2 = true) (h : Sz B s.2.2) : Bd (2 ^ B + 2) (stW k i j s).1 := by
  unfold stW
  split
  · rw [toW_val g]
    exact h.bd.up (by omega)
  · exact (bd_zero k).up (Nat.le_add_left _ _)
theorem bd_stA {k : RK} {B : Nat} {ss : List Step} (h : ∀ s ∈ ss, goodB k s.2.2 = true ∧ Sz B s.2.2) (i j : Nat) : Bd (2 + ss.length * (2 ^ B + 2)) (stA k ss i j).1 := bd_ls fun s hs => bd_stW (h s hs).1 (h s hs).2
end D1
end
section
set_option Elab.async false
set_option linter.all false
set_option maxRecDepth 100000
set_option maxHeartbeats 4000000
/-! R10: distances by taking out state by state -/
namespace D1
open PySem L2 Evl RZ ClX PySem.VX
/-- a kind's method is called -/
theorem kc {m : Str} {C : KC} {sp : Addr → Sp} {k : RK} {kv : V} {σ : L2.St} {H : Hp} {Q : VK} {tk : TE} {ta : TA} (hK : KindAt C H k kv) (hm : m ∉ fields) (hv : Ev tk σ H kv) (h : ∀ H1, Ex H H1 → ta σ H1 fun vs H2 => sp (C.cls k) (kv :: vs) H2 Q E0) : tMethA m (SK C sp) tk ta σ H Q := by
  obtain ⟨a, da, fs, rfl, ha, com⟩ := id hK.com
  exact hv H (Ex.refl H) _ fun H1 e1 => ⟨a, _, da, fs, _, rfl, SK.at k, e1 _ _ ha, com.no _ hm, h H1 e1⟩
theorem flat_rep (n : Nat) (v : V) : (List.replicate n [v]).flatten = List.replicate n v := List.flatten_replicate_singleton
theorem dt_rep {H : Hp} {v : V} {d : PyData} (h : DtAt H v d) (n : Nat) : DtAll H (List.replicate n v) (vec (fun _ => d) n) := dtAll_of (by rw [List.length_replicate, vec_len]) fun i u e hu he => by
  obtain ⟨_, rfl⟩ := List.mem_replicate.mp (List.mem_of_getElem? hu)
  obtain ⟨j, hj, rfl⟩ := List.mem_map.mp (List.mem_of_getElem? he)
  exact h
theorem RowAt.sq {K : PySem.W.Frag} {H : Hp} {v : V} {f : Nat → PyData} {n i : Nat} (h : RowAt H v (vec f n)) (hi : i < n) : ∃ p us u, v = .ref p ∧ SqL K H p us ∧ atI us (i : Int) = some u ∧ DtAt H u (f i) := by
  obtain ⟨p, us, u, h1, h2, h3, h4, _⟩ := h.get hi
  exact ⟨p, us, u, h1, sq_of h2, atI_nat h3, h4⟩
/-- weights in a table, in bounds -/
def SzT (B n : Nat) {k : RK} (f : Nat → Nat → Wt k) : Prop := ∀ i j, i < n → j < n → Sz B (f i j).1
def SzR (B n : Nat) {k : RK} (f : Nat → Wt k) : Prop := ∀ i, i < n → Sz B (f i).1
def tbN (k : RK) (f : Nat → Nat → Wt k) (m i j : Nat) : Wt k := (WS k).add (f i j) ((WS k).mul (f i m) ((WS k).mul (WSt k (f m m)) (f m j)))
def spSingle (C : KC) : Sp := fun vs H Q _ => ∃ (kv v : V) (k : RK) (n : Nat) (ss : List Step) (B : Nat), vs = [kv, v] ∧ KindAt C H k kv ∧ k.depth < 4 ∧ DtAt H v (webD n ss) ∧ WebOk k n ss ∧ (∀ s ∈ ss, Sz B s.2.2) ∧ B + 8 ≤ 4000 ∧ ∀ D H', Ex H H' → TabAt (fun a => H a = none) H' D n (fun i j => (stA k ss i j).1) → Q (.ref D) H'
def spWays (C : KC) : Sp := fun vs H Q _ => ∃ (kv rv iv ov : V) (k : RK) (n : Nat) (f g : Nat → Wt k) (w : Wt k) (B : Nat), vs = [kv, rv, iv, ov] ∧ KindAt C H k kv ∧ k.depth < 4 ∧ n ≤ 12 ∧ RowAt H rv (vec (fun j => (f j).1) n) ∧ DtAt H iv w.1 ∧ RowAt H ov (vec (fun j => (g j).1) n) ∧ SzR B n f ∧ Sz B w.1 ∧ SzR B n g ∧ 2 * B ≤ 4000 ∧ 0 < B ∧ ∀ D H', H D = none → Ex H H' → RowAt H' (.ref D) (vec (fun j => ((WS k).add (f j) ((WS k).mul w (g j))).1) n) → Q (.ref D) H'
def spOver (C : KC) : Sp := fun vs H Q _ => ∃ (kv : V) (k : RK) (n m : Nat) (f : Nat → Nat → Wt k) (D0 : Addr) (N : Addr → Prop) (B : Nat), vs = [kv, .ref D0, .int (m : Int)] ∧ KindAt C H k kv ∧ k.depth < 4 ∧ k.ok ∧ n ≤ 12 ∧ m < n ∧ TabAt N H D0 n (fun i j => (f i j).1) ∧ SzT B n f ∧ 2 * B + 24 ≤ 4000 ∧ 0 < B ∧ ∀ D H', Ex H H' → TabAt (fun a => H a = none) H' D n (fun i j => (tbN k f m i j).1) → Q (.ref D) H'
section
variable {P : Program} {w : World} {K : PySem.W.Frag} {mg : Str → Option Value} {base : Heap}
end
end D1
end
section
set_option Elab.async false
set_option linter.all false
set_option maxRecDepth 100000
set_option maxHeartbeats 4000000
/-! R11n: by_states, by_rounds -/
namespace D1
open PySem L2 Evl RZ ClX PySem.VX
def tbK (k : RK) (ss : List Step) : Nat → Nat → Nat → Wt k := (WS k).tb (WSt k) (stA k ss)
def finK (k : RK) (ss : List Step) (n i j : Nat) : Wt k := (WS k).fin (WSt k) (stA k ss) n i j
/-- the last loop's table, so far -/
def finT (k : RK) (ss : List Step) (n t i j : Nat) : Wt k := if i = j ∧ i < t then (WS k).add (WS k).one (tbK k ss n i j) else tbK k ss n i j
theorem finT_0 (k : RK) (ss : List Step) (n i j : Nat) : finT k ss n 0 i j = tbK k ss n i j := if_neg fun h => Nat.not_lt_zero _ h.2
theorem finT_n (k : RK) (ss : List Step) (n i j : Nat) (hi : i < n) : finT k ss n n i j = finK k ss n i j := by
  unfold finT finK SR.fin
  by_cases h : i = j
  · rw [if_pos ⟨h, hi⟩, if_pos h]
    rfl
  · rw [if_neg fun x => h x.1, if_neg h]
    rfl
def spStates (C : KC) (CR : Addr) : Sp := fun vs H Q _ => ∃ (r v : V) (k : RK) (n : Nat) (ss : List Step) (B : Nat), vs = [r, v] ∧ RingAt C CR H r k ∧ k.depth < 4 ∧ k.ok ∧ DtAt H v (webD n ss) ∧ WebOk k n ss ∧ (∀ s ∈ ss, Sz B s.2.2) ∧ 0 < B ∧ 2 * B + 24 ≤ 4000 ∧ (∀ m, m ≤ n → SzT B n (tbK k ss m)) ∧ ∀ D H', Ex H H' → TabAt (fun a => H a = none) H' D n (fun i j => (finK k ss n i j).1) → Q (.ref D) H'
/-! ### rounds -/
def bey (k : RK) (a b : Wt k) : Wt k := ⟨beyondD k a.1 b.1, good_beyond k a.2 b.2⟩
/-- the rows of the last rounds: x_0 = after, row = x + beyond, x' = next row -/
def lastX (k : RK) (ss : List Step) (s n : Nat) (b : Nat → Wt k) : Nat → Nat → Wt k
  | 0 => rndW k ss s n
  | t + 1 => nxt k ss s (fun j => (WS k).add (lastX k ss s n b t j) (b j))
def beyR (k : RK) (ss : List Step) (s n j : Nat) : Wt k := bey k (rndW k ss s (n - 1) j) (rndW k ss s n j)
/-- what by_rounds tells -/
def rounds (k : RK) (ss : List Step) (s n j : Nat) : Wt k := (WS k).add (lastX k ss s n (beyR k ss s n) (n - 1) j) (beyR k ss s n j)
def spBegun (C : KC) : Sp := fun vs H Q _ => ∃ (kv v : V) (k : RK) (n s : Nat) (ss : List Step), vs = [kv, v, .int (s : Int)] ∧ KindAt C H k kv ∧ k.depth < 4 ∧ DtAt H v (webD n ss) ∧ n ≤ 12 ∧ ∀ x H', NewRow H (vec (fun j => ((WS k).dl s j).1) n) x H' → Q x H'
def spNxt (C : KC) : Sp := fun vs H Q _ => ∃ (kv v rv : V) (k : RK) (n s : Nat) (ss : List Step) (f : Nat → Wt k) (B Bw : Nat), vs = [kv, v, .int (s : Int), rv] ∧ KindAt C H k kv ∧ k.depth < 4 ∧ k.ok ∧ DtAt H v (webD n ss) ∧ WebOk k n ss ∧ (∀ s ∈ ss, Sz Bw s.2.2) ∧ RowAt H rv (vec (fun j => (f j).1) n) ∧ SzR B n f ∧ 0 < B ∧ 0 < Bw ∧ B + Bw + 24 ≤ 4000 ∧ ∀ x H', NewRow H (vec (fun j => (nxt k ss s f j).1) n) x H' → Q x H'
def spRounds (C : KC) (CR : Addr) : Sp := fun vs H Q _ => ∃ (r v : V) (k : RK) (n s : Nat) (ss : List Step) (B Bw : Nat), vs = [r, v, .int (s : Int)] ∧ RingAt C CR H r k ∧ k.depth < 4 ∧ k.ok ∧ DtAt H v (webD n ss) ∧ WebOk k n ss ∧ s < n ∧ (∀ s ∈ ss, Sz Bw s.2.2) ∧ 0 < B ∧ 0 < Bw ∧ B + Bw + 24 ≤ 4000 ∧ (∀ m, m ≤ n → SzR B n (rndW k ss s m)) ∧ (∀ t, t ≤ n → SzR B n (lastX k ss s n (beyR k ss s n) t)) ∧ (∀ t, t ≤ n → SzR B n (fun j => (WS k).add (lastX k ss s n (beyR k ss s n) t j) (beyR k ss s n j))) ∧ ∀ x H', NewRow H (vec (fun j => (rounds k ss s n j).1) n) x H' → Q x H'
section
variable {P : Program} {w : World} {K : PySem.W.Frag} {mg : Str → Option Value} {base : Heap}
end
end D1
end
section
set_option Elab.async false
set_option linter.all false
set_option maxRecDepth 100000
set_option maxHeartbeats 4000000
/-! L2: _law_next -/
namespace D1
open PySem L2 Evl RZ ClX PySem.VX
theorem q_ifP {t : TT} {tu tz : TS} {D : Ends} {σ : L2.St} {H : Hp} {b : Bool} (M : Hp → Prop) (h : EvT t σ H b) (h1 : b = true → ∀ H1, Ex H H1 → ∀ D' : Ends, (∀ H2, M H2 → D'.nx σ H2) → tu D' σ H1) (h2 : b = false → ∀ H1, Ex H H1 → M H1) (k : ∀ H2, M H2 → tz D σ H2) : tSeq (tIfS t tu tNext) tz D σ H :=
  q_when h (fun hb H1 e1 => h1 hb H1 e1 { D with nx := tz D } k) (fun hb H1 e1 => k H1 (h2 hb H1 e1))
theorem et_neNil {K : PySem.W.Frag} {ta : TE} {σ : L2.St} {H : Hp} {p : Addr} {ls : List Int} (h : Ev ta σ H (.ref p)) (hp : SqL K H p (ls.map V.int)) : EvT (tTest (tOp (rNeD K) ta (tLst tNil))) σ H (!ls.isEmpty) := fun H1 e Q q =>
  h H1 e _ fun H2 e2 => ⟨(by show 0 ≤ sizeLine; decide), fun r hr => ⟨.list (ls.map PyData.int), .list [], .lst (ex_l ((e.trans e2).trans (Ex.new hr)) hp) (dp_ints2 ls), .lst (sq_of upd_same) .nil, shaped_ints ls, rfl, _, by rw [eqv_nil], q _ (e2.trans (Ex.new hr))⟩⟩
theorem dmk {m pc pg : Addr} {cs : List Int} {a j : Nat} {r : Int} {gs : List Int} {H : Hp} (h : DS m pc pg cs j H) (r0 : 0 ≤ r) (ha : a ≤ j) (hg : H pg = some (.lst (gs.map V.int))) (g0 : ∀ g ∈ gs, 0 < g) (gl : gs.length ≤ 63) : DS m pc pg cs j (upd H m (.lst [.ref pc, .int (a : Int), .int r, .ref pg])) :=
  ⟨h.mc, h.mg, h.cg, h.cne, by rw [upd_ne (Ne.symm h.mc)]; exact h.hc, a, r, gs, upd_same, by rw [upd_ne (Ne.symm h.mg)]; exact hg, ha, r0, g0, gl⟩
section
variable {P : Program} {w : World} {K : PySem.W.Frag} {mg : Str → Option Value} {base : Heap}
abbrev s_next : Stmt := top 92
theorem sc_next : FnScope ["_law_draw_here", "_law_many", "_law_found", "_law_cell"] ["_law_draw_here", "_law_many"] (defScope s_next) := ⟨rfl, rfl, rfl, by decide +kernel, rfl, by decide +kernel, by decide +kernel⟩
theorem ok_next {f : Addr} {fd : FuncData} (F : FnP K "_law_next" s_next f fd) {f_mixed : Addr} {fd_mixed : FuncData} (F_mixed : FnP K "_law_mixed" s_mixed f_mixed fd_mixed) (g_mixed : mg "_law_mixed" = some (.ref f_mixed)) (G_mixed : FnOk P w K mg base (CX0) 1 f_mixed fd_mixed ["_law_cell", "_law_k"] (spMixed)) (z_len : mg "len" = none) : FnOk P w K mg base (CX0) 2 f fd ["_law_draw_here", "_law_many"] (spNext) := by
  have b_mixed : Binds K fd_mixed ["_law_cell", "_law_k"] [] := F_mixed.bindsN fun _ _ _ _ _ _ us hl => match us, hl with | [_, _], _ => rfl
  refine F.ok (CX := CX0) sc_next (fun vs H Q E h => ?_) (fun cdv A outer s H vs Q E hr h => ?_)
  · obtain ⟨m, pc, pg, cs, j, n, rfl, _⟩ := h
    rfl
  · obtain ⟨m, pc, pg, cs, j, n, rfl, hD, hj, n0, n1, q⟩ := h
    have hu := hu_of hr
    have hu64 := hr.units
    have hr_mixed := hr
    refine ⟨_, PSs.nox (pss_cons (ps_if (PW.pt (pw_and (pt_cmpR op_eq (pe_ix ix_list (pv 0) pe_int (fun _ _ => rfl)) pe_int (nomark _)) (pw_and1 (pt_cmpR (op_neD hu64) (pe_ix ix_list (pv 0) pe_int (fun _ _ => rfl)) (pe_lst pa_nil) (nomark _))))) (pss_one (ps_asg (pe_bm PySem.F.plainAttrs_list PySem.F.slot_list_pop PySem.F.type_list_pop mt_popAt (pe_ix ix_list (pv 0) pe_int (fun _ _ => rfl)) (pa_cons pe_int pa_nil)) (pg_sub (pv 0) pe_int set_list))) pss_nil)
      (pss_cons (ps_if (pt_cmpR op_gt (pe_ix ix_list (pv 0) pe_int (fun _ _ => rfl)) pe_int (nomark _)) (pss_cons (ps_set (i := 2) sc_next.nd rfl (Or.inl rfl) (pe_op op_mod (pe_ix ix_list (pv 0) pe_int (fun _ _ => rfl)) (pv 1)))
      (pss_cons (ps_asg (pe_op op_fdivW (pe_ix ix_list (pv 0) pe_int (fun _ _ => rfl)) (pv 1)) (pg_sub (pv 0) pe_int set_list))
      (pss_one (ps_ret (pv 2))))) pss_nil)
      (pss_cons (ps_asg (pe_op op_add (pe_ix ix_list (pv 0) pe_int (fun _ _ => rfl)) pe_int) (pg_sub (pv 0) pe_int set_list))
      (pss_cons (ps_set (i := 3) sc_next.nd rfl (Or.inl rfl) (pe_ix ix_list (pe_ix ix_list (pv 0) pe_int (fun _ _ => rfl)) (pe_op op_mod (pe_ix ix_list (pv 0) pe_int (fun _ _ => rfl)) (pe_callB call_len_seq (by rfl) z_len PySem.boot_len (pa_cons (pe_ix ix_list (pv 0) pe_int (fun _ _ => rfl)) pa_nil))) (fun _ _ => rfl)))
      (pss_one (ps_ret (pe_op op_mod (pe_op op_fdiv (pe_op op_add (pe_op op_mul (pe_call G_mixed hr_mixed rfl g_mixed F_mixed.kp b_mixed .nil pass0 (pa_cons (pv 3) (pa_cons (pe_ix ix_list (pv 0) pe_int (fun _ _ => rfl)) pa_nil))) pe_int) (pe_call G_mixed hr_mixed rfl g_mixed F_mixed.kp b_mixed .nil pass0 (pa_cons (pv 3) (pa_cons (pe_op op_add (pe_ix ix_list (pv 0) pe_int (fun _ _ => rfl)) pe_int) pa_nil)))) pe_int) (pv 1)))))))), ?_⟩
    obtain ⟨a, r, gs, hm, hg, ha, r0, g0, gl⟩ := hD.ex
    refine q_ifP (M := RD m pc pg cs j H) (b := (r == 0) && !gs.isEmpty) (et_and (et_test (ev_eqI (ev_op (ev_var rfl) ev_c (rv_ixL (sq_of hm) rfl)) ev_c)) fun _ => et_neNil (ev_op (ev_var rfl) ev_c (rv_ixL (sq_of hm) rfl)) (sq_of hg)) (fun hb H1 e1 D' k' => ?_) (fun _ H1 e1 => .ofEx hD e1) (fun H2 rd => ?_)
    · cases gs with
      | nil =>
        rw [Bool.and_eq_true] at hb
        cases hb.2
      | cons g gs =>
        have hm1 := e1 _ _ hm
        have hg1 := e1 _ _ hg
        have hD1 : DS m pc pg cs j (upd H1 pg (.lst (gs.map V.int))) := ⟨hD.mc, hD.mg, hD.cg, hD.cne, by rw [upd_ne hD.cg]; exact e1 _ _ hD.hc, a, r, gs, by rw [upd_ne hD.mg]; exact hm1, upd_same, ha, r0, fun x hx => g0 x (List.mem_cons_of_mem _ hx), by rw [List.length_cons] at gl; omega⟩
        refine ⟨_, rfl, m, _, 3, .ref pg, rfl, rfl, sq_of hm1, rfl, .inl ⟨rfl, _, sq_of hg1⟩, pg, _, 0, 0, .int g, rfl, rfl, hg1, by decide, by decide, seq0 (by rw [List.length_map, List.length_cons]; omega), rfl, ?_⟩
        refine ⟨_, rfl, m, [.ref pc, .int (a : Int), .int r, .ref pg], 2, 2, rfl, rfl, by show (upd H1 pg _) m = _; rw [upd_ne hD.mg]; exact hm1, rfl, k' _ ⟨dmk hD1 (Int.le_of_lt (g0 g List.mem_cons_self)) ha upd_same (fun x hx => g0 x (List.mem_cons_of_mem _ hx)) (by rw [List.length_cons] at gl; omega), fun b o nc hb => ?_⟩⟩
        have n1 : b ≠ m := fun z => nc (.inl z)
        have n2 : b ≠ pg := fun z => nc (.inr z)
        rw [upd_ne n1, show (upd H1 pg (.lst ((List.map V.int (g :: gs)).eraseIdx 0))) b = _ from upd_ne n2]
        exact e1 _ _ hb
    · clear hm hg ha r0 g0 gl
      have hD2 := rd.inv
      obtain ⟨a, r, gs, hm, hg, ha, r0, g0, gl⟩ := hD2.ex
      have set2 : ∀ {H3 : Hp} {o : HO}, Ex H2 H3 → DS m pc pg cs (j + 1) (upd H3 m o) → RD m pc pg cs (j + 1) H (upd H3 m o) := fun {H3 o} e h => ⟨h, fun b u nc hb => by
        rw [upd_ne (fun z => nc (.inl z))]
        exact e _ _ (rd.keep b u nc hb)⟩
      have up1 : ∀ {H3 : Hp}, Ex H2 H3 → DS m pc pg cs (j + 1) H3 := fun {H3} e => DS.up ((frD m pc pg cs j).mono _ _ e hD2) (Nat.le_succ j)
      refine q_when (b := decide (0 < r)) (et_test (ev_gtI (ev_op (ev_var rfl) ev_c (rv_ixL (sq_of hm) rfl)) ev_c)) (fun hb H3 e3 => ?_) (fun hb H3 e3 => ?_)
      · have hm3 := e3 _ _ hm
        refine q_asg (v := .int (r % n)) (ev_op (ev_op (ev_var rfl) ev_c (rv_ixL (sq_of hm3) rfl)) (ev_var rfl) (rv_I n0)) fun H4 e4 => ?_
        have hm4 := e4 _ _ hm3
        refine q_setL (l := m) (j := 2) (v := .int (r / n)) hm4 (ev_op (ev_op (ev_var rfl) ev_c (rv_ixL (sq_of hm4) rfl)) (ev_var rfl) (rv_I ⟨n0, n1⟩)) (ev_var rfl) ev_c (by show 2 < 4; decide) fun H5 e5 => ?_
        have e := (e3.trans e4).trans e5
        refine s_ret (ev_var rfl) fun H6 e6 => q _ H6 (Int.emod_nonneg _ (by omega)) (Int.emod_lt_of_pos _ n0) (RD.then (set2 (o := .lst [.ref pc, .int (a : Int), .int (r / n), .ref pg]) e (dmk (up1 e) (Int.ediv_nonneg r0 (Int.le_of_lt n0)) (by omega) (e _ _ hg) g0 gl)) (.ofEx (dmk (up1 e) (Int.ediv_nonneg r0 (Int.le_of_lt n0)) (by omega) (e _ _ hg) g0 gl) e6))
      · have hm3 := e3 _ _ hm
        refine q_setL (l := m) (j := 1) (v := .int ((a : Int) + 1)) hm3 (ev_op (ev_op (ev_var rfl) ev_c (rv_ixL (sq_of hm3) rfl)) ev_c rv_I0) (ev_var rfl) ev_c (by show 1 < 4; decide) fun H4 e4 => ?_
        change tSeq _ _ _ _ (upd H4 m (.lst [.ref pc, .int ((a : Int) + 1), .int r, .ref pg]))
        have e := e3.trans e4
        have hD4 : DS m pc pg cs (j + 1) (upd H4 m (.lst [.ref pc, .int ((a : Int) + 1), .int r, .ref pg])) := dmk (a := a + 1) (up1 e) r0 (by omega) (e _ _ hg) g0 gl
        have rd4 := set2 (o := .lst [.ref pc, .int ((a : Int) + 1), .int r, .ref pg]) e hD4
        have hm5 : (upd H4 m (.lst [.ref pc, .int ((a : Int) + 1), .int r, .ref pg])) m = some (.lst [.ref pc, .int ((a : Int) + 1), .int r, .ref pg]) := upd_same
        have hc5 := hD4.hc
        have l0 : 0 < cs.length := List.length_pos_iff.mpr hD.cne
        have hi : ∃ c : Int, atI (cs.map V.int) (((a : Int) + 1) % (cs.length : Int)) = some (.int c) := by
          have h0 := Int.emod_nonneg ((a : Int) + 1) (b := (cs.length : Int)) (by omega)
          have h1 := Int.emod_lt_of_pos ((a : Int) + 1) (b := (cs.length : Int)) (by omega)
          have h2 : (((a : Int) + 1) % (cs.length : Int)).toNat < cs.length := by omega
          exact ⟨_, atI_of h0 (int_get (List.getElem?_eq_getElem h2))⟩
        obtain ⟨c, hc⟩ := hi
        generalize (upd H4 m (.lst [.ref pc, .int ((a : Int) + 1), .int r, .ref pg])) = G at hD4 rd4 hm5 hc5 ⊢
        refine q_asg (v := .int c) (ev_op (ev_op (ev_var rfl) ev_c (rv_ixL (sq_of hm5) rfl)) (ev_op (ev_op (ev_var rfl) ev_c (rv_ixL (sq_of hm5) rfl)) (ev_is (ev_lenQ (q := true) (ev_op (ev_var rfl) ev_c (rv_ixL (sq_of hm5) rfl)) (.inl ⟨rfl, sq_of hc5⟩)) (by rw [List.length_map])) (rv_I (by omega : (0 : Int) < (cs.length : Int)))) (rv_ixL (sq_of hc5) hc)) fun H6 e6 => ?_
        have hm6 := e6 _ _ hm5
        refine ⟨_, rfl, _, rfl, m, _, 1, _, rfl, rfl, sq_of hm6, rfl, c, _, rfl, by omega, by omega, fun x1 H7 x0 x2 e7 => ?_⟩
        have hm7 := e7 _ _ hm6
        refine ⟨x1, 2147483647, rfl, rfl, .inr ⟨by decide, by decide⟩, ?_⟩
        refine ⟨_, rfl, _, rfl, m, _, 1, _, rfl, rfl, sq_of hm7, rfl, _, _, rfl, rfl, c, _, rfl, by omega, by omega, fun y1 H8 y0 y2 e8 => ?_⟩
        refine ⟨_, y1, rfl, rfl, _, 23, rfl, rfl, ⟨by decide, by decide⟩, _, rfl, _, n, rfl, rfl, n0, ?_⟩
        exact q _ H8 (Int.emod_nonneg _ (by omega)) (Int.emod_lt_of_pos _ n0) (rd4.then (.ofEx hD4 ((e6.trans e7).trans e8)))
end
end D1
end
section
set_option Elab.async false
set_option linter.all false
set_option maxRecDepth 100000
set_option maxHeartbeats 4000000
/-! L3: the law's rings, ZERO, ONE -/
namespace D1
open PySem L2 Evl RZ ClX PySem.VX
def costR : Nat → Nat
  | 0 => 3
  | d + 1 => 2 * costR d + 1
def spLRing (n : Nat) : Sp := fun vs H Q _ => ∃ (m pc pg : Addr) (cs : List Int) (j d : Nat), vs = [.ref m, .int (d : Int)] ∧ d < n ∧ DS m pc pg cs j H ∧ j + costR d ≤ 100000 ∧ ∀ (k : RK) v H', k.ok → k.depth ≤ d → RD m pc pg cs (j + costR d) H H' → DtAt H' v (madeD k) → Q v H'
def spLZero (n : Nat) : Sp := fun vs H Q _ => ∃ (v : V) (k : RK), vs = [v] ∧ DtAt H v (madeD k) ∧ k.depth < n ∧ ∀ x H', Ex H H' → DtAt H' x (zeroD k) → Q x H'
def spLOne (n : Nat) : Sp := fun vs H Q _ => ∃ (v : V) (k : RK), vs = [v] ∧ DtAt H v (madeD k) ∧ k.depth < n ∧ k.ok ∧ ∀ x H', Ex H H' → DtAt H' x (oneD k) → Q x H'
def zeroV (t : Addr) : RK → V
  | .truth => .bl false
  | .share => .ref t
  | .least => .str "none"
  | .most => .str "none"
  | _ => .int 0
def zeroKv (t : Addr) : List (Key × V) := [(.inr "truth", .bl false), (.inr "share", .ref t), (.inr "least", .str "none"), (.inr "most", .str "none")]
theorem zero_get (t : Addr) {k : RK} (hk : ∀ a b, k ≠ .pair a b) : (valV (mergeK [] (zeroKv t)) (.inr (nameOf k) : Key)).getD (.int 0) = zeroV t k := by
  cases k with
  | pair a b => exact absurd rfl (hk a b)
  | _ => rfl
theorem zero_at {H : Hp} {t : Addr} (h : H t = some (.tup [.int 0, .int 1])) {k : RK} (hk : ∀ a b, k ≠ .pair a b) : DtAt H (zeroV t k) (zeroD k) := by
  cases k with
  | pair a b => exact absurd rfl (hk a b)
  | share => exact .tup h (.cons (.int 0) (.cons (.int 1) .nil))
  | truth => exact .bl false
  | least => exact .str _
  | most => exact .str _
  | _ => exact .int 0
def oneV (t : Addr) : RK → V
  | .truth => .bl true
  | .count => .int 1
  | .narrow => .str "endless"
  | .share => .ref t
  | _ => .int 0
def oneKv (t : Addr) : List (Key × V) := [(.inr "truth", .bl true), (.inr "count", .int 1), (.inr "narrow", .str "endless"), (.inr "share", .ref t)]
theorem one_get (t : Addr) {k : RK} (hk : ∀ a b, k ≠ .pair a b) : (valV (mergeK [] (oneKv t)) (.inr (nameOf k) : Key)).getD (.int 0) = oneV t k := by
  cases k with
  | pair a b => exact absurd rfl (hk a b)
  | _ => rfl
theorem one_at {H : Hp} {t : Addr} (h : H t = some (.tup [.int 1, .int 1])) {k : RK} (hk : ∀ a b, k ≠ .pair a b) (hl : ∀ n, k ≠ .lot n) : DtAt H (oneV t k) (oneD k) := by
  cases k with
  | pair a b => exact absurd rfl (hk a b)
  | lot n => exact absurd rfl (hl n)
  | share => exact .tup h (.cons (.int 1) (.cons (.int 1) .nil))
  | truth => exact .bl true
  | narrow => exact .str _
  | count => exact .int 1
  | _ => exact .int 0
theorem is_pair {k : RK} : (∀ a b, k ≠ .pair a b) ∨ ∃ a b, k = .pair a b := by cases k <;> first | exact .inr ⟨_, _, rfl⟩ | exact .inl fun a b h => by cases h
theorem name_pair {k : RK} (hk : ∀ a b, k ≠ .pair a b) : nameOf k ≠ ("pair" : Str) := by
  cases k with
  | pair a b => exact absurd rfl (hk a b)
  | _ => intro h; exact absurd h (by first | decide | (show ¬(("lot" : Str) = "pair"); decide))
theorem name_lot {k : RK} (hk : ∀ n, k ≠ .lot n) : nameOf k ≠ ("lot" : Str) := by
  cases k with
  | lot n => exact absurd rfl (hk n)
  | _ => intro h; exact absurd h (by first | decide | (show ¬(("pair" : Str) = "lot"); decide))
/-- made[0] == 'name' -/
theorem et_kind {K : PySem.W.Frag} {te : TE} {σ : L2.St} {H : Hp} {a : Addr} {xs : List V} {k : RK} {z : Str} (h : Ev te σ H (.ref a)) (ha : H a = some (.tup (.str (nameOf k) :: xs))) : EvT (tTest (tOp rEq (tOp (rIxT K) te (tC (.int 0))) (tC (.str z)))) σ H (nameOf k == z) :=
  et_test (ev_eqS (ev_op h ev_c (rv_ixT (st_of ha) (v := .str (nameOf k)) (atI_of (Int.le_refl 0) rfl))) ev_c)
section
variable {P : Program} {w : World} {K : PySem.W.Frag} {mg : Str → Option Value} {base : Heap}
abbrev s_zero : Stmt := top 94
theorem sc_zero : FnScope ["_law_made"] ["_law_made"] (defScope s_zero) := ⟨rfl, rfl, rfl, by decide +kernel, rfl, by decide +kernel, by decide +kernel⟩
theorem ok_zero {f : Addr} {fd : FuncData} (F : FnP K "_law_zero" s_zero f fd) (g_zero : mg "_law_zero" = some (.ref f)) : ∀ d : Nat, FnOk P w K mg base CX0 (d + 1) f fd ["_law_made"] (spLZero d) := by
  have F_zero := F
  have b_zero : Binds K fd ["_law_made"] [] := F_zero.bindsN fun _ _ _ _ _ _ us hl => match us, hl with | [_], _ => rfl
  intro d
  induction d with
  | zero =>
    refine fn_never fun vs H Q E h => ?_
    obtain ⟨v, k, rfl, hM, hn, q⟩ := h
    exact Nat.not_lt_zero _ hn
  | succ d ih =>
    have G_zero := ih
    refine F.ok sc_zero (fun vs H Q E h => ?_) (fun cdv A outer s H vs Q E hr h => ?_)
    · obtain ⟨v, k, rfl, _⟩ := h
      rfl
    · obtain ⟨v, k, rfl, hM, hn, q⟩ := h
      have hu := hu_of hr
      have hu64 := hr.units
      have hr_zero := hr
      refine ⟨_, PSs.nox (pss_cons (ps_if (pt_cmpR op_eq (pe_ix ix_tup (pv 0) pe_int (fun _ _ => rfl)) pe_str (nomark _)) (pss_one (ps_ret (pe_tup (pa_cons (pe_call G_zero hr_zero rfl g_zero F_zero.kp b_zero .nil pass0 (pa_cons (pe_ix ix_tup (pv 0) pe_int (fun _ _ => rfl)) pa_nil)) (pa_cons (pe_call G_zero hr_zero rfl g_zero F_zero.kp b_zero .nil pass0 (pa_cons (pe_ix ix_tup (pv 0) pe_int (fun _ _ => rfl)) pa_nil)) pa_nil))))) pss_nil)
      (pss_one (ps_ret (pe_dget2 hu (pe_disp (pps_cons pe_str pe_bl (pps_cons pe_str (pe_tup (pa_cons pe_int (pa_cons pe_int pa_nil))) (pps_cons pe_str pe_str (pps_cons pe_str pe_str pps_nil)))) (by rfl) (by rfl) (fun z => by cases z) (by decide)) (pe_ix ix_tup (pv 0) pe_int (fun _ _ => rfl)) pe_int ⟨rfl, rfl, rfl, rfl⟩)))), ?_⟩
      obtain ⟨a, xs, rfl, ha, h1, h2, h3⟩ := made_at hM
      rcases is_pair (k := k) with hp | ⟨kl, kr, rfl⟩
      · refine q_when (b := false) (et_is (et_kind (ev_var rfl) ha) (beq_eq_false_iff_ne.mpr (name_pair hp))) (fun hb => (by cases hb)) (fun _ H1 e1 => ?_)
        refine fun p hpn => ⟨by show 2 ≤ sizeLine; decide, fun t ht => ?_⟩
        have hpt : p ≠ t := fun z => by rw [← z, upd_same] at ht; cases ht
        have e2 : Ex H1 (upd (upd H1 p (.dK [])) t (.tup [.int 0, .int 1])) := (Ex.new hpn).trans (Ex.new ht)
        refine ⟨by rw [upd_ne hpt]; exact upd_same, zeroKv t, rfl, by show 4 ≤ 15; decide, p, rfl, .inl ⟨_, .inl upd_same⟩, ?_⟩
        generalize hG : (upd (upd (upd H1 p (.dK [])) t (.tup [.int 0, .int 1])) p (.dK (mergeK [] (zeroKv t)))) = G
        have eG : Ex H1 G := hG ▸ Ex.mut e2 hpn
        have hpG : G p = some (.dK (mergeK [] (zeroKv t))) := by rw [← hG, upd_same]
        have htG : G t = some (.tup [.int 0, .int 1]) := by rw [← hG, upd_ne (Ne.symm hpt), upd_same]
        refine ⟨_, rfl, a, _, 0, .str (nameOf k), rfl, rfl, st_of (eG _ _ (e1 _ _ ha)), atI_of (Int.le_refl 0) rfl, _, DGet.k (k := .inr (nameOf k)) hpG, ?_⟩
        rw [zero_get t hp]
        exact q _ _ (e1.trans eG) (zero_at htG hp)
      · obtain ⟨u, u', rfl, hy, hz⟩ := h3 kl kr rfl
        refine q_when (b := true) (et_is (et_kind (ev_var rfl) ha) (by show (("pair" : Str) == "pair") = true; decide +kernel)) (fun _ H1 e1 => ?_) (fun hb => (by cases hb))
        have ha1 := e1 _ _ ha
        refine ⟨_, rfl, a, _, 1, u, rfl, rfl, st_of ha1, rfl, u, kl, rfl, hy.ex e1, depth_l hn, fun x H2 e2 hx => ?_⟩
        have e12 := e1.trans e2
        refine ⟨_, rfl, a, _, 2, u', rfl, rfl, st_of (e12 _ _ ha), rfl, u', kr, rfl, hz.ex e12, depth_r hn, fun y H3 e3 hy2 => ⟨by show 2 ≤ sizeLine; decide, fun l hl => ?_⟩⟩
        exact q _ _ ((e12.trans e3).trans (Ex.new hl)) (.new hl (.cons (hx.ex e3) (.cons hy2 .nil)))
abbrev s_one : Stmt := top 95
theorem sc_one : FnScope ["_law_made"] ["_law_made"] (defScope s_one) := ⟨rfl, rfl, rfl, by decide +kernel, rfl, by decide +kernel, by decide +kernel⟩
theorem ok_one {f : Addr} {fd : FuncData} (F : FnP K "_law_one" s_one f fd) (g_one : mg "_law_one" = some (.ref f)) : ∀ d : Nat, FnOk P w K mg base CX0 (d + 1) f fd ["_law_made"] (spLOne d) := by
  have F_one := F
  have b_one : Binds K fd ["_law_made"] [] := F_one.bindsN fun _ _ _ _ _ _ us hl => match us, hl with | [_], _ => rfl
  intro d
  induction d with
  | zero =>
    refine fn_never fun vs H Q E h => ?_
    obtain ⟨v, k, rfl, hM, hn, ok, q⟩ := h
    exact Nat.not_lt_zero _ hn
  | succ d ih =>
    have G_one := ih
    refine F.ok sc_one (fun vs H Q E h => ?_) (fun cdv A outer s H vs Q E hr h => ?_)
    · obtain ⟨v, k, rfl, _⟩ := h
      rfl
    · obtain ⟨v, k, rfl, hM, hn, ok, q⟩ := h
      have hu := hu_of hr
      have hu64 := hr.units
      have hr_one := hr
      refine ⟨_, PSs.nox (pss_cons (ps_if (pt_cmpR op_eq (pe_ix ix_tup (pv 0) pe_int (fun _ _ => rfl)) pe_str (nomark _)) (pss_one (ps_ret (pe_tup (pa_cons (pe_call G_one hr_one rfl g_one F_one.kp b_one .nil pass0 (pa_cons (pe_ix ix_tup (pv 0) pe_int (fun _ _ => rfl)) pa_nil)) (pa_cons (pe_call G_one hr_one rfl g_one F_one.kp b_one .nil pass0 (pa_cons (pe_ix ix_tup (pv 0) pe_int (fun _ _ => rfl)) pa_nil)) pa_nil))))) pss_nil)
      (pss_cons (ps_if (pt_cmpR op_eq (pe_ix ix_tup (pv 0) pe_int (fun _ _ => rfl)) pe_str (nomark _)) (pss_one (ps_ret (pe_op op_sub (pe_op op_shl pe_int (pe_ix ix_tup (pv 0) pe_int (fun _ _ => rfl))) pe_int))) pss_nil)
      (pss_one (ps_ret (pe_dget2 hu (pe_disp (pps_cons pe_str pe_bl (pps_cons pe_str pe_int (pps_cons pe_str pe_str (pps_cons pe_str (pe_tup (pa_cons pe_int (pa_cons pe_int pa_nil))) pps_nil)))) (by rfl) (by rfl) (fun z => by cases z) (by decide)) (pe_ix ix_tup (pv 0) pe_int (fun _ _ => rfl)) pe_int ⟨rfl, rfl, rfl, rfl⟩))))), ?_⟩
      obtain ⟨a, xs, rfl, ha, h1, h2, h3⟩ := made_at hM
      rcases is_pair (k := k) with hp | ⟨kl, kr, rfl⟩
      · refine q_when (b := false) (et_is (et_kind (ev_var rfl) ha) (beq_eq_false_iff_ne.mpr (name_pair hp))) (fun hb => (by cases hb)) (fun _ H0 e0 => ?_)
        rcases is_lot (k := k) with hnl | ⟨n, rfl⟩
        · refine q_when (b := false) (et_is (et_kind (ev_var rfl) (e0 _ _ ha)) (beq_eq_false_iff_ne.mpr (name_lot hnl))) (fun hb => (by cases hb)) (fun _ H1 e1 => ?_)
          replace e1 := e0.trans e1
          refine fun p hpn => ⟨by show 2 ≤ sizeLine; decide, fun t ht => ?_⟩
          have hpt : p ≠ t := fun z => by rw [← z, upd_same] at ht; cases ht
          have e2 : Ex H1 (upd (upd H1 p (.dK [])) t (.tup [.int 1, .int 1])) := (Ex.new hpn).trans (Ex.new ht)
          refine ⟨by rw [upd_ne hpt]; exact upd_same, oneKv t, rfl, by show 4 ≤ 15; decide, p, rfl, .inl ⟨_, .inl upd_same⟩, ?_⟩
          generalize hG : (upd (upd (upd H1 p (.dK [])) t (.tup [.int 1, .int 1])) p (.dK (mergeK [] (oneKv t)))) = G
          have eG : Ex H1 G := hG ▸ Ex.mut e2 hpn
          have hpG : G p = some (.dK (mergeK [] (oneKv t))) := by rw [← hG, upd_same]
          have htG : G t = some (.tup [.int 1, .int 1]) := by rw [← hG, upd_ne (Ne.symm hpt), upd_same]
          refine ⟨_, rfl, a, _, 0, .str (nameOf k), rfl, rfl, st_of (eG _ _ (e1 _ _ ha)), atI_of (Int.le_refl 0) rfl, _, DGet.k (k := .inr (nameOf k)) hpG, ?_⟩
          rw [one_get t hp]
          exact q _ _ (e1.trans eG) (one_at htG hp hnl)
        · obtain rfl := h2 n rfl
          refine q_when (b := true) (et_is (et_kind (ev_var rfl) (e0 _ _ ha)) (by show (("lot" : Str) == "lot") = true; decide +kernel)) (fun _ H1 e1 => ?_) (fun hb => (by cases hb))
          replace e1 := e0.trans e1
          have n12 : n ≤ 12 := ok.2
          refine s_ret (ev_op (ev_op ev_c (ev_op (ev_var rfl) ev_c (rv_ixT (st_of (e1 _ _ ha)) (v := .int (n : Int)) rfl)) (rv_I ⟨by omega, by omega, by decide⟩)) ev_c rv_I0) fun H2 e2 => q _ H2 (e1.trans e2) ?_
          have he : (1 : Int) * 2 ^ ((n : Int)).toNat - 1 = 2 ^ n - 1 := by rw [Int.one_mul, Int.toNat_natCast]
          show DtAt H2 (.int ((1 : Int) * 2 ^ ((n : Int)).toNat - 1)) (.int (2 ^ n - 1))
          rw [he]
          exact .int _
      · obtain ⟨u, u', rfl, hy, hz⟩ := h3 kl kr rfl
        refine q_when (b := true) (et_is (et_kind (ev_var rfl) ha) (by show (("pair" : Str) == "pair") = true; decide +kernel)) (fun _ H1 e1 => ?_) (fun hb => (by cases hb))
        have ha1 := e1 _ _ ha
        refine ⟨_, rfl, a, _, 1, u, rfl, rfl, st_of ha1, rfl, u, kl, rfl, hy.ex e1, depth_l hn, ok.1, fun x H2 e2 hx => ?_⟩
        have e12 := e1.trans e2
        refine ⟨_, rfl, a, _, 2, u', rfl, rfl, st_of (e12 _ _ ha), rfl, u', kr, rfl, hz.ex e12, depth_r hn, ok.2, fun y H3 e3 hy2 => ⟨by show 2 ≤ sizeLine; decide, fun l hl => ?_⟩⟩
        exact q _ _ ((e12.trans e3).trans (Ex.new hl)) (.new hl (.cons (hx.ex e3) (.cons hy2 .nil)))
def kindN : Nat → RK
  | 0 => .truth
  | 1 => .count
  | 2 => .least
  | 3 => .most
  | 4 => .narrow
  | _ => .share
theorem kindN_ok (i : Nat) : (kindN i).ok ∧ (kindN i).depth = 0 ∧ madeD (kindN i) = .tuple [.str (nameOf (kindN i))] := by
  unfold kindN
  split <;> exact ⟨True.intro, rfl, rfl⟩
abbrev s_ring : Stmt := top 93
theorem sc_ring : FnScope ["_law_draw_here", "_law_deep", "_law_way"] ["_law_draw_here", "_law_deep"] (defScope s_ring) := ⟨rfl, rfl, rfl, by decide +kernel, rfl, by decide +kernel, by decide +kernel⟩
theorem ok_ring {f : Addr} {fd : FuncData} (F : FnP K "_law_ring" s_ring f fd) (g_ring : mg "_law_ring" = some (.ref f)) {f_next : Addr} {fd_next : FuncData} (F_next : FnP K "_law_next" s_next f_next fd_next) (g_next : mg "_law_next" = some (.ref f_next)) (G_next : FnOk P w K mg base (CX0) 2 f_next fd_next ["_law_draw_here", "_law_many"] (spNext)) : ∀ d : Nat, FnOk P w K mg base CX0 (d + 2) f fd ["_law_draw_here", "_law_deep"] (spLRing d) := by
  have F_ring := F
  have b_ring : Binds K fd ["_law_draw_here", "_law_deep"] [] := F_ring.bindsN fun _ _ _ _ _ _ us hl => match us, hl with | [_, _], _ => rfl
  have b_next : Binds K fd_next ["_law_draw_here", "_law_many"] [] := F_next.bindsN fun _ _ _ _ _ _ us hl => match us, hl with | [_, _], _ => rfl
  intro d
  induction d with
  | zero =>
    refine fn_never fun vs H Q E h => ?_
    obtain ⟨m, pc, pg, cs, j, e, rfl, hn, hD, hj, q⟩ := h
    exact Nat.not_lt_zero _ hn
  | succ d ih =>
    have G_ring := ih
    refine F.ok sc_ring (fun vs H Q E h => ?_) (fun cdv A outer s H vs Q E hr h => ?_)
    · obtain ⟨m, pc, pg, cs, j, e, rfl, _⟩ := h
      rfl
    · obtain ⟨m, pc, pg, cs, j, e, rfl, hn, hD, hj, q⟩ := h
      have hu := hu_of hr
      have hu64 := hr.units
      have hr_ring := hr
      have hr_next := hr.mono (by omega : 2 ≤ d + 2)
      refine ⟨_, PSs.nox (pss_cons (ps_set (i := 2) sc_ring.nd rfl (Or.inl rfl) (pe_call G_next hr_next rfl g_next F_next.kp b_next .nil pass0 (pa_cons (pv 0) (pa_cons pe_int pa_nil))))
      (pss_cons (ps_if (PW.pt (pw_and (pt_cmpR op_gt (pv 2) pe_int (nomark _)) (pw_and1 (pt_cmpR op_gt (pv 1) pe_int (nomark _))))) (pss_one (ps_ret (pe_tup (pa_cons pe_str (pa_cons (pe_call G_ring hr_ring rfl g_ring F_ring.kp b_ring .nil pass0 (pa_cons (pv 0) (pa_cons (pe_op op_sub (pv 1) pe_int) pa_nil))) (pa_cons (pe_call G_ring hr_ring rfl g_ring F_ring.kp b_ring .nil pass0 (pa_cons (pv 0) (pa_cons (pe_op op_sub (pv 1) pe_int) pa_nil))) pa_nil)))))) pss_nil)
      (pss_cons (ps_if (pt_cmpR op_gt (pv 2) pe_int (nomark _)) (pss_one (ps_ret (pe_tup (pa_cons pe_str (pa_cons (pe_op op_add pe_int (pe_call G_next hr_next rfl g_next F_next.kp b_next .nil pass0 (pa_cons (pv 0) (pa_cons pe_int pa_nil)))) pa_nil))))) pss_nil)
      (pss_one (ps_ret (pe_tup (pa_cons (pe_ix ix_list (pe_lst (pa_cons pe_str (pa_cons pe_str (pa_cons pe_str (pa_cons pe_str (pa_cons pe_str (pa_cons pe_str pa_nil))))))) (pv 2) (fun _ _ => rfl)) pa_nil))))))), ?_⟩
      refine asg_step ?_
      have hj3 : 3 ≤ costR e := by
        clear hj q
        induction e with
        | zero => exact Nat.le_refl 3
        | succ e ih =>
          have := ih (by omega)
          show 3 ≤ 2 * costR e + 1
          omega
      refine ⟨_, rfl, m, pc, pg, cs, j, 9, rfl, hD, by omega, by decide, by decide, fun x H1 x0 x1 r1 => ?_⟩
      have hD1 := r1.inv
      have hj1 : costR e ≤ 100000 - j := by omega
      refine q_when (b := decide (6 < x) && decide (0 < (e : Int))) (et_and (et_test (ev_gtI (ev_var rfl) ev_c)) fun _ => et_test (ev_gtI (ev_var rfl) ev_c)) (fun hb H2 e2 => ?_) (fun hb H2 e2 => ?_)
      · rw [Bool.and_eq_true, decide_eq_true_eq, decide_eq_true_eq] at hb
        obtain ⟨e', rfl⟩ : ∃ e', e = e' + 1 := ⟨e - 1, by omega⟩
        have hc : costR (e' + 1) = 2 * costR e' + 1 := rfl
        have r2 : RD m pc pg cs (j + 1) H H2 := r1.then (.ofEx hD1 e2)
        have vseq : [V.ref m, V.int ((((e' + 1 : Nat) : Int)) - 1)] = [V.ref m, V.int (e' : Int)] := by
          rw [show (((e' + 1 : Nat) : Int)) - 1 = (e' : Int) by omega]
        refine ⟨_, rfl, _, rfl, _, _, rfl, rfl, m, pc, pg, cs, j + 1, e', vseq, by omega, r2.inv, by omega, fun kl u H3 okl dl r3 hu3 => ?_⟩
        refine ⟨_, rfl, _, rfl, _, _, rfl, rfl, m, pc, pg, cs, j + 1 + costR e', e', vseq, by omega, r3.inv, by omega, fun kr u2 H4 okr dr r4 hu4 => ⟨by show 3 ≤ sizeLine; decide, fun l hl => ?_⟩⟩
        have hu3' := hu3.kp (r4.kp r3.inv)
        refine q (.pair kl kr) _ _ ⟨okl, okr⟩ (by show max kl.depth kr.depth + 1 ≤ e' + 1; omega) ?_ (.new hl (.cons (.str _) (.cons hu3' (.cons hu4 .nil))))
        refine RD.up (((r2.then r3).then r4).then (.ofEx r4.inv (Ex.new hl))) (by omega)
      · have r2 : RD m pc pg cs (j + 1) H H2 := r1.then (.ofEx hD1 e2)
        refine q_when (b := decide (5 < x)) (et_test (ev_gtI (ev_var rfl) ev_c)) (fun hb2 H3 e3 => ?_) (fun hb2 H3 e3 => ?_)
        · refine ⟨_, rfl, m, pc, pg, cs, j + 1, 12, rfl, (RD.ofEx r2.inv e3).inv, by omega, by decide, by decide, fun y H4 y0 y1 r4 => ⟨1, y, rfl, rfl, by show 2 ≤ sizeLine; decide, fun l hl => ?_⟩⟩
          obtain ⟨n, rfl⟩ : ∃ n : Nat, y = (n : Int) := ⟨y.toNat, by omega⟩
          refine q (.lot (n + 1)) _ _ ⟨by omega, by omega⟩ (Nat.zero_le _) ?_ (.new hl (.cons (.str _) (.cons (by show DtAt H4 (.int ((1 : Int) + (n : Int))) (.int ((n + 1 : Nat) : Int)); rw [show (1 : Int) + (n : Int) = ((n + 1 : Nat) : Int) by omega]; exact .int _) .nil)))
          exact RD.up (((r2.then (.ofEx r2.inv e3)).then r4).then (.ofEx r4.inv (Ex.new hl))) (by omega)
        · have hx5 : x ≤ 5 := by
            have := of_decide_eq_false hb2
            omega
          obtain ⟨n, rfl⟩ : ∃ n : Nat, x = (n : Int) := ⟨x.toNat, by omega⟩
          have hat : atI [V.str "truth", .str "count", .str "least", .str "most", .str "narrow", .str "share"] (n : Int) = some (.str (nameOf (kindN n))) := by
            have h6 : n = 0 ∨ n = 1 ∨ n = 2 ∨ n = 3 ∨ n = 4 ∨ n = 5 := by omega
            rcases h6 with rfl | rfl | rfl | rfl | rfl | rfl <;> rfl
          obtain ⟨ok, dp, md⟩ := kindN_ok n
          refine s_retU (eu_tup (ea_cons (ev_opL1 (el_lst (ea_cons ev_c (ea_cons ev_c (ea_cons ev_c (ea_cons ev_c (ea_cons ev_c (ea_cons ev_c ea_nil)))))) (by show 6 ≤ 100000; decide)) (fun H1 e1 => ev_var rfl) fun l H1 hl e1 => rv_ixL (sq_of hl) hat) ea_nil) (by show 1 ≤ 100000; decide)) fun l H4 hl e4 h4 => ?_
          refine q (kindN n) _ _ ok (by omega) (RD.up ((r2.then (.ofEx r2.inv e3)).then (.ofEx (RD.ofEx r2.inv e3).inv e4)) (by omega)) ?_
          rw [md]
          exact .tup h4 (.cons (.str _) .nil)
end
end D1
end
section
set_option Elab.async false
set_option linter.all false
set_option maxRecDepth 100000
set_option maxHeartbeats 4000000
/-! L4: the law's lowest terms, products -/
namespace D1
open PySem L2 Evl RZ ClX PySem.VX
theorem par_step {i j : Nat} {t : TA} {z : TS} {D : Ends} {σ : L2.St} {H : Hp} (h : t σ H fun vs H1 => ∃ v w, vs = [v, w] ∧ z D ((σ.set i (some v)).set j (some w)) H1) : tSeq (tPar i j t) z D σ H := h
theorem s_par {i j : Nat} {t : TA} {D : Ends} {σ : L2.St} {H : Hp} (h : t σ H fun vs H1 => ∃ v w, vs = [v, w] ∧ D.nx ((σ.set i (some v)).set j (some w)) H1) : tPar i j t D σ H := h
theorem ret_call {sp : Sp} {dvs vs : List V} {E : XK} {t : TA} {D : Ends} {σ : L2.St} {H : Hp} (h : EvA t σ H vs) (k : ∀ H1, Ex H H1 → sp (vs ++ dvs) H1 D.rt E) : tRet (tCall sp dvs E t) D σ H := h H (Ex.refl H) _ k
def spLowest : Sp := fun vs H Q _ => ∃ p q : Nat, vs = [.int (p : Int), .int (q : Int)] ∧ 0 < q ∧ q < 2 ^ 8100 ∧ ∀ r H', Ex H H' → DtAt H' r (low p q) → Q r H'
def spLTimes (n : Nat) : Sp := fun vs H Q _ => ∃ (v x y : V) (k : RK) (dx dy : PyData), vs = [v, x, y] ∧ DtAt H v (madeD k) ∧ k.depth < n ∧ DtAt H x dx ∧ DtAt H y dy ∧ goodB k dx = true ∧ goodB k dy = true ∧ Sz 4000 dx ∧ Sz 4000 dy ∧ ∀ r H', Ex H H' → DtAt H' r (times k dx dy) → Q r H'
theorem narrX {a b : PyData} (ha : cnGood a = true) (hb : cnGood b = true) (h : isE a = true) : narrT a b = b := by
  rcases good_cn ha with rfl | ⟨i, rfl, hi⟩
  · rfl
  · cases h
theorem narrY {a b : PyData} (ha : cnGood a = true) (hb : cnGood b = true) (h : isE a = false) (h2 : (isE a || isE b) = true) : narrT a b = a := by
  rcases good_cn ha with rfl | ⟨i, rfl, hi⟩
  · cases h
  · rcases good_cn hb with rfl | ⟨j, rfl, hj⟩
    · rfl
    · cases h2
theorem cn_notN {a : PyData} (h : cnGood a = true) : isN a = false := by
  rcases good_cn h with rfl | ⟨i, rfl, hi⟩
  · decide +kernel
  · rfl
theorem inV2 (z x y : V) : inV z [x, y] = (eqV x z || eqV y z) := by
  show (eqV x z || (eqV y z || false)) = _
  rw [Bool.or_false]
theorem eqE {H : Hp} {x : V} {d : PyData} (h : DtAt H x d) (f : Fl d) : eqV x (.str "endless") = isE d := by
  rcases f with ⟨z, rfl, _⟩ | ⟨i, rfl⟩
  · obtain rfl := h.str_inv
    rfl
  · obtain rfl := h.int_inv
    rfl
theorem eqN {H : Hp} {x : V} {d : PyData} (h : DtAt H x d) (f : Fl d) : eqV x (.str "none") = isN d := by
  rcases f with ⟨z, rfl, _⟩ | ⟨i, rfl⟩
  · obtain rfl := h.str_inv
    rfl
  · obtain rfl := h.int_inv
    rfl
theorem eq0' {H : Hp} {x : V} {d : PyData} (h : DtAt H x d) (f : Fl d) : eqV x (.int 0) = i0 d := by
  rcases f with ⟨z, rfl, _⟩ | ⟨i, rfl⟩
  · obtain rfl := h.str_inv
    rfl
  · obtain rfl := h.int_inv
    rfl
theorem Fl.flat {H : Hp} {x : V} {d : PyData} (h : DtAt H x d) (f : Fl d) : flatV x = true := by
  rcases f with ⟨z, rfl, _⟩ | ⟨i, rfl⟩
  · obtain rfl := h.str_inv
    rfl
  · obtain rfl := h.int_inv
    rfl
section
variable {K : PySem.W.Frag} {σ : L2.St} {H : Hp} {ta tb : TE} {x y : V} {dx dy : PyData}
theorem ev_in2 {z : V} {f : PyData → Bool} (hf : ∀ {x : V} {d : PyData}, DtAt H x d → Fl d → eqV x z = f d) (hz : flatV z = true) (ha : Ev ta σ H x) (hb : Ev tb σ H y) (hx : DtAt H x dx) (hy : DtAt H y dy) (fx : Fl dx) (fy : Fl dy) : Ev (tOp (rIn K false) (tC z) (tTup (tCons ta (tCons tb tNil)))) σ H (.bl (f dx || f dy)) := by
  refine ev_is (ev_inU ev_c (eu_tup (ea_cons ha (ea_cons hb ea_nil)) (by show 2 ≤ 100000; decide)) hz ?_) ?_
  · show (flatV x && (flatV y && true)) = true
    rw [fx.flat hx, fy.flat hy]
    rfl
  · rw [inV2, hf hx fx, hf hy fy]
end
section
variable {P : Program} {w : World} {K : PySem.W.Frag} {mg : Str → Option Value} {base : Heap}
abbrev s_lowest : Stmt := top 96
theorem sc_lowest : FnScope ["_law_top", "_law_bottom", "_law_one_here", "_law_other"] ["_law_top", "_law_bottom"] (defScope s_lowest) := ⟨rfl, rfl, rfl, by decide +kernel, rfl, by decide +kernel, by decide +kernel⟩
theorem ok_lowest {f : Addr} {fd : FuncData} (F : FnP K "_law_lowest" s_lowest f fd) : FnOk P w K mg base (CX0) 1 f fd ["_law_top", "_law_bottom"] (spLowest) := by
  refine F.ok (CX := CX0) sc_lowest (fun vs H Q E h => ?_) (fun cdv A outer s H vs Q E hr h => ?_)
  · obtain ⟨p, q, rfl, _⟩ := h
    rfl
  · obtain ⟨p, r, rfl, r0, r1, q⟩ := h
    have hu := hu_of hr
    have hu64 := hr.units
    refine ⟨_, PSs.nox (pss_cons (ps_par (i := 2) (j := 3) (by rfl) sc_lowest.nd rfl rfl (by decide) rfl rfl (pa_cons (pv 1) (pa_cons (pv 0) pa_nil)) (by rfl))
      (pss_cons (ps_while PassesOwn.never (pt_cmpR op_ne (pv 3) pe_int (nomark _)) (pss_one (ps_par (i := 2) (j := 3) (by rfl) sc_lowest.nd rfl rfl (by decide) rfl rfl (pa_cons (pv 3) (pa_cons (pe_op op_mod (pv 2) (pv 3)) pa_nil)) (by rfl))))
      (pss_one (ps_ret (pe_tup (pa_cons (pe_op op_fdivW (pv 0) (pv 2)) (pa_cons (pe_op op_fdivW (pv 1) (pv 2)) pa_nil))))))), ?_⟩
    refine par_step ⟨_, rfl, _, rfl, _, _, rfl, ?_⟩
    refine q_while (fun m σ' G => ∃ x y : Nat, σ' = [some (.int (p : Int)), some (.int (r : Int)), some (.int (x : Int)), some (.int (y : Int))] ∧ m = y ∧ Ex H G ∧ Nat.gcd x y = Nat.gcd r p) p ⟨r, p, rfl, rfl, Ex.refl H, rfl⟩ ?_
    rintro m0 σ' G ⟨x, y, rfl, hm, eG, hg⟩
    rw [hm]
    clear hm m0
    refine ⟨!((y : Int) == 0), et_test (ev_neI (ev_var rfl) ev_c), fun hb H1 e1 => ?_, fun hb H1 e1 => ?_⟩
    · have y0 : 0 < y := by
        rcases Nat.eq_zero_or_pos y with rfl | h
        · cases hb
        · exact h
      refine ⟨fun σ2 G2 => ∃ x' y' : Nat, σ2 = [some (.int (p : Int)), some (.int (r : Int)), some (.int (x' : Int)), some (.int (y' : Int))] ∧ y' < y ∧ Ex H G2 ∧ Nat.gcd x' y' = Nat.gcd r p, fun σ2 G2 ⟨x', y', h1, h2, h3, h4⟩ => ⟨y', h2, x', y', h1, rfl, h3, h4⟩, ?_⟩
      refine s_par ⟨_, rfl, _, rfl, _, rfl, _, _, rfl, rfl, by omega, _, _, rfl, ?_⟩
      refine ⟨y, x % y, rfl, Nat.mod_lt _ y0, eG.trans e1, ?_⟩
      rw [← hg, Nat.gcd_comm y (x % y), ← Nat.gcd_rec y x, Nat.gcd_comm]
    · have y0 : y = 0 := by
        have : ((y : Int) == 0) = true := by simpa using hb
        have := eq_of_beq this
        omega
      rw [y0] at hg
      rw [Nat.gcd_zero_right] at hg
      subst hg
      have hgi : gI (p : Int) (r : Int) = ((Nat.gcd r p : Nat) : Int) := by
        unfold gI
        rw [Int.natAbs_natCast, Int.natAbs_natCast, Nat.gcd_comm]
      have g0 : 0 < Nat.gcd r p := Nat.gcd_pos_of_pos_left _ r0
      have g1 : Nat.gcd r p < 2 ^ 8100 := Nat.lt_of_le_of_lt (Nat.le_of_dvd r0 (Nat.gcd_dvd_left _ _)) r1
      have cd : ∀ z : Int, CDivW z ((Nat.gcd r p : Nat) : Int) := fun z => wide_div (b := 8100) (by omega) (by rw [Int.natAbs_natCast]; exact g1) (by decide) (by decide)
      refine s_retU (eu_tup (ea_cons (ev_op (ev_var rfl) (ev_var rfl) (rv_I (cd _))) (ea_cons (ev_op (ev_var rfl) (ev_var rfl) (rv_I (cd _))) ea_nil)) (by show 2 ≤ 100000; decide)) fun l H4 _ e4 hl => q _ H4 ((eG.trans e1).trans e4) ?_
      unfold low
      rw [hgi]
      exact .tup hl (.cons (.int _) (.cons (.int _) .nil))
abbrev s_times : Stmt := top 98
theorem sc_times : FnScope ["_law_made", "_law_a", "_law_b", "_law_kind"] ["_law_made", "_law_a", "_law_b"] (defScope s_times) := ⟨rfl, rfl, rfl, by decide +kernel, rfl, by decide +kernel, by decide +kernel⟩
theorem ok_times {f : Addr} {fd : FuncData} (F : FnP K "_law_times" s_times f fd) (g_times : mg "_law_times" = some (.ref f)) {f_lowest : Addr} {fd_lowest : FuncData} (F_lowest : FnP K "_law_lowest" s_lowest f_lowest fd_lowest) (g_lowest : mg "_law_lowest" = some (.ref f_lowest)) (G_lowest : FnOk P w K mg base (CX0) 1 f_lowest fd_lowest ["_law_top", "_law_bottom"] (spLowest)) (z_min : mg "min" = none) : ∀ d : Nat, FnOk P w K mg base CX0 (d + 2) f fd ["_law_made", "_law_a", "_law_b"] (spLTimes d) := by
  have F_times := F
  have b_times : Binds K fd ["_law_made", "_law_a", "_law_b"] [] := F_times.bindsN fun _ _ _ _ _ _ us hl => match us, hl with | [_, _, _], _ => rfl
  have b_lowest : Binds K fd_lowest ["_law_top", "_law_bottom"] [] := F_lowest.bindsN fun _ _ _ _ _ _ us hl => match us, hl with | [_, _], _ => rfl
  intro d
  induction d with
  | zero =>
    refine fn_never fun vs H Q E h => ?_
    obtain ⟨v, x, y, k, dx, dy, rfl, hM, hn, hx, hy, gx, gy, sx, sy, q⟩ := h
    exact Nat.not_lt_zero _ hn
  | succ d ih =>
    have G_times := ih
    refine F.ok sc_times (fun vs H Q E h => ?_) (fun cdv A outer s H vs Q E hr h => ?_)
    · obtain ⟨v, x, y, k, dx, dy, rfl, _⟩ := h
      rfl
    · obtain ⟨v, x, y, k, dx, dy, rfl, hM, hn, hx, hy, gx, gy, sx, sy, q⟩ := h
      have hu := hu_of hr
      have hu64 := hr.units
      have hr_times := hr
      have hr_lowest := hr.mono (by omega : 1 ≤ d + 2)
      refine ⟨_, PSs.nox (pss_cons (ps_set (i := 3) sc_times.nd rfl (Or.inl rfl) (pe_ix ix_tup (pv 0) pe_int (fun _ _ => rfl)))
      (pss_cons (ps_if (pt_cmpR op_eq (pv 3) pe_str (nomark _)) (pss_one (ps_ret (pe_tup (pa_cons (pe_call G_times hr_times rfl g_times F_times.kp b_times .nil pass0 (pa_cons (pe_ix ix_tup (pv 0) pe_int (fun _ _ => rfl)) (pa_cons (pe_ix ix_tup (pv 1) pe_int (fun _ _ => rfl)) (pa_cons (pe_ix ix_tup (pv 2) pe_int (fun _ _ => rfl)) pa_nil)))) (pa_cons (pe_call G_times hr_times rfl g_times F_times.kp b_times .nil pass0 (pa_cons (pe_ix ix_tup (pv 0) pe_int (fun _ _ => rfl)) (pa_cons (pe_ix ix_tup (pv 1) pe_int (fun _ _ => rfl)) (pa_cons (pe_ix ix_tup (pv 2) pe_int (fun _ _ => rfl)) pa_nil)))) pa_nil))))) pss_nil)
      (pss_cons (ps_if (pt_cmpR op_eq (pv 3) pe_str (nomark _)) (pss_one (ps_ret (pe_and (pv 1) (pe_one (pv 2))))) pss_nil)
      (pss_cons (ps_if (pt_cmpR op_eq (pv 3) pe_str (nomark _)) (pss_one (ps_ret (pe_op op_and (pv 1) (pv 2)))) pss_nil)
      (pss_cons (ps_if (pt_cmpR op_eq (pv 3) pe_str (nomark _)) (pss_one (ps_ret (pe_call G_lowest hr_lowest rfl g_lowest F_lowest.kp b_lowest .nil pass0 (pa_cons (pe_op op_mulW (pe_ix ix_tup (pv 1) pe_int (fun _ _ => rfl)) (pe_ix ix_tup (pv 2) pe_int (fun _ _ => rfl))) (pa_cons (pe_op op_mulW (pe_ix ix_tup (pv 1) pe_int (fun _ _ => rfl)) (pe_ix ix_tup (pv 2) pe_int (fun _ _ => rfl))) pa_nil))))) pss_nil)
      (pss_cons (ps_if (pt_cmpR op_eq (pv 3) pe_str (nomark _)) (pss_cons (ps_if (pt_cmpR op_in_seq pe_str (pe_tup (pa_cons (pv 1) (pa_cons (pv 2) pa_nil))) (by rfl)) (pss_one (ps_ret (pe_ifExp (pt_cmpR (op_eqD hu64) (pv 1) pe_str (nomark _)) (pv 2) (pv 1)))) pss_nil)
      (pss_one (ps_ret (pe_callB (call_min2 rfl) (by rfl) z_min PyProof.Rows.boot_min (pa_cons (pv 1) (pa_cons (pv 2) pa_nil)))))) pss_nil)
      (pss_cons (ps_if (PW.pt (pw_and (pt_cmpR op_eq (pv 3) pe_str (nomark _)) (pw_and1 (pt_cmpR op_in_seq pe_int (pe_tup (pa_cons (pv 1) (pa_cons (pv 2) pa_nil))) (by rfl))))) (pss_one (ps_ret pe_int)) pss_nil)
      (pss_cons (ps_if (pt_cmpR op_in_seq pe_str (pe_tup (pa_cons (pv 1) (pa_cons (pv 2) pa_nil))) (by rfl)) (pss_one (ps_ret pe_str)) pss_nil)
      (pss_cons (ps_if (pt_cmpR op_in_seq pe_str (pe_tup (pa_cons (pv 1) (pa_cons (pv 2) pa_nil))) (by rfl)) (pss_one (ps_ret pe_str)) pss_nil)
      (pss_one (ps_ret (pe_ifExp (pt_cmpR op_eq (pv 3) pe_str (nomark _)) (pe_op op_mulW (pv 1) (pv 2)) (pe_op op_add (pv 1) (pv 2)))))))))))))), ?_⟩
      obtain ⟨a, xs, rfl, ha, h1, h2, h3⟩ := made_at hM
      refine q_asg (v := .str (nameOf k)) (ev_op (ev_var rfl) ev_c (rv_ixT (st_of ha) (v := .str (nameOf k)) (atI_of (Int.le_refl 0) rfl))) fun H1 e1 => ?_
      have tk : ∀ {G : Hp} {t : Str}, EvT (tTest (tOp rEq (tVar 3) (tC (.str t)))) [some (.ref a), some x, some y, some (.str (nameOf k))] G (nameOf k == t) := fun {G t} => et_test (ev_eqS (ev_var rfl) ev_c)
      cases k with
      | pair kl kr =>
        obtain ⟨u, u', rfl, hu1, hu2⟩ := h3 kl kr rfl
        refine q_when (b := true) (et_is tk (by show (("pair" : Str) == "pair") = true; decide +kernel)) (fun _ H2 e2 => ?_) (fun hb => (by cases hb))
        have e12 := e1.trans e2
        obtain ⟨x1, x2, rfl, g1, g2⟩ := good_pair gx
        obtain ⟨y1, y2, rfl, g3, g4⟩ := good_pair gy
        obtain ⟨s1, s2, _⟩ := sx
        obtain ⟨s3, s4, _⟩ := sy
        obtain ⟨ax, p1, p2, rfl, hax, v1, v2⟩ := id hx.two
        obtain ⟨ay, t1, t2, rfl, hay, v3, v4⟩ := id hy.two
        refine ⟨_, rfl, a, _, 1, u, rfl, rfl, st_of (e12 _ _ ha), rfl, _, rfl, ax, _, 0, p1, rfl, rfl, st_of (e12 _ _ hax), rfl, _, rfl, ay, _, 0, t1, rfl, rfl, st_of (e12 _ _ hay), rfl, u, p1, t1, kl, x1, y1, rfl, hu1.ex e12, depth_l hn, v1.ex e12, v3.ex e12, g1, g3, s1, s3, fun r1 H3 e3 hr1 => ?_⟩
        have e13 := e12.trans e3
        refine ⟨_, rfl, a, _, 2, u', rfl, rfl, st_of (e13 _ _ ha), rfl, _, rfl, ax, _, 1, p2, rfl, rfl, st_of (e13 _ _ hax), rfl, _, rfl, ay, _, 1, t2, rfl, rfl, st_of (e13 _ _ hay), rfl, u', p2, t2, kr, x2, y2, rfl, hu2.ex e13, depth_r hn, v2.ex e13, v4.ex e13, g2, g4, s2, s4, fun r2 H4 e4 hr2 => ⟨by show 2 ≤ sizeLine; decide, fun l hl => ?_⟩⟩
        exact q _ _ ((e13.trans e4).trans (Ex.new hl)) (.new hl (.cons (hr1.ex e4) (.cons hr2 .nil)))
      | truth =>
        refine q_when (b := false) (et_is tk (by show (("truth" : Str) == "pair") = false; decide +kernel)) (fun hb => (by cases hb)) (fun _ H2 e2 => ?_)
        refine q_when (b := true) (et_is tk (by show (("truth" : Str) == "truth") = true; decide +kernel)) (fun _ H3 e3 => ?_) (fun hb => (by cases hb))
        obtain ⟨b1, rfl⟩ := good_truth gx
        obtain ⟨b2, rfl⟩ := good_truth gy
        obtain rfl := hx.bl_inv
        obtain rfl := hy.bl_inv
        exact s_ret (ev_andV (a := b1) (b := b2) (ev_var rfl) fun _ => ev_var rfl) fun H4 e4 => q _ H4 (((e1.trans e2).trans e3).trans e4) (.bl _)
      | lot n =>
        refine q_when (b := false) (et_is tk (by show (("lot" : Str) == "pair") = false; decide +kernel)) (fun hb => (by cases hb)) (fun _ H2 e2 => ?_)
        refine q_when (b := false) (et_is tk (by show (("lot" : Str) == "truth") = false; decide +kernel)) (fun hb => (by cases hb)) (fun _ H3 e3 => ?_)
        refine q_when (b := true) (et_is tk (by show (("lot" : Str) == "lot") = true; decide +kernel)) (fun _ H4 e4 => ?_) (fun hb => (by cases hb))
        obtain ⟨i, rfl, _⟩ := good_lot gx
        obtain ⟨j, rfl, _⟩ := good_lot gy
        obtain rfl := hx.int_inv
        obtain rfl := hy.int_inv
        exact s_ret (ev_op (ev_var rfl) (ev_var rfl) rv_I0) fun H5 e5 => q _ H5 ((((e1.trans e2).trans e3).trans e4).trans e5) (.int _)
      | share =>
        refine q_when (b := false) (et_is tk (by show (("share" : Str) == "pair") = false; decide +kernel)) (fun hb => (by cases hb)) (fun _ H2 e2 => ?_)
        refine q_when (b := false) (et_is tk (by show (("share" : Str) == "truth") = false; decide +kernel)) (fun hb => (by cases hb)) (fun _ H3 e3 => ?_)
        refine q_when (b := false) (et_is tk (by show (("share" : Str) == "lot") = false; decide +kernel)) (fun hb => (by cases hb)) (fun _ H4 e4 => ?_)
        refine q_when (b := true) (et_is tk (by show (("share" : Str) == "share") = true; decide +kernel)) (fun _ H5 e5 => ?_) (fun hb => (by cases hb))
        have e := (((e1.trans e2).trans e3).trans e4).trans e5
        obtain ⟨p, r, rfl, h1, h2, h3⟩ := share_nat gx
        obtain ⟨t, u, rfl, h4, h5, h6⟩ := share_nat gy
        obtain ⟨ax, _, _, rfl, hax, k1, k2⟩ := id hx.two
        obtain ⟨ay, _, _, rfl, hay, k3, k4⟩ := id hy.two
        obtain rfl := k1.int_inv
        obtain rfl := k2.int_inv
        obtain rfl := k3.int_inv
        obtain rfl := k4.int_inv
        obtain ⟨s1, s2, _⟩ : p < 2 ^ 4000 ∧ r < 2 ^ 4000 ∧ True := sx
        obtain ⟨s3, s4, _⟩ : t < 2 ^ 4000 ∧ u < 2 ^ 4000 ∧ True := sy
        have up : ∀ {x : Nat}, x < 2 ^ 4000 → ((x : Int)).natAbs < 2 ^ 4000 := fun {x} h => by rw [Int.natAbs_natCast]; exact h
        refine ret_call (ea_cons (ev_op (ev_op (ev_var rfl) ev_c (rv_ixT (st_of (e _ _ hax)) rfl)) (ev_op (ev_var rfl) ev_c (rv_ixT (st_of (e _ _ hay)) rfl)) (rv_I (wide_mul (up s1) (up s3) (by decide) (by decide) (by decide)))) (ea_cons (ev_op (ev_op (ev_var rfl) ev_c (rv_ixT (st_of (e _ _ hax)) rfl)) (ev_op (ev_var rfl) ev_c (rv_ixT (st_of (e _ _ hay)) rfl)) (rv_I (wide_mul (up s2) (up s4) (by decide) (by decide) (by decide)))) ea_nil)) fun H6 e6 => ?_
        refine ⟨p * t, r * u, by rw [Int.natCast_mul, Int.natCast_mul]; rfl, Nat.mul_pos h2 h5, Nat.lt_of_lt_of_le (sz_pow s2 s4) (Nat.pow_le_pow_right (by decide) (by decide)), fun r1 H7 e7 hr1 => q _ H7 ((e.trans e6).trans e7) ?_⟩
        rw [Int.natCast_mul, Int.natCast_mul] at hr1
        exact hr1
      | narrow =>
        refine q_when (b := false) (et_is tk (by show (("narrow" : Str) == "pair") = false; decide +kernel)) (fun hb => (by cases hb)) (fun _ H2 e2 => ?_)
        refine q_when (b := false) (et_is tk (by show (("narrow" : Str) == "truth") = false; decide +kernel)) (fun hb => (by cases hb)) (fun _ H3 e3 => ?_)
        refine q_when (b := false) (et_is tk (by show (("narrow" : Str) == "lot") = false; decide +kernel)) (fun hb => (by cases hb)) (fun _ H4 e4 => ?_)
        refine q_when (b := false) (et_is tk (by show (("narrow" : Str) == "share") = false; decide +kernel)) (fun hb => (by cases hb)) (fun _ H5 e5 => ?_)
        refine q_when (b := true) (et_is tk (by show (("narrow" : Str) == "narrow") = true; decide +kernel)) (fun _ H6 e6 => ?_) (fun hb => (by cases hb))
        have e := ((((e1.trans e2).trans e3).trans e4).trans e5).trans e6
        have wx := fl_cn gx
        have wy := fl_cn gy
        refine q_when (b := isE dx || isE dy) (et_test (ev_in2 (f := isE) (fun h f => eqE h f) rfl (ev_var rfl) (ev_var rfl) (hx.ex e) (hy.ex e) wx wy)) (fun hb H7 e7 => ?_) (fun hb H7 e7 => ?_)
        · refine r_if (b := isE dx) (et_test (ev_eqE (ev_var rfl) (hx.ex (e.trans e7)) wx)) (fun h2 H8 e8 => ?_) (fun h2 H8 e8 => ?_)
          · exact s_ret (ev_var rfl) fun H9 e9 => q _ H9 (((e.trans e7).trans e8).trans e9) (by show DtAt _ _ (narrT dx dy); rw [narrX gx gy h2]; exact hy.ex (((e.trans e7).trans e8).trans e9))
          · exact s_ret (ev_var rfl) fun H9 e9 => q _ H9 (((e.trans e7).trans e8).trans e9) (by show DtAt _ _ (narrT dx dy); rw [narrY gx gy h2 hb]; exact hx.ex (((e.trans e7).trans e8).trans e9))
        · obtain ⟨i, rfl, i0'⟩ := cn_int gx (or_no hb).1
          obtain ⟨j, rfl, j0'⟩ := cn_int gy (or_no hb).2
          obtain rfl := hx.int_inv
          obtain rfl := hy.int_inv
          refine s_ret (ev_cb (ea_cons (ev_var rfl) (ea_cons (ev_var rfl) ea_nil)) fun H8 e8 Q' q' => ⟨_, _, rfl, q' H8 (Ex.refl H8)⟩) fun H9 e9 => q _ H9 ((e.trans e7).trans e9) ?_
          show DtAt _ (.int (if j < i then j else i)) (.int (if i ≤ j then i else j))
          have hm : (if j < i then j else i) = (if i ≤ j then i else j) := by split <;> split <;> omega
          rw [hm]
          exact .int _
      | count =>
        refine q_when (b := false) (et_is tk (by show (("count" : Str) == "pair") = false; decide +kernel)) (fun hb => (by cases hb)) (fun _ H2 e2 => ?_)
        refine q_when (b := false) (et_is tk (by show (("count" : Str) == "truth") = false; decide +kernel)) (fun hb => (by cases hb)) (fun _ H3 e3 => ?_)
        refine q_when (b := false) (et_is tk (by show (("count" : Str) == "lot") = false; decide +kernel)) (fun hb => (by cases hb)) (fun _ H4 e4 => ?_)
        refine q_when (b := false) (et_is tk (by show (("count" : Str) == "share") = false; decide +kernel)) (fun hb => (by cases hb)) (fun _ H5 e5 => ?_)
        refine q_when (b := false) (et_is tk (by show (("count" : Str) == "narrow") = false; decide +kernel)) (fun hb => (by cases hb)) (fun _ H6 e6 => ?_)
        have e := ((((e1.trans e2).trans e3).trans e4).trans e5).trans e6
        have wx := fl_cn gx
        have wy := fl_cn gy
        refine q_when (b := i0 dx || i0 dy) (et_is (et_and (a := true) (et_is tk (by show (("count" : Str) == "count") = true; decide +kernel)) fun _ => et_test (ev_in2 (f := i0) (fun h f => eq0' h f) rfl (ev_var rfl) (ev_var rfl) (hx.ex e) (hy.ex e) wx wy)) rfl) (fun hb H7 e7 => ?_) (fun hb H7 e7 => ?_)
        · exact s_ret ev_c fun H8 e8 => q _ H8 ((e.trans e7).trans e8) (by show DtAt _ _ (countT dx dy); rw [count0 hb gx gy]; exact .int 0)
        have nN : (isN dx || isN dy) = false := by rw [cn_notN gx, cn_notN gy]; rfl
        refine q_when (b := false) (et_is (et_test (ev_in2 (f := isN) (fun h f => eqN h f) rfl (ev_var rfl) (ev_var rfl) (hx.ex (e.trans e7)) (hy.ex (e.trans e7)) wx wy)) nN) (fun hb => (by cases hb)) (fun _ H8 e8 => ?_)
        replace e8 := (e.trans e7).trans e8
        refine q_when (b := isE dx || isE dy) (et_test (ev_in2 (f := isE) (fun h f => eqE h f) rfl (ev_var rfl) (ev_var rfl) (hx.ex e8) (hy.ex e8) wx wy)) (fun hb2 H9 e9 => ?_) (fun hb2 H9 e9 => ?_)
        · exact s_ret ev_c fun H10 e10 => q _ H10 ((e8.trans e9).trans e10) (by show DtAt _ _ (countT dx dy); rw [countE hb hb2 gx gy]; exact .str _)
        obtain ⟨i, rfl, i0'⟩ := cn_int gx (or_no hb2).1
        obtain ⟨j, rfl, j0'⟩ := cn_int gy (or_no hb2).2
        obtain rfl := hx.int_inv
        obtain rfl := hy.int_inv
        refine r_if (b := true) (et_is tk (by show (("count" : Str) == "count") = true; decide +kernel)) (fun _ H10 e10 => ?_) (fun hb => (by cases hb))
        exact s_ret (ev_op (ev_var rfl) (ev_var rfl) (rv_I (wide_mul (a := 4000) (b := 4000) sx sy (by decide) (by decide) (by decide)))) fun H11 e11 => q _ H11 (((e8.trans e9).trans e10).trans e11) (.int _)
      | least =>
        refine q_when (b := false) (et_is tk (by show (("least" : Str) == "pair") = false; decide +kernel)) (fun hb => (by cases hb)) (fun _ H2 e2 => ?_)
        refine q_when (b := false) (et_is tk (by show (("least" : Str) == "truth") = false; decide +kernel)) (fun hb => (by cases hb)) (fun _ H3 e3 => ?_)
        refine q_when (b := false) (et_is tk (by show (("least" : Str) == "lot") = false; decide +kernel)) (fun hb => (by cases hb)) (fun _ H4 e4 => ?_)
        refine q_when (b := false) (et_is tk (by show (("least" : Str) == "share") = false; decide +kernel)) (fun hb => (by cases hb)) (fun _ H5 e5 => ?_)
        refine q_when (b := false) (et_is tk (by show (("least" : Str) == "narrow") = false; decide +kernel)) (fun hb => (by cases hb)) (fun _ H6 e6 => ?_)
        have e := ((((e1.trans e2).trans e3).trans e4).trans e5).trans e6
        have wx := fl_b gx
        have wy := fl_b gy
        refine q_when (b := false) (et_is (et_and (a := false) (b := false) (et_is tk (by show (("least" : Str) == "count") = false; decide +kernel)) fun hb => (by cases hb)) rfl) (fun hb => (by cases hb)) (fun _ H7 e7 => ?_)
        refine q_when (b := isN dx || isN dy) (et_test (ev_in2 (f := isN) (fun h f => eqN h f) rfl (ev_var rfl) (ev_var rfl) (hx.ex (e.trans e7)) (hy.ex (e.trans e7)) wx wy)) (fun hb H8 e8 => ?_) (fun hb H8 e8 => ?_)
        · exact s_ret ev_c fun H9 e9 => q _ H9 (((e.trans e7).trans e8).trans e9) (by show DtAt _ _ (boundT dx dy); rw [boundN hb gx gy]; exact .str _)
        replace e8 := (e.trans e7).trans e8
        refine q_when (b := isE dx || isE dy) (et_test (ev_in2 (f := isE) (fun h f => eqE h f) rfl (ev_var rfl) (ev_var rfl) (hx.ex e8) (hy.ex e8) wx wy)) (fun hb2 H9 e9 => ?_) (fun hb2 H9 e9 => ?_)
        · exact s_ret ev_c fun H10 e10 => q _ H10 ((e8.trans e9).trans e10) (by show DtAt _ _ (boundT dx dy); rw [boundE hb hb2 gx gy]; exact .str _)
        obtain ⟨i, rfl⟩ := b_int gx (or_no hb2).1 (or_no hb).1
        obtain ⟨j, rfl⟩ := b_int gy (or_no hb2).2 (or_no hb).2
        obtain rfl := hx.int_inv
        obtain rfl := hy.int_inv
        refine r_if (b := false) (et_is tk (by show (("least" : Str) == "count") = false; decide +kernel)) (fun hb => (by cases hb)) (fun _ H10 e10 => ?_)
        exact s_ret (ev_op (ev_var rfl) (ev_var rfl) rv_I0) fun H11 e11 => q _ H11 (((e8.trans e9).trans e10).trans e11) (.int _)
      | most =>
        refine q_when (b := false) (et_is tk (by show (("most" : Str) == "pair") = false; decide +kernel)) (fun hb => (by cases hb)) (fun _ H2 e2 => ?_)
        refine q_when (b := false) (et_is tk (by show (("most" : Str) == "truth") = false; decide +kernel)) (fun hb => (by cases hb)) (fun _ H3 e3 => ?_)
        refine q_when (b := false) (et_is tk (by show (("most" : Str) == "lot") = false; decide +kernel)) (fun hb => (by cases hb)) (fun _ H4 e4 => ?_)
        refine q_when (b := false) (et_is tk (by show (("most" : Str) == "share") = false; decide +kernel)) (fun hb => (by cases hb)) (fun _ H5 e5 => ?_)
        refine q_when (b := false) (et_is tk (by show (("most" : Str) == "narrow") = false; decide +kernel)) (fun hb => (by cases hb)) (fun _ H6 e6 => ?_)
        have e := ((((e1.trans e2).trans e3).trans e4).trans e5).trans e6
        have wx := fl_b gx
        have wy := fl_b gy
        refine q_when (b := false) (et_is (et_and (a := false) (b := false) (et_is tk (by show (("most" : Str) == "count") = false; decide +kernel)) fun hb => (by cases hb)) rfl) (fun hb => (by cases hb)) (fun _ H7 e7 => ?_)
        refine q_when (b := isN dx || isN dy) (et_test (ev_in2 (f := isN) (fun h f => eqN h f) rfl (ev_var rfl) (ev_var rfl) (hx.ex (e.trans e7)) (hy.ex (e.trans e7)) wx wy)) (fun hb H8 e8 => ?_) (fun hb H8 e8 => ?_)
        · exact s_ret ev_c fun H9 e9 => q _ H9 (((e.trans e7).trans e8).trans e9) (by show DtAt _ _ (boundT dx dy); rw [boundN hb gx gy]; exact .str _)
        replace e8 := (e.trans e7).trans e8
        refine q_when (b := isE dx || isE dy) (et_test (ev_in2 (f := isE) (fun h f => eqE h f) rfl (ev_var rfl) (ev_var rfl) (hx.ex e8) (hy.ex e8) wx wy)) (fun hb2 H9 e9 => ?_) (fun hb2 H9 e9 => ?_)
        · exact s_ret ev_c fun H10 e10 => q _ H10 ((e8.trans e9).trans e10) (by show DtAt _ _ (boundT dx dy); rw [boundE hb hb2 gx gy]; exact .str _)
        obtain ⟨i, rfl⟩ := b_int gx (or_no hb2).1 (or_no hb).1
        obtain ⟨j, rfl⟩ := b_int gy (or_no hb2).2 (or_no hb).2
        obtain rfl := hx.int_inv
        obtain rfl := hy.int_inv
        refine r_if (b := false) (et_is tk (by show (("most" : Str) == "count") = false; decide +kernel)) (fun hb => (by cases hb)) (fun _ H10 e10 => ?_)
        exact s_ret (ev_op (ev_var rfl) (ev_var rfl) rv_I0) fun H11 e11 => q _ H11 (((e8.trans e9).trans e10).trans e11) (.int _)
end
end D1
end
section
set_option Elab.async false
set_option linter.all false
set_option maxRecDepth 100000
set_option maxHeartbeats 4000000
/-! L5: the law's weights -/
namespace D1
open PySem L2 Evl RZ ClX PySem.VX
def costW : RK → Nat
  | .pair a b => costW a + costW b
  | _ => 3
theorem costW_pos : ∀ k : RK, 3 ≤ costW k
  | .pair a b => by
    have := costW_pos a
    show 3 ≤ costW a + costW b
    omega
  | .truth => Nat.le_refl _
  | .count => Nat.le_refl _
  | .least => Nat.le_refl _
  | .most => Nat.le_refl _
  | .narrow => Nat.le_refl _
  | .share => Nat.le_refl _
  | .lot _ => Nat.le_refl _
theorem costW_le : ∀ k : RK, costW k ≤ 3 * 2 ^ k.depth
  | .pair a b => by
    have h1 := costW_le a
    have h2 := costW_le b
    have h3 := Nat.pow_le_pow_right (n := 2) (by decide) (Nat.le_max_left a.depth b.depth)
    have h4 := Nat.pow_le_pow_right (n := 2) (by decide) (Nat.le_max_right a.depth b.depth)
    show costW a + costW b ≤ 3 * 2 ^ (max a.depth b.depth + 1)
    rw [Nat.pow_succ]
    omega
  | .truth => Nat.le_refl _
  | .count => Nat.le_refl _
  | .least => Nat.le_refl _
  | .most => Nat.le_refl _
  | .narrow => Nat.le_refl _
  | .share => Nat.le_refl _
  | .lot _ => Nat.le_refl _
def spLWeight (n : Nat) : Sp := fun vs H Q _ => ∃ (m pc pg : Addr) (cs : List Int) (j : Nat) (v : V) (k : RK) (mood lift : Int), vs = [.ref m, v, .int mood, .int lift] ∧ DS m pc pg cs j H ∧ j + costW k ≤ 100000 ∧ DtAt H v (madeD k) ∧ k.depth < n ∧ k.ok ∧ 0 ≤ mood ∧ mood < 4 ∧ -100 ≤ lift ∧ lift ≤ 100 ∧
  ∀ (x : V) (d : PyData) H', RD m pc pg cs (j + costW k) H H' → DtAt H' x d → goodB k d = true → Sz 140 d → Q x H'
theorem sz_int {i : Int} (h : i.natAbs < 2 ^ 140) : Sz 140 (.int i) := h
theorem low_good {p q : Nat} (q0 : 0 < q) (h : p ≤ q) : shGood (low p q) = true := by
  rw [low_nat]
  exact nat_share (lowN_le h) (lowN_gcd q0)
theorem low_sz {p q : Nat} (h : p ≤ q) (hq : q < 2 ^ 140) : Sz 140 (low p q) := by
  rw [low_nat]
  refine ⟨?_, ?_, True.intro⟩
  · show (((lowN p q).1 : Nat) : Int).natAbs < 2 ^ 140
    rw [Int.natAbs_natCast]
    exact Nat.lt_of_le_of_lt (Nat.div_le_self _ _) (Nat.lt_of_le_of_lt h hq)
  · show (((lowN p q).2 : Nat) : Int).natAbs < 2 ^ 140
    rw [Int.natAbs_natCast]
    exact Nat.lt_of_le_of_lt (Nat.div_le_self _ _) hq
theorem ev_ifI {t : TT} {ta tb : TE} {σ : L2.St} {H : Hp} {b : Bool} {x y : Int} (h : EvT t σ H b) (h1 : Ev ta σ H (.int x)) (h2 : Ev tb σ H (.int y)) : Ev (tIf t ta tb) σ H (.int (if b = true then x else y)) := ev_if h (fun hb => by rw [if_pos hb]; exact h1) (fun hb => by rw [hb, if_neg Bool.false_ne_true]; exact h2)
theorem log_lt {n : Int} (h0 : 0 < n) (h : n < 2 ^ 139) : n.natAbs.log2 < 9000 := by
  have h1 : n.natAbs ≠ 0 := by omega
  have h2 : n.natAbs < 2 ^ 139 := by omega
  have := (Nat.log2_lt h1).mpr h2
  omega
theorem size_at {x : Int} (h0 : 0 ≤ x) (h1 : x < 4) : ∃ s : Int, atI [V.int 4, .int 4, .int 90, .int ((10 : Int) ^ (40 : Int).toNat)] x = some (.int s) ∧ 0 < s ∧ s < 2 ^ 139 := by
  have h2 : x = 0 ∨ x = 1 ∨ x = 2 ∨ x = 3 := by omega
  rcases h2 with rfl | rfl | rfl | rfl
  · exact ⟨_, rfl, by decide, by decide⟩
  · exact ⟨_, rfl, by decide, by decide⟩
  · exact ⟨_, rfl, by decide, by decide⟩
  · exact ⟨_, rfl, by decide, by decide⟩
theorem mood_at {x : Int} (h0 : 0 ≤ x) (h1 : x < 4) : ∃ s : Int, atI [V.int 0, .int 0, .int 1, .int 2] x = some (.int s) ∧ True := by
  have h2 : x = 0 ∨ x = 1 ∨ x = 2 ∨ x = 3 := by omega
  rcases h2 with rfl | rfl | rfl | rfl <;> exact ⟨_, rfl, True.intro⟩
theorem rv_neg {H : Hp} {i : Int} : RU (rU fun i => .int (-i)) (.int i) H (.int (-i)) := fun H1 _ Q q => ⟨i, rfl, q H1 (Ex.refl H1)⟩
section
variable {P : Program} {w : World} {K : PySem.W.Frag} {mg : Str → Option Value} {base : Heap}
abbrev s_weight : Stmt := top 99
theorem sc_weight : FnScope ["_law_draw_here", "_law_made", "_law_mood", "_law_lift", "_law_kind", "_law_size", "_law_bottom", "_law_way", "_law_number"] ["_law_draw_here", "_law_made", "_law_mood", "_law_lift"] (defScope s_weight) := ⟨rfl, rfl, rfl, by decide +kernel, rfl, by decide +kernel, by decide +kernel⟩
theorem ok_weight {f : Addr} {fd : FuncData} (F : FnP K "_law_weight" s_weight f fd) (g_weight : mg "_law_weight" = some (.ref f)) {f_next : Addr} {fd_next : FuncData} (F_next : FnP K "_law_next" s_next f_next fd_next) (g_next : mg "_law_next" = some (.ref f_next)) (G_next : FnOk P w K mg base (CX0) 2 f_next fd_next ["_law_draw_here", "_law_many"] (spNext)) {f_lowest : Addr} {fd_lowest : FuncData} (F_lowest : FnP K "_law_lowest" s_lowest f_lowest fd_lowest) (g_lowest : mg "_law_lowest" = some (.ref f_lowest)) (G_lowest : FnOk P w K mg base (CX0) 1 f_lowest fd_lowest ["_law_top", "_law_bottom"] (spLowest)) {f_zero : Addr} {fd_zero : FuncData} (F_zero : FnP K "_law_zero" s_zero f_zero fd_zero) (g_zero : mg "_law_zero" = some (.ref f_zero)) (G_zero : FnOk P w K mg base (CX0) 4 f_zero fd_zero ["_law_made"] (spLZero 3)) (z_min : mg "min" = none) : ∀ d : Nat, FnOk P w K mg base CX0 (d + 4) f fd ["_law_draw_here", "_law_made", "_law_mood", "_law_lift"] (spLWeight d) := by
  have F_weight := F
  have b_weight : Binds K fd ["_law_draw_here", "_law_made", "_law_mood", "_law_lift"] [] := F_weight.bindsN fun _ _ _ _ _ _ us hl => match us, hl with | [_, _, _, _], _ => rfl
  have b_next : Binds K fd_next ["_law_draw_here", "_law_many"] [] := F_next.bindsN fun _ _ _ _ _ _ us hl => match us, hl with | [_, _], _ => rfl
  have b_lowest : Binds K fd_lowest ["_law_top", "_law_bottom"] [] := F_lowest.bindsN fun _ _ _ _ _ _ us hl => match us, hl with | [_, _], _ => rfl
  have b_zero : Binds K fd_zero ["_law_made"] [] := F_zero.bindsN fun _ _ _ _ _ _ us hl => match us, hl with | [_], _ => rfl
  intro d
  induction d with
  | zero =>
    refine fn_never fun vs H Q E h => ?_
    obtain ⟨m, pc, pg, cs, j, v, k, mood, lift, rfl, hD, hj, hM, hn, ok, m0, m1, l0, l1, q⟩ := h
    exact Nat.not_lt_zero _ hn
  | succ d ih =>
    have G_weight := ih
    refine F.ok sc_weight (fun vs H Q E h => ?_) (fun cdv A outer s H vs Q E hr h => ?_)
    · obtain ⟨m, pc, pg, cs, j, v, k, mood, lift, rfl, _⟩ := h
      rfl
    · obtain ⟨m, pc, pg, cs, j, v, k, mood, lift, rfl, hD, hj, hM, hn, ok, m0, m1, l0, l1, q⟩ := h
      have hu := hu_of hr
      have hu64 := hr.units
      have hr_weight := hr
      have hr_next := hr.mono (by omega : 2 ≤ d + 4)
      have hr_lowest := hr.mono (by omega : 1 ≤ d + 4)
      have hr_zero := hr.mono (by omega : 4 ≤ d + 4)
      refine ⟨_, PSs.nox (pss_cons (ps_set (i := 4) sc_weight.nd rfl (Or.inl rfl) (pe_ix ix_tup (pv 1) pe_int (fun _ _ => rfl)))
      (pss_cons (ps_if (pt_cmpR op_eq (pv 4) pe_str (nomark _)) (pss_one (ps_ret (pe_tup (pa_cons (pe_call G_weight hr_weight rfl g_weight F_weight.kp b_weight .nil pass0 (pa_cons (pv 0) (pa_cons (pe_ix ix_tup (pv 1) pe_int (fun _ _ => rfl)) (pa_cons (pv 2) (pa_cons (pv 3) pa_nil))))) (pa_cons (pe_call G_weight hr_weight rfl g_weight F_weight.kp b_weight .nil pass0 (pa_cons (pv 0) (pa_cons (pe_ix ix_tup (pv 1) pe_int (fun _ _ => rfl)) (pa_cons (pv 2) (pa_cons (pv 3) pa_nil))))) pa_nil))))) pss_nil)
      (pss_cons (ps_if (pt_cmpR op_eq (pv 4) pe_str (nomark _)) (pss_one (ps_ret (pe_cmpR op_gt (pe_call G_next hr_next rfl g_next F_next.kp b_next .nil pass0 (pa_cons (pv 0) (pa_cons pe_int pa_nil))) pe_int (nomark _)))) pss_nil)
      (pss_cons (ps_if (pt_cmpR op_eq (pv 4) pe_str (nomark _)) (pss_one (ps_ret (pe_call G_next hr_next rfl g_next F_next.kp b_next .nil pass0 (pa_cons (pv 0) (pa_cons (pe_op op_shl pe_int (pe_ix ix_tup (pv 1) pe_int (fun _ _ => rfl))) pa_nil))))) pss_nil)
      (pss_cons (ps_set (i := 5) sc_weight.nd rfl (Or.inl rfl) (pe_ix ix_list (pe_lst (pa_cons pe_int (pa_cons pe_int (pa_cons pe_int (pa_cons (pe_op op_pow pe_int pe_int) pa_nil))))) (pe_call G_next hr_next rfl g_next F_next.kp b_next .nil pass0 (pa_cons (pv 0) (pa_cons pe_int pa_nil))) (fun _ _ => rfl)))
      (pss_cons (ps_if (pt_cmpR op_eq (pv 4) pe_str (nomark _)) (pss_cons (ps_set (i := 6) sc_weight.nd rfl (Or.inl rfl) (pe_op op_add pe_int (pe_call G_next hr_next rfl g_next F_next.kp b_next .nil pass0 (pa_cons (pv 0) (pa_cons (pe_callB (call_min2 rfl) (by rfl) z_min PyProof.Rows.boot_min (pa_cons (pv 5) (pa_cons (pe_op op_pow pe_int pe_int) pa_nil))) pa_nil)))))
      (pss_one (ps_ret (pe_call G_lowest hr_lowest rfl g_lowest F_lowest.kp b_lowest .nil pass0 (pa_cons (pe_call G_next hr_next rfl g_next F_next.kp b_next .nil pass0 (pa_cons (pv 0) (pa_cons (pe_op op_add (pv 6) pe_int) pa_nil))) (pa_cons (pv 6) pa_nil)))))) pss_nil)
      (pss_cons (ps_par (i := 7) (j := 8) (by rfl) sc_weight.nd rfl rfl (by decide) rfl rfl (pa_cons (pe_call G_next hr_next rfl g_next F_next.kp b_next .nil pass0 (pa_cons (pv 0) (pa_cons pe_int pa_nil))) (pa_cons (pe_call G_next hr_next rfl g_next F_next.kp b_next .nil pass0 (pa_cons (pv 0) (pa_cons (pv 5) pa_nil))) pa_nil)) (by rfl))
      (pss_cons (ps_if (pt_cmpR op_lt (pv 7) (pe_ix ix_list (pe_lst (pa_cons pe_int (pa_cons pe_int (pa_cons pe_int (pa_cons pe_int pa_nil))))) (pv 2) (fun _ _ => rfl)) (nomark _)) (pss_one (ps_ret pe_str)) pss_nil)
      (pss_cons (ps_if (pt_cmpR op_eq (pv 7) pe_int (nomark _)) (pss_one (ps_ret (pe_call G_zero hr_zero rfl g_zero F_zero.kp b_zero .nil pass0 (pa_cons (pv 1) pa_nil)))) pss_nil)
      (pss_cons (ps_if (pt_cmpR op_notIn_seq (pv 4) (pe_tup (pa_cons pe_str (pa_cons pe_str pa_nil))) (by rfl)) (pss_one (ps_ret (pv 8))) pss_nil)
      (pss_cons (ps_set (i := 8) sc_weight.nd rfl (Or.inl rfl) (pe_ifExp (pt_cmpR op_eq (pv 2) pe_int (nomark _)) (pe_op op_add (pv 8) (pv 3)) (pv 8)))
      (pss_cons (ps_set (i := 8) sc_weight.nd rfl (Or.inl rfl) (pe_ifExp (PW.pt (pw_and (pt_cmpR op_eq (pv 2) pe_int (nomark _)) (pw_and1 (pt_cmpR op_gt (pv 7) pe_int (nomark _))))) (pe_un un_neg (pv 8)) (pv 8)))
      (pss_one (ps_ret (pe_ifExp (pt_cmpR op_eq (pv 4) pe_str (nomark _)) (pv 8) (pe_un un_neg (pv 8))))))))))))))))), ?_⟩
      obtain ⟨a, xs, rfl, ha, h1, h2, h3⟩ := made_at hM
      refine q_asg (v := .str (nameOf k)) (ev_op (ev_var rfl) ev_c (rv_ixT (st_of ha) (v := .str (nameOf k)) (atI_of (Int.le_refl 0) rfl))) fun H1 e1 => ?_
      have cw := costW_pos k
      have tk : ∀ {G : Hp} {t : Str} {s5 s6 s7 s8 : Option V}, EvT (tTest (tOp rEq (tVar 4) (tC (.str t)))) [some (.ref m), some (.ref a), some (.int mood), some (.int lift), some (.str (nameOf k)), s5, s6, s7, s8] G (nameOf k == t) := fun {G t s5 s6 s7 s8} => et_test (ev_eqS (ev_var rfl) ev_c)
      cases k with
      | pair kl kr =>
        obtain ⟨u, u', rfl, hu1, hu2⟩ := h3 kl kr rfl
        refine q_when (b := true) (et_is tk (by show (("pair" : Str) == "pair") = true; decide +kernel)) (fun _ H2 e2 => ?_) (fun hb => (by cases hb))
        have e12 := e1.trans e2
        have hc : costW (.pair kl kr) = costW kl + costW kr := rfl
        have rA := RD.ofEx hD e12
        refine ⟨_, rfl, _, rfl, a, _, 1, u, rfl, rfl, st_of (e12 _ _ ha), rfl, _, rfl, _, rfl, m, pc, pg, cs, j, u, kl, mood, lift, rfl, rA.inv, by omega, hu1.ex e12, depth_l hn, ok.1, m0, m1, l0, l1, fun x1 d1 H3 r3 hx1 g1 s1 => ?_⟩
        have kp : Kp H H3 := (rA.then r3).kp hD
        refine ⟨_, rfl, _, rfl, a, _, 2, u', rfl, rfl, st_of (kp.tup ha), rfl, _, rfl, _, rfl, m, pc, pg, cs, j + costW kl, u', kr, mood, lift, rfl, r3.inv, by omega, hu2.kp kp, depth_r hn, ok.2, m0, m1, l0, l1, fun x2 d2 H4 r4 hx2 g2 s2 => ⟨by show 2 ≤ sizeLine; decide, fun l hl => ?_⟩⟩
        refine q _ _ _ (RD.up (((rA.then r3).then r4).then (.ofEx r4.inv (Ex.new hl))) (by omega)) (.new hl (.cons (hx1.kp (r4.kp r3.inv)) (.cons hx2 .nil))) ?_ ⟨s1, s2, True.intro⟩
        show (goodB kl d1 && goodB kr d2) = true
        rw [g1, g2]
        rfl
      | truth =>
        refine q_when (b := false) (et_is tk (by show (("truth" : Str) == "pair") = false; decide +kernel)) (fun hb => (by cases hb)) (fun _ H2 e2 => ?_)
        have e := (e1.trans e2)
        refine q_when (b := true) (et_is tk (by show (("truth" : Str) == "truth") = true; decide +kernel)) (fun _ H3 e3 => ?_) (fun hb => (by cases hb))
        have rA := RD.ofEx hD (e.trans e3)
        refine ⟨_, rfl, m, pc, pg, cs, j, 4, rfl, rA.inv, by omega, by decide, by decide, fun x H4 x0 x1 r4 => ⟨x, 0, rfl, rfl, ?_⟩⟩
        exact q _ _ _ (RD.up (rA.then r4) (by omega)) (.bl _) rfl True.intro
      | lot n =>
        obtain rfl := h2 n rfl
        refine q_when (b := false) (et_is tk (by show (("lot" : Str) == "pair") = false; decide +kernel)) (fun hb => (by cases hb)) (fun _ H2 e2 => ?_)
        refine q_when (b := false) (et_is tk (by show (("lot" : Str) == "truth") = false; decide +kernel)) (fun hb => (by cases hb)) (fun _ H3 e3 => ?_)
        have e := ((e1.trans e2).trans e3)
        refine q_when (b := true) (et_is tk (by show (("lot" : Str) == "lot") = true; decide +kernel)) (fun _ H4 e4 => ?_) (fun hb => (by cases hb))
        have rA := RD.ofEx hD (e.trans e4)
        have n12 : n ≤ 12 := ok.2
        have hp := Nat.pow_le_pow_right (n := 2) (by decide) n12
        have hp0 := Nat.two_pow_pos n
        have hv : (1 : Int) * 2 ^ ((n : Int)).toNat = ((2 ^ n : Nat) : Int) := by rw [Int.one_mul, Int.toNat_natCast, Int.natCast_pow]; rfl
        refine ⟨_, rfl, _, rfl, a, _, 1, .int (n : Int), rfl, rfl, st_of (e.trans e4 _ _ ha), rfl, 1, (n : Int), rfl, rfl, ⟨by omega, by omega, by decide⟩, m, pc, pg, cs, j, ((2 ^ n : Nat) : Int), by rw [← hv]; rfl, rA.inv, by omega, by omega, log_lt (by omega) (by omega), fun x H5 x0 x1 r5 => ?_⟩
        obtain ⟨i, rfl⟩ : ∃ i : Nat, x = (i : Int) := ⟨x.toNat, by omega⟩
        exact q _ _ _ (RD.up (rA.then r5) (by omega)) (.int _) (nat_lot (by omega)) (sz_int (by omega))
      | share =>
        refine q_when (b := false) (et_is tk (by show (("share" : Str) == "pair") = false; decide +kernel)) (fun hb => (by cases hb)) (fun _ H2 e2 => ?_)
        refine q_when (b := false) (et_is tk (by show (("share" : Str) == "truth") = false; decide +kernel)) (fun hb => (by cases hb)) (fun _ H3 e3 => ?_)
        refine q_when (b := false) (et_is tk (by show (("share" : Str) == "lot") = false; decide +kernel)) (fun hb => (by cases hb)) (fun _ H4 e4 => ?_)
        have e := (((e1.trans e2).trans e3).trans e4)
        refine asg_step ⟨10, 40, rfl, rfl, ⟨by decide, by decide, by decide⟩, by show 4 ≤ sizeLine; decide, fun l hl => ?_⟩
        have hDl := (RD.ofEx hD (e.trans (Ex.new (o := .lst [.int 4, .int 4, .int 90, .int ((10 : Int) ^ (40 : Int).toNat)]) hl))).inv
        obtain ⟨l1, l2⟩ := (RD.ofEx hD e).inv.fresh hl
        refine ⟨_, rfl, m, pc, pg, cs, j, 4, rfl, hDl, by omega, by decide, by decide, fun x H5 x0 x1 r1 => ?_⟩
        have hl5 := r1.stay l1 l2 (o := .lst [.int 4, .int 4, .int 90, .int ((10 : Int) ^ (40 : Int).toNat)]) upd_same
        obtain ⟨sz, hsz, z0, z1⟩ := size_at x0 x1
        refine ⟨l, _, x, .int sz, rfl, rfl, sq_of hl5, hsz, ?_⟩
        have rA : RD m pc pg cs (j + 1) H H5 := (RD.ofEx hD (e.trans (Ex.new hl))).then r1
        refine q_when (b := true) (et_is tk (by show (("share" : Str) == "share") = true; decide +kernel)) (fun _ H6 e6 => ?_) (fun hb => (by cases hb))
        refine asg_step ⟨_, rfl, _, rfl, 10, 12, rfl, rfl, ⟨by decide, by decide, by decide⟩, _, _, rfl, m, pc, pg, cs, j + 1, (if (10 : Int) ^ (12 : Int).toNat < sz then (10 : Int) ^ (12 : Int).toNat else sz), rfl, (RD.ofEx rA.inv e6).inv, by omega, ?_, ?_, fun y H7 y0 y1 r7 => ⟨1, y, rfl, rfl, ?_⟩⟩
        · split
          · decide
          · exact z0
        · refine log_lt ?_ ?_
          · split
            · decide
            · exact z0
          · split
            · decide
            · exact z1
        have yb : y < 2 ^ 139 := by
          refine Int.lt_trans y1 ?_
          split
          · decide
          · exact z1
        obtain ⟨b, rfl⟩ : ∃ b : Nat, y = (b : Int) := ⟨y.toNat, by omega⟩
        refine ⟨_, rfl, _, rfl, (1 + (b : Int)), 1, rfl, rfl, m, pc, pg, cs, j + 1 + 1, (1 + (b : Int) + 1), rfl, r7.inv, by omega, by omega, ?_, fun t H8 t0 t1 r8 => ?_⟩
        · have h1 : (1 + (b : Int) + 1).natAbs ≠ 0 := by omega
          have h2 : (1 + (b : Int) + 1).natAbs < 2 ^ 140 := by omega
          have := (Nat.log2_lt h1).mpr h2
          omega
        obtain ⟨p, rfl⟩ : ∃ p : Nat, t = (p : Int) := ⟨t.toNat, by omega⟩
        have hbb : (1 + (b : Int)) = ((b + 1 : Nat) : Int) := by omega
        refine ⟨_, rfl, p, b + 1, congrArg (fun z => [V.int (p : Int), V.int z]) hbb, Nat.succ_pos b, Nat.lt_of_le_of_lt (by omega : b + 1 ≤ 2 ^ 139) (Nat.pow_lt_pow_right (by decide) (by decide)), fun r H9 e9 hr9 => ?_⟩
        refine q r _ H9 (RD.up ((((rA.then (.ofEx rA.inv e6)).then r7).then r8).then (.ofEx r8.inv e9)) (by omega)) hr9 (low_good (Nat.succ_pos b) (by omega)) (low_sz (by omega) ?_)
        have : (2 : Nat) ^ 140 = 2 ^ 139 + 2 ^ 139 := by decide
        omega
      | count =>
        refine q_when (b := false) (et_is tk (by show (("count" : Str) == "pair") = false; decide +kernel)) (fun hb => (by cases hb)) (fun _ H2 e2 => ?_)
        refine q_when (b := false) (et_is tk (by show (("count" : Str) == "truth") = false; decide +kernel)) (fun hb => (by cases hb)) (fun _ H3 e3 => ?_)
        refine q_when (b := false) (et_is tk (by show (("count" : Str) == "lot") = false; decide +kernel)) (fun hb => (by cases hb)) (fun _ H4 e4 => ?_)
        have e := (((e1.trans e2).trans e3).trans e4)
        refine asg_step ⟨10, 40, rfl, rfl, ⟨by decide, by decide, by decide⟩, by show 4 ≤ sizeLine; decide, fun l hl => ?_⟩
        have hDl := (RD.ofEx hD (e.trans (Ex.new (o := .lst [.int 4, .int 4, .int 90, .int ((10 : Int) ^ (40 : Int).toNat)]) hl))).inv
        obtain ⟨l1, l2⟩ := (RD.ofEx hD e).inv.fresh hl
        refine ⟨_, rfl, m, pc, pg, cs, j, 4, rfl, hDl, by omega, by decide, by decide, fun x H5 x0 x1 r1 => ?_⟩
        have hl5 := r1.stay l1 l2 (o := .lst [.int 4, .int 4, .int 90, .int ((10 : Int) ^ (40 : Int).toNat)]) upd_same
        obtain ⟨sz, hsz, z0, z1⟩ := size_at x0 x1
        refine ⟨l, _, x, .int sz, rfl, rfl, sq_of hl5, hsz, ?_⟩
        have rA : RD m pc pg cs (j + 1) H H5 := (RD.ofEx hD (e.trans (Ex.new hl))).then r1
        refine q_when (b := false) (et_is tk (by show (("count" : Str) == "share") = false; decide +kernel)) (fun hb => (by cases hb)) (fun _ H6 e6 => ?_)
        refine par_step ⟨_, rfl, m, pc, pg, cs, j + 1, 12, rfl, (RD.ofEx rA.inv e6).inv, by omega, by decide, by decide, fun way H7 w0 w1 r7 => ?_⟩
        refine ⟨_, rfl, _, rfl, m, pc, pg, cs, j + 1 + 1, sz, rfl, r7.inv, by omega, z0, log_lt z0 z1, fun nu H8 n0 n1 r8 => ⟨_, _, rfl, ?_⟩⟩
        have rB : RD m pc pg cs (j + 3) H H8 := ((rA.then (.ofEx rA.inv e6)).then r7).then r8
        have kp : Kp H H8 := rB.kp hD
        have done : ∀ {x : V} {d : PyData} {G : Hp}, Ex H8 G → DtAt G x d → goodB .count d = true → Sz 140 d → Q x G := fun {x d G} eG hx hg hs => q x d G (rB.then (.ofEx rB.inv eG)) hx hg hs
        obtain ⟨lim, hlim, _⟩ := mood_at m0 m1
        refine q_when (b := decide (way < lim)) (et_test (ev_op (ev_var rfl) (ev_opL1 (el_lst (ea_cons ev_c (ea_cons ev_c (ea_cons ev_c (ea_cons ev_c ea_nil)))) (by show 4 ≤ 100000; decide)) (fun H1 e1 => ev_var rfl) fun l H1 hl e1 => rv_ixL (sq_of hl) hlim) rv_I0)) (fun _ H9 e9 => ?_) (fun _ H9 e9 => ?_)
        · exact s_ret ev_c fun H10 e10 => done (e9.trans e10) (.str _) (by decide +kernel) True.intro
        refine q_when (b := (way == 11)) (et_test (ev_eqI (ev_var rfl) ev_c)) (fun _ H10 e10 => ?_) (fun _ H10 e10 => ?_)
        · refine ret_call (ea_cons (ev_var rfl) ea_nil) fun H11 e11 => ⟨.ref a, .count, rfl, hM.kp (kp.trans (.ex ((e9.trans e10).trans e11))), by show 0 < 3; decide, fun x G eG hx => done (((e9.trans e10).trans e11).trans eG) hx (good_zero .count) (by show (0 : Int).natAbs < 2 ^ 140; decide)⟩
        have e10' := e9.trans e10
        refine q_when (b := true) (et_is (et_test (ev_niU (ev_var rfl) (eu_tup (ea_cons ev_c (ea_cons ev_c ea_nil)) (by show 2 ≤ 100000; decide)) rfl rfl)) (by decide +kernel)) (fun hb H11 e11 => ?_) (fun hb H11 e11 => ?_)
        · exact s_ret (ev_var rfl) fun H12 e12 => done ((e10'.trans e11).trans e12) (.int _) (decide_eq_true n0) (sz_int (by omega))
        · cases hb
      | narrow =>
        refine q_when (b := false) (et_is tk (by show (("narrow" : Str) == "pair") = false; decide +kernel)) (fun hb => (by cases hb)) (fun _ H2 e2 => ?_)
        refine q_when (b := false) (et_is tk (by show (("narrow" : Str) == "truth") = false; decide +kernel)) (fun hb => (by cases hb)) (fun _ H3 e3 => ?_)
        refine q_when (b := false) (et_is tk (by show (("narrow" : Str) == "lot") = false; decide +kernel)) (fun hb => (by cases hb)) (fun _ H4 e4 => ?_)
        have e := (((e1.trans e2).trans e3).trans e4)
        refine asg_step ⟨10, 40, rfl, rfl, ⟨by decide, by decide, by decide⟩, by show 4 ≤ sizeLine; decide, fun l hl => ?_⟩
        have hDl := (RD.ofEx hD (e.trans (Ex.new (o := .lst [.int 4, .int 4, .int 90, .int ((10 : Int) ^ (40 : Int).toNat)]) hl))).inv
        obtain ⟨l1, l2⟩ := (RD.ofEx hD e).inv.fresh hl
        refine ⟨_, rfl, m, pc, pg, cs, j, 4, rfl, hDl, by omega, by decide, by decide, fun x H5 x0 x1 r1 => ?_⟩
        have hl5 := r1.stay l1 l2 (o := .lst [.int 4, .int 4, .int 90, .int ((10 : Int) ^ (40 : Int).toNat)]) upd_same
        obtain ⟨sz, hsz, z0, z1⟩ := size_at x0 x1
        refine ⟨l, _, x, .int sz, rfl, rfl, sq_of hl5, hsz, ?_⟩
        have rA : RD m pc pg cs (j + 1) H H5 := (RD.ofEx hD (e.trans (Ex.new hl))).then r1
        refine q_when (b := false) (et_is tk (by show (("narrow" : Str) == "share") = false; decide +kernel)) (fun hb => (by cases hb)) (fun _ H6 e6 => ?_)
        refine par_step ⟨_, rfl, m, pc, pg, cs, j + 1, 12, rfl, (RD.ofEx rA.inv e6).inv, by omega, by decide, by decide, fun way H7 w0 w1 r7 => ?_⟩
        refine ⟨_, rfl, _, rfl, m, pc, pg, cs, j + 1 + 1, sz, rfl, r7.inv, by omega, z0, log_lt z0 z1, fun nu H8 n0 n1 r8 => ⟨_, _, rfl, ?_⟩⟩
        have rB : RD m pc pg cs (j + 3) H H8 := ((rA.then (.ofEx rA.inv e6)).then r7).then r8
        have kp : Kp H H8 := rB.kp hD
        have done : ∀ {x : V} {d : PyData} {G : Hp}, Ex H8 G → DtAt G x d → goodB .narrow d = true → Sz 140 d → Q x G := fun {x d G} eG hx hg hs => q x d G (rB.then (.ofEx rB.inv eG)) hx hg hs
        obtain ⟨lim, hlim, _⟩ := mood_at m0 m1
        refine q_when (b := decide (way < lim)) (et_test (ev_op (ev_var rfl) (ev_opL1 (el_lst (ea_cons ev_c (ea_cons ev_c (ea_cons ev_c (ea_cons ev_c ea_nil)))) (by show 4 ≤ 100000; decide)) (fun H1 e1 => ev_var rfl) fun l H1 hl e1 => rv_ixL (sq_of hl) hlim) rv_I0)) (fun _ H9 e9 => ?_) (fun _ H9 e9 => ?_)
        · exact s_ret ev_c fun H10 e10 => done (e9.trans e10) (.str _) (by decide +kernel) True.intro
        refine q_when (b := (way == 11)) (et_test (ev_eqI (ev_var rfl) ev_c)) (fun _ H10 e10 => ?_) (fun _ H10 e10 => ?_)
        · refine ret_call (ea_cons (ev_var rfl) ea_nil) fun H11 e11 => ⟨.ref a, .narrow, rfl, hM.kp (kp.trans (.ex ((e9.trans e10).trans e11))), by show 0 < 3; decide, fun x G eG hx => done (((e9.trans e10).trans e11).trans eG) hx (good_zero .narrow) (by show (0 : Int).natAbs < 2 ^ 140; decide)⟩
        have e10' := e9.trans e10
        refine q_when (b := true) (et_is (et_test (ev_niU (ev_var rfl) (eu_tup (ea_cons ev_c (ea_cons ev_c ea_nil)) (by show 2 ≤ 100000; decide)) rfl rfl)) (by decide +kernel)) (fun hb H11 e11 => ?_) (fun hb H11 e11 => ?_)
        · exact s_ret (ev_var rfl) fun H12 e12 => done ((e10'.trans e11).trans e12) (.int _) (decide_eq_true n0) (sz_int (by omega))
        · cases hb
      | least =>
        refine q_when (b := false) (et_is tk (by show (("least" : Str) == "pair") = false; decide +kernel)) (fun hb => (by cases hb)) (fun _ H2 e2 => ?_)
        refine q_when (b := false) (et_is tk (by show (("least" : Str) == "truth") = false; decide +kernel)) (fun hb => (by cases hb)) (fun _ H3 e3 => ?_)
        refine q_when (b := false) (et_is tk (by show (("least" : Str) == "lot") = false; decide +kernel)) (fun hb => (by cases hb)) (fun _ H4 e4 => ?_)
        have e := (((e1.trans e2).trans e3).trans e4)
        refine asg_step ⟨10, 40, rfl, rfl, ⟨by decide, by decide, by decide⟩, by show 4 ≤ sizeLine; decide, fun l hl => ?_⟩
        have hDl := (RD.ofEx hD (e.trans (Ex.new (o := .lst [.int 4, .int 4, .int 90, .int ((10 : Int) ^ (40 : Int).toNat)]) hl))).inv
        obtain ⟨l1, l2⟩ := (RD.ofEx hD e).inv.fresh hl
        refine ⟨_, rfl, m, pc, pg, cs, j, 4, rfl, hDl, by omega, by decide, by decide, fun x H5 x0 x1 r1 => ?_⟩
        have hl5 := r1.stay l1 l2 (o := .lst [.int 4, .int 4, .int 90, .int ((10 : Int) ^ (40 : Int).toNat)]) upd_same
        obtain ⟨sz, hsz, z0, z1⟩ := size_at x0 x1
        refine ⟨l, _, x, .int sz, rfl, rfl, sq_of hl5, hsz, ?_⟩
        have rA : RD m pc pg cs (j + 1) H H5 := (RD.ofEx hD (e.trans (Ex.new hl))).then r1
        refine q_when (b := false) (et_is tk (by show (("least" : Str) == "share") = false; decide +kernel)) (fun hb => (by cases hb)) (fun _ H6 e6 => ?_)
        refine par_step ⟨_, rfl, m, pc, pg, cs, j + 1, 12, rfl, (RD.ofEx rA.inv e6).inv, by omega, by decide, by decide, fun way H7 w0 w1 r7 => ?_⟩
        refine ⟨_, rfl, _, rfl, m, pc, pg, cs, j + 1 + 1, sz, rfl, r7.inv, by omega, z0, log_lt z0 z1, fun nu H8 n0 n1 r8 => ⟨_, _, rfl, ?_⟩⟩
        have rB : RD m pc pg cs (j + 3) H H8 := ((rA.then (.ofEx rA.inv e6)).then r7).then r8
        have kp : Kp H H8 := rB.kp hD
        have done : ∀ {x : V} {d : PyData} {G : Hp}, Ex H8 G → DtAt G x d → goodB .least d = true → Sz 140 d → Q x G := fun {x d G} eG hx hg hs => q x d G (rB.then (.ofEx rB.inv eG)) hx hg hs
        obtain ⟨lim, hlim, _⟩ := mood_at m0 m1
        refine q_when (b := decide (way < lim)) (et_test (ev_op (ev_var rfl) (ev_opL1 (el_lst (ea_cons ev_c (ea_cons ev_c (ea_cons ev_c (ea_cons ev_c ea_nil)))) (by show 4 ≤ 100000; decide)) (fun H1 e1 => ev_var rfl) fun l H1 hl e1 => rv_ixL (sq_of hl) hlim) rv_I0)) (fun _ H9 e9 => ?_) (fun _ H9 e9 => ?_)
        · exact s_ret ev_c fun H10 e10 => done (e9.trans e10) (.str _) (by decide +kernel) True.intro
        refine q_when (b := (way == 11)) (et_test (ev_eqI (ev_var rfl) ev_c)) (fun _ H10 e10 => ?_) (fun _ H10 e10 => ?_)
        · refine ret_call (ea_cons (ev_var rfl) ea_nil) fun H11 e11 => ⟨.ref a, .least, rfl, hM.kp (kp.trans (.ex ((e9.trans e10).trans e11))), by show 0 < 3; decide, fun x G eG hx => done (((e9.trans e10).trans e11).trans eG) hx (good_zero .least) (by exact True.intro)⟩
        have e10' := e9.trans e10
        refine q_when (b := false) (et_is (et_test (ev_niU (ev_var rfl) (eu_tup (ea_cons ev_c (ea_cons ev_c ea_nil)) (by show 2 ≤ 100000; decide)) rfl rfl)) (by decide +kernel)) (fun hb H11 e11 => ?_) (fun hb H11 e11 => ?_)
        · cases hb
        replace e11 := e10'.trans e11
        refine q_asg (ev_ifI (et_test (ev_eqI (ev_var rfl) ev_c)) (ev_op (ev_var rfl) (ev_var rfl) rv_I0) (ev_var rfl)) fun H12 e12 => ?_
        have hb1 : ∃ n2 : Int, (if ((mood == 1) = true) then nu + lift else nu) = n2 ∧ -100 ≤ n2 ∧ n2 ≤ nu + 100 := by
          refine ⟨_, rfl, ?_, ?_⟩ <;> split <;> omega
        obtain ⟨n2, hn2, b1, b2⟩ := hb1
        rw [hn2]
        refine q_asg (ev_ifI (et_and (et_test (ev_eqI (ev_var rfl) ev_c)) fun _ => et_test (ev_gtI (ev_var rfl) ev_c)) (ev_un (ev_var rfl) rv_neg) (ev_var rfl)) fun H13 e13 => ?_
        have hb3 : ∃ n3 : Int, (if (((mood == 2) && decide (7 < way)) = true) then -n2 else n2) = n3 ∧ n3.natAbs ≤ nu.natAbs + 100 := by
          refine ⟨_, rfl, ?_⟩
          split <;> omega
        obtain ⟨n3, hn3, b3⟩ := hb3
        rw [hn3]
        refine r_if (b := true) (et_is tk (by show (("least" : Str) == "least") = true; decide +kernel)) (fun hb H14 e14 => ?_) (fun hb H14 e14 => ?_)
        · exact s_ret (ev_var rfl) fun H15 e15 => done ((((e11.trans e12).trans e13).trans e14).trans e15) (.int _) rfl (sz_int (by omega))
        · cases hb
      | most =>
        refine q_when (b := false) (et_is tk (by show (("most" : Str) == "pair") = false; decide +kernel)) (fun hb => (by cases hb)) (fun _ H2 e2 => ?_)
        refine q_when (b := false) (et_is tk (by show (("most" : Str) == "truth") = false; decide +kernel)) (fun hb => (by cases hb)) (fun _ H3 e3 => ?_)
        refine q_when (b := false) (et_is tk (by show (("most" : Str) == "lot") = false; decide +kernel)) (fun hb => (by cases hb)) (fun _ H4 e4 => ?_)
        have e := (((e1.trans e2).trans e3).trans e4)
        refine asg_step ⟨10, 40, rfl, rfl, ⟨by decide, by decide, by decide⟩, by show 4 ≤ sizeLine; decide, fun l hl => ?_⟩
        have hDl := (RD.ofEx hD (e.trans (Ex.new (o := .lst [.int 4, .int 4, .int 90, .int ((10 : Int) ^ (40 : Int).toNat)]) hl))).inv
        obtain ⟨l1, l2⟩ := (RD.ofEx hD e).inv.fresh hl
        refine ⟨_, rfl, m, pc, pg, cs, j, 4, rfl, hDl, by omega, by decide, by decide, fun x H5 x0 x1 r1 => ?_⟩
        have hl5 := r1.stay l1 l2 (o := .lst [.int 4, .int 4, .int 90, .int ((10 : Int) ^ (40 : Int).toNat)]) upd_same
        obtain ⟨sz, hsz, z0, z1⟩ := size_at x0 x1
        refine ⟨l, _, x, .int sz, rfl, rfl, sq_of hl5, hsz, ?_⟩
        have rA : RD m pc pg cs (j + 1) H H5 := (RD.ofEx hD (e.trans (Ex.new hl))).then r1
        refine q_when (b := false) (et_is tk (by show (("most" : Str) == "share") = false; decide +kernel)) (fun hb => (by cases hb)) (fun _ H6 e6 => ?_)
        refine par_step ⟨_, rfl, m, pc, pg, cs, j + 1, 12, rfl, (RD.ofEx rA.inv e6).inv, by omega, by decide, by decide, fun way H7 w0 w1 r7 => ?_⟩
        refine ⟨_, rfl, _, rfl, m, pc, pg, cs, j + 1 + 1, sz, rfl, r7.inv, by omega, z0, log_lt z0 z1, fun nu H8 n0 n1 r8 => ⟨_, _, rfl, ?_⟩⟩
        have rB : RD m pc pg cs (j + 3) H H8 := ((rA.then (.ofEx rA.inv e6)).then r7).then r8
        have kp : Kp H H8 := rB.kp hD
        have done : ∀ {x : V} {d : PyData} {G : Hp}, Ex H8 G → DtAt G x d → goodB .most d = true → Sz 140 d → Q x G := fun {x d G} eG hx hg hs => q x d G (rB.then (.ofEx rB.inv eG)) hx hg hs
        obtain ⟨lim, hlim, _⟩ := mood_at m0 m1
        refine q_when (b := decide (way < lim)) (et_test (ev_op (ev_var rfl) (ev_opL1 (el_lst (ea_cons ev_c (ea_cons ev_c (ea_cons ev_c (ea_cons ev_c ea_nil)))) (by show 4 ≤ 100000; decide)) (fun H1 e1 => ev_var rfl) fun l H1 hl e1 => rv_ixL (sq_of hl) hlim) rv_I0)) (fun _ H9 e9 => ?_) (fun _ H9 e9 => ?_)
        · exact s_ret ev_c fun H10 e10 => done (e9.trans e10) (.str _) (by decide +kernel) True.intro
        refine q_when (b := (way == 11)) (et_test (ev_eqI (ev_var rfl) ev_c)) (fun _ H10 e10 => ?_) (fun _ H10 e10 => ?_)
        · refine ret_call (ea_cons (ev_var rfl) ea_nil) fun H11 e11 => ⟨.ref a, .most, rfl, hM.kp (kp.trans (.ex ((e9.trans e10).trans e11))), by show 0 < 3; decide, fun x G eG hx => done (((e9.trans e10).trans e11).trans eG) hx (good_zero .most) (by exact True.intro)⟩
        have e10' := e9.trans e10
        refine q_when (b := false) (et_is (et_test (ev_niU (ev_var rfl) (eu_tup (ea_cons ev_c (ea_cons ev_c ea_nil)) (by show 2 ≤ 100000; decide)) rfl rfl)) (by decide +kernel)) (fun hb H11 e11 => ?_) (fun hb H11 e11 => ?_)
        · cases hb
        replace e11 := e10'.trans e11
        refine q_asg (ev_ifI (et_test (ev_eqI (ev_var rfl) ev_c)) (ev_op (ev_var rfl) (ev_var rfl) rv_I0) (ev_var rfl)) fun H12 e12 => ?_
        have hb1 : ∃ n2 : Int, (if ((mood == 1) = true) then nu + lift else nu) = n2 ∧ -100 ≤ n2 ∧ n2 ≤ nu + 100 := by
          refine ⟨_, rfl, ?_, ?_⟩ <;> split <;> omega
        obtain ⟨n2, hn2, b1, b2⟩ := hb1
        rw [hn2]
        refine q_asg (ev_ifI (et_and (et_test (ev_eqI (ev_var rfl) ev_c)) fun _ => et_test (ev_gtI (ev_var rfl) ev_c)) (ev_un (ev_var rfl) rv_neg) (ev_var rfl)) fun H13 e13 => ?_
        have hb3 : ∃ n3 : Int, (if (((mood == 2) && decide (7 < way)) = true) then -n2 else n2) = n3 ∧ n3.natAbs ≤ nu.natAbs + 100 := by
          refine ⟨_, rfl, ?_⟩
          split <;> omega
        obtain ⟨n3, hn3, b3⟩ := hb3
        rw [hn3]
        refine r_if (b := false) (et_is tk (by show (("most" : Str) == "least") = false; decide +kernel)) (fun hb H14 e14 => ?_) (fun hb H14 e14 => ?_)
        · cases hb
        · exact s_ret (ev_un (ev_var rfl) rv_neg) fun H15 e15 => done ((((e11.trans e12).trans e13).trans e14).trans e15) (.int _) rfl (sz_int (by omega))
end
end D1
end
section
set_option Elab.async false
set_option linter.all false
set_option maxRecDepth 100000
set_option maxHeartbeats 4000000
/-! L6: the law's orders -/
namespace D1
open PySem L2 Evl RZ ClX PySem.VX
/-- [e for k in range(n)], numbers drawn -/
theorem lc_intsL {σ : L2.St} {H1 : Hp} {te : TE} {ta : TA} {jj : Nat} {vs : List Nat} {Q : VK} {n : Nat} (I : List Int → Hp → Prop) (hn : n ≤ 100000) (ha : EvA ta σ H1 [.int (n : Int)])
    (h0 : ∀ G, Ex H1 G → I [] G) (hI : ∀ (zs : List Int) (D : Addr) (o : HO) (G : Hp), H1 D = none → I zs G → I zs (upd G D o)) (hw : ∀ x, wipe ((wipe σ vs).set jj (some x)) vs = wipe σ vs)
    (hs : ∀ (i : Nat) (zs : List Int) (G : Hp), i < n → zs.length = i → I zs G → EvP te ((wipe σ vs).set jj (some (.int (0 + (i : Int))))) G fun y G' => ∃ z, y = .int z ∧ I (zs ++ [z]) G' ∧ ∀ (D : Addr) (xs : List V), H1 D = none → G D = some (.lst xs) → G' D = some (.lst xs))
    (k : ∀ (D : Addr) (zs : List Int) (G : Hp), H1 D = none → G D = some (.lst (zs.map V.int)) → zs.length = n → I zs G → Q (.ref D) G) :
    tLc (iRng1 ta) (gName jj) tYes te vs σ H1 Q := by
  refine ha H1 (Ex.refl H1) _ fun H2 e2 => ⟨(n : Int), rfl, by omega, by omega, ?_⟩
  intro D hD
  have hD1 := fresh_back e2 hD
  have key : ∃ W : Nat → Nat → Hp → Prop, (∃ m, W 0 m (upd H2 D (.lst []))) ∧ ∀ i m H, W i m H → ((Itr 0 n).stop i H ∧ Q (.ref D) H) ∨ ((Itr 0 n).go i H ∧ ∃ Nx : Hp → Prop, (∀ H', Nx H' → ∃ m', m' < m ∧ W (i + 1) m' H') ∧ ∀ x H', (Itr 0 n).yld i H x H' → gName jj x (wipe σ vs) H' fun σ2 H2 => wipe σ2 vs = wipe σ vs ∧ tYes σ2 H2 fun b H3 =>
      if b = true then te σ2 H3 fun y H4 => ∃ acc, H4 D = some (.lst acc) ∧ acc.length < sizeLine ∧ Nx (upd H4 D (.lst (acc ++ [y]))) else Nx H3) := by
    refine lc_it (walk_range (lo := 0) (n := n)) (fun i G => ∃ zs : List Int, I zs G ∧ G D = some (.lst (zs.map V.int)) ∧ zs.length = i) ⟨[], hI _ _ _ _ hD1 (h0 H2 e2), upd_same, rfl⟩ (fun _ _ _ _ => True.intro) ?_ ?_
    · rintro i x _ G hi ⟨zs, hIi, hz, hl⟩ ⟨rfl, rfl⟩
      refine ⟨hw _, tyes_go (yes_of rfl ?_)⟩
      refine hs i zs G hi hl hIi _ ?_
      rintro y G' ⟨z, rfl, hI2, hk⟩
      refine ⟨_, hk D _ hD1 hz, ?_, zs ++ [z], hI _ _ _ _ hD1 hI2, ?_, by rw [List.length_append, hl]; rfl⟩
      · rw [List.length_map, hl]
        exact Nat.lt_of_lt_of_le hi (Nat.le_trans hn (by decide))
      · rw [upd_same, List.map_append]
        rfl
    · rintro G ⟨zs, hIn, hz, hl⟩
      exact k D zs G hD1 hz hl hIn
  have hnn : ((n : Int)).toNat = n := Int.toNat_natCast n
  rw [hnn]
  exact key
theorem lc_ints {P : Int → Prop} {σ : L2.St} {H1 : Hp} {te : TE} {ta : TA} {jj : Nat} {vs : List Nat} {Q : VK} {n : Nat} (I : Nat → Hp → Prop) (hn : n ≤ 100000) (ha : EvA ta σ H1 [.int (n : Int)])
    (h0 : ∀ G, Ex H1 G → I 0 G) (hI : ∀ (i : Nat) (D : Addr) (o : HO) (G : Hp), H1 D = none → I i G → I i (upd G D o)) (hw : ∀ x, wipe ((wipe σ vs).set jj (some x)) vs = wipe σ vs)
    (hs : ∀ (i : Nat) (G : Hp), i < n → I i G → EvP te ((wipe σ vs).set jj (some (.int (0 + (i : Int))))) G fun y G' => ∃ z, y = .int z ∧ P z ∧ I (i + 1) G' ∧ ∀ (D : Addr) (xs : List V), H1 D = none → G D = some (.lst xs) → G' D = some (.lst xs))
    (k : ∀ (D : Addr) (zs : List Int) (G : Hp), H1 D = none → G D = some (.lst (zs.map V.int)) → zs.length = n → (∀ z ∈ zs, P z) → I n G → Q (.ref D) G) :
    tLc (iRng1 ta) (gName jj) tYes te vs σ H1 Q := by
  refine lc_intsL (fun zs G => I zs.length G ∧ ∀ z ∈ zs, P z) hn ha (fun G e => ⟨h0 G e, fun z h => by cases h⟩) (fun zs D o G hD h => ⟨hI _ D o G hD h.1, h.2⟩) hw (fun i zs G hi hl h Q' q' => ?_) (fun D zs G hD hz hl h => k D zs G hD hz hl h.2 (hl ▸ h.1))
  refine hs i G hi (hl ▸ h.1) Q' fun y G' hy => ?_
  obtain ⟨z, rfl, hP, hI2, hk⟩ := hy
  refine q' _ _ ⟨z, rfl, ⟨?_, fun u hu => ?_⟩, hk⟩
  · rw [List.length_append, hl]
    exact hI2
  · rcases List.mem_append.mp hu with h' | h'
    · exact h.2 u h'
    · rw [List.mem_singleton] at h'
      rw [h']
      exact hP
theorem eraseIdx_perm : ∀ (l : List Int) (i : Nat) (h : i < l.length), (l[i] :: l.eraseIdx i).Perm l
  | _ :: _, 0, _ => List.Perm.refl _
  | c :: l, i + 1, h => (List.Perm.swap c _ _).trans (List.Perm.cons c (eraseIdx_perm l i (Nat.lt_of_succ_lt_succ h)))
theorem perm_step {os ps : List Int} {r : List Int} {d : Nat} (hd : d < ps.length) (h : (os ++ ps).Perm r) : ((os ++ [ps[d]]) ++ ps.eraseIdx d).Perm r := by
  rw [List.append_assoc]
  exact ((List.Perm.append_left os (eraseIdx_perm ps d hd)).trans h)
abbrev rgI (n : Nat) : List Int := (List.range n).map (fun i : Nat => (i : Int))
theorem rgI_len (n : Nat) : (rgI n).length = n := by rw [List.length_map, List.length_range]
theorem rgI_mem {n : Nat} {z : Int} (h : z ∈ rgI n) : 0 ≤ z ∧ z < (n : Int) := by
  obtain ⟨i, hi, rfl⟩ := List.mem_map.mp h
  rw [List.mem_range] at hi
  omega
theorem er_map : ∀ (ws : List Int) (i : Nat), (ws.map V.int).eraseIdx i = (ws.eraseIdx i).map V.int
  | [], _ => rfl
  | _ :: _, 0 => rfl
  | w :: ws, i + 1 => congrArg (V.int w :: ·) (er_map ws i)
theorem rg_ok {n : Nat} (h : n ≤ 10000) : RgOk 0 (n : Int) := .of_le (Int.le_refl 0) (by omega) (by decide) (by omega)
theorem rg_v (n : Nat) : rgV 0 (n : Int) = ((List.range n).map (fun i : Nat => (i : Int))).map V.int := by
  unfold rgV
  rw [show (((n : Int) - 0).toNat) = n by omega, List.map_map]
  apply List.map_congr_left
  intro i _
  show V.int (0 + (i : Int)) = V.int (i : Int)
  rw [Int.zero_add]
theorem small_log {n : Int} (h : n.natAbs ≤ 1000000) : n.natAbs.log2 < 9000 := by
  rcases Nat.eq_zero_or_pos n.natAbs with h0 | h0
  · rw [h0]
    decide
  · have h2 : n.natAbs < 2 ^ 40 := by omega
    have := (Nat.log2_lt (by omega : n.natAbs ≠ 0)).mpr h2
    omega
theorem seqi {x : Int} {n : Nat} (h0 : 0 ≤ x) (h : x.toNat < n) : seqIndex? x n = some x.toNat := by
  unfold seqIndex?
  have h1 : ¬ x < 0 := by omega
  dsimp only
  rw [if_neg h1, decide_eq_true h0, decide_eq_true (by omega : x < (n : Int))]
  rfl
theorem DS.off {m pc pg : Addr} {cs : List Int} {j : Nat} {H : Hp} (h : DS m pc pg cs j H) {p : Addr} (hp : H p = none) : p ≠ m ∧ p ≠ pg := h.fresh hp
def spTurned : Sp := fun vs H Q _ => ∃ (m pc pg : Addr) (cs : List Int) (j n : Nat), vs = [.ref m, .int (n : Int)] ∧ DS m pc pg cs j H ∧ n ≤ 100 ∧ j + n ≤ 100000 ∧ ∀ (D : Addr) (zs : List Int) (H' : Hp), H D = none → H' D = some (.lst (zs.map V.int)) → zs.length = n → (∀ z ∈ zs, 0 ≤ z ∧ z < (n : Int)) → zs.Perm (rgI n) → RD m pc pg cs (j + n) H H' → Q (.ref D) H'
section
variable {P : Program} {w : World} {K : PySem.W.Frag} {mg : Str → Option Value} {base : Heap}
abbrev s_turned : Stmt := top 100
theorem sc_turned : FnScope ["_law_draw_here", "_law_many", "_law_waiting", "_law_k"] ["_law_draw_here", "_law_many"] (defScope s_turned) := ⟨rfl, rfl, rfl, by decide +kernel, rfl, by decide +kernel, by decide +kernel⟩
theorem ok_turned {f : Addr} {fd : FuncData} (F : FnP K "_law_turned" s_turned f fd) {f_next : Addr} {fd_next : FuncData} (F_next : FnP K "_law_next" s_next f_next fd_next) (g_next : mg "_law_next" = some (.ref f_next)) (G_next : FnOk P w K mg base (CX0) 2 f_next fd_next ["_law_draw_here", "_law_many"] (spNext)) (z_list : mg "list" = none) (z_range : mg "range" = none) (z_len : mg "len" = none) : FnOk P w K mg base (CX0) 3 f fd ["_law_draw_here", "_law_many"] (spTurned) := by
  have b_next : Binds K fd_next ["_law_draw_here", "_law_many"] [] := F_next.bindsN fun _ _ _ _ _ _ us hl => match us, hl with | [_, _], _ => rfl
  refine F.ok (CX := CX0) sc_turned (fun vs H Q E h => ?_) (fun cdv A outer s H vs Q E hr h => ?_)
  · obtain ⟨m, pc, pg, cs, j, n, rfl, _⟩ := h
    rfl
  · obtain ⟨m, pc, pg, cs, j, n, rfl, hD, hn, hj, q⟩ := h
    have hu := hu_of hr
    have hu64 := hr.units
    have hr_next := hr.mono (by decide : 2 ≤ 2)
    refine ⟨_, PSs.nox (pss_cons (ps_set (i := 2) sc_turned.nd rfl (Or.inr rfl) (pe_listRg rfl rfl z_list (prg_1 rfl z_range (pv 1))))
      (pss_one (ps_ret (pe_lc (own := [("_law_k", 3)]) (g := gName 3) (tt := tYes) (te := tBM K "list" rPopAt (tVar 2) (tCons (tCall spNext [] E0 (tCons (tVar 0) (tCons (tCB (rLenQ K) (tCons (tVar 2) tNil)) tNil))) tNil)) (by rfl) sc_turned.nd (pi_range1 rfl z_range (pa_cons (pv 1) pa_nil)) (blkOk_by (own := [("_law_k", 3)]) (N := ["_law_draw_here", "_law_many", "_law_waiting", "_law_k"]) (sc := defScope s_turned) (by decide +kernel)) (fun _ _ _ _ _ => pg_name (i := 3) sc_turned.nd rfl (Or.inl rfl)) (fun _ _ _ _ _ => pts_nil) (fun _ _ _ _ _ => pe_bm PySem.F.plainAttrs_list PySem.F.slot_list_pop PySem.F.type_list_pop mt_popAt (pv 2) (pa_cons (pe_call G_next hr_next rfl g_next F_next.kp b_next .nil pass0 (pa_cons (pv 0) (pa_cons (pe_callB call_len_seq (by rfl) z_len PySem.boot_len (pa_cons (pv 2) pa_nil)) pa_nil))) pa_nil)))))), ?_⟩
    refine asg_step ⟨_, rfl, (n : Int), rfl, rg_ok (by omega), fun W hW => ?_⟩
    rw [rg_v]
    have hD1 : DS m pc pg cs j (upd H W (.lst (((List.range n).map (fun i : Nat => (i : Int))).map V.int))) := (RD.ofEx hD (Ex.new hW)).inv
    obtain ⟨w1, w2⟩ := hD.fresh hW
    generalize hG1 : (upd H W (.lst (((List.range n).map (fun i : Nat => (i : Int))).map V.int))) = G1 at hD1 ⊢
    have eW : Ex H G1 := hG1 ▸ Ex.new hW
    have hWG : G1 W = some (.lst (((List.range n).map (fun i : Nat => (i : Int))).map V.int)) := by rw [← hG1, upd_same]
    refine lc_intsL (n := n) (fun zs G => RD m pc pg cs (j + zs.length) H G ∧ ∃ ws : List Int, G W = some (.lst (ws.map V.int)) ∧ (zs ++ ws).Perm (rgI n)) (by omega) (ea_cons (ev_var rfl) ea_nil) (fun G e => ⟨.ofEx hD (eW.trans e), _, e _ _ hWG, List.Perm.refl _⟩) (fun zs D o G hDn hI => ?_) (fun _ => rfl) (fun i zs G hi hzl hI Q' k' => ?_) (fun D zs G hDn hz hl hI => ?_)
    · obtain ⟨r, ws, h1, h2⟩ := hI
      have : W ≠ D := fun z => by
        rw [← z, hWG] at hDn
        cases hDn
      exact ⟨r.set hD (fresh_back eW hDn), ws, by rw [upd_ne this]; exact h1, h2⟩
    · obtain ⟨r, ws, h1, h2⟩ := hI
      have hlen := h2.length_eq
      rw [List.length_append, rgI_len, hzl] at hlen
      have l0 : 0 < ws.length := by omega
      refine ⟨_, rfl, .inl ⟨rfl, _, sq_of h1⟩, ?_⟩
      refine ⟨_, rfl, _, rfl, W, _, rfl, .inl (sq_of h1), m, pc, pg, cs, j + zs.length, (ws.length : Int), by rw [List.length_map]; rfl, r.inv, by omega, by omega, small_log (by omega), fun x G2 x0 x1 r2 => ?_⟩
      have h1' := r2.stay w1 w2 h1
      have hx : x.toNat < ws.length := by omega
      refine ⟨W, _, x, x.toNat, .int (ws[x.toNat]), rfl, rfl, h1', by omega, by omega, by rw [List.length_map]; exact seqi x0 hx, int_get (List.getElem?_eq_getElem hx), ?_⟩
      refine k' _ _ ⟨_, rfl, ⟨by rw [List.length_append]; exact RD.set (r.then r2) hD hW, ws.eraseIdx x.toNat, by rw [upd_same, er_map], perm_step hx h2⟩, fun D xs hDn hG => ?_⟩
      have : D ≠ W := fun z => by
        rw [z, hWG] at hDn
        cases hDn
      obtain ⟨d1, d2⟩ := hD1.fresh hDn
      rw [upd_ne this]
      exact r2.stay d1 d2 hG
    · obtain ⟨r, ws, h1, h2⟩ := hI
      have hlen := h2.length_eq
      rw [List.length_append, rgI_len, hl] at hlen
      have hw0 : ws = [] := List.length_eq_zero_iff.mp (by omega)
      subst hw0
      rw [List.append_nil] at h2
      exact q D zs G (fresh_back eW hDn) hz hl (fun z hz => rgI_mem (h2.mem_iff.mp hz)) h2 (hl ▸ r)
end
end D1
end
section
set_option Elab.async false
set_option linter.all false
set_option maxRecDepth 100000
set_option maxHeartbeats 4000000
/-! LW: steps of the law -/
namespace D1
open PySem L2 Evl RZ ClX PySem.VX
theorem q_ifS {t : TT} {tu tz : TS} {D : Ends} {σ : L2.St} {H : Hp} {b : Bool} (M : L2.St → Hp → Prop) (h : EvT t σ H b) (h1 : b = true → ∀ H1, Ex H H1 → ∀ D' : Ends, (∀ σ2 H2, M σ2 H2 → D'.nx σ2 H2) → tu D' σ H1) (h2 : b = false → ∀ H1, Ex H H1 → M σ H1) (k : ∀ σ2 H2, M σ2 H2 → tz D σ2 H2) : tSeq (tIfS t tu tNext) tz D σ H :=
  q_when h (fun hb H1 e1 => h1 hb H1 e1 { D with nx := tz D } k) (fun hb H1 e1 => k σ H1 (h2 hb H1 e1))
theorem Kp.lst {H : Hp} {p : Addr} {xs ys : List V} (h : H p = some (.lst xs)) : Kp H (upd H p (.lst ys)) := fun a o so ha => by
  have : a ≠ p := fun z => by
    rw [z, h] at ha
    cases ha
    cases so
  rw [upd_ne this]
  exact ha
theorem par3_step {i j l : Nat} {t : TA} {z : TS} {D : Ends} {σ : L2.St} {H : Hp} (h : t σ H fun vs H1 => ∃ u v w, vs = [u, v, w] ∧ z D (((σ.set i (some u)).set j (some v)).set l (some w)) H1) : tSeq (tPar3 i j l t) z D σ H := h
theorem ints_at {zs : List Int} {n : Nat} (hl : zs.length = n) {B : Int} (hz : ∀ z ∈ zs, 0 ≤ z ∧ z < B) {a : Nat} (ha : a < n) : ∃ z : Nat, atI (zs.map V.int) (a : Int) = some (.int (z : Int)) ∧ (z : Int) < B := by
  have h : a < zs.length := by omega
  obtain ⟨h0, h1⟩ := hz _ (List.getElem_mem h)
  refine ⟨(zs[a]).toNat, atI_of (by omega) ?_, by omega⟩
  rw [Int.toNat_natCast, int_get (List.getElem?_eq_getElem h), Int.toNat_of_nonneg h0]
theorem RD.back {m pc pg : Addr} {cs : List Int} {i j : Nat} {H H1 : Hp} (r : RD m pc pg cs j H H1) {p : Addr} (hp : H1 p = none) : H p = none := by
  cases h : H p with
  | none => rfl
  | some o =>
    obtain ⟨n1, n2⟩ := DS.fresh r.inv hp
    rw [r.stay n1 n2 h] at hp
    cases hp
theorem asg_if {t : TT} {ta tb : TE} {g : TG} {D : Ends} {σ : L2.St} {H : Hp} {b : Bool} (h : EvT t σ H b) (h1 : b = true → ∀ H1, Ex H H1 → tAsg ta g D σ H1) (h2 : b = false → ∀ H1, Ex H H1 → tAsg tb g D σ H1) : tAsg (tIf t ta tb) g D σ H := h H (Ex.refl H) _ fun H1 e => by
  cases b with
  | true => exact h1 rfl H1 e
  | false => exact h2 rfl H1 e
theorem asg_tup2 {K : PySem.W.Frag} {te : TE} {i j : Nat} {x y : V} {D : Ends} {σ : L2.St} {H : Hp} (h : EvU te σ H [x, y]) (k : ∀ H1, Ex H H1 → D.nx ((σ.set i (some x)).set j (some y)) H1) : tAsg te (gTup K 2 (gCons (gName i) (gCons (gName j) gNil))) D σ H := h H (Ex.refl H) _ fun p H1 hp e h1 => ⟨p, _, rfl, st_of h1, rfl, _, _, rfl, _, _, rfl, rfl, k H1 e⟩
end D1
end
section
set_option Elab.async false
set_option linter.all false
set_option maxRecDepth 100000
set_option maxHeartbeats 4000000
/-! Z3: enumerate of a tuple -/
namespace PySem
open Sem (wp)
theorem meets_enumerate_new1 {v : Value} {o : Obj} {H : Heap → Prop} (B : Begins v o H) :
    Meets (Builtin.«enumerate.__new__» ⟨[.type "enumerate", v], []⟩) (fun _ R s => H s.heap ∧
      R (.ok (.ret (.ref (s.heap.push o).objs.size))) { s with heap := (s.heap.push o).push { cls := .type "enumerate", data := .fields #[.none, .bool false, .ref s.heap.objs.size, rawInt 0, .none, .none] } }) :=
  .of_wp fun prog w A R s h => by
    obtain ⟨hp, g, d, tk, os⟩ := s; obtain ⟨h1, h⟩ := h
    have hsub := sub_enumerate
    have q1 : ∀ {A' : Around} {E : Value → Shared → Prop} {Q : Value → Shared → Prop}, Q (.ref hp.objs.size) ⟨hp.push o, g, d, tk, os⟩ → wpAny (model prog w) A' (pyIter v) Q E ⟨hp, g, d, tk, os⟩ :=
      fun q => B.iter prog w _ _ ⟨hp, g, d, tk, os⟩ _ h1 q
    wp_walk using q1
    refine wpAny_stack_any fun st => wpAny_pure ?_
    split
    · rename_i c _ _ _ _ _
      cases (c == Value.type "enumerate")
      · wp_walk using q1
        exact ⟨_, rfl, h⟩
      · wp_walk using q1
        exact ⟨_, rfl, h⟩
    · wp_walk using q1
      exact ⟨_, rfl, h⟩
section
variable {prog : Program} {w : World} {A : Around} {E : Value → Shared → Prop} {s : Shared}
theorem enum_begins1 {v : Value} {o : Obj} {H : Heap → Prop} {Q : Value → Shared → Prop} (B : Begins v o H) (h1 : H s.heap)
    (h : ∀ h', IsEnum h' (s.heap.objs.size + 1) s.heap.objs.size 0 .none → h'.get? s.heap.objs.size = some o → h'.objs.size = s.heap.objs.size + 2 →
      (∀ b o, s.heap.get? b = some o → h'.get? b = some o) → Q (.ref (s.heap.objs.size + 1)) { s with heap := h' }) :
    wpAny (model prog w) A (call (.type "enumerate") [v]) Q E s := by
  refine callType_new F.called_enumerate (by decide) (F.typeCall_enumerate_1 _) (F.newCall_enumerate_1 _) (fun obj => F.args_object_init_2 obj _) F.entry_enumerate_new
    (meets_enumerate_new1 B) ⟨h1, ?_⟩
  have hz : (s.heap.push o).objs.size = s.heap.objs.size + 1 := Heap.size_push ..
  show _ ∧ _
  rw [hz]
  have he : IsEnum ((s.heap.push o).push { cls := .type "enumerate", data := .fields #[.none, .bool false, .ref s.heap.objs.size, rawInt 0, .none, .none] }) (s.heap.objs.size + 1) s.heap.objs.size 0 .none := by
    have := Heap.get?_push_size (s.heap.push o) (o := { cls := .type "enumerate", data := .fields #[.none, .bool false, .ref s.heap.objs.size, rawInt 0, .none, .none] }) rfl
    rw [hz] at this; exact this
  refine ⟨⟨_, he, rfl⟩, h _ he (Heap.get?_push_of_some _ (Heap.get?_push_size _ B.free)) (by rw [Heap.size_push, hz]) fun b o x => Heap.get?_push_of_some _ (Heap.get?_push_of_some _ x)⟩
end
end PySem
namespace RZ
open PySem PySem.Spec PyProof.Rows L2
def IteT (K : PySem.W.Frag) (a : Addr) : It :=
  ⟨fun i H => ∃ (xs : List V) (x : V), SqT K H a xs ∧ xs[i]? = some x, fun i H v H' => ∃ T x, v = .ref T ∧ H T = none ∧ H' = upd H T (.tup [.int (i : Nat), x]) ∧ ∀ xs, SqT K H a xs → xs[i]? = some x, fun i H => ∃ xs : List V, SqT K H a xs ∧ i = xs.length⟩
theorem turn_enumT {P : Program} {w : World} {K : PySem.W.Frag} {elts : List Expr} {kk : Nat} {tpos : Pos} (a e it : Addr) (ai : a ≠ it) (ae : a ≠ e) :
    Turn P w K (.Tuple elts kk tpos) (IteT K a) [e, it] e (fun i h => (∃ old, IsEnum h e it ((i : Nat) : Int) old) ∧ h.IsTupleIter it a i ∧ e ≠ it) where
  mem := by simp
  obj := fun i h st b hb => by
    obtain ⟨⟨old, he⟩, ⟨o, ho, hc, hd⟩, _⟩ := st
    have e' : b = e ∨ b = it := by simpa using hb
    rcases e' with z | z
    · rw [z]; exact ⟨_, he, fun v q => nomatch q⟩
    · rw [z]; exact ⟨o, ho, fun v q => by rw [hd] at q; cases q⟩
  keep := fun i h h' st k => let ⟨⟨old, he⟩, hi, hne⟩ := st; ⟨⟨old, k e (by simp) _ he⟩, hi.at fun o q => k it (by simp) o q, hne⟩
  item := by
    intro X hP hw hK hc i pins s σ H E I hf st hg
    subst hP hw hK
    obtain ⟨⟨old, he⟩, hit, hne⟩ := st
    obtain ⟨xs, x, hq, hx⟩ := hg
    obtain ⟨its, rv, p, _⟩ := I.tuple hq
    obtain ⟨u, hu, ru⟩ := rv.get hx
    have hel : e < s.heap.objs.size := Heap.lt_size he
    have hil : it < s.heap.objs.size := by obtain ⟨_, q, _⟩ := hit; exact Heap.lt_size q
    have L2 : s.heap.IsTuple a its.toArray := p
    have q1 : its.toArray[i]? = some u := by simpa using hu
    have n1 : i < its.toArray.size := by
      obtain ⟨h, _⟩ := Array.getElem?_eq_some_iff.mp q1
      exact h
    refine wpAny_pyNext_enum_itemD (St := fun i h => h.IsTupleIter it a i ∧ h.IsTuple a its.toArray) (Draws.tuple (A := X.A.in1) (show X.A.in1.handled = none from I.ok.hd hc) it a ai its.toArray) he ⟨hit, L2⟩ n1 hne (by simp [hne, Ne.symm ae]) fun v h' tk e1 ho hit' hT hsz hk => ?_
    have ev1 : u = v := Option.some.inj (q1.symm.trans e1)
    subst ev1
    refine ⟨_, rfl, wpAny_letOwnedTupleGo_enum (s := { s with heap := h', toks := tk + 1 }) ho fun h'' he' sb => ?_⟩
    have hT2 : h''.get? s.heap.objs.size = some { cls := .type "tuple", data := .seq #[.int i tk, u] } := (sb.2 _ (Nat.ne_of_gt hel)).trans hT
    have new : ObjOk X.prog X.w (upd H s.heap.objs.size (.tup [.int (i : Nat), x])) h'' s.heap.objs.size (.tup [.int (i : Nat), x]) :=
      ⟨by show 2 ≤ sizeLine; decide, [.int i tk, u], .cons ⟨_, rfl⟩ (.cons ru .nil), ⟨_, hT2, rfl, _, rfl⟩⟩
    have I1 : Inv X pins σ (upd H s.heap.objs.size (.tup [.int (i : Nat), x])) { s with heap := h'', toks := tk + 1 } :=
      I.turnedNew (t' := tk + 1) (ch := [e, it]) (fun b ob hb q => (sb.2 b (fun z => hb (by simp [z]))).trans (hk b ob (fun z => hb (by simp [z])) (fun z => hb (by simp [z])) q)) hf (Nat.le_refl _) new
    refine ⟨.ref s.heap.objs.size, _, I1, rfl, ⟨_, x, rfl, I.hok.fresh (Nat.le_refl _), rfl, fun ys hy => by rw [I.tuple_inj hy hq]; exact hx⟩, ⟨⟨u, ?_⟩, hit'.1.at fun o q => (sb.2 it (Ne.symm hne)).trans q, hne⟩, fun b hb => ?_⟩
    · have e1 : ((i + 1 : Nat) : Int) = (i : Int) + 1 := by omega
      rw [e1]; exact he'
    · have hb' : b < s.heap.objs.size := by
        have e' : b = e ∨ b = it := by simpa using hb
        rcases e' with z | z
        · rw [z]; exact hel
        · rw [z]; exact hil
      rw [upd_ne (Nat.ne_of_lt hb')]
      exact (hf b hb).1
  done := by
    intro X hP hw hK hc i pins s σ H E I hf st hg
    subst hP hw hK
    obtain ⟨⟨old, he⟩, hit, hne⟩ := st
    obtain ⟨xs, hq, hx⟩ := hg
    obtain ⟨its, rv, p, _⟩ := I.tuple hq
    obtain ⟨f0, f1, f2, f3, f4, f5⟩ := hf it (by simp)
    have hl := rv.length
    have L2 : s.heap.IsTuple a its.toArray := p
    have hi : i = its.toArray.size := by rw [List.size_toArray]; omega
    subst hi
    exact wpAny_pyNext_enum_endD (St := fun i h => h.IsTupleIter it a i ∧ h.IsTuple a its.toArray) (Draws.tuple (A := X.A.in1) (show X.A.in1.handled = none from I.ok.hd hc) it a ai its.toArray) he ⟨hit, L2⟩ fun h' eb => ⟨rfl, I.turned (t' := s.toks) (fun b o hb q => eb b o hb q) f0 f1 f3 f4 f5⟩
  self := fun A i s Q E st h => let ⟨⟨_, he⟩, _⟩ := st; wpAny_pyIter_enum he h
def iEnumT (K : PySem.W.Frag) (ta : TA) : TI := fun σ H R => ta σ H fun vs H1 => ∃ a xs, vs = [.ref a] ∧ SqT K H1 a xs ∧ R (IteT K a) H1
theorem pi_enumT {X : Cx} {e : Expr} {ta : TA} {p pos tpos : Pos} {elts : List Expr} {kk : Nat} (hg : Gl X "enumerate") (hm : X.mg "enumerate" = none) (ha : PA X [e] ta) (hs : starEach [e] X.env = [(false, eval e X.env)] := by rfl) :
    PI X (.Tuple elts kk tpos) (.Call (.Name "enumerate" p) [e] [] pos) (iEnumT X.K ta) := by
  refine ⟨fun pins s σ H R I h => ?_⟩
  refine Call_ (ld_blt I hg hm boot_enumerate (PyProof.Rows.callWith_type1 (thn (ha.run pos pins s σ H _ I h) fun us s1 ⟨vs, H1, I1, r1, q1⟩ => ?_) hs rfl))
  obtain ⟨a, xs, ex, hq, q⟩ := q1
  subst ex
  cases r1 with
  | cons r rr =>
    cases rr
    cases r
    obtain ⟨its, rv, p', _⟩ := I1.tuple hq
    obtain ⟨o2, ho2, _⟩ := id p'
    have hlt : a < s1.heap.objs.size := Heap.lt_size ho2
    refine enum_begins1 (begins_tuple a its.toArray) (show s1.heap.IsTuple a its.toArray from p') fun h' he hit hsz hk => wpAny_pyIter_enum he ?_
    have I2 : Inv X pins σ H1 { s1 with heap := h' } := I1.kept (t' := s1.toks) hk
    refine ⟨s1.heap.objs.size + 1, [s1.heap.objs.size + 1, s1.heap.objs.size], _, _, H1, rfl, I2, turn_enumT a (s1.heap.objs.size + 1) s1.heap.objs.size (Nat.ne_of_lt hlt) (Nat.ne_of_lt (Nat.lt_succ_of_lt hlt)), ⟨⟨.none, he⟩, ⟨_, hit, rfl, rfl⟩, Nat.succ_ne_self _⟩, fun b hb => ?_, q⟩
    have e' : b = s1.heap.objs.size + 1 ∨ b = s1.heap.objs.size := by simpa using hb
    have hle : s1.heap.objs.size ≤ b := by
      rcases e' with z | z
      · rw [z]; exact Nat.le_add_right _ _
      · rw [z]; exact Nat.le_refl _
    exact I1.fpOk hle (I1.hok.fresh hle)
theorem walk_enumT {K : PySem.W.Frag} {a : Addr} {xs : List V} : Walk (IteT K a) xs.length (fun H => SqT K H a xs) (YPair (fun i => some (.int (i : Nat))) (fun i => xs[i]?)) := by
  refine ⟨fun i _ hi q => ⟨xs, xs[i], q, by simp [hi]⟩, fun _ q => ⟨xs, q, rfl⟩, fun i H v H' _ q y => ?_⟩
  obtain ⟨T, x, h1, h2, h3, h4⟩ := y
  exact ⟨T, .int (i : Nat), x, h1, h2, h3, rfl, h4 xs q⟩
end RZ
end
section
set_option Elab.async false
set_option linter.all false
set_option maxRecDepth 100000
set_option maxHeartbeats 4000000
/-! L7: the law's webs -/
namespace D1
open PySem L2 Evl RZ ClX PySem.VX
def spLWeb : Sp := fun vs H Q _ => ∃ (m pc pg : Addr) (cs : List Int) (j : Nat) (v : V) (k : RK) (most many : Nat), vs = [.ref m, v, .int (most : Int), .int (many : Int)] ∧ DS m pc pg cs j H ∧ j + 2000 ≤ 100000 ∧ DtAt H v (madeD k) ∧ k.depth < 3 ∧ k.ok ∧ 1 ≤ most ∧ most ≤ 12 ∧ many ≤ 80 ∧
  ∀ (x : V) (n : Nat) (ss : List Step) H', RD m pc pg cs (j + 2000) H H' → DtAt H' x (webD n ss) → WebOk k n ss → (∀ s ∈ ss, Sz 140 s.2.2) → n ≤ most → ss.length ≤ many → Q x H'
section
variable {P : Program} {w : World} {K : PySem.W.Frag} {mg : Str → Option Value} {base : Heap}
abbrev s_web : Stmt := top 101
theorem sc_web : FnScope ["_law_draw_here", "_law_made", "_law_most", "_law_many", "_law_states", "_law_shape", "_law_mood", "_law_k", "_law_order", "_law_lifts", "_law_steps", "_law_a", "_law_b"] ["_law_draw_here", "_law_made", "_law_most", "_law_many"] (defScope s_web) := ⟨rfl, rfl, rfl, by decide +kernel, rfl, by decide +kernel, by decide +kernel⟩
theorem ok_web {f : Addr} {fd : FuncData} (F : FnP K "_law_web" s_web f fd) {f_next : Addr} {fd_next : FuncData} (F_next : FnP K "_law_next" s_next f_next fd_next) (g_next : mg "_law_next" = some (.ref f_next)) (G_next : FnOk P w K mg base (CX0) 2 f_next fd_next ["_law_draw_here", "_law_many"] (spNext)) {f_turned : Addr} {fd_turned : FuncData} (F_turned : FnP K "_law_turned" s_turned f_turned fd_turned) (g_turned : mg "_law_turned" = some (.ref f_turned)) (G_turned : FnOk P w K mg base (CX0) 3 f_turned fd_turned ["_law_draw_here", "_law_many"] (spTurned)) {f_weight : Addr} {fd_weight : FuncData} (F_weight : FnP K "_law_weight" s_weight f_weight fd_weight) (g_weight : mg "_law_weight" = some (.ref f_weight)) (G_weight : FnOk P w K mg base (CX0) 7 f_weight fd_weight ["_law_draw_here", "_law_made", "_law_mood", "_law_lift"] (spLWeight 3)) (z_list : mg "list" = none) (z_range : mg "range" = none) (z_len : mg "len" = none) (z_tuple : mg "tuple" = none) (z_min : mg "min" = none) (z_max : mg "max" = none) : FnOk P w K mg base (CX0) 8 f fd ["_law_draw_here", "_law_made", "_law_most", "_law_many"] (spLWeb) := by
  have b_next : Binds K fd_next ["_law_draw_here", "_law_many"] [] := F_next.bindsN fun _ _ _ _ _ _ us hl => match us, hl with | [_, _], _ => rfl
  have b_turned : Binds K fd_turned ["_law_draw_here", "_law_many"] [] := F_turned.bindsN fun _ _ _ _ _ _ us hl => match us, hl with | [_, _], _ => rfl
  have b_weight : Binds K fd_weight ["_law_draw_here", "_law_made", "_law_mood", "_law_lift"] [] := F_weight.bindsN fun _ _ _ _ _ _ us hl => match us, hl with | [_, _, _, _], _ => rfl
  refine F.ok (CX := CX0) sc_web (fun vs H Q E h => ?_) (fun cdv A outer s H vs Q E hr h => ?_)
  · obtain ⟨m, pc, pg, cs, j, v, k, most, many, rfl, _⟩ := h
    rfl
  · obtain ⟨m, pc, pg, cs, j, v, k, most, many, rfl, hD, hj, hM, hn, ok, mo1, mo2, ma, q⟩ := h
    have hu := hu_of hr
    have hu64 := hr.units
    have hr_next := hr.mono (by decide : 2 ≤ 7)
    have hr_turned := hr.mono (by decide : 3 ≤ 7)
    have hr_weight := hr.mono (by decide : 7 ≤ 7)
    refine ⟨_, PSs.nox (pss_cons (ps_par3 (i := 4) (j := 5) (l := 6) (by rfl) sc_web.nd rfl rfl rfl (by decide) (by decide) (by decide) rfl rfl rfl (pa_cons (pe_op op_add pe_int (pe_call G_next hr_next rfl g_next F_next.kp b_next .nil pass0 (pa_cons (pv 0) (pa_cons (pv 2) pa_nil)))) (pa_cons (pe_call G_next hr_next rfl g_next F_next.kp b_next .nil pass0 (pa_cons (pv 0) (pa_cons pe_int pa_nil))) (pa_cons (pe_call G_next hr_next rfl g_next F_next.kp b_next .nil pass0 (pa_cons (pv 0) (pa_cons pe_int pa_nil))) pa_nil))) (by rfl))
      (pss_cons (ps_par (i := 8) (j := 9) (by rfl) sc_web.nd rfl rfl (by decide) rfl rfl (pa_cons (pe_call G_turned hr_turned rfl g_turned F_turned.kp b_turned .nil pass0 (pa_cons (pv 0) (pa_cons (pv 4) pa_nil))) (pa_cons (pe_lc (own := [("_law_k", 7)]) (g := gName 7) (tt := tYes) (by rfl) sc_web.nd (pi_range1 rfl z_range (pa_cons (pv 4) pa_nil)) (blkOk_by (own := [("_law_k", 7)]) (N := ["_law_draw_here", "_law_made", "_law_most", "_law_many", "_law_states", "_law_shape", "_law_mood", "_law_k", "_law_order", "_law_lifts", "_law_steps", "_law_a", "_law_b"]) (sc := defScope s_web) (by decide +kernel)) (fun _ _ _ _ _ => pg_name (i := 7) sc_web.nd rfl (Or.inl rfl)) (fun _ _ _ _ _ => pts_nil) (fun _ _ _ _ _ => pe_call G_next hr_next rfl g_next F_next.kp b_next .nil pass0 (pa_cons (pv 0) (pa_cons pe_int pa_nil)))) pa_nil)) (by rfl))
      (pss_cons (ps_set (i := 10) sc_web.nd rfl (Or.inl rfl) (pe_lst pa_nil))
      (pss_cons (ps_for PassesOwn.never rfl (pi_range1 rfl z_range (pa_cons (pe_call G_next hr_next rfl g_next F_next.kp b_next .nil pass0 (pa_cons (pv 0) (pa_cons (pe_op op_add (pv 3) pe_int) pa_nil))) pa_nil)) (pg_name (i := 7) sc_web.nd rfl (Or.inl rfl)) (pss_cons (ps_par (i := 11) (j := 12) (by rfl) sc_web.nd rfl rfl (by decide) rfl rfl (pa_cons (pe_call G_next hr_next rfl g_next F_next.kp b_next .nil pass0 (pa_cons (pv 0) (pa_cons (pv 4) pa_nil))) (pa_cons (pe_call G_next hr_next rfl g_next F_next.kp b_next .nil pass0 (pa_cons (pv 0) (pa_cons (pv 4) pa_nil))) pa_nil)) (by rfl))
      (pss_cons (ps_if (pt_cmpR op_gt (pv 5) pe_int (nomark _)) (pss_one (ps_asg (pe_ifExp (PW.pt (pw_and (pt_cmpR op_eq (pv 5) pe_int (nomark _)) (pw_and1 (pt_cmpR op_eq (pv 7) pe_int (nomark _))))) (pe_tup (pa_cons (pe_callB (call_max2 rfl) (by rfl) z_max PyProof.Rows.boot_max (pa_cons (pv 11) (pa_cons (pv 12) pa_nil))) (pa_cons (pe_callB (call_min2 rfl) (by rfl) z_min PyProof.Rows.boot_min (pa_cons (pv 11) (pa_cons (pv 12) pa_nil))) pa_nil))) (pe_tup (pa_cons (pe_callB (call_min2 rfl) (by rfl) z_min PyProof.Rows.boot_min (pa_cons (pv 11) (pa_cons (pv 12) pa_nil))) (pa_cons (pe_callB (call_max2 rfl) (by rfl) z_max PyProof.Rows.boot_max (pa_cons (pv 11) (pa_cons (pv 12) pa_nil))) pa_nil)))) (pg_tup rfl (pgs_cons (pg_name (i := 11) sc_web.nd rfl (Or.inl rfl)) (pgs_cons (pg_name (i := 12) sc_web.nd rfl (Or.inl rfl)) pgs_nil))))) pss_nil)
      (pss_one (ps_if (PW.pt (pw_or (pt_cmpR op_eq (pv 5) pe_int (nomark _)) (pw_or1 (pt_cmpR op_ne (pv 11) (pv 12) (nomark _))))) (pss_one (ps_expr (pe_bm PySem.F.plainAttrs_list PySem.F.slot_list_append PySem.F.type_list_append mt_append (pv 10) (pa_cons (pe_tup (pa_cons (pe_ix ix_list (pv 8) (pv 11) (fun _ _ => rfl)) (pa_cons (pe_ix ix_list (pv 8) (pv 12) (fun _ _ => rfl)) (pa_cons (pe_call G_weight hr_weight rfl g_weight F_weight.kp b_weight .nil pass0 (pa_cons (pv 0) (pa_cons (pv 1) (pa_cons (pv 6) (pa_cons (pe_op op_sub (pe_ix ix_list (pv 9) (pv 12) (fun _ _ => rfl)) (pe_ix ix_list (pv 9) (pv 11) (fun _ _ => rfl))) pa_nil))))) pa_nil)))) pa_nil)))) pss_nil)))))
      (pss_one (ps_ret (pe_tup (pa_cons (pv 4) (pa_cons (pe_tupleOf rfl z_tuple (pv 10)) pa_nil))))))))), ?_⟩
    refine par3_step ⟨_, rfl, _, rfl, m, pc, pg, cs, j, (most : Int), rfl, hD, by omega, by omega, small_log (by omega), fun x1 H1 x10 x11 r1 => ⟨1, x1, rfl, rfl, ?_⟩⟩
    refine ⟨_, rfl, m, pc, pg, cs, j + 1, 3, rfl, r1.inv, by omega, by decide, by decide, fun shape H2 s0 s1 r2 => ?_⟩
    refine ⟨_, rfl, m, pc, pg, cs, j + 1 + 1, 4, rfl, r2.inv, by omega, by decide, by decide, fun mood H3 m0 m1 r3 => ⟨_, _, _, rfl, ?_⟩⟩
    obtain ⟨n0, rfl⟩ : ∃ n0 : Nat, x1 = (n0 : Int) := ⟨x1.toNat, by omega⟩
    obtain ⟨n, hn'⟩ : ∃ n : Nat, n = n0 + 1 := ⟨_, rfl⟩
    have hnc : (1 : Int) + (n0 : Int) = (n : Int) := by omega
    have rA : RD m pc pg cs (j + 3) H H3 := (r1.then r2).then r3
    change tSeq _ _ _ [some (.ref m), some v, some (.int (most : Int)), some (.int (many : Int)), some (.int ((1 : Int) + (n0 : Int))), some (.int shape), some (.int mood), none, none, none, none, none, none] H3
    rw [hnc]
    refine par_step ⟨_, rfl, _, rfl, m, pc, pg, cs, j + 3, n, rfl, rA.inv, by omega, by omega, fun Do os H4 hDo ho1 ho2 ho3 hoP r4 => ?_⟩
    have rB : RD m pc pg cs (j + 3 + n) H H4 := rA.then r4
    refine lc_ints (P := fun z => 0 ≤ z ∧ z < 90) (n := n) (fun i G => RD m pc pg cs (j + 3 + n + i) H4 G ∧ True) (by omega) (ea_cons (ev_var rfl) ea_nil) (fun G e => ⟨.ofEx rB.inv e, True.intro⟩) (fun i D o G hDn hI => ⟨hI.1.set rB.inv hDn, True.intro⟩) (fun _ => rfl) (fun i G hi hI Q' k' => ?_) (fun Dl ls H5 hDl hl1 hl2 hl3 hI => ⟨_, _, rfl, ?_⟩)
    · refine ⟨_, rfl, m, pc, pg, cs, j + 3 + n + i, 90, rfl, hI.1.inv, by omega, by decide, by decide, fun x G2 x0 x1 r2 => k' _ _ ⟨x, rfl, ⟨x0, x1⟩, ⟨hI.1.then r2, True.intro⟩, fun D xs hDn hG => ?_⟩⟩
      obtain ⟨d1, d2⟩ := DS.fresh rB.inv hDn
      exact r2.stay d1 d2 hG
    have rC : RD m pc pg cs (j + 3 + n + n) H H5 := rB.then hI.1
    refine asg_step ⟨Nat.zero_le _, fun Ds hDs => ?_⟩
    have hDs0 : H Ds = none := RD.back (i := 0) rC hDs
    obtain ⟨s1', s2'⟩ := DS.fresh hD hDs0
    have rD0 : RD m pc pg cs (j + 3 + n + n) H (upd H5 Ds (.lst [])) := rC.then (.ofEx rC.inv (Ex.new hDs))
    have hDo0 : H Do = none := RD.back (i := 0) rA hDo
    have hDl0 : H Dl = none := RD.back (i := 0) rB hDl
    obtain ⟨o1', o2'⟩ := DS.fresh hD hDo0
    obtain ⟨l1', l2'⟩ := DS.fresh hD hDl0
    have hDo5 : H5 Do = some (.lst (os.map V.int)) := hI.1.stay o1' o2' ho1
    have sDo : Do ≠ Ds := ne_of_none hDo5 hDs
    have sDl : Dl ≠ Ds := ne_of_none hl1 hDs
    have hDo6 : (upd H5 Ds (.lst [])) Do = some (.lst (os.map V.int)) := by rw [upd_ne sDo]; exact hDo5
    have hDl6 : (upd H5 Ds (.lst [])) Dl = some (.lst (ls.map V.int)) := by rw [upd_ne sDl]; exact hl1
    refine ⟨_, rfl, _, rfl, _, _, rfl, rfl, m, pc, pg, cs, j + 3 + n + n, (many : Int) + 1, rfl, rD0.inv, by omega, by omega, small_log (by omega), fun cnt H7 c0 c1 r7 => ⟨cnt, rfl, by omega, by omega, ?_⟩⟩
    have rE : RD m pc pg cs (j + 3 + n + n + 1) H H7 := rD0.then r7
    obtain ⟨jb, hjb⟩ : ∃ jb, jb = j + 3 + n + n + 1 := ⟨_, rfl⟩
    rw [← hjb] at rE
    refine for_it (walk_range (lo := 0) (n := cnt.toNat)) (fun i σ' G => ∃ x7 x11 x12, σ' = [some (.ref m), some v, some (.int (most : Int)), some (.int (many : Int)), some (.int (n : Int)), some (.int shape), some (.int mood), x7, some (.ref Do), some (.ref Dl), some (.ref Ds), x11, x12] ∧ RD m pc pg cs (jb + i * 20) H G ∧ G Do = some (.lst (os.map V.int)) ∧ G Dl = some (.lst (ls.map V.int)) ∧ ∃ us ss, G Ds = some (.lst us) ∧ DtAll G us (List.map stepD ss) ∧ ss.length ≤ i ∧ ∀ s ∈ ss, s.1 < n ∧ s.2.1 < n ∧ goodB k s.2.2 = true ∧ Sz 140 s.2.2)
      ⟨_, _, _, rfl, rE.up (by omega), r7.stay o1' o2' hDo6, r7.stay l1' l2' hDl6, [], [], r7.stay s1' s2' upd_same, .nil, Nat.zero_le _, fun s hs => by cases hs⟩ (fun _ _ _ _ _ => True.intro) ?_ ?_
    · rintro i x σ' _ G hi ⟨x7, x11, x12, rfl, rG, g1, g2, us, ss, g3, g4, g5, g6⟩ ⟨rfl, rfl⟩
      have hi80 : i < 81 := by omega
      refine par_step ⟨_, rfl, _, rfl, m, pc, pg, cs, jb + i * 20, (n : Int), rfl, rG.inv, by omega, by omega, small_log (by omega), fun a G1 a0 a1 ra => ⟨_, rfl, _, rfl, m, pc, pg, cs, jb + i * 20 + 1, (n : Int), rfl, ra.inv, by omega, by omega, small_log (by omega), fun b G2 b0 b1 rb => ⟨_, _, rfl, ?_⟩⟩⟩
      obtain ⟨a, rfl⟩ : ∃ a' : Nat, a = (a' : Int) := ⟨a.toNat, by omega⟩
      obtain ⟨b, rfl⟩ : ∃ b' : Nat, b = (b' : Int) := ⟨b.toNat, by omega⟩
      have rF : RD m pc pg cs (jb + i * 20 + 2) H G2 := (rG.then ra).then rb
      have rGF := ra.then rb
      refine q_ifS (b := decide (0 < shape)) (fun σ2 G3 => ∃ a' b' : Nat, σ2 = [some (.ref m), some v, some (.int (most : Int)), some (.int (many : Int)), some (.int (n : Int)), some (.int shape), some (.int mood), some (.int ((0 : Int) + (i : Int))), some (.ref Do), some (.ref Dl), some (.ref Ds), some (.int (a' : Int)), some (.int (b' : Int))] ∧ a' < n ∧ b' < n ∧ Ex G2 G3) (et_test (ev_gtI (ev_var rfl) ev_c)) (fun hb G3 e3 D' k' => ?_) (fun hb G3 e3 => ⟨a, b, rfl, by omega, by omega, e3⟩) ?_
      · obtain ⟨mx, hmx, lmx⟩ : ∃ mx : Nat, (if (b : Int) > (a : Int) then (b : Int) else (a : Int)) = (mx : Int) ∧ mx < n := by split <;> exact ⟨_, rfl, by omega⟩
        obtain ⟨mn, hmn, lmn⟩ : ∃ mn : Nat, (if (b : Int) < (a : Int) then (b : Int) else (a : Int)) = (mn : Int) ∧ mn < n := by split <;> exact ⟨_, rfl, by omega⟩
        refine asg_if (b := (shape == 2) && ((0 : Int) + (i : Int) == 1)) (et_and (et_test (ev_eqI (ev_var rfl) ev_c)) fun _ => et_test (ev_eqI (ev_var rfl) ev_c)) (fun hb G4 e4 => ?_) (fun hb G4 e4 => ?_)
        · refine asg_tup2 (eu_tup (ea_cons (ev_is (ev_cb (ea_cons (ev_var rfl) (ea_cons (ev_var rfl) ea_nil)) fun H8 e8 Q' q' => ⟨_, _, rfl, q' H8 (Ex.refl H8)⟩) (congrArg V.int hmx)) (ea_cons (ev_is (ev_cb (ea_cons (ev_var rfl) (ea_cons (ev_var rfl) ea_nil)) fun H8 e8 Q' q' => ⟨_, _, rfl, q' H8 (Ex.refl H8)⟩) (congrArg V.int hmn)) ea_nil)) (by show 2 ≤ 100000; decide)) fun G5 e5 => k' _ _ ⟨_, _, rfl, lmx, lmn, (e3.trans e4).trans e5⟩
        · refine asg_tup2 (eu_tup (ea_cons (ev_is (ev_cb (ea_cons (ev_var rfl) (ea_cons (ev_var rfl) ea_nil)) fun H8 e8 Q' q' => ⟨_, _, rfl, q' H8 (Ex.refl H8)⟩) (congrArg V.int hmn)) (ea_cons (ev_is (ev_cb (ea_cons (ev_var rfl) (ea_cons (ev_var rfl) ea_nil)) fun H8 e8 Q' q' => ⟨_, _, rfl, q' H8 (Ex.refl H8)⟩) (congrArg V.int hmx)) ea_nil)) (by show 2 ≤ 100000; decide)) fun G5 e5 => k' _ _ ⟨_, _, rfl, lmn, lmx, (e3.trans e4).trans e5⟩
      rintro σ2 G3 ⟨a', b', rfl, ha', hb', e3⟩
      have rH : RD m pc pg cs (jb + i * 20 + 2) H G3 := rF.then (.ofEx rF.inv e3)
      have rGH : RD m pc pg cs (jb + i * 20 + 2) G G3 := rGF.then (.ofEx rF.inv e3)
      refine s_when (b := (shape == 0) || !((a' : Int) == (b' : Int))) (et_or (et_test (ev_eqI (ev_var rfl) ev_c)) fun _ => et_test (ev_neI (ev_var rfl) (ev_var rfl))) (fun hb G4 e4 => ?_) (fun hb G4 e4 => ?_)
      · have rI : RD m pc pg cs (jb + i * 20 + 2) H G4 := rH.then (.ofEx rH.inv e4)
        have rGI : RD m pc pg cs (jb + i * 20 + 2) G G4 := rGH.then (.ofEx rH.inv e4)
        have kpI : Kp G G4 := rGI.kp rG.inv
        have g1' := rGI.stay o1' o2' g1
        have g2' := rGI.stay l1' l2' g2
        have g3' := rGI.stay s1' s2' g3
        obtain ⟨z1, at1, z1b⟩ := ints_at ho2 ho3 ha'
        obtain ⟨z2, at2, z2b⟩ := ints_at ho2 ho3 hb'
        obtain ⟨y1, bt1, y1b⟩ := ints_at hl2 hl3 ha'
        obtain ⟨y2, bt2, y2b⟩ := ints_at hl2 hl3 hb'
        have cw := costW_le k
        have cw2 : costW k ≤ 12 := by
          have h3 := Nat.pow_le_pow_right (n := 2) (by decide) (by omega : k.depth ≤ 2)
          omega
        refine ⟨_, rfl, .inl ⟨rfl, _, sq_of g3'⟩, _, rfl, _, rfl, Do, _, (a' : Int), .int (z1 : Int), rfl, rfl, sq_of g1', at1, _, rfl, _, rfl, Do, _, (b' : Int), .int (z2 : Int), rfl, rfl, sq_of g1', at2, _, rfl, _, rfl, _, rfl, _, rfl, _, rfl, Dl, _, (b' : Int), .int (y2 : Int), rfl, rfl, sq_of g2', bt2, _, rfl, _, rfl, Dl, _, (a' : Int), .int (y1 : Int), rfl, rfl, sq_of g2', bt1, _, _, rfl, rfl, ?_⟩
        refine ⟨m, pc, pg, cs, jb + i * 20 + 2, v, k, mood, (y2 : Int) - (y1 : Int), rfl, rI.inv, by omega, hM.kp (rI.kp hD), hn, ok, m0, m1, by omega, by omega, fun xw dw G5 rw hxw gw sw => ⟨by show 3 ≤ sizeLine; decide, fun l hl => ?_⟩⟩
        have rJ : RD m pc pg cs (jb + i * 20 + 2 + costW k) H G5 := rI.then rw
        have rGJ : RD m pc pg cs (jb + i * 20 + 2 + costW k) G G5 := rGI.then rw
        have g1'' := rw.stay o1' o2' g1'
        have g2'' := rw.stay l1' l2' g2'
        have g3'' := rw.stay s1' s2' g3'
        have hl' := Ex.new (o := .tup [.int (z1 : Int), .int (z2 : Int), xw]) hl
        refine ⟨Ds, us, .ref l, rfl, rfl, hl' _ _ g3'', ?_, ?_⟩
        · have := DtAll.len g4
          rw [List.length_map] at this
          rw [this]
          exact Nat.lt_of_le_of_lt g5 (Nat.lt_of_lt_of_le hi80 (by decide))
        have kp2 : Kp G5 (upd (upd G5 l (.tup [.int (z1 : Int), .int (z2 : Int), xw])) Ds (.lst (us ++ [.ref l]))) := (Kp.ex hl').trans (Kp.lst (hl' _ _ g3''))
        refine ⟨_, _, _, rfl, RD.up (RD.set (rJ.then (.ofEx rJ.inv hl')) hD hDs0) (by rw [Nat.succ_mul]; omega), by rw [upd_ne sDo]; exact hl' _ _ g1'', by rw [upd_ne sDl]; exact hl' _ _ g2'', us ++ [.ref l], ss ++ [(z1, z2, dw)], upd_same, ?_, by rw [List.length_append]; exact Nat.succ_le_succ g5, fun s hs => ?_⟩
        · rw [List.map_append]
          refine DtAll.append ((g4.kp (rGJ.kp rG.inv)).kp kp2) (.cons ?_ .nil)
          have : l ≠ Ds := fun z => by rw [z, g3''] at hl; cases hl
          exact .tup (by rw [upd_ne this]; exact upd_same) (.cons (.int _) (.cons (.int _) (.cons (hxw.kp kp2) .nil)))
        · rcases List.mem_append.mp hs with h | h
          · exact g6 s h
          · rw [List.mem_singleton] at h
            rw [h]
            exact ⟨(by omega : z1 < n), (by omega : z2 < n), gw, sw⟩
      · have rI : RD m pc pg cs (jb + i * 20 + 2) H G4 := rH.then (.ofEx rH.inv e4)
        have rGI : RD m pc pg cs (jb + i * 20 + 2) G G4 := rGH.then (.ofEx rH.inv e4)
        exact ⟨_, _, _, rfl, RD.up rI (by rw [Nat.succ_mul]; omega), rGI.stay o1' o2' g1, rGI.stay l1' l2' g2, us, ss, rGI.stay s1' s2' g3, g4.kp (rGI.kp rG.inv), by omega, g6⟩
    · rintro σ' G ⟨x7, x11, x12, rfl, rG, g1, g2, us, ss, g3, g4, g5, g6⟩
      refine ⟨_, rfl, _, rfl, .inl ⟨Ds, us, rfl, sq_of g3, fun t ht => ⟨by show 2 ≤ sizeLine; decide, fun l hl => ?_⟩⟩⟩
      have e1 := Ex.new (o := .tup us) ht
      have e2 := Ex.new (o := .tup [.int (n : Int), .ref t]) hl
      have hc : cnt.toNat * 20 ≤ 80 * 20 := Nat.mul_le_mul_right _ (by omega)
      refine q _ n ss _ (RD.up (rG.then (.ofEx rG.inv (e1.trans e2))) (by omega)) (.new hl (.cons (.int _) (.cons (.new ht g4) .nil))) ⟨by omega, by omega, by omega, fun s hs => ⟨(g6 s hs).1, (g6 s hs).2.1, (g6 s hs).2.2.1⟩⟩ (fun s hs => (g6 s hs).2.2.2) (by omega) (by omega)
end
end D1
end
section
set_option Elab.async false
set_option linter.all false
set_option maxRecDepth 100000
set_option maxHeartbeats 4000000
/-! LP: the law's sums -/
namespace D1
open PySem L2 Evl RZ ClX PySem.VX
def spLPlus (n : Nat) : Sp := fun vs H Q _ => ∃ (v x y : V) (k : RK) (dx dy : PyData), vs = [v, x, y] ∧ DtAt H v (madeD k) ∧ k.depth < n ∧ DtAt H x dx ∧ DtAt H y dy ∧ goodB k dx = true ∧ goodB k dy = true ∧ Sz 4000 dx ∧ Sz 4000 dy ∧ ∀ r H', Ex H H' → DtAt H' r (plus k dx dy) → Q r H'
theorem isE_eq {d : PyData} (h : Fl d) (e : isE d = true) : d = E := by
  rcases h with ⟨z, rfl, hz⟩ | ⟨i, rfl⟩
  · have e : (z == "endless") = true := e
    rw [eq_of_beq e]
    rfl
  · cases e
theorem isN_eq {d : PyData} (h : Fl d) (e : isN d = true) : d = N := by
  rcases h with ⟨z, rfl, hz⟩ | ⟨i, rfl⟩
  · have e : (z == "none") = true := e
    rw [eq_of_beq e]
    rfl
  · cases e
theorem bP1 {s : Int} {a b : PyData} (ha : bGood a = true) (hb : bGood b = true) (h : (isE a || isN b) = true) : boundP s a b = a := by
  rcases good_b ha with rfl | rfl | ⟨i, rfl⟩ <;> rcases good_b hb with rfl | rfl | ⟨j, rfl⟩ <;> first | rfl | cases h
theorem bP2 {s : Int} {a b : PyData} (ha : bGood a = true) (hb : bGood b = true) (h1 : (isE a || isN b) = false) (h : (isE b || isN a) = true) : boundP s a b = b := by
  rcases good_b ha with rfl | rfl | ⟨i, rfl⟩ <;> rcases good_b hb with rfl | rfl | ⟨j, rfl⟩ <;> first | rfl | cases h | cases h1
theorem countA {a b : PyData} (ha : cnGood a = true) (hb : cnGood b = true) (h : (isE a || isN b) = true) : plus .count a b = a := by
  rw [cn_notN hb, Bool.or_false] at h
  show countP a b = a
  rw [countPE (by rw [h]; rfl) ha hb, isE_eq (fl_cn ha) h]
theorem countB {a b : PyData} (ha : cnGood a = true) (hb : cnGood b = true) (h : (isE b || isN a) = true) : plus .count a b = b := by
  rw [cn_notN ha, Bool.or_false] at h
  show countP a b = b
  rw [countPE (by rw [h, Bool.or_true]) ha hb, isE_eq (fl_cn hb) h]
theorem narrowA {a b : PyData} (ha : cnGood a = true) (hb : cnGood b = true) (h : (isE a || isN b) = true) : plus .narrow a b = a := by
  rw [cn_notN hb, Bool.or_false] at h
  show narrP a b = a
  rw [narrPE (by rw [h]; rfl) ha hb, isE_eq (fl_cn ha) h]
theorem narrowB {a b : PyData} (ha : cnGood a = true) (hb : cnGood b = true) (h : (isE b || isN a) = true) : plus .narrow a b = b := by
  rw [cn_notN ha, Bool.or_false] at h
  show narrP a b = b
  rw [narrPE (by rw [h, Bool.or_true]) ha hb, isE_eq (fl_cn hb) h]
section
variable {P : Program} {w : World} {K : PySem.W.Frag} {mg : Str → Option Value} {base : Heap}
abbrev s_plus : Stmt := top 97
theorem sc_plus : FnScope ["_law_made", "_law_a", "_law_b", "_law_kind"] ["_law_made", "_law_a", "_law_b"] (defScope s_plus) := ⟨rfl, rfl, rfl, by decide +kernel, rfl, by decide +kernel, by decide +kernel⟩
theorem ok_plus {f : Addr} {fd : FuncData} (F : FnP K "_law_plus" s_plus f fd) (g_plus : mg "_law_plus" = some (.ref f)) (z_min : mg "min" = none) (z_max : mg "max" = none) : ∀ d : Nat, FnOk P w K mg base CX0 (d + 1) f fd ["_law_made", "_law_a", "_law_b"] (spLPlus d) := by
  have F_plus := F
  have b_plus : Binds K fd ["_law_made", "_law_a", "_law_b"] [] := F_plus.bindsN fun _ _ _ _ _ _ us hl => match us, hl with | [_, _, _], _ => rfl
  intro d
  induction d with
  | zero =>
    refine fn_never fun vs H Q E h => ?_
    obtain ⟨v, x, y, k, dx, dy, rfl, hM, hn, hx, hy, gx, gy, sx, sy, q⟩ := h
    exact Nat.not_lt_zero _ hn
  | succ d ih =>
    have G_plus := ih
    refine F.ok sc_plus (fun vs H Q E h => ?_) (fun cdv A outer s H vs Q E hr h => ?_)
    · obtain ⟨v, x, y, k, dx, dy, rfl, _⟩ := h
      rfl
    · obtain ⟨v, x, y, k, dx, dy, rfl, hM, hn, hx, hy, gx, gy, sx, sy, q⟩ := h
      have hu := hu_of hr
      have hu64 := hr.units
      have hr_plus := hr
      refine ⟨_, PSs.nox (pss_cons (ps_set (i := 3) sc_plus.nd rfl (Or.inl rfl) (pe_ix ix_tup (pv 0) pe_int (fun _ _ => rfl)))
      (pss_cons (ps_if (pt_cmpR op_eq (pv 3) pe_str (nomark _)) (pss_one (ps_ret (pe_tup (pa_cons (pe_call G_plus hr_plus rfl g_plus F_plus.kp b_plus .nil pass0 (pa_cons (pe_ix ix_tup (pv 0) pe_int (fun _ _ => rfl)) (pa_cons (pe_ix ix_tup (pv 1) pe_int (fun _ _ => rfl)) (pa_cons (pe_ix ix_tup (pv 2) pe_int (fun _ _ => rfl)) pa_nil)))) (pa_cons (pe_call G_plus hr_plus rfl g_plus F_plus.kp b_plus .nil pass0 (pa_cons (pe_ix ix_tup (pv 0) pe_int (fun _ _ => rfl)) (pa_cons (pe_ix ix_tup (pv 1) pe_int (fun _ _ => rfl)) (pa_cons (pe_ix ix_tup (pv 2) pe_int (fun _ _ => rfl)) pa_nil)))) pa_nil))))) pss_nil)
      (pss_cons (ps_if (pt_cmpR op_eq (pv 3) pe_str (nomark _)) (pss_one (ps_ret (pe_or (pv 1) (pe_one (pv 2))))) pss_nil)
      (pss_cons (ps_if (pt_cmpR op_eq (pv 3) pe_str (nomark _)) (pss_one (ps_ret (pe_op op_or (pv 1) (pv 2)))) pss_nil)
      (pss_cons (ps_if (pt_cmpR op_eq (pv 3) pe_str (nomark _)) (pss_one (ps_ret (pe_ifExp (pt_cmpR op_ge (pe_op op_mulW (pe_ix ix_tup (pv 1) pe_int (fun _ _ => rfl)) (pe_ix ix_tup (pv 2) pe_int (fun _ _ => rfl))) (pe_op op_mulW (pe_ix ix_tup (pv 2) pe_int (fun _ _ => rfl)) (pe_ix ix_tup (pv 1) pe_int (fun _ _ => rfl))) (nomark _)) (pv 1) (pv 2)))) pss_nil)
      (pss_cons (ps_if (PW.pt (pw_or (pt_cmpR (op_eqD hu64) (pv 1) pe_str (nomark _)) (pw_or1 (pt_cmpR (op_eqD hu64) (pv 2) pe_str (nomark _))))) (pss_one (ps_ret (pv 1))) pss_nil)
      (pss_cons (ps_if (PW.pt (pw_or (pt_cmpR (op_eqD hu64) (pv 2) pe_str (nomark _)) (pw_or1 (pt_cmpR (op_eqD hu64) (pv 1) pe_str (nomark _))))) (pss_one (ps_ret (pv 2))) pss_nil)
      (pss_cons (ps_if (pt_cmpR op_eq (pv 3) pe_str (nomark _)) (pss_one (ps_ret (pe_op op_add (pv 1) (pv 2)))) pss_nil)
      (pss_one (ps_ret (pe_ifExp (pt_cmpR op_eq (pv 3) pe_str (nomark _)) (pe_callB (call_min2 rfl) (by rfl) z_min PyProof.Rows.boot_min (pa_cons (pv 1) (pa_cons (pv 2) pa_nil))) (pe_callB (call_max2 rfl) (by rfl) z_max PyProof.Rows.boot_max (pa_cons (pv 1) (pa_cons (pv 2) pa_nil)))))))))))))), ?_⟩
      obtain ⟨a, xs, rfl, ha, h1, h2, h3⟩ := made_at hM
      refine q_asg (v := .str (nameOf k)) (ev_op (ev_var rfl) ev_c (rv_ixT (st_of ha) (v := .str (nameOf k)) (atI_of (Int.le_refl 0) rfl))) fun H1 e1 => ?_
      have tk : ∀ {G : Hp} {t : Str}, EvT (tTest (tOp rEq (tVar 3) (tC (.str t)))) [some (.ref a), some x, some y, some (.str (nameOf k))] G (nameOf k == t) := fun {G t} => et_test (ev_eqS (ev_var rfl) ev_c)
      cases k with
      | pair kl kr =>
        obtain ⟨u, u', rfl, hu1, hu2⟩ := h3 kl kr rfl
        refine q_when (b := true) (et_is tk (by show (("pair" : Str) == "pair") = true; decide +kernel)) (fun _ H2 e2 => ?_) (fun hb => (by cases hb))
        have e12 := e1.trans e2
        obtain ⟨x1, x2, rfl, g1, g2⟩ := good_pair gx
        obtain ⟨y1, y2, rfl, g3, g4⟩ := good_pair gy
        obtain ⟨s1, s2, _⟩ := sx
        obtain ⟨s3, s4, _⟩ := sy
        obtain ⟨ax, p1, p2, rfl, hax, v1, v2⟩ := id hx.two
        obtain ⟨ay, t1, t2, rfl, hay, v3, v4⟩ := id hy.two
        refine ⟨_, rfl, a, _, 1, u, rfl, rfl, st_of (e12 _ _ ha), rfl, _, rfl, ax, _, 0, p1, rfl, rfl, st_of (e12 _ _ hax), rfl, _, rfl, ay, _, 0, t1, rfl, rfl, st_of (e12 _ _ hay), rfl, u, p1, t1, kl, x1, y1, rfl, hu1.ex e12, depth_l hn, v1.ex e12, v3.ex e12, g1, g3, s1, s3, fun r1 H3 e3 hr1 => ?_⟩
        have e13 := e12.trans e3
        refine ⟨_, rfl, a, _, 2, u', rfl, rfl, st_of (e13 _ _ ha), rfl, _, rfl, ax, _, 1, p2, rfl, rfl, st_of (e13 _ _ hax), rfl, _, rfl, ay, _, 1, t2, rfl, rfl, st_of (e13 _ _ hay), rfl, u', p2, t2, kr, x2, y2, rfl, hu2.ex e13, depth_r hn, v2.ex e13, v4.ex e13, g2, g4, s2, s4, fun r2 H4 e4 hr2 => ⟨by show 2 ≤ sizeLine; decide, fun l hl => ?_⟩⟩
        exact q _ _ ((e13.trans e4).trans (Ex.new hl)) (.new hl (.cons (hr1.ex e4) (.cons hr2 .nil)))
      | truth =>
        refine q_when (b := false) (et_is tk (by show (("truth" : Str) == "pair") = false; decide +kernel)) (fun hb => (by cases hb)) (fun _ H2 e2 => ?_)
        have e := (e1.trans e2)
        refine q_when (b := true) (et_is tk (by show (("truth" : Str) == "truth") = true; decide +kernel)) (fun _ H3 e3 => ?_) (fun hb => (by cases hb))
        obtain ⟨b1, rfl⟩ := good_truth gx
        obtain ⟨b2, rfl⟩ := good_truth gy
        obtain rfl := hx.bl_inv
        obtain rfl := hy.bl_inv
        exact s_ret (ev_orV (a := b1) (b := b2) (ev_var rfl) fun _ => ev_var rfl) fun H4 e4 => q _ H4 ((e.trans e3).trans e4) (.bl _)
      | lot n =>
        refine q_when (b := false) (et_is tk (by show (("lot" : Str) == "pair") = false; decide +kernel)) (fun hb => (by cases hb)) (fun _ H2 e2 => ?_)
        refine q_when (b := false) (et_is tk (by show (("lot" : Str) == "truth") = false; decide +kernel)) (fun hb => (by cases hb)) (fun _ H3 e3 => ?_)
        have e := ((e1.trans e2).trans e3)
        refine q_when (b := true) (et_is tk (by show (("lot" : Str) == "lot") = true; decide +kernel)) (fun _ H4 e4 => ?_) (fun hb => (by cases hb))
        obtain ⟨i, rfl, _⟩ := good_lot gx
        obtain ⟨j, rfl, _⟩ := good_lot gy
        obtain rfl := hx.int_inv
        obtain rfl := hy.int_inv
        exact s_ret (ev_op (ev_var rfl) (ev_var rfl) rv_I0) fun H5 e5 => q _ H5 ((e.trans e4).trans e5) (.int _)
      | share =>
        refine q_when (b := false) (et_is tk (by show (("share" : Str) == "pair") = false; decide +kernel)) (fun hb => (by cases hb)) (fun _ H2 e2 => ?_)
        refine q_when (b := false) (et_is tk (by show (("share" : Str) == "truth") = false; decide +kernel)) (fun hb => (by cases hb)) (fun _ H3 e3 => ?_)
        refine q_when (b := false) (et_is tk (by show (("share" : Str) == "lot") = false; decide +kernel)) (fun hb => (by cases hb)) (fun _ H4 e4 => ?_)
        have e := (((e1.trans e2).trans e3).trans e4)
        refine q_when (b := true) (et_is tk (by show (("share" : Str) == "share") = true; decide +kernel)) (fun _ H5 e5 => ?_) (fun hb => (by cases hb))
        replace e := e.trans e5
        obtain ⟨p, r, rfl, h1, h2, h3⟩ := share_nat gx
        obtain ⟨t, u, rfl, h4, h5, h6⟩ := share_nat gy
        obtain ⟨ax, _, _, rfl, hax, k1, k2⟩ := id hx.two
        obtain ⟨ay, _, _, rfl, hay, k3, k4⟩ := id hy.two
        obtain rfl := k1.int_inv
        obtain rfl := k2.int_inv
        obtain rfl := k3.int_inv
        obtain rfl := k4.int_inv
        obtain ⟨s1, s2, _⟩ : p < 2 ^ 4000 ∧ r < 2 ^ 4000 ∧ True := sx
        obtain ⟨s3, s4, _⟩ : t < 2 ^ 4000 ∧ u < 2 ^ 4000 ∧ True := sy
        have up : ∀ {x : Nat}, x < 2 ^ 4000 → ((x : Int)).natAbs < 2 ^ 4000 := fun {x} h => by rw [Int.natAbs_natCast]; exact h
        refine r_if (b := decide ((t : Int) * (r : Int) ≤ (p : Int) * (u : Int))) (et_test (ev_op (ev_op (ev_op (ev_var rfl) ev_c (rv_ixT (st_of (e _ _ hax)) rfl)) (ev_op (ev_var rfl) ev_c (rv_ixT (st_of (e _ _ hay)) rfl)) (rv_I (wide_mul (up s1) (up s4) (by decide) (by decide) (by decide)))) (ev_op (ev_op (ev_var rfl) ev_c (rv_ixT (st_of (e _ _ hay)) rfl)) (ev_op (ev_var rfl) ev_c (rv_ixT (st_of (e _ _ hax)) rfl)) (rv_I (wide_mul (up s3) (up s2) (by decide) (by decide) (by decide)))) rv_I0)) (fun hb H6 e6 => ?_) (fun hb H6 e6 => ?_)
        · exact s_ret (ev_var rfl) fun H7 e7 => q _ H7 ((e.trans e6).trans e7) (by show DtAt _ _ (if (t : Int) * (r : Int) ≤ (p : Int) * (u : Int) then shN p r else shN t u); rw [if_pos (of_decide_eq_true hb)]; exact hx.ex ((e.trans e6).trans e7))
        · exact s_ret (ev_var rfl) fun H7 e7 => q _ H7 ((e.trans e6).trans e7) (by show DtAt _ _ (if (t : Int) * (r : Int) ≤ (p : Int) * (u : Int) then shN p r else shN t u); rw [if_neg (of_decide_eq_false hb)]; exact hy.ex ((e.trans e6).trans e7))
      | count =>
        refine q_when (b := false) (et_is tk (by show (("count" : Str) == "pair") = false; decide +kernel)) (fun hb => (by cases hb)) (fun _ H2 e2 => ?_)
        refine q_when (b := false) (et_is tk (by show (("count" : Str) == "truth") = false; decide +kernel)) (fun hb => (by cases hb)) (fun _ H3 e3 => ?_)
        refine q_when (b := false) (et_is tk (by show (("count" : Str) == "lot") = false; decide +kernel)) (fun hb => (by cases hb)) (fun _ H4 e4 => ?_)
        refine q_when (b := false) (et_is tk (by show (("count" : Str) == "share") = false; decide +kernel)) (fun hb => (by cases hb)) (fun _ H5 e5 => ?_)
        have e := ((((e1.trans e2).trans e3).trans e4).trans e5)
        have wx := fl_cn gx
        have wy := fl_cn gy
        refine q_when (b := isE dx || isN dy) (et_or (et_test (ev_eqE (ev_var rfl) (hx.ex e) wx)) (fun _ => et_test (ev_eqN (ev_var rfl) (hy.ex e) wy))) (fun hb H7 e7 => ?_) (fun hb H7 e7 => ?_)
        · exact s_ret (ev_var rfl) fun H9 e9 => q _ H9 ((e.trans e7).trans e9) (by rw [countA gx gy hb]; exact hx.ex ((e.trans e7).trans e9))
        refine q_when (b := isE dy || isN dx) (et_or (et_test (ev_eqE (ev_var rfl) (hy.ex (e.trans e7)) wy)) (fun _ => et_test (ev_eqN (ev_var rfl) (hx.ex (e.trans e7)) wx))) (fun hb2 H8 e8 => ?_) (fun hb2 H8 e8 => ?_)
        · exact s_ret (ev_var rfl) fun H9 e9 => q _ H9 (((e.trans e7).trans e8).trans e9) (by rw [countB gx gy hb2]; exact hy.ex (((e.trans e7).trans e8).trans e9))
        replace e8 := (e.trans e7).trans e8
        obtain ⟨i, rfl, _⟩ := cn_int gx (or_no hb).1
        obtain ⟨j, rfl, _⟩ := cn_int gy (or_no hb2).1
        obtain rfl := hx.int_inv
        obtain rfl := hy.int_inv
        refine q_when (b := true) (et_is tk (by show (("count" : Str) == "count") = true; decide +kernel)) (fun _ H9 e9 => ?_) (fun hb => (by cases hb))
        exact s_ret (ev_op (ev_var rfl) (ev_var rfl) rv_I0) fun H11 e11 => q _ H11 ((e8.trans e9).trans e11) (.int _)
      | narrow =>
        refine q_when (b := false) (et_is tk (by show (("narrow" : Str) == "pair") = false; decide +kernel)) (fun hb => (by cases hb)) (fun _ H2 e2 => ?_)
        refine q_when (b := false) (et_is tk (by show (("narrow" : Str) == "truth") = false; decide +kernel)) (fun hb => (by cases hb)) (fun _ H3 e3 => ?_)
        refine q_when (b := false) (et_is tk (by show (("narrow" : Str) == "lot") = false; decide +kernel)) (fun hb => (by cases hb)) (fun _ H4 e4 => ?_)
        refine q_when (b := false) (et_is tk (by show (("narrow" : Str) == "share") = false; decide +kernel)) (fun hb => (by cases hb)) (fun _ H5 e5 => ?_)
        have e := ((((e1.trans e2).trans e3).trans e4).trans e5)
        have wx := fl_cn gx
        have wy := fl_cn gy
        refine q_when (b := isE dx || isN dy) (et_or (et_test (ev_eqE (ev_var rfl) (hx.ex e) wx)) (fun _ => et_test (ev_eqN (ev_var rfl) (hy.ex e) wy))) (fun hb H7 e7 => ?_) (fun hb H7 e7 => ?_)
        · exact s_ret (ev_var rfl) fun H9 e9 => q _ H9 ((e.trans e7).trans e9) (by rw [narrowA gx gy hb]; exact hx.ex ((e.trans e7).trans e9))
        refine q_when (b := isE dy || isN dx) (et_or (et_test (ev_eqE (ev_var rfl) (hy.ex (e.trans e7)) wy)) (fun _ => et_test (ev_eqN (ev_var rfl) (hx.ex (e.trans e7)) wx))) (fun hb2 H8 e8 => ?_) (fun hb2 H8 e8 => ?_)
        · exact s_ret (ev_var rfl) fun H9 e9 => q _ H9 (((e.trans e7).trans e8).trans e9) (by rw [narrowB gx gy hb2]; exact hy.ex (((e.trans e7).trans e8).trans e9))
        replace e8 := (e.trans e7).trans e8
        obtain ⟨i, rfl, _⟩ := cn_int gx (or_no hb).1
        obtain ⟨j, rfl, _⟩ := cn_int gy (or_no hb2).1
        obtain rfl := hx.int_inv
        obtain rfl := hy.int_inv
        refine q_when (b := false) (et_is tk (by show (("narrow" : Str) == "count") = false; decide +kernel)) (fun hb => (by cases hb)) (fun _ H9 e9 => ?_)
        refine r_if (b := false) (et_is tk (by show (("narrow" : Str) == "least") = false; decide +kernel)) (fun hb => (by cases hb)) (fun _ H10 e10 => ?_)
        refine s_ret (ev_cb (ea_cons (ev_var rfl) (ea_cons (ev_var rfl) ea_nil)) fun H8 e8 Q' q' => ⟨_, _, rfl, q' H8 (Ex.refl H8)⟩) fun H12 e12 => q _ H12 (((e8.trans e9).trans e10).trans e12) ?_
        show DtAt _ (.int (if j > i then j else i)) (.int (if j ≤ i then i else j))
        have hm : (if j > i then j else i) = (if j ≤ i then i else j) := by split <;> split <;> omega
        rw [hm]
        exact .int _
      | least =>
        refine q_when (b := false) (et_is tk (by show (("least" : Str) == "pair") = false; decide +kernel)) (fun hb => (by cases hb)) (fun _ H2 e2 => ?_)
        refine q_when (b := false) (et_is tk (by show (("least" : Str) == "truth") = false; decide +kernel)) (fun hb => (by cases hb)) (fun _ H3 e3 => ?_)
        refine q_when (b := false) (et_is tk (by show (("least" : Str) == "lot") = false; decide +kernel)) (fun hb => (by cases hb)) (fun _ H4 e4 => ?_)
        refine q_when (b := false) (et_is tk (by show (("least" : Str) == "share") = false; decide +kernel)) (fun hb => (by cases hb)) (fun _ H5 e5 => ?_)
        have e := ((((e1.trans e2).trans e3).trans e4).trans e5)
        have wx := fl_b gx
        have wy := fl_b gy
        refine q_when (b := isE dx || isN dy) (et_or (et_test (ev_eqE (ev_var rfl) (hx.ex e) wx)) (fun _ => et_test (ev_eqN (ev_var rfl) (hy.ex e) wy))) (fun hb H7 e7 => ?_) (fun hb H7 e7 => ?_)
        · exact s_ret (ev_var rfl) fun H9 e9 => q _ H9 ((e.trans e7).trans e9) (by rw [show plus .least dx dy = dx from bP1 gx gy hb]; exact hx.ex ((e.trans e7).trans e9))
        refine q_when (b := isE dy || isN dx) (et_or (et_test (ev_eqE (ev_var rfl) (hy.ex (e.trans e7)) wy)) (fun _ => et_test (ev_eqN (ev_var rfl) (hx.ex (e.trans e7)) wx))) (fun hb2 H8 e8 => ?_) (fun hb2 H8 e8 => ?_)
        · exact s_ret (ev_var rfl) fun H9 e9 => q _ H9 (((e.trans e7).trans e8).trans e9) (by rw [show plus .least dx dy = dy from bP2 gx gy hb hb2]; exact hy.ex (((e.trans e7).trans e8).trans e9))
        replace e8 := (e.trans e7).trans e8
        obtain ⟨i, rfl⟩ := b_int gx (or_no hb).1 (or_no hb2).2
        obtain ⟨j, rfl⟩ := b_int gy (or_no hb2).1 (or_no hb).2
        obtain rfl := hx.int_inv
        obtain rfl := hy.int_inv
        refine q_when (b := false) (et_is tk (by show (("least" : Str) == "count") = false; decide +kernel)) (fun hb => (by cases hb)) (fun _ H9 e9 => ?_)
        refine r_if (b := true) (et_is tk (by show (("least" : Str) == "least") = true; decide +kernel)) (fun _ H10 e10 => ?_) (fun hb => (by cases hb))
        refine s_ret (ev_cb (ea_cons (ev_var rfl) (ea_cons (ev_var rfl) ea_nil)) fun H8 e8 Q' q' => ⟨_, _, rfl, q' H8 (Ex.refl H8)⟩) fun H12 e12 => q _ H12 (((e8.trans e9).trans e10).trans e12) ?_
        show DtAt _ (.int (if j < i then j else i)) (.int (if 1 * i ≤ 1 * j then i else j))
        have hm : (if j < i then j else i) = (if 1 * i ≤ 1 * j then i else j) := by split <;> split <;> omega
        rw [hm]
        exact .int _
      | most =>
        refine q_when (b := false) (et_is tk (by show (("most" : Str) == "pair") = false; decide +kernel)) (fun hb => (by cases hb)) (fun _ H2 e2 => ?_)
        refine q_when (b := false) (et_is tk (by show (("most" : Str) == "truth") = false; decide +kernel)) (fun hb => (by cases hb)) (fun _ H3 e3 => ?_)
        refine q_when (b := false) (et_is tk (by show (("most" : Str) == "lot") = false; decide +kernel)) (fun hb => (by cases hb)) (fun _ H4 e4 => ?_)
        refine q_when (b := false) (et_is tk (by show (("most" : Str) == "share") = false; decide +kernel)) (fun hb => (by cases hb)) (fun _ H5 e5 => ?_)
        have e := ((((e1.trans e2).trans e3).trans e4).trans e5)
        have wx := fl_b gx
        have wy := fl_b gy
        refine q_when (b := isE dx || isN dy) (et_or (et_test (ev_eqE (ev_var rfl) (hx.ex e) wx)) (fun _ => et_test (ev_eqN (ev_var rfl) (hy.ex e) wy))) (fun hb H7 e7 => ?_) (fun hb H7 e7 => ?_)
        · exact s_ret (ev_var rfl) fun H9 e9 => q _ H9 ((e.trans e7).trans e9) (by rw [show plus .most dx dy = dx from bP1 gx gy hb]; exact hx.ex ((e.trans e7).trans e9))
        refine q_when (b := isE dy || isN dx) (et_or (et_test (ev_eqE (ev_var rfl) (hy.ex (e.trans e7)) wy)) (fun _ => et_test (ev_eqN (ev_var rfl) (hx.ex (e.trans e7)) wx))) (fun hb2 H8 e8 => ?_) (fun hb2 H8 e8 => ?_)
        · exact s_ret (ev_var rfl) fun H9 e9 => q _ H9 (((e.trans e7).trans e8).trans e9) (by rw [show plus .most dx dy = dy from bP2 gx gy hb hb2]; exact hy.ex (((e.trans e7).trans e8).trans e9))
        replace e8 := (e.trans e7).trans e8
        obtain ⟨i, rfl⟩ := b_int gx (or_no hb).1 (or_no hb2).2
        obtain ⟨j, rfl⟩ := b_int gy (or_no hb2).1 (or_no hb).2
        obtain rfl := hx.int_inv
        obtain rfl := hy.int_inv
        refine q_when (b := false) (et_is tk (by show (("most" : Str) == "count") = false; decide +kernel)) (fun hb => (by cases hb)) (fun _ H9 e9 => ?_)
        refine r_if (b := false) (et_is tk (by show (("most" : Str) == "least") = false; decide +kernel)) (fun hb => (by cases hb)) (fun _ H10 e10 => ?_)
        refine s_ret (ev_cb (ea_cons (ev_var rfl) (ea_cons (ev_var rfl) ea_nil)) fun H8 e8 Q' q' => ⟨_, _, rfl, q' H8 (Ex.refl H8)⟩) fun H12 e12 => q _ H12 (((e8.trans e9).trans e10).trans e12) ?_
        show DtAt _ (.int (if j > i then j else i)) (.int (if -1 * i ≤ -1 * j then i else j))
        have hm : (if j > i then j else i) = (if -1 * i ≤ -1 * j then i else j) := by split <;> split <;> omega
        rw [hm]
        exact .int _
end
end D1
end
section
set_option linter.all false
set_option maxRecDepth 100000
/-! N1: the order of sums; least solutions -/
namespace D1
namespace SR
variable {α : Type} (S : SR α)
def le (a b : α) : Prop := ∃ c, S.add a c = b
theorem le_refl (a : α) : S.le a a := ⟨S.zero, S.add_zero a⟩
theorem le_trans {a b c : α} (h : S.le a b) (k : S.le b c) : S.le a c := by
  obtain ⟨x, rfl⟩ := h
  obtain ⟨y, rfl⟩ := k
  exact ⟨S.add x y, (S.add_assoc a x y).symm⟩
theorem zero_le (a : α) : S.le S.zero a := ⟨a, S.zero_add a⟩
theorem le_add (a b : α) : S.le a (S.add a b) := ⟨b, rfl⟩
theorem le_add' (a b : α) : S.le b (S.add a b) := ⟨a, S.add_comm b a⟩
theorem add_mono {a b c d : α} (h : S.le a b) (k : S.le c d) : S.le (S.add a c) (S.add b d) := by
  obtain ⟨x, rfl⟩ := h
  obtain ⟨y, rfl⟩ := k
  exact ⟨S.add x y, S.add4 a c x y⟩
theorem mul_mono {a b c d : α} (h : S.le a b) (k : S.le c d) : S.le (S.mul a c) (S.mul b d) := by
  obtain ⟨x, rfl⟩ := h
  obtain ⟨y, rfl⟩ := k
  refine ⟨S.add (S.mul a y) (S.add (S.mul x c) (S.mul x y)), ?_⟩
  rw [S.mul_add, S.add_mul, S.add_mul, S.add_assoc]
  congr 1
  exact S.add_left _ _ _
theorem mul_le {a b : α} (c : α) (h : S.le a b) : S.le (S.mul c a) (S.mul c b) := S.mul_mono (S.le_refl c) h
theorem sm_le {f g : Nat → α} : ∀ {n : Nat}, (∀ i, i < n → S.le (f i) (g i)) → S.le (S.sm f n) (S.sm g n)
  | 0, _ => S.le_refl _
  | n + 1, h => S.add_mono (sm_le fun i hi => h i (Nat.lt_succ_of_lt hi)) (h n (Nat.lt_succ_self n))
theorem le_sm {f : Nat → α} {j : Nat} : ∀ {n : Nat}, j < n → S.le (f j) (S.sm f n)
  | 0, h => absurd h (Nat.not_lt_zero j)
  | n + 1, h => by
    by_cases e : j = n
    · subst e
      exact S.le_add' _ _
    · exact S.le_trans (le_sm (by omega)) (S.le_add _ _)
theorem sm_mono (f : Nat → α) {m n : Nat} (h : m ≤ n) : S.le (S.sm f m) (S.sm f n) := by
  induction n with
  | zero =>
    obtain rfl : m = 0 := by omega
    exact S.le_refl _
  | succ n ih =>
    by_cases e : m = n + 1
    · rw [e]
      exact S.le_refl _
    · exact S.le_trans (ih (by omega)) (S.le_add _ _)
theorem ls_le {β : Type} {f g : β → α} : ∀ {xs : List β}, (∀ x ∈ xs, S.le (f x) (g x)) → S.le (S.ls f xs) (S.ls g xs)
  | [], _ => S.le_refl _
  | x :: xs, h => S.add_mono (h x List.mem_cons_self) (ls_le fun y hy => h y (List.mem_cons_of_mem _ hy))
theorem le_ls {β : Type} {f : β → α} : ∀ {xs : List β} {x : β}, x ∈ xs → S.le (f x) (S.ls f xs)
  | y :: xs, x, h => by
    rcases List.mem_cons.mp h with rfl | h
    · exact S.le_add _ _
    · exact S.le_trans (le_ls h) (S.le_add' _ _)
/-! ### systems y = b + M y below n -/
/-- a solution; at most any that the rule makes no greater -/
structure Least (M : Nat → Nat → α) (n : Nat) (b y : Nat → α) : Prop where
  sol : ∀ i, i < n → y i = S.add (b i) (S.sm (fun l => S.mul (M i l) (y l)) n)
  min : ∀ z : Nat → α, (∀ i, i < n → S.le (S.add (b i) (S.sm (fun l => S.mul (M i l) (z l)) n)) (z i)) → ∀ i, i < n → S.le (y i) (z i)
/-- taking out state by state keeps below what the rule makes no greater -/
theorem tb_least {st : α → α} (hst : ∀ a, st a = S.add S.one (S.mul a (st a))) (hind : ∀ a b x, S.le (S.add b (S.mul a x)) x → S.le (S.mul (st a) b) x) (A : Nat → Nat → α) : ∀ (m : Nat) (b y : Nat → α) (n : Nat), m ≤ n → (∀ i, i < n → S.le (S.add (b i) (S.sm (fun l => S.mul (A i l) (y l)) m)) (y i)) → ∀ i, i < n → S.le (S.add (b i) (S.sm (fun l => S.mul (S.tb st A m i l) (b l)) m)) (y i)
  | 0, b, y, n, _, h, i, hi => h i hi
  | m + 1, b, y, n, hm, h, i, hi => by
    -- all but the last state first
    have h1 : ∀ i, i < n → S.le (S.add (S.add (b i) (S.mul (A i m) (y m))) (S.sm (fun l => S.mul (A i l) (y l)) m)) (y i) := fun i hi => by
      have := h i hi
      have e : S.add (b i) (S.sm (fun l => S.mul (A i l) (y l)) (m + 1)) = S.add (S.add (b i) (S.mul (A i m) (y m))) (S.sm (fun l => S.mul (A i l) (y l)) m) := by
        show S.add (b i) (S.add (S.sm _ m) (S.mul (A i m) (y m))) = _
        rw [S.add_assoc, S.add_comm (S.sm _ m)]
      rw [← e]
      exact this
    have h2 := tb_least hst hind A m (fun i => S.add (b i) (S.mul (A i m) (y m))) y n (by omega) h1
    -- so b and the ways to the last one
    have split : ∀ i, S.add (S.add (b i) (S.mul (A i m) (y m))) (S.sm (fun l => S.mul (S.tb st A m i l) (S.add (b l) (S.mul (A l m) (y m)))) m) = S.add (S.add (b i) (S.sm (fun l => S.mul (S.tb st A m i l) (b l)) m)) (S.mul (S.tb st A m i m) (y m)) := fun i => by
      have e1 : S.sm (fun l => S.mul (S.tb st A m i l) (S.add (b l) (S.mul (A l m) (y m)))) m = S.add (S.sm (fun l => S.mul (S.tb st A m i l) (b l)) m) (S.mul (S.sm (fun l => S.mul (S.tb st A m i l) (A l m)) m) (y m)) := by
        rw [S.sm_mul, ← S.sm_add]
        exact S.sm_congr fun l _ => by rw [S.mul_add, S.mul_assoc]
      rw [e1, S.add4, ← S.add_mul, ← S.tb_right hst A m i m]
    have h3 : ∀ i, i < n → S.le (S.add (S.add (b i) (S.sm (fun l => S.mul (S.tb st A m i l) (b l)) m)) (S.mul (S.tb st A m i m) (y m))) (y i) := fun i hi => by
      rw [← split]
      exact h2 i hi
    have hm' := hind _ _ _ (h3 m (by omega))
    -- the new table
    have col : ∀ i, S.tb st A (m + 1) i m = S.mul (S.tb st A m i m) (st (S.tb st A m m m)) := fun i => by
      show S.add _ (S.mul _ (S.mul (st _) _)) = _
      have h := hst (S.tb st A m m m)
      have : S.mul (S.tb st A m i m) (st (S.tb st A m m m)) = S.mul (S.tb st A m i m) (S.add S.one (S.mul (S.tb st A m m m) (st (S.tb st A m m m)))) := by rw [← h]
      rw [this, S.mul_add, S.mul_one, S.mul_comm (st _)]
    have e2 : S.add (b i) (S.sm (fun l => S.mul (S.tb st A (m + 1) i l) (b l)) (m + 1)) = S.add (S.add (b i) (S.sm (fun l => S.mul (S.tb st A m i l) (b l)) m)) (S.mul (S.tb st A m i m) (S.mul (st (S.tb st A m m m)) (S.add (b m) (S.sm (fun l => S.mul (S.tb st A m m l) (b l)) m)))) := by
      show S.add (b i) (S.add (S.sm (fun l => S.mul (S.tb st A (m + 1) i l) (b l)) m) (S.mul (S.tb st A (m + 1) i m) (b m))) = _
      rw [col]
      have e3 : S.sm (fun l => S.mul (S.tb st A (m + 1) i l) (b l)) m = S.add (S.sm (fun l => S.mul (S.tb st A m i l) (b l)) m) (S.mul (S.mul (S.tb st A m i m) (st (S.tb st A m m m))) (S.sm (fun l => S.mul (S.tb st A m m l) (b l)) m)) := by
        rw [S.mul_sm, ← S.sm_add]
        refine S.sm_congr fun l _ => ?_
        show S.mul (S.add _ (S.mul _ (S.mul _ _))) (b l) = _
        rw [S.add_mul, ← S.mul_assoc, S.mul_assoc]
      rw [e3, ← S.mul_assoc (S.tb st A m i m), S.mul_add, S.add_assoc, S.add_assoc]
      congr 2
      exact S.add_comm _ _
    rw [e2]
    exact S.le_trans (S.add_mono (S.le_refl _) (S.mul_le _ hm')) (h3 i hi)
end SR
end D1
end
section
set_option linter.all false
set_option maxRecDepth 100000
/-! N2: solutions as sums over walks -/
namespace D1
theorem nodup_len : ∀ (n : Nat) (l : List Nat), l.Nodup → (∀ x ∈ l, x < n) → l.length ≤ n
  | 0, l, _, h => by
    cases l with
    | nil => exact Nat.le_refl _
    | cons x l => exact absurd (h x List.mem_cons_self) (Nat.not_lt_zero _)
  | n + 1, l, nd, h => by
    by_cases hn : n ∈ l
    · have h1 := nodup_len n (l.erase n) (nd.erase n) fun x hx => by
        have h2 := (nd.mem_erase_iff).mp hx
        have := h x h2.2
        have h3 := h2.1
        omega
      rw [List.length_erase_of_mem hn] at h1
      omega
    · have := nodup_len n l nd fun x hx => by
        have h1 := h x hx
        have h2 : x ≠ n := fun e => hn (e ▸ hx)
        omega
      omega
def endp : Nat → List Nat → Nat
  | i, [] => i
  | _, x :: p => endp x p
theorem endp_append : ∀ (i : Nat) (p q : List Nat), endp i (p ++ q) = endp (endp i p) q
  | _, [], _ => rfl
  | _, x :: p, q => endp_append x p q
theorem endp_take : ∀ (i : Nat) (p : List Nat) (a : Nat) (h : a < (i :: p).length), endp i (p.take a) = (i :: p)[a]
  | i, p, 0, _ => by rw [List.take_zero]; rfl
  | i, [], a + 1, h => by simp at h
  | i, x :: p, a + 1, h => by
    show endp x (p.take a) = (x :: p)[a]'(by simpa using h)
    exact endp_take x p a _
theorem endp_lt {n : Nat} : ∀ (i : Nat) (p : List Nat), i < n → (∀ x ∈ p, x < n) → endp i p < n
  | i, [], hi, _ => hi
  | i, x :: p, hi, h => endp_lt x p (h x List.mem_cons_self) fun y hy => h y (List.mem_cons_of_mem _ hy)
/-- a long walk comes back -/
theorem pigeon {n i : Nat} {p : List Nat} (hi : i < n) (hp : ∀ x ∈ p, x < n) (hl : n ≤ p.length) : ∃ p1 p2 p3, p = p1 ++ (p2 ++ p3) ∧ p2 ≠ [] ∧ endp (endp i p1) p2 = endp i p1 := by
  have hnd : ¬(i :: p).Nodup := fun nd => by
    have := nodup_len n _ nd fun x hx => by
      rcases List.mem_cons.mp hx with rfl | hx
      · exact hi
      · exact hp x hx
    rw [List.length_cons] at this
    omega
  rw [List.nodup_iff_pairwise_ne, List.pairwise_iff_getElem] at hnd
  have : ∃ (a b : Nat) (ha : a < (i :: p).length) (hb : b < (i :: p).length), a < b ∧ (i :: p)[a] = (i :: p)[b] := by
    apply Classical.byContradiction
    intro h
    refine hnd fun a b ha hb hab e => ?_
    exact h ⟨a, b, ha, hb, hab, e⟩
  obtain ⟨a, b, ha, hb, hab, e⟩ := this
  have hb' : b ≤ p.length := by rw [List.length_cons] at hb; omega
  have h1 : p.take b = p.take a ++ (p.take b).drop a := by
    have : p.take a = (p.take b).take a := by rw [List.take_take, Nat.min_eq_left (by omega)]
    rw [this, List.take_append_drop]
  refine ⟨p.take a, (p.take b).drop a, p.drop b, ?_, fun z => ?_, ?_⟩
  · rw [← List.append_assoc, ← h1, List.take_append_drop]
  · have := congrArg List.length z
    rw [List.length_drop, List.length_take, List.length_nil] at this
    omega
  · rw [← endp_append, ← h1, endp_take i p b hb, endp_take i p a ha, e]
def repL (p : List Nat) : Nat → List Nat
  | 0 => []
  | k + 1 => p ++ repL p k
theorem repL_len (p : List Nat) : ∀ k, (repL p k).length = k * p.length
  | 0 => by rw [Nat.zero_mul]; rfl
  | k + 1 => by
    show (p ++ repL p k).length = _
    rw [List.length_append, repL_len p k, Nat.succ_mul, Nat.add_comm]
theorem repL_mem {p : List Nat} {x : Nat} : ∀ {k : Nat}, x ∈ repL p k → x ∈ p
  | 0, h => by cases h
  | k + 1, h => by
    rcases List.mem_append.mp h with h | h
    · exact h
    · exact repL_mem h
theorem repL_end {p : List Nat} {x : Nat} (h : endp x p = x) : ∀ k, endp x (repL p k) = x
  | 0 => rfl
  | k + 1 => by
    show endp x (p ++ repL p k) = x
    rw [endp_append, h, repL_end h k]
namespace SR
variable {α : Type} (S : SR α)
section
variable (M : Nat → Nat → α) (n : Nat)
/-- k steps and then b -/
def it (b : Nat → α) : Nat → Nat → α
  | 0 => b
  | k + 1 => fun i => S.sm (fun l => S.mul (M i l) (it b k l)) n
def dsum (b : Nat → α) (N i : Nat) : α := S.sm (fun k => S.it M n b k i) N
end
variable {M : Nat → Nat → α} {n : Nat} {b y : Nat → α}
theorem it_congr {f g : Nat → α} (h : ∀ i, i < n → f i = g i) : ∀ (k i : Nat), i < n → S.it M n f k i = S.it M n g k i
  | 0, i, hi => h i hi
  | k + 1, i, hi => S.sm_congr fun l hl => by rw [it_congr h k l hl]
theorem it_add (f g : Nat → α) : ∀ (k i : Nat), S.it M n (fun i => S.add (f i) (g i)) k i = S.add (S.it M n f k i) (S.it M n g k i)
  | 0, i => rfl
  | k + 1, i => by
    show S.sm _ n = S.add (S.sm _ n) (S.sm _ n)
    rw [← S.sm_add]
    exact S.sm_congr fun l _ => by rw [it_add f g k l, S.mul_add]
theorem it_succ (f : Nat → α) : ∀ (k i : Nat), S.it M n (fun i => S.sm (fun l => S.mul (M i l) (f l)) n) k i = S.it M n f (k + 1) i
  | 0, i => rfl
  | k + 1, i => S.sm_congr fun l _ => by rw [it_succ f k l]
/-- a solution: the first steps' sums, and what is further on -/
theorem sol_it (h : ∀ i, i < n → y i = S.add (b i) (S.sm (fun l => S.mul (M i l) (y l)) n)) : ∀ (N i : Nat), i < n → y i = S.add (S.dsum M n b N i) (S.it M n y N i)
  | 0, i, hi => (S.zero_add _).symm
  | N + 1, i, hi => by
    have e : S.it M n y N i = S.add (S.it M n b N i) (S.it M n y (N + 1) i) := by
      rw [S.it_congr h N i hi, S.it_add, S.it_succ]
    rw [sol_it h N i hi, e, ← S.add_assoc]
    rfl
theorem dsum_le (h : ∀ i, i < n → y i = S.add (b i) (S.sm (fun l => S.mul (M i l) (y l)) n)) (N : Nat) {i : Nat} (hi : i < n) : S.le (S.dsum M n b N i) (y i) := ⟨_, (S.sol_it h N i hi).symm⟩
theorem dsum_next (N i : Nat) : S.add (b i) (S.sm (fun l => S.mul (M i l) (S.dsum M n b N l)) n) = S.add (S.dsum M n b N i) (S.it M n b N i) := by
  have e : S.sm (fun l => S.mul (M i l) (S.dsum M n b N l)) n = S.sm (fun k => S.it M n b (k + 1) i) N := by
    unfold dsum
    rw [show S.sm (fun l => S.mul (M i l) (S.sm (fun k => S.it M n b k l) N)) n = S.sm (fun l => S.sm (fun k => S.mul (M i l) (S.it M n b k l)) N) n from S.sm_congr fun l _ => S.mul_sm _ _, S.sm_swap]
    rfl
  rw [e]
  exact (S.sm_head (f := fun k => S.it M n b k i) N).symm
/-! ### walks -/
def wt (M : Nat → Nat → α) : Nat → List Nat → α
  | _, [] => S.one
  | i, x :: p => S.mul (M i x) (wt M x p)
def val (M : Nat → Nat → α) (b : Nat → α) (i : Nat) (p : List Nat) : α := S.mul (S.wt M i p) (b (endp i p))
theorem wt_append : ∀ (i : Nat) (p q : List Nat), S.wt M i (p ++ q) = S.mul (S.wt M i p) (S.wt M (endp i p) q)
  | i, [], q => (S.one_mul _).symm
  | i, x :: p, q => by
    show S.mul (M i x) (S.wt M x (p ++ q)) = S.mul (S.mul (M i x) (S.wt M x p)) _
    rw [wt_append x p q, S.mul_assoc]
    rfl
theorem val_append (i : Nat) (p q : List Nat) : S.val M b i (p ++ q) = S.mul (S.wt M i p) (S.val M b (endp i p) q) := by
  unfold val
  rw [S.wt_append, endp_append, S.mul_assoc]
theorem val_cons (i x : Nat) (p : List Nat) : S.val M b i (x :: p) = S.mul (M i x) (S.val M b x p) := S.mul_assoc _ _ _
theorem val_le : ∀ (i : Nat) (p : List Nat), (∀ x ∈ p, x < n) → S.le (S.val M b i p) (S.it M n b p.length i)
  | i, [], _ => by
    show S.le (S.mul S.one (b i)) (b i)
    rw [S.one_mul]
    exact S.le_refl _
  | i, x :: p, h => by
    rw [S.val_cons]
    exact S.le_trans (S.mul_le _ (val_le x p fun y hy => h y (List.mem_cons_of_mem _ hy))) (S.le_sm (f := fun l => S.mul (M i l) (S.it M n b p.length l)) (h x List.mem_cons_self))
theorem it_dsum {k N : Nat} (h : k < N) (i : Nat) : S.le (S.it M n b k i) (S.dsum M n b N i) := S.le_sm (f := fun k => S.it M n b k i) h
theorem val_sol (h : ∀ i, i < n → y i = S.add (b i) (S.sm (fun l => S.mul (M i l) (y l)) n)) {i : Nat} (hi : i < n) {p : List Nat} (hp : ∀ x ∈ p, x < n) : S.le (S.val M b i p) (y i) :=
  S.le_trans (S.val_le i p hp) (S.le_trans (S.it_dsum (Nat.lt_succ_self _) i) (S.dsum_le h (p.length + 1) hi))
def powr (c : α) : Nat → α
  | 0 => S.one
  | k + 1 => S.mul c (powr c k)
theorem wt_rep {x : Nat} {p : List Nat} (h : endp x p = x) : ∀ k, S.wt M x (repL p k) = S.powr (S.wt M x p) k
  | 0 => rfl
  | k + 1 => by
    show S.wt M x (p ++ repL p k) = S.mul _ _
    rw [S.wt_append, h, wt_rep h k]
/-- a walk with a round in it, so often -/
theorem val_round (i : Nat) (p1 p2 p3 : List Nat) (h : endp (endp i p1) p2 = endp i p1) (k : Nat) : S.val M b i (p1 ++ (repL p2 k ++ p3)) = S.mul (S.wt M i p1) (S.mul (S.powr (S.wt M (endp i p1) p2) k) (S.val M b (endp i p1) p3)) := by
  rw [S.val_append, S.val_append, S.wt_rep h, repL_end h]
theorem val_round1 (i : Nat) (p1 p2 p3 : List Nat) (h : endp (endp i p1) p2 = endp i p1) : S.val M b i (p1 ++ (p2 ++ p3)) = S.mul (S.wt M i p1) (S.mul (S.wt M (endp i p1) p2) (S.val M b (endp i p1) p3)) := by
  rw [S.val_append, S.val_append, h]
theorem val_cut (i : Nat) (p1 p2 p3 : List Nat) (h : endp (endp i p1) p2 = endp i p1) (hc : S.le (S.wt M (endp i p1) p2) S.one) : S.le (S.val M b i (p1 ++ (p2 ++ p3))) (S.val M b i (p1 ++ p3)) := by
  rw [S.val_round1 i p1 p2 p3 h, S.val_append]
  refine S.mul_le _ ?_
  have := S.mul_mono hc (S.le_refl (S.val M b (endp i p1) p3))
  rw [S.one_mul] at this
  exact this
/-! ### sums that are the greater of their parts -/
theorem idem_le (idem : ∀ a, S.add a a = a) {a b : α} (h : S.le a b) : S.add a b = b := by
  obtain ⟨c, rfl⟩ := h
  rw [← S.add_assoc, idem]
theorem idem_join (idem : ∀ a, S.add a a = a) {a b c : α} (h : S.le a c) (k : S.le b c) : S.le (S.add a b) c := by
  have := S.add_mono h k
  rw [idem] at this
  exact this
theorem idem_anti (idem : ∀ a, S.add a a = a) {a b : α} (h : S.le a b) (k : S.le b a) : a = b := by
  rw [← S.idem_le idem h]
  rw [S.add_comm, S.idem_le idem k]
theorem idem_sm (idem : ∀ a, S.add a a = a) {f : Nat → α} {c : α} : ∀ {n : Nat}, (∀ i, i < n → S.le (f i) c) → S.le (S.sm f n) c
  | 0, _ => S.zero_le c
  | n + 1, h => S.idem_join idem (idem_sm idem fun i hi => h i (Nat.lt_succ_of_lt hi)) (h n (Nat.lt_succ_self n))
theorem idem_walks (idem : ∀ a, S.add a a = a) {z : α} : ∀ (k i : Nat) (c : α), (∀ p : List Nat, p.length = k → (∀ x ∈ p, x < n) → S.le (S.mul c (S.val M b i p)) z) → S.le (S.mul c (S.it M n b k i)) z
  | 0, i, c, h => by
    have := h [] rfl fun x hx => by cases hx
    have e : S.val M b i [] = b i := S.one_mul _
    rw [e] at this
    exact this
  | k + 1, i, c, h => by
    show S.le (S.mul c (S.sm _ n)) z
    rw [S.mul_sm]
    refine S.idem_sm idem fun l hl => ?_
    rw [← S.mul_assoc]
    refine idem_walks idem k l (S.mul c (M i l)) fun p hp hx => ?_
    have := h (l :: p) (by rw [List.length_cons, hp]) fun x hx' => by
      rcases List.mem_cons.mp hx' with rfl | hx'
      · exact hl
      · exact hx x hx'
    rw [S.val_cons, ← S.mul_assoc] at this
    exact this
/-- where no weight betters one, walks of less steps than states are enough -/
theorem top_walk (top : ∀ a, S.le a S.one) {i : Nat} (hi : i < n) : ∀ (N : Nat) (p : List Nat), p.length ≤ N → (∀ x ∈ p, x < n) → S.le (S.val M b i p) (S.dsum M n b n i)
  | N, p, hN, hp => by
    by_cases hl : p.length < n
    · exact S.le_trans (S.val_le i p hp) (S.it_dsum hl i)
    · obtain ⟨p1, p2, p3, rfl, h2, h3⟩ := pigeon hi hp (by omega)
      refine S.le_trans (S.val_cut i p1 p2 p3 h3 (top _)) ?_
      have hl2 : 0 < p2.length := List.length_pos_iff.mpr h2
      have hlen : (p1 ++ (p2 ++ p3)).length = p1.length + (p2.length + p3.length) := by rw [List.length_append, List.length_append]
      have hlen2 : (p1 ++ p3).length = p1.length + p3.length := List.length_append
      match N, hN with
      | 0, hN => omega
      | N + 1, hN =>
        refine top_walk top hi N (p1 ++ p3) (by omega) fun x hx => hp x ?_
        rcases List.mem_append.mp hx with h | h
        · exact List.mem_append.mpr (.inl h)
        · exact List.mem_append.mpr (.inr (List.mem_append.mpr (.inr h)))
theorem top_it (idem : ∀ a, S.add a a = a) (top : ∀ a, S.le a S.one) {i : Nat} (hi : i < n) (k : Nat) : S.le (S.it M n b k i) (S.dsum M n b n i) := by
  have := S.idem_walks (M := M) (n := n) (b := b) idem (z := S.dsum M n b n i) k i S.one fun p hp hx => by
    rw [S.one_mul]
    exact S.top_walk top hi p.length p (Nat.le_refl _) hx
  rw [S.one_mul] at this
  exact this
/-- the least solution is the sum over walks of less steps than states -/
theorem top_least (idem : ∀ a, S.add a a = a) (top : ∀ a, S.le a S.one) (L : S.Least M n b y) {i : Nat} (hi : i < n) : y i = S.dsum M n b n i := by
  refine S.idem_anti idem ?_ (S.dsum_le L.sol n hi)
  refine L.min (S.dsum M n b n) (fun j hj => ?_) i hi
  rw [S.dsum_next]
  exact S.idem_join idem (S.le_refl _) (S.top_it idem top hj n)
/-! ### an endless weight -/
/-- E is above all, and takes all in -/
structure Top (E : α) : Prop where
  ge : ∀ a, S.le a E
  add : ∀ a, S.add E a = E
  mul : ∀ a, a ≠ S.zero → S.mul a E = E
  anti : ∀ {a b}, S.le a b → S.le b a → a = b
/-- where it isn't endless, it is the sum over walks of less steps than states -/
theorem end_least {E : α} (T : S.Top E) (L : S.Least M n b y) (hot : ∀ i, i < n → y i ≠ E → S.add (S.dsum M n b n i) (S.it M n b n i) = S.dsum M n b n i) {i : Nat} (hi : i < n) (hE : y i ≠ E) : y i = S.dsum M n b n i := by
  classical
  have hR : ∀ j, j < n → S.le (S.add (b j) (S.sm (fun l => S.mul (M j l) (if y l = E then E else S.dsum M n b n l)) n)) (if y j = E then E else S.dsum M n b n j) := fun j hj => by
    by_cases hj' : y j = E
    · rw [if_pos hj']
      exact T.ge _
    · rw [if_neg hj']
      have e : S.sm (fun l => S.mul (M j l) (if y l = E then E else S.dsum M n b n l)) n = S.sm (fun l => S.mul (M j l) (S.dsum M n b n l)) n := S.sm_congr fun l hl => by
        by_cases hz : M j l = S.zero
        · rw [hz, S.zero_mul, S.zero_mul]
        · rw [if_neg fun hyl => hj' ?_]
          have h1 : S.le E (y j) := by
            rw [L.sol j hj]
            refine S.le_trans ?_ (S.le_add' _ _)
            refine S.le_trans ?_ (S.le_sm (f := fun l => S.mul (M j l) (y l)) hl)
            show S.le E (S.mul (M j l) (y l))
            rw [hyl, T.mul _ hz]
            exact S.le_refl _
          exact T.anti (T.ge _) h1
      rw [e, S.dsum_next, hot j hj hj']
      exact S.le_refl _
  have key := L.min (fun l => if y l = E then E else S.dsum M n b n l) hR i hi
  have key : S.le (y i) (if y i = E then E else S.dsum M n b n i) := key
  rw [if_neg hE] at key
  exact T.anti key (S.dsum_le L.sol n hi)
/-! ### the lesser of numbers: a round that betters goes on endlessly -/
structure Best (E : α) : Prop extends S.Top E where
  sel : ∀ a b, S.add a b = a ∨ S.add a b = b
  arch : ∀ a c d z, S.mul a (S.mul c d) ≠ S.zero → ¬S.le c S.one → (∀ k, S.le (S.mul a (S.mul (S.powr c k) d)) z) → z = E
theorem Best.idem {E : α} (B : S.Best E) (a : α) : S.add a a = a := (B.sel a a).elim id id
theorem sel_sm {f : Nat → α} (sel : ∀ a b, S.add a b = a ∨ S.add a b = b) : ∀ {n : Nat}, S.sm f n ≠ S.zero → ∃ i, i < n ∧ S.sm f n = f i
  | 0, h => absurd rfl h
  | n + 1, h => by
    rcases sel (S.sm f n) (f n) with e | e
    · have e : S.sm f (n + 1) = S.sm f n := e
      rw [e] at h ⊢
      obtain ⟨i, hi, e'⟩ := sel_sm sel h
      exact ⟨i, by omega, e'⟩
    · exact ⟨n, Nat.lt_succ_self n, e⟩
theorem sel_it (sel : ∀ a b, S.add a b = a ∨ S.add a b = b) : ∀ (k i : Nat), S.it M n b k i ≠ S.zero → ∃ p : List Nat, p.length = k ∧ (∀ x ∈ p, x < n) ∧ S.val M b i p = S.it M n b k i
  | 0, i, _ => ⟨[], rfl, (fun x h => by cases h), S.one_mul _⟩
  | k + 1, i, h => by
    obtain ⟨l, hl, e⟩ := S.sel_sm sel (f := fun l => S.mul (M i l) (S.it M n b k l)) h
    have h2 : S.it M n b k l ≠ S.zero := fun z => h (by
      show S.sm (fun l => S.mul (M i l) (S.it M n b k l)) n = _
      rw [e]
      show S.mul (M i l) (S.it M n b k l) = _
      rw [z, S.mul_zero])
    obtain ⟨p, hp, hx, hv⟩ := sel_it sel k l h2
    refine ⟨l :: p, by rw [List.length_cons, hp], fun x hx' => ?_, ?_⟩
    · rcases List.mem_cons.mp hx' with rfl | hx'
      · exact hl
      · exact hx x hx'
    · rw [S.val_cons, hv]
      exact e.symm
theorem best_walk {E : α} (B : S.Best E) (h : ∀ i, i < n → y i = S.add (b i) (S.sm (fun l => S.mul (M i l) (y l)) n)) {i : Nat} (hi : i < n) : ∀ (N : Nat) (p : List Nat), p.length ≤ N → (∀ x ∈ p, x < n) → ¬S.le (S.val M b i p) (S.dsum M n b n i) → y i = E
  | N, p, hN, hp, hno => by
    by_cases hl : p.length < n
    · exact absurd (S.le_trans (S.val_le i p hp) (S.it_dsum hl i)) hno
    · obtain ⟨p1, p2, p3, rfl, h2, h3⟩ := pigeon hi hp (by omega)
      have hl2 : 0 < p2.length := List.length_pos_iff.mpr h2
      have hlen : (p1 ++ (p2 ++ p3)).length = p1.length + (p2.length + p3.length) := by rw [List.length_append, List.length_append]
      have hlen2 : (p1 ++ p3).length = p1.length + p3.length := List.length_append
      have hp13 : ∀ x ∈ p1 ++ p3, x < n := fun x hx => hp x (by
        rcases List.mem_append.mp hx with h | h
        · exact List.mem_append.mpr (.inl h)
        · exact List.mem_append.mpr (.inr (List.mem_append.mpr (.inr h))))
      by_cases hc : S.le (S.wt M (endp i p1) p2) S.one
      · match N, hN with
        | 0, hN => omega
        | N + 1, hN => exact best_walk B h hi N (p1 ++ p3) (by omega) hp13 fun hle => hno (S.le_trans (S.val_cut i p1 p2 p3 h3 hc) hle)
      · refine B.arch (S.wt M i p1) _ (S.val M b (endp i p1) p3) (y i) (fun z => ?_) hc fun k => ?_
        · rw [← S.val_round1 i p1 p2 p3 h3] at z
          rw [z] at hno
          exact hno (S.zero_le _)
        · rw [← S.val_round i p1 p2 p3 h3]
          refine S.val_sol h hi fun x hx => hp x ?_
          rcases List.mem_append.mp hx with h | h
          · exact List.mem_append.mpr (.inl h)
          · rcases List.mem_append.mp h with h | h
            · exact List.mem_append.mpr (.inr (List.mem_append.mpr (.inl (repL_mem h))))
            · exact List.mem_append.mpr (.inr (List.mem_append.mpr (.inr h)))
theorem best_hot {E : α} (B : S.Best E) (h : ∀ i, i < n → y i = S.add (b i) (S.sm (fun l => S.mul (M i l) (y l)) n)) {i : Nat} (hi : i < n) (k : Nat) (hE : y i ≠ E) : S.le (S.it M n b k i) (S.dsum M n b n i) := by
  apply Classical.byContradiction
  intro hno
  have hz : S.it M n b k i ≠ S.zero := fun z => hno (by rw [z]; exact S.zero_le _)
  obtain ⟨p, hp, hx, hv⟩ := S.sel_it B.sel k i hz
  rw [← hv] at hno
  exact hE (S.best_walk B h hi p.length p (Nat.le_refl _) hx hno)
/-! ### counts: a round that isn't nought goes on endlessly -/
structure Cnt (E : α) : Prop extends S.Top E where
  nz : ∀ a b, a ≠ S.zero → b ≠ S.zero → S.mul a b ≠ S.zero
  one_le : ∀ a, a ≠ S.zero → S.le S.one a
  arch : ∀ z, (∀ k, S.le (S.sm (fun _ => S.one) k) z) → z = E
theorem nz_sm {f : Nat → α} : ∀ {n : Nat}, S.sm f n ≠ S.zero → ∃ i, i < n ∧ f i ≠ S.zero
  | 0, h => absurd rfl h
  | n + 1, h => by
    by_cases hn : f n = S.zero
    · have e : S.sm f (n + 1) = S.sm f n := by
        show S.add _ _ = _
        rw [hn, S.add_zero]
      rw [e] at h
      obtain ⟨i, hi, h'⟩ := nz_sm h
      exact ⟨i, by omega, h'⟩
    · exact ⟨n, Nat.lt_succ_self n, hn⟩
theorem nz_it {E : α} (B : S.Cnt E) : ∀ (k i : Nat), S.it M n b k i ≠ S.zero → ∃ p : List Nat, p.length = k ∧ (∀ x ∈ p, x < n) ∧ S.val M b i p ≠ S.zero
  | 0, i, h => ⟨[], rfl, (fun x h => by cases h), by
    have e : S.val M b i [] = b i := S.one_mul _
    rw [e]
    exact h⟩
  | k + 1, i, h => by
    obtain ⟨l, hl, e⟩ := S.nz_sm (f := fun l => S.mul (M i l) (S.it M n b k l)) h
    have h1 : M i l ≠ S.zero := fun z => e (by rw [z, S.zero_mul])
    have h2 : S.it M n b k l ≠ S.zero := fun z => e (by rw [z, S.mul_zero])
    obtain ⟨p, hp, hx, hv⟩ := nz_it B k l h2
    refine ⟨l :: p, by rw [List.length_cons, hp], fun x hx' => ?_, ?_⟩
    · rcases List.mem_cons.mp hx' with rfl | hx'
      · exact hl
      · exact hx x hx'
    · rw [S.val_cons]
      exact B.nz _ _ h1 hv
theorem nz_parts {a b : α} (h : S.mul a b ≠ S.zero) : a ≠ S.zero ∧ b ≠ S.zero := ⟨fun z => h (by rw [z, S.zero_mul]), fun z => h (by rw [z, S.mul_zero])⟩
theorem powr_nz {E : α} (B : S.Cnt E) (h1 : S.one ≠ S.zero) {c : α} (hc : c ≠ S.zero) : ∀ k, S.powr c k ≠ S.zero
  | 0 => h1
  | k + 1 => B.nz _ _ hc (powr_nz B h1 hc k)
theorem cnt_hot {E : α} (B : S.Cnt E) (h1 : S.one ≠ S.zero) (h : ∀ i, i < n → y i = S.add (b i) (S.sm (fun l => S.mul (M i l) (y l)) n)) {i : Nat} (hi : i < n) (hE : y i ≠ E) : S.it M n b n i = S.zero := by
  apply Classical.byContradiction
  intro hno
  obtain ⟨p, hp, hx, hv⟩ := S.nz_it B n i hno
  obtain ⟨p1, p2, p3, rfl, h2, h3⟩ := pigeon hi hx (by omega)
  rw [S.val_round1 i p1 p2 p3 h3] at hv
  obtain ⟨a, cd⟩ := S.nz_parts hv
  obtain ⟨c, d⟩ := S.nz_parts cd
  have hl2 : 0 < p2.length := List.length_pos_iff.mpr h2
  have mem : ∀ k, ∀ x ∈ p1 ++ (repL p2 k ++ p3), x < n := fun k x hx' => hx x (by
    rcases List.mem_append.mp hx' with h | h
    · exact List.mem_append.mpr (.inl h)
    · rcases List.mem_append.mp h with h | h
      · exact List.mem_append.mpr (.inr (List.mem_append.mpr (.inl (repL_mem h))))
      · exact List.mem_append.mpr (.inr (List.mem_append.mpr (.inr h))))
  have len : ∀ k, (p1 ++ (repL p2 k ++ p3)).length = p1.length + (k * p2.length + p3.length) := fun k => by rw [List.length_append, List.length_append, repL_len]
  have nzk : ∀ k, S.le S.one (S.it M n b (p1.length + (k * p2.length + p3.length)) i) := fun k => by
    refine S.le_trans (B.one_le (S.val M b i (p1 ++ (repL p2 k ++ p3))) ?_) ?_
    · rw [S.val_round i p1 p2 p3 h3]
      exact B.nz _ _ a (B.nz _ _ (S.powr_nz B h1 c k) d)
    · rw [← len k]
      exact S.val_le i _ (mem k)
  have sums : ∀ k, ∃ N, N ≤ p1.length + (k * p2.length + p3.length) ∧ S.le (S.sm (fun _ => S.one) k) (S.dsum M n b N i) := fun k => by
    induction k with
    | zero => exact ⟨0, Nat.zero_le _, S.le_refl _⟩
    | succ k ih =>
      obtain ⟨N, hN, hle⟩ := ih
      refine ⟨p1.length + (k * p2.length + p3.length) + 1, ?_, ?_⟩
      · rw [Nat.succ_mul]
        omega
      · exact S.add_mono (S.le_trans hle (S.sm_mono _ hN)) (nzk k)
  exact hE (B.arch (y i) fun k => by
    obtain ⟨N, _, hle⟩ := sums k
    exact S.le_trans hle (S.dsum_le h N hi))
end SR
end D1
end
section
set_option Elab.async false
set_option linter.all false
set_option maxRecDepth 100000
set_option maxHeartbeats 4000000
/-! N3: the kinds: which sums are the greater part, which are counts -/
namespace D1
open PySem L2
abbrev lek (k : RK) : Wt k → Wt k → Prop := (WS k).le
theorem lek_of {k : RK} {a b : Wt k} (c : Wt k) (h : plus k a.1 c.1 = b.1) : lek k a b := ⟨c, Subtype.ext h⟩
theorem lek_val {k : RK} {a b : Wt k} (h : lek k a b) : ∃ c : Wt k, plus k a.1 c.1 = b.1 := by
  obtain ⟨c, rfl⟩ := h
  exact ⟨c, rfl⟩
/-- whether the kind has no numbers of sums -/
def isIdem : RK → Prop
  | .count => False
  | .pair _ _ => False
  | _ => True
/-- one is above all -/
def isTop : RK → Prop
  | .truth => True
  | .share => True
  | .narrow => True
  | .lot _ => True
  | _ => False
theorem idem_k : ∀ {k : RK}, isIdem k → ∀ a : Wt k, (WS k).add a a = a
  | .truth, _, ⟨a, h⟩ => Subtype.ext (by
    obtain ⟨x, rfl⟩ := good_truth h
    show PyData.bool (x || x) = _
    rw [Bool.or_self])
  | .least, _, ⟨a, h⟩ => Subtype.ext (by
    rcases good_b h with rfl | rfl | ⟨i, rfl⟩
    · rfl
    · rfl
    · show PyData.int (if 1 * i ≤ 1 * i then i else i) = _
      rw [ite_self])
  | .most, _, ⟨a, h⟩ => Subtype.ext (by
    rcases good_b h with rfl | rfl | ⟨i, rfl⟩
    · rfl
    · rfl
    · show PyData.int (if -1 * i ≤ -1 * i then i else i) = _
      rw [ite_self])
  | .narrow, _, ⟨a, h⟩ => Subtype.ext (by
    rcases good_cn h with rfl | ⟨i, rfl, _⟩
    · rfl
    · show PyData.int (if i ≤ i then i else i) = _
      rw [ite_self])
  | .share, _, ⟨a, h⟩ => Subtype.ext (by
    obtain ⟨p, q, rfl, h1, h2, h3⟩ := share_nat h
    show shareP (shN p q) (shN p q) = shN p q
    rw [shareP_nat, ite_self])
  | .lot n, _, ⟨a, h⟩ => Subtype.ext (by
    obtain ⟨i, rfl, hi⟩ := lot_nat h
    show lotP (.int i) (.int i) = .int i
    rw [or_nat, Nat.or_self])
  | .count, h, _ => h.elim
  | .pair _ _, h, _ => h.elim
theorem top_k : ∀ {k : RK}, isTop k → ∀ a : Wt k, lek k a (WS k).one
  | .truth, _, ⟨a, h⟩ => lek_of (WS .truth).one (by
    obtain ⟨x, rfl⟩ := good_truth h
    show PyData.bool (x || true) = _
    rw [Bool.or_true]
    rfl)
  | .narrow, _, ⟨a, h⟩ => lek_of (WS .narrow).one (by
    rcases good_cn h with rfl | ⟨i, rfl, _⟩ <;> rfl)
  | .share, _, ⟨a, h⟩ => lek_of (WS .share).one (by
    obtain ⟨p, q, rfl, h1, h2, h3⟩ := share_nat h
    show shareP (shN p q) (shN 1 1) = shN 1 1
    exact shareP_of h2 (by decide) h3 (by decide) (by omega))
  | .lot n, _, ⟨a, h⟩ => lek_of (WS (.lot n)).one (by
    show plus (.lot n) a (oneD (.lot n)) = oneD (.lot n)
    rw [plus_comm (.lot n) h (good_one _)]
    have := star_rule (.lot n) h
    have e : times (.lot n) a (starD (.lot n) a) = a := by
      show times (.lot n) a (oneD (.lot n)) = a
      rw [times_comm (.lot n) h (good_one _), one_times (.lot n) h]
    rw [e] at this
    exact this.symm)
  | .count, h, _ => h.elim
  | .least, h, _ => h.elim
  | .most, h, _ => h.elim
  | .pair _ _, h, _ => h.elim
theorem top_idem : ∀ {k : RK}, isTop k → isIdem k
  | .truth, _ => True.intro
  | .narrow, _ => True.intro
  | .share, _ => True.intro
  | .lot _, _ => True.intro
  | .count, h => h.elim
  | .least, h => h.elim
  | .most, h => h.elim
  | .pair _ _, h => h.elim
/-! ### least, most -/
theorem bP_E (s : Int) {a : PyData} (h : bGood a = true) : boundP s E a = E := by
  rcases good_b h with rfl | rfl | ⟨i, rfl⟩ <;> rfl
theorem bT_E {a : PyData} (h : bGood a = true) (hn : a ≠ N) : boundT a E = E := by
  rcases good_b h with rfl | rfl | ⟨i, rfl⟩
  · rfl
  · exact absurd rfl hn
  · rfl
/-- the semiring of whole numbers, the better one by a sign -/
def BK (k : RK) (s : Int) : Prop := (k = .least ∧ s = 1) ∨ (k = .most ∧ s = -1)
section
variable {k : RK} {s : Int}
theorem BK.sg (h : BK k s) : s = 1 ∨ s = -1 := by rcases h with ⟨_, rfl⟩ | ⟨_, rfl⟩ <;> first | exact .inl rfl | exact .inr rfl
theorem BK.good (h : BK k s) {a : PyData} (g : goodB k a = true) : bGood a = true := by rcases h with ⟨rfl, _⟩ | ⟨rfl, _⟩ <;> exact g
theorem BK.gd (h : BK k s) {a : PyData} (g : bGood a = true) : goodB k a = true := by rcases h with ⟨rfl, _⟩ | ⟨rfl, _⟩ <;> exact g
theorem BK.plus (h : BK k s) : D1.plus k = boundP s := by rcases h with ⟨rfl, rfl⟩ | ⟨rfl, rfl⟩ <;> rfl
theorem BK.times (h : BK k s) : D1.times k = boundT := by rcases h with ⟨rfl, rfl⟩ | ⟨rfl, rfl⟩ <;> rfl
theorem BK.star (h : BK k s) : D1.starD k = boundS s := by rcases h with ⟨rfl, rfl⟩ | ⟨rfl, rfl⟩ <;> rfl
theorem BK.zero (h : BK k s) : D1.zeroD k = N := by rcases h with ⟨rfl, rfl⟩ | ⟨rfl, rfl⟩ <;> rfl
theorem BK.one (h : BK k s) : D1.oneD k = .int 0 := by rcases h with ⟨rfl, rfl⟩ | ⟨rfl, rfl⟩ <;> rfl
theorem BK.idem (h : BK k s) : isIdem k := by rcases h with ⟨rfl, rfl⟩ | ⟨rfl, rfl⟩ <;> exact True.intro
theorem N_ne_E : (N : PyData) ≠ E := by
  intro h
  have := congrArg isE h
  exact absurd this (by decide +kernel)
def topE (k : RK) (h : goodB k E = true) : Wt k := ⟨E, h⟩
theorem BK.gE (h : BK k s) : goodB k E = true := h.gd (by decide +kernel)
theorem bP_le {i j : Int} (h : boundP s (.int i) (.int j) = .int j) (sg : s = 1 ∨ s = -1) : s * j ≤ s * i := by
  have h : PyData.int (if s * i ≤ s * j then i else j) = .int j := h
  have h := PyData.int.inj h
  by_cases c : s * i ≤ s * j
  · rw [if_pos c] at h
    rw [h]
    exact Int.le_refl _
  · omega
/-- an endless row of powers -/
theorem bT_pow (h : BK k s) {c : Wt k} {i : Int} (hc : c.1 = .int i) : ∀ m : Nat, ((WS k).powr c m).1 = .int ((m : Int) * i)
  | 0 => by
    show oneD k = _
    rw [h.one]
    simp
  | m + 1 => by
    show D1.times k c.1 ((WS k).powr c m).1 = _
    rw [h.times, bT_pow h hc m, hc]
    show PyData.int (i + (m : Int) * i) = _
    congr 1
    rw [show ((m + 1 : Nat) : Int) = (m : Int) + 1 by omega, Int.add_mul, Int.one_mul, Int.add_comm]
theorem best_k (h : BK k s) : (WS k).Best (topE k h.gE) where
  ge := fun a => lek_of (topE k h.gE) (by
    rw [h.plus]
    show boundP s a.1 E = E
    rcases good_b (h.good a.2) with e | e | ⟨i, e⟩ <;> rw [e] <;> rfl)
  add := fun a => Subtype.ext (by
    show D1.plus k E a.1 = E
    rw [h.plus, bP_E s (h.good a.2)])
  mul := fun a ha => Subtype.ext (by
    show D1.times k a.1 E = E
    rw [h.times]
    refine bT_E (h.good a.2) fun e => ha (Subtype.ext ?_)
    show a.1 = zeroD k
    rw [h.zero]
    exact e)
  anti := fun h1 h2 => (WS k).idem_anti (idem_k h.idem) h1 h2
  sel := fun a b => by
    have e : ((WS k).add a b).1 = a.1 ∨ ((WS k).add a b).1 = b.1 := by
      show D1.plus k a.1 b.1 = a.1 ∨ D1.plus k a.1 b.1 = b.1
      rw [h.plus]
      rcases good_b (h.good a.2) with e | e | ⟨i, e⟩ <;> rcases good_b (h.good b.2) with e' | e' | ⟨j, e'⟩ <;> rw [e, e']
      · exact .inl rfl
      · exact .inl rfl
      · exact .inl rfl
      · exact .inr rfl
      · exact .inl rfl
      · exact .inr rfl
      · exact .inr rfl
      · exact .inl rfl
      · show PyData.int (if s * i ≤ s * j then i else j) = _ ∨ PyData.int (if s * i ≤ s * j then i else j) = _
        by_cases c : s * i ≤ s * j
        · rw [if_pos c]
          exact .inl rfl
        · rw [if_neg c]
          exact .inr rfl
    exact e.imp Subtype.ext Subtype.ext
  arch := fun a c d z hn hc hk => by
    have val : ∀ m, (WS k).le ((WS k).mul a ((WS k).mul ((WS k).powr c m) d)) z → boundP s (boundT a.1 (boundT ((WS k).powr c m).1 d.1)) z.1 = z.1 := fun m hm => by
      have := (WS k).idem_le (idem_k h.idem) hm
      have := congrArg Subtype.val this
      have : D1.plus k (D1.times k a.1 (D1.times k ((WS k).powr c m).1 d.1)) z.1 = z.1 := this
      rw [h.plus, h.times] at this
      exact this
    have nN : ∀ {x y : Wt k}, (WS k).mul x y ≠ (WS k).zero → x.1 ≠ N ∧ y.1 ≠ N := fun {x y} hxy => by
      refine ⟨fun e => hxy (Subtype.ext ?_), fun e => hxy (Subtype.ext ?_)⟩
      · show D1.times k x.1 y.1 = zeroD k
        rw [h.times, h.zero, e]
        rcases good_b (h.good y.2) with e' | e' | ⟨j, e'⟩ <;> rw [e'] <;> rfl
      · show D1.times k x.1 y.1 = zeroD k
        rw [h.times, h.zero, e]
        rcases good_b (h.good x.2) with e' | e' | ⟨j, e'⟩ <;> rw [e'] <;> rfl
    obtain ⟨a1, cd⟩ := nN hn
    obtain ⟨c1, d1⟩ := nN (x := c) (y := d) fun e => hn (by rw [e, (WS k).mul_zero])
    have hz : z.1 = E → z = topE k h.gE := fun e => Subtype.ext e
    have Ez : boundP s E z.1 = z.1 → z = topE k h.gE := fun e => hz (by rw [← e, bP_E s (h.good z.2)])
    have p0 : ((WS k).powr c 0).1 = .int 0 := h.one
    have z0 := val 0 (hk 0)
    rw [p0] at z0
    rcases good_b (h.good a.2) with ea | ea | ⟨p, ea⟩
    · rw [ea] at z0
      refine Ez ?_
      rcases good_b (h.good d.2) with ed | ed | ⟨q, ed⟩
      · rw [ed] at z0; exact z0
      · exact absurd ed d1
      · rw [ed] at z0; exact z0
    · exact absurd ea a1
    · rcases good_b (h.good d.2) with ed | ed | ⟨q, ed⟩
      · rw [ea, ed] at z0
        exact Ez z0
      · exact absurd ed d1
      · rcases good_b (h.good c.2) with ec | ec | ⟨i, ec⟩
        · have z1 := val 1 (hk 1)
          have p1 : ((WS k).powr c 1).1 = E := by
            show D1.times k c.1 (oneD k) = E
            rw [h.times, h.one, ec]
            rfl
          rw [p1, ea, ed] at z1
          exact Ez z1
        · exact absurd ec c1
        · have si : s * i < 0 := by
            apply Int.not_le.mp
            intro hle
            refine hc (lek_of (WS k).one ?_)
            show D1.plus k c.1 (oneD k) = oneD k
            rw [h.plus, h.one, ec]
            show PyData.int (if s * i ≤ s * 0 then i else 0) = .int 0
            congr 1
            rcases h.sg with rfl | rfl
            · split <;> omega
            · split <;> omega
          have zm : ∀ m : Nat, boundP s (.int (p + ((m : Int) * i + q))) z.1 = z.1 := fun m => by
            have := val m (hk m)
            rw [bT_pow h ec m, ea, ed] at this
            exact this
          rcases good_b (h.good z.2) with ez | ez | ⟨j, ez⟩
          · exact hz ez
          · have := zm 0
            rw [ez] at this
            cases this
          · exfalso
            have key : ∀ m : Nat, s * j ≤ s * (p + ((m : Int) * i + q)) := fun m => by
              have := zm m
              rw [ez] at this
              exact bP_le this h.sg
            have k2 := key ((s * (p + q) - s * j).toNat + 1)
            have e1 : s * (p + ((((s * (p + q) - s * j).toNat + 1 : Nat) : Int) * i + q)) = s * (p + q) + (((s * (p + q) - s * j).toNat + 1 : Nat) : Int) * (s * i) := by
              rw [Int.mul_add, Int.mul_add, Int.mul_add, Int.mul_left_comm]
              omega
            rw [e1] at k2
            have e2 : (((s * (p + q) - s * j).toNat + 1 : Nat) : Int) * (s * i) ≤ (((s * (p + q) - s * j).toNat + 1 : Nat) : Int) * (-1) := Int.mul_le_mul_of_nonneg_left (by omega) (by omega)
            omega
end
/-! ### counts -/
theorem cnt_le {i j : Int} {a b : Wt .count} (ha : a.1 = .int i) (hb : b.1 = .int j) (h : lek .count a b) : i ≤ j := by
  obtain ⟨c, hc⟩ := lek_val h
  rw [ha, hb] at hc
  rcases good_cn c.2 with e | ⟨l, e, hl⟩
  · rw [e] at hc
    cases hc
  · rw [e] at hc
    have : PyData.int (i + l) = .int j := hc
    have := PyData.int.inj this
    omega
theorem cnt_E {a b : Wt .count} (ha : a.1 = E) (h : lek .count a b) : b.1 = E := by
  obtain ⟨c, hc⟩ := lek_val h
  rw [ha] at hc
  rw [← hc]
  rcases good_cn c.2 with e | ⟨l, e, hl⟩ <;> rw [e] <;> rfl
theorem cnt_ones : ∀ m : Nat, ((WS .count).sm (fun _ => (WS .count).one) m).1 = .int (m : Int)
  | 0 => rfl
  | m + 1 => by
    show countP ((WS .count).sm (fun _ => (WS .count).one) m).1 (.int 1) = _
    rw [cnt_ones m]
    rfl
theorem cnt_k : (WS .count).Cnt (topE .count rfl) where
  ge := fun a => lek_of (topE .count rfl) (by
    show countP a.1 E = E
    rcases good_cn a.2 with e | ⟨i, e, _⟩ <;> rw [e] <;> rfl)
  add := fun a => Subtype.ext (by
    show countP E a.1 = E
    rcases good_cn a.2 with e | ⟨i, e, _⟩ <;> rw [e] <;> rfl)
  mul := fun a ha => Subtype.ext (by
    show countT a.1 E = E
    rcases good_cn a.2 with e | ⟨i, e, _⟩
    · rw [e]
      rfl
    · rw [e]
      refine if_neg fun hb => ha (Subtype.ext ?_)
      have hb : (i == 0 || false) = true := hb
      rw [Bool.or_false, beq_iff_eq] at hb
      rw [e, hb]
      rfl)
  anti := fun {a b} h1 h2 => Subtype.ext (by
    rcases good_cn a.2 with e | ⟨i, e, _⟩
    · rw [e, cnt_E e h1]
    · rcases good_cn b.2 with e' | ⟨j, e', _⟩
      · rw [cnt_E e' h2, e']
      · have a1 := cnt_le e e' h1
        have a2 := cnt_le e' e h2
        rw [e, e']
        congr 1
        omega)
  nz := fun a b ha hb h => by
    have h : countT a.1 b.1 = .int 0 := congrArg Subtype.val h
    have na : a.1 ≠ .int 0 := fun e => ha (Subtype.ext e)
    have nb : b.1 ≠ .int 0 := fun e => hb (Subtype.ext e)
    rcases good_cn a.2 with e | ⟨i, e, _⟩ <;> rcases good_cn b.2 with e' | ⟨j, e', _⟩ <;> rw [e, e'] at h
    · cases h
    · have h : (if (i0 E || i0 (.int j)) = true then PyData.int 0 else E) = .int 0 := h
      have : (j == 0) = false := beq_eq_false_iff_ne.mpr fun z => nb (by rw [e', z])
      have t : (i0 E || i0 (.int j)) = false := by
        show (false || (j == 0)) = false
        rw [this]
        rfl
      rw [t] at h
      cases h
    · have h : (if (i0 (.int i) || i0 E) = true then PyData.int 0 else E) = .int 0 := h
      have : (i == 0) = false := beq_eq_false_iff_ne.mpr fun z => na (by rw [e, z])
      have t : (i0 (.int i) || i0 E) = false := by
        show ((i == 0) || false) = false
        rw [this]
        rfl
      rw [t] at h
      cases h
    · have h : PyData.int (i * j) = .int 0 := h
      have h := PyData.int.inj h
      rcases Int.mul_eq_zero.mp h with h | h
      · exact na (by rw [e, h])
      · exact nb (by rw [e', h])
  one_le := fun a ha => by
    rcases good_cn a.2 with e | ⟨i, e, hi⟩
    · exact lek_of (topE .count rfl) (by rw [e]; rfl)
    · have : i ≠ 0 := fun z => ha (Subtype.ext (by rw [e, z]; rfl))
      refine lek_of ⟨.int (i - 1), decide_eq_true (by omega)⟩ ?_
      rw [e]
      show PyData.int (1 + (i - 1)) = _
      congr 1
      omega
  arch := fun z hk => Subtype.ext (by
    rcases good_cn z.2 with e | ⟨j, e, hj⟩
    · exact e
    · have := cnt_le (cnt_ones (j.toNat + 1)) e (hk (j.toNat + 1))
      omega)
theorem cnt_10 : (WS .count).one ≠ (WS .count).zero := fun h => by
  have := congrArg Subtype.val h
  have := PyData.int.inj this
  omega
/-! ### stars are least -/
theorem le_pair {k l : RK} {a b : Wt (.pair k l)} {a1 a2 b1 b2 : PyData} (ha : a.1 = .tuple [a1, a2]) (hb : b.1 = .tuple [b1, b2]) (g1 : goodB k a1 = true) (g2 : goodB l a2 = true) (g3 : goodB k b1 = true) (g4 : goodB l b2 = true) : lek (.pair k l) a b ↔ lek k ⟨a1, g1⟩ ⟨b1, g3⟩ ∧ lek l ⟨a2, g2⟩ ⟨b2, g4⟩ := by
  constructor
  · intro h
    obtain ⟨c, hc⟩ := lek_val h
    obtain ⟨c1, c2, ec, h1, h2⟩ := good_pair c.2
    rw [ha, hb, ec] at hc
    have hc : PyData.tuple [plus k a1 c1, plus l a2 c2] = .tuple [b1, b2] := hc
    injection hc with hc
    injection hc with e1 hc
    injection hc with e2 hc
    exact ⟨lek_of ⟨c1, h1⟩ e1, lek_of ⟨c2, h2⟩ e2⟩
  · rintro ⟨h1, h2⟩
    obtain ⟨c1, e1⟩ := lek_val h1
    obtain ⟨c2, e2⟩ := lek_val h2
    refine lek_of ⟨.tuple [c1.1, c2.1], ?_⟩ ?_
    · show (goodB k c1.1 && goodB l c2.1) = true
      rw [c1.2, c2.2]
      rfl
    · rw [ha, hb]
      show PyData.tuple [plus k a1 c1.1, plus l a2 c2.1] = _
      rw [e1, e2]
theorem ind_one {k : RK} {a b x : Wt k} (h1 : starD k a.1 = oneD k) (h : lek k ((WS k).add b ((WS k).mul a x)) x) : lek k ((WS k).mul (WSt k a) b) x := by
  have e : WSt k a = (WS k).one := Subtype.ext h1
  rw [e, (WS k).one_mul]
  exact (WS k).le_trans ((WS k).le_add _ _) h
theorem ind_b {k : RK} {s : Int} (h : BK k s) {a b x : Wt k} (hx : lek k ((WS k).add b ((WS k).mul a x)) x) : lek k ((WS k).mul (WSt k a) b) x := by
  by_cases h1 : starD k a.1 = oneD k
  · exact ind_one h1 hx
  · have hv := congrArg Subtype.val ((WS k).idem_le (idem_k h.idem) hx)
    have hv : D1.plus k (D1.plus k b.1 (D1.times k a.1 x.1)) x.1 = x.1 := hv
    rw [h.plus, h.times] at hv
    rw [h.star, h.one] at h1
    have mulE : ∀ {y : Wt k}, y.1 ≠ N → (WSt k a).1 = E → ((WS k).mul (WSt k a) y).1 = E := fun {y} hy he => by
      show D1.times k (WSt k a).1 y.1 = E
      rw [he, h.times]
      rcases good_b (h.good y.2) with e | e | ⟨j, e⟩
      · rw [e]; rfl
      · exact absurd e hy
      · rw [e]; rfl
    have hE : (WSt k a).1 = E := by
      show D1.starD k a.1 = E
      rw [h.star]
      rcases good_b (h.good a.2) with e | e | ⟨i, e⟩
      · rw [e]; rfl
      · rw [e] at h1; exact absurd rfl h1
      · rw [e] at h1 ⊢
        show (if 0 ≤ s * i then PyData.int 0 else E) = E
        by_cases c : 0 ≤ s * i
        · exact absurd (if_pos c) h1
        · exact if_neg c
    by_cases hb : b.1 = N
    · have : (WS k).mul (WSt k a) b = (WS k).zero := by
        have : b = (WS k).zero := Subtype.ext (by rw [hb]; exact h.zero.symm)
        rw [this, (WS k).mul_zero]
      rw [this]
      exact (WS k).zero_le _
    · suffices hxE : x.1 = E by
        refine lek_of x ?_
        rw [mulE hb hE, hxE, h.plus]
        rfl
      rcases good_b (h.good x.2) with ex | ex | ⟨j, ex⟩
      · exact ex
      · exfalso
        rw [ex] at hv
        rcases good_b (h.good b.2) with eb | eb | ⟨p, eb⟩
        · rw [eb] at hv
          rcases good_b (h.good a.2) with ea | ea | ⟨i, ea⟩ <;> rw [ea] at hv <;> exact absurd hv.symm N_ne_E
        · exact hb eb
        · rw [eb] at hv
          rcases good_b (h.good a.2) with ea | ea | ⟨i, ea⟩ <;> rw [ea] at hv <;> cases hv
      · exfalso
        rw [ex] at hv
        rcases good_b (h.good b.2) with eb | eb | ⟨p, eb⟩
        · rw [eb] at hv
          rcases good_b (h.good a.2) with ea | ea | ⟨i, ea⟩ <;> rw [ea] at hv <;> cases hv
        · exact hb eb
        · rw [eb] at hv
          rcases good_b (h.good a.2) with ea | ea | ⟨i, ea⟩
          · rw [ea] at hv
            cases hv
          · rw [ea] at h1
            exact h1 rfl
          · rw [ea] at hv h1
            have hv : PyData.int (if s * (if s * p ≤ s * (i + j) then p else i + j) ≤ s * j then (if s * p ≤ s * (i + j) then p else i + j) else j) = .int j := hv
            have hv := PyData.int.inj hv
            have si : ¬ 0 ≤ s * i := fun c => h1 (if_pos c)
            rcases h.sg with rfl | rfl
            · split at hv <;> split at hv <;> omega
            · split at hv <;> split at hv <;> omega
theorem ind_c {a b x : Wt .count} (hx : lek .count ((WS .count).add b ((WS .count).mul a x)) x) : lek .count ((WS .count).mul (WSt .count a) b) x := by
  by_cases h1 : starD .count a.1 = oneD .count
  · exact ind_one h1 hx
  · by_cases hb : b = (WS .count).zero
    · rw [hb, (WS .count).mul_zero]
      exact (WS .count).zero_le _
    · have hb' : b.1 ≠ .int 0 := fun e => hb (Subtype.ext e)
      suffices hxE : x = topE .count rfl by
        rw [hxE]
        exact cnt_k.ge _
      apply Subtype.ext
      show x.1 = E
      rcases good_cn x.2 with ex | ⟨j, ex, hj⟩
      · exact ex
      · exfalso
        -- a isn't nought, so x would be more than itself
        rcases good_cn a.2 with ea | ⟨i, ea, hi⟩
        · have hm : (WS .count).mul a x ≠ (WS .count).zero → False := fun hne => by
            have e1 : ((WS .count).mul a x).1 = E := by
              show countT a.1 x.1 = E
              rw [ea, ex]
              refine if_neg fun hz => hne (Subtype.ext ?_)
              have hz : (false || (j == 0)) = true := hz
              rw [Bool.false_or, beq_iff_eq] at hz
              show countT a.1 x.1 = _
              rw [ea, ex, hz]
              rfl
            have := cnt_E e1 ((WS .count).le_trans ((WS .count).le_add' b _) hx)
            rw [ex] at this
            cases this
          have hj0 : j = 0 := by
            apply Classical.byContradiction
            intro hj0
            refine hm fun z => ?_
            have z := congrArg Subtype.val z
            have z : countT a.1 x.1 = .int 0 := z
            rw [ea, ex] at z
            have z : (if (i0 E || i0 (.int j)) = true then PyData.int 0 else E) = .int 0 := z
            have t : (i0 E || i0 (.int j)) = false := by
              show (false || (j == 0)) = false
              rw [show (j == 0) = false from beq_eq_false_iff_ne.mpr hj0]
              rfl
            rw [t] at z
            cases z
          have hbx := (WS .count).le_trans ((WS .count).le_add b ((WS .count).mul a x)) hx
          rcases good_cn b.2 with eb | ⟨p, eb, hp⟩
          · have := cnt_E eb hbx
            rw [ex] at this
            cases this
          · have := cnt_le eb ex hbx
            exact hb' (by rw [eb]; congr 1; omega)
        · have hi0 : i ≠ 0 := fun z => h1 (by rw [ea, z]; rfl)
          rcases good_cn b.2 with eb | ⟨p, eb, hp⟩
          · have := cnt_E eb ((WS .count).le_trans ((WS .count).le_add b ((WS .count).mul a x)) hx)
            rw [ex] at this
            cases this
          · have e1 : ((WS .count).add b ((WS .count).mul a x)).1 = .int (p + i * j) := by
              show countP b.1 (countT a.1 x.1) = _
              rw [eb, ea, ex]
              rfl
            have := cnt_le e1 ex hx
            have h2 : 1 * j ≤ i * j := Int.mul_le_mul_of_nonneg_right (by omega) hj
            exact hb' (by rw [eb]; congr 1; omega)
theorem ind_k : ∀ (k : RK) (a b x : Wt k), lek k ((WS k).add b ((WS k).mul a x)) x → lek k ((WS k).mul (WSt k a) b) x
  | .truth, a, b, x, h => ind_one rfl h
  | .share, a, b, x, h => ind_one rfl h
  | .narrow, a, b, x, h => ind_one rfl h
  | .lot _, a, b, x, h => ind_one rfl h
  | .count, a, b, x, h => ind_c h
  | .least, a, b, x, h => ind_b (s := 1) (.inl ⟨rfl, rfl⟩) h
  | .most, a, b, x, h => ind_b (s := -1) (.inr ⟨rfl, rfl⟩) h
  | .pair k l, a, b, x, h => by
    obtain ⟨a1, a2, ea, ga1, ga2⟩ := good_pair a.2
    obtain ⟨b1, b2, eb, gb1, gb2⟩ := good_pair b.2
    obtain ⟨x1, x2, ex, gx1, gx2⟩ := good_pair x.2
    have e1 : ((WS (.pair k l)).add b ((WS (.pair k l)).mul a x)).1 = .tuple [plus k b1 (times k a1 x1), plus l b2 (times l a2 x2)] := by
      show plus (.pair k l) b.1 (times (.pair k l) a.1 x.1) = _
      rw [ea, eb, ex]
      rfl
    have e2 : ((WS (.pair k l)).mul (WSt (.pair k l) a) b).1 = .tuple [times k (starD k a1) b1, times l (starD l a2) b2] := by
      show times (.pair k l) (starD (.pair k l) a.1) b.1 = _
      rw [ea, eb]
      rfl
    have h' := (le_pair e1 ex (good_plus k gb1 (good_times k ga1 gx1)) (good_plus l gb2 (good_times l ga2 gx2)) gx1 gx2).mp h
    exact (le_pair e2 ex (good_times k (good_star k ga1) gb1) (good_times l (good_star l ga2) gb2) gx1 gx2).mpr ⟨ind_k k ⟨a1, ga1⟩ ⟨b1, gb1⟩ ⟨x1, gx1⟩ h'.1, ind_k l ⟨a2, ga2⟩ ⟨b2, gb2⟩ ⟨x2, gx2⟩ h'.2⟩
end D1
end
section
set_option Elab.async false
set_option linter.all false
set_option maxRecDepth 100000
set_option maxHeartbeats 4000000
/-! N8: the best first tells the least solution -/
namespace D1
open PySem L2
namespace SR
variable {α : Type} (S : SR α)
/-- what is known of a row when the states in ws wait -/
structure Dij (A : Nat → Nat → α) (n s : Nat) (r : Nat → α) (ws : List Nat) : Prop where
  ge : ∀ i u, i < n → i ∉ ws → u ∈ ws → S.le (r u) (r i)
  rel : ∀ i j, i < n → i ∉ ws → j < n → S.le (S.mul (r i) (A i j)) (r j)
  dl : ∀ j, j < n → S.le (S.dl s j) (r j)
  min : ∀ z : Nat → α, (∀ j, j < n → S.le (S.add (S.dl s j) (S.sm (fun l => S.mul (A l j) (z l)) n)) (z j)) → ∀ j, j < n → S.le (r j) (z j)
/-- with the steps from x -/
def rlx (A : Nat → Nat → α) (r : Nat → α) (x j : Nat) : α := S.add (r j) (S.mul (r x) (A x j))
variable {A : Nat → Nat → α} {n s : Nat} {r : Nat → α} {ws : List Nat}
theorem dij_start : S.Dij A n s (S.dl s) (List.range n) where
  ge := fun i u hi hn _ => absurd (List.mem_range.mpr hi) hn
  rel := fun i j hi hn _ => absurd (List.mem_range.mpr hi) hn
  dl := fun j _ => S.le_refl _
  min := fun z hz j hj => S.le_trans (S.le_add _ _) (hz j hj)
theorem mul_le_left (top : ∀ i j, S.le (A i j) S.one) (a : α) (i j : Nat) : S.le (S.mul a (A i j)) a := by
  have := S.mul_le a (top i j)
  rw [S.mul_one] at this
  exact this
/-- it stays as it is where no weight betters -/
theorem rlx_same (idem : ∀ a, S.add a a = a) (top : ∀ i j, S.le (A i j) S.one) {x i : Nat} (h : S.le (r x) (r i)) : S.rlx A r x i = r i := by
  unfold rlx
  rw [S.add_comm]
  exact S.idem_le idem (S.le_trans (S.mul_le_left top _ _ _) h)
theorem dij_step (idem : ∀ a, S.add a a = a) (top : ∀ i j, S.le (A i j) S.one) (D : S.Dij A n s r ws) {x : Nat} (hx : x < n) (nd : ws.Nodup) (hxw : x ∈ ws) (best : ∀ u ∈ ws, S.le (r u) (r x)) : S.Dij A n s (S.rlx A r x) (ws.erase x) := by
  have old : ∀ i, i < n → i ∉ ws.erase x → i = x ∨ i ∉ ws := fun i hi hn => by
    by_cases e : i = x
    · exact .inl e
    · exact .inr fun h => hn ((List.mem_erase_of_ne e).mpr h)
  have same : ∀ i, i < n → i ∉ ws.erase x → S.rlx A r x i = r i := fun i hi hn => by
    rcases old i hi hn with rfl | h
    · exact S.rlx_same idem top (S.le_refl _)
    · exact S.rlx_same idem top (D.ge i x hi h hxw)
  have gx : ∀ i, i < n → i ∉ ws.erase x → S.le (r x) (r i) := fun i hi hn => by
    rcases old i hi hn with rfl | h
    · exact S.le_refl _
    · exact D.ge i x hi h hxw
  refine ⟨fun i u hi hn hu => ?_, fun i j hi hn hj => ?_, fun j hj => S.le_trans (D.dl j hj) (S.le_add _ _), fun z hz j hj => ?_⟩
  · rw [same i hi hn]
    have hu' := List.mem_of_mem_erase hu
    refine S.le_trans ?_ (gx i hi hn)
    exact S.idem_join idem (best u hu') (S.mul_le_left top _ _ _)
  · rw [same i hi hn]
    rcases old i hi hn with rfl | h
    · exact S.le_add' _ _
    · exact S.le_trans (D.rel i j hi h hj) (S.le_add _ _)
  · refine S.idem_join idem (D.min z hz j hj) (S.le_trans (S.mul_mono (D.min z hz x hx) (S.le_refl _)) ?_)
    refine S.le_trans ?_ (hz j hj)
    refine S.le_trans ?_ (S.le_add' _ _)
    have := S.le_sm (f := fun l => S.mul (A l j) (z l)) hx
    rw [S.mul_comm]
    exact this
theorem dij_end (idem : ∀ a, S.add a a = a) (D : S.Dij A n s r []) : S.Least (fun j l => A l j) n (S.dl s) r := by
  have hpre : ∀ j, j < n → S.le (S.add (S.dl s j) (S.sm (fun l => S.mul (A l j) (r l)) n)) (r j) := fun j hj =>
    S.idem_join idem (D.dl j hj) (S.idem_sm idem fun l hl => by
      rw [S.mul_comm]
      exact D.rel l j hl (by simp) hj)
  refine ⟨fun j hj => S.idem_anti idem ?_ (hpre j hj), D.min⟩
  refine D.min (fun j => S.add (S.dl s j) (S.sm (fun l => S.mul (A l j) (r l)) n)) (fun j hj => S.add_mono (S.le_refl _) (S.sm_le fun l hl => S.mul_le _ (hpre l hl))) j hj
end SR
/-! ### the ordered kinds -/
def isOrd : RK → Prop
  | .truth => True
  | .least => True
  | .most => True
  | .narrow => True
  | .share => True
  | _ => False
theorem ord_idem : ∀ {k : RK}, isOrd k → isIdem k
  | .truth, _ => True.intro
  | .least, _ => True.intro
  | .most, _ => True.intro
  | .narrow, _ => True.intro
  | .share, _ => True.intro
  | .count, h => h.elim
  | .lot _, h => h.elim
  | .pair _ _, h => h.elim
theorem ord_sel : ∀ {k : RK}, isOrd k → ∀ a b : Wt k, (WS k).add a b = a ∨ (WS k).add a b = b
  | .truth, _, ⟨a, h⟩, ⟨b, h'⟩ => by
    obtain ⟨x, rfl⟩ := good_truth h
    obtain ⟨y, rfl⟩ := good_truth h'
    cases x
    · exact .inr (Subtype.ext rfl)
    · exact .inl (Subtype.ext rfl)
  | .least, _, a, b => (best_k (k := .least) (s := 1) (.inl ⟨rfl, rfl⟩)).sel a b
  | .most, _, a, b => (best_k (k := .most) (s := -1) (.inr ⟨rfl, rfl⟩)).sel a b
  | .narrow, _, ⟨a, h⟩, ⟨b, h'⟩ => by
    rcases good_cn h with rfl | ⟨i, rfl, _⟩ <;> rcases good_cn h' with rfl | ⟨j, rfl, _⟩
    · exact .inl (Subtype.ext rfl)
    · exact .inl (Subtype.ext rfl)
    · exact .inr (Subtype.ext rfl)
    · by_cases c : j ≤ i
      · refine .inl (Subtype.ext ?_)
        show PyData.int (if j ≤ i then i else j) = .int i
        rw [if_pos c]
      · refine .inr (Subtype.ext ?_)
        show PyData.int (if j ≤ i then i else j) = .int j
        rw [if_neg c]
  | .share, _, ⟨a, h⟩, ⟨b, h'⟩ => by
    obtain ⟨p, q, rfl, _⟩ := share_nat h
    obtain ⟨r, t, rfl, _⟩ := share_nat h'
    have e : ((WS .share).add ⟨shN p q, h⟩ ⟨shN r t, h'⟩).1 = shareP (shN p q) (shN r t) := rfl
    rw [shareP_nat] at e
    split at e
    · exact .inl (Subtype.ext e)
    · exact .inr (Subtype.ext e)
  | .count, h, _, _ => h.elim
  | .lot _, h, _, _ => h.elim
  | .pair _ _, h, _, _ => h.elim
/-- a ≤ b, as the program asks -/
theorem ord_le {k : RK} (h : isOrd k) {a b : Wt k} : lek k a b ↔ (WS k).add b a = b := by
  constructor
  · intro hl
    rw [(WS k).add_comm]
    exact (WS k).idem_le (idem_k (ord_idem h)) hl
  · intro e
    rw [← e]
    exact (WS k).le_add' _ _
theorem ord_total {k : RK} (h : isOrd k) {a b : Wt k} (hn : (WS k).add b a ≠ b) : lek k b a := by
  rcases ord_sel h b a with e | e
  · exact absurd e hn
  · rw [← e]
    exact (WS k).le_add _ _
end D1
end
section
set_option Elab.async false
set_option linter.all false
set_option maxRecDepth 100000
set_option maxHeartbeats 4000000
/-! LR0: small steps -/
namespace D1
open PySem L2 Evl RZ ClX PySem.VX
theorem evp_use {te : TE} {σ : L2.St} {H : Hp} {M : V → Hp → Prop} {Q : VK} (h : EvP te σ H M) (k : ∀ x H', M x H' → Q x H') : te σ H Q := h Q k
theorem then_use {ta : TE} {kk : V → Hp → VK → Prop} {σ : L2.St} {H : Hp} {M : V → Hp → Prop} {Q : VK} (h : EvP ta σ H M) (k : ∀ x H', M x H' → kk x H' Q) : tThen ta kk σ H Q := h _ k
theorem for_r1 {n : Nat} {ta : TA} {i : Nat} {tb tz : TS} {D : Ends} {σ : L2.St} {H : Hp} (ha : ∀ Q' : List V → Hp → Prop, Q' [.int (n : Int)] H → ta σ H Q') (hn : n ≤ 1000000) (Pv : Nat → L2.St → Hp → Prop) (h0 : Pv 0 σ H)
    (hs : ∀ (t : Nat) (σ' : L2.St) (G : Hp), t < n → Pv t σ' G → tb { { D with nx := tz D } with nx := Pv (t + 1), ct := Pv (t + 1), bk := tz D } (σ'.set i (some (.int (0 + (t : Int))))) G) (hd : ∀ σ' G, Pv n σ' G → tz D σ' G) : tSeq (tFor (iRng1 ta) (gName i) tb) tz D σ H :=
  ha _ ⟨(n : Int), rfl, by omega, by omega, for_it (n := n) (walk_range (lo := 0) (n := n)) Pv h0 (fun _ _ _ _ _ => True.intro) (by
    rintro t x σ' _ G ht h ⟨rfl, rfl⟩
    exact hs t σ' _ ht h) hd⟩
/-- a web as it lies, its steps in a tuple or in a list -/
def WebQ (q : Bool) (H : Hp) (v : V) (n : Nat) (ss : List Step) : Prop := ∃ a p us, v = .ref a ∧ H a = some (.tup [.int (n : Nat), .ref p]) ∧ H p = some (objQ q us) ∧ DtAll H us (ss.map stepD)
theorem WebQ.ex {q : Bool} {H H' : Hp} {v : V} {n : Nat} {ss : List Step} (h : WebQ q H v n ss) (e : Ex H H') : WebQ q H' v n ss := by
  obtain ⟨a, p, us, h1, h2, h3, h4⟩ := h
  exact ⟨a, p, us, h1, e _ _ h2, e _ _ h3, h4.ex e⟩
theorem WebQ.of {H : Hp} {v : V} {n : Nat} {ss : List Step} (h : DtAt H v (webD n ss)) : WebQ false H v n ss := by
  obtain ⟨a, p, us, h1, h2, h3, h4, _⟩ := web_at h
  exact ⟨a, p, us, h1, h2, h3, h4⟩
theorem WebQ.len {q : Bool} {H : Hp} {us : List V} {ss : List Step} (h : DtAll H us (ss.map stepD)) : us.length = ss.length := by
  rw [h.len, List.length_map]
theorem RowAt.lst {H : Hp} {v : V} {f : Nat → PyData} {n : Nat} (h : RowAt H v (vec f n)) : ∃ p us, v = .ref p ∧ H p = some (.lst us) ∧ us.length = n ∧ ∀ (i : Nat) (x : V), us[i]? = some x → DtAt H x (f i) := by
  obtain ⟨p, us, h1, h2, h3⟩ := h
  have hl := h3.len
  rw [vec_len] at hl
  refine ⟨p, us, h1, h2, hl, fun i x hx => ?_⟩
  obtain ⟨d, hd, h'⟩ := h3.get hx
  have hi := (List.getElem?_eq_some_iff.mp hx).1
  rw [vec_get (by omega)] at hd
  exact (Option.some.inj hd) ▸ h'
abbrev natsV (hs : List Nat) : List V := hs.map fun t : Nat => V.int (t : Int)
theorem rg_nats (n : Nat) : rgV 0 (n : Int) = natsV (List.range n) := by
  rw [rg_v, List.map_map]
  rfl
theorem nats_get {n i : Nat} {x : V} (h : (natsV (List.range n))[i]? = some x) : x = .int (i : Int) := by
  rw [List.getElem?_map] at h
  obtain ⟨t, ht, rfl⟩ := Option.map_eq_some_iff.mp h
  have hi := (List.getElem?_eq_some_iff.mp ht).1
  rw [List.length_range] at hi
  rw [List.getElem?_range hi] at ht
  rw [Option.some.inj ht]
theorem nats_len (n : Nat) : (natsV (List.range n)).length = n := by rw [List.length_map, List.length_range]
end D1
end
section
set_option Elab.async false
set_option linter.all false
set_option maxRecDepth 100000
set_option maxHeartbeats 4000000
/-! LF: what repr shows: data with great numbers, texts, dicts of numbers -/
namespace D1
open PySem L2 Evl RZ ClX PySem.VX
structure ShB (d : PyData) (k n : Nat) : Prop where
  fs : d.showable = true
  fd : d.depth ≤ k
  fl : d.leavesShort 60 = true
  fw : d.weight ≤ n
structure ShBA (ds : List PyData) (k n : Nat) : Prop where
  fs : PyData.showableAll ds = true
  fd : PyData.depthAll ds ≤ k
  fl : PyData.leavesShortAll 60 ds = true
  fw : PyData.weightAll ds ≤ n
theorem ShBA.nil {k n : Nat} : ShBA [] k n := ⟨rfl, by simp [PyData.depthAll], rfl, by simp [PyData.weightAll]⟩
theorem ShBA.cons {d : PyData} {ds : List PyData} {k n m p : Nat} (h : ShB d k n) (r : ShBA ds k m) (hp : n + 1 + m ≤ p) : ShBA (d :: ds) k p := by
  refine ⟨?_, ?_, ?_, ?_⟩
  · simp only [PyData.showableAll, h.fs, r.fs, Bool.and_self]
  · simp only [PyData.depthAll]
    exact Nat.max_le.mpr ⟨h.fd, r.fd⟩
  · simp only [PyData.leavesShortAll, h.fl, r.fl, Bool.and_self]
  · simp only [PyData.weightAll]
    have a := h.fw
    have b := r.fw
    omega
theorem ShBA.all {k n m : Nat} : ∀ {ds : List PyData}, (∀ d ∈ ds, ShB d k n) → ds.length * (n + 1) ≤ m → ShBA ds k m
  | [], _, _ => .nil
  | d :: r, h, hm => by
    rw [List.length_cons, Nat.succ_mul] at hm
    exact ShBA.cons (h d List.mem_cons_self) (ShBA.all (n := n) (m := r.length * (n + 1)) (fun y hy => h y (List.mem_cons_of_mem _ hy)) (Nat.le_refl _)) (by omega)
theorem ShB.list {ds : List PyData} {k n : Nat} (h : ShBA ds k n) : ShB (.list ds) (k + 1) n := ⟨h.fs, Nat.succ_le_succ h.fd, h.fl, h.fw⟩
theorem ShB.tuple {ds : List PyData} {k n : Nat} (h : ShBA ds k n) : ShB (.tuple ds) (k + 1) n := ⟨h.fs, Nat.succ_le_succ h.fd, h.fl, h.fw⟩
theorem ShB.none {k n : Nat} : ShB .none k n := ⟨rfl, by simp [PyData.depth], rfl, by simp [PyData.weight]⟩
theorem ShB.bool {b : Bool} {k n : Nat} : ShB (.bool b) k n := ⟨rfl, by simp [PyData.depth], rfl, by simp [PyData.weight]⟩
theorem ShB.int {i : Int} {k : Nat} (h : i.natAbs < 2 ^ 145) : ShB (.int i) k 150 := by
  have h1 : i.natAbs.log2 < 145 := by
    rcases Nat.eq_zero_or_pos i.natAbs with z | z
    · rw [z]
      decide
    · exact (Nat.log2_lt (by omega)).mpr h
  refine ⟨?_, by simp [PyData.depth], ?_, ?_⟩
  · show decide (i.natAbs.log2 < 1920) = true
    exact decide_eq_true (by omega)
  · show decide ((PyData.shown (.int i)).length ≤ 60) = true
    refine decide_eq_true ?_
    have := int_text_length_le10 (a := i) (k := 50) (by decide) (Nat.lt_trans h (by decide))
    show (Str.ofString (toString i)).length ≤ 60
    rw [ofString_length]
    omega
  · show (if i == 0 then 0 else i.natAbs.log2 + 1) ≤ 150
    split <;> omega
theorem ShB.str {z : Str} {k n : Nat} (h : ∀ c ∈ z.cps.toList, c < 16 ^ 8) (hn : z.length ≤ n) : ShB (.str z) k n := by
  refine ⟨rfl, by simp [PyData.depth], ?_, ?_⟩
  · simp only [PyData.leavesShort, List.all_eq_true, decide_eq_true_eq]
    exact h
  · simp only [PyData.weight]
    exact hn
theorem ShB.up {d : PyData} {k k' n n' : Nat} (h : ShB d k n) (hk : k ≤ k') (hn : n ≤ n') : ShB d k' n' := ⟨h.fs, Nat.le_trans h.fd hk, h.fl, Nat.le_trans h.fw hn⟩
theorem ShB.fits {d : PyData} {k n : Nat} (h : ShB d k n) (hn : n ≤ 200000) : d.shown.length ≤ sizeLine := by
  have a := PyData.shown_le 60 (by decide) d h.fl
  have b := h.fw
  rw [sizeLine_eq]
  omega
/-- all that a ring's weight shows -/
theorem good_shb : ∀ (k : RK) {d : PyData}, goodB k d = true → Sz 140 d → ShB d (k.depth + 1) (400 * 2 ^ k.depth - 2)
  | .truth, d, h, _ => by
    obtain ⟨b, rfl⟩ := good_truth h
    exact .bool
  | .count, d, h, s => by
    rcases good_cn h with rfl | ⟨i, rfl, _⟩
    · exact .str (by decide +kernel) (by decide +kernel)
    · exact (ShB.int (k := 0) (Nat.lt_of_lt_of_le s (by decide))).up (by omega) (by show 150 ≤ 400 * 2 ^ 0 - 2; decide)
  | .narrow, d, h, s => by
    rcases good_cn h with rfl | ⟨i, rfl, _⟩
    · exact .str (by decide +kernel) (by decide +kernel)
    · exact (ShB.int (k := 0) (Nat.lt_of_lt_of_le s (by decide))).up (by omega) (by show 150 ≤ 400 * 2 ^ 0 - 2; decide)
  | .least, d, h, s => by
    rcases good_b h with rfl | rfl | ⟨i, rfl⟩
    · exact .str (by decide +kernel) (by decide +kernel)
    · exact .str (by decide +kernel) (by decide +kernel)
    · exact (ShB.int (k := 0) (Nat.lt_of_lt_of_le s (by decide))).up (by omega) (by show 150 ≤ 400 * 2 ^ 0 - 2; decide)
  | .most, d, h, s => by
    rcases good_b h with rfl | rfl | ⟨i, rfl⟩
    · exact .str (by decide +kernel) (by decide +kernel)
    · exact .str (by decide +kernel) (by decide +kernel)
    · exact (ShB.int (k := 0) (Nat.lt_of_lt_of_le s (by decide))).up (by omega) (by show 150 ≤ 400 * 2 ^ 0 - 2; decide)
  | .share, d, h, s => by
    obtain ⟨p, q, rfl, _⟩ := good_share h
    obtain ⟨s1, s2, _⟩ := s
    exact .tuple (.cons (.int (Nat.lt_of_lt_of_le s1 (by decide))) (.cons (.int (Nat.lt_of_lt_of_le s2 (by decide))) (ShBA.nil (n := 0)) (Nat.le_refl _)) (by show 150 + 1 + (150 + 1 + 0) ≤ 400 * 2 ^ 0 - 2; decide))
  | .lot n, d, h, s => by
    obtain ⟨i, rfl, _⟩ := good_lot h
    exact (ShB.int (k := 0) (Nat.lt_of_lt_of_le s (by decide))).up (by omega) (by show 150 ≤ 400 * 2 ^ 0 - 2; decide)
  | .pair a b, d, h, s => by
    obtain ⟨x, y, rfl, h1, h2⟩ := good_pair h
    obtain ⟨s1, s2, _⟩ := s
    have ha := good_shb a h1 s1
    have hb := good_shb b h2 s2
    have pa := Nat.pow_le_pow_right (n := 2) (by decide) (Nat.le_max_left a.depth b.depth)
    have pb := Nat.pow_le_pow_right (n := 2) (by decide) (Nat.le_max_right a.depth b.depth)
    have p0 := Nat.two_pow_pos (max a.depth b.depth)
    refine .tuple (k := max a.depth b.depth + 1) (.cons (ha.up (Nat.succ_le_succ (Nat.le_max_left _ _)) (Nat.le_refl _)) (.cons (hb.up (Nat.succ_le_succ (Nat.le_max_right _ _)) (Nat.le_refl _)) (ShBA.nil (n := 0)) (Nat.le_refl _)) ?_)
    show 400 * 2 ^ a.depth - 2 + 1 + (400 * 2 ^ b.depth - 2 + 1 + 0) ≤ 400 * 2 ^ (max a.depth b.depth + 1) - 2
    have q1 := Nat.two_pow_pos a.depth
    have q2 := Nat.two_pow_pos b.depth
    rw [Nat.pow_succ]
    omega
theorem web_shb {k : RK} {n : Nat} {ss : List Step} (hd : k.depth < 3) (hok : WebOk k n ss) (hs : ∀ s ∈ ss, Sz 140 s.2.2) : ShB (webD n ss) 6 180000 := by
  have hp := Nat.pow_le_pow_right (n := 2) (by decide) (by omega : k.depth ≤ 2)
  have hstep : ∀ d ∈ ss.map stepD, ShB d 4 1910 := fun d hdm => by
    obtain ⟨s, hsm, rfl⟩ := List.mem_map.mp hdm
    obtain ⟨h1, h2, h3⟩ := hok.at_ s hsm
    have n12 := hok.n12
    have hb : ∀ i : Nat, i < n → ((i : Nat) : Int).natAbs < 2 ^ 145 := fun i hi => by
      rw [Int.natAbs_natCast]
      exact Nat.lt_of_lt_of_le (by omega : i < 12) (by decide)
    exact .tuple (k := 3) (.cons (.int (hb _ h1)) (.cons (.int (hb _ h2)) (.cons ((good_shb k h3 (hs s hsm)).up (n' := 1598) (by omega) (by omega)) (ShBA.nil (n := 0)) (Nat.le_refl _)) (Nat.le_refl _)) (by omega))
  have n12 := hok.n12
  have hl := hok.len
  exact .tuple (k := 5) (.cons (.int (by rw [Int.natAbs_natCast]; exact Nat.lt_of_lt_of_le (by omega : n < 13) (by decide))) (.cons (.tuple (k := 4) (ShBA.all (m := 80 * 1911) hstep (by rw [List.length_map]; exact Nat.mul_le_mul_right _ hl))) (ShBA.nil (n := 0)) (Nat.le_refl _)) (by omega))
/-- repr of data, of a text, of a dict of numbers -/
def dictD (kvs : List (Int × Bool)) : PyData := .dict (kvs.map fun p => (.int p.1, .bool p.2))
def dictK (kvs : List (Int × Bool)) : List (Key × V) := kvs.map fun p => (.inl p.1, .bl p.2)
def rReprB (K : PySem.W.Frag) : List V → Hp → VK → Prop := fun xs H Q =>
  (∃ (a : Addr) (d : PyData), xs = [.ref a] ∧ Dp K H (.ref a) d ∧ d.showable = true ∧ d.hasDict = false ∧ d.depth ≤ 60 ∧ d.shown.length ≤ sizeLine ∧ Q (.str d.shown) H) ∨
  (∃ z : Str, xs = [.str z] ∧ (PyData.shown (.str z)).length ≤ sizeLine ∧ Q (.str (PyData.shown (.str z))) H) ∨
  (∃ (a : Addr) (kvs : List (Int × Bool)), xs = [.ref a] ∧ H a = some (.dK (dictK kvs)) ∧ (dictD kvs).showable = true ∧ (dictD kvs).depth ≤ 60 ∧ (dictD kvs).shown.length ≤ sizeLine ∧ Q (.str (dictD kvs).shown) H) ∨
  ((xs = [.non] ∧ Q (.str "None") H) ∨ (∃ b : Bool, xs = [.bl b] ∧ Q (.str (if b then "True" else "False")) H) ∨ ∃ i : Int, xs = [.int i] ∧ i.natAbs.log2 < 1920 ∧ Q (.str (toString i)) H)
theorem reads_dict {h : Heap} {P : Program} {w : World} : ∀ {kvs : List (Int × Bool)} {vs : List (Key × Value)} {es : List DictEntry}, KV (dictK kvs) vs → Pairs (mixKind P w) es vs → ReadsAll h (es.map (·.key)) ((kvs.map fun p => (PyData.int p.1, PyData.bool p.2)).map (·.1)) [] ∧ ReadsAll h (es.map (·.val)) ((kvs.map fun p => (PyData.int p.1, PyData.bool p.2)).map (·.2)) []
  | [], _, _, .nil, .nil => ⟨.nil, .nil⟩
  | (i, b) :: kvs, _, _, .cons ⟨h1, h2⟩ r, .cons hk hv r' => by
    obtain ⟨a1, a2⟩ := reads_dict r r'
    rename_i kv vs e es
    obtain ⟨k0, v0⟩ := kv
    obtain rfl : Sum.inl i = k0 := h1
    have hk : keyIs (.inl i) e.key = true := hk
    rcases keyIs_shape hk with ⟨j, t, e1, e2⟩ | ⟨x, t, e1, _⟩
    · cases e1
      have hv : e.val = v0 := hv
      have h2 : v0 = Value.bool b := h2
      refine ⟨?_, ?_⟩
      · show ReadsAll h (e.key :: es.map (·.key)) (.int i :: _) ([] ++ [])
        rw [e2]
        exact .cons (.int i t) a1
      · show ReadsAll h (e.val :: es.map (·.val)) (.bool b :: _) ([] ++ [])
        rw [hv, h2]
        exact .cons (.bool b) a2
    · cases e1
theorem call_reprB {X : Cx} (hG : X.A.guards = some []) (hu : X.A.units + 64 < cLine) : CallR X (.builtin "repr") (rReprB X.K) := by
  intro pins s σ H xs us Q I r h
  rcases h with h | ⟨z, rfl, hz, q⟩ | ⟨a, kvs, rfl, ha, hs, hd, hz, q⟩ | ⟨rfl, q⟩ | ⟨b, rfl, q⟩ | ⟨i, rfl, hz, q⟩
  · exact call_reprD hG hu pins s σ H xs us Q I r h
  · obtain ⟨u, rfl, t, rfl⟩ := vals1 r
    exact call_repr_gives (typeIs_str s z t) F.slot_str_repr F.entry_str_repr (F.args_str_repr_1 _) (gives_str_repr z t) (hx := hz) ⟨.str _, H, I.tok _, ⟨_, rfl⟩, q⟩
  · obtain ⟨u, rfl, ru⟩ := vals1 r
    obtain rfl : u = Value.ref a := ru
    obtain ⟨_, hsy, vs, kv, o, es, ep, ho, hex, hdat, _, hp, _⟩ := dk_of I.hok ha
    obtain ⟨r1, r2⟩ := reads_dict (h := s.heap) kv hp
    have rd : Reads s.heap (.ref a) (dictD kvs) (a :: [] ++ []) := Reads.dict ho hex.1 hdat r1 r2
    refine repr_of_reads' rd hs (fun _ hm => ?_) hG (by omega) (fun _ _ e => e) (fun h' u tk k => ?_) hz
    · have : sysModules = a := by simpa using hm
      rw [this] at hsy
      simp at hsy
    · exact ⟨.str _, H, I.kept (t' := tk) k, ⟨_, rfl⟩, q⟩
  · obtain ⟨u, rfl, ru⟩ := vals1 r
    obtain rfl : u = Value.none := ru
    exact PySem.P.repr_of_none ⟨.str _, H, I.tok _, ⟨_, rfl⟩, q⟩
  · obtain ⟨u, rfl, ru⟩ := vals1 r
    obtain rfl : u = Value.bool b := ru
    exact PySem.P.repr_of_bool ⟨.str _, H, I.tok _, ⟨_, rfl⟩, q⟩
  · obtain ⟨u, rfl, t, rfl⟩ := vals1 r
    exact PySem.P.repr_of_int hz ⟨.str _, H, I.tok _, ⟨_, rfl⟩, q⟩
/-- str of data -/
def rStrD (K : PySem.W.Frag) : List V → Hp → VK → Prop := fun xs H Q => ∃ (a : Addr) (d : PyData), xs = [.ref a] ∧ Dp K H (.ref a) d ∧ d.showable = true ∧ d.hasDict = false ∧ d.depth ≤ 60 ∧ d.shown.length ≤ sizeLine ∧ Q (.str d.shown) H
theorem call_strD {X : Cx} (hG : X.A.guards = some []) (hu : X.A.units + 64 < cLine) : CallR X (.type "str") (rStrD X.K) := by
  intro pins s σ H xs us Q I r h
  obtain ⟨a, d, rfl, hd, hs, hnd, hdp, hz, q⟩ := h
  obtain ⟨u, rfl, ru⟩ := vals1 r
  obtain rfl : u = Value.ref a := ru
  obtain ⟨as, rd⟩ := Dp.reads I d _ _ hd (show RelV (.ref a) (.ref a) from rfl)
  refine str_of_reads rd hs (fun z => absurd z (by rw [hnd]; decide)) hG (by omega) (fun _ _ e => e) (fun h' u tk k => ?_) hz
  exact ⟨.str d.shown, H, I.kept (t' := tk) k, ⟨_, rfl⟩, q⟩
/-- a dict made of pairs is one of fewer pairs -/
theorem put_dict (i : Int) (b : Bool) : ∀ kvs : List (Int × Bool), ∃ kvs', putK (dictK kvs) (.inl i) (.bl b) = dictK kvs' ∧ kvs'.length ≤ kvs.length + 1 ∧ ∀ p ∈ kvs', p ∈ kvs ∨ p.1 = i := fun kvs => by
  unfold putK
  split
  · refine ⟨kvs.map fun p => if (Sum.inl p.1 : Key) = Sum.inl i then (p.1, b) else p, ?_, by rw [List.length_map]; omega, fun p hp => ?_⟩
    · unfold dictK
      rw [List.map_map, List.map_map]
      refine List.map_congr_left fun p _ => ?_
      show (if (Sum.inl p.1 : Key) = Sum.inl i then ((Sum.inl p.1 : Key), V.bl b) else (Sum.inl p.1, V.bl p.2)) = _
      show _ = ((Sum.inl (if (Sum.inl p.1 : Key) = Sum.inl i then (p.1, b) else p).1 : Key), V.bl (if (Sum.inl p.1 : Key) = Sum.inl i then (p.1, b) else p).2)
      split <;> rfl
    · obtain ⟨p0, h0, rfl⟩ := List.mem_map.mp hp
      split
      · rename_i h
        right
        exact Sum.inl.inj h
      · left
        exact h0
  · refine ⟨kvs ++ [(i, b)], ?_, by rw [List.length_append]; exact Nat.le_refl _, fun p hp => ?_⟩
    · unfold dictK
      rw [List.map_append]
      rfl
    · rcases List.mem_append.mp hp with h | h
      · exact .inl h
      · rw [List.mem_singleton] at h
        rw [h]
        exact .inr rfl
theorem merge_dict (B : Nat) : ∀ (more kvs : List (Int × Bool)), (∀ p ∈ kvs, p.1.natAbs < B) → (∀ p ∈ more, p.1.natAbs < B) → ∃ kvs', mergeK (dictK kvs) (dictK more) = dictK kvs' ∧ kvs'.length ≤ kvs.length + more.length ∧ ∀ p ∈ kvs', p.1.natAbs < B
  | [], kvs, h, _ => ⟨kvs, rfl, Nat.le_refl _, h⟩
  | (i, b) :: more, kvs, h, hm => by
    obtain ⟨k1, e1, l1, m1⟩ := put_dict i b kvs
    have hi := hm (i, b) List.mem_cons_self
    obtain ⟨k2, e2, l2, m2⟩ := merge_dict B more k1 (fun p hp => by
      rcases m1 p hp with x | x
      · exact h p x
      · rw [x]
        exact hi) fun p hp => hm p (List.mem_cons_of_mem _ hp)
    refine ⟨k2, ?_, by rw [List.length_cons]; omega, m2⟩
    show mergeK (putK (dictK kvs) (.inl i) (.bl b)) (dictK more) = _
    rw [e1, e2]
end D1
end
section
set_option Elab.async false
set_option linter.all false
set_option maxRecDepth 100000
set_option maxHeartbeats 4000000
/-! LS20: what the law compares -/
namespace D1
open PySem L2 Evl RZ ClX PySem.VX
mutual
/-- data as it lies, lists too -/
inductive DgAt (H : Hp) : V → PyData → Prop
  | non : DgAt H .non .none
  | bl (b : Bool) : DgAt H (.bl b) (.bool b)
  | int (i : Int) : DgAt H (.int i) (.int i)
  | str (z : Str) : DgAt H (.str z) (.str z)
  | tup {a : Addr} {us : List V} {ds : List PyData} (h : H a = some (.tup us)) (r : DgAll H us ds) : DgAt H (.ref a) (.tuple ds)
  | lst {a : Addr} {us : List V} {ds : List PyData} (h : H a = some (.lst us)) (r : DgAll H us ds) : DgAt H (.ref a) (.list ds)
inductive DgAll (H : Hp) : List V → List PyData → Prop
  | nil : DgAll H [] []
  | cons {v : V} {us : List V} {d : PyData} {ds : List PyData} (h : DgAt H v d) (r : DgAll H us ds) : DgAll H (v :: us) (d :: ds)
end
mutual
theorem DgAt.ex' {H H' : Hp} (k : Ex H H') : ∀ (d : PyData) (v : V), DgAt H v d → DgAt H' v d
  | .tuple ds, _, h => by
    cases h with
    | tup h r => exact .tup (k _ _ h) (DgAll.ex' k ds _ r)
  | .list ds, _, h => by
    cases h with
    | lst h r => exact .lst (k _ _ h) (DgAll.ex' k ds _ r)
  | .none, _, h => by
    cases h
    exact .non
  | .bool _, _, h => by
    cases h
    exact .bl _
  | .int _, _, h => by
    cases h
    exact .int _
  | .str _, _, h => by
    cases h
    exact .str _
  | .dict _, _, h => by cases h
theorem DgAll.ex' {H H' : Hp} (k : Ex H H') : ∀ (ds : List PyData) (us : List V), DgAll H us ds → DgAll H' us ds
  | [], _, h => by
    cases h
    exact .nil
  | d :: ds, _, h => by
    cases h with
    | cons h r => exact .cons (DgAt.ex' k d _ h) (DgAll.ex' k ds _ r)
end
theorem DgAt.ex {H H' : Hp} {v : V} {d : PyData} (h : DgAt H v d) (k : Ex H H') : DgAt H' v d := DgAt.ex' k d v h
mutual
theorem DtAt.dg' {H : Hp} : ∀ (d : PyData) (v : V), DtAt H v d → DgAt H v d
  | .tuple ds, _, h => by
    cases h with
    | tup h r => exact .tup h (DtAll.dg' ds _ r)
  | .none, _, h => by
    cases h
    exact .non
  | .bool _, _, h => by
    cases h
    exact .bl _
  | .int _, _, h => by
    cases h
    exact .int _
  | .str _, _, h => by
    cases h
    exact .str _
  | .list _, _, h => by cases h
  | .dict _, _, h => by cases h
theorem DtAll.dg' {H : Hp} : ∀ (ds : List PyData) (us : List V), DtAll H us ds → DgAll H us ds
  | [], _, h => by
    cases h
    exact .nil
  | d :: ds, _, h => by
    cases h with
    | cons h r => exact .cons (DtAt.dg' d _ h) (DtAll.dg' ds _ r)
end
theorem DtAt.dg {H : Hp} {v : V} {d : PyData} (h : DtAt H v d) : DgAt H v d := DtAt.dg' d v h
theorem DtAll.dg {H : Hp} {v : List V} {d : List PyData} (h : DtAll H v d) : DgAll H v d := DtAll.dg' d v h
theorem DgAll.len {H : Hp} : ∀ {us : List V} {ds : List PyData}, DgAll H us ds → us.length = ds.length
  | _, [], h => by
    cases h
    rfl
  | _, _ :: _, h => by
    cases h with
    | cons h r => rw [List.length_cons, List.length_cons, DgAll.len r]
theorem DgAll.get {H : Hp} : ∀ {us : List V} {ds : List PyData}, DgAll H us ds → ∀ {i : Nat} {v : V}, us[i]? = some v → ∃ d, ds[i]? = some d ∧ DgAt H v d
  | _, [], h, i, v, hv => by
    cases h
    simp at hv
  | _, d :: ds, h, i, v, hv => by
    cases h with
    | cons h r =>
      cases i with
      | zero =>
        simp at hv
        subst hv
        exact ⟨d, rfl, h⟩
      | succ i => exact DgAll.get r (i := i) (by simpa using hv)
theorem dgAll_of {H : Hp} : ∀ {us : List V} {ds : List PyData}, us.length = ds.length → (∀ (i : Nat) (u : V) (d : PyData), us[i]? = some u → ds[i]? = some d → DgAt H u d) → DgAll H us ds
  | [], [], _, _ => .nil
  | u :: us, d :: ds, h, k => .cons (k 0 u d rfl rfl) (dgAll_of (by simpa using h) fun i x y hx hy => k (i + 1) x y (by simpa using hx) (by simpa using hy))
  | [], _ :: _, h, _ => by cases h
  | _ :: _, [], h, _ => by cases h
/-- a row, a table -/
theorem RowAt.dg {H : Hp} {v : V} {ds : List PyData} (h : RowAt H v ds) : DgAt H v (.list ds) := by
  obtain ⟨p, us, rfl, h1, h2⟩ := h
  exact .lst h1 h2.dg
theorem TabAt.dg {N : Addr → Prop} {H : Hp} {D : Addr} {n : Nat} {f : Nat → Nat → PyData} (h : TabAt N H D n f) : DgAt H (.ref D) (.list (vec (fun i => .list (vec (f i) n)) n)) := by
  obtain ⟨xs, h1, h2, h3⟩ := h.lst
  refine .lst h1 (dgAll_of (by rw [h2, vec_len]) fun i u d hu hd => ?_)
  obtain ⟨hi, hr⟩ := h3 i u hu
  rw [vec_get hi] at hd
  exact (Option.some.inj hd) ▸ hr.dg
/-- at most so many lists and tuples in one another -/
def Nest : Nat → PyData → Prop
  | 0, .tuple _ => False
  | 0, .list _ => False
  | n + 1, .tuple ds => (∀ d ∈ ds, Nest n d) ∧ ds.length ≤ 1000
  | n + 1, .list ds => (∀ d ∈ ds, Nest n d) ∧ ds.length ≤ 1000
  | _, _ => True
theorem Nest.up : ∀ {n m : Nat} {d : PyData}, Nest n d → n ≤ m → Nest m d
  | 0, m, d, h, hm => by
    cases d with
    | tuple _ => exact h.elim
    | list _ => exact h.elim
    | _ => cases m <;> exact True.intro
  | n + 1, 0, d, h, hm => absurd hm (by omega)
  | n + 1, m + 1, d, h, hm => by
    cases d with
    | tuple ds => exact ⟨fun d hd => Nest.up (h.1 d hd) (by omega), h.2⟩
    | list ds => exact ⟨fun d hd => Nest.up (h.1 d hd) (by omega), h.2⟩
    | _ => exact True.intro
theorem nest_good : ∀ {k : RK} {d : PyData}, goodB k d = true → Nest (k.depth + 1) d
  | .truth, d, h => by
    obtain ⟨x, rfl⟩ := good_truth h
    exact True.intro
  | .count, d, h => by rcases good_cn h with rfl | ⟨i, rfl, _⟩ <;> exact True.intro
  | .narrow, d, h => by rcases good_cn h with rfl | ⟨i, rfl, _⟩ <;> exact True.intro
  | .least, d, h => by rcases good_b h with rfl | rfl | ⟨i, rfl⟩ <;> exact True.intro
  | .most, d, h => by rcases good_b h with rfl | rfl | ⟨i, rfl⟩ <;> exact True.intro
  | .share, d, h => by
    obtain ⟨p, q, rfl, _⟩ := share_nat h
    refine ⟨fun d hd => ?_, by show 2 ≤ 1000; decide⟩
    rcases List.mem_cons.mp hd with rfl | hd
    · exact True.intro
    · rcases List.mem_cons.mp hd with rfl | hd
      · exact True.intro
      · cases hd
  | .lot n, d, h => by
    obtain ⟨i, rfl, _⟩ := lot_nat h
    exact True.intro
  | .pair k l, d, h => by
    obtain ⟨x, y, rfl, h1, h2⟩ := good_pair h
    have a := nest_good h1
    have b := nest_good h2
    refine ⟨fun d hd => ?_, by show 2 ≤ 1000; decide⟩
    rcases List.mem_cons.mp hd with rfl | hd
    · exact a.up (Nat.succ_le_succ (Nat.le_max_left _ _))
    · rcases List.mem_cons.mp hd with rfl | hd
      · exact b.up (Nat.succ_le_succ (Nat.le_max_right _ _))
      · cases hd
section
variable {K : PySem.W.Frag} {σ : L2.St} {H : Hp} {te ta tb : TE}
/-- all([e for x, y in zip(s, t)]), two tuples or two lists -/
theorem ev_allQQ {a b : Addr} {q : Bool} {xs ys : List V} {j k : Nat} {vs : List Nat} (g : Nat → Bool) (h : Ev ta σ H (.ref a)) (h' : Ev tb σ H (.ref b)) (hx : H a = some (objQ q xs)) (hy : H b = some (objQ q ys)) (hl : xs.length = ys.length) (hz : xs.length ≤ 40000)
    (hw : ∀ x y, wipe (((wipe σ vs).set j (some x)).set k (some y)) vs = wipe σ vs)
    (he : ∀ (i : Nat) (x y : V) H1, Ex H H1 → xs[i]? = some x → ys[i]? = some y → Ev te (((wipe σ vs).set j (some x)).set k (some y)) H1 (.bl (g i))) :
    Ev (tCB (rAll K) (tCons (tLc (iZipA K (tCons ta (tCons tb tNil))) (gTup K 2 (gCons (gName j) (gCons (gName k) gNil))) tYes te vs) tNil)) σ H (.bl ((List.range xs.length).all g)) := by
  have main : EvL (tLc (iZipA K (tCons ta (tCons tb tNil))) (gTup K 2 (gCons (gName j) (gCons (gName k) gNil))) tYes te vs) σ H (given xs.length (fun _ => true) fun i => .bl (g i)) := fun H0 e Q k' => by
    refine h H0 e _ fun H1 e1 => h' H1 (e.trans e1) _ fun H2 e2 => ?_
    have e12 := e1.trans e2
    have ha := (e.trans e12) _ _ hx
    have hb := (e.trans e12) _ _ hy
    have turn : ∀ (Dl : Addr) (i : Nat) (x : V) (H5 H6 : Hp), i < xs.length → Cw H2 (fun _ => true) (fun i => V.bl (g i)) Dl i H5 → YPair (fun i => xs[i]?) (fun i => ys[i]?) i H5 x H6 → gTup K 2 (gCons (gName j) (gCons (gName k) gNil)) x (wipe σ vs) H6 fun σ2 H2' => wipe σ2 vs = wipe σ vs ∧ tYes σ2 H2' fun b' H3 =>
        if b' = true then te σ2 H3 fun y H4 => ∃ acc, H4 Dl = some (.lst acc) ∧ acc.length < sizeLine ∧ Cw H2 (fun _ => true) (fun i => V.bl (g i)) Dl (i + 1) (upd H4 Dl (.lst (acc ++ [y]))) else Cw H2 (fun _ => true) (fun i => V.bl (g i)) Dl (i + 1) H3 := fun Dl i x H5 H6 hi p y => by
      obtain ⟨Tp, c, d, rfl, hT, rfl, hc, hd⟩ := y
      have p2 : Cw H2 (fun _ => true) (fun i => V.bl (g i)) Dl i (upd H5 Tp (.tup [c, d])) := ⟨p.1, p.2.1.trans (Ex.new hT), by rw [upd_ne (ne_of_none p.2.2 hT)]; exact p.2.2⟩
      exact ⟨Tp, _, rfl, .inl (.inl upd_same), rfl, _, _, rfl, _, _, rfl, rfl, hw _ _, cw_turn (f := fun _ => true) p2 (by omega) (fun H4 _ Q' q => q H4 (Ex.refl H4)) (fun _ => he i c d H2 (e.trans e12) hc hd)⟩
    refine ⟨a, b, xs, ys, rfl, ?_⟩
    cases q with
    | true =>
      refine .inl ⟨sq_of ha, sq_of hb, fun Dl hD => ?_⟩
      exact lc_it (walk_zip (K := K) (a := a) (b := b) (xs := xs) (ys := ys) (n := xs.length) (by omega)) (Cw H2 (fun _ => true) (fun i => V.bl (g i)) Dl) ⟨hD, Ex.new hD, upd_same⟩ (fun i H' _ p => ⟨sq_of (p.2.1 _ _ ha), sq_of (p.2.1 _ _ hb)⟩) (fun i x H5 H6 hi p y => turn Dl i x H5 H6 hi p y) (fun H' p => k' Dl H' (fresh_back e12 p.1) (e12.trans p.2.1) p.2.2)
    | false =>
      refine .inr ⟨st_of ha, st_of hb, fun Dl hD => ?_⟩
      exact lc_it (walk_zipQ (K := K) (a := a) (b := b) (xs := xs) (ys := ys) (n := xs.length) (by omega)) (Cw H2 (fun _ => true) (fun i => V.bl (g i)) Dl) ⟨hD, Ex.new hD, upd_same⟩ (fun i H' _ p => ⟨st_of (p.2.1 _ _ ha), st_of (p.2.1 _ _ hb)⟩) (fun i x H5 H6 hi p y => turn Dl i x H5 H6 hi p y) (fun H' p => k' Dl H' (fresh_back e12 p.1) (e12.trans p.2.1) p.2.2)
  rw [given_map] at main
  have h2 := ev_all (K := K) main
  rw [all_range] at h2
  exact h2
end
def spLSame (N : Nat) : Sp := fun vs H Q _ => ∃ (x y : V) (d : PyData) (n : Nat), vs = [x, y] ∧ DgAt H x d ∧ DgAt H y d ∧ Nest n d ∧ n < N ∧ ∀ H', Ex H H' → Q (.bl true) H'
section
variable {P : Program} {w : World} {K : PySem.W.Frag} {mg : Str → Option Value} {base : Heap}
abbrev s_same : Stmt := top 102
theorem sc_same : FnScope ["_law_told_here", "_law_due", "_law_right", "_law_a", "_law_b"] ["_law_told_here", "_law_due"] (defScope s_same) := ⟨rfl, rfl, rfl, by decide +kernel, rfl, by decide +kernel, by decide +kernel⟩
theorem ok_same {f : Addr} {fd : FuncData} (F : FnP K "_law_same" s_same f fd) (g_same : mg "_law_same" = some (.ref f)) (z_isinstance : mg "isinstance" = none) (z_tuple : mg "tuple" = none) (z_list : mg "list" = none) (z_bool : mg "bool" = none) (z_int : mg "int" = none) (z_str : mg "str" = none) (z_len : mg "len" = none) (z_all : mg "all" = none) (z_zip : mg "zip" = none) : ∀ d : Nat, FnOk P w K mg base CX0 (d + 1) f fd ["_law_told_here", "_law_due"] (spLSame d) := by
  have F_same := F
  have b_same : Binds K fd ["_law_told_here", "_law_due"] [] := F_same.bindsN fun _ _ _ _ _ _ us hl => match us, hl with | [_, _], _ => rfl
  intro d
  induction d with
  | zero =>
    refine fn_never fun vs H Q E h => ?_
    obtain ⟨x, y, dd, n, rfl, hx, hy, hN, hn, q⟩ := h
    exact Nat.not_lt_zero _ hn
  | succ d ih =>
    have G_same := ih
    refine F.ok sc_same (fun vs H Q E h => ?_) (fun cdv A outer s H vs Q E hr h => ?_)
    · obtain ⟨x, y, dd, n, rfl, _⟩ := h
      rfl
    · obtain ⟨x, y, dd, n, rfl, hx, hy, hN, hn, q⟩ := h
      have hu := hu_of hr
      have hu64 := hr.units
      have hr_same := hr
      refine ⟨_, PSs.nox (pss_cons (ps_if (pt_val (pe_callB call_isiT (by rfl) z_isinstance PyProof.Rows.boot_isinstance (pa_cons (pv 1) (pa_cons (pe_tup (pa_cons (pe_bltn (v := .ty "list") rfl z_list (by decide +kernel) rfl) (pa_cons (pe_bltn (v := .ty "tuple") rfl z_tuple (by decide +kernel) rfl) pa_nil))) pa_nil)))) (pss_cons (ps_set (i := 2) sc_same.nd rfl (Or.inl rfl) (pe_ifExp (pt_val (pe_callB call_isi (by rfl) z_isinstance PyProof.Rows.boot_isinstance (pa_cons (pv 1) (pa_cons (pe_bltn (v := .ty "tuple") rfl z_tuple (by decide +kernel) rfl) pa_nil)))) (pe_callB call_isi (by rfl) z_isinstance PyProof.Rows.boot_isinstance (pa_cons (pv 0) (pa_cons (pe_bltn (v := .ty "tuple") rfl z_tuple (by decide +kernel) rfl) pa_nil))) (pe_callB call_isi (by rfl) z_isinstance PyProof.Rows.boot_isinstance (pa_cons (pv 0) (pa_cons (pe_bltn (v := .ty "list") rfl z_list (by decide +kernel) rfl) pa_nil)))))
      (pss_one (ps_ret (pe_and (pv 2) (pe_and (pe_cmpR op_eq (pe_callB call_len_seq (by rfl) z_len PySem.boot_len (pa_cons (pv 0) pa_nil)) (pe_callB call_len_seq (by rfl) z_len PySem.boot_len (pa_cons (pv 1) pa_nil)) (nomark _)) (pe_one (pe_callB (cr_all rfl) (by rfl) z_all PyProof.Rows.boot_all (pa_cons (pe_lc (own := [("_law_a", 3), ("_law_b", 4)]) (g := gTup K 2 (gCons (gName 3) (gCons (gName 4) gNil))) (tt := tYes) (by rfl) sc_same.nd (pi_zipA (by rfl) z_zip (pa_cons (pv 0) (pa_cons (pv 1) pa_nil))) (blkOk_by (own := [("_law_a", 3), ("_law_b", 4)]) (N := ["_law_told_here", "_law_due", "_law_right", "_law_a", "_law_b"]) (sc := defScope s_same) (by decide +kernel)) (fun _ _ _ _ _ => pg_tup rfl (pgs_cons (pg_name (i := 3) sc_same.nd rfl (Or.inl rfl)) (pgs_cons (pg_name (i := 4) sc_same.nd rfl (Or.inl rfl)) pgs_nil))) (fun _ _ _ _ _ => pts_nil) (fun _ _ _ _ _ => pe_call G_same hr_same rfl g_same F_same.kp b_same .nil pass0 (pa_cons (pv 3) (pa_cons (pv 4) pa_nil)))) pa_nil)))))))) pss_nil)
      (pss_cons (ps_if (pt_cmpR op_isN (pv 1) pe_non (nomark _)) (pss_one (ps_ret (pe_cmpR op_isN (pv 0) pe_non (nomark _)))) pss_nil)
      (pss_cons (ps_if (pt_val (pe_callB call_isi (by rfl) z_isinstance PyProof.Rows.boot_isinstance (pa_cons (pv 1) (pa_cons (pe_bltn (v := .ty "bool") rfl z_bool (by decide +kernel) rfl) pa_nil)))) (pss_one (ps_ret (pe_and (pe_callB call_isi (by rfl) z_isinstance PyProof.Rows.boot_isinstance (pa_cons (pv 0) (pa_cons (pe_bltn (v := .ty "bool") rfl z_bool (by decide +kernel) rfl) pa_nil))) (pe_one (pe_cmpR op_eq (pv 0) (pv 1) (nomark _)))))) pss_nil)
      (pss_cons (ps_if (pt_val (pe_callB call_isi (by rfl) z_isinstance PyProof.Rows.boot_isinstance (pa_cons (pv 1) (pa_cons (pe_bltn (v := .ty "int") rfl z_int (by decide +kernel) rfl) pa_nil)))) (pss_one (ps_ret (pe_and (pe_callB call_isi (by rfl) z_isinstance PyProof.Rows.boot_isinstance (pa_cons (pv 0) (pa_cons (pe_bltn (v := .ty "int") rfl z_int (by decide +kernel) rfl) pa_nil))) (pe_and (pe_not (pe_callB call_isi (by rfl) z_isinstance PyProof.Rows.boot_isinstance (pa_cons (pv 0) (pa_cons (pe_bltn (v := .ty "bool") rfl z_bool (by decide +kernel) rfl) pa_nil)))) (pe_one (pe_cmpR op_eq (pv 0) (pv 1) (nomark _))))))) pss_nil)
      (pss_one (ps_ret (pe_and (pe_callB call_isi (by rfl) z_isinstance PyProof.Rows.boot_isinstance (pa_cons (pv 0) (pa_cons (pe_bltn (v := .ty "str") rfl z_str (by decide +kernel) rfl) pa_nil))) (pe_one (pe_cmpR op_eq (pv 0) (pv 1) (nomark _)))))))))), ?_⟩
      cases dd with
      | tuple ds =>
        cases n with
        | zero => exact hN.elim
        | succ n =>
          obtain ⟨hN, hz⟩ := hN
          cases hx with
          | tup hax hux =>
            cases hy with
            | tup hay huy =>
              rename_i ax us ay ws
              have l1 := DgAll.len hux
              have l2 := DgAll.len huy
              refine q_when (b := true) (et_B (ev_tLT (ev_var rfl) (tl_tup hay))) (fun _ H1 e1 => ?_) (fun hb => (by cases hb))
              refine q_asg (v := .bl true) (ev_if (b := true) (et_B (ev_tTup (ev_var rfl) (tl_tup (e1 _ _ hay)))) (fun _ => ev_tTup (ev_var rfl) (tl_tup (e1 _ _ hax))) (fun hb => (by cases hb))) fun H2 e2 => ?_
              have e := e1.trans e2
              refine s_ret (v := .bl true) (ev_is (ev_andV (a := true) (b := true) (ev_var rfl) fun _ => ev_is (ev_andV (a := true) (b := true) (ev_is (ev_eqI (ev_lenQ (q := false) (ev_var rfl) (.inr ⟨rfl, st_of (e _ _ hax)⟩)) (ev_lenQ (q := false) (ev_var rfl) (.inr ⟨rfl, st_of (e _ _ hay)⟩))) (by rw [l1, l2, beq_self_eq_true])) fun _ => ev_is (ev_allQQ (q := false) (fun _ => true) (ev_var rfl) (ev_var rfl) (e _ _ hax) (e _ _ hay) (by rw [l1, l2]) (by omega) (fun _ _ => rfl) fun i u w' H3 e3 hu hw => ?_) (congrArg V.bl (List.all_eq_true.mpr fun _ _ => rfl))) rfl) rfl) fun H3 e3 => q H3 (e.trans e3)
              obtain ⟨d1, h1, h2⟩ := hux.get hu
              obtain ⟨d2, h3, h4⟩ := huy.get hw
              rw [h1] at h3
              cases h3
              exact ev_call (ea_cons (ev_var rfl) (ea_cons (ev_var rfl) ea_nil)) fun H4 e4 Q' k' E' => ⟨_, _, _, n, rfl, h2.ex ((e.trans e3).trans e4), h4.ex ((e.trans e3).trans e4), hN _ (List.mem_of_getElem? h1), by omega, fun H5 e5 => k' H5 e5⟩
      | list ds =>
        cases n with
        | zero => exact hN.elim
        | succ n =>
          obtain ⟨hN, hz⟩ := hN
          cases hx with
          | lst hax hux =>
            cases hy with
            | lst hay huy =>
              rename_i ax us ay ws
              have l1 := DgAll.len hux
              have l2 := DgAll.len huy
              refine q_when (b := true) (et_B (ev_tLT (ev_var rfl) (tl_lst hay))) (fun _ H1 e1 => ?_) (fun hb => (by cases hb))
              refine q_asg (v := .bl true) (ev_if (b := false) (et_B (ev_tTup (ev_var rfl) (tl_lst (e1 _ _ hay)))) (fun hb => (by cases hb)) (fun _ => ev_tLst (ev_var rfl) (tl_lst (e1 _ _ hax)))) fun H2 e2 => ?_
              have e := e1.trans e2
              refine s_ret (v := .bl true) (ev_is (ev_andV (a := true) (b := true) (ev_var rfl) fun _ => ev_is (ev_andV (a := true) (b := true) (ev_is (ev_eqI (ev_lenQ (q := true) (ev_var rfl) (.inl ⟨rfl, sq_of (e _ _ hax)⟩)) (ev_lenQ (q := true) (ev_var rfl) (.inl ⟨rfl, sq_of (e _ _ hay)⟩))) (by rw [l1, l2, beq_self_eq_true])) fun _ => ev_is (ev_allQQ (q := true) (fun _ => true) (ev_var rfl) (ev_var rfl) (e _ _ hax) (e _ _ hay) (by rw [l1, l2]) (by omega) (fun _ _ => rfl) fun i u w' H3 e3 hu hw => ?_) (congrArg V.bl (List.all_eq_true.mpr fun _ _ => rfl))) rfl) rfl) fun H3 e3 => q H3 (e.trans e3)
              obtain ⟨d1, h1, h2⟩ := hux.get hu
              obtain ⟨d2, h3, h4⟩ := huy.get hw
              rw [h1] at h3
              cases h3
              exact ev_call (ea_cons (ev_var rfl) (ea_cons (ev_var rfl) ea_nil)) fun H4 e4 Q' k' E' => ⟨_, _, _, n, rfl, h2.ex ((e.trans e3).trans e4), h4.ex ((e.trans e3).trans e4), hN _ (List.mem_of_getElem? h1), by omega, fun H5 e5 => k' H5 e5⟩
      | dict _ => cases hx
      | none =>
        obtain rfl : x = .non := by cases hx; rfl
        obtain rfl : y = .non := by cases hy; rfl
        refine q_when (b := false) (et_B (ev_tLT (ev_var rfl) (tl_non))) (fun hb => (by cases hb)) (fun _ H1 e1 => ?_)
        refine q_when (b := true) (et_test (ev_op (ev_var rfl) ev_c (fun H1 _ Q q => ⟨rfl, q H1 (Ex.refl H1)⟩))) (fun _ H2 e2 => ?_) (fun hb => (by cases hb))
        exact s_ret (v := .bl true) (ev_op (ev_var rfl) ev_c (fun H1 _ Q q => ⟨rfl, q H1 (Ex.refl H1)⟩)) fun H3 e3 => q H3 ((e1.trans e2).trans e3)
      | bool b =>
        obtain rfl : x = .bl b := by cases hx; rfl
        obtain rfl : y = .bl b := by cases hy; rfl
        refine q_when (b := false) (et_B (ev_tLT (ev_var rfl) (tl_bl b))) (fun hb => (by cases hb)) (fun _ H1 e1 => ?_)
        refine q_when (b := false) (et_test (ev_op (ev_var rfl) ev_c (fun H1 _ Q q => ⟨rfl, q H1 (Ex.refl H1)⟩))) (fun hb => (by cases hb)) (fun _ H2 e2 => ?_)
        refine q_when (b := true) (et_B (ev_tBool (ev_var rfl) (tl_bl b))) (fun _ H3 e3 => ?_) (fun hb => (by cases hb))
        exact s_ret (v := .bl true) (ev_is (ev_andV (a := true) (b := true) (ev_tBool (ev_var rfl) (tl_bl b)) fun _ => ev_is (ev_op (ev_var rfl) (ev_var rfl) (rv_eq rfl)) (by rw [decide_eq_true rfl])) rfl) fun H4 e4 => q H4 (((e1.trans e2).trans e3).trans e4)
      | int i =>
        obtain rfl : x = .int i := by cases hx; rfl
        obtain rfl : y = .int i := by cases hy; rfl
        refine q_when (b := false) (et_B (ev_tLT (ev_var rfl) (tl_int i))) (fun hb => (by cases hb)) (fun _ H1 e1 => ?_)
        refine q_when (b := false) (et_test (ev_op (ev_var rfl) ev_c (fun H1 _ Q q => ⟨rfl, q H1 (Ex.refl H1)⟩))) (fun hb => (by cases hb)) (fun _ H2 e2 => ?_)
        refine q_when (b := false) (et_B (ev_tBool (ev_var rfl) (tl_int i))) (fun hb => (by cases hb)) (fun _ H3 e3 => ?_)
        refine q_when (b := true) (et_B (ev_tInt (ev_var rfl) (tl_int i))) (fun _ H4 e4 => ?_) (fun hb => (by cases hb))
        exact s_ret (v := .bl true) (ev_is (ev_andV (a := true) (b := true) (ev_tInt (ev_var rfl) (tl_int i)) fun _ => ev_is (ev_andV (a := true) (b := true) (ev_is (ev_notV (ev_tBool (ev_var rfl) (tl_int i))) rfl) fun _ => ev_is (ev_op (ev_var rfl) (ev_var rfl) (rv_eq rfl)) (by rw [decide_eq_true rfl])) rfl) rfl) fun H5 e5 => q H5 ((((e1.trans e2).trans e3).trans e4).trans e5)
      | str z =>
        obtain rfl : x = .str z := by cases hx; rfl
        obtain rfl : y = .str z := by cases hy; rfl
        refine q_when (b := false) (et_B (ev_tLT (ev_var rfl) (tl_str z))) (fun hb => (by cases hb)) (fun _ H1 e1 => ?_)
        refine q_when (b := false) (et_test (ev_op (ev_var rfl) ev_c (fun H1 _ Q q => ⟨rfl, q H1 (Ex.refl H1)⟩))) (fun hb => (by cases hb)) (fun _ H2 e2 => ?_)
        refine q_when (b := false) (et_B (ev_tBool (ev_var rfl) (tl_str z))) (fun hb => (by cases hb)) (fun _ H3 e3 => ?_)
        refine q_when (b := false) (et_B (ev_tInt (ev_var rfl) (tl_str z))) (fun hb => (by cases hb)) (fun _ H4 e4 => ?_)
        exact s_ret (v := .bl true) (ev_is (ev_andV (a := true) (b := true) (ev_tStr (ev_var rfl) (tl_str z)) fun _ => ev_is (ev_op (ev_var rfl) (ev_var rfl) (rv_eq rfl)) (by rw [decide_eq_true rfl])) rfl) fun H5 e5 => q H5 ((((e1.trans e2).trans e3).trans e4).trans e5)
end
end D1
end
section
set_option Elab.async false
set_option linter.all false
set_option maxRecDepth 100000
set_option maxHeartbeats 4000000
/-! N9: what the best first tells of webs -/
namespace D1
open PySem L2
theorem eqv_cn {a b : PyData} (h : cnGood a = true) (h' : cnGood b = true) (e : PyData.eqv a b = true) : a = b := by
  rcases good_cn h with rfl | ⟨i, rfl, _⟩ <;> rcases good_cn h' with rfl | ⟨j, rfl, _⟩
  · rfl
  · cases e
  · cases e
  · have e : (i == j) = true := e
    rw [beq_iff_eq] at e
    rw [e]
theorem eqv_bd {a b : PyData} (h : bGood a = true) (h' : bGood b = true) (e : PyData.eqv a b = true) : a = b := by
  rcases good_b h with rfl | rfl | ⟨i, rfl⟩ <;> rcases good_b h' with rfl | rfl | ⟨j, rfl⟩ <;> first | rfl | (cases e; done) | skip
  · have e : (i == j) = true := e
    rw [beq_iff_eq] at e
    rw [e]
def ordB : RK → Bool
  | .truth => true
  | .least => true
  | .most => true
  | .narrow => true
  | .share => true
  | _ => false
theorem ordB_of : ∀ {k : RK}, ordB k = true → isOrd k
  | .truth, _ => True.intro
  | .least, _ => True.intro
  | .most, _ => True.intro
  | .narrow, _ => True.intro
  | .share, _ => True.intro
theorem ord_depth : ∀ {k : RK}, isOrd k → k.depth = 0
  | .truth, _ => rfl
  | .least, _ => rfl
  | .most, _ => rfl
  | .narrow, _ => rfl
  | .share, _ => rfl
  | .count, h => h.elim
  | .lot _, h => h.elim
  | .pair _ _, h => h.elim
/-- == tells weights of such kinds apart -/
theorem eqv_ord : ∀ {k : RK}, isOrd k → ∀ {a b : PyData}, goodB k a = true → goodB k b = true → (PyData.eqv a b = true ↔ a = b)
  | .truth, _, a, b, ha, hb => by
    obtain ⟨x, rfl⟩ := good_truth ha
    obtain ⟨y, rfl⟩ := good_truth hb
    cases x <;> cases y <;> constructor <;> intro h <;> first | rfl | cases h
  | .least, _, a, b, ha, hb => ⟨eqv_bd ha hb, fun h => by
    subst h
    rcases good_b ha with rfl | rfl | ⟨i, rfl⟩
    · rfl
    · rfl
    · exact beq_self_eq_true i⟩
  | .most, _, a, b, ha, hb => ⟨eqv_bd ha hb, fun h => by
    subst h
    rcases good_b ha with rfl | rfl | ⟨i, rfl⟩
    · rfl
    · rfl
    · exact beq_self_eq_true i⟩
  | .narrow, _, a, b, ha, hb => ⟨eqv_cn ha hb, fun h => by
    subst h
    rcases good_cn ha with rfl | ⟨i, rfl, _⟩
    · rfl
    · exact beq_self_eq_true i⟩
  | .share, _, a, b, ha, hb => by
    obtain ⟨p, q, rfl, _⟩ := share_nat ha
    obtain ⟨r, t, rfl, _⟩ := share_nat hb
    constructor
    · intro h
      have h : ((p : Int) == (r : Int) && ((q : Int) == (t : Int) && true)) = true := h
      rw [Bool.and_true, Bool.and_eq_true, beq_iff_eq, beq_iff_eq] at h
      show PyData.tuple [.int p, .int q] = .tuple [.int r, .int t]
      rw [h.1, h.2]
    · intro h
      rw [h]
      show ((r : Int) == (r : Int) && ((t : Int) == (t : Int) && true)) = true
      rw [beq_self_eq_true, beq_self_eq_true]
      rfl
  | .count, h, _, _, _, _ => h.elim
  | .lot _, h, _, _, _, _ => h.elim
  | .pair _ _, h, _, _, _, _ => h.elim
theorem ord_shaped : ∀ {k : RK}, isOrd k → ∀ {a : PyData}, goodB k a = true → SeqAt.shaped a = true
  | .truth, _, a, ha => by
    obtain ⟨x, rfl⟩ := good_truth ha
    rfl
  | .least, _, a, ha => (fl_b ha).shaped
  | .most, _, a, ha => (fl_b ha).shaped
  | .narrow, _, a, ha => (fl_cn ha).shaped
  | .share, _, a, ha => by
    obtain ⟨p, q, rfl, _⟩ := share_nat ha
    rfl
  | .count, h, _, _ => h.elim
  | .lot _, h, _, _ => h.elim
  | .pair _ _, h, _, _ => h.elim
/-- whether ONE and the step's weight sum to ONE -/
def tameB (k : RK) (s : Step) : Bool := PyData.eqv (plus k (oneD k) s.2.2) (oneD k)
/-- the first step that betters -/
def badAt (k : RK) : Nat → List Step → Option Nat
  | _, [] => none
  | i, s :: r => if tameB k s = true then badAt k (i + 1) r else some i
/-- what is refused -/
def badO (k : RK) (ss : List Step) : Option PyData := if ordB k = true then (badAt k 0 ss).map (fun i => .int (i : Nat)) else some .none
theorem badAt_none {k : RK} : ∀ {ss : List Step} {i : Nat}, badAt k i ss = none → ∀ s ∈ ss, tameB k s = true
  | [], _, _, s, hs => by cases hs
  | s' :: r, i, h, s, hs => by
    have h : (if tameB k s' = true then badAt k (i + 1) r else some i) = none := h
    cases c : tameB k s' with
    | false =>
      rw [c, if_neg Bool.false_ne_true] at h
      cases h
    | true =>
      rw [c, if_pos rfl] at h
      rcases List.mem_cons.mp hs with rfl | hs
      · exact c
      · exact badAt_none h s hs
theorem badAt_hit {k : RK} : ∀ {ss : List Step} {i t : Nat} {s : Step}, (∀ u s', u < t → ss[u]? = some s' → tameB k s' = true) → ss[t]? = some s → tameB k s = false → badAt k i ss = some (i + t)
  | [], _, t, s, _, hs, _ => by simp at hs
  | s' :: r, i, 0, s, _, hs, hb => by
    obtain rfl : s' = s := by simpa using hs
    show (if tameB k s' = true then badAt k (i + 1) r else some i) = _
    rw [hb, if_neg Bool.false_ne_true]
    rfl
  | s' :: r, i, t + 1, s, h, hs, hb => by
    show (if tameB k s' = true then badAt k (i + 1) r else some i) = _
    rw [if_pos (h 0 s' (Nat.zero_lt_succ _) rfl), badAt_hit (t := t) (fun u s'' hu hs'' => h (u + 1) s'' (by omega) (by simpa using hs'')) (by simpa using hs) hb]
    congr 1
    omega
theorem badAt_all {k : RK} : ∀ {ss : List Step} {i : Nat}, (∀ s ∈ ss, tameB k s = true) → badAt k i ss = none
  | [], _, _ => rfl
  | s :: r, i, h => by
    show (if tameB k s = true then badAt k (i + 1) r else some i) = _
    rw [if_pos (h s List.mem_cons_self), badAt_all fun s' hs' => h s' (List.mem_cons_of_mem _ hs')]
/-- a step of a web without bettering ones -/
theorem tame_le {k : RK} (ho : isOrd k) {s : Step} (g : goodB k s.2.2 = true) (h : tameB k s = true) : lek k (toW k s.2.2) (WS k).one := by
  refine (ord_le ho).mpr (Subtype.ext ?_)
  show plus k (oneD k) (toW k s.2.2).1 = oneD k
  rw [toW_val g]
  exact (eqv_ord ho (good_plus k (good_one k) g) (good_one k)).mp h
section
variable {k : RK} (ho : isOrd k) {n : Nat} {ss : List Step} (ok : WebOk k n ss) (ht : ∀ s ∈ ss, tameB k s = true)
include ho ok ht
theorem stW_le {s : Step} (hs : s ∈ ss) (i j : Nat) : lek k (stW k i j s) (WS k).one := by
  unfold stW
  split
  · exact tame_le ho (ok.at_ s hs).2.2 (ht s hs)
  · exact (WS k).zero_le _
theorem ls_join {β : Type} {f : β → Wt k} {z : Wt k} : ∀ {xs : List β}, (∀ x ∈ xs, lek k (f x) z) → lek k ((WS k).ls f xs) z
  | [], _ => (WS k).zero_le _
  | x :: xs, h => (WS k).idem_join (idem_k (ord_idem ho)) (h x List.mem_cons_self) (ls_join fun y hy => h y (List.mem_cons_of_mem _ hy))
theorem stA_le (i j : Nat) : lek k (stA k ss i j) (WS k).one := ls_join ho ok ht fun s hs => stW_le ho ok ht hs i j
/-- the row: what is least -/
abbrev LeastR (k : RK) (ss : List Step) (n st : Nat) (y : Nat → Wt k) : Prop := (WS k).Least (fun j l => stA k ss l j) n ((WS k).dl st) y
omit ok ht in
theorem lek_anti {a b : Wt k} (h1 : lek k a b) (h2 : lek k b a) : a = b := (WS k).idem_anti (idem_k (ord_idem ho)) h1 h2
theorem top_sm {st j : Nat} {z : Nat → Wt k} (hz : ∀ l, l < n → lek k (z l) (WS k).one) : lek k ((WS k).add ((WS k).dl st j) ((WS k).sm (fun l => (WS k).mul (stA k ss l j) (z l)) n)) (WS k).one := by
  refine (WS k).idem_join (idem_k (ord_idem ho)) ?_ ((WS k).idem_sm (idem_k (ord_idem ho)) fun l hl => ?_)
  · unfold SR.dl
    split
    · exact (WS k).le_refl _
    · exact (WS k).zero_le _
  · have := (WS k).mul_mono (stA_le ho ok ht l j) (hz l hl)
    rw [(WS k).one_mul] at this
    exact this
theorem least_top {st : Nat} {y : Nat → Wt k} (L : LeastR k ss n st y) {j : Nat} (hj : j < n) : lek k (y j) (WS k).one :=
  L.min (fun _ => (WS k).one) (fun j hj => top_sm ho ok ht fun l hl => (WS k).le_refl _) j hj
theorem least_st {st : Nat} {y : Nat → Wt k} (L : LeastR k ss n st y) (hs : st < n) : y st = (WS k).one := by
  refine lek_anti ho (least_top ho ok ht L hs) ?_
  rw [L.sol st hs]
  rw [(WS k).dl_eq]
  exact (WS k).le_add _ _
/-- the sum of the steps that lead on -/
def onW (k : RK) (at_ : Nat) (s : Step) : Wt k := if s.1 = at_ ∧ s.2.1 ≠ at_ then toW k s.2.2 else (WS k).zero
def bestW (k : RK) (at_ : Nat) (ss : List Step) : Wt k := (WS k).ls (onW k at_) ss
theorem stA_best {at_ j : Nat} (hj : j ≠ at_) : lek k (stA k ss at_ j) (bestW k at_ ss) := by
  unfold stA bestW
  refine (WS k).ls_le fun s hs => ?_
  unfold stW onW
  by_cases c : s.1 = at_ ∧ s.2.1 = j
  · rw [if_pos c, if_pos ⟨c.1, by rw [c.2]; exact hj⟩]
    exact (WS k).le_refl _
  · rw [if_neg c]
    exact (WS k).zero_le _
theorem least_best {at_ : Nat} {y : Nat → Wt k} (L : LeastR k ss n at_ y) (ha : at_ < n) {s : Step} (hs : s ∈ ss) (h1 : s.1 = at_) (h2 : s.2.1 ≠ at_) (h3 : toW k s.2.2 = bestW k at_ ss) : y s.2.1 = bestW k at_ ss := by
  have hj := (ok.at_ s hs).2.1
  refine lek_anti ho ?_ ?_
  · have := L.min (fun j => if j = at_ then (WS k).one else bestW k at_ ss) (fun j hj => ?_) _ hj
    · simp only [if_neg h2] at this
      exact this
    · by_cases e : j = at_
      · rw [if_pos e]
        refine top_sm ho ok ht fun l hl => ?_
        split
        · exact (WS k).le_refl _
        · exact ls_join ho ok ht fun s hs => by
            unfold onW
            split
            · exact tame_le ho (ok.at_ s hs).2.2 (ht s hs)
            · exact (WS k).zero_le _
      · rw [if_neg e]
        refine (WS k).idem_join (idem_k (ord_idem ho)) ?_ ((WS k).idem_sm (idem_k (ord_idem ho)) fun l hl => ?_)
        · rw [(WS k).dl_ne (Ne.symm e)]
          exact (WS k).zero_le _
        · by_cases el : l = at_
          · rw [if_pos el, (WS k).mul_one, el]
            exact stA_best ho ok ht e
          · rw [if_neg el]
            have := (WS k).mul_mono (stA_le ho ok ht l j) ((WS k).le_refl (bestW k at_ ss))
            rw [(WS k).one_mul] at this
            exact this
  · rw [L.sol _ hj, ← h3]
    refine (WS k).le_trans ?_ ((WS k).le_add' _ _)
    refine (WS k).le_trans ?_ ((WS k).le_sm (f := fun l => (WS k).mul (stA k ss l s.2.1) (y l)) ha)
    show lek k _ ((WS k).mul (stA k ss at_ s.2.1) (y at_))
    rw [least_st ho ok ht L ha, (WS k).mul_one]
    have := (WS k).le_ls (f := stW k at_ s.2.1) hs
    unfold stW at this
    rw [if_pos ⟨h1, rfl⟩] at this
    exact this
theorem least_nxt {st : Nat} {y : Nat → Wt k} (L : LeastR k ss n st y) {j : Nat} (hj : j < n) : nxt k ss st y j = y j := by
  rw [nxt_sm (fun s hs => (ok.at_ s hs).1), L.sol j hj]
  congr 1
  exact (WS k).sm_congr fun l _ => (WS k).mul_comm _ _
end
/-! ### one state taken, step by step -/
/-- a row with so many steps from x -/
def inW (k : RK) (f : Nat → Wt k) (x : Nat) (ss : List Step) (j : Nat) : Wt k := (WS k).add (f j) ((WS k).ls (fun s => (WS k).mul (f x) (stW k x j s)) ss)
theorem inW_all (k : RK) (f : Nat → Wt k) (x : Nat) (ss : List Step) (j : Nat) : inW k f x ss j = (WS k).rlx (stA k ss) f x j := by
  unfold inW SR.rlx stA
  rw [(WS k).mul_ls]
theorem inW_0 (k : RK) (f : Nat → Wt k) (x j : Nat) : inW k f x [] j = f j := (WS k).add_zero _
theorem inW_snoc {k : RK} (f : Nat → Wt k) (x j : Nat) {ss : List Step} {t : Nat} {s : Step} (h : ss[t]? = some s) : inW k f x (ss.take (t + 1)) j = (WS k).add (inW k f x (ss.take t) j) ((WS k).mul (f x) (stW k x j s)) := by
  unfold inW
  rw [ls_snoc _ h, (WS k).add_assoc]
theorem inW_self {k : RK} (ho : isOrd k) {n : Nat} {ss : List Step} (ok : WebOk k n ss) (ht : ∀ s ∈ ss, tameB k s = true) (f : Nat → Wt k) (x t : Nat) : inW k f x (ss.take t) x = f x := by
  unfold inW
  rw [(WS k).add_comm]
  refine (WS k).idem_le (idem_k (ord_idem ho)) (ls_join ho ok ht fun s hs => ?_)
  have := (WS k).mul_le (f x) (stW_le ho ok ht (List.mem_of_mem_take hs) x x)
  rw [(WS k).mul_one] at this
  exact this
/-- a sum is one of its parts, so no greater -/
theorem sz_sel {k : RK} (ho : isOrd k) {B : Nat} {a b : Wt k} (ha : Sz B a.1) (hb : Sz B b.1) : Sz B ((WS k).add a b).1 := by
  rcases ord_sel ho a b with e | e
  · rw [e]
    exact ha
  · rw [e]
    exact hb
theorem sz_zero (k : RK) (ho : isOrd k) : Sz 12 (zeroD k) := by
  cases k with
  | truth => exact True.intro
  | least => exact True.intro
  | most => exact True.intro
  | narrow => show (0 : Int).natAbs < 2 ^ 12; decide
  | share => refine ⟨?_, ?_, True.intro⟩ <;> show Int.natAbs _ < 2 ^ 12 <;> decide
  | count => exact ho.elim
  | lot n => exact ho.elim
  | pair a b => exact ho.elim
theorem inW_sz {k : RK} (ho : isOrd k) {n B : Nat} {ss : List Step} (ok : WebOk k n ss) (hs : ∀ s ∈ ss, Sz 140 s.2.2) {f : Nat → Wt k} (hB : 12 ≤ B) (hf : SzR B n f) {x : Nat} (hx : x < n) (t : Nat) {j : Nat} (hj : j < n) : Sz (B + 140) (inW k f x (ss.take t) j).1 := by
  unfold inW
  have key : ∀ (l : List Step), (∀ s ∈ l, s ∈ ss) → Sz (B + 140) ((WS k).ls (fun s => (WS k).mul (f x) (stW k x j s)) l).1 := by
    intro l
    induction l with
    | nil => intro _; exact (sz_zero k ho).up (by omega)
    | cons s r ih =>
      intro h
      refine sz_sel ho ?_ (ih fun s' h' => h s' (List.mem_cons_of_mem _ h'))
      have hm := h s List.mem_cons_self
      show Sz (B + 140) (times k (f x).1 (stW k x j s).1)
      unfold stW
      split
      · rw [toW_val (ok.at_ s hm).2.2]
        exact sz_times k (f x).2 (ok.at_ s hm).2.2 (hf x hx) (hs s hm) (by omega) (by decide)
      · have := sz_times k (f x).2 (good_zero k) (hf x hx) (sz_zero k ho) (by omega) (by decide)
        exact this.up (by omega)
  exact sz_sel ho ((hf j hj).up (by omega)) (key _ fun s h => List.mem_of_mem_take h)
end D1
end
section
set_option Elab.async false
set_option linter.all false
set_option maxRecDepth 100000
set_option maxHeartbeats 4000000
/-! R13: what is refused; the best of some states -/
namespace D1
open PySem L2 Evl RZ ClX PySem.VX
/-- what the written part says of _ORDERED -/
structure OrdK (K : PySem.W.Frag) (mg : Str → Option Value) (aO : Addr) : Prop where
  g : mg "_ORDERED" = some (.ref aO)
  at_ : ∀ H, SqT K H aO [.str "truth", .str "least", .str "most", .str "narrow", .str "share"]
def whyS : Str := "not a state of this web"
theorem rv_neDt {K : PySem.W.Frag} {H : Hp} {x y : V} {d e : PyData} (hx : DtAt H x d) (hy : DtAt H y e) (sd : SeqAt.shaped d = true) (se : SeqAt.shaped e = true) : RV (rNeD K) x y H (.bl (!PyData.eqv d e)) := fun H1 e1 Q q => ⟨d, e, (hx.ex e1).dp, (hy.ex e1).dp, sd, se, q H1 (Ex.refl H1)⟩
def spRMade (C : KC) (CR : Addr) : Sp := fun vs H Q _ => ∃ (s : V) (k : RK), vs = [s] ∧ RingAt C CR H s k ∧ ∀ x H', Ex H H' → DtAt H' x (madeD k) → Q x H'
def spNeedState (cN : Addr) : Sp := fun vs H Q E => ∃ (v : V) (n s : Nat) (ss : List Step), vs = [v, .int (s : Int)] ∧ DtAt H v (webD n ss) ∧ (s < n → ∀ H', Ex H H' → Q .non H') ∧ (¬ s < n → ∀ d H', Ex H H' → H' d = none → E (.ref cN) (some d) (upd H' d (.xd [("why", .str whyS)])))
def spOrdered (C : KC) (CR : Addr) : Sp := fun vs H Q _ => ∃ (s : V) (k : RK), vs = [s] ∧ RingAt C CR H s k ∧ ∀ H', Ex H H' → Q (.bl (ordB k)) H'
/-- a number of a step, or None -/
def stepV : PyData → V
  | .int i => .int i
  | _ => .non
def spNoBet (C : KC) (CR cO : Addr) : Sp := fun vs H Q E => ∃ (r v : V) (k : RK) (n : Nat) (ss : List Step), vs = [r, v] ∧ RingAt C CR H r k ∧ k.depth < 4 ∧ k.ok ∧ DtAt H v (webD n ss) ∧ WebOk k n ss ∧ (∀ s ∈ ss, Sz 140 s.2.2) ∧
  (∀ p, badO k ss = some p → ∀ d H', Ex H H' → H' d = none → E (.ref cO) (some d) (upd H' d (.xd [("step", stepV p)]))) ∧ (badO k ss = none → ∀ H', Ex H H' → Q .non H')
def spBestOf (C : KC) : Sp := fun vs H Q _ => ∃ (kv rv : V) (S : Addr) (k : RK) (n : Nat) (f : Nat → Wt k) (ws : List Nat) (B : Nat), vs = [kv, rv, .ref S] ∧ KindAt C H k kv ∧ k.depth < 4 ∧ isOrd k ∧ RowAt H rv (vec (fun j => (f j).1) n) ∧ SzR B n f ∧ B ≤ 4000 ∧ H S = some (.lst (natsV ws)) ∧ ws ≠ [] ∧ (∀ x ∈ ws, x < n) ∧ ws.length ≤ 100 ∧
  ∀ x H', x ∈ ws → (∀ u ∈ ws, lek k (f u) (f x)) → Ex H H' → Q (.int (x : Int)) H'
section
variable {P : Program} {w : World} {K : PySem.W.Frag} {mg : Str → Option Value} {base : Heap}
abbrev s_Ring_made : Stmt := meth 49 2
theorem sc_Ring_made : FnScope ["self"] ["self"] (defScope s_Ring_made) := ⟨rfl, rfl, rfl, by decide +kernel, rfl, by decide +kernel, by decide +kernel⟩
theorem ok_Ring_made {f : Addr} {fd : FuncData} (F : FnM K "Ring" "made" s_Ring_made f fd) {C : KC} {CR : Addr} (T : RingF K CR) : FnOk P w K mg base (CX0) 1 f fd ["self"] (spRMade C CR) := by
  refine F.ok (CX := CX0) sc_Ring_made (fun vs H Q E h => ?_) (fun cdv A outer s H vs Q E hr h => ?_)
  · obtain ⟨s, k, rfl, _⟩ := h
    rfl
  · obtain ⟨s, k, rfl, hR, q⟩ := h
    have hu := hu_of hr
    have hu64 := hr.units
    refine ⟨_, PSs.nox (pss_one (ps_ret (pe_fld (pv 0) rfl))), ?_⟩
    obtain ⟨r, dr, fr, m, x, rfl, h2, h3, h4, h5, h6, h7⟩ := hR
    exact s_ret (ev_fldK (ev_var rfl) h2 T.ok (by decide) h3) fun H1 e1 => q m H1 e1 (h4.ex e1)
abbrev s_need_state : Stmt := top 58
theorem sc_need_state : FnScope ["web", "thing"] ["web", "thing"] (defScope s_need_state) := ⟨rfl, rfl, rfl, by decide +kernel, rfl, by decide +kernel, by decide +kernel⟩
theorem ok_need_state {f : Addr} {fd : FuncData} (F : FnP K "need_state" s_need_state f fd) {f_is_whole : Addr} {fd_is_whole : FuncData} (F_is_whole : FnP K "is_whole" s_is_whole f_is_whole fd_is_whole) (g_is_whole : mg "is_whole" = some (.ref f_is_whole)) (G_is_whole : FnOk P w K mg base (CX0) 2 f_is_whole fd_is_whole ["thing", "least", "most"] (spWhole K)) {cN : Addr} (O_BadNumber : OwnX P w K mg "BadNumber" cN [("why" : Str)]) : FnOk P w K mg base (L2.CX P w) 3 f fd ["web", "thing"] (spNeedState cN) := by
  have b_is_whole : Binds K fd_is_whole ["thing", "least", "most"] [] := F_is_whole.bindsN fun _ _ _ _ _ _ us hl => match us, hl with | [_, _, _], _ => rfl
  refine F.ok (CX := L2.CX P w) sc_need_state (fun vs H Q E h => ?_) (fun cdv A outer s H vs Q E hr h => ?_)
  · obtain ⟨v, n, st, ss, rfl, _⟩ := h
    rfl
  · obtain ⟨v, n, st, ss, rfl, hW, qT, qE⟩ := h
    have hu := hu_of hr
    have hu64 := hr.units
    have hr_is_whole := hr.mono (by decide : 2 ≤ 2)
    refine ⟨_, (pss_one (ps_if (pt_not (pt_val (pe_call G_is_whole hr_is_whole rfl g_is_whole F_is_whole.kp b_is_whole .nil pass0 (pa_cons (pv 1) (pa_cons pe_int (pa_cons (pe_op op_sub (pe_ix ix_tup (pv 0) pe_int (fun _ _ => rfl)) pe_int) pa_nil)))))) (pss_one (ps_raise (W := fun cls d _ H => E cls d H) rfl (takes_of rfl rfl rfl rfl) (pmk_own1 O_BadNumber hr (pa_cons pe_str pa_nil) (by rfl)))) pss_nil)), ?_⟩
    obtain ⟨a, p1, us, rfl, ha, hp1, hus, hlen⟩ := web_at hW
    have hw : whO 0 ((n : Int) - 1) (some (st : Int)) = decide (st < n) := by
      show (decide ((0 : Int) ≤ (st : Int)) && decide ((st : Int) ≤ (n : Int) - 1)) = decide (st < n)
      rw [decide_eq_true (by omega : (0 : Int) ≤ (st : Int)), Bool.true_and, decide_eq_decide]
      omega
    refine s_when (b := !decide (st < n)) (et_not (et_B (ev_call (z := .bl (decide (st < n))) (ea_cons (ev_var rfl) (ea_cons ev_c (ea_cons (ev_op (ev_op (ev_var rfl) ev_c (rv_ixT (.inl (.inl ha)) rfl)) ev_c rv_I0) ea_nil))) fun H2 e2 Q' k' E' => ⟨_, some (st : Int), _, _, rfl, (DtAt.int (st : Int)).num, fun H3 e3 => by rw [hw]; exact k' H3 e3⟩))) (fun hb H1 e1 => ?_) (fun hb H1 e1 => ?_)
    · refine ⟨rfl, fun d hd => qE ?_ d H1 e1 hd⟩
      rw [Bool.not_eq_true', decide_eq_false_iff_not] at hb
      exact hb
    · rw [Bool.not_eq_false', decide_eq_true_eq] at hb
      exact qT hb H1 e1
abbrev s_is_ordered : Stmt := top 61
theorem sc_is_ordered : FnScope ["ring"] ["ring"] (defScope s_is_ordered) := ⟨rfl, rfl, rfl, by decide +kernel, rfl, by decide +kernel, by decide +kernel⟩
theorem ok_is_ordered {f : Addr} {fd : FuncData} (F : FnP K "is_ordered" s_is_ordered f fd) {C : KC} {CR : Addr} (T : RingF K CR) {aO : Addr} (OO : OrdK K mg aO) {f_made : Addr} {fd_made : FuncData} (m_made : Meth K CR "made" f_made) (b_made : Binds K fd_made ["self"] []) (G_made : FnOk P w K mg base CX0 1 f_made fd_made ["self"] (spRMade C CR)) : FnOk P w K mg base (CX0) 2 f fd ["ring"] (spOrdered C CR) := by
  refine F.ok (CX := CX0) sc_is_ordered (fun vs H Q E h => ?_) (fun cdv A outer s H vs Q E hr h => ?_)
  · obtain ⟨s, k, rfl, _⟩ := h
    rfl
  · obtain ⟨s, k, rfl, hR, q⟩ := h
    have hu := hu_of hr
    have hu64 := hr.units
    have hr_made := hr.mono (Nat.le_refl _)
    refine ⟨_, PSs.nox (pss_one (ps_ret (pe_cmpR op_in_seq (pe_ix ix_tup (pe_meth0 (C := CR) (pv 0) T.ok.cls m_made G_made hr_made b_made .nil pass0) pe_int (fun _ _ => rfl)) (pe_glob (v := .ref aO) rfl OO.g rfl) (by rfl)))), ?_⟩
    obtain ⟨r', dr, fr, rfl, hr2, hn⟩ := hR.no (m := ("made" : Str)) (by decide)
    refine ⟨_, rfl, r', dr, fr, rfl, hr2, hn, .ref r', k, rfl, hR, fun m H1 e1 hm => ?_⟩
    obtain ⟨a, xs, rfl, ha, h1, h2, h3⟩ := made_at hm
    refine ⟨a, _, 0, .str (nameOf k), rfl, rfl, .inl (.inl ha), atI_of (Int.le_refl 0) rfl, ?_⟩
    refine (rv_inT (OO.at_ H1) rfl rfl) H1 (Ex.refl H1) _ ?_
    have : inV (.str (nameOf k)) [V.str "truth", .str "least", .str "most", .str "narrow", .str "share"] = ordB k := by
      cases k with
      | lot n => exact (by decide : inV (.str "lot") [V.str "truth", .str "least", .str "most", .str "narrow", .str "share"] = false)
      | pair x y => exact (by decide : inV (.str "pair") [V.str "truth", .str "least", .str "most", .str "narrow", .str "share"] = false)
      | _ => decide
    rw [this]
    exact fun H2 e2 => q H2 (e1.trans e2)
abbrev s__need_no_bettering : Stmt := top 63
theorem sc__need_no_bettering : FnScope ["ring", "web", "kind", "one", "number", "step"] ["ring", "web"] (defScope s__need_no_bettering) := ⟨rfl, rfl, rfl, by decide +kernel, rfl, by decide +kernel, by decide +kernel⟩
theorem ok__need_no_bettering {f : Addr} {fd : FuncData} (F : FnP K "_need_no_bettering" s__need_no_bettering f fd) {C : KC} {CR : Addr} (T : RingF K CR) (HA_plus : ∀ e sp, SK C (spPlus C 4) e = some sp → HeldM P w K mg base 5 "plus" e sp) (HA_one : ∀ e sp, SK C (spOne C 4) e = some sp → HeldM P w K mg base 1 "one" e sp) {f_is_ordered : Addr} {fd_is_ordered : FuncData} (F_is_ordered : FnP K "is_ordered" s_is_ordered f_is_ordered fd_is_ordered) (g_is_ordered : mg "is_ordered" = some (.ref f_is_ordered)) (G_is_ordered : FnOk P w K mg base (CX0) 2 f_is_ordered fd_is_ordered ["ring"] (spOrdered C CR)) {f_kind : Addr} {fd_kind : FuncData} (m_kind : Meth K CR "kind" f_kind) (b_kind : Binds K fd_kind ["self"] []) (G_kind : FnOk P w K mg base CX0 1 f_kind fd_kind ["self"] (spRKind C CR)) {cO : Addr} (O_NoOrder : OwnX P w K mg "NoOrder" cO [("step" : Str)]) (z_enumerate : mg "enumerate" = none) : FnOk P w K mg base (L2.CX P w) 6 f fd ["ring", "web"] (spNoBet C CR cO) := by
  have b_is_ordered : Binds K fd_is_ordered ["ring"] [] := F_is_ordered.bindsN fun _ _ _ _ _ _ us hl => match us, hl with | [_], _ => rfl
  refine F.ok (CX := L2.CX P w) sc__need_no_bettering (fun vs H Q E h => ?_) (fun cdv A outer s H vs Q E hr h => ?_)
  · obtain ⟨r, v, k, n, ss, rfl, _⟩ := h
    rfl
  · obtain ⟨r, v, k, n, ss, rfl, hR, hd, ok, hW, hok, hs, qE, qT⟩ := h
    have hu := hu_of hr
    have hu64 := hr.units
    have hr_plus := hr.mono (Nat.le_refl _)
    have hr_one := hr.mono (by decide : 1 ≤ 5)
    have hr_is_ordered := hr.mono (by decide : 2 ≤ 5)
    have hr_kind := hr.mono (by decide : 1 ≤ 5)
    refine ⟨_, (pss_cons (ps_if (pt_not (pt_val (pe_call G_is_ordered hr_is_ordered rfl g_is_ordered F_is_ordered.kp b_is_ordered .nil pass0 (pa_cons (pv 0) pa_nil)))) (pss_one (ps_raise (W := fun cls d _ H => E cls d H) rfl (takes_of rfl rfl rfl rfl) (pmk_own1 O_NoOrder hr (pa_cons pe_non pa_nil) (by rfl)))) pss_nil)
      (pss_cons (ps_set (i := 2) sc__need_no_bettering.nd rfl (Or.inl rfl) (pe_meth0 (C := CR) (pv 0) T.ok.cls m_kind G_kind hr_kind b_kind .nil pass0))
      (pss_cons (ps_set (i := 3) sc__need_no_bettering.nd rfl (Or.inl rfl) (pe_methA0 (S := SK C (spOne C 4)) HA_one (pv 2) hr_one))
      (pss_one (ps_for (passes_of rfl) rfl (pi_enumT rfl z_enumerate (pa_cons (pe_ix ix_tup (pv 1) pe_int (fun _ _ => rfl)) pa_nil)) (pg_tup rfl (pgs_cons (pg_name (i := 4) sc__need_no_bettering.nd rfl (Or.inl rfl)) (pgs_cons (pg_name (i := 5) sc__need_no_bettering.nd rfl (Or.inl rfl)) pgs_nil))) (pss_one (ps_if (pt_cmpR (op_neD hu64) (pe_methA (S := SK C (spPlus C 4)) HA_plus (pv 2) hr_plus (pa_cons (pv 3) (pa_cons (pe_ix ix_tup (pv 5) pe_int (fun _ _ => rfl)) pa_nil))) (pv 3) (nomark _)) (pss_one (ps_raise (W := fun cls d _ H => E cls d H) rfl (takes_of rfl rfl rfl rfl) (pmk_own1 O_NoOrder hr (pa_cons (pv 4) pa_nil) (by rfl)))) pss_nil))))))), ?_⟩
    obtain ⟨a, p1, us, rfl, ha, hp1, hus, hlen⟩ := web_at hW
    have l80 := hok.len
    refine q_when (b := !ordB k) (et_not (et_B (ev_call (z := .bl (ordB k)) (ea_cons (ev_var rfl) ea_nil) fun H2 e2 Q' k' E' => ⟨r, k, rfl, hR.ex e2, fun H3 e3 => k' H3 e3⟩))) (fun hb H1 e1 => ?_) (fun hb H1 e1 => ?_)
    · rw [Bool.not_eq_true'] at hb
      refine ⟨rfl, fun d hd => qE .none ?_ d H1 e1 hd⟩
      unfold badO
      rw [hb, if_neg Bool.false_ne_true]
    rw [Bool.not_eq_false'] at hb
    have ho := ordB_of hb
    have hbad : badO k ss = (badAt k 0 ss).map (fun i => .int (i : Nat)) := if_pos hb
    obtain ⟨r', dr, fr, rfl, hr2, hn⟩ := (hR.ex e1).no (m := ("kind" : Str)) (by decide)
    refine asg_step ⟨_, rfl, r', dr, fr, rfl, hr2, hn, .ref r', k, rfl, hR.ex e1, fun kv H2 e2 hK => ?_⟩
    have e12 := e1.trans e2
    refine asg_step (kc hK (by decide) (ev_var rfl) fun H3 e3 => ⟨kv, k, rfl, hK.ex e3, rfl, hd, fun ov H4 e4 hov => ?_⟩)
    have e24 := e3.trans e4
    have e14 := e12.trans e24
    refine ⟨_, rfl, a, _, 1, .ref p1, rfl, rfl, .inl (.inl (e14 _ _ ha)), rfl, p1, us, rfl, .inl (.inl (e14 _ _ hp1)), ?_⟩
    refine for_it (walk_enumT (K := K) (a := p1) (xs := us)) (fun t σ' G => ∃ x4 x5, σ' = [some (.ref r'), some (.ref a), some kv, some ov, x4, x5] ∧ Ex H4 G ∧ ∀ u s', u < t → ss[u]? = some s' → tameB k s' = true) ⟨none, none, rfl, Ex.refl _, fun u s' hu => absurd hu (Nat.not_lt_zero u)⟩ (fun i σ' G _ h => ?_) ?_ ?_
    · obtain ⟨_, _, _, e, _⟩ := h
      exact .inl (.inl ((e14.trans e) _ _ hp1))
    · rintro t y σ' _ G hi ⟨x4, x5, rfl, eG, hT⟩ ⟨TT, a1, y', rfl, hTn, rfl, ha1, hy⟩
      obtain rfl := Option.some.inj ha1
      obtain ⟨dd, hd1, hd2⟩ := hus.get hy
      rw [List.getElem?_map] at hd1
      obtain ⟨st, hst, rfl⟩ := Option.map_eq_some_iff.mp hd1
      obtain ⟨s1, s2, s3⟩ := hok.step hst
      obtain ⟨b, u1, u2, u3, rfl, hb3, k1, k2, k3⟩ := id hd2.three
      have eT := Ex.new (o := .tup [.int (t : Nat), .ref b]) hTn
      have e4G := eG.trans eT
      have e1G := e14.trans e4G
      refine ⟨TT, _, rfl, .inl (.inl upd_same), rfl, _, _, rfl, _, _, rfl, rfl, ?_⟩
      refine s_when (b := !PyData.eqv (plus k (oneD k) st.2.2) (oneD k)) (et_test ?_) (fun hb' G2 e2' => ?_) (fun hb' G2 e2' => ?_)
      · exact fun G2 e2 Q' q' => kc (hK.ex ((e24.trans e4G).trans e2)) (by decide) (ev_var rfl) fun G3 e3 => ⟨_, rfl, _, rfl, b, _, 2, u3, rfl, rfl, .inl (.inl ((e1G.trans (e2.trans e3)) _ _ hb3)), rfl, kv, k, ov, u3, _, _, 4000, rfl, hK.ex ((e24.trans e4G).trans (e2.trans e3)), rfl, hd, hov.ex (e4G.trans (e2.trans e3)), k3.ex (e1G.trans (e2.trans e3)), good_one k, s3, (sz_one ok).up (by decide), (hs st (List.mem_of_getElem? hst)).up (by decide), Nat.le_refl _, fun z G4 e4 hz => ⟨_, rfl, (rv_neDt hz (hov.ex (e4G.trans ((e2.trans e3).trans e4))) (ord_shaped ho (good_plus k (good_one k) s3)) (ord_shaped ho (good_one k))) G4 (Ex.refl G4) _ (fun G5 e5 => q' G5 ((e3.trans e4).trans e5))⟩⟩
      · rw [Bool.not_eq_true'] at hb'
        refine ⟨_, rfl, rfl, fun d hdn => qE (.int (t : Nat)) ?_ d G2 (e1G.trans e2') hdn⟩
        rw [hbad, badAt_hit (i := 0) hT hst hb', Nat.zero_add]
        rfl
      · rw [Bool.not_eq_false'] at hb'
        refine ⟨_, _, rfl, e4G.trans e2', fun u s' hu hs' => ?_⟩
        by_cases hut : u < t
        · exact hT u s' hut hs'
        · obtain rfl : u = t := by omega
          rw [hst] at hs'
          obtain rfl := Option.some.inj hs'
          exact hb'
    · rintro σ' G ⟨x4, x5, rfl, eG, hT⟩
      refine qT ?_ G (e14.trans eG)
      rw [hbad, badAt_all fun s hs' => ?_]
      · rfl
      · obtain ⟨i, hi⟩ := List.mem_iff_getElem?.mp hs'
        have := (List.getElem?_eq_some_iff.mp hi).1
        exact hT i s (by omega) hi
end
end D1
end
section
set_option Elab.async false
set_option linter.all false
set_option maxRecDepth 100000
set_option maxHeartbeats 4000000
/-! R14: by_best -/
namespace D1
open PySem L2 Evl RZ ClX PySem.VX
theorem natsV_get {ws : List Nat} {t : Nat} {y : V} (h : (natsV ws)[t]? = some y) : ∃ u, ws[t]? = some u ∧ y = .int (u : Int) := by
  rw [List.getElem?_map] at h
  obtain ⟨u, hu, rfl⟩ := Option.map_eq_some_iff.mp h
  exact ⟨u, hu, rfl⟩
theorem take_mem {α : Type} {l : List α} {t : Nat} {x u : α} (h : l[t]? = some x) (hu : u ∈ l.take (t + 1)) : u ∈ l.take t ∨ u = x := by
  rw [take_snoc h] at hu
  rcases List.mem_append.mp hu with h | h
  · exact .inl h
  · exact .inr (List.mem_singleton.mp h)
/-- where a number stands first -/
theorem erase_at {x : Nat} : ∀ {ws : List Nat}, x ∈ ws → ∃ j : Nat, ws[j]? = some x ∧ (∀ m : Nat, m < j → ws[m]? ≠ some x) ∧ ws.eraseIdx j = ws.erase x
  | w :: r, h => by
    by_cases e : w = x
    · subst e
      exact ⟨0, rfl, fun m hm => absurd hm (Nat.not_lt_zero m), by rw [List.erase_cons_head]; rfl⟩
    · have hx : x ∈ r := by
        rcases List.mem_cons.mp h with rfl | h
        · exact absurd rfl e
        · exact h
      obtain ⟨j, h1, h2, h3⟩ := erase_at hx
      refine ⟨j + 1, by simpa using h1, fun m hm => ?_, ?_⟩
      · cases m with
        | zero => simpa using e
        | succ m => simpa using h2 m (by omega)
      · rw [List.erase_cons_tail (by simpa using e), ← h3]
        rfl
theorem ints_idx {ws : List Nat} {j x : Nat} : (ws.map Int.ofNat)[j]? = some ((x : Nat) : Int) ↔ ws[j]? = some x := by
  rw [List.getElem?_map, Option.map_eq_some_iff]
  constructor
  · rintro ⟨y, h, e⟩
    have : y = x := Int.ofNat.inj e
    rw [← this]
    exact h
  · exact fun h => ⟨x, h, rfl⟩
theorem ints_erase : ∀ (ws : List Nat) (j : Nat), ((ws.map Int.ofNat).eraseIdx j).map V.int = natsV (ws.eraseIdx j)
  | [], _ => rfl
  | w :: r, 0 => by
    show ((r.map Int.ofNat).map V.int) = natsV r
    rw [List.map_map]
    rfl
  | w :: r, j + 1 => by
    show V.int _ :: ((r.map Int.ofNat).eraseIdx j).map V.int = V.int _ :: natsV (r.eraseIdx j)
    rw [ints_erase r j]
    rfl
theorem nodup_le : ∀ {n : Nat} {ws : List Nat}, ws.Nodup → (∀ x ∈ ws, x < n) → ws.length ≤ n
  | n, ws, nd, h => by
    have := List.Nodup.length_le_of_subset nd (l₂ := List.range n) fun x hx => List.mem_range.mpr (h x hx)
    rwa [List.length_range] at this
def spBest (C : KC) (CR cN cO : Addr) : Sp := fun vs H Q E => ∃ (r v : V) (k : RK) (n st : Nat) (ss : List Step), vs = [r, v, .int (st : Int)] ∧ RingAt C CR H r k ∧ k.depth < 4 ∧ k.ok ∧ DtAt H v (webD n ss) ∧ WebOk k n ss ∧ (∀ s ∈ ss, Sz 140 s.2.2) ∧
  (¬ st < n → ∀ d H', Ex H H' → H' d = none → E (.ref cN) (some d) (upd H' d (.xd [("why", .str whyS)]))) ∧
  (st < n → ∀ p, badO k ss = some p → ∀ d H', Ex H H' → H' d = none → E (.ref cO) (some d) (upd H' d (.xd [("step", stepV p)]))) ∧
  (st < n → badO k ss = none → ∀ y, LeastR k ss n st y → SzR 1692 n y → ∀ x H', NewRow H (vec (fun j => (y j).1) n) x H' → Q x H')
section
variable {P : Program} {w : World} {K : PySem.W.Frag} {mg : Str → Option Value} {base : Heap}
abbrev s__best_of : Stmt := top 64
theorem sc__best_of : FnScope ["kind", "row", "states", "best", "state"] ["kind", "row", "states"] (defScope s__best_of) := ⟨rfl, rfl, rfl, by decide +kernel, rfl, by decide +kernel, by decide +kernel⟩
theorem ok__best_of {f : Addr} {fd : FuncData} (F : FnP K "_best_of" s__best_of f fd) {C : KC} (HA_plus : ∀ e sp, SK C (spPlus C 4) e = some sp → HeldM P w K mg base 5 "plus" e sp) : FnOk P w K mg base (CX0) 6 f fd ["kind", "row", "states"] (spBestOf C) := by
  refine F.ok (CX := CX0) sc__best_of (fun vs H Q E h => ?_) (fun cdv A outer s H vs Q E hr h => ?_)
  · obtain ⟨kv, rv, S, k, n, f, ws, B, rfl, _⟩ := h
    rfl
  · obtain ⟨kv, rv, S, k, n, f, ws, B, rfl, hK, hd, ho, hR, hsz, hB, hS, hne, hlt, hl, q⟩ := h
    have hu := hu_of hr
    have hu64 := hr.units
    have hr_plus := hr.mono (Nat.le_refl _)
    refine ⟨_, PSs.nox (pss_cons (ps_set (i := 3) sc__best_of.nd rfl (Or.inl rfl) (pe_ix ix_list (pv 2) pe_int (fun _ _ => rfl)))
      (pss_cons (ps_for PassesOwn.never rfl (pi_list (pv 2)) (pg_name (i := 4) sc__best_of.nd rfl (Or.inl rfl)) (pss_one (ps_if (pt_cmpR (op_neD hu64) (pe_methA (S := SK C (spPlus C 4)) HA_plus (pv 0) hr_plus (pa_cons (pe_ix ix_list (pv 1) (pv 3) (fun _ _ => rfl)) (pa_cons (pe_ix ix_list (pv 1) (pv 4) (fun _ _ => rfl)) pa_nil))) (pe_ix ix_list (pv 1) (pv 3) (fun _ _ => rfl)) (nomark _)) (pss_one (ps_set (i := 3) sc__best_of.nd rfl (Or.inl rfl) (pv 4))) pss_nil)))
      (pss_one (ps_ret (pv 3))))), ?_⟩
    obtain ⟨p, us, rfl, hp, lu, hus⟩ := hR.lst
    cases ws with
    | nil => exact absurd rfl hne
    | cons w0 r0 =>
    refine q_asg (v := .int (w0 : Int)) (ev_op (ev_var rfl) ev_c (rv_ixL (sq_of hS) (atI_of (Int.le_refl 0) rfl))) fun H1 e1 => ?_
    refine ⟨_, rfl, S, rfl, ⟨_, sq_of (e1 _ _ hS)⟩, ?_⟩
    refine for_it (walk_list (K := K) (a := S) (xs := natsV (w0 :: r0))) (fun t σ' G => ∃ b x4, σ' = [some kv, some (.ref p), some (.ref S), some (.int ((b : Nat) : Int)), x4] ∧ Ex H G ∧ b ∈ w0 :: r0 ∧ ∀ u ∈ (w0 :: r0).take t, lek k (f u) (f b)) ⟨w0, none, rfl, e1, List.mem_cons_self, fun u hu => by cases hu⟩ (fun i σ' G _ h => ?_) ?_ ?_
    · obtain ⟨_, _, _, e, _⟩ := h
      exact sq_of (e _ _ hS)
    · rintro t y σ' _ G hi ⟨b, x4, rfl, eG, hbm, hbt⟩ ⟨rfl, hy⟩
      obtain ⟨u, hu, rfl⟩ := natsV_get hy
      have hum := List.mem_of_getElem? hu
      have hbn := hlt b hbm
      have hun := hlt u hum
      have hxb : us[b]? = some us[b] := List.getElem?_eq_getElem (by omega)
      have hxu : us[u]? = some us[u] := List.getElem?_eq_getElem (by omega)
      have gp := good_plus k (f b).2 (f u).2
      refine s_when (b := !PyData.eqv (plus k (f b).1 (f u).1) (f b).1) (et_test ?_) (fun hb' G2 e2' => ?_) (fun hb' G2 e2' => ?_)
      · exact fun G2 e2 Q' q' => kc (hK.ex (eG.trans e2)) (by decide) (ev_var rfl) fun G3 e3 => ⟨_, rfl, _, rfl, p, us, (b : Int), us[b], rfl, rfl, sq_of ((eG.trans (e2.trans e3)) _ _ hp), atI_nat hxb, _, rfl, _, rfl, p, us, (u : Int), us[u], rfl, rfl, sq_of ((eG.trans (e2.trans e3)) _ _ hp), atI_nat hxu, kv, k, us[b], us[u], _, _, B, rfl, hK.ex (eG.trans (e2.trans e3)), rfl, hd, (hus b _ hxb).ex (eG.trans (e2.trans e3)), (hus u _ hxu).ex (eG.trans (e2.trans e3)), (f b).2, (f u).2, hsz b hbn, hsz u hun, hB, fun z G4 e4 hz => ⟨_, rfl, _, rfl, p, us, (b : Int), us[b], rfl, rfl, sq_of ((eG.trans ((e2.trans e3).trans e4)) _ _ hp), atI_nat hxb, (rv_neDt hz ((hus b _ hxb).ex (eG.trans ((e2.trans e3).trans e4))) (ord_shaped ho gp) (ord_shaped ho (f b).2)) G4 (Ex.refl G4) _ (fun G5 e5 => q' G5 ((e3.trans e4).trans e5))⟩⟩
      · rw [Bool.not_eq_true'] at hb'
        have hne' : (WS k).add (f b) (f u) ≠ f b := fun e => by
          have := (eqv_ord ho gp (f b).2).mpr (congrArg Subtype.val e)
          rw [this] at hb'
          cases hb'
        have hbu := ord_total ho hne'
        refine ⟨_, rfl, u, _, rfl, eG.trans e2', hum, fun v hv => ?_⟩
        rcases take_mem hu hv with h | rfl
        · exact (WS k).le_trans (hbt v h) hbu
        · exact (WS k).le_refl _
      · rw [Bool.not_eq_false'] at hb'
        have he : (WS k).add (f b) (f u) = f b := Subtype.ext ((eqv_ord ho gp (f b).2).mp hb')
        refine ⟨b, _, rfl, eG.trans e2', hbm, fun v hv => ?_⟩
        rcases take_mem hu hv with h | rfl
        · exact hbt v h
        · exact (ord_le ho).mpr he
    · rintro σ' G ⟨b, x4, rfl, eG, hbm, hbt⟩
      have hlen : (natsV (w0 :: r0)).length = (w0 :: r0).length := List.length_map _
      rw [hlen, List.take_length] at hbt
      exact s_ret (ev_var rfl) fun H' e' => q b H' hbm hbt (eG.trans e')
abbrev s_by_best : Stmt := top 62
theorem sc_by_best : FnScope ["ring", "web", "start", "kind", "row", "waiting", "state", "i", "j", "weight", "_"] ["ring", "web", "start"] (defScope s_by_best) := ⟨rfl, rfl, rfl, by decide +kernel, rfl, by decide +kernel, by decide +kernel⟩
theorem ok_by_best {f : Addr} {fd : FuncData} (F : FnP K "by_best" s_by_best f fd) {C : KC} {CR : Addr} (T : RingF K CR) (HA_plus : ∀ e sp, SK C (spPlus C 4) e = some sp → HeldM P w K mg base 5 "plus" e sp) (HA_times : ∀ e sp, SK C (spTimes C 4) e = some sp → HeldM P w K mg base 5 "times" e sp) (HA_zero : ∀ e sp, SK C (spZero C 4) e = some sp → HeldM P w K mg base 1 "zero" e sp) (HA_one : ∀ e sp, SK C (spOne C 4) e = some sp → HeldM P w K mg base 1 "one" e sp) {f_need_web : Addr} {fd_need_web : FuncData} (F_need_web : FnP K "need_web" s_need_web f_need_web fd_need_web) (g_need_web : mg "need_web" = some (.ref f_need_web)) (G_need_web : FnOk P w K mg base (CX0) 10 f_need_web fd_need_web ["ring", "web"] (spNeedWeb C CR)) {cN cO : Addr} {f_need_state : Addr} {fd_need_state : FuncData} (F_need_state : FnP K "need_state" s_need_state f_need_state fd_need_state) (g_need_state : mg "need_state" = some (.ref f_need_state)) (G_need_state : FnOk P w K mg base (L2.CX P w) 3 f_need_state fd_need_state ["web", "thing"] (spNeedState cN)) {f__need_no_bettering : Addr} {fd__need_no_bettering : FuncData} (F__need_no_bettering : FnP K "_need_no_bettering" s__need_no_bettering f__need_no_bettering fd__need_no_bettering) (g__need_no_bettering : mg "_need_no_bettering" = some (.ref f__need_no_bettering)) (G__need_no_bettering : FnOk P w K mg base (L2.CX P w) 6 f__need_no_bettering fd__need_no_bettering ["ring", "web"] (spNoBet C CR cO)) {f__best_of : Addr} {fd__best_of : FuncData} (F__best_of : FnP K "_best_of" s__best_of f__best_of fd__best_of) (g__best_of : mg "_best_of" = some (.ref f__best_of)) (G__best_of : FnOk P w K mg base (CX0) 6 f__best_of fd__best_of ["kind", "row", "states"] (spBestOf C)) {f_kind : Addr} {fd_kind : FuncData} (m_kind : Meth K CR "kind" f_kind) (b_kind : Binds K fd_kind ["self"] []) (G_kind : FnOk P w K mg base CX0 1 f_kind fd_kind ["self"] (spRKind C CR)) (z_range : mg "range" = none) (z_list : mg "list" = none) : FnOk P w K mg base (L2.CX P w) 11 f fd ["ring", "web", "start"] (spBest C CR cN cO) := by
  have b_need_web : Binds K fd_need_web ["ring", "web"] [] := F_need_web.bindsN fun _ _ _ _ _ _ us hl => match us, hl with | [_, _], _ => rfl
  have b_need_state : Binds K fd_need_state ["web", "thing"] [] := F_need_state.bindsN fun _ _ _ _ _ _ us hl => match us, hl with | [_, _], _ => rfl
  have b__need_no_bettering : Binds K fd__need_no_bettering ["ring", "web"] [] := F__need_no_bettering.bindsN fun _ _ _ _ _ _ us hl => match us, hl with | [_, _], _ => rfl
  have b__best_of : Binds K fd__best_of ["kind", "row", "states"] [] := F__best_of.bindsN fun _ _ _ _ _ _ us hl => match us, hl with | [_, _, _], _ => rfl
  refine F.ok (CX := L2.CX P w) sc_by_best (fun vs H Q E h => ?_) (fun cdv A outer s H vs Q E hr h => ?_)
  · obtain ⟨r, v, k, n, st, ss, rfl, _⟩ := h
    rfl
  · obtain ⟨r, v, k, n, st, ss, rfl, hR, hd, ok, hW, hok, hs, qN, qO, qT⟩ := h
    have hu := hu_of hr
    have hu64 := hr.units
    have hr_plus := hr.mono (by decide : 5 ≤ 10)
    have hr_times := hr.mono (by decide : 5 ≤ 10)
    have hr_zero := hr.mono (by decide : 1 ≤ 10)
    have hr_one := hr.mono (by decide : 1 ≤ 10)
    have hr_need_web := hr.mono (Nat.le_refl _)
    have hr_need_state := hr.mono (by decide : 3 ≤ 10)
    have hr__need_no_bettering := hr.mono (by decide : 6 ≤ 10)
    have hr__best_of := hr.mono (by decide : 6 ≤ 10)
    have hr_kind := hr.mono (by decide : 1 ≤ 10)
    refine ⟨_, (pss_cons (ps_expr (pe_call G_need_web hr_need_web rfl g_need_web F_need_web.kp b_need_web .nil pass0 (pa_cons (pv 0) (pa_cons (pv 1) pa_nil))))
      (pss_cons (ps_expr (pe_call G_need_state hr_need_state rfl g_need_state F_need_state.kp b_need_state .nil (passes_call (takes_of rfl rfl rfl rfl) (fun _ _ _ _ h => h)) (pa_cons (pv 1) (pa_cons (pv 2) pa_nil))))
      (pss_cons (ps_expr (pe_call G__need_no_bettering hr__need_no_bettering rfl g__need_no_bettering F__need_no_bettering.kp b__need_no_bettering .nil (passes_call (takes_of rfl rfl rfl rfl) (fun _ _ _ _ h => h)) (pa_cons (pv 0) (pa_cons (pv 1) pa_nil))))
      (pss_cons (ps_set (i := 3) sc_by_best.nd rfl (Or.inr rfl) (pe_meth0 (C := CR) (pv 0) T.ok.cls m_kind G_kind hr_kind b_kind .nil pass0))
      (pss_cons (ps_setLc (i := 4) (own := [("_", 10)]) (g := gName 10) (tt := tYes) (by rfl) sc_by_best.nd rfl rfl (sw_true rfl rfl rfl (by decide +kernel)) (pi_range1 rfl z_range (pa_cons (pe_ix ix_tup (pv 1) pe_int (fun _ _ => rfl)) pa_nil)) (blkOk_by (own := [("_", 10)]) (N := ["ring", "web", "start", "kind", "row", "waiting", "state", "i", "j", "weight", "_"]) (sc := defScope s_by_best) (by decide +kernel)) (fun _ _ _ _ _ => pg_name (i := 10) sc_by_best.nd rfl (Or.inl rfl)) (fun _ _ _ _ _ => pts_nil) (fun _ _ _ _ _ => pe_methA0 (S := SK C (spZero C 4)) HA_zero (pv 3) hr_zero))
      (pss_cons (ps_asg (pe_methA0 (S := SK C (spOne C 4)) HA_one (pv 3) hr_one) (pg_sub (pv 4) (pv 2) set_list))
      (pss_cons (ps_set (i := 5) sc_by_best.nd rfl (Or.inl rfl) (pe_listRg rfl rfl z_list (prg_1 rfl z_range (pe_ix ix_tup (pv 1) pe_int (fun _ _ => rfl)))))
      (pss_cons (ps_while (passes_of rfl) (pt_truth (pv 5) (fun _ => rfl)) (pss_cons (ps_set (i := 6) sc_by_best.nd rfl (Or.inl rfl) (pe_call G__best_of hr__best_of rfl g__best_of F__best_of.kp b__best_of .nil pass0 (pa_cons (pv 3) (pa_cons (pv 4) (pa_cons (pv 5) pa_nil)))))
      (pss_cons (ps_expr (pe_bm PySem.F.plainAttrs_list PySem.F.slot_list_remove PySem.F.type_list_remove mt_remove (pv 5) (pa_cons (pv 6) pa_nil)))
      (pss_one (ps_for (passes_of rfl) rfl (pi_tup (pe_ix ix_tup (pv 1) pe_int (fun _ _ => rfl))) (pg_tup rfl (pgs_cons (pg_name (i := 7) sc_by_best.nd rfl (Or.inl rfl)) (pgs_cons (pg_name (i := 8) sc_by_best.nd rfl (Or.inl rfl)) (pgs_cons (pg_name (i := 9) sc_by_best.nd rfl (Or.inl rfl)) pgs_nil)))) (pss_one (ps_if (pt_cmpR op_eq (pv 7) (pv 6) (nomark _)) (pss_one (ps_asg (pe_methA (S := SK C (spPlus C 4)) HA_plus (pv 3) hr_plus (pa_cons (pe_ix ix_list (pv 4) (pv 8) (fun _ _ => rfl)) (pa_cons (pe_methA (S := SK C (spTimes C 4)) HA_times (pv 3) hr_times (pa_cons (pe_ix ix_list (pv 4) (pv 7) (fun _ _ => rfl)) (pa_cons (pv 9) pa_nil))) pa_nil))) (pg_sub (pv 4) (pv 8) set_list))) pss_nil)))))))
      (pss_one (ps_ret (pv 4))))))))))), ?_⟩
    obtain ⟨a, p1, us, rfl, ha, hp1, hus, hlen⟩ := web_at hW
    have n12 := hok.n12
    have n1 := hok.n1
    refine q_drop (v := .non) (ev_call (ea_cons (ev_var rfl) (ea_cons (ev_var rfl) ea_nil)) fun H1 e1 Q' k' E' => ⟨r, k, n, .ref a, ss, rfl, hR.ex e1, hd, hW.ex e1, hok, fun H2 e2 => k' H2 e2⟩) fun H1 e1 => ?_
    refine ⟨_, rfl, _, rfl, .ref a, n, st, ss, rfl, hW.ex e1, fun hst H2 e2 => ?_, fun hst d H2 e2 hdn => qN hst d H2 (e1.trans e2) hdn⟩
    have e12 := e1.trans e2
    refine ⟨_, rfl, _, rfl, r, .ref a, k, n, ss, rfl, hR.ex e12, hd, ok, hW.ex e12, hok, hs, fun p hp d H3 e3 hdn => qO hst p hp d H3 (e12.trans e3) hdn, fun hbad H3 e3 => ?_⟩
    have e13 := e12.trans e3
    replace qT := qT hst hbad
    have hb : ordB k = true := by
      unfold badO at hbad
      cases h : ordB k with
      | true => rfl
      | false =>
        rw [h, if_neg Bool.false_ne_true] at hbad
        cases hbad
    have ho := ordB_of hb
    have ht : ∀ s ∈ ss, tameB k s = true := by
      refine badAt_none (i := 0) ?_
      unfold badO at hbad
      rw [hb, if_pos rfl, Option.map_eq_none_iff] at hbad
      exact hbad
    have idem := idem_k (ord_idem ho)
    have top := stA_le ho hok ht
    obtain ⟨r', dr, fr, rfl, hr2, hn⟩ := (hR.ex e13).no (m := ("kind" : Str)) (by decide)
    dsimp only
    refine asg_step ⟨_, rfl, r', dr, fr, rfl, hr2, hn, .ref r', k, rfl, hR.ex e13, fun kv H4 e4 hK => ?_⟩
    have e14 := e13.trans e4
    refine asg_p (lcr_row (n := n) (f := fun _ => zeroD k) (ea_cons (ev_op (ev_var rfl) ev_c (rv_ixT (.inl (.inl (e14 _ _ ha))) rfl)) ea_nil) (by omega) (fun _ => rfl) fun i G hi e Q' q' => kc (hK.ex e) (by decide) (ev_var rfl) fun G1 e1' => ⟨kv, k, rfl, hK.ex (e.trans e1'), rfl, hd, fun z G2 e2' hz => q' z G2 ⟨e1'.trans e2', hz⟩⟩) fun rv H5 hx5 => ?_
    obtain ⟨e5, D, rfl, hDn, hD5⟩ := hx5
    refine kc (hK.ex e5) (by decide) (ev_var rfl) fun H6 e6 => ⟨kv, k, rfl, hK.ex (e5.trans e6), rfl, hd, fun ov H7 e7 hov => ?_⟩
    have e67 := e6.trans e7
    obtain ⟨p, us5, ep, hp5, lu5, hus5⟩ := (hD5.ex e67).lst
    obtain rfl := V.ref.inj ep
    refine ⟨_, rfl, _, rfl, D, us5, (st : Int), st, rfl, rfl, hp5, ixN_nat (by omega), ?_⟩
    have e47 := e5.trans e67
    have e48 : Ex H4 (upd H7 D (.lst (us5.set st ov))) := Ex.mut e47 hDn
    have kp8 := upd_kp hp5 (ys := us5.set st ov)
    have hR8 : RowAt (upd H7 D (.lst (us5.set st ov))) (.ref D) (vec (fun j => ((WS k).dl st j).1) n) := by
      obtain ⟨p', us', ep', hp', hds⟩ := hD5.ex e67
      obtain rfl := V.ref.inj ep'
      rw [hp5] at hp'
      cases hp'
      refine ⟨_, _, rfl, upd_same, ?_⟩
      have := (hds.set (j := st) hov).kp kp8
      rw [vec_congr (g := fun j => ((WS k).dl st j).1) fun j hj => ?_] at this
      · exact this
      · unfold SR.dl
        by_cases e : j = st
        · rw [if_pos e, if_pos e.symm]
          rfl
        · rw [if_neg e, if_neg (Ne.symm e)]
          rfl
    generalize hG8 : (upd H7 D (.lst (us5.set st ov))) = H8 at e48 hR8 ⊢
    have e18 := e14.trans e48
    refine ⟨_, rfl, a, _, 0, .int (n : Int), rfl, rfl, .inl (.inl (e18 _ _ ha)), rfl, (n : Int), rfl, rg_ok (by omega), fun W hWn => ?_⟩
    rw [rg_nats]
    have hWD : W ≠ D := fun z => by
      obtain ⟨_, _, ez, hz, _⟩ := hR8
      obtain rfl := V.ref.inj ez
      rw [z] at hWn
      rw [hz] at hWn
      cases hWn
    have hW4 : H4 W = none := fresh_back e48 hWn
    refine ⟨fun m σ' G => ∃ (ws : List Nat) (f : Nat → Wt k) (x6 x7 x8 x9 : Option V), m = ws.length ∧ σ' = [some (.ref r'), some (.ref a), some (.int (st : Int)), some kv, some (.ref D), some (.ref W), x6, x7, x8, x9, none] ∧ Ex H4 G ∧ RowAt G (.ref D) (vec (fun j => (f j).1) n) ∧ G W = some (.lst (natsV ws)) ∧ ws.Nodup ∧ (∀ x ∈ ws, x < n) ∧ (WS k).Dij (stA k ss) n st f ws ∧ SzR (12 + 140 * (n - ws.length)) n f, ⟨n, List.range n, (WS k).dl st, none, none, none, none, (List.length_range).symm, rfl, e48.trans (Ex.new hWn), hR8.ex (Ex.new hWn), upd_same, List.nodup_range, fun x hx => List.mem_range.mp hx, (WS k).dij_start, fun i hi => ?_⟩, ?_⟩
    · refine Sz.up (B := 12) ?_ (by omega)
      unfold SR.dl
      split
      · exact sz_one ok
      · exact sz_zero k ho
    rintro m σ' G ⟨ws, f, x6, x7, x8, x9, rfl, rfl, eG, hRG, hWG, nd, hlt, hDij, hsz⟩
    have hwl := nodup_le nd hlt
    refine ⟨_, rfl, !ws.isEmpty, .inl ⟨_, sq_of hWG, by cases ws <;> rfl⟩, ?_⟩
    cases ws with
    | nil =>
      refine s_ret (ev_var rfl) fun H' e' => qT f ?_ (fun i hi => (hsz i hi).up ?_) _ H' ⟨(e14.trans eG).trans e', D, rfl, fresh_back e14 hDn, hRG.ex e'⟩
      · exact (WS k).dij_end idem hDij
      · show 12 + 140 * (n - 0) ≤ 1692
        omega
    | cons w0 r0 =>
      refine ⟨fun σ' G' => ∃ (ws : List Nat) (f : Nat → Wt k) (x6 x7 x8 x9 : Option V), r0.length = ws.length ∧ σ' = [some (.ref r'), some (.ref a), some (.int (st : Int)), some kv, some (.ref D), some (.ref W), x6, x7, x8, x9, none] ∧ Ex H4 G' ∧ RowAt G' (.ref D) (vec (fun j => (f j).1) n) ∧ G' W = some (.lst (natsV ws)) ∧ ws.Nodup ∧ (∀ x ∈ ws, x < n) ∧ (WS k).Dij (stA k ss) n st f ws ∧ SzR (12 + 140 * (n - ws.length)) n f, fun σ' G' h => ⟨r0.length, Nat.lt_succ_self _, h⟩, ?_⟩
      have hB0 : 12 + 140 * (n - (w0 :: r0).length) + 140 ≤ 4000 := by omega
      refine asg_step ⟨_, rfl, _, rfl, _, rfl, kv, .ref D, W, k, n, f, w0 :: r0, _, rfl, hK.ex eG, hd, ho, hRG, hsz, by omega, hWG, (by simp), hlt, by omega, fun x G1 hxm hbest e1' => ?_⟩
      obtain ⟨j, hj1, hj2, hj3⟩ := erase_at hxm
      have hxn := hlt x hxm
      have eG1 := eG.trans e1'
      have hWG1 := e1' _ _ hWG
      have nW : (natsV (w0 :: r0)) = ((w0 :: r0).map Int.ofNat).map V.int := by rw [List.map_map]; rfl
      refine ⟨_, rfl, .inl ⟨rfl, _, sq_of hWG1⟩, _, rfl, W, (w0 :: r0).map Int.ofNat, (x : Int), j, rfl, rfl, by rw [← nW]; exact hWG1, ints_idx.mpr hj1, fun m hm h => hj2 m hm (ints_idx.mp h), ?_⟩
      rw [ints_erase, hj3]
      have e4W : Ex H4 (upd G1 W (.lst (natsV ((w0 :: r0).erase x)))) := Ex.mut eG1 hW4
      have hRW : RowAt (upd G1 W (.lst (natsV ((w0 :: r0).erase x)))) (.ref D) (vec (fun j => (f j).1) n) := (hRG.ex e1').aw hWG1 (fun z => hWD (V.ref.inj z).symm)
      have hWW : (upd G1 W (.lst (natsV ((w0 :: r0).erase x)))) W = some (.lst (natsV ((w0 :: r0).erase x))) := upd_same
      generalize (upd G1 W (.lst (natsV ((w0 :: r0).erase x)))) = G2 at e4W hRW hWW ⊢
      have e12W := e14.trans e4W
      dsimp only
      refine ⟨_, rfl, a, _, 1, .ref p1, rfl, rfl, .inl (.inl (e12W _ _ ha)), rfl, p1, rfl, ⟨us, .inl (.inl (e12W _ _ hp1))⟩, ?_⟩
      refine for_it (walk_tup (K := K) (a := p1) (xs := us)) (fun t σ' G' => ∃ x7 x8 x9, σ' = [some (.ref r'), some (.ref a), some (.int (st : Int)), some kv, some (.ref D), some (.ref W), some (.int (x : Int)), x7, x8, x9, none] ∧ Ex H4 G' ∧ RowAt G' (.ref D) (vec (fun j => (inW k f x (ss.take t) j).1) n) ∧ G' W = some (.lst (natsV ((w0 :: r0).erase x)))) ⟨_, _, _, rfl, e4W, ?_, hWW⟩ (fun i σ' G' _ h => ?_) ?_ ?_
      · rw [vec_congr (g := fun j => (f j).1) fun j _ => by rw [List.take_zero, inW_0]]
        exact hRW
      · obtain ⟨_, _, _, _, e, _⟩ := h
        exact .inl (.inl ((e14.trans e) _ _ hp1))
      · rintro t y σ' _ G' hi ⟨x7, x8, x9, rfl, eG', hT, hWT⟩ ⟨rfl, hy⟩
        obtain ⟨dd, hd1, hd2⟩ := hus.get hy
        rw [List.getElem?_map] at hd1
        obtain ⟨s, hst', rfl⟩ := Option.map_eq_some_iff.mp hd1
        obtain ⟨s1, s2, s3⟩ := hok.step hst'
        have hszs := hs s (List.mem_of_getElem? hst')
        obtain ⟨b, u1, u2, u3, rfl, hb3, k1, k2, k3⟩ := id hd2.three
        obtain rfl := k1.int_inv
        obtain rfl := k2.int_inv
        have e1G := e14.trans eG'
        refine ⟨b, _, rfl, .inl (.inl (e1G _ _ hb3)), rfl, _, _, rfl, _, _, rfl, _, _, rfl, rfl, ?_⟩
        refine s_when (b := ((s.1 : Int) == (x : Int))) (et_test (ev_eqI (ev_var rfl) (ev_var rfl))) (fun hb' G3 e3' => ?_) (fun hb' G3 e3' => ?_)
        · have hsx : s.1 = x := by
            have := beq_iff_eq.mp hb'
            omega
          obtain ⟨pd, ds, ep, hpd, hdl, hds⟩ := (hT.ex e3').lst
          obtain rfl := V.ref.inj ep
          have eG3 := eG'.trans e3'
          have hxj : ds[s.2.1]? = some ds[s.2.1] := List.getElem?_eq_getElem (by omega)
          obtain ⟨vx, hxx⟩ : ∃ vx, ds[s.1]? = some vx := ⟨_, List.getElem?_eq_getElem (by omega)⟩
          have dx := hds s.1 _ hxx
          rw [hsx] at dx
          rw [inW_self ho hok ht] at dx
          refine kc (hK.ex eG3) (by decide) (ev_var rfl) fun G4 e4' => ⟨_, rfl, _, rfl, D, ds, (s.2.1 : Int), _, rfl, rfl, sq_of (e4' _ _ hpd), atI_nat hxj, kc (hK.ex (eG3.trans e4')) (by decide) (ev_var rfl) fun G5 e5' => ⟨_, rfl, _, rfl, D, ds, (s.1 : Int), _, rfl, rfl, sq_of ((e4'.trans e5') _ _ hpd), atI_nat hxx, _, rfl, ?_⟩⟩
          have e45 := e4'.trans e5'
          refine ⟨kv, k, _, u3, _, _, 12 + 140 * (n - (w0 :: r0).length) + 140, rfl, hK.ex (eG3.trans e45), rfl, hd, dx.ex e45, k3.ex (e1G.trans (e3'.trans e45)), (f x).2, s3, (hsz x hxn).up (by omega), hszs.up (by omega), by omega, fun z G6 e6' hz => ?_⟩
          have e46 := e45.trans e6'
          refine ⟨kv, k, _, z, _, _, 4000, rfl, hK.ex (eG3.trans e46), rfl, hd, (hds s.2.1 _ hxj).ex e46, hz, (inW k f x (ss.take t) s.2.1).2, good_times k (f x).2 s3, (inW_sz ho hok hs (by omega) hsz hxn t s2).up hB0, (sz_times k (f x).2 s3 (hsz x hxn) hszs (by omega) (by decide)).up hB0, Nat.le_refl _, fun z2 G7 e7' hz2 => ?_⟩
          have e47' := e46.trans e7'
          refine ⟨_, rfl, _, rfl, D, ds, (s.2.1 : Int), s.2.1, rfl, rfl, e47' _ _ hpd, ixN_nat (by omega), ?_⟩
          refine ⟨_, _, _, rfl, Ex.mut (eG3.trans e47') hDn, ?_, ?_⟩
          · obtain ⟨pd2, ds2, ed2, hpd2, hds2⟩ := (hT.ex e3').ex e47'
            obtain rfl := V.ref.inj ed2
            rw [e47' _ _ hpd] at hpd2
            cases hpd2
            have kp := upd_kp (e47' _ _ hpd) (ys := ds.set s.2.1 z2)
            refine ⟨_, _, rfl, upd_same, ?_⟩
            have := (hds2.set (j := s.2.1) hz2).kp kp
            rw [vec_congr fun j hj => ?_] at this
            · exact this
            · show (if j = s.2.1 then _ else _) = (inW k f x (ss.take (t + 1)) j).1
              rw [inW_snoc f x j hst']
              unfold stW
              by_cases hc : j = s.2.1
              · subst hc
                rw [if_pos rfl, if_pos ⟨hsx, rfl⟩]
                show _ = plus k _ (times k (f x).1 (toW k s.2.2).1)
                rw [toW_val s3]
              · rw [if_neg hc, if_neg fun h => hc h.2.symm, (WS k).mul_zero, (WS k).add_zero]
          · rw [upd_ne hWD]
            exact (e3'.trans e47') _ _ hWT
        · refine ⟨_, _, _, rfl, eG'.trans e3', ?_, e3' _ _ hWT⟩
          rw [vec_congr (g := fun j => (inW k f x (ss.take t) j).1) fun j _ => ?_]
          · exact hT.ex e3'
          · rw [inW_snoc f x j hst']
            unfold stW
            rw [if_neg fun h => ?_, (WS k).mul_zero, (WS k).add_zero]
            have := beq_eq_false_iff_ne.mp hb'
            exact this (by rw [h.1])
      · rintro σ' G' ⟨x7, x8, x9, rfl, eG', hT, hWT⟩
        rw [hlen, List.take_length] at hT
        have hel : ((w0 :: r0).erase x).length = r0.length := by rw [List.length_erase_of_mem hxm]; rfl
        have hfe : (fun j => inW k f x ss j) = (WS k).rlx (stA k ss) f x := funext fun j => inW_all k f x ss j
        refine ⟨(w0 :: r0).erase x, fun j => inW k f x ss j, _, _, _, _, hel.symm, rfl, eG', hT, hWT, nd.erase x, fun u hu => hlt u (List.mem_of_mem_erase hu), ?_, fun i hi => ?_⟩
        · rw [hfe]
          exact (WS k).dij_step idem top hDij hxn nd hxm hbest
        · have := inW_sz ho hok hs (by omega) hsz hxn ss.length hi
          rw [List.take_length] at this
          refine this.up ?_
          rw [hel]
          have h1 : (w0 :: r0).length = r0.length + 1 := rfl
          rw [h1] at hwl ⊢
          omega
end
end D1
end
section
set_option Elab.async false
set_option linter.all false
set_option maxRecDepth 100000
set_option maxHeartbeats 4000000
/-! LE20: what the program told -/
namespace L2
open PySem PySem.Spec PyProof.Rows PySem.VX
section
variable {K : PySem.W.Frag} {x qual : Str} {params : Arguments} {body : List Stmt} {scope : Scope} {kws : List (Str × V)} {f : Addr} {fd : FuncData} {ps : List Str}
theorem FunD.kbn0 (F : FunD K x qual params body scope [] kws f fd) (n : Nat) (ks : List Str) (g : {α : Type} → List α → List α → List α)
    (hrel : ∀ {vs zs : List V} {us ws : List Value}, Vals vs us → Vals zs ws → Vals (g vs zs) (g us ws))
    (h : ∀ (kV doc pm : Value) (an : Option Addr) (cdv ct : Value) (us ws : List Value), us.length = n → ws.length = ks.length → bindArgs (PySem.W.fnOf x qual params body scope .none kV doc pm an cdv ct) ⟨us, ks.zip ws⟩ = pure (ps.zip (g us ws))) :
    KBn K fd ps n ks (fun us ws => g us ws) (fun vs zs => g vs zs) := by
  obtain ⟨oc, od, dV, kV, doc, pm, an, cdv, ct, osl, rfl, lk, hcd, hD, hK⟩ := F.ex
  rcases hD with ⟨_, rfl⟩ | ⟨e, _⟩
  · exact ⟨fun s us ws X l1 l2 => .of_eq (h kV doc pm an cdv ct us ws l1 l2), fun r1 r2 => hrel r1 r2⟩
  · exact absurd rfl e
end
section
variable {X : Cx} {CX : CXT} {k n : Nat} {f : Addr} {fd : FuncData} {ps ks : List Str} {sp : Sp} {E : XK} {ES : St → XK} {x : Str} {p pos : Pos} {e : Expr} {es : List Expr} {kws : List Keyword} {t tk : TA} {g : List Value → List Value → List Value} {gV : List V → List V → List V}
/-- f(k = v, ..), keywords only -/
theorem pe_callN0 (F : FnOk X.prog X.w X.K X.mg X.base CX k f fd ps sp) (hr : Room k X.A) (hg : Gl X x) (hm : X.mg x = some (.ref f)) (hk : PySem.W.keepIn X.K (.ref f) = true) (hb : KBn X.K fd ps 0 ks g gV) (hx : Passes CX X E)
    (hkw : PK X kws tk) (hall : (backToKw pos (keywordEach kws X.env)).all (·.1.isSome) = true := by rfl) (hks : (backToKw pos (keywordEach kws X.env)).filterMap (·.1) = ks := by rfl)
    (hdb : (x == ("__debug__" : Str)) = false := by decide) (hpl : ((backTo pos (starEach [] X.env)).any (·.1) || (backToKw pos (keywordEach kws X.env)).any (·.1.isNone)) = false := by rfl) :
    PE X (.Call (.Name x p) [] kws pos) (tCallN 0 ks.length sp gV E tNil tk) := by
  refine ⟨fun pins s σ H Q I h => ?_⟩
  refine wpAny_Call_Name_kw (ld_glob I hg hm ?_ hdb)
  refine PySem.W.callWith_KW0 (h₀ := X.base) I.ok.mod.kin hk hall ?_ hpl
  refine thn (hkw.run pos pins s σ H _ I h) fun ws s2 ⟨zs, H2, I2, rz, l1, l2, q2⟩ => ⟨I2.kIn, ?_⟩
  rw [hks]
  exact run_fnN (us := []) (vs := []) F hr hb hx I2 .nil rz rfl l2 q2
def tCallNS (n m : Nat) (sp : Sp) (gV : List V → List V → List V) (E : St → XK) (t tk : TA) : TE := fun σ H Q => t σ H fun vs H1 => tk σ H1 fun zs H2 => vs.length = n ∧ zs.length = m ∧ sp (gV vs zs) H2 Q (E σ)
theorem run_fnNS {pins : List (Addr × Obj)} {σ : St} {H : Hp} {s : Shared} {Q : VK} {us ws : List Value} {vs zs : List V} (F : FnOk X.prog X.w X.K X.mg X.base CX k f fd ps sp) (hr : Room k X.A) (hb : KBn X.K fd ps n ks g gV) (hx : PassesAt CX X σ (ES σ))
    (I : Inv X pins σ H s) (r : Vals vs us) (rz : Vals zs ws) (l1 : vs.length = n) (l2 : zs.length = ks.length) (h : sp (gV vs zs) H Q (ES σ)) : wpAny (model X.prog X.w) X.A (call (.ref f) us (ks.zip ws)) (EP X pins σ Q) X.xe s := by
  have r2 := hb.rel r rz
  refine wpAny_call (codeAny_mono (F.run X.A X.stack s H ⟨us, ks.zip ws⟩ (g us ws) (gV vs zs) Q (ES σ) hr I.env0 (hb.to s us ws I.kIn (r.length.symm.trans l1) (rz.length.symm.trans l2)) r2 h) fun r s' hq => ?_)
  cases r with
  | error e => exact hx pins H s e s' I hq
  | ok fl =>
    cases fl with
    | ret u => exact I.after hq
    | next => exact False.elim hq
    | brk => exact False.elim hq
    | cont => exact False.elim hq
/-- f(e, .., k = v, ..) within a suite -/
theorem pe_callNS (F : FnOk X.prog X.w X.K X.mg X.base CX k f fd ps sp) (hr : Room k X.A) (hg : Gl X x) (hm : X.mg x = some (.ref f)) (hk : PySem.W.keepIn X.K (.ref f) = true) (hb : KBn X.K fd ps n ks g gV) (hx : ∀ σ, PassesAt CX X σ (ES σ))
    (ha : PA X (e :: es) t) (hkw : PK X kws tk) (hall : (backToKw pos (keywordEach kws X.env)).all (·.1.isSome) = true := by rfl) (hks : (backToKw pos (keywordEach kws X.env)).filterMap (·.1) = ks := by rfl)
    (hdb : (x == ("__debug__" : Str)) = false := by decide) (he : starEach (e :: es) X.env = (false, eval e X.env) :: starEach es X.env := by rfl)
    (hpl : ((backTo pos (starEach (e :: es) X.env)).any (·.1) || (backToKw pos (keywordEach kws X.env)).any (·.1.isNone)) = false := by rfl) :
    PE X (.Call (.Name x p) (e :: es) kws pos) (tCallNS n ks.length sp gV ES t tk) := by
  refine ⟨fun pins s σ H Q I h => ?_⟩
  refine wpAny_Call_Name_kw (ld_glob I hg hm ?_ hdb)
  refine PySem.W.callWith_KW (h₀ := X.base) I.ok.mod.kin hk hall (thn (ha.run pos pins s σ H _ I h) fun us s1 ⟨vs, H1, I1, r, q⟩ => ?_) hpl he
  refine thn (hkw.run pos pins s1 σ H1 _ I1 q) fun ws s2 ⟨zs, H2, I2, rz, l1, l2, q2⟩ => ⟨I2.kIn, ?_⟩
  rw [hks]
  exact run_fnNS F hr hb (hx σ) I2 r rz l1 l2 q2
/-- f(k = v, ..), keywords only, within a suite -/
theorem pe_callN0S (F : FnOk X.prog X.w X.K X.mg X.base CX k f fd ps sp) (hr : Room k X.A) (hg : Gl X x) (hm : X.mg x = some (.ref f)) (hk : PySem.W.keepIn X.K (.ref f) = true) (hb : KBn X.K fd ps 0 ks g gV) (hx : ∀ σ, PassesAt CX X σ (ES σ))
    (hkw : PK X kws tk) (hall : (backToKw pos (keywordEach kws X.env)).all (·.1.isSome) = true := by rfl) (hks : (backToKw pos (keywordEach kws X.env)).filterMap (·.1) = ks := by rfl)
    (hdb : (x == ("__debug__" : Str)) = false := by decide) (hpl : ((backTo pos (starEach [] X.env)).any (·.1) || (backToKw pos (keywordEach kws X.env)).any (·.1.isNone)) = false := by rfl) :
    PE X (.Call (.Name x p) [] kws pos) (tCallNS 0 ks.length sp gV ES tNil tk) := by
  refine ⟨fun pins s σ H Q I h => ?_⟩
  refine wpAny_Call_Name_kw (ld_glob I hg hm ?_ hdb)
  refine PySem.W.callWith_KW0 (h₀ := X.base) I.ok.mod.kin hk hall ?_ hpl
  refine thn (hkw.run pos pins s σ H _ I h) fun ws s2 ⟨zs, H2, I2, rz, l1, l2, q2⟩ => ⟨I2.kIn, ?_⟩
  rw [hks]
  exact run_fnNS (us := []) (vs := []) F hr hb (hx σ) I2 .nil rz rfl l2 q2
theorem passNo {X : Cx} {P : Program} {w : World} : Passes (L2.CX P w) X E0 := fun _ _ _ _ _ _ _ h => by
  obtain ⟨_, _, _, _, _, _, _, _, _, _, _, _, hE⟩ := h
  exact hE.elim
end
end L2
namespace D1
open PySem L2 Evl RZ ClX PySem.VX
theorem own_xf {prog : Program} {w : World} {mg : Str → Option Value} {nm : Str} {C : Addr} {fn : List Str} (O : OwnX prog w K mg nm C fn) : XfC K C ∧ ∀ f ∈ fn, PySem.W.findIn K (.ref C) f = some none := by
  obtain ⟨bmB, B, newId, initId, fI, FB, T, _⟩ := O.some
  exact ⟨⟨T.ga, T.gg, T.exc, T.hd⟩, T.no⟩
/-- way == n -/
def gSw {α : Type} (us ws : List α) : List α := match ws with
  | [x, y, z] => [y, x, z]
  | l => l
theorem gSw_rel {vs zs : List V} {us ws : List Value} (h : Vals vs us) (h' : Vals zs ws) : Vals (gSw vs zs) (gSw us ws) := by
  cases h' with
  | nil => exact .nil
  | cons a r =>
    cases r with
    | nil => exact .cons a .nil
    | cons b r =>
      cases r with
      | nil => exact .cons a (.cons b .nil)
      | cons c r =>
        cases r with
        | nil => exact .cons b (.cons a (.cons c .nil))
        | cons d r => exact .cons a (.cons b (.cons c (.cons d r)))
structure FamO (K : PySem.W.Frag) (mg : Str → Option Value) (cN cO cU aR cC cF cW : Addr) : Prop where
  gO : mg "NoOrder" = some (.ref cO)
  gU : mg "Unreckoned" = some (.ref cU)
  gR : mg "Refused" = some (.ref aR)
  gC : mg "NotClosed" = some (.ref cC)
  gF : mg "NotFew" = some (.ref cF)
  gN : mg "BadNumber" = some (.ref cN)
  gW : mg "BadWeb" = some (.ref cW)
  ou : PySem.W.exmOne K (.ref cO) (.ref cU) = some true
  nr : PySem.W.exmOne K (.ref cN) (.ref aR) = some true
  eO : ExcC K cO
  eN : ExcC K cN
  oo : PySem.W.kitOne K (.ref cO) (.ref cO) = some true
  oc : PySem.W.kitOne K (.ref cO) (.ref cC) = some false
  of : PySem.W.kitOne K (.ref cO) (.ref cF) = some false
  nn : PySem.W.kitOne K (.ref cN) (.ref cN) = some true
  nw : PySem.W.kitOne K (.ref cN) (.ref cW) = some false
theorem asg_any {te : TE} {g : TG} {z : TS} {D : Ends} {σ : L2.St} {H : Hp} (h : te σ H fun x H1 => g x σ H1 fun σ2 H2 => z D σ2 H2) : tSeq (tAsg te g) z D σ H := h
def refO (p : PyData) : PyData := .tuple [.str "refused", .bool true, p]
/-- what is told at a state -/
def Told20 (k : RK) (n st : Nat) (ss : List Step) (H : Hp) (x : V) : Prop :=
  (∃ p, badO k ss = some p ∧ DtAt H x (refO p)) ∨ (badO k ss = none ∧ ∃ lp row y, x = .ref lp ∧ H lp = some (.tup [.str "told", row]) ∧ LeastR k ss n st y ∧ SzR 1692 n y ∧ RowAt H row (vec (fun j => (y j).1) n))
theorem stepV_at {H : Hp} {k : RK} {ss : List Step} {p : PyData} (h : badO k ss = some p) : DtAt H (stepV p) p := by
  unfold badO at h
  split at h
  · obtain ⟨i, _, rfl⟩ := Option.map_eq_some_iff.mp h
    exact .int _
  · obtain rfl := Option.some.inj h
    exact .non
def spTold20 (C : KC) (CR : Addr) : Sp := fun vs H Q _ => ∃ (r v : V) (k : RK) (n st : Nat) (ss : List Step), vs = [r, v, .int (st : Int)] ∧ RingAt C CR H r k ∧ k.depth < 4 ∧ k.ok ∧ DtAt H v (webD n ss) ∧ WebOk k n ss ∧ (∀ s ∈ ss, Sz 140 s.2.2) ∧ st < n ∧ ∀ x H', Ex H H' → Told20 k n st ss H' x → Q x H'
def spNoNum (C : KC) (CR : Addr) : Sp := fun vs H Q _ => ∃ (r v : V) (k : RK) (n : Nat) (ss : List Step), vs = [r, v] ∧ RingAt C CR H r k ∧ k.depth < 4 ∧ k.ok ∧ DtAt H v (webD n ss) ∧ WebOk k n ss ∧ (∀ s ∈ ss, Sz 140 s.2.2) ∧ ∀ H', Ex H H' → Q (.bl true) H'
section
variable {K : PySem.W.Frag} {σ : L2.St} {H : Hp} {te : TE}
theorem ev_isV {a C d : Addr} {fs : List (Str × V)} {c : V} {cv : Value} {b : Bool} (h : Ev te σ H (.ref a)) (ea : H a = some (exV a C d)) (ed : H d = some (.xd fs)) (T : ExcC K C) (hc : ∀ u, RelV c u → u = cv) (e : PySem.W.kitOne K (.ref C) cv = some b) :
    Ev (tCB (rIsV K) (tCons te (tCons (tC c) tNil))) σ H (.bl b) :=
  ev_cb (ea_cons h (ea_cons ev_c ea_nil)) fun H1 x _ q => ⟨a, C, d, fs, c, cv, b, rfl, x _ _ ea, x _ _ ed, T, hc, e, q H1 (Ex.refl H1)⟩
theorem ev_fldV {a C d : Addr} {fs : List (Str × V)} {f : Str} {v : V} (h : Ev te σ H (.ref a)) (ea : H a = some (exV a C d)) (ed : H d = some (.xd fs)) (T : XfC K C) (no : PySem.W.findIn K (.ref C) f = some none) (l : fs.lookup f = some v) : Ev (tFldV K f te) σ H v := fun H1 e Q q =>
  h H1 e _ fun H2 e2 => ⟨a, C, d, fs, v, rfl, e2 _ _ (e _ _ ea), e2 _ _ (e _ _ ed), T, no, l, q H2 e2⟩
end
section
variable {P : Program} {w : World} {K : PySem.W.Frag} {mg : Str → Option Value} {base : Heap}
abbrev s_told : Stmt := top 105
theorem sc_told : FnScope ["_law_base", "_law_net", "_law_at", "_law_found", "_law_wrong", "error", "_law_others", "_law_good"] ["_law_base", "_law_net", "_law_at"] (defScope s_told) := ⟨rfl, rfl, rfl, by decide +kernel, rfl, by decide +kernel, by decide +kernel⟩
theorem ok_told {f : Addr} {fd : FuncData} (F : FnP K "_law_told" s_told f fd) {C : KC} {CR cN cO cU aR cC cF cW : Addr} (TO : FamO K mg cN cO cU aR cC cF cW) (O_NoOrder : OwnX P w K mg "NoOrder" cO [("step" : Str)]) {f_by_best : Addr} {fd_by_best : FuncData} (F_by_best : FnP K "by_best" s_by_best f_by_best fd_by_best) (g_by_best : mg "by_best" = some (.ref f_by_best)) (G_by_best : FnOk P w K mg base (L2.CX P w) 11 f_by_best fd_by_best ["ring", "web", "start"] (spBest C CR cN cO)) (z_isinstance : mg "isinstance" = none) : FnOk P w K mg base (CX0) 12 f fd ["_law_base", "_law_net", "_law_at"] (spTold20 C CR) := by
  have k_by_best : KBn K fd_by_best ["ring", "web", "start"] 0 ["web", "ring", "start"] (fun us ws => gSw us ws) (fun vs zs => gSw vs zs) := F_by_best.kbn0 0 _ gSw gSw_rel fun _ _ _ _ _ _ us ws hl hl2 => match us, ws, hl, hl2 with | [], [_, _, _], _, _ => rfl
  refine F.ok (CX := CX0) sc_told (fun vs H Q E h => ?_) (fun cdv A outer s H vs Q E hr h => ?_)
  · obtain ⟨r, wv, k, n, st, ss, rfl, _⟩ := h
    rfl
  · obtain ⟨r, wv, k, n, st, ss, rfl, hR, hd, ok, hW, hok, hs, hst, q⟩ := h
    have hu := hu_of hr
    have hu64 := hr.units
    have hr_by_best := hr.mono (by decide : 11 ≤ 11)
    refine ⟨_, (pss_cons (ps_asg (pe_tup (pa_cons pe_non (pa_cons pe_non pa_nil))) (pg_tup rfl (pgs_cons (pg_name (i := 3) sc_told.nd rfl (Or.inl rfl)) (pgs_cons (pg_name (i := 4) sc_told.nd rfl (Or.inl rfl)) pgs_nil))))
      (pss_cons (ps_try_manyV (i := 5) (Wout := fun _ _ _ _ => False) rfl rfl rfl sc_told.nd rfl rfl takes0 (fun W pn xe tk _ => pss_one (ps_set (i := 3) sc_told.nd rfl (Or.inl rfl) (pe_callN0S G_by_best hr_by_best rfl g_by_best F_by_best.kp k_by_best (fun σ => passAt tk σ) (by exact (pk_cons (pv 1) (pk_cons (pv 0) (pk_cons (pv 2) pk_nil))))))) (.cons ⟨rfl, by decide, .inl TO.gU⟩ (fun a oe cls d pn _ _ => pss_one (ps_set (i := 4) sc_told.nd rfl (Or.inl rfl) (pv 5))) (.cons ⟨rfl, by decide, .inl TO.gR⟩ (fun a oe cls d pn _ _ => pss_one (ps_set (i := 4) sc_told.nd rfl (Or.inl rfl) (pv 5))) .nil)))
      (pss_cons (ps_if (pt_cmpR op_isN (pv 4) pe_non (nomark _)) (pss_one (ps_ret (pe_tup (pa_cons pe_str (pa_cons (pv 3) pa_nil))))) pss_nil)
      (pss_cons (ps_set (i := 6) sc_told.nd rfl (Or.inl rfl) (pe_or (pe_callB call_isV (by rfl) z_isinstance PyProof.Rows.boot_isinstance (pa_cons (pv 4) (pa_cons (pe_glob (v := .ref cC) rfl TO.gC rfl) pa_nil))) (pe_one (pe_callB call_isV (by rfl) z_isinstance PyProof.Rows.boot_isinstance (pa_cons (pv 4) (pa_cons (pe_glob (v := .ref cF) rfl TO.gF rfl) pa_nil))))))
      (pss_cons (ps_set (i := 7) sc_told.nd rfl (Or.inl rfl) (pe_and (pe_callB call_isV (by rfl) z_isinstance PyProof.Rows.boot_isinstance (pa_cons (pv 4) (pa_cons (pe_glob (v := .ref cO) rfl TO.gO rfl) pa_nil))) (pe_one (pe_not (pv 6)))))
      (pss_one (ps_ret (pe_tup (pa_cons pe_str (pa_cons (pv 7) (pa_cons (pe_ifExp (pt_val (pv 7)) (pe_fldV (pv 4)) pe_non) pa_nil))))))))))), ?_⟩
    refine asg_any ⟨by show 2 ≤ sizeLine; decide, fun tp htp => ⟨tp, _, rfl, st_of upd_same, rfl, _, _, rfl, _, _, rfl, rfl, ?_⟩⟩
    have e0 := Ex.new (o := .tup [.non, .non]) htp
    refine ⟨_, rfl, _, rfl, _, rfl, rfl, rfl, r, wv, k, n, st, ss, rfl, hR.ex e0, hd, ok, hW.ex e0, hok, hs, fun hge => absurd hst hge, fun _ p hp d H1 e1 hd1 => ?_, fun _ hnone y hy hysz x H1 hx => ?_⟩
    · refine ⟨true, TO.ou, fun _ => ⟨cO, d, rfl, rfl, fun a ha => ?_⟩, fun h => (by cases h)⟩
      have e2 := Ex.new (o := .xd [("step", stepV p)]) hd1
      have e3 := Ex.new (o := exV a cO d) ha
      have eA := ((e0.trans e1).trans e2).trans e3
      have da : d ≠ a := fun z => by rw [← z, upd_same] at ha; cases ha
      have hA : (upd (upd H1 d (.xd [("step", stepV p)])) a (exV a cO d)) a = some (exV a cO d) := upd_same
      have hDd : (upd (upd H1 d (.xd [("step", stepV p)])) a (exV a cO d)) d = some (.xd [("step", stepV p)]) := by rw [upd_ne da, upd_same]
      refine ⟨_, rfl, ?_⟩
      dsimp only [gName]
      change tSeq _ _ _ [some r, some wv, some (.int (st : Int)), some .non, some (.ref a), none, none, none] (upd (upd H1 d (.xd [("step", stepV p)])) a (exV a cO d))
      generalize (upd (upd H1 d (.xd [("step", stepV p)])) a (exV a cO d)) = G at eA hA hDd ⊢
      refine q_when (b := false) (et_test (ev_op (ev_var rfl) ev_c (fun H1 _ Q q => ⟨rfl, q H1 (Ex.refl H1)⟩))) (fun hb => (by cases hb)) (fun _ H2 e4 => ?_)
      refine q_asg (v := .bl false) (ev_is (ev_orV (a := false) (b := false) (ev_isV (ev_var rfl) (e4 _ _ hA) (e4 _ _ hDd) TO.eO (fun u h => h) TO.oc) (fun _ => ev_isV (ev_var rfl) (e4 _ _ hA) (e4 _ _ hDd) TO.eO (fun u h => h) TO.of)) rfl) fun H3 e5 => ?_
      have e45 := e4.trans e5
      refine q_asg (v := .bl true) (ev_is (ev_andV (a := true) (b := true) (ev_isV (ev_var rfl) (e45 _ _ hA) (e45 _ _ hDd) TO.eO (fun u h => h) TO.oo) (fun _ => ev_is (ev_notV (ev_var rfl)) rfl)) rfl) fun H4 e6 => ?_
      have e46 := e45.trans e6
      refine s_retU (eu_tup (ea_cons ev_c (ea_cons (ev_var rfl) (ea_cons (ev_if (b := true) (et_B (ev_var rfl)) (fun _ => ev_fldV (ev_var rfl) (e46 _ _ hA) (e46 _ _ hDd) (own_xf O_NoOrder).1 ((own_xf O_NoOrder).2 _ (by simp)) rfl) (fun hb => (by cases hb))) ea_nil))) (by show 3 ≤ 100000; decide)) fun lp H5 hlp e7 h5 => q (.ref lp) H5 ((eA.trans e46).trans e7) (.inl ⟨p, hp, .tup h5 (.cons (.str _) (.cons (.bl _) (.cons (stepV_at hp) .nil)))⟩)
    · obtain ⟨e1, D, rfl, hDn, hRow⟩ := hx
      dsimp only [gName]
      change tSeq _ _ _ [some r, some wv, some (.int (st : Int)), some (.ref D), some .non, none, none, none] H1
      refine q_when (b := true) (et_test (ev_op (ev_var rfl) ev_c (fun H1 _ Q q => ⟨rfl, q H1 (Ex.refl H1)⟩))) (fun _ H2 e4 => ?_) (fun hb => (by cases hb))
      refine s_retU (eu_tup (ea_cons ev_c (ea_cons (ev_var rfl) ea_nil)) (by show 2 ≤ 100000; decide)) fun lp H4 hlp e6 h4 => q (.ref lp) H4 (((e0.trans e1).trans e4).trans e6) (.inr ⟨hnone, lp, .ref D, y, rfl, h4, hy, hysz, hRow.ex (e4.trans e6)⟩)
abbrev s_no_number : Stmt := top 106
theorem sc_no_number : FnScope ["_law_base", "_law_net", "_law_wrong", "error"] ["_law_base", "_law_net"] (defScope s_no_number) := ⟨rfl, rfl, rfl, by decide +kernel, rfl, by decide +kernel, by decide +kernel⟩
theorem ok_no_number {f : Addr} {fd : FuncData} (F : FnP K "_law_no_number" s_no_number f fd) {C : KC} {CR cN cO cU aR cC cF cW : Addr} (TO : FamO K mg cN cO cU aR cC cF cW) {f_by_best : Addr} {fd_by_best : FuncData} (F_by_best : FnP K "by_best" s_by_best f_by_best fd_by_best) (g_by_best : mg "by_best" = some (.ref f_by_best)) (G_by_best : FnOk P w K mg base (L2.CX P w) 11 f_by_best fd_by_best ["ring", "web", "start"] (spBest C CR cN cO)) (z_isinstance : mg "isinstance" = none) : FnOk P w K mg base (CX0) 12 f fd ["_law_base", "_law_net"] (spNoNum C CR) := by
  have b_by_best : Binds K fd_by_best ["ring", "web", "start"] [] := F_by_best.bindsN fun _ _ _ _ _ _ us hl => match us, hl with | [_, _, _], _ => rfl
  refine F.ok (CX := CX0) sc_no_number (fun vs H Q E h => ?_) (fun cdv A outer s H vs Q E hr h => ?_)
  · obtain ⟨r, wv, k, n, ss, rfl, _⟩ := h
    rfl
  · obtain ⟨r, wv, k, n, ss, rfl, hR, hd, ok, hW, hok, hs, q⟩ := h
    have hu := hu_of hr
    have hu64 := hr.units
    have hr_by_best := hr.mono (by decide : 11 ≤ 11)
    refine ⟨_, (pss_cons (ps_set (i := 2) sc_no_number.nd rfl (Or.inl rfl) pe_non)
      (pss_cons (ps_try_manyV (i := 3) (Wout := fun _ _ _ _ => False) rfl rfl rfl sc_no_number.nd rfl rfl takes0 (fun W pn xe tk _ => pss_one (ps_expr (pe_callS G_by_best hr_by_best rfl g_by_best F_by_best.kp b_by_best (fun σ => passAt tk σ) (by exact (pa_cons (pv 0) (pa_cons (pv 1) (pa_cons (pe_ix (r := rIxT K) (ta := tVar 1) (tb := tC (.int 0)) ix_tup (pv 1) pe_int (fun _ _ => rfl)) pa_nil))))))) (.cons ⟨rfl, by decide, .inl TO.gR⟩ (fun a oe cls d pn _ _ => pss_one (ps_set (i := 2) sc_no_number.nd rfl (Or.inl rfl) (pv 3))) (.cons ⟨rfl, by decide, .inl TO.gU⟩ (fun a oe cls d pn _ _ => pss_one (ps_set (i := 2) sc_no_number.nd rfl (Or.inl rfl) (pv 3))) .nil)))
      (pss_one (ps_ret (pe_and (pe_callB call_isV (by rfl) z_isinstance PyProof.Rows.boot_isinstance (pa_cons (pv 2) (pa_cons (pe_glob (v := .ref cN) rfl TO.gN rfl) pa_nil))) (pe_one (pe_not (pe_callB call_isV (by rfl) z_isinstance PyProof.Rows.boot_isinstance (pa_cons (pv 2) (pa_cons (pe_glob (v := .ref cW) rfl TO.gW rfl) pa_nil)))))))))), ?_⟩
    obtain ⟨aw, p1, us, rfl, haw, hp1, hus, hlen⟩ := web_at hW
    refine ⟨_, rfl, _, rfl, _, rfl, aw, _, 0, .int (n : Int), rfl, rfl, .inl (.inl haw), rfl, r, .ref aw, k, n, n, ss, rfl, hR, hd, ok, hW, hok, hs, fun _ d H1 e1 hd1 => ?_, fun hlt => absurd hlt (Nat.lt_irrefl n), fun hlt => absurd hlt (Nat.lt_irrefl n)⟩
    refine ⟨true, TO.nr, fun _ => ⟨cN, d, rfl, rfl, fun a ha => ?_⟩, fun h => (by cases h)⟩
    have e2 := Ex.new (o := .xd [("why", .str whyS)]) hd1
    have e3 := Ex.new (o := exV a cN d) ha
    have eA := (e1.trans e2).trans e3
    have da : d ≠ a := fun z => by rw [← z, upd_same] at ha; cases ha
    have hA : (upd (upd H1 d (.xd [("why", .str whyS)])) a (exV a cN d)) a = some (exV a cN d) := upd_same
    have hDd : (upd (upd H1 d (.xd [("why", .str whyS)])) a (exV a cN d)) d = some (.xd [("why", .str whyS)]) := by rw [upd_ne da, upd_same]
    refine ⟨_, rfl, ?_⟩
    dsimp only [gName]
    change tRet _ _ [some r, some (.ref aw), some (.ref a), none] (upd (upd H1 d (.xd [("why", .str whyS)])) a (exV a cN d))
    generalize (upd (upd H1 d (.xd [("why", .str whyS)])) a (exV a cN d)) = G at eA hA hDd ⊢
    exact s_ret (v := .bl true) (ev_is (ev_andV (a := true) (b := true) (ev_isV (ev_var rfl) hA hDd TO.eN (fun u h => h) TO.nn) (fun _ => ev_is (ev_notV (ev_isV (ev_var rfl) hA hDd TO.eN (fun u h => h) TO.nw)) rfl)) rfl) fun H2 e4 => q H2 (eA.trans e4)
end
end D1
end
section
set_option Elab.async false
set_option linter.all false
set_option maxRecDepth 100000
set_option maxHeartbeats 4000000
/-! LU20: webs without bettering; what is due -/
namespace D1
open PySem L2 Evl RZ ClX PySem.VX
/-- the sign of a kind -/
def sgnD : RK → Int
  | .least => 1
  | .most => -1
  | _ => 0
def tmD (k : RK) : PyData → PyData
  | .int i => .int (sgnD k * (if i < 0 then -i else i))
  | _ => N
def tmS (k : RK) (s : Step) : Step := (s.1, s.2.1, tmD k s.2.2)
theorem tm_ok {k : RK} (h : sgnD k ≠ 0) {d : PyData} (g : goodB k d = true) (z : Sz 140 d) : goodB k (tmD k d) = true ∧ Sz 140 (tmD k d) := by
  have key : bGood d = true → (sgnD k = 1 ∨ sgnD k = -1) → bGood (tmD k d) = true ∧ Sz 140 (tmD k d) := fun hb hs => by
    rcases good_b hb with rfl | rfl | ⟨i, rfl⟩
    · exact ⟨rfl, True.intro⟩
    · exact ⟨rfl, True.intro⟩
    · refine ⟨rfl, ?_⟩
      show (sgnD k * (if i < 0 then -i else i)).natAbs < 2 ^ 140
      have z : i.natAbs < 2 ^ 140 := z
      rcases hs with e | e <;> rw [e] <;> split <;> omega
  cases k with
  | least => exact key g (.inl rfl)
  | most => exact key g (.inr rfl)
  | _ => exact absurd rfl h
theorem tm_web {k : RK} (h : sgnD k ≠ 0) {n : Nat} {ss : List Step} (ok : WebOk k n ss) (hs : ∀ s ∈ ss, Sz 140 s.2.2) : WebOk k n (ss.map (tmS k)) ∧ ∀ s ∈ ss.map (tmS k), Sz 140 s.2.2 := by
  refine ⟨⟨ok.n1, ok.n12, by rw [List.length_map]; exact ok.len, fun s hm => ?_⟩, fun s hm => ?_⟩
  · obtain ⟨t, ht, rfl⟩ := List.mem_map.mp hm
    obtain ⟨h1, h2, h3⟩ := ok.at_ t ht
    exact ⟨h1, h2, (tm_ok h h3 (hs t ht)).1⟩
  · obtain ⟨t, ht, rfl⟩ := List.mem_map.mp hm
    exact (tm_ok h (ok.at_ t ht).2.2 (hs t ht)).2
def spTame : Sp := fun vs H Q _ => ∃ (mv v : V) (k : RK) (n : Nat) (ss : List Step), vs = [mv, v] ∧ DtAt H mv (madeD k) ∧ DtAt H v (webD n ss) ∧ WebOk k n ss ∧ (∀ s ∈ ss, Sz 140 s.2.2) ∧ ∀ x ss' H', Ex H H' → DtAt H' x (webD n ss') → WebOk k n ss' → (∀ s ∈ ss', Sz 140 s.2.2) → Q x H'
def tmKv : List (Key × V) := [(.inr "least", .int 1), (.inr "most", .int (-1))]
theorem tm_get (k : RK) : (valV (mergeK [] tmKv) (.inr (nameOf k) : Key)).getD (.int 0) = .int (sgnD k) := by cases k <;> rfl
theorem sgn_good {k : RK} (h : sgnD k ≠ 0) {d : PyData} (g : goodB k d = true) : bGood d = true := by
  cases k with
  | least => exact g
  | most => exact g
  | _ => exact absurd rfl h
def ordVs : List V := [.str "truth", .str "least", .str "most", .str "narrow", .str "share"]
theorem ord_in (k : RK) : inV (.str (nameOf k)) ordVs = ordB k := by
  cases k with
  | lot n => exact (by decide : inV (.str "lot") [V.str "truth", .str "least", .str "most", .str "narrow", .str "share"] = false)
  | pair x y => exact (by decide : inV (.str "pair") [V.str "truth", .str "least", .str "most", .str "narrow", .str "share"] = false)
  | _ => decide
def firstD (k : RK) (ss : List Step) : PyData := match badO k ss with
  | some p => refO p
  | none => .none
def spFirst20 : Sp := fun vs H Q _ => ∃ (mv v : V) (k : RK) (n : Nat) (ss : List Step), vs = [mv, v] ∧ DtAt H mv (madeD k) ∧ k.depth < 3 ∧ k.ok ∧ DtAt H v (webD n ss) ∧ WebOk k n ss ∧ (∀ s ∈ ss, Sz 140 s.2.2) ∧ ∀ x H', Ex H H' → DtAt H' x (firstD k ss) → Q x H'
section
variable {P : Program} {w : World} {K : PySem.W.Frag} {mg : Str → Option Value} {base : Heap}
abbrev s_tame : Stmt := top 103
theorem sc_tame : FnScope ["_law_made", "_law_net", "_law_sign", "_law_steps", "_law_a", "_law_b", "_law_cost"] ["_law_made", "_law_net"] (defScope s_tame) := ⟨rfl, rfl, rfl, by decide +kernel, rfl, by decide +kernel, by decide +kernel⟩
theorem ok_tame {f : Addr} {fd : FuncData} (F : FnP K "_law_tame" s_tame f fd) (z_abs : mg "abs" = none) (z_isinstance : mg "isinstance" = none) (z_int : mg "int" = none) (z_tuple : mg "tuple" = none) : FnOk P w K mg base (CX0) 1 f fd ["_law_made", "_law_net"] (spTame) := by
  refine F.ok (CX := CX0) sc_tame (fun vs H Q E h => ?_) (fun cdv A outer s H vs Q E hr h => ?_)
  · obtain ⟨mv, v, k, n, ss, rfl, _⟩ := h
    rfl
  · obtain ⟨mv, v, k, n, ss, rfl, hM, hW, hok, hs, q⟩ := h
    have hu := hu_of hr
    have hu64 := hr.units
    refine ⟨_, PSs.nox (pss_cons (ps_set (i := 2) sc_tame.nd rfl (Or.inl rfl) (pe_dget2 hu (pe_disp (pps_cons pe_str pe_int (pps_cons pe_str (pe_un un_neg pe_int) pps_nil)) (by rfl) (by rfl) (fun z => by cases z) (by decide)) (pe_ix ix_tup (pv 0) pe_int (fun _ _ => rfl)) (pe_int) ⟨rfl, rfl, rfl, rfl⟩))
      (pss_cons (ps_if (pt_cmpR op_eq (pv 2) pe_int (nomark _)) (pss_one (ps_ret (pv 1))) pss_nil)
      (pss_cons (ps_set (i := 3) sc_tame.nd rfl (Or.inl rfl) (pe_lst pa_nil))
      (pss_cons (ps_for PassesOwn.never rfl (pi_tup (pe_ix ix_tup (pv 1) pe_int (fun _ _ => rfl))) (pg_tup rfl (pgs_cons (pg_name (i := 4) sc_tame.nd rfl (Or.inl rfl)) (pgs_cons (pg_name (i := 5) sc_tame.nd rfl (Or.inl rfl)) (pgs_cons (pg_name (i := 6) sc_tame.nd rfl (Or.inl rfl)) pgs_nil)))) (pss_one (ps_expr (pe_bm PySem.F.plainAttrs_list PySem.F.slot_list_append PySem.F.type_list_append mt_append (pv 3) (pa_cons (pe_tup (pa_cons (pv 4) (pa_cons (pv 5) (pa_cons (pe_ifExp (pt_val (pe_callB call_isi (by rfl) z_isinstance PyProof.Rows.boot_isinstance (pa_cons (pv 6) (pa_cons (pe_bltn (v := .ty "int") rfl z_int (by decide +kernel) rfl) pa_nil)))) (pe_op op_mulW (pv 2) (pe_callB call_abs (by rfl) z_abs (by decide +kernel) (pa_cons (pv 6) pa_nil))) pe_str) pa_nil)))) pa_nil)))))
      (pss_one (ps_ret (pe_tup (pa_cons (pe_ix ix_tup (pv 1) pe_int (fun _ _ => rfl)) (pa_cons (pe_tupleOf rfl z_tuple (pv 3)) pa_nil))))))))), ?_⟩
    obtain ⟨a, xs, rfl, ha, h1, h2, h3⟩ := made_at hM
    obtain ⟨aw, p1, us, rfl, haw, hp1, hus, hlen⟩ := web_at hW
    refine asg_step fun p hpn => ⟨1, rfl, upd_same, tmKv, rfl, by show 2 ≤ 15; decide, p, rfl, .inl ⟨_, .inl upd_same⟩, ?_⟩
    have e01 : Ex H (upd (upd H p (.dK [])) p (.dK (mergeK [] tmKv))) := Ex.mut (Ex.new hpn) hpn
    generalize hG : (upd (upd H p (.dK [])) p (.dK (mergeK [] tmKv))) = G1 at e01 ⊢
    have hp1' : G1 p = some (.dK (mergeK [] tmKv)) := by rw [← hG, upd_same]
    refine ⟨_, rfl, a, _, 0, .str (nameOf k), rfl, rfl, .inl (.inl (e01 _ _ ha)), atI_of (Int.le_refl 0) rfl, _, DGet.k (k := .inr (nameOf k)) hp1', ?_⟩
    rw [tm_get k]
    refine q_when (b := (sgnD k == 0)) (et_test (ev_eqI (ev_var rfl) ev_c)) (fun hb H2 e2 => ?_) (fun hb H2 e2 => ?_)
    · exact s_ret (ev_var rfl) fun H3 e3 => q _ ss H3 ((e01.trans e2).trans e3) (hW.ex ((e01.trans e2).trans e3)) hok hs
    have hk0 : sgnD k ≠ 0 := beq_eq_false_iff_ne.mp hb
    have e02 := e01.trans e2
    refine asg_step ⟨by show 0 ≤ sizeLine; decide, fun D hD => ?_⟩
    have e03 := e02.trans (Ex.new (o := .lst []) hD)
    have l80 := hok.len
    refine ⟨_, rfl, aw, _, 1, .ref p1, rfl, rfl, .inl (.inl (e03 _ _ haw)), rfl, p1, rfl, ⟨us, .inl (.inl (e03 _ _ hp1))⟩, ?_⟩
    refine for_it (walk_tup (K := K) (a := p1) (xs := us)) (fun t σ' G => ∃ x4 x5 x6, σ' = [some (.ref a), some (.ref aw), some (.int (sgnD k)), some (.ref D), x4, x5, x6] ∧ Ex H2 G ∧ ∃ vs, G D = some (.lst vs) ∧ DtAll G vs ((ss.take t).map fun s => stepD (tmS k s))) ⟨_, _, _, rfl, Ex.new hD, [], upd_same, .nil⟩ (fun i σ' G _ h => ?_) ?_ ?_
    · obtain ⟨_, _, _, _, e, _⟩ := h
      exact .inl (.inl ((e02.trans e) _ _ hp1))
    · rintro t y σ' _ G hi ⟨x4, x5, x6, rfl, eG, vs, hvD, hvs⟩ ⟨rfl, hy⟩
      have e0G := e02.trans eG
      obtain ⟨dd, hd1, hd2⟩ := hus.get hy
      rw [List.getElem?_map] at hd1
      obtain ⟨st, hst, rfl⟩ := Option.map_eq_some_iff.mp hd1
      obtain ⟨s1, s2, s3⟩ := hok.step hst
      obtain ⟨b, u1, u2, u3, rfl, hb3, k1, k2, k3⟩ := id hd2.three
      obtain rfl := k1.int_inv
      obtain rfl := k2.int_inv
      refine ⟨b, _, rfl, .inl (.inl (e0G _ _ hb3)), rfl, _, _, rfl, _, _, rfl, _, _, rfl, rfl, ?_⟩
      obtain ⟨cv, hcv, hev⟩ : ∃ cv : V, (∀ H', DtAt H' cv (tmD k st.2.2)) ∧ Ev (tIf (tB (tCB (rIsi K) (tCons (tVar 6) (tCons (tC (.ty "int")) tNil)))) (tOp (rI CMulW fun i j => .int (i * j)) (tVar 2) (tCB (fun xs H Q => ∃ i, xs = [V.int i] ∧ Q (.int (if i < 0 then -i else i)) H) (tCons (tVar 6) tNil))) (tC (.str "none"))) [some (.ref a), some (.ref aw), some (.int (sgnD k)), some (.ref D), some (.int (st.1 : Int)), some (.int (st.2.1 : Int)), some u3] G cv := by
        rcases good_b (sgn_good hk0 s3) with e | e | ⟨i, e⟩
        · rw [e] at k3 ⊢
          obtain rfl := k3.str_inv
          exact ⟨.str "none", fun _ => .str _, ev_if (b := false) (et_B (ev_tInt (ev_var rfl) (tl_str _))) (fun hb => (by cases hb)) (fun _ => ev_c)⟩
        · rw [e] at k3 ⊢
          obtain rfl := k3.str_inv
          exact ⟨.str "none", fun _ => .str _, ev_if (b := false) (et_B (ev_tInt (ev_var rfl) (tl_str _))) (fun hb => (by cases hb)) (fun _ => ev_c)⟩
        · have hz : Sz 140 st.2.2 := hs st (List.mem_of_getElem? hst)
          rw [e] at k3 hz ⊢
          obtain rfl := k3.int_inv
          have hz : i.natAbs < 2 ^ 140 := hz
          have hz2 : (if i < 0 then -i else i).natAbs < 2 ^ 140 := by split <;> omega
          have hs1 : (sgnD k).natAbs < 2 ^ 1 := by cases k <;> first | decide | exact (by decide : (0 : Int).natAbs < 2 ^ 1)
          exact ⟨.int _, fun _ => .int _, ev_if (b := true) (et_B (ev_tInt (ev_var rfl) (tl_int _))) (fun _ => ev_op (ev_var rfl) (ev_cb (ea_cons (ev_var rfl) ea_nil) fun H8 e8 Q' q' => ⟨_, rfl, q' H8 (Ex.refl H8)⟩) (rv_I (wide_mul hs1 hz2 (by decide) (by decide) (by decide)))) (fun hb => (by cases hb))⟩
      refine ⟨_, rfl, .inl ⟨rfl, _, sq_of hvD⟩, _, rfl, _, rfl, ?_⟩
      refine hev G (Ex.refl G) _ fun G2 e2' => ⟨by show 3 ≤ sizeLine; decide, fun l hl => ?_⟩
      have eL := Ex.new (o := .tup [.int (st.1 : Int), .int (st.2.1 : Int), cv]) hl
      have hvD2 := (e2'.trans eL) _ _ hvD
      have lD : l ≠ D := fun z => by
        rw [z, e2' _ _ hvD] at hl
        cases hl
      refine ⟨D, vs, .ref l, rfl, rfl, hvD2, ?_, ?_⟩
      · have := hvs.len
        rw [List.length_map, List.length_take] at this
        exact Nat.lt_of_le_of_lt (by omega : vs.length ≤ 80) (by decide)
      refine ⟨_, _, _, rfl, Ex.mut (eG.trans (e2'.trans eL)) hD, vs ++ [.ref l], upd_same, ?_⟩
      rw [take_snoc hst, List.map_append]
      have kp := Kp.lst hvD2 (ys := vs ++ [.ref l])
      refine DtAll.append ((hvs.ex (e2'.trans eL)).kp kp) (.cons ?_ .nil)
      exact .tup (by rw [upd_ne lD]; exact upd_same) (.cons (.int _) (.cons (.int _) (.cons (hcv _) .nil)))
    · rintro σ' G ⟨x4, x5, x6, rfl, eG, vs, hvD, hvs⟩
      rw [hlen, List.take_length] at hvs
      have e0G := e02.trans eG
      refine ⟨_, rfl, aw, _, 0, .int (n : Int), rfl, rfl, .inl (.inl (e0G _ _ haw)), rfl, _, rfl, .inl ⟨D, vs, rfl, sq_of hvD, fun t ht => ⟨by show 2 ≤ sizeLine; decide, fun l hl => ?_⟩⟩⟩
      have e1 := Ex.new (o := .tup vs) ht
      have e2 := Ex.new (o := .tup [.int (n : Int), .ref t]) hl
      obtain ⟨w1, w2⟩ := tm_web hk0 hok hs
      refine q _ (ss.map (tmS k)) _ (e0G.trans (e1.trans e2)) (.new hl (.cons (.int _) (.cons (.new ht ?_) .nil))) w1 w2
      rw [List.map_map]
      exact hvs
abbrev s_first : Stmt := top 104
theorem sc_first : FnScope ["_law_made", "_law_net", "_law_number", "_law_step"] ["_law_made", "_law_net"] (defScope s_first) := ⟨rfl, rfl, rfl, by decide +kernel, rfl, by decide +kernel, by decide +kernel⟩
theorem ok_first {f : Addr} {fd : FuncData} (F : FnP K "_law_first" s_first f fd) {f_plus : Addr} {fd_plus : FuncData} (F_plus : FnP K "_law_plus" s_plus f_plus fd_plus) (g_plus : mg "_law_plus" = some (.ref f_plus)) (G_plus : FnOk P w K mg base (CX0) 4 f_plus fd_plus ["_law_made", "_law_a", "_law_b"] (spLPlus 3)) {f_one : Addr} {fd_one : FuncData} (F_one : FnP K "_law_one" s_one f_one fd_one) (g_one : mg "_law_one" = some (.ref f_one)) (G_one : FnOk P w K mg base (CX0) 4 f_one fd_one ["_law_made"] (spLOne 3)) (z_enumerate : mg "enumerate" = none) : FnOk P w K mg base (CX0) 5 f fd ["_law_made", "_law_net"] (spFirst20) := by
  have b_plus : Binds K fd_plus ["_law_made", "_law_a", "_law_b"] [] := F_plus.bindsN fun _ _ _ _ _ _ us hl => match us, hl with | [_, _, _], _ => rfl
  have b_one : Binds K fd_one ["_law_made"] [] := F_one.bindsN fun _ _ _ _ _ _ us hl => match us, hl with | [_], _ => rfl
  refine F.ok (CX := CX0) sc_first (fun vs H Q E h => ?_) (fun cdv A outer s H vs Q E hr h => ?_)
  · obtain ⟨mv, v, k, n, ss, rfl, _⟩ := h
    rfl
  · obtain ⟨mv, v, k, n, ss, rfl, hM, hd, ok, hW, hok, hs, q⟩ := h
    have hu := hu_of hr
    have hu64 := hr.units
    have hr_plus := hr.mono (Nat.le_refl _)
    have hr_one := hr.mono (Nat.le_refl _)
    refine ⟨_, PSs.nox (pss_cons (ps_if (pt_cmpR op_notIn_seq (pe_ix ix_tup (pv 0) pe_int (fun _ _ => rfl)) (pe_tup (pa_cons pe_str (pa_cons pe_str (pa_cons pe_str (pa_cons pe_str (pa_cons pe_str pa_nil)))))) (by rfl)) (pss_one (ps_ret (pe_tup (pa_cons pe_str (pa_cons pe_bl (pa_cons pe_non pa_nil)))))) pss_nil)
      (pss_cons (ps_for PassesOwn.never rfl (pi_enumT rfl z_enumerate (pa_cons (pe_ix ix_tup (pv 1) pe_int (fun _ _ => rfl)) pa_nil)) (pg_tup rfl (pgs_cons (pg_name (i := 2) sc_first.nd rfl (Or.inl rfl)) (pgs_cons (pg_name (i := 3) sc_first.nd rfl (Or.inl rfl)) pgs_nil))) (pss_one (ps_if (pt_cmpR (op_neD hu64) (pe_call G_plus hr_plus rfl g_plus F_plus.kp b_plus .nil pass0 (pa_cons (pv 0) (pa_cons (pe_call G_one hr_one rfl g_one F_one.kp b_one .nil pass0 (pa_cons (pv 0) pa_nil)) (pa_cons (pe_ix ix_tup (pv 3) pe_int (fun _ _ => rfl)) pa_nil)))) (pe_call G_one hr_one rfl g_one F_one.kp b_one .nil pass0 (pa_cons (pv 0) pa_nil)) (nomark _)) (pss_one (ps_ret (pe_tup (pa_cons pe_str (pa_cons pe_bl (pa_cons (pv 2) pa_nil)))))) pss_nil)))
      (pss_one (ps_ret pe_non)))), ?_⟩
    obtain ⟨a, xs, rfl, ha, h1, h2, h3⟩ := made_at hM
    obtain ⟨aw, p1, us, rfl, haw, hp1, hus, hlen⟩ := web_at hW
    have l80 := hok.len
    have hd4 : k.depth < 3 := hd
    refine q_when (b := !ordB k) (et_test (ev_is (ev_niU (xs := ordVs) (ev_op (ev_var rfl) ev_c (rv_ixT (.inl (.inl ha)) (atI_of (Int.le_refl 0) rfl))) (eu_tup (ea_cons ev_c (ea_cons ev_c (ea_cons ev_c (ea_cons ev_c (ea_cons ev_c ea_nil))))) (by show 5 ≤ 100000; decide)) rfl rfl) (by rw [ord_in]))) (fun hb H1 e1 => ?_) (fun hb H1 e1 => ?_)
    · rw [Bool.not_eq_true'] at hb
      have hbad : badO k ss = some .none := by
        unfold badO
        rw [hb, if_neg Bool.false_ne_true]
      refine s_retU (eu_tup (ea_cons ev_c (ea_cons ev_c (ea_cons ev_c ea_nil))) (by show 3 ≤ 100000; decide)) fun lp H2 hlp e2 h2 => q (.ref lp) H2 (e1.trans e2) ?_
      unfold firstD
      rw [hbad]
      exact .tup h2 (.cons (.str _) (.cons (.bl _) (.cons .non .nil)))
    rw [Bool.not_eq_false'] at hb
    have ho := ordB_of hb
    have hbad : badO k ss = (badAt k 0 ss).map (fun i => .int (i : Nat)) := if_pos hb
    refine ⟨_, rfl, aw, _, 1, .ref p1, rfl, rfl, .inl (.inl (e1 _ _ haw)), rfl, p1, us, rfl, .inl (.inl (e1 _ _ hp1)), ?_⟩
    refine for_it (walk_enumT (K := K) (a := p1) (xs := us)) (fun t σ' G => ∃ x2 x3, σ' = [some (.ref a), some (.ref aw), x2, x3] ∧ Ex H G ∧ ∀ u s', u < t → ss[u]? = some s' → tameB k s' = true) ⟨none, none, rfl, e1, fun u s' hu => absurd hu (Nat.not_lt_zero u)⟩ (fun i σ' G _ h => ?_) ?_ ?_
    · obtain ⟨_, _, _, e, _⟩ := h
      exact .inl (.inl (e _ _ hp1))
    · rintro t y σ' _ G hi ⟨x4, x5, rfl, eG, hT⟩ ⟨TT, a1, y', rfl, hTn, rfl, ha1, hy⟩
      obtain rfl := Option.some.inj ha1
      obtain ⟨dd, hd1, hd2⟩ := hus.get hy
      rw [List.getElem?_map] at hd1
      obtain ⟨st, hst, rfl⟩ := Option.map_eq_some_iff.mp hd1
      obtain ⟨s1, s2, s3⟩ := hok.step hst
      obtain ⟨b, u1, u2, u3, rfl, hb3, k1, k2, k3⟩ := id hd2.three
      have eT := Ex.new (o := .tup [.int (t : Nat), .ref b]) hTn
      have e1G := eG.trans eT
      refine ⟨TT, _, rfl, .inl (.inl upd_same), rfl, _, _, rfl, _, _, rfl, rfl, ?_⟩
      refine s_when (b := !PyData.eqv (plus k (oneD k) st.2.2) (oneD k)) (et_test ?_) (fun hb' G2 e2' => ?_) (fun hb' G2 e2' => ?_)
      · refine fun G2 e2 Q' q' => ⟨_, rfl, _, rfl, _, k, rfl, hM.ex (e1G.trans e2), hd, ok, fun ov G3 e3 hov => ⟨_, rfl, b, _, 2, u3, rfl, rfl, .inl (.inl ((e1G.trans (e2.trans e3)) _ _ hb3)), rfl, _, ov, u3, k, _, _, rfl, hM.ex (e1G.trans (e2.trans e3)), hd, hov, k3.ex (e1G.trans (e2.trans e3)), good_one k, s3, (sz_one ok).up (by decide), (hs st (List.mem_of_getElem? hst)).up (by decide), fun z G4 e4 hz => ⟨_, rfl, _, k, rfl, hM.ex (e1G.trans ((e2.trans e3).trans e4)), hd, ok, fun ov2 G5 e5 hov2 => ?_⟩⟩⟩
        exact (rv_neDt (hz.ex e5) hov2 (ord_shaped ho (good_plus k (good_one k) s3)) (ord_shaped ho (good_one k))) G5 (Ex.refl G5) _ (fun G6 e6 => q' G6 (((e3.trans e4).trans e5).trans e6))
      · rw [Bool.not_eq_true'] at hb'
        refine s_retU (eu_tup (ea_cons ev_c (ea_cons ev_c (ea_cons (ev_var rfl) ea_nil))) (by show 3 ≤ 100000; decide)) fun lp H2 hlp e2 h2 => q (.ref lp) H2 (e1G.trans (e2'.trans e2)) ?_
        unfold firstD
        rw [hbad, badAt_hit (i := 0) hT hst hb', Nat.zero_add]
        exact .tup h2 (.cons (.str _) (.cons (.bl _) (.cons (.int _) .nil)))
      · rw [Bool.not_eq_false'] at hb'
        refine ⟨_, _, rfl, e1G.trans e2', fun u s' hu hs' => ?_⟩
        by_cases hut : u < t
        · exact hT u s' hut hs'
        · obtain rfl : u = t := by omega
          rw [hst] at hs'
          obtain rfl := Option.some.inj hs'
          exact hb'
    · rintro σ' G ⟨x4, x5, rfl, eG, hT⟩
      refine q .non G eG ?_
      unfold firstD
      rw [hbad, badAt_all fun s hs' => ?_]
      · exact .non
      · obtain ⟨i, hi⟩ := List.mem_iff_getElem?.mp hs'
        have := (List.getElem?_eq_some_iff.mp hi).1
        exact hT i s (by omega) hi
end
end D1
end
section
set_option Elab.async false
set_option linter.all false
set_option maxRecDepth 100000
set_option maxHeartbeats 4000000
/-! LV20: whether a row is right -/
namespace D1
open PySem L2 Evl RZ ClX PySem.VX
theorem nest_row {k : RK} (hd : k.depth < 3) {n : Nat} (hn : n ≤ 12) (f : Nat → Wt k) : Nest 4 (.list (vec (fun j => (f j).1) n)) := ⟨fun d h => by
  obtain ⟨j, _, rfl⟩ := List.mem_map.mp h
  exact (nest_good (f j).2).up (m := 3) (show k.depth + 1 ≤ 3 by omega), by rw [vec_len]; omega⟩
theorem nest_w {k : RK} (hd : k.depth < 3) (f : Wt k) : Nest 4 f.1 := (nest_good f.2).up (m := 4) (show k.depth + 1 ≤ 4 by omega)
theorem sz_ls {k : RK} (ho : isOrd k) {B : Nat} (hB : 12 ≤ B) {β : Type} {f : β → Wt k} : ∀ {l : List β}, (∀ s ∈ l, Sz B (f s).1) → Sz B ((WS k).ls f l).1
  | [], _ => (sz_zero k ho).up hB
  | s :: r, h => sz_sel ho (h s List.mem_cons_self) (sz_ls ho hB fun x hx => h x (List.mem_cons_of_mem _ hx))
theorem nxt_szO {k : RK} (ho : isOrd k) (hk : k.ok) {n : Nat} {ss : List Step} (ok : WebOk k n ss) (hs : ∀ s ∈ ss, Sz 140 s.2.2) {y : Nat → Wt k} (hy : SzR 1692 n y) (st t j : Nat) : Sz 1832 (nxt k (ss.take t) st y j).1 := by
  unfold nxt
  refine sz_sel ho ?_ (sz_ls ho (by decide) fun s h => ?_)
  · unfold SR.dl
    split
    · exact (sz_one hk).up (by decide)
    · exact (sz_zero k ho).up (by decide)
  · have hm := List.mem_of_mem_take h
    unfold nxW
    split
    · show Sz 1832 (times k (y s.1).1 (toW k s.2.2).1)
      rw [toW_val (ok.at_ s hm).2.2]
      exact sz_times k (y s.1).2 (ok.at_ s hm).2.2 (hy _ (ok.at_ s hm).1) (hs s hm) (by decide) (by decide)
    · exact (sz_zero k ho).up (by decide)
theorem best_sz {k : RK} (ho : isOrd k) {n : Nat} {ss : List Step} (ok : WebOk k n ss) (hs : ∀ s ∈ ss, Sz 140 s.2.2) (st t : Nat) : Sz 140 (bestW k st (ss.take t)).1 := by
  refine sz_ls ho (by decide) fun s h => ?_
  have hm := List.mem_of_mem_take h
  unfold onW
  split
  · rw [toW_val (ok.at_ s hm).2.2]
    exact hs s hm
  · exact (sz_zero k ho).up (by decide)
def spRowR : Sp := fun vs H Q _ => ∃ (mv v rv : V) (k : RK) (n st : Nat) (ss : List Step) (y : Nat → Wt k), vs = [mv, v, .int (st : Int), rv] ∧ DtAt H mv (madeD k) ∧ k.ok ∧ isOrd k ∧ (∀ s ∈ ss, tameB k s = true) ∧ DtAt H v (webD n ss) ∧ WebOk k n ss ∧ (∀ s ∈ ss, Sz 140 s.2.2) ∧ st < n ∧ LeastR k ss n st y ∧ SzR 1692 n y ∧ RowAt H rv (vec (fun j => (y j).1) n) ∧ ∀ H', Ex H H' → Q (.bl true) H'
section
variable {K : PySem.W.Frag} {σ : L2.St} {H : Hp} {te tl : TE} {tt : TT} {vs : List Nat}
theorem gt3_mono {K : PySem.W.Frag} {i j l : Nat} {x : V} {σ : L2.St} {H : Hp} {P P' : L2.St → Hp → Prop} (h : ∀ s h, P s h → P' s h) (g : gTup K 3 (gCons (gName i) (gCons (gName j) (gCons (gName l) gNil))) x σ H P) : gTup K 3 (gCons (gName i) (gCons (gName j) (gCons (gName l) gNil))) x σ H P' := by
  obtain ⟨a, xs, rfl, h1, h2, u, us, rfl, v, vs, rfl, w, ws, rfl, rfl, g⟩ := g
  exact ⟨a, _, rfl, h1, h2, _, _, rfl, _, _, rfl, _, _, rfl, rfl, h _ _ g⟩
/-- [.. for a, b, cost in steps if ..]: all the same -/
theorem lcf_steps {p : Addr} {us : List V} {ss : List Step} {ia ib ic : Nat} (d : PyData) (c : Step → Bool) (h : Ev tl σ H (.ref p)) (hp : H p = some (.tup us)) (hus : DtAll H us (ss.map stepD)) (hl : ss.length ≤ 1000)
    (hw : ∀ x y z, wipe ((((wipe σ vs).set ia (some x)).set ib (some y)).set ic (some z)) vs = wipe σ vs)
    (ht : ∀ (s : Step) (w : V) (G : Hp), s ∈ ss → Ex H G → DtAt G w s.2.2 → EvT tt ((((wipe σ vs).set ia (some (.int (s.1 : Int)))).set ib (some (.int (s.2.1 : Int)))).set ic (some w)) G (c s))
    (hs : ∀ (s : Step) (w : V) (G : Hp), s ∈ ss → c s = true → Ex H G → DtAt G w s.2.2 → EvP te ((((wipe σ vs).set ia (some (.int (s.1 : Int)))).set ib (some (.int (s.2.1 : Int)))).set ic (some w)) G fun v G' => Ex G G' ∧ DtAt G' v d) :
    EvP (tLc (iTup K tl) (gTup K 3 (gCons (gName ia) (gCons (gName ib) (gCons (gName ic) gNil)))) tt te vs) σ H (fun x H' => Ex H H' ∧ ∃ D us', x = .ref D ∧ H D = none ∧ H' D = some (.lst us') ∧ us'.length ≤ ss.length ∧ ∀ u ∈ us', DtAt H' u d) := fun Q k => by
  have hlen : us.length = ss.length := by rw [hus.len, List.length_map]
  refine h H (Ex.refl H) _ fun H1 e1 => ⟨p, rfl, ⟨us, .inl (.inl (e1 _ _ hp))⟩, fun D hD => ?_⟩
  refine lc_it (walk_tup (K := K) (a := p) (xs := us)) (fun i G => Ex H1 G ∧ ∃ us', G D = some (.lst us') ∧ us'.length ≤ i ∧ ∀ u ∈ us', DtAt G u d) ⟨Ex.new hD, [], upd_same, Nat.le_refl _, fun u hu => by cases hu⟩ (fun i G _ hG => .inl (.inl ((e1.trans hG.1) _ _ hp))) ?_ (fun G hG => ?_)
  · rintro i x _ G hi ⟨eG, us', hG, hl', hall⟩ ⟨rfl, hxi⟩
    have e0 := e1.trans eG
    obtain ⟨dd, hd1, hd2⟩ := (hus.ex e0).get hxi
    rw [List.getElem?_map] at hd1
    obtain ⟨s, hst, rfl⟩ := Option.map_eq_some_iff.mp hd1
    have hm := List.mem_of_getElem? hst
    obtain ⟨b, u1, u2, u3, rfl, hb, k1, k2, k3⟩ := id hd2.three
    obtain rfl := k1.int_inv
    obtain rfl := k2.int_inv
    refine ⟨b, _, rfl, .inl (.inl hb), rfl, _, _, rfl, _, _, rfl, _, _, rfl, rfl, hw _ _ _, ?_⟩
    refine ht s u3 G hm e0 k3 G (Ex.refl G) _ fun G2 e2 => ?_
    cases hc : c s with
    | true =>
      rw [if_pos rfl]
      refine hs s u3 G2 hm hc (e0.trans e2) (k3.ex e2) _ fun v G3 hv => ?_
      have hG3 := (e2.trans hv.1) _ _ hG
      refine ⟨us', hG3, Nat.lt_of_le_of_lt (by omega : us'.length ≤ 1000) (by decide), Ex.mut (eG.trans (e2.trans hv.1)) hD, us' ++ [v], upd_same, by rw [List.length_append]; exact Nat.succ_le_succ hl', fun u hu => ?_⟩
      have kp := upd_kp hG3 (ys := us' ++ [v])
      rcases List.mem_append.mp hu with h | h
      · exact ((hall u h).ex (e2.trans hv.1)).kp kp
      · rw [List.mem_singleton] at h
        rw [h]
        exact hv.2.kp kp
    | false =>
      rw [if_neg Bool.false_ne_true]
      exact ⟨eG.trans e2, us', e2 _ _ hG, by omega, fun u hu => (hall u hu).ex e2⟩
  · obtain ⟨eG, us', hG', hl', hall⟩ := hG
    exact k _ G ⟨e1.trans eG, D, us', rfl, fresh_back e1 hD, hG', by omega, hall⟩
end
section
variable {P : Program} {w : World} {K : PySem.W.Frag} {mg : Str → Option Value} {base : Heap}
abbrev s_row_right : Stmt := top 107
theorem sc_row_right : FnScope ["_law_made", "_law_net", "_law_at", "_law_row", "_law_found", "_law_a", "_law_b", "_law_cost", "_law_best", "_law_goals", "_law_k", "_law_one_here"] ["_law_made", "_law_net", "_law_at", "_law_row"] (defScope s_row_right) := ⟨rfl, rfl, rfl, by decide +kernel, rfl, by decide +kernel, by decide +kernel⟩
theorem ok_row_right {f : Addr} {fd : FuncData} (F : FnP K "_law_row_right" s_row_right f fd) {f_zero : Addr} {fd_zero : FuncData} (F_zero : FnP K "_law_zero" s_zero f_zero fd_zero) (g_zero : mg "_law_zero" = some (.ref f_zero)) (G_zero : FnOk P w K mg base (CX0) 4 f_zero fd_zero ["_law_made"] (spLZero 3)) {f_one : Addr} {fd_one : FuncData} (F_one : FnP K "_law_one" s_one f_one fd_one) (g_one : mg "_law_one" = some (.ref f_one)) (G_one : FnOk P w K mg base (CX0) 4 f_one fd_one ["_law_made"] (spLOne 3)) {f_times : Addr} {fd_times : FuncData} (F_times : FnP K "_law_times" s_times f_times fd_times) (g_times : mg "_law_times" = some (.ref f_times)) (G_times : FnOk P w K mg base (CX0) 5 f_times fd_times ["_law_made", "_law_a", "_law_b"] (spLTimes 3)) {f_plus : Addr} {fd_plus : FuncData} (F_plus : FnP K "_law_plus" s_plus f_plus fd_plus) (g_plus : mg "_law_plus" = some (.ref f_plus)) (G_plus : FnOk P w K mg base (CX0) 4 f_plus fd_plus ["_law_made", "_law_a", "_law_b"] (spLPlus 3)) {f_same : Addr} {fd_same : FuncData} (F_same : FnP K "_law_same" s_same f_same fd_same) (g_same : mg "_law_same" = some (.ref f_same)) (G_same : FnOk P w K mg base (CX0) 7 f_same fd_same ["_law_told_here", "_law_due"] (spLSame 6)) (z_range : mg "range" = none) (z_all : mg "all" = none) : FnOk P w K mg base (CX0) 8 f fd ["_law_made", "_law_net", "_law_at", "_law_row"] (spRowR) := by
  have b_zero : Binds K fd_zero ["_law_made"] [] := F_zero.bindsN fun _ _ _ _ _ _ us hl => match us, hl with | [_], _ => rfl
  have b_one : Binds K fd_one ["_law_made"] [] := F_one.bindsN fun _ _ _ _ _ _ us hl => match us, hl with | [_], _ => rfl
  have b_times : Binds K fd_times ["_law_made", "_law_a", "_law_b"] [] := F_times.bindsN fun _ _ _ _ _ _ us hl => match us, hl with | [_, _, _], _ => rfl
  have b_plus : Binds K fd_plus ["_law_made", "_law_a", "_law_b"] [] := F_plus.bindsN fun _ _ _ _ _ _ us hl => match us, hl with | [_, _, _], _ => rfl
  have b_same : Binds K fd_same ["_law_told_here", "_law_due"] [] := F_same.bindsN fun _ _ _ _ _ _ us hl => match us, hl with | [_, _], _ => rfl
  refine F.ok (CX := CX0) sc_row_right (fun vs H Q E h => ?_) (fun cdv A outer s H vs Q E hr h => ?_)
  · obtain ⟨mv, v, rv, k, n, st, ss, y, rfl, _⟩ := h
    rfl
  · obtain ⟨mv, v, rv, k, n, st, ss, y, rfl, hM, ok, ho, ht, hW, hok, hs, hst, hL, hsz, hR, q⟩ := h
    have hu := hu_of hr
    have hu64 := hr.units
    have hr_zero := hr.mono (by decide : 4 ≤ 7)
    have hr_one := hr.mono (by decide : 4 ≤ 7)
    have hr_times := hr.mono (by decide : 5 ≤ 7)
    have hr_plus := hr.mono (by decide : 4 ≤ 7)
    have hr_same := hr.mono (by decide : 7 ≤ 7)
    refine ⟨_, PSs.nox (pss_cons (ps_setLc (i := 4) (own := [("_law_k", 10)]) (g := gName 10) (tt := tYes) (te := tIf (tTest (tOp rEq (tVar 10) (tVar 2))) (tCall (spLOne 3) [] E0 (tCons (tVar 0) tNil)) (tCall (spLZero 3) [] E0 (tCons (tVar 0) tNil))) (by rfl) sc_row_right.nd rfl rfl (sw_true rfl rfl rfl (by decide +kernel)) (pi_range1 rfl z_range (pa_cons (pe_ix ix_tup (pv 1) pe_int (fun _ _ => rfl)) pa_nil)) (blkOk_by (own := [("_law_k", 10)]) (N := ["_law_made", "_law_net", "_law_at", "_law_row", "_law_found", "_law_a", "_law_b", "_law_cost", "_law_best", "_law_goals", "_law_k", "_law_one_here"]) (sc := defScope s_row_right) (by decide +kernel)) (fun _ _ _ _ _ => pg_name (i := 10) sc_row_right.nd rfl (Or.inl rfl)) (fun _ _ _ _ _ => pts_nil) (fun _ _ _ _ _ => pe_ifExp (pt_cmpR op_eq (pv 10) (pv 2) (nomark _)) (pe_call G_one hr_one rfl g_one F_one.kp b_one .nil pass0 (pa_cons (pv 0) pa_nil)) (pe_call G_zero hr_zero rfl g_zero F_zero.kp b_zero .nil pass0 (pa_cons (pv 0) pa_nil))))
      (pss_cons (ps_for PassesOwn.never rfl (pi_tup (pe_ix ix_tup (pv 1) pe_int (fun _ _ => rfl))) (pg_tup rfl (pgs_cons (pg_name (i := 5) sc_row_right.nd rfl (Or.inl rfl)) (pgs_cons (pg_name (i := 6) sc_row_right.nd rfl (Or.inl rfl)) (pgs_cons (pg_name (i := 7) sc_row_right.nd rfl (Or.inl rfl)) pgs_nil)))) (pss_one (ps_asg (pe_call G_plus hr_plus rfl g_plus F_plus.kp b_plus .nil pass0 (pa_cons (pv 0) (pa_cons (pe_ix ix_list (pv 4) (pv 6) (fun _ _ => rfl)) (pa_cons (pe_call G_times hr_times rfl g_times F_times.kp b_times .nil pass0 (pa_cons (pv 0) (pa_cons (pe_ix ix_list (pv 3) (pv 5) (fun _ _ => rfl)) (pa_cons (pv 7) pa_nil)))) pa_nil)))) (pg_sub (pv 4) (pv 6) set_list))))
      (pss_cons (ps_if (PW.pt (pw_or (pt_not (pt_val (pe_call G_same hr_same rfl g_same F_same.kp b_same .nil pass0 (pa_cons (pv 3) (pa_cons (pv 4) pa_nil))))) (pw_or1 (pt_not (pt_val (pe_call G_same hr_same rfl g_same F_same.kp b_same .nil pass0 (pa_cons (pe_ix ix_list (pv 3) (pv 2) (fun _ _ => rfl)) (pa_cons (pe_call G_one hr_one rfl g_one F_one.kp b_one .nil pass0 (pa_cons (pv 0) pa_nil)) pa_nil)))))))) (pss_one (ps_ret pe_bl)) pss_nil)
      (pss_cons (ps_set (i := 8) sc_row_right.nd rfl (Or.inr rfl) (pe_call G_zero hr_zero rfl g_zero F_zero.kp b_zero .nil pass0 (pa_cons (pv 0) pa_nil)))
      (pss_cons (ps_for PassesOwn.never rfl (pi_tup (pe_ix ix_tup (pv 1) pe_int (fun _ _ => rfl))) (pg_tup rfl (pgs_cons (pg_name (i := 5) sc_row_right.nd rfl (Or.inl rfl)) (pgs_cons (pg_name (i := 6) sc_row_right.nd rfl (Or.inl rfl)) (pgs_cons (pg_name (i := 7) sc_row_right.nd rfl (Or.inl rfl)) pgs_nil)))) (pss_one (ps_if (PW.pt (pw_and (pt_cmpR op_eq (pv 5) (pv 2) (nomark _)) (pw_and1 (pt_cmpR op_ne (pv 6) (pv 2) (nomark _))))) (pss_one (ps_set (i := 8) sc_row_right.nd rfl (Or.inr rfl) (pe_call G_plus hr_plus rfl g_plus F_plus.kp b_plus .nil pass0 (pa_cons (pv 0) (pa_cons (pv 8) (pa_cons (pv 7) pa_nil)))))) pss_nil)))
      (pss_cons (ps_setLc (i := 9) (own := [("_law_a", 5), ("_law_b", 6), ("_law_cost", 7)]) (g := gTup K 3 (gCons (gName 5) (gCons (gName 6) (gCons (gName 7) gNil)))) (te := tOp (rIxL K) (tVar 3) (tVar 6)) (tt := tAnd (tTest (tOp rEq (tVar 5) (tVar 2))) (tAnd (tTest (tOp rNe (tVar 6) (tVar 2))) (tTest (tOp (rEqD K) (tVar 7) (tVar 8))))) (by rfl) sc_row_right.nd rfl rfl (sw_true rfl rfl rfl (by decide +kernel)) (pi_tup (pe_ix ix_tup (pv 1) pe_int (fun _ _ => rfl))) (blkOk_by (own := [("_law_a", 5), ("_law_b", 6), ("_law_cost", 7)]) (N := ["_law_made", "_law_net", "_law_at", "_law_row", "_law_found", "_law_a", "_law_b", "_law_cost", "_law_best", "_law_goals", "_law_k", "_law_one_here"]) (sc := defScope s_row_right) (by decide +kernel)) (fun _ _ _ _ _ => pg_tup rfl (pgs_cons (pg_name (i := 5) sc_row_right.nd rfl (Or.inl rfl)) (pgs_cons (pg_name (i := 6) sc_row_right.nd rfl (Or.inl rfl)) (pgs_cons (pg_name (i := 7) sc_row_right.nd rfl (Or.inl rfl)) pgs_nil)))) (fun _ _ _ _ _ => pts_one (PW.pt (pw_and (pt_cmpR op_eq (pv 5) (pv 2) (nomark _)) (pw_and (pt_cmpR op_ne (pv 6) (pv 2) (nomark _)) (pw_and1 (pt_cmpR (op_eqD hu64) (pv 7) (pv 8) (nomark _))))))) (fun _ _ _ _ _ => pe_ix ix_list (pv 3) (pv 6) (fun _ _ => rfl)))
      (pss_one (ps_ret (pe_callB (cr_all rfl) (by rfl) z_all PyProof.Rows.boot_all (pa_cons (pe_lc (own := [("_law_one_here", 11)]) (g := gName 11) (tt := tYes) (te := tCall (spLSame 6) [] E0 (tCons (tVar 11) (tCons (tVar 8) tNil))) (by rfl) sc_row_right.nd (pi_seq (pv 9)) (blkOk_by (own := [("_law_one_here", 11)]) (N := ["_law_made", "_law_net", "_law_at", "_law_row", "_law_found", "_law_a", "_law_b", "_law_cost", "_law_best", "_law_goals", "_law_k", "_law_one_here"]) (sc := defScope s_row_right) (by decide +kernel)) (fun _ _ _ _ _ => pg_name (i := 11) sc_row_right.nd rfl (Or.inl rfl)) (fun _ _ _ _ _ => pts_nil) (fun _ _ _ _ _ => pe_call G_same hr_same rfl g_same F_same.kp b_same .nil pass0 (pa_cons (pv 11) (pa_cons (pv 8) pa_nil)))) pa_nil)))))))))), ?_⟩
    obtain ⟨a, p1, us, rfl, ha, hp1, hus, hlen⟩ := web_at hW
    have n12 := hok.n12
    have l80 := hok.len
    have hd : k.depth < 3 := by rw [ord_depth ho]; decide
    obtain ⟨pr, ur, rfl, hpr, lr, hur⟩ := hR.lst
    refine asg_p (lcr_row (n := n) (f := fun j => ((WS k).dl st j).1) (ea_cons (ev_op (ev_var rfl) ev_c (rv_ixT (.inl (.inl ha)) rfl)) ea_nil) (by omega) (fun _ => rfl) fun i G hi e Q' q' => ?_) fun x H1 hx => ?_
    · have z0 : (0 : Int) + (i : Int) = (i : Int) := Int.zero_add _
      by_cases h : st = i
      · subst h
        refine ⟨_, rfl, _, rfl, rfl, _, rfl, ?_⟩
        rw [z0]
        refine yes_of (decide_eq_true rfl) ⟨_, rfl, _, k, rfl, hM.ex e, hd, ok, fun z G2 e2 hz => q' z G2 ⟨e2, ?_⟩⟩
        rw [(WS k).dl_eq]
        exact hz
      · refine ⟨_, rfl, _, rfl, rfl, _, rfl, ?_⟩
        rw [z0]
        refine no_of (decide_eq_false fun z => ?_) ⟨_, rfl, _, k, rfl, hM.ex e, hd, fun z G2 e2 hz => q' z G2 ⟨e2, ?_⟩⟩
        · have := V.int.inj z
          omega
        · rw [(WS k).dl_ne h]
          exact hz
    obtain ⟨e1, D, rfl, hD, hB'⟩ := hx
    refine ⟨_, rfl, a, _, 1, .ref p1, rfl, rfl, .inl (.inl (e1 _ _ ha)), rfl, p1, rfl, ⟨us, .inl (.inl (e1 _ _ hp1))⟩, ?_⟩
    refine for_it (walk_tup (K := K) (a := p1) (xs := us)) (fun t σ' G => ∃ x5 x6 x7, σ' = [some mv, some (.ref a), some (.int (st : Int)), some (.ref pr), some (.ref D), x5, x6, x7, none, none, none, none] ∧ Ex H G ∧ RowAt G (.ref D) (vec (fun j => (nxt k (ss.take t) st y j).1) n)) ⟨_, _, _, rfl, e1, ?_⟩ (fun i σ' G _ h => ?_) ?_ ?_
    · rw [vec_congr (g := fun j => ((WS k).dl st j).1) fun j _ => ?_]
      · exact hB'
      · show ((WS k).add _ (WS k).zero).1 = _
        rw [(WS k).add_zero]
    · obtain ⟨_, _, _, _, e, _⟩ := h
      exact .inl (.inl (e _ _ hp1))
    · rintro t z σ' _ G hi ⟨x5, x6, x7, rfl, e, hT⟩ ⟨rfl, hy⟩
      obtain ⟨d, hd1, hd2⟩ := hus.get hy
      rw [List.getElem?_map] at hd1
      obtain ⟨s, hst', rfl⟩ := Option.map_eq_some_iff.mp hd1
      obtain ⟨s1, s2, s3⟩ := hok.step hst'
      have hszs := hs s (List.mem_of_getElem? hst')
      obtain ⟨b, u1, u2, u3, rfl, hb, k1, k2, k3⟩ := id hd2.three
      obtain rfl := k1.int_inv
      obtain rfl := k2.int_inv
      refine ⟨b, _, rfl, .inl (.inl (e _ _ hb)), rfl, _, _, rfl, _, _, rfl, _, _, rfl, rfl, ?_⟩
      obtain ⟨pd, ds, ud, ed, hpd, hud, hdd, hdl⟩ := hT.get s2
      obtain rfl := V.ref.inj ed
      have hxx : ur[s.1]? = some ur[s.1] := List.getElem?_eq_getElem (by omega)
      have wsz := nxt_szO ho ok hok hs hsz st t s.2.1
      refine ⟨_, rfl, _, rfl, _, rfl, D, ds, (s.2.1 : Int), ud, rfl, rfl, sq_of hpd, atI_nat hud, _, rfl, _, rfl, _, rfl, pr, ur, (s.1 : Int), _, rfl, rfl, sq_of (e _ _ hpr), atI_nat hxx, _, rfl, ?_⟩
      refine ⟨mv, _, u3, k, _, _, rfl, hM.ex e, hd, (hur s.1 _ hxx).ex e, k3.ex e, (y s.1).2, s3, (hsz _ s1).up (by decide), hszs.up (by decide), fun z G3 e3 hz => ?_⟩
      refine ⟨mv, ud, z, k, _, _, rfl, hM.ex (e.trans e3), hd, hdd.ex e3, hz, (nxt k (ss.take t) st y s.2.1).2, good_times k (y s.1).2 s3, wsz.up (by decide), (sz_times k (y s.1).2 s3 (hsz _ s1) hszs (by decide) (by decide)).up (by decide), fun z2 G4 e4 hz2 => ?_⟩
      have e5 := e3.trans e4
      refine ⟨_, rfl, _, rfl, D, ds, (s.2.1 : Int), s.2.1, rfl, rfl, e5 _ _ hpd, ixN_nat (by omega), ?_⟩
      refine ⟨_, _, _, rfl, Ex.mut (e.trans e5) hD, D, _, rfl, upd_same, ?_⟩
      obtain ⟨pd2, ds2, ed2, hpd2, hds2⟩ := hT.ex e5
      obtain rfl := V.ref.inj ed2
      rw [e5 _ _ hpd] at hpd2
      cases hpd2
      have kp := upd_kp (e5 _ _ hpd) (ys := ds.set s.2.1 z2)
      have := (hds2.set (j := s.2.1) hz2).kp kp
      rw [vec_congr fun j hj => ?_] at this
      · exact this
      · show (if j = s.2.1 then _ else _) = (nxt k (ss.take (t + 1)) st y j).1
        have hsn : nxt k (ss.take (t + 1)) st y j = (WS k).add (nxt k (ss.take t) st y j) (nxW k y j s) := by
          unfold nxt
          rw [ls_snoc (nxW k y j) hst', (WS k).add_assoc]
        rw [hsn]
        by_cases hc : j = s.2.1
        · subst hc
          rw [if_pos rfl]
          show _ = plus k (nxt k (ss.take t) st y s.2.1).1 (nxW k y s.2.1 s).1
          unfold nxW
          rw [if_pos rfl]
          show _ = plus k _ (times k (y s.1).1 (toW k s.2.2).1)
          rw [toW_val s3]
        · rw [if_neg hc]
          have : nxW k y j s = (WS k).zero := if_neg fun h => hc h.symm
          rw [this, (WS k).add_zero]
    rintro σ' G ⟨x5, x6, x7, rfl, e, hT⟩
    rw [hlen, List.take_length, vec_congr (g := fun j => (y j).1) fun j hj => congrArg Subtype.val (least_nxt ho hok ht hL hj)] at hT
    have hst1 : (y st).1 = oneD k := congrArg Subtype.val (least_st ho hok ht hL hst)
    have hxs : ur[st]? = some ur[st] := List.getElem?_eq_getElem (by omega)
    dsimp only
    refine q_when (b := false || false) (et_or (et_is (et_not (a := true) (et_B (ev_call (ea_cons (ev_var rfl) (ea_cons (ev_var rfl) ea_nil)) fun G2 e2 Q' k' E' => ⟨_, _, _, 4, rfl, (hR.ex (e.trans e2)).dg, (hT.ex e2).dg, nest_row hd n12 y, by decide, fun G3 e3 => k' G3 e3⟩))) rfl) fun _ => et_is (et_not (a := true) (et_B fun G2 e2 Q' q' => ?_)) rfl) (fun hb => (by cases hb)) (fun _ G4 e4 => ?_)
    · refine ⟨_, rfl, _, rfl, pr, ur, (st : Int), _, rfl, rfl, sq_of ((e.trans e2) _ _ hpr), atI_nat hxs, _, rfl, _, k, rfl, hM.ex (e.trans e2), hd, ok, fun ov G3 e3 hov => ⟨_, _, _, 4, rfl, ((hur st _ hxs).ex (e.trans (e2.trans e3))).dg, ?_, nest_w hd (y st), by decide, fun G5 e5 => q' G5 (e3.trans e5)⟩⟩
      rw [hst1]
      exact hov.dg
    have e04 := e.trans e4
    refine asg_step ⟨_, rfl, _, k, rfl, hM.ex e04, hd, fun zv G5 e5 hz => ?_⟩
    have e05 := e04.trans e5
    refine ⟨_, rfl, a, _, 1, .ref p1, rfl, rfl, .inl (.inl (e05 _ _ ha)), rfl, p1, rfl, ⟨us, .inl (.inl (e05 _ _ hp1))⟩, ?_⟩
    refine for_it (walk_tup (K := K) (a := p1) (xs := us)) (fun t σ' G => ∃ x5 x6 x7 bv, σ' = [some mv, some (.ref a), some (.int (st : Int)), some (.ref pr), some (.ref D), x5, x6, x7, some bv, none, none, none] ∧ Ex H G ∧ DtAt G bv (bestW k st (ss.take t)).1) ⟨_, _, _, zv, rfl, e05, hz⟩ (fun i σ' G _ h => ?_) ?_ ?_
    · obtain ⟨_, _, _, _, _, e, _⟩ := h
      exact .inl (.inl (e _ _ hp1))
    · rintro t z σ' _ G6 hi ⟨y5, y6, y7, bv, rfl, e6, hbv⟩ ⟨rfl, hy⟩
      obtain ⟨d, hd1, hd2⟩ := hus.get hy
      rw [List.getElem?_map] at hd1
      obtain ⟨s, hst', rfl⟩ := Option.map_eq_some_iff.mp hd1
      obtain ⟨s1, s2, s3⟩ := hok.step hst'
      have hszs := hs s (List.mem_of_getElem? hst')
      obtain ⟨b, u1, u2, u3, rfl, hb, k1, k2, k3⟩ := id hd2.three
      obtain rfl := k1.int_inv
      obtain rfl := k2.int_inv
      refine ⟨b, _, rfl, .inl (.inl (e6 _ _ hb)), rfl, _, _, rfl, _, _, rfl, _, _, rfl, rfl, ?_⟩
      have hsn : bestW k st (ss.take (t + 1)) = (WS k).add (bestW k st (ss.take t)) (onW k st s) := ls_snoc (onW k st) hst'
      refine s_when (b := ((s.1 : Int) == (st : Int)) && !((s.2.1 : Int) == (st : Int))) (et_and (et_test (ev_eqI (ev_var rfl) (ev_var rfl))) fun _ => et_test (ev_neI (ev_var rfl) (ev_var rfl))) (fun hb' G7 e7 => ?_) (fun hb' G7 e7 => ?_)
      · rw [Bool.and_eq_true, beq_iff_eq, Bool.not_eq_true', beq_eq_false_iff_ne] at hb'
        have hc : s.1 = st ∧ s.2.1 ≠ st := ⟨by omega, fun z => hb'.2 (by rw [z])⟩
        refine ⟨_, rfl, _, rfl, _, rfl, _, _, _, k, _, _, rfl, hM.ex (e6.trans e7), hd, hbv.ex e7, k3.ex (e6.trans e7), (bestW k st (ss.take t)).2, s3, (best_sz ho hok hs st t).up (by decide), hszs.up (by decide), fun r G8 e8 hr => ⟨_, _, _, r, rfl, (e6.trans e7).trans e8, ?_⟩⟩
        rw [hsn]
        show DtAt G8 r (plus k (bestW k st (ss.take t)).1 (onW k st s).1)
        unfold onW
        rw [if_pos hc, toW_val s3]
        exact hr
      · refine ⟨_, _, _, bv, rfl, e6.trans e7, ?_⟩
        rw [hsn]
        unfold onW
        rw [if_neg fun h => ?_, (WS k).add_zero]
        · exact hbv.ex e7
        · rw [Bool.and_eq_false_iff, beq_eq_false_iff_ne, Bool.not_eq_false', beq_iff_eq] at hb'
          rcases hb' with h' | h'
          · exact h' (by rw [h.1])
          · exact h.2 (by omega)
    rintro σ' G6 ⟨y5, y6, y7, bv, rfl, e6, hbv⟩
    rw [hlen, List.take_length] at hbv
    refine asg_p (lcf_steps (K := K) (d := (bestW k st ss).1) (fun s => (((s.1 : Int) == (st : Int)) && (!((s.2.1 : Int) == (st : Int)) && PyData.eqv s.2.2 (bestW k st ss).1))) (ev_op (ev_var rfl) ev_c (rv_ixT (.inl (.inl (e6 _ _ ha))) rfl)) (e6 _ _ hp1) (hus.ex e6) (by omega) (fun _ _ _ => rfl) (fun s w G hm eG hw => ?_) (fun s w G hm hc eG hw Q' q' => ?_)) fun xg G7 hx7 => ?_
    · have hg := (hok.at_ s hm).2.2
      exact et_and (et_test (ev_eqI (ev_var rfl) (ev_var rfl))) fun _ => et_and (et_test (ev_neI (ev_var rfl) (ev_var rfl))) fun _ => et_test (ev_eqDt (ev_var rfl) (ev_var rfl) hw (hbv.ex eG) (ord_shaped ho hg) (ord_shaped ho (bestW k st ss).2))
    · obtain ⟨s1, s2, s3⟩ := hok.at_ s hm
      rw [Bool.and_eq_true, Bool.and_eq_true, beq_iff_eq, Bool.not_eq_true', beq_eq_false_iff_ne] at hc
      have hxb : ur[s.2.1]? = some ur[s.2.1] := List.getElem?_eq_getElem (by omega)
      refine ⟨_, rfl, _, rfl, pr, ur, (s.2.1 : Int), _, rfl, rfl, sq_of ((e6.trans eG) _ _ hpr), atI_nat hxb, q' _ _ ⟨Ex.refl _, ?_⟩⟩
      have hv := least_best ho hok ht hL hst hm (by omega) (fun z => hc.2.1 (by rw [z])) (Subtype.ext (by rw [toW_val s3]; exact (eqv_ord ho s3 (bestW k st ss).2).mp hc.2.2))
      rw [← hv]
      exact (hur _ _ hxb).ex (e6.trans eG)
    obtain ⟨e7, DG, gs, rfl, hDG, hG7, hgl, hall⟩ := hx7
    have e67 := e6.trans e7
    refine s_ret (v := .bl true) (ev_is (ev_allQ (K := K) (q := true) (fun _ => true) (ev_var rfl) (SqQ.of hG7) (by omega) (fun _ => rfl) fun i x G8 e8 hx => ?_) ?_) fun G9 e9 => q G9 (e67.trans e9)
    · exact ev_call (ea_cons (ev_var rfl) (ea_cons (ev_var rfl) ea_nil)) fun G9 e9 Q' k' E' => ⟨_, _, _, 4, rfl, ((hall x (List.mem_of_getElem? hx)).ex (e8.trans e9)).dg, (hbv.ex (e7.trans (e8.trans e9))).dg, nest_w hd (bestW k st ss), by decide, fun G10 e10 => k' G10 e10⟩
    · rw [List.all_eq_true.mpr fun _ _ => rfl]
end
end D1
end
section
set_option Elab.async false
set_option linter.all false
set_option maxRecDepth 100000
set_option maxHeartbeats 4000000
/-! LJ20: the law -/
namespace D1
open PySem L2 Evl RZ ClX PySem.VX
def spLaw (K : PySem.W.Frag) : Sp := fun vs H Q _ => ∃ (a : Addr) (ns : List Int), vs = [.ref a] ∧ SqL K H a (ns.map V.int) ∧ ns.length ≤ 63 ∧ ∀ H', Q (.bl true) H'
theorem RD.exOf {m pc pg : Addr} {cs : List Int} {j : Nat} {H Hd G : Hp} (e : Ex H Hd) (r : RD m pc pg cs j Hd G) (hm : H m = none) (hg : H pg = none) : Ex H G := fun b o h => r.keep b o (fun hc => by
  rcases hc with rfl | rfl
  · rw [hm] at h
    cases h
  · rw [hg] at h
    cases h) (e b o h)
theorem rg9 : ∀ j : Fin 64, Builtin.Range.small 0 (j.val : Int) 9 = true ∧ Builtin.Range.rangeSize 0 (j.val : Int) 9 = (j.val + 8) / 9 := by decide +kernel
mutual
theorem dt_nodict' {H : Hp} : ∀ (d : PyData) (v : V), DtAt H v d → d.hasDict = false
  | .tuple ds, _, h => by
    cases h with
    | tup h r => exact dtA_nodict ds _ r
  | .none, _, _ => rfl
  | .bool _, _, _ => rfl
  | .int _, _, _ => rfl
  | .str _, _, _ => rfl
  | .list _, _, h => by cases h
  | .dict _, _, h => by cases h
theorem dtA_nodict {H : Hp} : ∀ (ds : List PyData) (vs : List V), DtAll H vs ds → PyData.hasDictAll ds = false
  | [], _, _ => rfl
  | d :: ds, _, h => by
    cases h with
    | cons h r =>
      show (d.hasDict || PyData.hasDictAll ds) = false
      rw [dt_nodict' d _ h, dtA_nodict ds _ r]
      rfl
end
theorem dt_nodict {H : Hp} {v : V} {d : PyData} (h : DtAt H v d) : d.hasDict = false := dt_nodict' d v h
theorem ord_at {x : Int} (h0 : 0 ≤ x) (h5 : x < 5) : ∃ k : RK, atI [V.str "truth", .str "least", .str "most", .str "narrow", .str "share"] x = some (.str (nameOf k)) ∧ isOrd k ∧ madeD k = .tuple [.str (nameOf k)] ∧ k.ok := by
  have hx : x = 0 ∨ x = 1 ∨ x = 2 ∨ x = 3 ∨ x = 4 := by omega
  rcases hx with rfl | rfl | rfl | rfl | rfl
  · exact ⟨.truth, rfl, True.intro, rfl, True.intro⟩
  · exact ⟨.least, rfl, True.intro, rfl, True.intro⟩
  · exact ⟨.most, rfl, True.intro, rfl, True.intro⟩
  · exact ⟨.narrow, rfl, True.intro, rfl, True.intro⟩
  · exact ⟨.share, rfl, True.intro, rfl, True.intro⟩
theorem bad_num {k : RK} {ss : List Step} {p : PyData} (h : badO k ss = some p) : p = .none ∨ ∃ i : Nat, p = .int (i : Int) := by
  unfold badO at h
  split at h
  · obtain ⟨i, _, rfl⟩ := Option.map_eq_some_iff.mp h
    exact .inr ⟨i, rfl⟩
  · exact .inl (Option.some.inj h).symm
theorem refO_same {p : PyData} (h : p = .none ∨ ∃ i : Nat, p = .int (i : Int)) : SeqAt.shaped (refO p) = true ∧ PyData.eqv (refO p) (refO p) = true := by
  rcases h with rfl | ⟨i, rfl⟩
  · exact ⟨by decide +kernel, by rfl⟩
  · refine ⟨?_, ?_⟩
    · show ((PyData.strOk "refused" && (true && (true && true))) && decide (PyData.depth (refO (.int (i : Nat))) ≤ 64)) = true
      rw [show PyData.strOk "refused" = true by decide +kernel]
      simp [PyData.depth, refO, PyData.depthAll]
    show (("refused" : Str) == "refused" && ((true == true) && ((i : Int) == (i : Int) && true))) = true
    simp
section
variable {P : Program} {w : World} {K : PySem.W.Frag} {mg : Str → Option Value} {base : Heap}
abbrev s_law : Stmt := top 108
theorem sc_law : FnScope ["_law_script", "_law_k", "_law_draw_here", "_law_way", "_law_size", "_law_kind", "_law_made", "_law_net", "_law_base", "_law_at", "_law_kept", "_law_told_here", "_law_due"] ["_law_script"] (defScope s_law) := ⟨rfl, rfl, rfl, by decide +kernel, rfl, by decide +kernel, by decide +kernel⟩
theorem ok_law {f : Addr} {fd : FuncData} (F : FnP K "law" s_law f fd) {C : KC} {CR : Addr} {f_draw : Addr} {fd_draw : FuncData} (F_draw : FnP K "_law_draw" s_draw f_draw fd_draw) (g_draw : mg "_law_draw" = some (.ref f_draw)) (G_draw : FnOk P w K mg base (CX0) 1 f_draw fd_draw ["_law_script", "_law_k"] (spDraw K)) {f_next : Addr} {fd_next : FuncData} (F_next : FnP K "_law_next" s_next f_next fd_next) (g_next : mg "_law_next" = some (.ref f_next)) (G_next : FnOk P w K mg base (CX0) 2 f_next fd_next ["_law_draw_here", "_law_many"] (spNext)) {f_ring : Addr} {fd_ring : FuncData} (F_ring : FnP K "_law_ring" s_ring f_ring fd_ring) (g_ring : mg "_law_ring" = some (.ref f_ring)) (G_ring : FnOk P w K mg base (CX0) 5 f_ring fd_ring ["_law_draw_here", "_law_deep"] (spLRing 3)) {f_web : Addr} {fd_web : FuncData} (F_web : FnP K "_law_web" s_web f_web fd_web) (g_web : mg "_law_web" = some (.ref f_web)) (G_web : FnOk P w K mg base (CX0) 8 f_web fd_web ["_law_draw_here", "_law_made", "_law_most", "_law_many"] (spLWeb)) {f_tame : Addr} {fd_tame : FuncData} (F_tame : FnP K "_law_tame" s_tame f_tame fd_tame) (g_tame : mg "_law_tame" = some (.ref f_tame)) (G_tame : FnOk P w K mg base (CX0) 1 f_tame fd_tame ["_law_made", "_law_net"] (spTame)) {f_ring_of : Addr} {fd_ring_of : FuncData} (F_ring_of : FnP K "ring_of" s_ring_of f_ring_of fd_ring_of) (g_ring_of : mg "ring_of" = some (.ref f_ring_of)) (G_ring_of : FnOk P w K mg base (CX0) 13 f_ring_of fd_ring_of ["made"] (spRingOf C CR)) {f_told : Addr} {fd_told : FuncData} (F_told : FnP K "_law_told" s_told f_told fd_told) (g_told : mg "_law_told" = some (.ref f_told)) (G_told : FnOk P w K mg base (CX0) 12 f_told fd_told ["_law_base", "_law_net", "_law_at"] (spTold20 C CR)) {f_first : Addr} {fd_first : FuncData} (F_first : FnP K "_law_first" s_first f_first fd_first) (g_first : mg "_law_first" = some (.ref f_first)) (G_first : FnOk P w K mg base (CX0) 5 f_first fd_first ["_law_made", "_law_net"] (spFirst20)) {f_no_number : Addr} {fd_no_number : FuncData} (F_no_number : FnP K "_law_no_number" s_no_number f_no_number fd_no_number) (g_no_number : mg "_law_no_number" = some (.ref f_no_number)) (G_no_number : FnOk P w K mg base (CX0) 12 f_no_number fd_no_number ["_law_base", "_law_net"] (spNoNum C CR)) {f_row_right : Addr} {fd_row_right : FuncData} (F_row_right : FnP K "_law_row_right" s_row_right f_row_right fd_row_right) (g_row_right : mg "_law_row_right" = some (.ref f_row_right)) (G_row_right : FnOk P w K mg base (CX0) 8 f_row_right fd_row_right ["_law_made", "_law_net", "_law_at", "_law_row"] (spRowR)) (z_len : mg "len" = none) (z_range : mg "range" = none) (z_max : mg "max" = none) (z_min : mg "min" = none) (z_repr : mg "repr" = none) : FnG P w K mg base CX0 14 f fd ["_law_script"] (spLaw K) := by
  have b_draw : Binds K fd_draw ["_law_script", "_law_k"] [] := F_draw.bindsN fun _ _ _ _ _ _ us hl => match us, hl with | [_, _], _ => rfl
  have b_next : Binds K fd_next ["_law_draw_here", "_law_many"] [] := F_next.bindsN fun _ _ _ _ _ _ us hl => match us, hl with | [_, _], _ => rfl
  have b_ring : Binds K fd_ring ["_law_draw_here", "_law_deep"] [] := F_ring.bindsN fun _ _ _ _ _ _ us hl => match us, hl with | [_, _], _ => rfl
  have b_web : Binds K fd_web ["_law_draw_here", "_law_made", "_law_most", "_law_many"] [] := F_web.bindsN fun _ _ _ _ _ _ us hl => match us, hl with | [_, _, _, _], _ => rfl
  have b_tame : Binds K fd_tame ["_law_made", "_law_net"] [] := F_tame.bindsN fun _ _ _ _ _ _ us hl => match us, hl with | [_, _], _ => rfl
  have b_ring_of : Binds K fd_ring_of ["made"] [] := F_ring_of.bindsN fun _ _ _ _ _ _ us hl => match us, hl with | [_], _ => rfl
  have b_told : Binds K fd_told ["_law_base", "_law_net", "_law_at"] [] := F_told.bindsN fun _ _ _ _ _ _ us hl => match us, hl with | [_, _, _], _ => rfl
  have b_first : Binds K fd_first ["_law_made", "_law_net"] [] := F_first.bindsN fun _ _ _ _ _ _ us hl => match us, hl with | [_, _], _ => rfl
  have b_no_number : Binds K fd_no_number ["_law_base", "_law_net"] [] := F_no_number.bindsN fun _ _ _ _ _ _ us hl => match us, hl with | [_, _], _ => rfl
  have b_row_right : Binds K fd_row_right ["_law_made", "_law_net", "_law_at", "_law_row"] [] := F_row_right.bindsN fun _ _ _ _ _ _ us hl => match us, hl with | [_, _, _, _], _ => rfl
  refine Fun.okG F.asFun sc_law (fun vs H Q E h => ?_) (fun cdv A outer s H vs Q E hr hG h => ?_)
  · obtain ⟨a, ns, rfl, _⟩ := h
    rfl
  · obtain ⟨a, ns, rfl, hS, hl, q⟩ := h
    have hu := hu_of hr
    have hu64 := hr.units
    have hr_draw := hr.mono (by decide : 1 ≤ 13)
    have hr_next := hr.mono (by decide : 2 ≤ 13)
    have hr_ring := hr.mono (by decide : 5 ≤ 13)
    have hr_web := hr.mono (by decide : 8 ≤ 13)
    have hr_tame := hr.mono (by decide : 1 ≤ 13)
    have hr_ring_of := hr.mono (by decide : 13 ≤ 13)
    have hr_told := hr.mono (by decide : 12 ≤ 13)
    have hr_first := hr.mono (by decide : 5 ≤ 13)
    have hr_no_number := hr.mono (by decide : 12 ≤ 13)
    have hr_row_right := hr.mono (by decide : 8 ≤ 13)
    refine ⟨_, PSs.nox (pss_cons (ps_for PassesOwn.never rfl (pi_range3 rfl z_range (pa_cons pe_int (pa_cons (pe_callB (call_max2 rfl) (by rfl) z_max PyProof.Rows.boot_max (pa_cons pe_int (pa_cons (pe_callB (call_min2 rfl) (by rfl) z_min PyProof.Rows.boot_min (pa_cons pe_int (pa_cons (pe_callB call_len_seq (by rfl) z_len PySem.boot_len (pa_cons (pv 0) pa_nil)) pa_nil))) pa_nil))) (pa_cons pe_int pa_nil)))) (pg_name (i := 1) sc_law.nd rfl (Or.inl rfl)) (pss_cons (ps_set (i := 2) sc_law.nd rfl (Or.inl rfl) (pe_call G_draw hr_draw rfl g_draw F_draw.kp b_draw .nil pass0 (pa_cons (pv 0) (pa_cons (pv 1) pa_nil))))
      (pss_cons (ps_par3 (i := 3) (j := 4) (l := 5) (by rfl) sc_law.nd rfl rfl rfl (by decide) (by decide) (by decide) rfl rfl rfl (pa_cons (pe_call G_next hr_next rfl g_next F_next.kp b_next .nil pass0 (pa_cons (pv 2) (pa_cons pe_int pa_nil))) (pa_cons (pe_op op_fdiv (pe_call G_next hr_next rfl g_next F_next.kp b_next .nil pass0 (pa_cons (pv 2) (pa_cons pe_int pa_nil))) pe_int) (pa_cons (pe_call G_next hr_next rfl g_next F_next.kp b_next .nil pass0 (pa_cons (pv 2) (pa_cons pe_int pa_nil))) pa_nil))) (by rfl))
      (pss_cons (ps_set (i := 6) sc_law.nd rfl (Or.inl rfl) (pe_call G_ring hr_ring rfl g_ring F_ring.kp b_ring .nil pass0 (pa_cons (pv 2) (pa_cons pe_int pa_nil))))
      (pss_cons (ps_if (pt_cmpR op_gt (pv 3) pe_int (nomark _)) (pss_one (ps_set (i := 6) sc_law.nd rfl (Or.inl rfl) (pe_tup (pa_cons (pe_ix ix_list (pe_lst (pa_cons pe_str (pa_cons pe_str (pa_cons pe_str (pa_cons pe_str (pa_cons pe_str pa_nil)))))) (pv 5) (fun _ _ => rfl)) pa_nil)))) pss_nil)
      (pss_cons (ps_set (i := 7) sc_law.nd rfl (Or.inl rfl) (pe_call G_web hr_web rfl g_web F_web.kp b_web .nil pass0 (pa_cons (pv 2) (pa_cons (pv 6) (pa_cons (pe_ix ix_list (pe_lst (pa_cons pe_int (pa_cons pe_int pa_nil))) (pv 4) (fun _ _ => rfl)) (pa_cons (pe_ix ix_list (pe_lst (pa_cons pe_int (pa_cons pe_int pa_nil))) (pv 4) (fun _ _ => rfl)) pa_nil))))))
      (pss_cons (ps_set (i := 7) sc_law.nd rfl (Or.inl rfl) (pe_ifExp (pt_cmpR op_eq (pe_call G_next hr_next rfl g_next F_next.kp b_next .nil pass0 (pa_cons (pv 2) (pa_cons pe_int pa_nil))) pe_int (nomark _)) (pe_call G_tame hr_tame rfl g_tame F_tame.kp b_tame .nil pass0 (pa_cons (pv 6) (pa_cons (pv 7) pa_nil))) (pv 7)))
      (pss_cons (ps_par3 (i := 8) (j := 9) (l := 10) (by rfl) sc_law.nd rfl rfl rfl (by decide) (by decide) (by decide) rfl rfl rfl (pa_cons (pe_call G_ring_of hr_ring_of rfl g_ring_of F_ring_of.kp b_ring_of .nil pass0 (pa_cons (pv 6) pa_nil)) (pa_cons (pe_call G_next hr_next rfl g_next F_next.kp b_next .nil pass0 (pa_cons (pv 2) (pa_cons (pe_ix ix_tup (pv 7) pe_int (fun _ _ => rfl)) pa_nil))) (pa_cons (pe_callB (call_reprB hG hu64) (by rfl) z_repr (by decide +kernel) (pa_cons (pv 7) pa_nil)) pa_nil))) (by rfl))
      (pss_cons (ps_par (i := 11) (j := 12) (by rfl) sc_law.nd rfl rfl (by decide) rfl rfl (pa_cons (pe_call G_told hr_told rfl g_told F_told.kp b_told .nil pass0 (pa_cons (pv 8) (pa_cons (pv 7) (pa_cons (pv 9) pa_nil)))) (pa_cons (pe_call G_first hr_first rfl g_first F_first.kp b_first .nil pass0 (pa_cons (pv 6) (pa_cons (pv 7) pa_nil))) pa_nil)) (by rfl))
      (pss_cons (ps_if (PW.pt (pw_or (PW.pt (pw_and (pt_cmpR op_notN (pv 12) pe_non (nomark _)) (pw_and1 (pt_cmpR (op_neD hu64) (pv 11) (pv 12) (nomark _))))) (pw_or1 (pt_not (pt_val (pe_call G_no_number hr_no_number rfl g_no_number F_no_number.kp b_no_number .nil pass0 (pa_cons (pv 8) (pa_cons (pv 7) pa_nil)))))))) (pss_one (ps_ret pe_bl)) pss_nil)
      (pss_cons (ps_if (PW.pt (pw_and (pt_cmpR op_isN (pv 12) pe_non (nomark _)) (pw_and1 (pt_cmpR op_ne (pe_ix ix_tup (pv 11) pe_int (fun _ _ => rfl)) pe_str (nomark _))))) (pss_one (ps_ret pe_bl)) pss_nil)
      (pss_cons (ps_if (PW.pt (pw_and (pt_cmpR op_isN (pv 12) pe_non (nomark _)) (pw_and1 (pt_not (pt_val (pe_call G_row_right hr_row_right rfl g_row_right F_row_right.kp b_row_right .nil pass0 (pa_cons (pv 6) (pa_cons (pv 7) (pa_cons (pv 9) (pa_cons (pe_ix ix_tup (pv 11) pe_int (fun _ _ => rfl)) pa_nil)))))))))) (pss_one (ps_ret pe_bl)) pss_nil)
      (pss_one (ps_if (pt_cmpR op_ne (pe_callB (call_reprB hG hu64) (by rfl) z_repr (by decide +kernel) (pa_cons (pv 7) pa_nil)) (pv 10) (nomark _)) (pss_one (ps_ret pe_bl)) pss_nil))))))))))))))
      (pss_one (ps_ret pe_bl))), ?_⟩
    obtain ⟨u, hu1, hu2, hu3⟩ : ∃ u : Fin 64, (if (if ((ns.map V.int).length : Int) < 63 then ((ns.map V.int).length : Int) else 63) > 1 then (if ((ns.map V.int).length : Int) < 63 then ((ns.map V.int).length : Int) else 63) else 1) = (u.val : Int) ∧ 1 ≤ u.val ∧ (ns ≠ [] → u.val ≤ ns.length) := by
      rw [List.length_map]
      rcases Nat.eq_zero_or_pos ns.length with h0 | h0
      · refine ⟨1, ?_, by decide, fun h => absurd (List.length_eq_zero_iff.mp h0) h⟩
        rw [h0]
        rfl
      · refine ⟨⟨ns.length, by omega⟩, ?_, h0, fun _ => Nat.le_refl _⟩
        show _ = (ns.length : Int)
        split <;> split <;> omega
    refine ⟨_, rfl, a, _, rfl, .inl hS, 63, _, rfl, 1, _, rfl, 0, _, 9, (u.val + 8) / 9, rfl, ?_, ?_⟩
    · rw [hu1]
      exact ⟨by decide, by decide, (rg9 u).1, (rg9 u).2⟩
    refine for_it (walk_rangeC (lo := 0) (c := 9) (n := (u.val + 8) / 9)) (fun i σ' G => ∃ s1 s2 s3 s4 s5 s6 s7 s8 s9 s10 s11 s12, σ' = [some (.ref a), s1, s2, s3, s4, s5, s6, s7, s8, s9, s10, s11, s12] ∧ Ex H G) ⟨_, _, _, _, _, _, _, _, _, _, _, _, rfl, Ex.refl H⟩ (fun _ _ _ _ _ => True.intro) ?_ (fun σ' G _ => q G)
    rintro i x' σ' _ G hi ⟨s1, s2, s3, s4, s5, s6, s7, s8, s9, s10, s11, s12, rfl, eG⟩ ⟨rfl, rfl⟩
    have hk : 9 * i < u.val := by omega
    have u63 : u.val ≤ 63 := by omega
    have hkc : (0 : Int) + (i : Int) * 9 = ((9 * i : Nat) : Int) := by omega
    refine asg_step ⟨_, rfl, _, rfl, a, ns, 9 * i, congrArg (fun z => [V.ref a, V.int z]) hkc, ex_l eG hS, hl, fun h => Nat.lt_of_lt_of_le hk (hu3 h), by omega, fun m pc pg cs H2 e2 hm hpc hpg hD => ?_⟩
    obtain ⟨j, hj⟩ : ∃ j, j = 64 * (9 * i) := ⟨_, rfl⟩
    rw [← hj] at hD
    have hj2 : j ≤ 4032 := by omega
    refine par3_step ⟨_, rfl, m, pc, pg, cs, j, 4, rfl, hD, by omega, by decide, by decide, fun way H3 w0 w1 r3 => ⟨_, rfl, m, pc, pg, cs, j + 1, 8, rfl, r3.inv, by omega, by decide, by decide, fun sz H4 z0' z1' r4 => ⟨sz, 7, rfl, rfl, ⟨by decide, by decide⟩, ⟨_, rfl, m, pc, pg, cs, j + 2, 5, rfl, r4.inv, by omega, by decide, by decide, fun kd H5 k0 k1 r5 => ⟨_, _, _, rfl, ?_⟩⟩⟩⟩⟩
    obtain ⟨s, hs, hs2⟩ : ∃ s : Nat, sz / 7 = (s : Int) ∧ s ≤ 1 := ⟨(sz / 7).toNat, by omega, by omega⟩
    have rA : RD m pc pg cs (j + 3) H2 H5 := (r3.then r4).then r5
    change tSeq _ _ _ [some (.ref a), some (.int ((0 : Int) + (i : Int) * 9)), some (.ref m), some (.int way), some (.int (sz / 7)), some (.int kd), s6, s7, s8, s9, s10, s11, s12] H5
    rw [hs]
    refine asg_step ⟨_, rfl, m, pc, pg, cs, j + 3, 1, rfl, by decide, rA.inv, by show j + 3 + 7 ≤ 100000; omega, fun kr mv H6 okr dkr r6 hmv => ?_⟩
    have rB : RD m pc pg cs (j + 10) H2 H6 := rA.then r6
    refine q_ifS (b := decide (0 < way)) (fun σ2 G2 => ∃ (k : RK) (mv : V), σ2 = [some (.ref a), some (.int ((0 : Int) + (i : Int) * 9)), some (.ref m), some (.int way), some (.int (s : Int)), some (.int kd), some mv, s7, s8, s9, s10, s11, s12] ∧ Ex H6 G2 ∧ k.ok ∧ k.depth < 3 ∧ DtAt G2 mv (madeD k)) (et_test (ev_gtI (ev_var rfl) ev_c)) (fun hb G3 e3 D' k' => ?_) (fun hb G3 e3 => ⟨kr, mv, rfl, e3, okr, by omega, hmv.ex e3⟩) ?_
    · obtain ⟨k2, hat, ho2, hm2, ok2⟩ := ord_at k0 k1
      refine ⟨by show 5 ≤ sizeLine; decide, fun l1 hl1 => ⟨_, rfl, l1, _, kd, .str (nameOf k2), rfl, rfl, sq_of upd_same, hat, by show 1 ≤ sizeLine; decide, fun l2 hl2 => ?_⟩⟩
      refine k' _ _ ⟨k2, .ref l2, rfl, e3.trans ((Ex.new hl1).trans (Ex.new hl2)), ok2, by rw [ord_depth ho2]; decide, ?_⟩
      rw [hm2]
      exact .new hl2 (.cons (.str _) .nil)
    rintro σ2 G2 ⟨k, mv, rfl, e2', ok, hd, hM⟩
    have rC : RD m pc pg cs (j + 10) H2 G2 := rB.then (.ofEx rB.inv e2')
    obtain ⟨mo, ma, at1, at2, mo1, mo2, ma2⟩ : ∃ mo ma : Nat, atI [V.int 4, .int 12] (s : Int) = some (.int (mo : Int)) ∧ atI [V.int 8, .int 30] (s : Int) = some (.int (ma : Int)) ∧ 1 ≤ mo ∧ mo ≤ 12 ∧ ma ≤ 80 := by
      have h2 : s = 0 ∨ s = 1 := by omega
      rcases h2 with rfl | rfl
      · exact ⟨4, 8, rfl, rfl, by decide, by decide, by decide⟩
      · exact ⟨12, 30, rfl, rfl, by decide, by decide, by decide⟩
    refine asg_step ⟨_, rfl, _, rfl, by show 2 ≤ sizeLine; decide, fun l1 hl1 => ⟨_, rfl, l1, _, (s : Int), .int (mo : Int), rfl, rfl, sq_of upd_same, at1, by show 2 ≤ sizeLine; decide, fun l2 hl2 => ⟨_, rfl, l2, _, (s : Int), .int (ma : Int), rfl, rfl, sq_of upd_same, at2, ?_⟩⟩⟩
    have e67 := (Ex.new (o := .lst [.int 4, .int 12]) hl1).trans (Ex.new (o := .lst [.int 8, .int 30]) hl2)
    have rD := rC.then (.ofEx rC.inv e67)
    refine ⟨m, pc, pg, cs, j + 10, mv, k, mo, ma, rfl, rD.inv, by omega, hM.ex e67, hd, ok, mo1, mo2, ma2, fun nv n ss H7 r7 hW hok hsz hn hss => ?_⟩
    have hM7 := (hM.ex e67).kp (r7.kp rD.inv)
    have rE : RD m pc pg cs (j + 2010) H2 H7 := (rD.then r7).up (by omega)
    -- tame or as it is
    refine asg_p (M := fun x G => ∃ ss', RD m pc pg cs (j + 2011) H2 G ∧ Kp H7 G ∧ DtAt G x (webD n ss') ∧ WebOk k n ss' ∧ ∀ s ∈ ss', Sz 140 s.2.2) (fun Q' q' => ?_) fun nv' H8 hx8 => ?_
    · refine ⟨_, rfl, m, pc, pg, cs, j + 2010, 2, rfl, rE.inv, by omega, by decide, by decide, fun z G8 z0 z1 r8 => ?_⟩
      have rF := rE.then r8
      have kp8 := r8.kp rE.inv
      by_cases hz : z = 0
      · subst hz
        refine ⟨rfl, _, rfl, ?_⟩
        refine yes_of (decide_eq_true rfl) ⟨_, rfl, _, rfl, mv, nv, k, n, ss, rfl, hM7.kp kp8, hW.kp kp8, hok, hsz, fun x ss' G9 e9 h1 h2 h3 => q' x G9 ⟨ss', rF.then (.ofEx rF.inv e9), kp8.trans (.ex e9), h1, h2, h3⟩⟩
      · refine ⟨rfl, _, rfl, ?_⟩
        refine no_of (decide_eq_false fun h => hz (V.int.inj h)) ⟨_, rfl, q' nv G8 ⟨ss, rF, kp8, hW.kp kp8, hok, hsz⟩⟩
    obtain ⟨ss', rF, kp78, hW8, hok8, hsz8⟩ := hx8
    have hM8 := hM7.kp kp78
    clear rE rD rC rB rA e67 at1 at2 r7 r6 r5 r4 r3 hsz hok hW hss
    obtain ⟨aw, p1, us, rfl, haw, _⟩ := web_at hW8
    have n12 := hok8.n12
    have n1 := hok8.n1
    have d4 : k.depth < 4 := by omega
    refine par3_step ⟨_, rfl, mv, k, rfl, hM8, ok, d4, fun r H9 e9 hR => ⟨_, rfl, _, rfl, aw, _, 0, .int (n : Int), rfl, rfl, .inl (.inl (e9 _ _ haw)), rfl, m, pc, pg, cs, j + 2011, (n : Int), rfl, (RD.ofEx rF.inv e9).inv, by omega, by omega, small_log (by omega), fun st H10 st0 st1 r10 => ⟨_, rfl, ?_⟩⟩⟩
    obtain ⟨st, rfl⟩ : ∃ s' : Nat, st = (s' : Int) := ⟨st.toNat, by omega⟩
    have rG : RD m pc pg cs (j + 2012) H2 H10 := (rF.then (.ofEx rF.inv e9)).then r10
    have kp10 : Kp H9 H10 := r10.kp (RD.ofEx rF.inv e9).inv
    obtain ⟨zw, hzw⟩ : ∃ zw, zw = PyData.shown (webD n ss') := ⟨_, rfl⟩
    have shw := web_shb hd hok8 hsz8
    have rep : ∀ {G : Hp} {Q' : VK}, DtAt G (.ref aw) (webD n ss') → Q' (.str zw) G → rReprB K [.ref aw] G Q' := fun {G Q'} hg k => by
      subst hzw
      exact .inl ⟨aw, _, rfl, hg.dp, shw.fs, dt_nodict hg, Nat.le_trans shw.fd (by decide), shw.fits (by decide), k⟩
    have hW10 := (hW8.ex e9).kp kp10
    have hM10 := (hM8.ex e9).kp kp10
    have hR10 := hR.kp kp10
    dsimp only [tNil]
    refine rep hW10 ?_
    refine ⟨_, _, _, rfl, ?_⟩
    have hstn : st < n := by omega
    refine par_step ⟨_, rfl, _, rfl, _, rfl, r, .ref aw, k, n, st, ss', rfl, hR10, d4, ok, hW10, hok8, hsz8, hstn, fun tv H11 e11 hT => ⟨_, rfl, _, rfl, mv, .ref aw, k, n, ss', rfl, hM10.ex e11, hd, ok, hW10.ex e11, hok8, hsz8, fun dv H12 e12 hdv => ⟨_, _, rfl, ?_⟩⟩⟩
    have e1012 := e11.trans e12
    have e0 : Ex H H10 := RD.exOf (eG.trans e2) rG (fresh_back eG hm) (fresh_back eG hpg)
    have hW12 := hW10.ex e1012
    have hR12 := hR10.ex e1012
    have hM12 := hM10.ex e1012
    rcases hT with ⟨p, hp, hTp⟩ | ⟨hnone, lp, row, y, rfl, hlp, hL, hysz, hRow⟩
    · have hf : firstD k ss' = refO p := by
        unfold firstD
        rw [hp]
      rw [hf] at hdv
      obtain ⟨sh, eq1⟩ := refO_same (bad_num hp)
      obtain ⟨lp2, rfl⟩ : ∃ lp2 : Addr, dv = .ref lp2 := by
        cases hdv
        exact ⟨_, rfl⟩
      refine q_when (b := (true && false) || false) (et_or (et_and (et_test (ev_op (ev_var rfl) ev_c (fun H1 _ Q q => ⟨rfl, q H1 (Ex.refl H1)⟩))) fun _ => et_is (et_test (ev_neDt (ev_var rfl) (ev_var rfl) (hTp.ex e12) hdv sh sh)) (by rw [eq1]; rfl)) fun _ => et_is (et_not (a := true) (et_B (ev_call (ea_cons (ev_var rfl) (ea_cons (ev_var rfl) ea_nil)) fun G e Q' k' E' => ⟨r, .ref aw, k, n, ss', rfl, hR12.ex e, d4, ok, hW12.ex e, hok8, hsz8, fun G2 e2 => k' G2 e2⟩))) rfl) (fun hb => (by cases hb)) (fun _ G1 g1 => ?_)
      refine q_when (b := false && true) (et_and (et_test (ev_op (ev_var rfl) ev_c (fun H1 _ Q q => ⟨rfl, q H1 (Ex.refl H1)⟩))) fun hb => (by cases hb)) (fun hb => (by cases hb)) (fun _ G2 g2 => ?_)
      refine q_when (b := false && true) (et_and (et_test (ev_op (ev_var rfl) ev_c (fun H1 _ Q q => ⟨rfl, q H1 (Ex.refl H1)⟩))) fun hb => (by cases hb)) (fun hb => (by cases hb)) (fun _ G3 g3 => ?_)
      have g13 := (g1.trans g2).trans g3
      refine s_when (b := false) (et_test (ev_neS (x := zw) (ev_cb (ea_cons (ev_var rfl) ea_nil) fun H1 e1 Q' q' => rep (hW12.ex (g13.trans e1)) (q' H1 (Ex.refl H1))) (ev_var rfl))) (fun hb => (by cases hb)) (fun _ G4 g4 => ⟨_, _, _, _, _, _, _, _, _, _, _, _, rfl, (e0.trans e1012).trans (g13.trans g4)⟩)
    · have hf : firstD k ss' = .none := by
        unfold firstD
        rw [hnone]
      rw [hf] at hdv
      obtain rfl : dv = .non := by cases hdv; rfl
      have hb : ordB k = true := by
        unfold badO at hnone
        cases h : ordB k with
        | true => rfl
        | false =>
          rw [h, if_neg Bool.false_ne_true] at hnone
          cases hnone
      have ho := ordB_of hb
      have ht : ∀ s ∈ ss', tameB k s = true := by
        refine badAt_none (i := 0) ?_
        unfold badO at hnone
        rw [hb, if_pos rfl, Option.map_eq_none_iff] at hnone
        exact hnone
      refine q_when (b := (false && true) || false) (et_or (et_and (et_test (ev_op (ev_var rfl) ev_c (fun H1 _ Q q => ⟨rfl, q H1 (Ex.refl H1)⟩))) fun hb => (by cases hb)) fun _ => et_is (et_not (a := true) (et_B (ev_call (ea_cons (ev_var rfl) (ea_cons (ev_var rfl) ea_nil)) fun G e Q' k' E' => ⟨r, .ref aw, k, n, ss', rfl, hR12.ex e, d4, ok, hW12.ex e, hok8, hsz8, fun G2 e2 => k' G2 e2⟩))) rfl) (fun hb => (by cases hb)) (fun _ G1 g1 => ?_)
      have hlp12 := e12 _ _ hlp
      refine q_when (b := true && false) (et_and (et_test (ev_op (ev_var rfl) ev_c (fun H1 _ Q q => ⟨rfl, q H1 (Ex.refl H1)⟩))) fun _ => et_test (ev_neS (ev_op (ev_var rfl) ev_c (rv_ixT (.inl (.inl (g1 _ _ hlp12))) rfl)) ev_c)) (fun hb => (by cases hb)) (fun _ G2 g2 => ?_)
      have g12 := g1.trans g2
      refine q_when (b := true && false) (et_and (et_test (ev_op (ev_var rfl) ev_c (fun H1 _ Q q => ⟨rfl, q H1 (Ex.refl H1)⟩))) fun _ => et_is (et_not (a := true) (et_B (ev_call (ea_cons (ev_var rfl) (ea_cons (ev_var rfl) (ea_cons (ev_var rfl) (ea_cons (ev_op (ev_var rfl) ev_c (rv_ixT (v := row) (.inl (.inl (g12 _ _ hlp12))) rfl)) ea_nil)))) fun G e Q' k' E' => ⟨mv, .ref aw, row, k, n, st, ss', y, rfl, hM12.ex (g12.trans e), ok, ho, ht, hW12.ex (g12.trans e), hok8, hsz8, hstn, hL, hysz, hRow.ex (e12.trans (g12.trans e)), fun G2 e2 => k' G2 e2⟩))) rfl) (fun hb => (by cases hb)) (fun _ G3 g3 => ?_)
      have g13 := g12.trans g3
      refine s_when (b := false) (et_test (ev_neS (x := zw) (ev_cb (ea_cons (ev_var rfl) ea_nil) fun H1 e1 Q' q' => rep (hW12.ex (g13.trans e1)) (q' H1 (Ex.refl H1))) (ev_var rfl))) (fun hb => (by cases hb)) (fun _ G4 g4 => ⟨_, _, _, _, _, _, _, _, _, _, _, _, rfl, (e0.trans e1012).trans (g13.trans g4)⟩)
end
end D1
end
section
set_option Elab.async false
set_option linter.all false
set_option maxRecDepth 100000
set_option maxHeartbeats 4000000
/-! K20: what is asked of the written part, as one Bool -/
namespace D1
open PySem L2 PySem.VX Evl
theorem xbB_ok {K : PySem.W.Frag} {C : Addr} {bmB : List Value} {newId : String} {fn : List Str} (h : xbB K C bmB newId fn = true) : XB K bmB newId C fn := by
  unfold xbB at h
  obtain ⟨h1, h⟩ := Bool.and_eq_true_iff.mp h
  obtain ⟨h2, h⟩ := Bool.and_eq_true_iff.mp h
  obtain ⟨h3, h⟩ := Bool.and_eq_true_iff.mp h
  obtain ⟨h4, h⟩ := Bool.and_eq_true_iff.mp h
  obtain ⟨h5, h⟩ := Bool.and_eq_true_iff.mp h
  obtain ⟨h6, h⟩ := Bool.and_eq_true_iff.mp h
  obtain ⟨h7, h⟩ := Bool.and_eq_true_iff.mp h
  obtain ⟨h8, h⟩ := Bool.and_eq_true_iff.mp h
  obtain ⟨h9, h⟩ := Bool.and_eq_true_iff.mp h
  obtain ⟨h10, h⟩ := Bool.and_eq_true_iff.mp h
  obtain ⟨h11, h12⟩ := Bool.and_eq_true_iff.mp h
  exact ⟨h1, h2, h3, of_decide_eq_true h4, of_decide_eq_true h5, of_decide_eq_true h6, of_decide_eq_true h7, of_decide_eq_true h8, fun f hf => of_decide_eq_true (List.all_eq_true.mp h9 f hf), h10, of_decide_eq_true h11, of_decide_eq_true h12⟩
section
variable {prog : Program} {w : World} {K : PySem.W.Frag} {mg : Str → Option Value} {C fI : Addr} {bmB : List Value} {B newId initId : String} {qual nm : Str} {fd : FuncData}
theorem own_what (FB : ExcBaseFacts B newId initId bmB) (SF : StoreFacts B bmB "object.__setattr__" "object") (T : XB K bmB newId C [("what" : Str)]) (g : mg nm = some (.ref C)) (iC : PySem.W.findIn K (.ref C) "__init__" = some (some (.ref fI))) (tI : PySem.W.typeIn K (.ref fI) = some (.type "function"))
    (D : Ini1 K fI qual "what" fd) : OwnX prog w K mg nm C [("what" : Str)] := by
  have bp : ∀ (s : Shared) (x v : Value), BindsTo s fd ⟨[x, v], []⟩ [("self", x), ("what", v)] := fun s x v => by
    obtain ⟨oc, od, doc, pm, an, cdv, ct, osl, p1, p2, q1, q2, q3, q4, rfl, _⟩ := D.ex
    exact .of_eq (by first | rfl | with_unfolding_all rfl)
  have bk : ∀ (s : Shared) (x v : Value), BindsTo s fd ⟨[x], [("what", v)]⟩ [("self", x), ("what", v)] := fun s x v => by
    obtain ⟨oc, od, doc, pm, an, cdv, ct, osl, p1, p2, q1, q2, q3, q4, rfl, _⟩ := D.ex
    exact .of_eq (by first | rfl | with_unfolding_all rfl)
  refine ⟨g, ⟨bmB, B, newId, initId, fI, FB, T, iC, tI, fun us hl => ?_, fun us hl => ?_⟩, by decide⟩
  · match us, hl with
    | [v], _ => exact fun A R s x t0 X hlim hx hnx hroom hq => init_what SF T D X hlim hx hroom (bp s _ v) hq
  · match us, hl with
    | [v], _ => exact fun A R s x t0 X hlim hx hnx hroom hq => init_what SF T D X hlim hx hroom (bk s _ v) hq
theorem own_why (FB : ExcBaseFacts B newId initId bmB) (SF : StoreFacts B bmB "object.__setattr__" "object") (T : XB K bmB newId C [("why" : Str)]) (g : mg nm = some (.ref C)) (iC : PySem.W.findIn K (.ref C) "__init__" = some (some (.ref fI))) (tI : PySem.W.typeIn K (.ref fI) = some (.type "function"))
    (D : Ini1 K fI qual "why" fd) : OwnX prog w K mg nm C [("why" : Str)] := by
  have bp : ∀ (s : Shared) (x v : Value), BindsTo s fd ⟨[x, v], []⟩ [("self", x), ("why", v)] := fun s x v => by
    obtain ⟨oc, od, doc, pm, an, cdv, ct, osl, p1, p2, q1, q2, q3, q4, rfl, _⟩ := D.ex
    exact .of_eq (by first | rfl | with_unfolding_all rfl)
  have bk : ∀ (s : Shared) (x v : Value), BindsTo s fd ⟨[x], [("why", v)]⟩ [("self", x), ("why", v)] := fun s x v => by
    obtain ⟨oc, od, doc, pm, an, cdv, ct, osl, p1, p2, q1, q2, q3, q4, rfl, _⟩ := D.ex
    exact .of_eq (by first | rfl | with_unfolding_all rfl)
  refine ⟨g, ⟨bmB, B, newId, initId, fI, FB, T, iC, tI, fun us hl => ?_, fun us hl => ?_⟩, by decide⟩
  · match us, hl with
    | [v], _ => exact fun A R s x t0 X hlim hx hnx hroom hq => init_why SF T D X hlim hx hroom (bp s _ v) hq
  · match us, hl with
    | [v], _ => exact fun A R s x t0 X hlim hx hnx hroom hq => init_why SF T D X hlim hx hroom (bk s _ v) hq
theorem own_two (FB : ExcBaseFacts B newId initId bmB) (SF : StoreFacts B bmB "object.__setattr__" "object") (T : XB K bmB newId C [("rule" : Str), ("things" : Str)]) (g : mg nm = some (.ref C)) (iC : PySem.W.findIn K (.ref C) "__init__" = some (some (.ref fI))) (tI : PySem.W.typeIn K (.ref fI) = some (.type "function"))
    (D : Ini2 K fI qual fd) : OwnX prog w K mg nm C [("rule" : Str), ("things" : Str)] := by
  have bp : ∀ (s : Shared) (x v u : Value), BindsTo s fd ⟨[x, v, u], []⟩ [("self", x), ("rule", v), ("things", u)] := fun s x v u => by
    obtain ⟨oc, od, doc, pm, an, cdv, ct, osl, p1, p2, p3, q1, q2, q3, q4, r1, r2, r3, r4, rfl, _⟩ := D.ex
    exact .of_eq (by first | rfl | with_unfolding_all rfl)
  have bk : ∀ (s : Shared) (x v u : Value), BindsTo s fd ⟨[x], [("things", u), ("rule", v)]⟩ [("self", x), ("rule", v), ("things", u)] := fun s x v u => by
    obtain ⟨oc, od, doc, pm, an, cdv, ct, osl, p1, p2, p3, q1, q2, q3, q4, r1, r2, r3, r4, rfl, _⟩ := D.ex
    exact .of_eq (by first | rfl | with_unfolding_all rfl)
  refine ⟨g, ⟨bmB, B, newId, initId, fI, FB, T, iC, tI, fun us hl => ?_, fun us hl => ?_⟩, by decide⟩
  · match us, hl with
    | [v, u], _ => exact fun A R s x t0 X hlim hx hnx hroom hq => init_two SF T D X hlim hx hnx hroom (bp s _ v u) hq
  · match us, hl with
    | [u, v], _ => exact fun A R s x t0 X hlim hx hnx hroom hq => init_two SF T D X hlim hx hnx hroom (bk s _ v u) hq
end
open He
theorem kwN_ok {K : PySem.W.Frag} {p : Str × Option Str} {oc : Value} {od : Option Addr} {osl : Array (Option Value)} {x q : Str} {pa : Arguments} {b : List Stmt} {sc : Scope} {dV kV doc pm cd ct : Value} {an : Option Addr}
    (lk : K.lookup (fAd K p) = some ⟨oc, od, .func (PySem.W.fnOf x q pa b sc dV kV doc pm an cd ct), osl⟩) (h : kwN K p = true) : kV = .none := by
  unfold kwN at h
  rw [lk] at h
  cases kV with
  | none => rfl
  | _ => cases h
theorem exc_of {K : PySem.W.Frag} {C : Addr} {bm : List Value} {nw : String} {fn : List Str} (T : XB K bm nw C fn) (h : excB K = true) : ExcC K C := by
  obtain ⟨c1, c2⟩ := Bool.and_eq_true_iff.mp h
  exact ⟨T.ga, T.gg, T.exc, T.hd, T.ca, of_decide_eq_true c1, of_decide_eq_true c2, T.mo⟩
/-- the tuple at a -/
theorem tupK_ok {K : PySem.W.Frag} {a : Addr} {vs : List V} (h : tupK K a vs = true) (H : Hp) : SqT K H a vs := by
  unfold tupK at h
  cases q : K.lookup a with
  | none =>
    rw [q] at h
    cases h
  | some o =>
    obtain ⟨oc, od, dt, osl⟩ := o
    rw [q] at h
    cases oc with
    | type c =>
      cases dt with
      | seq its n =>
        obtain ⟨h1, h2⟩ := ba (show (decide (c = "tuple") && (decide (its.size ≤ sizeLine) && relAll vs its.toList)) = true from h)
        obtain ⟨h3, h4⟩ := ba h2
        exact .inr ⟨_, its, n, q, congrArg Value.type (of_decide_eq_true h1), rfl, of_decide_eq_true h3, relAll_ok h4⟩
      | _ => cases h
    | _ => cases dt <;> cases h
/-- what the written part says of the sizes: the first of five tuples' place is that of lot -/
theorem sizes_of {K : PySem.W.Frag} {w : World} {mg : Str → Option Value} {es : Array DictEntry} {n : Nat} (g : mg "_SIZES" = some (.ref (ga K "_SIZES"))) (D : KDict K w (ga K "_SIZES") es n) (h : sizesB K = true) : SizesC K w mg (ga K "_SIZES") es n (lotA K) := by
  obtain ⟨h1, h⟩ := ba h
  obtain ⟨h2, h3⟩ := ba h
  refine ⟨g, D, fun k hk => ?_, eqO_ok h2, tupK_ok h3⟩
  refine eqO_ok (List.all_eq_true.mp h1 _ ?_)
  cases k with
  | lot n => exact absurd rfl (hk n)
  | _ => simp [nameOf]
theorem okC_of {K : PySem.W.Frag} {x : Str} (c : (Fa.cls x).ok K = true) (h : noB K x = true) : OkC K (ga K x) := ⟨cls_ok c, fun f hf => eqO_ok (List.all_eq_true.mp h f hf)⟩
theorem meth_of {K : PySem.W.Frag} {x m : Str} {p : Str × Option Str} (h : methB K x m p = true) : Meth K (ga K x) m (fAd K p) := by
  obtain ⟨h1, h⟩ := ba h
  obtain ⟨h2, h3⟩ := ba h
  exact ⟨eqO_ok h1, h2, h3⟩
theorem mths_of {K : PySem.W.Frag} (h : mthsB K = true) (x m c : Str) (hm : (x, m, c) ∈ mths) : Meth K (ga K x) m (fAd K (c, some m)) := meth_of (List.all_eq_true.mp h _ hm)
theorem base_of {K : PySem.W.Frag} {mg : Str → Option Value} {x : Str} {p : Str × Option Str} (g : mg x = some (.ref (ga K x))) (h : baseB K x p = true) : BaseI K mg x (fAd K p) := by
  obtain ⟨h1, h⟩ := ba h
  obtain ⟨h2, h3⟩ := ba h
  refine ⟨_, _, g, ⟨h1, eqO_ok h2⟩, ?_⟩
  cases q : PySem.W.findCls K (.ref (ga K x)) (.type "type") "__init__" with
  | none =>
    rw [q] at h3
    cases h3
  | some r =>
    rw [q] at h3
    cases r with
    | val u =>
      cases u with
      | ref a =>
        have e : a = fAd K p := of_decide_eq_true h3
        subst e
        exact ⟨q, rfl⟩
      | _ => cases h3
    | _ => cases h3
section
variable {prog : Program} {w : World} {K : PySem.W.Frag} {mg : Str → Option Value} {C fI : Addr} {bmB : List Value} {B newId initId : String} {qual nm : Str} {fd : FuncData}
theorem own_step (FB : ExcBaseFacts B newId initId bmB) (SF : StoreFacts B bmB "object.__setattr__" "object") (T : XB K bmB newId C [("step" : Str)]) (g : mg nm = some (.ref C)) (iC : PySem.W.findIn K (.ref C) "__init__" = some (some (.ref fI))) (tI : PySem.W.typeIn K (.ref fI) = some (.type "function"))
    (D : Ini1 K fI qual "step" fd) : OwnX prog w K mg nm C [("step" : Str)] := by
  have bp : ∀ (s : Shared) (x v : Value), BindsTo s fd ⟨[x, v], []⟩ [("self", x), ("step", v)] := fun s x v => by
    obtain ⟨oc, od, doc, pm, an, cdv, ct, osl, p1, p2, q1, q2, q3, q4, rfl, _⟩ := D.ex
    exact .of_eq (by first | rfl | with_unfolding_all rfl)
  have bk : ∀ (s : Shared) (x v : Value), BindsTo s fd ⟨[x], [("step", v)]⟩ [("self", x), ("step", v)] := fun s x v => by
    obtain ⟨oc, od, doc, pm, an, cdv, ct, osl, p1, p2, q1, q2, q3, q4, rfl, _⟩ := D.ex
    exact .of_eq (by first | rfl | with_unfolding_all rfl)
  refine ⟨g, ⟨bmB, B, newId, initId, fI, FB, T, iC, tI, fun us hl => ?_, fun us hl => ?_⟩, by decide⟩
  · match us, hl with
    | [v], _ => exact fun A R s x t0 X hlim hx hnx hroom hq => init_step SF T D X hlim hx hroom (bp s _ v) hq
  · match us, hl with
    | [v], _ => exact fun A R s x t0 X hlim hx hnx hroom hq => init_step SF T D X hlim hx hroom (bk s _ v) hq
end
theorem famO_of {K : PySem.W.Frag} {mg : Str → Option Value} (gO : mg "NoOrder" = some (.ref (ga K "NoOrder"))) (gU : mg "Unreckoned" = some (.ref (ga K "Unreckoned"))) (gR : mg "Refused" = some (.ref (ga K "Refused"))) (gC : mg "NotClosed" = some (.ref (ga K "NotClosed"))) (gF : mg "NotFew" = some (.ref (ga K "NotFew"))) (gN : mg "BadNumber" = some (.ref (ga K "BadNumber"))) (gW : mg "BadWeb" = some (.ref (ga K "BadWeb"))) {bm bm2 : List Value} {nw nw2 : String} {fn fn2 : List Str} (XO : XB K bm nw (ga K "NoOrder") fn) (XN : XB K bm2 nw2 (ga K "BadNumber") fn2) (hx : excB K = true) (h : famO K = true) : FamO K mg (ga K "BadNumber") (ga K "NoOrder") (ga K "Unreckoned") (ga K "Refused") (ga K "NotClosed") (ga K "NotFew") (ga K "BadWeb") := by
  unfold famO at h
  simp only [Bool.and_eq_true, decide_eq_true_eq] at h
  obtain ⟨h_ou, h_nr, h_oo, h_oc, h_of, h_nn, h_nw⟩ := h
  exact { gO := gO, gU := gU, gR := gR, gC := gC, gF := gF, gN := gN, gW := gW, eO := exc_of XO hx, eN := exc_of XN hx, ou := h_ou, nr := h_nr, oo := h_oo, oc := h_oc, of := h_of, nn := h_nn, nw := h_nw }
theorem ring_ofE {K : PySem.W.Frag} (ok : OkC K (ga K "Ring")) (hx : excB K = true) (h : ringB K = true) : RingF K (ga K "Ring") := by
  obtain ⟨c1, c2⟩ := Bool.and_eq_true_iff.mp hx
  obtain ⟨h1, h⟩ := ba h
  obtain ⟨h2, h3⟩ := ba h
  exact { ok := ok, hgn := of_decide_eq_true c1, htk := of_decide_eq_true c2, hcl := eqO_ok h1, hmo := of_decide_eq_true h2, rr := of_decide_eq_true h3 }
/-- the classes of kinds -/
theorem kc_of {K : PySem.W.Frag} (h : kcB K = true) (hc : ∀ x ∈ (["Truth", "Count", "Bounded", "Narrow", "Share", "Lot", "Pair"] : List Str), (Fa.cls x).ok K = true) : ClsK K (kcOf K) := by
  obtain ⟨h1, h2⟩ := ba h
  refine ⟨of_decide_eq_true h1, fun c hcm => ?_⟩
  have hm : ∃ x ∈ (["Truth", "Count", "Bounded", "Narrow", "Share", "Lot", "Pair"] : List Str), c = ga K x := by
    have : c = ga K "Truth" ∨ c = ga K "Count" ∨ c = ga K "Bounded" ∨ c = ga K "Narrow" ∨ c = ga K "Share" ∨ c = ga K "Lot" ∨ c = ga K "Pair" := by simpa [KC.all, kcOf] using hcm
    rcases this with h | h | h | h | h | h | h
    · exact ⟨_, by simp, h⟩
    · exact ⟨_, by simp, h⟩
    · exact ⟨_, by simp, h⟩
    · exact ⟨_, by simp, h⟩
    · exact ⟨_, by simp, h⟩
    · exact ⟨_, by simp, h⟩
    · exact ⟨_, by simp, h⟩
  obtain ⟨x, hx, rfl⟩ := hm
  exact okC_of (hc x hx) (List.all_eq_true.mp h2 x hx)
end D1
end
section
set_option Elab.async false
set_option linter.all false
set_option maxRecDepth 100000
set_option maxHeartbeats 4000000
/-! S20: the end -/
namespace D1
open PySem PySem.Spec PyProof.Rows L2 PySem.VX
theorem ini1_BadNumber {K : PySem.W.Frag} {fd : FuncData} (F : FnM K "BadNumber" "__init__" (meth 7 0) (He.fAd K ("BadNumber", some "__init__")) fd) (h : kwN K ("BadNumber", some "__init__") = true) : Ini1 K (He.fAd K ("BadNumber", some "__init__")) ("BadNumber" ++ "." ++ "__init__") "why" fd := by
  obtain ⟨oc, od, dV, kV, doc, pm, an, cdv, ct, osl, rfl, lk, hcd, hD, _⟩ := F.ex
  obtain rfl := kwN_ok lk h
  rcases hD with ⟨_, rfl⟩ | ⟨hn, _⟩
  · exact ⟨⟨oc, od, doc, pm, an, cdv, ct, osl, _, _, _, _, _, _, rfl, lk, hcd⟩⟩
  · exact absurd rfl hn
theorem ini1_NoOrder {K : PySem.W.Frag} {fd : FuncData} (F : FnM K "NoOrder" "__init__" (meth 11 0) (He.fAd K ("NoOrder", some "__init__")) fd) (h : kwN K ("NoOrder", some "__init__") = true) : Ini1 K (He.fAd K ("NoOrder", some "__init__")) ("NoOrder" ++ "." ++ "__init__") "step" fd := by
  obtain ⟨oc, od, dV, kV, doc, pm, an, cdv, ct, osl, rfl, lk, hcd, hD, _⟩ := F.ex
  obtain rfl := kwN_ok lk h
  rcases hD with ⟨_, rfl⟩ | ⟨hn, _⟩
  · exact ⟨⟨oc, od, doc, pm, an, cdv, ct, osl, _, _, _, _, _, _, rfl, lk, hcd⟩⟩
  · exact absurd rfl hn
theorem facts {P : Program} {w : World} {K : PySem.W.Frag} {h : Heap} {mg : Str → Option Value} {f : Addr} (X : K.In h) (G : h.Ns mainGlobals mg) (hfa : mg ("law" : Str) = some (.ref f)) (cc : W20.SaysL w K) :
    ∃ fd : FuncData, (∀ (s : Shared) (v : Value), BindsTo s fd ⟨[v], []⟩ [("_law_script", v)]) ∧ ∀ base : Heap, K.In base → base.Ns mainGlobals mg → FnG P w K mg base CX0 14 f fd ["_law_script"] (spLaw K) := by
  have c : He.SaysD W20.fa W20.fn K := cc.d
  obtain ⟨fd_is_number, F_is_number⟩ := c.def_ 0 rfl
  obtain ⟨fd_is_whole, F_is_whole⟩ := c.def_ 1 rfl
  obtain ⟨fd_kind_of, F_kind_of⟩ := c.def_ 2 rfl
  obtain ⟨fd__sized_kind, F__sized_kind⟩ := c.def_ 3 rfl
  obtain ⟨fd__bare_kind, F__bare_kind⟩ := c.def_ 4 rfl
  obtain ⟨fd_need_ring, F_need_ring⟩ := c.def_ 5 rfl
  obtain ⟨fd_need_web, F_need_web⟩ := c.def_ 6 rfl
  obtain ⟨fd__is_web, F__is_web⟩ := c.def_ 7 rfl
  obtain ⟨fd__is_step, F__is_step⟩ := c.def_ 8 rfl
  obtain ⟨fd_need_state, F_need_state⟩ := c.def_ 9 rfl
  obtain ⟨fd_is_ordered, F_is_ordered⟩ := c.def_ 10 rfl
  obtain ⟨fd_by_best, F_by_best⟩ := c.def_ 11 rfl
  obtain ⟨fd__need_no_bettering, F__need_no_bettering⟩ := c.def_ 12 rfl
  obtain ⟨fd__best_of, F__best_of⟩ := c.def_ 13 rfl
  obtain ⟨fd_ring_of, F_ring_of⟩ := c.def_ 14 rfl
  obtain ⟨fd__has_form, F__has_form⟩ := c.def_ 15 rfl
  obtain ⟨fd__tables, F__tables⟩ := c.def_ 16 rfl
  obtain ⟨fd_mixed, F_mixed⟩ := c.def_ 17 rfl
  obtain ⟨fd_draw, F_draw⟩ := c.def_ 18 rfl
  obtain ⟨fd_next, F_next⟩ := c.def_ 19 rfl
  obtain ⟨fd_ring, F_ring⟩ := c.def_ 20 rfl
  obtain ⟨fd_zero, F_zero⟩ := c.def_ 21 rfl
  obtain ⟨fd_one, F_one⟩ := c.def_ 22 rfl
  obtain ⟨fd_lowest, F_lowest⟩ := c.def_ 23 rfl
  obtain ⟨fd_plus, F_plus⟩ := c.def_ 24 rfl
  obtain ⟨fd_times, F_times⟩ := c.def_ 25 rfl
  obtain ⟨fd_weight, F_weight⟩ := c.def_ 26 rfl
  obtain ⟨fd_turned, F_turned⟩ := c.def_ 27 rfl
  obtain ⟨fd_web, F_web⟩ := c.def_ 28 rfl
  obtain ⟨fd_same, F_same⟩ := c.def_ 29 rfl
  obtain ⟨fd_tame, F_tame⟩ := c.def_ 30 rfl
  obtain ⟨fd_first, F_first⟩ := c.def_ 31 rfl
  obtain ⟨fd_told, F_told⟩ := c.def_ 32 rfl
  obtain ⟨fd_no_number, F_no_number⟩ := c.def_ 33 rfl
  obtain ⟨fd_row_right, F_row_right⟩ := c.def_ 34 rfl
  obtain ⟨fd_law, F_law⟩ := c.def_ 35 rfl
  obtain ⟨fd_Kind_init, F_Kind_init⟩ := c.def_ 36 rfl
  obtain ⟨fd_Counted_init, F_Counted_init⟩ := c.def_ 37 rfl
  obtain ⟨fd_Count_init, F_Count_init⟩ := c.def_ 38 rfl
  obtain ⟨fd_Narrow_init, F_Narrow_init⟩ := c.def_ 39 rfl
  obtain ⟨fd_Bounded_init, F_Bounded_init⟩ := c.def_ 40 rfl
  obtain ⟨fd_Truth_init, F_Truth_init⟩ := c.def_ 41 rfl
  obtain ⟨fd_Share_init, F_Share_init⟩ := c.def_ 42 rfl
  obtain ⟨fd_Lot_init, F_Lot_init⟩ := c.def_ 43 rfl
  obtain ⟨fd_Pair_init, F_Pair_init⟩ := c.def_ 44 rfl
  obtain ⟨fd_Ring_init, F_Ring_init⟩ := c.def_ 45 rfl
  obtain ⟨fd_BadNumber_init, F_BadNumber_init⟩ := c.def_ 46 rfl
  obtain ⟨fd_NoOrder_init, F_NoOrder_init⟩ := c.def_ 47 rfl
  obtain ⟨fd_Kind_text, F_Kind_text⟩ := c.def_ 48 rfl
  obtain ⟨fd_Kind_zero, F_Kind_zero⟩ := c.def_ 49 rfl
  obtain ⟨fd_Kind_one, F_Kind_one⟩ := c.def_ 50 rfl
  obtain ⟨fd_Endless_closed, F_Endless_closed⟩ := c.def_ 51 rfl
  obtain ⟨fd_Topped_closed, F_Topped_closed⟩ := c.def_ 52 rfl
  obtain ⟨fd_Pair_closed, F_Pair_closed⟩ := c.def_ 53 rfl
  obtain ⟨fd_Counted_fits, F_Counted_fits⟩ := c.def_ 54 rfl
  obtain ⟨fd_Bounded_fits, F_Bounded_fits⟩ := c.def_ 55 rfl
  obtain ⟨fd_Counted_good, F_Counted_good⟩ := c.def_ 56 rfl
  obtain ⟨fd_Truth_good, F_Truth_good⟩ := c.def_ 57 rfl
  obtain ⟨fd_Share_good, F_Share_good⟩ := c.def_ 58 rfl
  obtain ⟨fd_Lot_good, F_Lot_good⟩ := c.def_ 59 rfl
  obtain ⟨fd_Pair_good, F_Pair_good⟩ := c.def_ 60 rfl
  obtain ⟨fd_Truth_times, F_Truth_times⟩ := c.def_ 61 rfl
  obtain ⟨fd_Count_times, F_Count_times⟩ := c.def_ 62 rfl
  obtain ⟨fd_Bounded_times, F_Bounded_times⟩ := c.def_ 63 rfl
  obtain ⟨fd_Narrow_times, F_Narrow_times⟩ := c.def_ 64 rfl
  obtain ⟨fd_Share_times, F_Share_times⟩ := c.def_ 65 rfl
  obtain ⟨fd_Lot_times, F_Lot_times⟩ := c.def_ 66 rfl
  obtain ⟨fd_Pair_times, F_Pair_times⟩ := c.def_ 67 rfl
  obtain ⟨fd_Ring_kind, F_Ring_kind⟩ := c.def_ 68 rfl
  obtain ⟨fd_Ring_made, F_Ring_made⟩ := c.def_ 69 rfl
  obtain ⟨fd_Ring_is_closed, F_Ring_is_closed⟩ := c.def_ 70 rfl
  obtain ⟨fd_Ring_good, F_Ring_good⟩ := c.def_ 71 rfl
  obtain ⟨fd_Truth_plus, F_Truth_plus⟩ := c.def_ 72 rfl
  obtain ⟨fd_Count_plus, F_Count_plus⟩ := c.def_ 73 rfl
  obtain ⟨fd_Bounded_plus, F_Bounded_plus⟩ := c.def_ 74 rfl
  obtain ⟨fd_Narrow_plus, F_Narrow_plus⟩ := c.def_ 75 rfl
  obtain ⟨fd_Share_plus, F_Share_plus⟩ := c.def_ 76 rfl
  obtain ⟨fd_Lot_plus, F_Lot_plus⟩ := c.def_ 77 rfl
  obtain ⟨fd_Pair_plus, F_Pair_plus⟩ := c.def_ 78 rfl
  have g_is_number := He.glo_ok X G (c.fact 0 (f := .glo "is_number") rfl)
  have g_is_whole := He.glo_ok X G (c.fact 1 (f := .glo "is_whole") rfl)
  have g_kind_of := He.glo_ok X G (c.fact 2 (f := .glo "kind_of") rfl)
  have g__sized_kind := He.glo_ok X G (c.fact 3 (f := .glo "_sized_kind") rfl)
  have g__bare_kind := He.glo_ok X G (c.fact 4 (f := .glo "_bare_kind") rfl)
  have g_need_ring := He.glo_ok X G (c.fact 5 (f := .glo "need_ring") rfl)
  have g_need_web := He.glo_ok X G (c.fact 6 (f := .glo "need_web") rfl)
  have g__is_web := He.glo_ok X G (c.fact 7 (f := .glo "_is_web") rfl)
  have g__is_step := He.glo_ok X G (c.fact 8 (f := .glo "_is_step") rfl)
  have g_need_state := He.glo_ok X G (c.fact 9 (f := .glo "need_state") rfl)
  have g_is_ordered := He.glo_ok X G (c.fact 10 (f := .glo "is_ordered") rfl)
  have g_by_best := He.glo_ok X G (c.fact 11 (f := .glo "by_best") rfl)
  have g__need_no_bettering := He.glo_ok X G (c.fact 12 (f := .glo "_need_no_bettering") rfl)
  have g__best_of := He.glo_ok X G (c.fact 13 (f := .glo "_best_of") rfl)
  have g_ring_of := He.glo_ok X G (c.fact 14 (f := .glo "ring_of") rfl)
  have g__has_form := He.glo_ok X G (c.fact 15 (f := .glo "_has_form") rfl)
  have g__tables := He.glo_ok X G (c.fact 16 (f := .glo "_tables") rfl)
  have g_mixed := He.glo_ok X G (c.fact 17 (f := .glo "_law_mixed") rfl)
  have g_draw := He.glo_ok X G (c.fact 18 (f := .glo "_law_draw") rfl)
  have g_next := He.glo_ok X G (c.fact 19 (f := .glo "_law_next") rfl)
  have g_ring := He.glo_ok X G (c.fact 20 (f := .glo "_law_ring") rfl)
  have g_zero := He.glo_ok X G (c.fact 21 (f := .glo "_law_zero") rfl)
  have g_one := He.glo_ok X G (c.fact 22 (f := .glo "_law_one") rfl)
  have g_lowest := He.glo_ok X G (c.fact 23 (f := .glo "_law_lowest") rfl)
  have g_plus := He.glo_ok X G (c.fact 24 (f := .glo "_law_plus") rfl)
  have g_times := He.glo_ok X G (c.fact 25 (f := .glo "_law_times") rfl)
  have g_weight := He.glo_ok X G (c.fact 26 (f := .glo "_law_weight") rfl)
  have g_turned := He.glo_ok X G (c.fact 27 (f := .glo "_law_turned") rfl)
  have g_web := He.glo_ok X G (c.fact 28 (f := .glo "_law_web") rfl)
  have g_same := He.glo_ok X G (c.fact 29 (f := .glo "_law_same") rfl)
  have g_tame := He.glo_ok X G (c.fact 30 (f := .glo "_law_tame") rfl)
  have g_first := He.glo_ok X G (c.fact 31 (f := .glo "_law_first") rfl)
  have g_told := He.glo_ok X G (c.fact 32 (f := .glo "_law_told") rfl)
  have g_no_number := He.glo_ok X G (c.fact 33 (f := .glo "_law_no_number") rfl)
  have g_row_right := He.glo_ok X G (c.fact 34 (f := .glo "_law_row_right") rfl)
  have g_law := He.glo_ok X G (c.fact 35 (f := .glo "law") rfl)
  have g_Refused := He.glo_ok X G (c.fact 36 (f := .glo "Refused") rfl)
  have g_BadNumber := He.glo_ok X G (c.fact 37 (f := .glo "BadNumber") rfl)
  have g_BadWeb := He.glo_ok X G (c.fact 38 (f := .glo "BadWeb") rfl)
  have g_Unreckoned := He.glo_ok X G (c.fact 39 (f := .glo "Unreckoned") rfl)
  have g_NoOrder := He.glo_ok X G (c.fact 40 (f := .glo "NoOrder") rfl)
  have g_NotClosed := He.glo_ok X G (c.fact 41 (f := .glo "NotClosed") rfl)
  have g_NotFew := He.glo_ok X G (c.fact 42 (f := .glo "NotFew") rfl)
  have g_Kind := He.glo_ok X G (c.fact 43 (f := .glo "Kind") rfl)
  have g_Endless := He.glo_ok X G (c.fact 44 (f := .glo "Endless") rfl)
  have g_Count := He.glo_ok X G (c.fact 45 (f := .glo "Count") rfl)
  have g_Bounded := He.glo_ok X G (c.fact 46 (f := .glo "Bounded") rfl)
  have g_Narrow := He.glo_ok X G (c.fact 47 (f := .glo "Narrow") rfl)
  have g_Pair := He.glo_ok X G (c.fact 48 (f := .glo "Pair") rfl)
  have g_Topped := He.glo_ok X G (c.fact 49 (f := .glo "Topped") rfl)
  have g_Truth := He.glo_ok X G (c.fact 50 (f := .glo "Truth") rfl)
  have g_Share := He.glo_ok X G (c.fact 51 (f := .glo "Share") rfl)
  have g_Lot := He.glo_ok X G (c.fact 52 (f := .glo "Lot") rfl)
  have g_Ring := He.glo_ok X G (c.fact 53 (f := .glo "Ring") rfl)
  obtain ⟨t_STATES, g_STATES⟩ := He.int_ok X G (c.fact 54 (f := .int "_STATES" 12) rfl)
  obtain ⟨t_STEPS, g_STEPS⟩ := He.int_ok X G (c.fact 55 (f := .int "_STEPS" 80) rfl)
  obtain ⟨t_PAIRS, g_PAIRS⟩ := He.int_ok X G (c.fact 56 (f := .int "_PAIRS" 3) rfl)
  have z_abs := He.free_ok X G (c.fact 57 (f := .free "abs") rfl)
  have z_all := He.free_ok X G (c.fact 58 (f := .free "all") rfl)
  have z_bool := He.free_ok X G (c.fact 59 (f := .free "bool") rfl)
  have z_enumerate := He.free_ok X G (c.fact 60 (f := .free "enumerate") rfl)
  have z_int := He.free_ok X G (c.fact 61 (f := .free "int") rfl)
  have z_isinstance := He.free_ok X G (c.fact 62 (f := .free "isinstance") rfl)
  have z_len := He.free_ok X G (c.fact 63 (f := .free "len") rfl)
  have z_list := He.free_ok X G (c.fact 64 (f := .free "list") rfl)
  have z_max := He.free_ok X G (c.fact 65 (f := .free "max") rfl)
  have z_min := He.free_ok X G (c.fact 66 (f := .free "min") rfl)
  have z_range := He.free_ok X G (c.fact 67 (f := .free "range") rfl)
  have z_repr := He.free_ok X G (c.fact 68 (f := .free "repr") rfl)
  have z_str := He.free_ok X G (c.fact 69 (f := .free "str") rfl)
  have z_tuple := He.free_ok X G (c.fact 70 (f := .free "tuple") rfl)
  have z_zip := He.free_ok X G (c.fact 71 (f := .free "zip") rfl)
  have g__BARE := He.glo_ok X G (c.fact 72 (f := .glo "_BARE") rfl)
  have g__SIZES := He.glo_ok X G (c.fact 73 (f := .glo "_SIZES") rfl)
  have g__ORDERED := He.glo_ok X G (c.fact 74 (f := .glo "_ORDERED") rfl)
  have c_Truth := c.fact 75 (f := .cls "Truth") rfl
  have c_Count := c.fact 76 (f := .cls "Count") rfl
  have c_Bounded := c.fact 77 (f := .cls "Bounded") rfl
  have c_Narrow := c.fact 78 (f := .cls "Narrow") rfl
  have c_Share := c.fact 79 (f := .cls "Share") rfl
  have c_Lot := c.fact 80 (f := .cls "Lot") rfl
  have c_Pair := c.fact 81 (f := .cls "Pair") rfl
  have c_Ring := c.fact 82 (f := .cls "Ring") rfl
  have M_Truth := He.mkr_ok (c.fact 83 (f := .mkr "Truth") rfl)
  have M_Count := He.mkr_ok (c.fact 84 (f := .mkr "Count") rfl)
  have M_Bounded := He.mkr_ok (c.fact 85 (f := .mkr "Bounded") rfl)
  have M_Narrow := He.mkr_ok (c.fact 86 (f := .mkr "Narrow") rfl)
  have M_Share := He.mkr_ok (c.fact 87 (f := .mkr "Share") rfl)
  have M_Lot := He.mkr_ok (c.fact 88 (f := .mkr "Lot") rfl)
  have M_Pair := He.mkr_ok (c.fact 89 (f := .mkr "Pair") rfl)
  have M_Ring := He.mkr_ok (c.fact 90 (f := .mkr "Ring") rfl)
  have hex := cc.more
  obtain ⟨x_N, hex⟩ := Bool.and_eq_true_iff.mp hex
  obtain ⟨i_N, hex⟩ := Bool.and_eq_true_iff.mp hex
  obtain ⟨x_O, hex⟩ := Bool.and_eq_true_iff.mp hex
  obtain ⟨i_O, hex⟩ := Bool.and_eq_true_iff.mp hex
  obtain ⟨x_F, hex⟩ := Bool.and_eq_true_iff.mp hex
  obtain ⟨x_OR, hex⟩ := Bool.and_eq_true_iff.mp hex
  obtain ⟨x_E, hex⟩ := Bool.and_eq_true_iff.mp hex
  obtain ⟨x_G, hex⟩ := Bool.and_eq_true_iff.mp hex
  obtain ⟨n_R, hex⟩ := Bool.and_eq_true_iff.mp hex
  obtain ⟨x_K, hex⟩ := Bool.and_eq_true_iff.mp hex
  obtain ⟨x_S, hex⟩ := Bool.and_eq_true_iff.mp hex
  obtain ⟨x_B, hex⟩ := Bool.and_eq_true_iff.mp hex
  obtain ⟨x_M, hex⟩ := Bool.and_eq_true_iff.mp hex
  obtain ⟨x_gcd, hex⟩ := Bool.and_eq_true_iff.mp hex
  obtain ⟨b_K, hex⟩ := Bool.and_eq_true_iff.mp hex
  obtain ⟨b_To, b_En⟩ := Bool.and_eq_true_iff.mp hex
  have XN := xbB_ok x_N
  have XO := xbB_ok x_O
  obtain ⟨y1, i_N⟩ := Bool.and_eq_true_iff.mp i_N
  obtain ⟨y2, y3⟩ := Bool.and_eq_true_iff.mp i_N
  obtain ⟨v1, i_O⟩ := Bool.and_eq_true_iff.mp i_O
  obtain ⟨v2, v3⟩ := Bool.and_eq_true_iff.mp i_O
  have O_BadNumber : OwnX P w K mg "BadNumber" (He.ga K "BadNumber") [("why" : Str)] := own_why F.excBase_ValueError F.store_ValueError XN g_BadNumber (of_decide_eq_true y2) (of_decide_eq_true y3) (ini1_BadNumber F_BadNumber_init y1)
  have O_NoOrder : OwnX P w K mg "NoOrder" (He.ga K "NoOrder") [("step" : Str)] := own_step F.excBase_ArithmeticError F.store_ArithmeticError XO g_NoOrder (of_decide_eq_true v2) (of_decide_eq_true v3) (ini1_NoOrder F_NoOrder_init v1)
  have TO := famO_of g_NoOrder g_Unreckoned g_Refused g_NotClosed g_NotFew g_BadNumber g_BadWeb XO XN x_E x_F
  have OO : OrdK K mg (He.ga K "_ORDERED") := ⟨g__ORDERED, tupK_ok x_OR⟩
  have okR := okC_of c_Ring n_R
  have TR := ring_ofE okR x_E x_G
  have T := kc_of x_K (fun x hx => by
    have hx : x = "Truth" ∨ x = "Count" ∨ x = "Bounded" ∨ x = "Narrow" ∨ x = "Share" ∨ x = "Lot" ∨ x = "Pair" := by simpa using hx
    rcases hx with rfl | rfl | rfl | rfl | rfl | rfl | rfl <;> assumption)
  have BA : BareK K mg (He.ga K "_BARE") := ⟨g__BARE, tupK_ok x_B⟩
  obtain ⟨es, nS, KD⟩ := He.dicW_ok cc.tab
  have SZ := sizes_of g__SIZES KD x_S
  have MM := mths_of x_M
  have B_Kind := base_of g_Kind b_K
  have B_Topped := base_of g_Topped b_To
  have B_Endless := base_of g_Endless b_En
  have g_gcd : mg "gcd" = some (.builtin "math.gcd") := PySem.W.mg_of X G (He.eqO_ok x_gcd)
  have b_Kind_init : L2.Binds K fd_Kind_init ["self", "text", "zero", "one"] [] := F_Kind_init.bindsN fun _ _ _ _ _ _ us hl => match us, hl with | [_, _, _, _], _ => rfl
  have b_Counted_init : L2.Binds K fd_Counted_init ["self", "text", "zero", "one", "others"] [] := F_Counted_init.bindsN fun _ _ _ _ _ _ us hl => match us, hl with | [_, _, _, _, _], _ => rfl
  have b_Count_init : L2.Binds K fd_Count_init ["self"] [] := F_Count_init.bindsN fun _ _ _ _ _ _ us hl => match us, hl with | [_], _ => rfl
  have b_Narrow_init : L2.Binds K fd_Narrow_init ["self"] [] := F_Narrow_init.bindsN fun _ _ _ _ _ _ us hl => match us, hl with | [_], _ => rfl
  have b_Bounded_init : L2.Binds K fd_Bounded_init ["self", "text", "sign"] [] := F_Bounded_init.bindsN fun _ _ _ _ _ _ us hl => match us, hl with | [_, _, _], _ => rfl
  have b_Truth_init : L2.Binds K fd_Truth_init ["self"] [] := F_Truth_init.bindsN fun _ _ _ _ _ _ us hl => match us, hl with | [_], _ => rfl
  have b_Share_init : L2.Binds K fd_Share_init ["self"] [] := F_Share_init.bindsN fun _ _ _ _ _ _ us hl => match us, hl with | [_], _ => rfl
  have b_Lot_init : L2.Binds K fd_Lot_init ["self", "size"] [] := F_Lot_init.bindsN fun _ _ _ _ _ _ us hl => match us, hl with | [_, _], _ => rfl
  have b_Pair_init : L2.Binds K fd_Pair_init ["self", "left", "right"] [] := F_Pair_init.bindsN fun _ _ _ _ _ _ us hl => match us, hl with | [_, _, _], _ => rfl
  have b_Ring_init : L2.Binds K fd_Ring_init ["self", "made"] [] := F_Ring_init.bindsN fun _ _ _ _ _ _ us hl => match us, hl with | [_, _], _ => rfl
  have b_Kind_text : L2.Binds K fd_Kind_text ["self"] [] := F_Kind_text.bindsN fun _ _ _ _ _ _ us hl => match us, hl with | [_], _ => rfl
  have b_Kind_zero : L2.Binds K fd_Kind_zero ["self"] [] := F_Kind_zero.bindsN fun _ _ _ _ _ _ us hl => match us, hl with | [_], _ => rfl
  have b_Kind_one : L2.Binds K fd_Kind_one ["self"] [] := F_Kind_one.bindsN fun _ _ _ _ _ _ us hl => match us, hl with | [_], _ => rfl
  have b_Endless_closed : L2.Binds K fd_Endless_closed ["self"] [] := F_Endless_closed.bindsN fun _ _ _ _ _ _ us hl => match us, hl with | [_], _ => rfl
  have b_Topped_closed : L2.Binds K fd_Topped_closed ["self"] [] := F_Topped_closed.bindsN fun _ _ _ _ _ _ us hl => match us, hl with | [_], _ => rfl
  have b_Pair_closed : L2.Binds K fd_Pair_closed ["self"] [] := F_Pair_closed.bindsN fun _ _ _ _ _ _ us hl => match us, hl with | [_], _ => rfl
  have b_Counted_fits : L2.Binds K fd_Counted_fits ["self", "number"] [] := F_Counted_fits.bindsN fun _ _ _ _ _ _ us hl => match us, hl with | [_, _], _ => rfl
  have b_Bounded_fits : L2.Binds K fd_Bounded_fits ["self", "number"] [] := F_Bounded_fits.bindsN fun _ _ _ _ _ _ us hl => match us, hl with | [_, _], _ => rfl
  have b_Counted_good : L2.Binds K fd_Counted_good ["self", "thing"] [] := F_Counted_good.bindsN fun _ _ _ _ _ _ us hl => match us, hl with | [_, _], _ => rfl
  have b_Truth_good : L2.Binds K fd_Truth_good ["self", "thing"] [] := F_Truth_good.bindsN fun _ _ _ _ _ _ us hl => match us, hl with | [_, _], _ => rfl
  have b_Share_good : L2.Binds K fd_Share_good ["self", "thing"] [] := F_Share_good.bindsN fun _ _ _ _ _ _ us hl => match us, hl with | [_, _], _ => rfl
  have b_Lot_good : L2.Binds K fd_Lot_good ["self", "thing"] [] := F_Lot_good.bindsN fun _ _ _ _ _ _ us hl => match us, hl with | [_, _], _ => rfl
  have b_Pair_good : L2.Binds K fd_Pair_good ["self", "thing"] [] := F_Pair_good.bindsN fun _ _ _ _ _ _ us hl => match us, hl with | [_, _], _ => rfl
  have b_Truth_times : L2.Binds K fd_Truth_times ["self", "a", "b"] [] := F_Truth_times.bindsN fun _ _ _ _ _ _ us hl => match us, hl with | [_, _, _], _ => rfl
  have b_Count_times : L2.Binds K fd_Count_times ["self", "a", "b"] [] := F_Count_times.bindsN fun _ _ _ _ _ _ us hl => match us, hl with | [_, _, _], _ => rfl
  have b_Bounded_times : L2.Binds K fd_Bounded_times ["self", "a", "b"] [] := F_Bounded_times.bindsN fun _ _ _ _ _ _ us hl => match us, hl with | [_, _, _], _ => rfl
  have b_Narrow_times : L2.Binds K fd_Narrow_times ["self", "a", "b"] [] := F_Narrow_times.bindsN fun _ _ _ _ _ _ us hl => match us, hl with | [_, _, _], _ => rfl
  have b_Share_times : L2.Binds K fd_Share_times ["self", "a", "b"] [] := F_Share_times.bindsN fun _ _ _ _ _ _ us hl => match us, hl with | [_, _, _], _ => rfl
  have b_Lot_times : L2.Binds K fd_Lot_times ["self", "a", "b"] [] := F_Lot_times.bindsN fun _ _ _ _ _ _ us hl => match us, hl with | [_, _, _], _ => rfl
  have b_Pair_times : L2.Binds K fd_Pair_times ["self", "a", "b"] [] := F_Pair_times.bindsN fun _ _ _ _ _ _ us hl => match us, hl with | [_, _, _], _ => rfl
  have b_Ring_kind : L2.Binds K fd_Ring_kind ["self"] [] := F_Ring_kind.bindsN fun _ _ _ _ _ _ us hl => match us, hl with | [_], _ => rfl
  have b_Ring_made : L2.Binds K fd_Ring_made ["self"] [] := F_Ring_made.bindsN fun _ _ _ _ _ _ us hl => match us, hl with | [_], _ => rfl
  have b_Ring_is_closed : L2.Binds K fd_Ring_is_closed ["self"] [] := F_Ring_is_closed.bindsN fun _ _ _ _ _ _ us hl => match us, hl with | [_], _ => rfl
  have b_Ring_good : L2.Binds K fd_Ring_good ["self", "thing"] [] := F_Ring_good.bindsN fun _ _ _ _ _ _ us hl => match us, hl with | [_, _], _ => rfl
  have b_Truth_plus : L2.Binds K fd_Truth_plus ["self", "a", "b"] [] := F_Truth_plus.bindsN fun _ _ _ _ _ _ us hl => match us, hl with | [_, _, _], _ => rfl
  have b_Count_plus : L2.Binds K fd_Count_plus ["self", "a", "b"] [] := F_Count_plus.bindsN fun _ _ _ _ _ _ us hl => match us, hl with | [_, _, _], _ => rfl
  have b_Bounded_plus : L2.Binds K fd_Bounded_plus ["self", "a", "b"] [] := F_Bounded_plus.bindsN fun _ _ _ _ _ _ us hl => match us, hl with | [_, _, _], _ => rfl
  have b_Narrow_plus : L2.Binds K fd_Narrow_plus ["self", "a", "b"] [] := F_Narrow_plus.bindsN fun _ _ _ _ _ _ us hl => match us, hl with | [_, _, _], _ => rfl
  have b_Share_plus : L2.Binds K fd_Share_plus ["self", "a", "b"] [] := F_Share_plus.bindsN fun _ _ _ _ _ _ us hl => match us, hl with | [_, _, _], _ => rfl
  have b_Lot_plus : L2.Binds K fd_Lot_plus ["self", "a", "b"] [] := F_Lot_plus.bindsN fun _ _ _ _ _ _ us hl => match us, hl with | [_, _, _], _ => rfl
  have b_Pair_plus : L2.Binds K fd_Pair_plus ["self", "a", "b"] [] := F_Pair_plus.bindsN fun _ _ _ _ _ _ us hl => match us, hl with | [_, _, _], _ => rfl
  have m_Truth_times : Meth K (He.ga K "Truth") "times" (He.fAd K ("Truth", some "times")) := MM "Truth" "times" "Truth" (by decide)
  have m_Count_times : Meth K (He.ga K "Count") "times" (He.fAd K ("Count", some "times")) := MM "Count" "times" "Count" (by decide)
  have m_Bounded_times : Meth K (He.ga K "Bounded") "times" (He.fAd K ("Bounded", some "times")) := MM "Bounded" "times" "Bounded" (by decide)
  have m_Narrow_times : Meth K (He.ga K "Narrow") "times" (He.fAd K ("Narrow", some "times")) := MM "Narrow" "times" "Narrow" (by decide)
  have m_Share_times : Meth K (He.ga K "Share") "times" (He.fAd K ("Share", some "times")) := MM "Share" "times" "Share" (by decide)
  have m_Lot_times : Meth K (He.ga K "Lot") "times" (He.fAd K ("Lot", some "times")) := MM "Lot" "times" "Lot" (by decide)
  have m_Pair_times : Meth K (He.ga K "Pair") "times" (He.fAd K ("Pair", some "times")) := MM "Pair" "times" "Pair" (by decide)
  have m_Truth_good : Meth K (He.ga K "Truth") "good" (He.fAd K ("Truth", some "good")) := MM "Truth" "good" "Truth" (by decide)
  have m_Count_good : Meth K (He.ga K "Count") "good" (He.fAd K ("Counted", some "good")) := MM "Count" "good" "Counted" (by decide)
  have m_Bounded_good : Meth K (He.ga K "Bounded") "good" (He.fAd K ("Counted", some "good")) := MM "Bounded" "good" "Counted" (by decide)
  have m_Narrow_good : Meth K (He.ga K "Narrow") "good" (He.fAd K ("Counted", some "good")) := MM "Narrow" "good" "Counted" (by decide)
  have m_Share_good : Meth K (He.ga K "Share") "good" (He.fAd K ("Share", some "good")) := MM "Share" "good" "Share" (by decide)
  have m_Lot_good : Meth K (He.ga K "Lot") "good" (He.fAd K ("Lot", some "good")) := MM "Lot" "good" "Lot" (by decide)
  have m_Pair_good : Meth K (He.ga K "Pair") "good" (He.fAd K ("Pair", some "good")) := MM "Pair" "good" "Pair" (by decide)
  have m_Truth_closed : Meth K (He.ga K "Truth") "closed" (He.fAd K ("Topped", some "closed")) := MM "Truth" "closed" "Topped" (by decide)
  have m_Count_closed : Meth K (He.ga K "Count") "closed" (He.fAd K ("Endless", some "closed")) := MM "Count" "closed" "Endless" (by decide)
  have m_Bounded_closed : Meth K (He.ga K "Bounded") "closed" (He.fAd K ("Endless", some "closed")) := MM "Bounded" "closed" "Endless" (by decide)
  have m_Narrow_closed : Meth K (He.ga K "Narrow") "closed" (He.fAd K ("Endless", some "closed")) := MM "Narrow" "closed" "Endless" (by decide)
  have m_Share_closed : Meth K (He.ga K "Share") "closed" (He.fAd K ("Topped", some "closed")) := MM "Share" "closed" "Topped" (by decide)
  have m_Lot_closed : Meth K (He.ga K "Lot") "closed" (He.fAd K ("Topped", some "closed")) := MM "Lot" "closed" "Topped" (by decide)
  have m_Pair_closed : Meth K (He.ga K "Pair") "closed" (He.fAd K ("Pair", some "closed")) := MM "Pair" "closed" "Pair" (by decide)
  have m_Truth_one : Meth K (He.ga K "Truth") "one" (He.fAd K ("Kind", some "one")) := MM "Truth" "one" "Kind" (by decide)
  have m_Count_one : Meth K (He.ga K "Count") "one" (He.fAd K ("Kind", some "one")) := MM "Count" "one" "Kind" (by decide)
  have m_Bounded_one : Meth K (He.ga K "Bounded") "one" (He.fAd K ("Kind", some "one")) := MM "Bounded" "one" "Kind" (by decide)
  have m_Narrow_one : Meth K (He.ga K "Narrow") "one" (He.fAd K ("Kind", some "one")) := MM "Narrow" "one" "Kind" (by decide)
  have m_Share_one : Meth K (He.ga K "Share") "one" (He.fAd K ("Kind", some "one")) := MM "Share" "one" "Kind" (by decide)
  have m_Lot_one : Meth K (He.ga K "Lot") "one" (He.fAd K ("Kind", some "one")) := MM "Lot" "one" "Kind" (by decide)
  have m_Pair_one : Meth K (He.ga K "Pair") "one" (He.fAd K ("Kind", some "one")) := MM "Pair" "one" "Kind" (by decide)
  have m_Truth_zero : Meth K (He.ga K "Truth") "zero" (He.fAd K ("Kind", some "zero")) := MM "Truth" "zero" "Kind" (by decide)
  have m_Count_zero : Meth K (He.ga K "Count") "zero" (He.fAd K ("Kind", some "zero")) := MM "Count" "zero" "Kind" (by decide)
  have m_Bounded_zero : Meth K (He.ga K "Bounded") "zero" (He.fAd K ("Kind", some "zero")) := MM "Bounded" "zero" "Kind" (by decide)
  have m_Narrow_zero : Meth K (He.ga K "Narrow") "zero" (He.fAd K ("Kind", some "zero")) := MM "Narrow" "zero" "Kind" (by decide)
  have m_Share_zero : Meth K (He.ga K "Share") "zero" (He.fAd K ("Kind", some "zero")) := MM "Share" "zero" "Kind" (by decide)
  have m_Lot_zero : Meth K (He.ga K "Lot") "zero" (He.fAd K ("Kind", some "zero")) := MM "Lot" "zero" "Kind" (by decide)
  have m_Pair_zero : Meth K (He.ga K "Pair") "zero" (He.fAd K ("Kind", some "zero")) := MM "Pair" "zero" "Kind" (by decide)
  have m_Truth_text : Meth K (He.ga K "Truth") "text" (He.fAd K ("Kind", some "text")) := MM "Truth" "text" "Kind" (by decide)
  have m_Count_text : Meth K (He.ga K "Count") "text" (He.fAd K ("Kind", some "text")) := MM "Count" "text" "Kind" (by decide)
  have m_Bounded_text : Meth K (He.ga K "Bounded") "text" (He.fAd K ("Kind", some "text")) := MM "Bounded" "text" "Kind" (by decide)
  have m_Narrow_text : Meth K (He.ga K "Narrow") "text" (He.fAd K ("Kind", some "text")) := MM "Narrow" "text" "Kind" (by decide)
  have m_Share_text : Meth K (He.ga K "Share") "text" (He.fAd K ("Kind", some "text")) := MM "Share" "text" "Kind" (by decide)
  have m_Lot_text : Meth K (He.ga K "Lot") "text" (He.fAd K ("Kind", some "text")) := MM "Lot" "text" "Kind" (by decide)
  have m_Pair_text : Meth K (He.ga K "Pair") "text" (He.fAd K ("Kind", some "text")) := MM "Pair" "text" "Kind" (by decide)
  have m_Truth_plus : Meth K (He.ga K "Truth") "plus" (He.fAd K ("Truth", some "plus")) := MM "Truth" "plus" "Truth" (by decide)
  have m_Count_plus : Meth K (He.ga K "Count") "plus" (He.fAd K ("Count", some "plus")) := MM "Count" "plus" "Count" (by decide)
  have m_Bounded_plus : Meth K (He.ga K "Bounded") "plus" (He.fAd K ("Bounded", some "plus")) := MM "Bounded" "plus" "Bounded" (by decide)
  have m_Narrow_plus : Meth K (He.ga K "Narrow") "plus" (He.fAd K ("Narrow", some "plus")) := MM "Narrow" "plus" "Narrow" (by decide)
  have m_Share_plus : Meth K (He.ga K "Share") "plus" (He.fAd K ("Share", some "plus")) := MM "Share" "plus" "Share" (by decide)
  have m_Lot_plus : Meth K (He.ga K "Lot") "plus" (He.fAd K ("Lot", some "plus")) := MM "Lot" "plus" "Lot" (by decide)
  have m_Pair_plus : Meth K (He.ga K "Pair") "plus" (He.fAd K ("Pair", some "plus")) := MM "Pair" "plus" "Pair" (by decide)
  have m_Ring_kind : Meth K (He.ga K "Ring") "kind" (He.fAd K ("Ring", some "kind")) := MM "Ring" "kind" "Ring" (by decide)
  have m_Ring_made : Meth K (He.ga K "Ring") "made" (He.fAd K ("Ring", some "made")) := MM "Ring" "made" "Ring" (by decide)
  have m_Ring_is_closed : Meth K (He.ga K "Ring") "is_closed" (He.fAd K ("Ring", some "is_closed")) := MM "Ring" "is_closed" "Ring" (by decide)
  have m_Ring_good : Meth K (He.ga K "Ring") "good" (He.fAd K ("Ring", some "good")) := MM "Ring" "good" "Ring" (by decide)
  have m_Count_fits : Meth K (He.ga K "Count") "fits" (He.fAd K ("Counted", some "fits")) := MM "Count" "fits" "Counted" (by decide)
  have m_Bounded_fits : Meth K (He.ga K "Bounded") "fits" (He.fAd K ("Bounded", some "fits")) := MM "Bounded" "fits" "Bounded" (by decide)
  have m_Narrow_fits : Meth K (He.ga K "Narrow") "fits" (He.fAd K ("Counted", some "fits")) := MM "Narrow" "fits" "Counted" (by decide)
  have e := hfa.symm.trans g_law
  cases e
  have b := FunD.bindsA (ps := ["_law_script"]) F_law fun _ _ _ _ _ _ us hl => match us, hl with | [_], _ => rfl
  refine ⟨fd_law, fun s v => b s [v] rfl, fun base _ _ => ?_⟩
  have G_is_number : FnOk P w K mg base (CX0) 1 _ _ ["thing"] (spNum K) := ok_is_number F_is_number z_isinstance z_int z_bool
  have G_is_whole : FnOk P w K mg base (CX0) 2 _ _ ["thing", "least", "most"] (spWhole K) := ok_is_whole F_is_whole F_is_number g_is_number G_is_number
  have G_Count_times : ∀ d : Nat, FnOk P w K mg base (CX0) 1 _ _ ["self", "a", "b"] (spTimes (kcOf K) d (kcOf K).co) := fun d => ok_Count_times F_Count_times T.nd d
  have G_Bounded_times : ∀ d : Nat, FnOk P w K mg base (CX0) 1 _ _ ["self", "a", "b"] (spTimes (kcOf K) d (kcOf K).bo) := fun d => ok_Bounded_times F_Bounded_times T.nd d
  have G_Narrow_times : ∀ d : Nat, FnOk P w K mg base (CX0) 1 _ _ ["self", "a", "b"] (spTimes (kcOf K) d (kcOf K).na) := fun d => ok_Narrow_times F_Narrow_times T.nd d
  have G_Truth_times : ∀ d : Nat, FnOk P w K mg base (CX0) 1 _ _ ["self", "a", "b"] (spTimes (kcOf K) d (kcOf K).tr) := fun d => ok_Truth_times F_Truth_times T.nd d
  have G_Lot_times : ∀ d : Nat, FnOk P w K mg base (CX0) 1 _ _ ["self", "a", "b"] (spTimes (kcOf K) d (kcOf K).lo) := fun d => ok_Lot_times F_Lot_times T.nd d
  have G_Share_times : ∀ d : Nat, FnOk P w K mg base (CX0) 1 _ _ ["self", "a", "b"] (spTimes (kcOf K) d (kcOf K).sh) := fun d => ok_Share_times F_Share_times T.nd d g_gcd
  have G_Kind_one : ∀ d : Nat, ∀ c : Addr, FnOk P w K mg base (CX0) 1 _ _ ["self"] (spOne (kcOf K) d c) := fun d => fun c => ok_Kind_one F_Kind_one T d
  have G_Kind_zero : ∀ d : Nat, ∀ c : Addr, FnOk P w K mg base (CX0) 1 _ _ ["self"] (spZero (kcOf K) d c) := fun d => fun c => ok_Kind_zero F_Kind_zero T d
  have G_Kind_text : ∀ d : Nat, ∀ c : Addr, FnOk P w K mg base (CX0) 1 _ _ ["self"] (spText (kcOf K) d c) := fun d => fun c => ok_Kind_text F_Kind_text T d
  have G_Endless_closed : ∀ d : Nat, ∀ c : Addr, FnOk P w K mg base (CX0) 1 _ _ ["self"] (spClosed (kcOf K) d c) := fun d => fun c => ok_Endless_closed F_Endless_closed d
  have G_Topped_closed : ∀ d : Nat, ∀ c : Addr, FnOk P w K mg base (CX0) 1 _ _ ["self"] (spClosed (kcOf K) d c) := fun d => fun c => ok_Topped_closed F_Topped_closed d
  have held1 : ∀ {k : Nat} {m : Str} {c : Addr} {s : Sp}, HeldM P w K mg base k m c s → ∀ e sp, (fun e => if e = c then some s else none) e = some sp → HeldM P w K mg base k m e sp := fun {k m c s} H e sp h => by
    have h : (if e = c then some s else none) = some sp := h
    by_cases he : e = c
    · rw [if_pos he] at h
      have hs : s = sp := Option.some.inj h
      rw [← hs, he]
      exact H
    · rw [if_neg he] at h
      cases h
  have mem7 : ∀ c ∈ (kcOf K).all, c = He.ga K "Truth" ∨ c = He.ga K "Count" ∨ c = He.ga K "Bounded" ∨ c = He.ga K "Narrow" ∨ c = He.ga K "Share" ∨ c = He.ga K "Lot" ∨ c = He.ga K "Pair" := fun c hc => by simpa [KC.all, kcOf] using hc
  have okc : ∀ k : RK, OkC K ((kcOf K).cls k) := fun k => T.cls (k := k) rfl
  have A_one : ∀ d e sp, SK (kcOf K) (spOne (kcOf K) d) e = some sp → HeldM P w K mg base 1 "one" e sp := fun d => all_one T b_Kind_one G_Kind_one (fun c hc => by rcases mem7 c hc with rfl | rfl | rfl | rfl | rfl | rfl | rfl <;> assumption) d
  have A_zero : ∀ d e sp, SK (kcOf K) (spZero (kcOf K) d) e = some sp → HeldM P w K mg base 1 "zero" e sp := fun d => all_zero T b_Kind_zero G_Kind_zero (fun c hc => by rcases mem7 c hc with rfl | rfl | rfl | rfl | rfl | rfl | rfl <;> assumption) d
  have A_text : ∀ d e sp, SK (kcOf K) (spText (kcOf K) d) e = some sp → HeldM P w K mg base 1 "text" e sp := fun d => all_text T b_Kind_text G_Kind_text (fun c hc => by rcases mem7 c hc with rfl | rfl | rfl | rfl | rfl | rfl | rfl <;> assumption) d
  have A_times : ∀ d e sp, SK (kcOf K) (spTimes (kcOf K) d) e = some sp → HeldM P w K mg base (d + 1) "times" e sp := all_times T m_Truth_times b_Truth_times m_Count_times b_Count_times m_Bounded_times b_Bounded_times m_Narrow_times b_Narrow_times m_Share_times b_Share_times m_Lot_times b_Lot_times m_Pair_times b_Pair_times G_Truth_times G_Count_times G_Bounded_times G_Narrow_times G_Share_times G_Lot_times (fun d HA => ok_Pair_times F_Pair_times T HA)
  have A_closed : ∀ d e sp, SK (kcOf K) (spClosed (kcOf K) d) e = some sp → HeldM P w K mg base (d + 1) "closed" e sp := all_closed T m_Truth_closed b_Topped_closed m_Count_closed b_Endless_closed m_Bounded_closed b_Endless_closed m_Narrow_closed b_Endless_closed m_Share_closed b_Topped_closed m_Lot_closed b_Topped_closed m_Pair_closed b_Pair_closed (fun d => G_Topped_closed d _) (fun d => G_Endless_closed d _) (fun d => G_Endless_closed d _) (fun d => G_Endless_closed d _) (fun d => G_Topped_closed d _) (fun d => G_Topped_closed d _) (fun d HA => ok_Pair_closed F_Pair_closed T HA)
  have G_Truth_good : ∀ d : Nat, FnOk P w K mg base (CX0) 1 _ _ ["self", "thing"] (spGood (kcOf K) d (kcOf K).tr) := fun d => ok_Truth_good F_Truth_good T.nd d z_isinstance z_bool
  have G_Share_good : ∀ d : Nat, FnOk P w K mg base (CX0) 2 _ _ ["self", "thing"] (spGood (kcOf K) d (kcOf K).sh) := fun d => ok_Share_good F_Share_good F_is_number g_is_number G_is_number T.nd d g_gcd z_isinstance z_tuple z_len
  have H_co : HeldM P w K mg base 1 "fits" (kcOf K).co (spFits (kcOf K) (kcOf K).co) := ⟨(okc .count).cls, _, fd_Counted_fits, _, m_Count_fits, ok_Counted_fits F_Counted_fits T.nd (.inl rfl), b_Counted_fits⟩
  have H_na : HeldM P w K mg base 1 "fits" (kcOf K).na (spFits (kcOf K) (kcOf K).na) := ⟨(okc .narrow).cls, _, fd_Counted_fits, _, m_Narrow_fits, ok_Counted_fits F_Counted_fits T.nd (.inr rfl), b_Counted_fits⟩
  have H_bo : HeldM P w K mg base 1 "fits" (kcOf K).bo (spFits (kcOf K) (kcOf K).bo) := ⟨(okc .least).cls, _, fd_Bounded_fits, _, m_Bounded_fits, ok_Bounded_fits F_Bounded_fits T.nd, b_Bounded_fits⟩
  have H_lo : ∀ d, HeldM P w K mg base 1 "one" (kcOf K).lo (spOne (kcOf K) d (kcOf K).lo) := fun d => ⟨(okc (.lot 1)).cls, _, fd_Kind_one, _, m_Lot_one, G_Kind_one d _, b_Kind_one⟩
  have A_good : ∀ d e sp, SK (kcOf K) (spGood (kcOf K) d) e = some sp → HeldM P w K mg base (d + 2) "good" e sp := all_good T m_Truth_good b_Truth_good m_Count_good b_Counted_good m_Bounded_good b_Counted_good m_Narrow_good b_Counted_good m_Share_good b_Share_good m_Lot_good b_Lot_good m_Pair_good b_Pair_good (fun d => (G_Truth_good d).mono (by decide : 1 ≤ 2)) (fun d => ok_Counted_good F_Counted_good F_is_number g_is_number G_is_number T d (.inl rfl) (held1 H_co) z_isinstance z_str) (fun d => ok_Counted_good F_Counted_good F_is_number g_is_number G_is_number T d (.inr (.inl rfl)) (held1 H_bo) z_isinstance z_str) (fun d => ok_Counted_good F_Counted_good F_is_number g_is_number G_is_number T d (.inr (.inr rfl)) (held1 H_na) z_isinstance z_str) G_Share_good (fun d => ok_Lot_good F_Lot_good F_is_number g_is_number G_is_number T.nd d (held1 (H_lo d)) ) (fun d HA => ok_Pair_good F_Pair_good T HA z_isinstance z_tuple z_len)
  have G_Count_plus : ∀ d : Nat, FnOk P w K mg base (CX0) 1 _ _ ["self", "a", "b"] (spPlus (kcOf K) d (kcOf K).co) := fun d => ok_Count_plus F_Count_plus T.nd d
  have G_Bounded_plus : ∀ d : Nat, FnOk P w K mg base (CX0) 1 _ _ ["self", "a", "b"] (spPlus (kcOf K) d (kcOf K).bo) := fun d => ok_Bounded_plus F_Bounded_plus T d
  have G_Narrow_plus : ∀ d : Nat, FnOk P w K mg base (CX0) 1 _ _ ["self", "a", "b"] (spPlus (kcOf K) d (kcOf K).na) := fun d => ok_Narrow_plus F_Narrow_plus T.nd d
  have G_Truth_plus : ∀ d : Nat, FnOk P w K mg base (CX0) 1 _ _ ["self", "a", "b"] (spPlus (kcOf K) d (kcOf K).tr) := fun d => ok_Truth_plus F_Truth_plus T.nd d
  have G_Lot_plus : ∀ d : Nat, FnOk P w K mg base (CX0) 1 _ _ ["self", "a", "b"] (spPlus (kcOf K) d (kcOf K).lo) := fun d => ok_Lot_plus F_Lot_plus T.nd d
  have G_Share_plus : ∀ d : Nat, FnOk P w K mg base (CX0) 1 _ _ ["self", "a", "b"] (spPlus (kcOf K) d (kcOf K).sh) := fun d => ok_Share_plus F_Share_plus T.nd d
  have A_plus : ∀ d e sp, SK (kcOf K) (spPlus (kcOf K) d) e = some sp → HeldM P w K mg base (d + 1) "plus" e sp := all_plus T m_Truth_plus b_Truth_plus m_Count_plus b_Count_plus m_Bounded_plus b_Bounded_plus m_Narrow_plus b_Narrow_plus m_Share_plus b_Share_plus m_Lot_plus b_Lot_plus m_Pair_plus b_Pair_plus G_Truth_plus G_Count_plus G_Bounded_plus G_Narrow_plus G_Share_plus G_Lot_plus (fun d HA => ok_Pair_plus F_Pair_plus T HA)
  have G_Kind_init : FnOk P w K mg base (CX0) 1 _ _ ["self", "text", "zero", "one"] (spKind K) := ok_Kind_init F_Kind_init
  have G_Counted_init : FnOk P w K mg base (CX0) 2 _ _ ["self", "text", "zero", "one", "others"] (spCounted K) := ok_Counted_init F_Counted_init F_Kind_init G_Kind_init B_Kind
  have G_Count_init : FnOk P w K mg base (CX0) 3 _ _ ["self"] (spMk (kcOf K) .count []) := ok_Count_init F_Count_init F_Counted_init G_Counted_init B_Endless T
  have G_Narrow_init : FnOk P w K mg base (CX0) 3 _ _ ["self"] (spMk (kcOf K) .narrow []) := ok_Narrow_init F_Narrow_init F_Counted_init G_Counted_init B_Endless T
  have G_Bounded_init : FnOk P w K mg base (CX0) 3 _ _ ["self", "text", "sign"] (spMkBound (kcOf K)) := ok_Bounded_init F_Bounded_init F_Counted_init G_Counted_init B_Endless T
  have G_Truth_init : FnOk P w K mg base (CX0) 2 _ _ ["self"] (spMk (kcOf K) .truth []) := ok_Truth_init F_Truth_init F_Kind_init G_Kind_init B_Topped T
  have G_Share_init : FnOk P w K mg base (CX0) 2 _ _ ["self"] (spMk (kcOf K) .share []) := ok_Share_init F_Share_init F_Kind_init G_Kind_init B_Topped T
  have G_Lot_init : FnOk P w K mg base (CX0) 2 _ _ ["self", "size"] (spMkLot (kcOf K)) := ok_Lot_init F_Lot_init F_Kind_init G_Kind_init B_Topped T
  have G_Pair_init : FnOk P w K mg base (CX0) 2 _ _ ["self", "left", "right"] (spMkPair (kcOf K)) := ok_Pair_init F_Pair_init F_Kind_init G_Kind_init B_Kind T (A_text 4) (A_zero 4) (A_one 4)
  have G__bare_kind : FnOk P w K mg base (CX0) 5 _ _ ["name"] (spBare (kcOf K)) := ok__bare_kind F__bare_kind b_Truth_init G_Truth_init M_Truth g_Truth b_Count_init G_Count_init M_Count g_Count b_Bounded_init G_Bounded_init M_Bounded g_Bounded b_Narrow_init G_Narrow_init M_Narrow g_Narrow b_Share_init G_Share_init M_Share g_Share
  have G__sized_kind : FnOk P w K mg base (CX0) 4 _ _ ["name", "size"] (spSized (kcOf K)) := ok__sized_kind F__sized_kind b_Lot_init G_Lot_init M_Lot g_Lot
  have G_kind_of : FnOk P w K mg base CX0 10 _ _ ["made"] (spKindOf (kcOf K) 4) := ok_kind_of F_kind_of g_kind_of b_Pair_init G_Pair_init M_Pair g_Pair F__bare_kind g__bare_kind G__bare_kind F__sized_kind g__sized_kind G__sized_kind z_len 4 (by decide)
  have G_Ring_init : FnOk P w K mg base (CX0) 11 _ _ ["self", "made"] (spRingI (kcOf K) (He.ga K "Ring")) := ok_Ring_init F_Ring_init okR F_kind_of g_kind_of G_kind_of
  have G__has_form : FnOk P w K mg base CX0 9 _ _ ["made", "deep"] (spForm 4) := ok__has_form F__has_form g__has_form F_is_whole g_is_whole G_is_whole SZ BA z_isinstance z_tuple z_len z_str 4
  have G__tables : FnOk P w K mg base CX0 4 _ _ ["made"] (spTabs 4) := ok__tables F__tables g__tables 4
  have G_ring_of : FnOk P w K mg base (CX0) 13 _ _ ["made"] (spRingOf (kcOf K) (He.ga K "Ring")) := ok_ring_of F_ring_of F__has_form g__has_form G__has_form F__tables g__tables G__tables b_Ring_init G_Ring_init M_Ring g_Ring g_PAIRS
  have G_Ring_kind : FnOk P w K mg base (CX0) 1 _ _ ["self"] (spRKind (kcOf K) (He.ga K "Ring")) := ok_Ring_kind F_Ring_kind TR
  have G_Ring_is_closed : FnOk P w K mg base (CX0) 6 _ _ ["self"] (spRClosed (kcOf K) (He.ga K "Ring")) := ok_Ring_is_closed F_Ring_is_closed TR (A_closed 4)
  have G_Ring_good : FnOk P w K mg base (CX0) 7 _ _ ["self", "thing"] (spRGood (kcOf K) (He.ga K "Ring")) := ok_Ring_good F_Ring_good TR (A_good 4)
  have G_need_ring : FnOk P w K mg base (CX0) 1 _ _ ["thing"] (spNeedRing (kcOf K) (He.ga K "Ring")) := ok_need_ring F_need_ring TR g_Ring z_isinstance
  have G__is_step : FnOk P w K mg base (CX0) 8 _ _ ["ring", "states", "step"] (spIsStep (kcOf K) (He.ga K "Ring")) := ok__is_step F__is_step TR F_is_whole g_is_whole G_is_whole m_Ring_good b_Ring_good G_Ring_good z_isinstance z_tuple z_len
  have G__is_web : FnOk P w K mg base (CX0) 9 _ _ ["ring", "web"] (spIsWeb (kcOf K) (He.ga K "Ring")) := ok__is_web F__is_web TR F_is_whole g_is_whole G_is_whole F__is_step g__is_step G__is_step g_STATES g_STEPS z_isinstance z_tuple z_len z_all
  have G_need_web : FnOk P w K mg base (CX0) 10 _ _ ["ring", "web"] (spNeedWeb (kcOf K) (He.ga K "Ring")) := ok_need_web F_need_web TR F_need_ring g_need_ring G_need_ring F__is_web g__is_web G__is_web m_Ring_is_closed b_Ring_is_closed G_Ring_is_closed
  have G_Ring_made : FnOk P w K mg base (CX0) 1 _ _ ["self"] (spRMade (kcOf K) (He.ga K "Ring")) := ok_Ring_made F_Ring_made TR
  have G_need_state : FnOk P w K mg base (L2.CX P w) 3 _ _ ["web", "thing"] (spNeedState (He.ga K "BadNumber")) := ok_need_state F_need_state F_is_whole g_is_whole G_is_whole O_BadNumber
  have G_is_ordered : FnOk P w K mg base (CX0) 2 _ _ ["ring"] (spOrdered (kcOf K) (He.ga K "Ring")) := ok_is_ordered F_is_ordered TR OO m_Ring_made b_Ring_made G_Ring_made
  have G__need_no_bettering : FnOk P w K mg base (L2.CX P w) 6 _ _ ["ring", "web"] (spNoBet (kcOf K) (He.ga K "Ring") (He.ga K "NoOrder")) := ok__need_no_bettering F__need_no_bettering TR (A_plus 4) (A_one 4) F_is_ordered g_is_ordered G_is_ordered m_Ring_kind b_Ring_kind G_Ring_kind O_NoOrder z_enumerate
  have G__best_of : FnOk P w K mg base (CX0) 6 _ _ ["kind", "row", "states"] (spBestOf (kcOf K)) := ok__best_of F__best_of (A_plus 4)
  have G_by_best : FnOk P w K mg base (L2.CX P w) 11 _ _ ["ring", "web", "start"] (spBest (kcOf K) (He.ga K "Ring") (He.ga K "BadNumber") (He.ga K "NoOrder")) := ok_by_best F_by_best TR (A_plus 4) (A_times 4) (A_zero 4) (A_one 4) F_need_web g_need_web G_need_web F_need_state g_need_state G_need_state F__need_no_bettering g__need_no_bettering G__need_no_bettering F__best_of g__best_of G__best_of m_Ring_kind b_Ring_kind G_Ring_kind z_range z_list
  have G_mixed : FnOk P w K mg base (CX0) 1 _ _ ["_law_cell", "_law_k"] (spMixed) := ok_mixed F_mixed
  have G_draw : FnOk P w K mg base (CX0) 1 _ _ ["_law_script", "_law_k"] (spDraw K) := ok_draw F_draw
  have G_next : FnOk P w K mg base (CX0) 2 _ _ ["_law_draw_here", "_law_many"] (spNext) := ok_next F_next F_mixed g_mixed G_mixed z_len
  have G_zero : FnOk P w K mg base CX0 4 _ _ ["_law_made"] (spLZero 3) := ok_zero F_zero g_zero 3
  have G_one : FnOk P w K mg base CX0 4 _ _ ["_law_made"] (spLOne 3) := ok_one F_one g_one 3
  have G_ring : FnOk P w K mg base CX0 5 _ _ ["_law_draw_here", "_law_deep"] (spLRing 3) := ok_ring F_ring g_ring F_next g_next G_next 3
  have G_lowest : FnOk P w K mg base (CX0) 1 _ _ ["_law_top", "_law_bottom"] (spLowest) := ok_lowest F_lowest
  have G_times : FnOk P w K mg base CX0 5 _ _ ["_law_made", "_law_a", "_law_b"] (spLTimes 3) := ok_times F_times g_times F_lowest g_lowest G_lowest z_min 3
  have G_weight : FnOk P w K mg base CX0 7 _ _ ["_law_draw_here", "_law_made", "_law_mood", "_law_lift"] (spLWeight 3) := ok_weight F_weight g_weight F_next g_next G_next F_lowest g_lowest G_lowest F_zero g_zero G_zero z_min 3
  have G_plus : FnOk P w K mg base CX0 4 _ _ ["_law_made", "_law_a", "_law_b"] (spLPlus 3) := ok_plus F_plus g_plus z_min z_max 3
  have G_turned : FnOk P w K mg base (CX0) 3 _ _ ["_law_draw_here", "_law_many"] (spTurned) := ok_turned F_turned F_next g_next G_next z_list z_range z_len
  have G_web : FnOk P w K mg base (CX0) 8 _ _ ["_law_draw_here", "_law_made", "_law_most", "_law_many"] (spLWeb) := ok_web F_web F_next g_next G_next F_turned g_turned G_turned F_weight g_weight G_weight z_list z_range z_len z_tuple z_min z_max
  have G_same : FnOk P w K mg base CX0 7 _ _ ["_law_told_here", "_law_due"] (spLSame 6) := ok_same F_same g_same z_isinstance z_tuple z_list z_bool z_int z_str z_len z_all z_zip 6
  have G_tame : FnOk P w K mg base (CX0) 1 _ _ ["_law_made", "_law_net"] (spTame) := ok_tame F_tame z_abs z_isinstance z_int z_tuple
  have G_first : FnOk P w K mg base (CX0) 5 _ _ ["_law_made", "_law_net"] (spFirst20) := ok_first F_first F_plus g_plus G_plus F_one g_one G_one z_enumerate
  have G_told : FnOk P w K mg base (CX0) 12 _ _ ["_law_base", "_law_net", "_law_at"] (spTold20 (kcOf K) (He.ga K "Ring")) := ok_told F_told TO O_NoOrder F_by_best g_by_best G_by_best z_isinstance
  have G_no_number : FnOk P w K mg base (CX0) 12 _ _ ["_law_base", "_law_net"] (spNoNum (kcOf K) (He.ga K "Ring")) := ok_no_number F_no_number TO F_by_best g_by_best G_by_best z_isinstance
  have G_row_right : FnOk P w K mg base (CX0) 8 _ _ ["_law_made", "_law_net", "_law_at", "_law_row"] (spRowR) := ok_row_right F_row_right F_zero g_zero G_zero F_one g_one G_one F_times g_times G_times F_plus g_plus G_plus F_same g_same G_same z_range z_all
  exact ok_law F_law F_draw g_draw G_draw F_next g_next G_next F_ring g_ring G_ring F_web g_web G_web F_tame g_tame G_tame F_ring_of g_ring_of G_ring_of F_told g_told G_told F_first g_first G_first F_no_number g_no_number G_no_number F_row_right g_row_right G_row_right z_len z_range z_max z_min z_repr
theorem walk20 {l : PySem.W.OpenLaw} {q : Program} {loose : List Str} {XP : (Str → Option Value) → Heap → Prop} {YP : World → Heap → Prop} {d : DefRec} (hn : l.most = some 63) (hdf : d.params.defaults = [])
    (F : ∀ (w : World) (mg : Str → Option Value) (fa : Addr) (h : Heap), YP w h → h.Ns mainGlobals mg → mg d.name = some (.ref fa) →
      ∃ K : PySem.W.Frag, K.In h ∧ ∃ fd : FuncData, (∀ (s : Shared) (u : Value), BindsTo s fd ⟨[u], []⟩ [("_law_script", u)]) ∧ ∀ base : Heap, K.In base → base.Ns mainGlobals mg → FnG l.prog w K mg base CX0 14 fa fd ["_law_script"] (spLaw K)) :
    PySem.W.WalkO q loose XP YP l.row.toRowW d [] (fun f vs => PySem.call f vs) := by
  refine Att.attach_callB hn hdf fun w s₀ s₁ mg mb fa o pm cd doc a vs ns G Y ho hd hcd hmg hobj hints hlen hbits hg => ?_
  obtain ⟨K, KX, fd, hb, hF⟩ := F w mg fa _ Y G.T.g hmg
  exact law_callG KX G.T.g G.T.b G.T.builtins G.T.nolimit hg hobj hints (Nat.le_trans hlen (by decide)) ⟨rfl, by decide, by decide⟩ hF hb (fun H hH hS => ⟨a, ns, rfl, hS, hlen, fun _ => rfl⟩) fun H e s' z => z
end D1
open PySem PySem.W PySem.Calls PyProof.Rows
set_option maxHeartbeats 0
theorem PySem.Challenge.cw_semirail_k20_the_best_first_holds : PySem.Challenge.rw_semirail_k20_the_best_first.Holds := by
  w_on; o_law
  refine HandSHeadRun.head_imp (r := OpenLaw.row PySem.Challenge.rw_semirail_k20_the_best_first) (q := view (OpenLaw.row PySem.Challenge.rw_semirail_k20_the_best_first).prog [0, 108]) (H := W20.hk) (ob := W20.ob) (M := 20000) (loose := W20.names) (d := HandSHeadRun.topDef (OpenLaw.row PySem.Challenge.rw_semirail_k20_the_best_first).prog 108) (kwd := []) W20.ob_eq
    W20.run (by kernel_rfl) (by kernel_rfl) (by kernel_rfl) (by rfl) (by first | assumption | decide +kernel) (by decide +kernel) ⟨rfl, rfl, rfl, rfl, rfl, by decide +kernel⟩ ?hw ?hc
  case hw => w_witness2
  case hc =>
    refine D1.walk20 (l := PySem.Challenge.rw_semirail_k20_the_best_first) rfl (by kernel_rfl) ?F
    intro w mg fa h Y G hmg0
    obtain ⟨K, KX, c⟩ := Y
    have hmg : mg ("law" : PySem.Str) = some (.ref fa) := by
      have e : (HandSHeadRun.topDef (OpenLaw.row PySem.Challenge.rw_semirail_k20_the_best_first).prog 108).name = ("law" : PySem.Str) := by kernel_rfl
      rw [← e]
      exact hmg0
    exact ⟨K, KX, D1.facts (P := (PySem.Challenge.rw_semirail_k20_the_best_first).prog) (w := w) KX G hmg c⟩
end
