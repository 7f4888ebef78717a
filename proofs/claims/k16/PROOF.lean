import PyProof.Rows.All
import Wide.All
import OpenK.AllK
import Wide.FinOn
import HandS.Head0
import HandS.Head1
import HandS.Head2
import HandS.Head3
import HandS.HeadEnd
import HandS.HeadHook1
import HandS.HeadHook2
import HandS.HeadHook3
import HandS.HeadHook4
import HandS.ExcField
import HandS.ForMost
import HandS.ForExc
import HandS.Defaults
import KE.KExcInit
import Wide.Once
import KE.KStateDown
import PyProof.EqAt
import PyProof.EqKinds
import PyProof.TupleCall
import HandS.ExcInit
import HandS.ExcValue
import KE.KExcIs
import HandS.ExcIs
import PyProof.ReprRoads
import HandS.OwnEq
import HandS.SlotsOwn
import HandS.IsInst
import PyProof.InstNe
import HandS.HotCalls
import HandS.Walk
import HandS.Evl
import HandS.StrMore
import HandS.Wide
import HandS.SortInts
import HandS.Zip
import HandS.NoneIn
import HandS.Star
import HandS.CallLocal
import HandS.Style
import HandS.TupAny
import HandS.Conv
import HandS.RaiseMore
import HandS.Flow
import HandS.Gcd
import PyProof.P3Eq
import HandS.ClsMeth
import HandS.FStr
import KE.GoesMore
import KE.GoesZip
import KE.OsArith
import HandS.Dict
import KE.GoesEnum
import HandS.ExcOwn
import HandS.EndBits
import HandS.HeadWalk
import PySem.Challenge.RW_semirail_k16_weights_along_paths
section
set_option Elab.async false
set_option linter.all false
set_option maxRecDepth 100000
set_option maxHeartbeats 4000000
/-! HH: what the head looks at -/
namespace D1
open PySem L2
abbrev theProg : Program := PySem.Challenge.pw_semirail_k16_weights_along_paths
def top (i : Nat) : Stmt := theProg.main.body.getD i (.Pass ⟨0, 0, 0, 0⟩)
abbrev FnP (K : PySem.W.Frag) (x : Str) (st : Stmt) (f : Addr) (fd : FuncData) : Prop := FunD K x x (defArgs st) (defBody st) (defScope st) [] [] f fd
def clsBody (s : Stmt) : List Stmt := match s with
  | .ClassDef _ _ _ b _ _ _ _ _ _ _ => b
  | _ => []
def meth (i j : Nat) : Stmt := (clsBody (top i)).getD j (.Pass ⟨0, 0, 0, 0⟩)
abbrev FnM (K : PySem.W.Frag) (c x : Str) (st : Stmt) (f : Addr) (fd : FuncData) : Prop := FunD K x (c ++ "." ++ x) (defArgs st) (defBody st) (defScope st) [] [] f fd
def fields : List Str := ["_text", "_zero", "_one", "_others", "_size", "_sums", "_products", "_left", "_right", "_made", "_kind", "_sign", "_unknowns"]
structure KC where
  tr : Addr
  co : Addr
  bo : Addr
  na : Addr
  sh : Addr
  lo : Addr
  pa : Addr
def KC.all (C : KC) : List Addr := [C.tr, C.co, C.bo, C.na, C.sh, C.lo, C.pa]
open He
open PySem.W in
def xbB (K : Frag) (C : Addr) (bmB : List Value) (newId : String) (fn : List Str) : Bool :=
  excInitIn K C bmB newId && (excOver K C bmB && (hasDictIn K C && (decide (findIn K (.ref C) "__setattr__" = some (some (.builtin "object.__setattr__"))) && (decide (findIn K (.ref C) "__getattribute__" = some (some (.builtin "BaseException.__getattribute__"))) &&
    (decide (findIn K (.ref C) "__getattr__" = some none) && (decide (findIn K (.ref C) "__class__" = some (some (.builtin "object.__class__"))) && (decide (mroIn K C (.type "object") = some true) && (fn.all (fun f => decide (findIn K (.ref C) f = some none)) &&
      (keepIn K (.ref C) && (decide (subIn K (.ref C) (.type "BaseException") = some true) && decide (typeIn K (.ref C) = some (.type "type"))))))))))))
def bmA : List Value := [.type "ArithmeticError", .type "Exception", .type "BaseException", .type "object"]
def bmV : List Value := [.type "ValueError", .type "Exception", .type "BaseException", .type "object"]
def kwN (K : PySem.W.Frag) (p : Str × Option Str) : Bool := match K.lookup (fAd K p) with
  | some ⟨_, _, .func fd, _⟩ => (match fd.kwdefaults with
    | .none => true
    | _ => false)
  | _ => false
def iniB (K : PySem.W.Frag) (x : Str) : Bool := kwN K (x, some "__init__") && (decide (PySem.W.findIn K (.ref (ga K x)) "__init__" = some (some (.ref (fAd K (x, some "__init__"))))) && decide (PySem.W.typeIn K (.ref (fAd K (x, some "__init__"))) = some (.type "function")))
def excB (K : PySem.W.Frag) : Bool := decide (PySem.W.specialIn K (.builtin "object.__class__") "__get__" = some (some (.builtin "getset_descriptor.__get__"))) && decide (PySem.W.takesIn K (.builtin "object.__class__") = some true)
def tupK (K : PySem.W.Frag) (a : Addr) (vs : List V) : Bool := match K.lookup a with
  | some ⟨.type c, _, .seq its _, _⟩ => decide (c = "tuple") && (decide (its.size ≤ sizeLine) && relAll vs its.toList)
  | _ => false
def itemA (K : PySem.W.Frag) (a : Addr) (i : Nat) : Addr := match K.lookup a with
  | some ⟨_, _, .seq its _, _⟩ => (match its.toList[i]? with
    | some (.ref b) => b
    | _ => 0)
  | _ => 0
def lotA (K : PySem.W.Frag) : Addr := match PySem.W.nsIn K (ga K "_SIZES") "lot" with
  | some (some (.ref a)) => a
  | _ => 0
def sizesB (K : PySem.W.Frag) : Bool := (["truth", "count", "least", "most", "narrow", "share", "pair"] : List Str).all (fun x => eqO (PySem.W.nsIn K (ga K "_SIZES") x) (some none)) && (eqO (PySem.W.nsIn K (ga K "_SIZES") "lot") (some (some (.ref (lotA K)))) && tupK K (lotA K) [.int 1, .int 12])
def bareB (K : PySem.W.Frag) : Bool := tupK K (ga K "_BARE") [.str "truth", .str "count", .str "least", .str "most", .str "narrow", .str "share"]
def noB (K : PySem.W.Frag) (x : Str) : Bool := fields.all fun f => eqO (PySem.W.findIn K (.ref (ga K x)) f) (some none)
def methB (K : PySem.W.Frag) (x m : Str) (p : Str × Option Str) : Bool := eqO (PySem.W.findIn K (.ref (ga K x)) m) (some (some (.ref (fAd K p)))) && (PySem.W.isFn K (.ref (fAd K p)) && PySem.W.keepIn K (.ref (fAd K p)))
def mths0 : List (Str × Str × Str) := [("Truth", "times", "Truth"), ("Count", "times", "Count"), ("Bounded", "times", "Bounded"), ("Narrow", "times", "Narrow"), ("Share", "times", "Share"), ("Lot", "times", "Lot"), ("Pair", "times", "Pair"), ("Truth", "good", "Truth"), ("Count", "good", "Counted"), ("Bounded", "good", "Counted"), ("Narrow", "good", "Counted"), ("Share", "good", "Share"), ("Lot", "good", "Lot"), ("Pair", "good", "Pair"), ("Truth", "closed", "Topped")]
def mths1 : List (Str × Str × Str) := [("Count", "closed", "Endless"), ("Bounded", "closed", "Endless"), ("Narrow", "closed", "Endless"), ("Share", "closed", "Topped"), ("Lot", "closed", "Topped"), ("Pair", "closed", "Pair"), ("Truth", "one", "Kind"), ("Count", "one", "Kind"), ("Bounded", "one", "Kind"), ("Narrow", "one", "Kind"), ("Share", "one", "Kind"), ("Lot", "one", "Kind"), ("Pair", "one", "Kind"), ("Truth", "zero", "Kind"), ("Count", "zero", "Kind")]
def mths2 : List (Str × Str × Str) := [("Bounded", "zero", "Kind"), ("Narrow", "zero", "Kind"), ("Share", "zero", "Kind"), ("Lot", "zero", "Kind"), ("Pair", "zero", "Kind"), ("Truth", "text", "Kind"), ("Count", "text", "Kind"), ("Bounded", "text", "Kind"), ("Narrow", "text", "Kind"), ("Share", "text", "Kind"), ("Lot", "text", "Kind"), ("Pair", "text", "Kind"), ("Ring", "kind", "Ring"), ("Ring", "is_closed", "Ring"), ("Ring", "good", "Ring")]
def mths3 : List (Str × Str × Str) := [("Count", "fits", "Counted"), ("Bounded", "fits", "Bounded"), ("Narrow", "fits", "Counted")]
def mths : List (Str × Str × Str) := mths0 ++ mths1 ++ mths2 ++ mths3
def mthsB (K : PySem.W.Frag) : Bool := mths.all fun t => methB K t.1 t.2.1 (t.2.2, some t.2.1)
def baseB (K : PySem.W.Frag) (x : Str) (p : Str × Option Str) : Bool := PySem.W.readsIn K (ga K x) (.type "type") && (eqO (PySem.W.specialIn K (.ref (ga K x)) "__getattribute__") (some (some (.builtin "type.__getattribute__"))) && (match PySem.W.findCls K (.ref (ga K x)) (.type "type") "__init__" with
  | some (.val (.ref a)) => decide (a = fAd K p)
  | _ => false))
def famB (K : PySem.W.Frag) (cP cW cB aF : Addr) : Bool := decide (PySem.W.exmOne K (.ref cP) (.ref aF) = some true) && (decide (PySem.W.kitOne K (.ref cP) (.ref cP) = some true) && (decide (PySem.W.kitOne K (.ref cP) (.ref cW) = some false) && (decide (PySem.W.kitOne K (.ref cP) (.ref cB) = some false))))
def ringB (K : PySem.W.Frag) : Bool := eqO (PySem.W.findIn K (.ref (ga K "Ring")) "__class__") (some (some (.builtin "object.__class__"))) && (decide (PySem.W.mroIn K (ga K "Ring") (.type "object") = some true) && decide (PySem.W.kitOne K (.ref (ga K "Ring")) (.ref (ga K "Ring")) = some true))
def kcOf (K : PySem.W.Frag) : KC := ⟨ga K "Truth", ga K "Count", ga K "Bounded", ga K "Narrow", ga K "Share", ga K "Lot", ga K "Pair"⟩
def kcB (K : PySem.W.Frag) : Bool := decide (kcOf K).all.Nodup && (["Truth", "Count", "Bounded", "Narrow", "Share", "Lot", "Pair"] : List Str).all (noB K)
def ex (K : PySem.W.Frag) : Bool := xbB K (ga K "BadPath") bmV "ValueError.__new__" [("why" : Str)] && (iniB K "BadPath" && (excB K && (famB K (ga K "BadPath") (ga K "BadWeb") (ga K "BadRing") (ga K "Refused") && (ringB K && (noB K "Ring" && (kcB K && (sizesB K && (bareB K && (mthsB K && (eqO (PySem.W.nsIn K mainGlobals "gcd") (some (some (.builtin "math.gcd"))) && (baseB K "Kind" ("Kind", some "__init__") && (baseB K "Topped" ("Kind", some "__init__") && (baseB K "Endless" ("Counted", some "__init__"))))))))))))))
end D1
end
section
set_option Elab.async false
set_option linter.all false
set_option maxRecDepth 100000
set_option maxHeartbeats 0
/-! H16: the head -/
namespace W16
open PySem PySem.Spec PyProof.Rows L2
abbrev top (i : Nat) : Stmt := D1.top i
def dd (x : Str) (i : Nat) : He.DefD := ⟨(x, none), x, x, defArgs (top i), defBody (top i), defScope (top i), [], []⟩
def dm (c x : Str) (i j : Nat) : He.DefD := ⟨(c, some x), x, c ++ "." ++ x, defArgs (D1.meth i j), defBody (D1.meth i j), defScope (D1.meth i j), [], []⟩
def dmd (c x : Str) (i j : Nat) (ds : List He.Dv) : He.DefD := ⟨(c, some x), x, c ++ "." ++ x, defArgs (D1.meth i j), defBody (D1.meth i j), defScope (D1.meth i j), ds, []⟩
def names_0 : List PySem.Str := ["_wall", "Refused", "BadRing", "BadTable", "BadWeight", "BadNumber", "BadWeb", "BadPath", "Unreckoned", "NoStar", "NotClosed", "product_of", "many_of", "power_of", "LONG", "is_number", "is_whole", "Kind", "Counted", "Endless", "Count", "Bounded", "Narrow", "Finite", "Rest"]
def names_1 : List PySem.Str := ["Table", "Pair", "Terms", "_gathered", "_summed", "Topped", "Truth", "Share", "Lot", "kind_of", "_sized_kind", "_bare_kind", "Ring", "_need_count", "need_ring", "_STATES", "_STEPS", "need_web", "_is_web", "_is_step", "is_path", "path_weight", "_sum_turned", "_sum_joined", "_zero"]
def names_2 : List PySem.Str := ["_product_turned", "_product_joined", "_one", "_nought", "_spread", "_joined", "_RULES", "first_broken", "_rows", "_BARE", "_SIZES", "_THINGS", "_PAIRS", "ring_of", "_has_form", "_are_tables", "_is_table", "_is_row", "_tables", "_law_mixed", "_law_draw", "_law_next", "_law_ring", "_law_zero", "_law_one"]
def names_3 : List PySem.Str := ["_law_lowest", "_law_times", "_law_weight", "_law_turned", "_law_web", "_law_same", "_law_walk", "_law_changed", "_law_is_path", "_law_due", "_law_told", "_law_right", "_law_joined"]
def names : List PySem.Str := names_0 ++ names_1 ++ names_2 ++ names_3
def fn_0 : List He.DefD := [dd "_wall" 1, dd "product_of" 14, dd "many_of" 15, dd "power_of" 16, dd "is_number" 19, dd "is_whole" 20, dd "_gathered" 36, dd "_summed" 37, dd "kind_of" 44, dd "_sized_kind" 45, dd "_bare_kind" 46, dd "_need_count" 49, dd "need_ring" 50, dd "need_web" 54, dd "_is_web" 55, dd "_is_step" 56, dd "is_path" 57, dd "path_weight" 58, dd "_sum_turned" 60, dd "_sum_joined" 61]
def fn_1 : List He.DefD := [dd "_zero" 62, dd "_product_turned" 63, dd "_product_joined" 64, dd "_one" 65, dd "_nought" 66, dd "_spread" 67, dd "_joined" 68, dd "first_broken" 70, dd "_rows" 71, dd "ring_of" 77, dd "_has_form" 78, dd "_are_tables" 79, dd "_is_table" 80, dd "_is_row" 81, dd "_tables" 82, dd "_law_mixed" 84, dd "_law_draw" 85, dd "_law_next" 86, dd "_law_ring" 87, dd "_law_zero" 88]
def fn_2 : List He.DefD := [dd "_law_one" 89, dd "_law_lowest" 90, dd "_law_times" 91, dd "_law_weight" 92, dd "_law_turned" 93, dd "_law_web" 94, dd "_law_same" 95, dd "_law_walk" 96, dd "_law_changed" 97, dd "_law_is_path" 98, dd "_law_due" 99, dd "_law_told" 100, dd "_law_right" 101, dd "_law_joined" 102, dd "law" 103, dm "Kind" "__init__" 22 0, dm "Counted" "__init__" 23 0, dm "Count" "__init__" 26 0, dm "Narrow" "__init__" 28 0, dm "Bounded" "__init__" 27 0]
def fn_3 : List He.DefD := [dm "Truth" "__init__" 40 0, dm "Share" "__init__" 41 0, dm "Lot" "__init__" 42 0, dm "Pair" "__init__" 34 0, dm "Ring" "__init__" 48 0, dm "Kind" "text" 22 1, dm "Kind" "zero" 22 2, dm "Kind" "one" 22 3, dm "Endless" "closed" 25 0, dm "Topped" "closed" 39 0, dm "Pair" "closed" 34 1, dm "Counted" "fits" 23 2, dm "Bounded" "fits" 27 1, dm "Counted" "good" 23 1, dm "Truth" "good" 40 2, dm "Share" "good" 41 1, dm "Lot" "good" 42 2, dm "Pair" "good" 34 3, dm "Truth" "times" 40 4, dm "Count" "times" 26 2]
def fn_4 : List He.DefD := [dm "Bounded" "times" 27 3, dm "Narrow" "times" 28 3, dm "Share" "times" 41 3, dm "Lot" "times" 42 4, dm "Pair" "times" 34 5, dm "Ring" "kind" 48 1, dm "Ring" "is_closed" 48 5, dm "Ring" "good" 48 7, dm "BadPath" "__init__" 9 0]
def fn : List He.DefD := fn_0 ++ fn_1 ++ fn_2 ++ fn_3 ++ fn_4
def fa_0 : List He.Fa := [.glo "_wall", .glo "product_of", .glo "many_of", .glo "power_of", .glo "is_number", .glo "is_whole", .glo "_gathered", .glo "_summed", .glo "kind_of", .glo "_sized_kind", .glo "_bare_kind", .glo "_need_count", .glo "need_ring", .glo "need_web", .glo "_is_web", .glo "_is_step", .glo "is_path", .glo "path_weight", .glo "_sum_turned", .glo "_sum_joined"]
def fa_1 : List He.Fa := [.glo "_zero", .glo "_product_turned", .glo "_product_joined", .glo "_one", .glo "_nought", .glo "_spread", .glo "_joined", .glo "first_broken", .glo "_rows", .glo "ring_of", .glo "_has_form", .glo "_are_tables", .glo "_is_table", .glo "_is_row", .glo "_tables", .glo "_law_mixed", .glo "_law_draw", .glo "_law_next", .glo "_law_ring", .glo "_law_zero"]
def fa_2 : List He.Fa := [.glo "_law_one", .glo "_law_lowest", .glo "_law_times", .glo "_law_weight", .glo "_law_turned", .glo "_law_web", .glo "_law_same", .glo "_law_walk", .glo "_law_changed", .glo "_law_is_path", .glo "_law_due", .glo "_law_told", .glo "_law_right", .glo "_law_joined", .glo "law", .glo "Refused", .glo "BadRing", .glo "BadTable", .glo "BadWeight", .glo "BadNumber"]
def fa_3 : List He.Fa := [.glo "BadWeb", .glo "BadPath", .glo "Unreckoned", .glo "NoStar", .glo "NotClosed", .glo "Kind", .glo "Counted", .glo "Endless", .glo "Count", .glo "Bounded", .glo "Narrow", .glo "Finite", .glo "Rest", .glo "Table", .glo "Pair", .glo "Terms", .glo "Topped", .glo "Truth", .glo "Share", .glo "Lot"]
def fa_4 : List He.Fa := [.glo "Ring", .int "LONG" 60, .int "_STATES" 12, .int "_STEPS" 80, .int "_PAIRS" 3, .free "ArithmeticError", .free "ValueError", .free "all", .free "bool", .free "dict", .free "enumerate", .free "int", .free "isinstance", .free "len", .free "list", .free "max", .free "min", .free "range", .free "repr", .free "sorted"]
def fa_5 : List He.Fa := [.free "str", .free "tuple", .free "zip", .glo "_BARE", .glo "_SIZES", .cls "Truth", .cls "Count", .cls "Bounded", .cls "Narrow", .cls "Share", .cls "Lot", .cls "Pair", .cls "Ring", .mkr "Truth", .mkr "Count", .mkr "Bounded", .mkr "Narrow", .mkr "Share", .mkr "Lot", .mkr "Pair"]
def fa_6 : List He.Fa := [.mkr "Ring"]
def fa : List He.Fa := fa_0 ++ fa_1 ++ fa_2 ++ fa_3 ++ fa_4 ++ fa_5 ++ fa_6
abbrev R : PySem.W.OpenRow := PySem.W.OpenLaw.row PySem.Challenge.rw_semirail_k16_weights_along_paths
/-! the addresses that the facts ask for, level by level, no class's bases -/
def outs (g : Addr → Option Obj) (a : Addr) : List Addr := match g a with
  | some o => (match o.data with
    | .func fd => He.refV fd.code ++ He.refV fd.defaults ++ He.refV fd.kwdefaults ++ fd.closure.map (·.2)
    | .cls cd => [cd.ns]
    | .seq its _ => its.toList.flatMap He.refV
    | .dict es _ => es.toList.flatMap fun e => He.refV e.val
    | .fields vs => vs.toList.flatMap He.refV
    | .cell (some v) => He.refV v
    | _ => [])
  | none => []
def levs (g : Addr → Option Obj) : Nat → List Addr → List Addr
  | 0, _ => []
  | n + 1, l => l ++ levs g n (l.flatMap (outs g))
def adrs (g : Addr → Option Obj) : List Addr := cStatics :: levs g 7 [mainGlobals]
def frK (g : Addr → Option Obj) : PySem.W.Frag := He.frG g (adrs g)
def keys : List Str := ["lot", "rest", "terms"]
structure SaysL (w : World) (K : PySem.W.Frag) : Prop where
  d : He.SaysD fa fn K
  more : D1.ex K = true
  tab : He.dicW K (He.ga K "_SIZES") = some (He.keysIn w.params keys)
abbrev AlL : Type := He.AlD × (Bool × Option (List (Option (Str × Int))))
def obsK (K : PySem.W.Frag) : AlL := (He.obsD fa fn K, (D1.ex K, He.dicW K (He.ga K "_SIZES")))
def obsL (g : Addr → Option Obj) : AlL := obsK (frK g)
def hk : PySem.W.Hook where
  α := AlL
  obs := fun s => obsL s.heap.get?
  val := fun w => (He.valD fn, (true, some (He.keysIn w.params keys)))
  says := fun w h => ∃ K : PySem.W.Frag, K.In h ∧ SaysL w K
  of := fun _ _ e => ⟨_, He.frG_in, congrArg (fun z : AlL => z.1) e, congrArg (fun z : AlL => z.2.1) e, congrArg (fun z : AlL => z.2.2) e⟩
  keeps := fun _ _ _ ⟨K, hK, c⟩ k => ⟨K, PySem.W.Frag.In.keeps hK k, c⟩
theorem obsL_eq {g : Addr → Option Obj} {s : Shared} (h : ∀ a, g a = s.heap.get? a) : obsL g = hk.obs s := by
  have e : g = s.heap.get? := funext h
  rw [e] <;> rfl
def ob (s : PySem.W.SharedT) : AlL := obsL (HandSHeadRun.getT s)
theorem ob_eq (s : PySem.W.SharedT) : ob s = hk.obs s.abs := obsL_eq (HandSHeadRun.getT_eq s)
/-- the run of the top, and one thing told of its end -/
noncomputable def told {α : Type} (w : World) (g : Shared × PySem.W.SharedT → α) : Option α := (HandSHeadRun.wholeF (fun p => HandSHeadRun.stepQ (HandSHeadRun.denQ HandSHeadRun.tabQ) p w) HandSHeadRun.fenceQ 20000 R.prog).map g
abbrev wf (w : World) (b : Bool) : World := w.withFollow "special-get-raises" b
end W16
end
section
set_option Elab.async false
set_option linter.all false
set_option maxRecDepth 100000
set_option maxHeartbeats 0
/-! H16b: what the run of the top tells, in three parts for each of the two worlds -/
namespace W16
open PySem PySem.Spec PyProof.Rows L2
abbrev q16 : Program := PySem.W.view R.prog [0, 103]
theorem join3 {α β γ δ ε : Type} {x : Option α} {f : α → β} {g : α → γ} {o : α → δ} {e : α → ε} {b : β} {c : γ} {d : δ} {k : ε} (h1 : x.map (fun a => (f a, g a)) = some (b, c)) (h2 : x.map o = some d) (h3 : x.map e = some k) : x.map (fun a => (f a, g a, o a, e a)) = some (b, c, d, k) := by
  cases x with
  | none => cases h2
  | some a =>
    have h1' := Option.some.inj h1
    obtain ⟨rfl, rfl⟩ := Prod.mk.inj h1'
    obtain rfl := Option.some.inj h2
    obtain rfl := Option.some.inj h3
    rfl
theorem l_f (w : World) : told (wf w false) (fun x => (HandSHeadRun.looksF R.prog x.1.heap x.2.abs, HandSHeadRun.seenQ q16 names (importedModules R.prog.main.body) (fun s => PySem.W.xlAt q16 [] s && PySem.W.recOk R.toRowW.records s) x.2.abs)) = some (true, PySem.W.openGood q16 names) := by
  unfold told
  kernel_rfl
theorem o_f (w : World) : told (wf w false) (fun x => He.obsD fa fn (frK (HandSHeadRun.getT x.2))) = some (He.valD fn) := by
  unfold told
  kernel_rfl
theorem e_f (w : World) : told (wf w false) (fun x => (D1.ex (frK (HandSHeadRun.getT x.2)), He.dicW (frK (HandSHeadRun.getT x.2)) (He.ga (frK (HandSHeadRun.getT x.2)) "_SIZES"))) = some (true, some (He.keysIn (wf w false).params keys)) := by
  unfold told
  kernel_rfl
theorem run_f (w : World) : HandSHeadRun.RunEqI R (PySem.W.view R.prog [0, 103]) hk ob 20000 names (wf w false) := by
  unfold HandSHeadRun.RunEqI
  exact join3 (l_f w) (o_f w) (e_f w)
theorem l_t (w : World) : told (wf w true) (fun x => (HandSHeadRun.looksF R.prog x.1.heap x.2.abs, HandSHeadRun.seenQ q16 names (importedModules R.prog.main.body) (fun s => PySem.W.xlAt q16 [] s && PySem.W.recOk R.toRowW.records s) x.2.abs)) = some (true, PySem.W.openGood q16 names) := by
  unfold told
  kernel_rfl
theorem o_t (w : World) : told (wf w true) (fun x => He.obsD fa fn (frK (HandSHeadRun.getT x.2))) = some (He.valD fn) := by
  unfold told
  kernel_rfl
theorem e_t (w : World) : told (wf w true) (fun x => (D1.ex (frK (HandSHeadRun.getT x.2)), He.dicW (frK (HandSHeadRun.getT x.2)) (He.ga (frK (HandSHeadRun.getT x.2)) "_SIZES"))) = some (true, some (He.keysIn (wf w true).params keys)) := by
  unfold told
  kernel_rfl
theorem run_t (w : World) : HandSHeadRun.RunEqI R (PySem.W.view R.prog [0, 103]) hk ob 20000 names (wf w true) := by
  unfold HandSHeadRun.RunEqI
  exact join3 (l_t w) (o_t w) (e_t w)
theorem run (w : World) : HandSHeadRun.RunEqI R (PySem.W.view R.prog [0, 103]) hk ob 20000 names w := PySem.W.byRow2 "special-get-raises" (P := fun w => HandSHeadRun.RunEqI R (PySem.W.view R.prog [0, 103]) hk ob 20000 names w) run_f run_t w
end W16
end
section
set_option Elab.async false
set_option linter.all false
set_option maxRecDepth 100000
set_option maxHeartbeats 4000000
/-! X1: own exceptions of any of the eleven bases, made with positional arguments and keywords -/
namespace PySem
namespace VX
open PySem.W PySem.Calls PyProof.Rows PySem.HandSPX
section
variable {M : Model} {A : Around} {E : Value → Shared → Prop} {h : Heap} {g : Array GenState} {d : Drawn} {t : Nat} {os : OsState}
variable {nm q : Str} {C N : Addr} {bs bm bmB : List Value} {hdct : Bool} {sn : List Str} {sub : List Value} {ab : Bool} {col : Option Bool} {dd : Option Addr} {k0 k1 k2 k3 k5 : Option Value} {B newId initId : String}
theorem newGuardK (F : ExcBaseFacts B newId initId bmB) (hT : ∀ X : String, bm.contains (.type X) = bmB.contains (.type X)) {rest : List Value} {kw : List (Str × Value)} {Q : Unit → Shared → Prop}
    (hC : h.get? C = some (excClassObj nm q C N bs bm hdct sn sub ab col dd k0 k1 k2 k3 k5 newId)) (hq : Q () ⟨h, g, d, t, os⟩) :
    wpAny M A (checkBuiltinCall newId ⟨.ref C :: rest, kw⟩) Q E ⟨h, g, d, t, os⟩ := by
  have inB : (Value.ref C :: bm).contains (.type B) = true := by rw [List.contains_cons, hT, F.hasB]; exact Bool.or_true _
  have star := F.noStar
  simp only [checkBuiltinCall, F.newKind, F.newSplit, F.newRow]
  repeat (first
    | refine wpAny_loadPart_at hC ?_
    | (refine wpAny_isSubtype_exc hC ?_; rw [inB])
    | refine wpAny_staticBase_exc hC ?_
    | refine wpAny_madeBy_exc hC ?_
    | simp only [bne_self_eq_false, Bool.false_eq_true, if_false]
    | wp_step)
  exact hq
end
section
variable {prog : Program} {w : World} {A : Around} {E : Value → Shared → Prop} {R : Result → Shared → Prop} {h : Heap} {g : Array GenState} {d : Drawn} {t : Nat} {os : OsState}
variable {nm q : Str} {C N : Addr} {bs bm bmB : List Value} {hdct : Bool} {sn : List Str} {sub : List Value} {ab : Bool} {col : Option Bool} {dd : Option Addr} {k0 k1 k2 k3 k5 : Option Value} {B newId initId : String}
theorem newK (F : ExcBaseFacts B newId initId bmB) (hT : ∀ X : String, bm.contains (.type X) = bmB.contains (.type X)) {rest : List Value} {kw : List (Str × Value)}
    (hC : h.get? C = some (excClassObj nm q C N bs bm hdct sn sub ab col dd k0 k1 k2 k3 k5 newId))
    (hq : R (.ok (.ret (.ref (h.objs.size + 1)))) ⟨(h.push (kdv_tup rest)).push (excO C h.objs.size), g, d, t, os⟩) (hrest : rest.length ≤ sizeLine) :
    codeAny (model prog w) A (.builtin newId ⟨.ref C :: rest, kw⟩) R ⟨h, g, d, t, os⟩ := by
  have ends := F.ends
  have inB : (Value.ref C :: bm).contains (.type B) = true := by rw [List.contains_cons, hT, F.hasB]; exact Bool.or_true _
  have inA : (Value.ref C :: bm).contains (.type "AttributeError") = false := by rw [List.contains_cons, hT, F.noAttr] <;> rfl
  have inN : (Value.ref C :: bm).contains (.type "NameError") = false := by rw [List.contains_cons, hT, F.noName] <;> rfl
  refine codeAny_builtinAt F.entry ?_
  unfold Builtin.«BaseException.__new__»
  refine wpAt_bind ?_
  show wpAt _ _ _ (stack >>= _) _ _ _
  refine wpAt_bind (wpAt_stack fun p below => wpAt_of_wpAny ?_)
  wp_walk
  refine wpAt_of_wpAny ?_
  rw [F.owner]
  repeat (first
    | with_reducible refine wpAny_madeHere_exc F.canon hC ?_
    | with_reducible refine wpAny_loadPart_at hC ?_
    | (with_reducible refine wpAny_isSubtype_exc hC ?_; first | rw [inB] | rw [inA] | rw [inN])
    | wp_step)
  show R _ _
  rw [Heap.size_push]
  exact hq
theorem typeCallK (F : ExcBaseFacts B newId initId bmB) (hT : ∀ X : String, bm.contains (.type X) = bmB.contains (.type X)) {rest : List Value} {kw : List (Str × Value)} {fI : Addr} {Q : Fin → Shared → Prop}
    (hC : h.get? C = some (excClassObj nm q C N bs bm hdct sn sub ab col dd k0 k1 k2 k3 k5 newId))
    (hi : W.Looks (model prog w) h (typeLookup (.ref C) "__init__") (some (.ref fI))) (hb : ∀ self, W.Looks (model prog w) h (bindSpecial (.ref fI) self) (.ref fI, [self])) (hrest : rest.length ≤ sizeLine)
    (hq : codeAny (model prog w) A (.call (.ref fI) ⟨.ref (h.objs.size + 1) :: rest, kw⟩)
      (fun r s' => match r with | .ok (.ret v) => v = .none ∧ Q (.done (.ret (.ref (h.objs.size + 1)))) s' | .ok _ => False | .error e => E e s')
      ⟨(h.push (kdv_tup rest)).push (excO C h.objs.size), g, d, t, os⟩) :
    wpAny (model prog w) A (Builtin.«type.__call__» ⟨.ref C :: rest, kw⟩) Q E ⟨h, g, d, t, os⟩ := by
  repeat (first
    | with_reducible refine wpAny_loadPart_at hC ?_
    | with_reducible refine wpAny_madeBy_exc hC ?_
    | wp_step)
  refine codeAny_call_builtin_code (Code.quiet_builtin _ F.quiet) (newGuardK F hT hC ?_)
  refine newK F hT hC ?_ hrest
  show wpAny _ _ _ _ _ _
  have up : ∀ b o, h.get? b = some o → ((h.push (kdv_tup rest)).push (excO C h.objs.size)).get? b = some o := fun b o e => Heap.get?_push_of_some _ (Heap.get?_push_of_some _ e)
  have hC2 := up _ _ hC
  have here : ((h.push (kdv_tup rest)).push (excO C h.objs.size)).get? (h.objs.size + 1) = some (excO C h.objs.size) := by heap_get
  have inC : (Value.ref C :: bm).contains (.ref C) = true := by simp
  have i2 := hi.keeps up
  have b2 := (hb (.ref (h.objs.size + 1))).keeps up
  unfold isInstance
  repeat (first
    | with_reducible refine wpAny_loadPart_at here ?_
    | (with_reducible refine wpAny_isSubtype_exc hC2 ?_; rw [inC])
    | wp_step)
  show wpAny _ _ (typeLookup (.ref C) _) _ _ _
  refine i2.at ?_
  refine wpAny_holding (wpAny_bind (b2.at ?_))
  refine wpAny_bind (wpAny_call (codeAny_mono hq fun r s' z => ?_))
  rcases r with e | (v | _ | _ | _) <;> first | exact z | exact z.elim | skip
  obtain ⟨rfl, z⟩ := z
  first
    | exact wpAny_pure (wpAny_pure z)
    | (wp_walk; exact z)
end
section
variable {prog : Program} {w : World} {A : Around} {E : Value → Shared → Prop} {R : Result → Shared → Prop} {s : Shared} {K : Frag} {C fI : Addr} {bmB : List Value} {B newId initId : String}
/-- C(.., k = v): the object and its args are laid, then the class's own __init__ runs -/
theorem callK (F : ExcBaseFacts B newId initId bmB) (X : K.In s.heap) (q : excInitIn K C bmB newId = true) {rest : List Value} {kw : List (Str × Value)}
    (iC : findIn K (.ref C) "__init__" = some (some (.ref fI))) (tI : typeIn K (.ref fI) = some (.type "function")) (hrest : rest.length ≤ sizeLine)
    (hq : codeAny (model prog w) (A.under (.builtin "type.__call__" ⟨.ref C :: rest, kw⟩)) (.call (.ref fI) ⟨.ref (s.heap.objs.size + 1) :: rest, kw⟩) (W.InitBack (s.heap.objs.size + 1) R)
      { s with heap := (s.heap.push (kdv_tup rest)).push (excO C s.heap.objs.size) }) :
    codeAny (model prog w) A (.call (.ref C) ⟨rest, kw⟩) R s := by
  obtain ⟨nm, N', qn, bs, bm, hdct, sn, sub, ab, col, dd, k0, k1, k2, k3, k5, hC, hT⟩ := excInit_of X q
  have hi : W.Looks (model prog w) s.heap (typeLookup (.ref C) "__init__") (some (.ref fI)) := looks_findIn X iC
  have hb : ∀ self, W.Looks (model prog w) s.heap (bindSpecial (.ref fI) self) (.ref fI, [self]) := fun self => bind_fn X self tI
  obtain ⟨h, g, d, t, os⟩ := s
  have f1 := tc_lookup
  have f2 := tc_bind (.ref C)
  have hTy : (⟨h, g, d, t, os⟩ : Shared).TypeIs (.ref C) "type" := ⟨_, hC, rfl⟩
  refine codeAny_of_tree ?_
  show wpAny _ _ (callAny (.ref C) _) _ _ _
  repeat (any_goals (first | assumption | with_reducible refine wpAny_loadPart_at hC ?_ | wp_step))
  refine ⟨rfl, ?_⟩
  refine codeAny_call_builtin_at (Code.quiet_builtin _ (by decide +kernel)) entry_typeCall (wpAny_check_type_call_sub hC (typeCallK F hT hC hi hb hrest ?_))
  refine codeAny_mono hq fun r s' z => ?_
  rcases r with e | (v | _ | _ | _) <;> exact z
end
end VX
end PySem
end
section
set_option Elab.async false
set_option linter.all false
set_option maxRecDepth 100000
set_option maxHeartbeats 4000000
/-! X2: fields stored into such an exception -/
namespace PySem
namespace VX
open PySem.W PySem.Calls PyProof.Rows PySem.HandSPX
section
open Builtin Builtin.ObjectAttr
variable {prog : Program} {w : World} {A : Around} {R : Result → Shared → Prop} {K : Frag} {hp : Heap} {g : Array GenState} {d : Drawn} {t : Nat} {os : OsState} {C x dx : Addr} {bmB : List Value} {B : String} {name : Str} {tk : Tok} {v : Value} {fv : Array Value} {m0 : Str → Option Value} {nl : List Str}
/-- the first field: the dict is made -/
theorem storeFirst (SF : StoreFacts B bmB "object.__setattr__" "object") (X : K.In hp) (hx : hp.get? x = some { cls := .ref C, data := .fields fv }) (q : excOver K C bmB = true) (hh : hasDictIn K C = true) (ta : takerIn K C name = some none)
    (hq : ∀ h' tk' dx, (∀ b o, b ≠ x → hp.get? b = some o → h'.get? b = some o) → hp.objs.size ≤ dx → dx ≠ x → h'.get? x = some { cls := .ref C, dict := some dx, data := .fields fv } →
      h'.Ns1 dx (fun y => if y = name then some v else none) → R (.ok (.ret .none)) ⟨h', g, d, tk', os⟩) :
    codeAny (model prog w) A (.call (.builtin "object.__setattr__") ⟨[.ref x, .str name tk, v], []⟩) R ⟨hp, g, d, t, os⟩ := by
  obtain ⟨cd, hcd, hd'⟩ := any_some hh
  have lk : W.Looks (model prog w) hp (classData C) cd := looks_clsIn X hcd
  have nx : x ≠ hp.objs.size := Nat.ne_of_lt (Heap.lt_size hx)
  refine osa_openX (od := none) (ox := { cls := .ref C, data := .fields fv }) SF X ⟨hx, rfl, rfl, trivial⟩ q ta fun b => ?_
  show wpAny _ _ (storeInOwnDict (.ref x) (.ref C) (.str name tk) name v b) _ _ _
  obtain ⟨nm, bs, mro, ns, qn, hd, sn, sb, ab, col, del⟩ := cd
  dsimp only at hd'
  subst hd'
  unfold storeInOwnDict ownDictForStores
  repeat (first
    | with_reducible refine store_in_new ?_ ?_
    | with_reducible refine wpAny_loadPart_at hx ?_
    | with_reducible refine lk.at ?_
    | wp_step)
  · exact ⟨_, #[], _, (Heap.get?_update_ne _ _ _ _ nx.symm).trans (Heap.get?_push_at rfl rfl), rfl, fun e he => absurd he (by simp), fun _ => rfl⟩
  · intro h' tk' hn' hs
    have hx1 : (hp.push { cls := .type "dict", data := .dict #[] }).get? x = some { cls := .ref C, data := .fields fv } := Heap.get?_push_of_some _ hx
    refine hq h' tk' hp.objs.size (fun b o hb ho => ?_) (Nat.le_refl _) nx.symm ?_ hn'
    · exact (hs.2 b (Nat.ne_of_lt (Heap.lt_size ho))).trans ((Heap.get?_update_ne _ _ _ _ hb).trans (Heap.get?_push_of_some _ ho))
    · exact (hs.2 x nx).trans (Heap.get?_update_self _ hx1 rfl)
/-- a further field -/
theorem storeNext (SF : StoreFacts B bmB "object.__setattr__" "object") (X : K.In hp) (hx : hp.get? x = some { cls := .ref C, dict := some dx, data := .fields fv }) (hns : hp.Ns1 dx m0) (hw : Within m0 nl) (hz : nl.length ≤ 1000)
    (q : excOver K C bmB = true) (hh : hasDictIn K C = true) (ta : takerIn K C name = some none)
    (hq : ∀ h' tk', (∀ b o, b ≠ dx → hp.get? b = some o → h'.get? b = some o) → h'.Ns1 dx (fun y => if y = name then some v else m0 y) → R (.ok (.ret .none)) ⟨h', g, d, tk', os⟩) :
    codeAny (model prog w) A (.call (.builtin "object.__setattr__") ⟨[.ref x, .str name tk, v], []⟩) R ⟨hp, g, d, t, os⟩ := by
  obtain ⟨oD, esD, epD, hoD, hdD, _⟩ := hns.count hw
  obtain ⟨cd, hcd, hd'⟩ := any_some hh
  have lk : W.Looks (model prog w) hp (classData C) cd := looks_clsIn X hcd
  refine osa_openX (od := some oD) (ox := { cls := .ref C, dict := some dx, data := .fields fv }) SF X ⟨hx, rfl, rfl, hoD⟩ q ta fun b => ?_
  show wpAny _ _ (storeInOwnDict (.ref x) (.ref C) (.str name tk) name v b) _ _ _
  obtain ⟨nm, bs, mro, ns, qn, hd, sn, sb, ab, col, del⟩ := cd
  dsimp only at hd'
  subst hd'
  unfold storeInOwnDict ownDictForStores
  repeat (first
    | with_reducible refine OEX.store_in_old hns hw hz ?_
    | with_reducible refine wpAny_loadPart_at hx ?_
    | with_reducible refine lk.at ?_
    | wp_step)
  intro h' tk' hn' hs
  exact hq h' tk' (fun b o hb ho => (hs.2 b hb).trans ho) hn'
end
end VX
end PySem
end
section
set_option Elab.async false
set_option linter.all false
set_option maxRecDepth 100000
set_option maxHeartbeats 4000000
/-! X3: the program's own __init__s, each a store of its arguments -/
namespace PySem
namespace VX
open PySem.W PySem.Calls PyProof.Rows PySem.HandSPX
/-- what the written part says of an own exception class at C, fields fn, over the built-in base B -/
structure XB (K : Frag) (bmB : List Value) (newId : String) (C : Addr) (fn : List Str) : Prop where
  ini : excInitIn K C bmB newId = true
  over : excOver K C bmB = true
  hd : hasDictIn K C = true
  sa : findIn K (.ref C) "__setattr__" = some (some (.builtin "object.__setattr__"))
  ga : findIn K (.ref C) "__getattribute__" = some (some (.builtin "BaseException.__getattribute__"))
  gg : findIn K (.ref C) "__getattr__" = some none
  ca : findIn K (.ref C) "__class__" = some (some (.builtin "object.__class__"))
  mo : mroIn K C (.type "object") = some true
  no : ∀ f ∈ fn, findIn K (.ref C) f = some none
  keep : keepIn K (.ref C) = true
  exc : subIn K (.ref C) (.type "BaseException") = some true
  ty : typeIn K (.ref C) = some (.type "type")
theorem taker_of {K : Frag} {C : Addr} {f : Str} (h : findIn K (.ref C) f = some none) : takerIn K C f = some none := by
  unfold takerIn
  rw [h]
  rfl
def fS (f : Str) : Scope := { kind := .function, names := [(PySem.Str.ofString "self", .local), (f, .local)], isGenerator := false, isCoroutine := false, more := [] }
def fA (f : Str) (p1 p2 : Pos) : Arguments := { posonlyargs := [], args := [{ arg := "self", annotation := none, pos := p1 }, { arg := f, annotation := none, pos := p2 }], vararg := none, kwonlyargs := [], kw_defaults := [], kwarg := none, defaults := [] }
def fB (f : Str) (q1 q2 q3 q4 : Pos) : List Stmt := [.Assign [.Attribute (.Name "self" q1) f q2] (.Name f q3) q4]
/-- what __init__ leaves of the object at x -/
structure InitLeft (h h' : Heap) (x C dx t1 : Addr) (kvs : List (Str × Value)) : Prop where
  keep : ∀ b o, b ≠ x → h.get? b = some o → h'.get? b = some o
  obj : h'.get? x = some { cls := .ref C, dict := some dx, data := .fields #[.ref t1, .none, .none, .none, .bool false, .none] }
  dbig : h.objs.size ≤ dx
  dne : dx ≠ x
  ns : h'.Ns1 dx (fun y => kvs.lookup y)
theorem look1 (f : Str) (v : Value) : (fun y => if y = f then some v else none) = fun y => ([(f, v)] : List (Str × Value)).lookup y := by
  funext y
  by_cases e : y = f
  · subst e
    simp [List.lookup]
  · have q : (y == f) = false := by simpa using e
    rw [if_neg e]
    simp [List.lookup, q]
theorem look2 (f g : Str) (v u : Value) : (fun y => if y = g then some u else if y = f then some v else none) = fun y => ([(g, u), (f, v)] : List (Str × Value)).lookup y := by
  funext y
  by_cases e : y = g
  · subst e
    simp [List.lookup]
  · have q : (y == g) = false := by simpa using e
    rw [if_neg e]
    have l := congrFun (look1 f v) y
    rw [show (if y = f then some v else none) = _ from l]
    simp [List.lookup, q]
theorem localAt {M : Model} {s : Shared} {name : Str} {scope : Scope} {L a : Addr} {cd : Value} {m : Str → Option Value} {x : Str} {pos : Pos} {v : Value} {Q : Value → Shared → Prop} {A : Around} {E : Value → Shared → Prop}
    (hn : s.heap.Ns L m) (hv : m x = some v) (h : Q v s) (hk : scope.kind = .function := by rfl) (hl : (envOfC name scope L a cd).kindOf x = some .local := by rfl) (hd : (x == ("__debug__" : Str)) = false := by decide) :
    wpAny M A (eval (.Name x pos) (envOfC name scope L a cd)) Q E s := by
  refine wpAny_Name ?_ hd
  exact wpAny_loadName_local hk hl hn hv h
/-- the def of an __init__ with one field -/
structure Ini1 (K : Frag) (fI : Addr) (qual f : Str) (fd : FuncData) : Prop where
  ex : ∃ (oc : Value) (od : Option Addr) (doc pm : Value) (an : Option Addr) (cdv ct : Value) (osl : Array (Option Value)) (p1 p2 q1 q2 q3 q4 : Pos),
    fd = fnOf "__init__" qual (fA f p1 p2) (fB f q1 q2 q3 q4) (fS f) .none .none doc pm an cdv ct ∧ K.lookup fI = some ⟨oc, od, .func fd, osl⟩ ∧ codeIn K cdv qual = true
section
variable {prog : Program} {w : World} {A : Around} {E : Value → Shared → Prop} {R : Result → Shared → Prop} {s : Shared} {K : Frag} {C fI : Addr} {bmB : List Value} {B newId : String} {qual : Str} {fd : FuncData} {args : Args}
theorem init_what (SF : StoreFacts B bmB "object.__setattr__" "object") (T : XB K bmB newId C [("what" : Str)]) (D : Ini1 K fI qual "what" fd) {x t0 : Addr} {v : Value} (X : K.In s.heap) (hlim : s.heap.NoLimit)
    (hx : s.heap.get? x = some (excO C t0)) (hroom : A.depth < recursionLimit) (hb : BindsTo s fd args [("self", .ref x), ("what", v)])
    (hq : ∀ h' tk dx, InitLeft s.heap h' x C dx t0 [("what", v)] → R (.ok (.ret .none)) { s with heap := h', toks := tk }) :
    codeAny (model prog w) A (.call (.ref fI) args) R s := by
  obtain ⟨oc, od, doc, pm, an, cdv, ct, osl, p1, p2, q1, q2, q3, q4, rfl, ho, hcd⟩ := D.ex
  refine Att.call_fn (binds := [("self", .ref x), ("what", v)]) X hlim ho hcd hroom hb (by first | rfl | decide | with_unfolding_all rfl) (fun s1 IC => ?_) rfl rfl rfl
  obtain ⟨h1, tk1, rfl⟩ := IC.toInCall.same
  have up : ∀ b o, s.heap.get? b = some o → h1.get? b = some o := IC.toInCall.keep
  have hn := IC.toInCall.ns
  have X1 : K.In h1 := X.keeps up
  have hx1 := up _ _ hx
  show wpAny _ _ (execs _ _) _ _ _
  refine wpAny_execs_cons (plainObj_wpAny_Assign_Attribute ?_)
  refine localAt (v := v) hn (by first | rfl | with_unfolding_all rfl | kernel_rfl) (localAt (v := .ref x) hn (by first | rfl | with_unfolding_all rfl | kernel_rfl) ?_)
  refine set_plain X1 (ox := excO C t0) (od := none) ⟨hx1, rfl, rfl, trivial⟩ T.sa ?_
  refine storeFirst SF X1 hx1 T.over T.hd (taker_of (T.no _ (List.mem_cons_self ..))) (fun h3 tk3 dx k3 dn dne hx3 hn3 => ?_)
  show wpAny _ _ (execs _ _) _ _ _
  have z : s.heap.objs.size < h1.objs.size := hn.lt
  refine wpAny_execs_nil (hq h3 tk3 dx ⟨fun b o hb e => k3 b o hb (up b o e), hx3, Nat.le_of_lt (Nat.lt_of_lt_of_le z dn), dne, ?_⟩)
  rw [← look1]
  exact hn3
theorem init_why (SF : StoreFacts B bmB "object.__setattr__" "object") (T : XB K bmB newId C [("why" : Str)]) (D : Ini1 K fI qual "why" fd) {x t0 : Addr} {v : Value} (X : K.In s.heap) (hlim : s.heap.NoLimit)
    (hx : s.heap.get? x = some (excO C t0)) (hroom : A.depth < recursionLimit) (hb : BindsTo s fd args [("self", .ref x), ("why", v)])
    (hq : ∀ h' tk dx, InitLeft s.heap h' x C dx t0 [("why", v)] → R (.ok (.ret .none)) { s with heap := h', toks := tk }) :
    codeAny (model prog w) A (.call (.ref fI) args) R s := by
  obtain ⟨oc, od, doc, pm, an, cdv, ct, osl, p1, p2, q1, q2, q3, q4, rfl, ho, hcd⟩ := D.ex
  refine Att.call_fn (binds := [("self", .ref x), ("why", v)]) X hlim ho hcd hroom hb (by first | rfl | decide | with_unfolding_all rfl) (fun s1 IC => ?_) rfl rfl rfl
  obtain ⟨h1, tk1, rfl⟩ := IC.toInCall.same
  have up : ∀ b o, s.heap.get? b = some o → h1.get? b = some o := IC.toInCall.keep
  have hn := IC.toInCall.ns
  have X1 : K.In h1 := X.keeps up
  have hx1 := up _ _ hx
  show wpAny _ _ (execs _ _) _ _ _
  refine wpAny_execs_cons (plainObj_wpAny_Assign_Attribute ?_)
  refine localAt (v := v) hn (by first | rfl | with_unfolding_all rfl | kernel_rfl) (localAt (v := .ref x) hn (by first | rfl | with_unfolding_all rfl | kernel_rfl) ?_)
  refine set_plain X1 (ox := excO C t0) (od := none) ⟨hx1, rfl, rfl, trivial⟩ T.sa ?_
  refine storeFirst SF X1 hx1 T.over T.hd (taker_of (T.no _ (List.mem_cons_self ..))) (fun h3 tk3 dx k3 dn dne hx3 hn3 => ?_)
  show wpAny _ _ (execs _ _) _ _ _
  have z : s.heap.objs.size < h1.objs.size := hn.lt
  refine wpAny_execs_nil (hq h3 tk3 dx ⟨fun b o hb e => k3 b o hb (up b o e), hx3, Nat.le_of_lt (Nat.lt_of_lt_of_le z dn), dne, ?_⟩)
  rw [← look1]
  exact hn3
theorem init_line (SF : StoreFacts B bmB "object.__setattr__" "object") (T : XB K bmB newId C [("line" : Str)]) (D : Ini1 K fI qual "line" fd) {x t0 : Addr} {v : Value} (X : K.In s.heap) (hlim : s.heap.NoLimit)
    (hx : s.heap.get? x = some (excO C t0)) (hroom : A.depth < recursionLimit) (hb : BindsTo s fd args [("self", .ref x), ("line", v)])
    (hq : ∀ h' tk dx, InitLeft s.heap h' x C dx t0 [("line", v)] → R (.ok (.ret .none)) { s with heap := h', toks := tk }) :
    codeAny (model prog w) A (.call (.ref fI) args) R s := by
  obtain ⟨oc, od, doc, pm, an, cdv, ct, osl, p1, p2, q1, q2, q3, q4, rfl, ho, hcd⟩ := D.ex
  refine Att.call_fn (binds := [("self", .ref x), ("line", v)]) X hlim ho hcd hroom hb (by first | rfl | decide | with_unfolding_all rfl) (fun s1 IC => ?_) rfl rfl rfl
  obtain ⟨h1, tk1, rfl⟩ := IC.toInCall.same
  have up : ∀ b o, s.heap.get? b = some o → h1.get? b = some o := IC.toInCall.keep
  have hn := IC.toInCall.ns
  have X1 : K.In h1 := X.keeps up
  have hx1 := up _ _ hx
  show wpAny _ _ (execs _ _) _ _ _
  refine wpAny_execs_cons (plainObj_wpAny_Assign_Attribute ?_)
  refine localAt (v := v) hn (by first | rfl | with_unfolding_all rfl | kernel_rfl) (localAt (v := .ref x) hn (by first | rfl | with_unfolding_all rfl | kernel_rfl) ?_)
  refine set_plain X1 (ox := excO C t0) (od := none) ⟨hx1, rfl, rfl, trivial⟩ T.sa ?_
  refine storeFirst SF X1 hx1 T.over T.hd (taker_of (T.no _ (List.mem_cons_self ..))) (fun h3 tk3 dx k3 dn dne hx3 hn3 => ?_)
  show wpAny _ _ (execs _ _) _ _ _
  have z : s.heap.objs.size < h1.objs.size := hn.lt
  refine wpAny_execs_nil (hq h3 tk3 dx ⟨fun b o hb e => k3 b o hb (up b o e), hx3, Nat.le_of_lt (Nat.lt_of_lt_of_le z dn), dne, ?_⟩)
  rw [← look1]
  exact hn3
theorem init_step (SF : StoreFacts B bmB "object.__setattr__" "object") (T : XB K bmB newId C [("step" : Str)]) (D : Ini1 K fI qual "step" fd) {x t0 : Addr} {v : Value} (X : K.In s.heap) (hlim : s.heap.NoLimit)
    (hx : s.heap.get? x = some (excO C t0)) (hroom : A.depth < recursionLimit) (hb : BindsTo s fd args [("self", .ref x), ("step", v)])
    (hq : ∀ h' tk dx, InitLeft s.heap h' x C dx t0 [("step", v)] → R (.ok (.ret .none)) { s with heap := h', toks := tk }) :
    codeAny (model prog w) A (.call (.ref fI) args) R s := by
  obtain ⟨oc, od, doc, pm, an, cdv, ct, osl, p1, p2, q1, q2, q3, q4, rfl, ho, hcd⟩ := D.ex
  refine Att.call_fn (binds := [("self", .ref x), ("step", v)]) X hlim ho hcd hroom hb (by first | rfl | decide | with_unfolding_all rfl) (fun s1 IC => ?_) rfl rfl rfl
  obtain ⟨h1, tk1, rfl⟩ := IC.toInCall.same
  have up : ∀ b o, s.heap.get? b = some o → h1.get? b = some o := IC.toInCall.keep
  have hn := IC.toInCall.ns
  have X1 : K.In h1 := X.keeps up
  have hx1 := up _ _ hx
  show wpAny _ _ (execs _ _) _ _ _
  refine wpAny_execs_cons (plainObj_wpAny_Assign_Attribute ?_)
  refine localAt (v := v) hn (by first | rfl | with_unfolding_all rfl | kernel_rfl) (localAt (v := .ref x) hn (by first | rfl | with_unfolding_all rfl | kernel_rfl) ?_)
  refine set_plain X1 (ox := excO C t0) (od := none) ⟨hx1, rfl, rfl, trivial⟩ T.sa ?_
  refine storeFirst SF X1 hx1 T.over T.hd (taker_of (T.no _ (List.mem_cons_self ..))) (fun h3 tk3 dx k3 dn dne hx3 hn3 => ?_)
  show wpAny _ _ (execs _ _) _ _ _
  have z : s.heap.objs.size < h1.objs.size := hn.lt
  refine wpAny_execs_nil (hq h3 tk3 dx ⟨fun b o hb e => k3 b o hb (up b o e), hx3, Nat.le_of_lt (Nat.lt_of_lt_of_le z dn), dne, ?_⟩)
  rw [← look1]
  exact hn3
theorem init_most (SF : StoreFacts B bmB "object.__setattr__" "object") (T : XB K bmB newId C [("most" : Str)]) (D : Ini1 K fI qual "most" fd) {x t0 : Addr} {v : Value} (X : K.In s.heap) (hlim : s.heap.NoLimit)
    (hx : s.heap.get? x = some (excO C t0)) (hroom : A.depth < recursionLimit) (hb : BindsTo s fd args [("self", .ref x), ("most", v)])
    (hq : ∀ h' tk dx, InitLeft s.heap h' x C dx t0 [("most", v)] → R (.ok (.ret .none)) { s with heap := h', toks := tk }) :
    codeAny (model prog w) A (.call (.ref fI) args) R s := by
  obtain ⟨oc, od, doc, pm, an, cdv, ct, osl, p1, p2, q1, q2, q3, q4, rfl, ho, hcd⟩ := D.ex
  refine Att.call_fn (binds := [("self", .ref x), ("most", v)]) X hlim ho hcd hroom hb (by first | rfl | decide | with_unfolding_all rfl) (fun s1 IC => ?_) rfl rfl rfl
  obtain ⟨h1, tk1, rfl⟩ := IC.toInCall.same
  have up : ∀ b o, s.heap.get? b = some o → h1.get? b = some o := IC.toInCall.keep
  have hn := IC.toInCall.ns
  have X1 : K.In h1 := X.keeps up
  have hx1 := up _ _ hx
  show wpAny _ _ (execs _ _) _ _ _
  refine wpAny_execs_cons (plainObj_wpAny_Assign_Attribute ?_)
  refine localAt (v := v) hn (by first | rfl | with_unfolding_all rfl | kernel_rfl) (localAt (v := .ref x) hn (by first | rfl | with_unfolding_all rfl | kernel_rfl) ?_)
  refine set_plain X1 (ox := excO C t0) (od := none) ⟨hx1, rfl, rfl, trivial⟩ T.sa ?_
  refine storeFirst SF X1 hx1 T.over T.hd (taker_of (T.no _ (List.mem_cons_self ..))) (fun h3 tk3 dx k3 dn dne hx3 hn3 => ?_)
  show wpAny _ _ (execs _ _) _ _ _
  have z : s.heap.objs.size < h1.objs.size := hn.lt
  refine wpAny_execs_nil (hq h3 tk3 dx ⟨fun b o hb e => k3 b o hb (up b o e), hx3, Nat.le_of_lt (Nat.lt_of_lt_of_le z dn), dne, ?_⟩)
  rw [← look1]
  exact hn3
theorem init_name (SF : StoreFacts B bmB "object.__setattr__" "object") (T : XB K bmB newId C [("name" : Str)]) (D : Ini1 K fI qual "name" fd) {x t0 : Addr} {v : Value} (X : K.In s.heap) (hlim : s.heap.NoLimit)
    (hx : s.heap.get? x = some (excO C t0)) (hroom : A.depth < recursionLimit) (hb : BindsTo s fd args [("self", .ref x), ("name", v)])
    (hq : ∀ h' tk dx, InitLeft s.heap h' x C dx t0 [("name", v)] → R (.ok (.ret .none)) { s with heap := h', toks := tk }) :
    codeAny (model prog w) A (.call (.ref fI) args) R s := by
  obtain ⟨oc, od, doc, pm, an, cdv, ct, osl, p1, p2, q1, q2, q3, q4, rfl, ho, hcd⟩ := D.ex
  refine Att.call_fn (binds := [("self", .ref x), ("name", v)]) X hlim ho hcd hroom hb (by first | rfl | decide | with_unfolding_all rfl) (fun s1 IC => ?_) rfl rfl rfl
  obtain ⟨h1, tk1, rfl⟩ := IC.toInCall.same
  have up : ∀ b o, s.heap.get? b = some o → h1.get? b = some o := IC.toInCall.keep
  have hn := IC.toInCall.ns
  have X1 : K.In h1 := X.keeps up
  have hx1 := up _ _ hx
  show wpAny _ _ (execs _ _) _ _ _
  refine wpAny_execs_cons (plainObj_wpAny_Assign_Attribute ?_)
  refine localAt (v := v) hn (by first | rfl | with_unfolding_all rfl | kernel_rfl) (localAt (v := .ref x) hn (by first | rfl | with_unfolding_all rfl | kernel_rfl) ?_)
  refine set_plain X1 (ox := excO C t0) (od := none) ⟨hx1, rfl, rfl, trivial⟩ T.sa ?_
  refine storeFirst SF X1 hx1 T.over T.hd (taker_of (T.no _ (List.mem_cons_self ..))) (fun h3 tk3 dx k3 dn dne hx3 hn3 => ?_)
  show wpAny _ _ (execs _ _) _ _ _
  have z : s.heap.objs.size < h1.objs.size := hn.lt
  refine wpAny_execs_nil (hq h3 tk3 dx ⟨fun b o hb e => k3 b o hb (up b o e), hx3, Nat.le_of_lt (Nat.lt_of_lt_of_le z dn), dne, ?_⟩)
  rw [← look1]
  exact hn3
theorem init_users (SF : StoreFacts B bmB "object.__setattr__" "object") (T : XB K bmB newId C [("users" : Str)]) (D : Ini1 K fI qual "users" fd) {x t0 : Addr} {v : Value} (X : K.In s.heap) (hlim : s.heap.NoLimit)
    (hx : s.heap.get? x = some (excO C t0)) (hroom : A.depth < recursionLimit) (hb : BindsTo s fd args [("self", .ref x), ("users", v)])
    (hq : ∀ h' tk dx, InitLeft s.heap h' x C dx t0 [("users", v)] → R (.ok (.ret .none)) { s with heap := h', toks := tk }) :
    codeAny (model prog w) A (.call (.ref fI) args) R s := by
  obtain ⟨oc, od, doc, pm, an, cdv, ct, osl, p1, p2, q1, q2, q3, q4, rfl, ho, hcd⟩ := D.ex
  refine Att.call_fn (binds := [("self", .ref x), ("users", v)]) X hlim ho hcd hroom hb (by first | rfl | decide | with_unfolding_all rfl) (fun s1 IC => ?_) rfl rfl rfl
  obtain ⟨h1, tk1, rfl⟩ := IC.toInCall.same
  have up : ∀ b o, s.heap.get? b = some o → h1.get? b = some o := IC.toInCall.keep
  have hn := IC.toInCall.ns
  have X1 : K.In h1 := X.keeps up
  have hx1 := up _ _ hx
  show wpAny _ _ (execs _ _) _ _ _
  refine wpAny_execs_cons (plainObj_wpAny_Assign_Attribute ?_)
  refine localAt (v := v) hn (by first | rfl | with_unfolding_all rfl | kernel_rfl) (localAt (v := .ref x) hn (by first | rfl | with_unfolding_all rfl | kernel_rfl) ?_)
  refine set_plain X1 (ox := excO C t0) (od := none) ⟨hx1, rfl, rfl, trivial⟩ T.sa ?_
  refine storeFirst SF X1 hx1 T.over T.hd (taker_of (T.no _ (List.mem_cons_self ..))) (fun h3 tk3 dx k3 dn dne hx3 hn3 => ?_)
  show wpAny _ _ (execs _ _) _ _ _
  have z : s.heap.objs.size < h1.objs.size := hn.lt
  refine wpAny_execs_nil (hq h3 tk3 dx ⟨fun b o hb e => k3 b o hb (up b o e), hx3, Nat.le_of_lt (Nat.lt_of_lt_of_le z dn), dne, ?_⟩)
  rw [← look1]
  exact hn3
theorem init_circle (SF : StoreFacts B bmB "object.__setattr__" "object") (T : XB K bmB newId C [("circle" : Str)]) (D : Ini1 K fI qual "circle" fd) {x t0 : Addr} {v : Value} (X : K.In s.heap) (hlim : s.heap.NoLimit)
    (hx : s.heap.get? x = some (excO C t0)) (hroom : A.depth < recursionLimit) (hb : BindsTo s fd args [("self", .ref x), ("circle", v)])
    (hq : ∀ h' tk dx, InitLeft s.heap h' x C dx t0 [("circle", v)] → R (.ok (.ret .none)) { s with heap := h', toks := tk }) :
    codeAny (model prog w) A (.call (.ref fI) args) R s := by
  obtain ⟨oc, od, doc, pm, an, cdv, ct, osl, p1, p2, q1, q2, q3, q4, rfl, ho, hcd⟩ := D.ex
  refine Att.call_fn (binds := [("self", .ref x), ("circle", v)]) X hlim ho hcd hroom hb (by first | rfl | decide | with_unfolding_all rfl) (fun s1 IC => ?_) rfl rfl rfl
  obtain ⟨h1, tk1, rfl⟩ := IC.toInCall.same
  have up : ∀ b o, s.heap.get? b = some o → h1.get? b = some o := IC.toInCall.keep
  have hn := IC.toInCall.ns
  have X1 : K.In h1 := X.keeps up
  have hx1 := up _ _ hx
  show wpAny _ _ (execs _ _) _ _ _
  refine wpAny_execs_cons (plainObj_wpAny_Assign_Attribute ?_)
  refine localAt (v := v) hn (by first | rfl | with_unfolding_all rfl | kernel_rfl) (localAt (v := .ref x) hn (by first | rfl | with_unfolding_all rfl | kernel_rfl) ?_)
  refine set_plain X1 (ox := excO C t0) (od := none) ⟨hx1, rfl, rfl, trivial⟩ T.sa ?_
  refine storeFirst SF X1 hx1 T.over T.hd (taker_of (T.no _ (List.mem_cons_self ..))) (fun h3 tk3 dx k3 dn dne hx3 hn3 => ?_)
  show wpAny _ _ (execs _ _) _ _ _
  have z : s.heap.objs.size < h1.objs.size := hn.lt
  refine wpAny_execs_nil (hq h3 tk3 dx ⟨fun b o hb e => k3 b o hb (up b o e), hx3, Nat.le_of_lt (Nat.lt_of_lt_of_le z dn), dne, ?_⟩)
  rw [← look1]
  exact hn3
end
end VX
end PySem
end
section
set_option Elab.async false
set_option linter.all false
set_option maxRecDepth 100000
set_option maxHeartbeats 4000000
/-! X4: two fields; a made exception; raised, or held as a value -/
namespace PySem
namespace VX
open PySem.W PySem.Calls PyProof.Rows PySem.HandSPX
def gS : Scope := { kind := .function, names := [(PySem.Str.ofString "self", .local), (PySem.Str.ofString "rule", .local), (PySem.Str.ofString "things", .local)], isGenerator := false, isCoroutine := false, more := [] }
def gA (p1 p2 p3 : Pos) : Arguments := { posonlyargs := [], args := [{ arg := "self", annotation := none, pos := p1 }, { arg := "rule", annotation := none, pos := p2 }, { arg := "things", annotation := none, pos := p3 }], vararg := none, kwonlyargs := [], kw_defaults := [], kwarg := none, defaults := [] }
def gB (q1 q2 q3 q4 r1 r2 r3 r4 : Pos) : List Stmt := [.Assign [.Attribute (.Name "self" q1) "rule" q2] (.Name "rule" q3) q4, .Assign [.Attribute (.Name "self" r1) "things" r2] (.Name "things" r3) r4]
structure Ini2 (K : Frag) (fI : Addr) (qual : Str) (fd : FuncData) : Prop where
  ex : ∃ (oc : Value) (od : Option Addr) (doc pm : Value) (an : Option Addr) (cdv ct : Value) (osl : Array (Option Value)) (p1 p2 p3 q1 q2 q3 q4 r1 r2 r3 r4 : Pos),
    fd = fnOf "__init__" qual (gA p1 p2 p3) (gB q1 q2 q3 q4 r1 r2 r3 r4) gS .none .none doc pm an cdv ct ∧ K.lookup fI = some ⟨oc, od, .func fd, osl⟩ ∧ codeIn K cdv qual = true
section
variable {prog : Program} {w : World} {A : Around} {E : Value → Shared → Prop} {R : Result → Shared → Prop} {s : Shared} {K : Frag} {C fI : Addr} {bmB : List Value} {B newId initId : String} {fn : List Str} {qual : Str} {fd : FuncData} {args : Args}
theorem keptBut {h h' : Heap} {x : Addr} (X : K.In h) (hx : K.lookup x = none) (k : ∀ b o, b ≠ x → h.get? b = some o → h'.get? b = some o) : K.In h' := fun a o e => by
  refine k a o (fun z => ?_) (X a o e)
  rw [z, hx] at e
  cases e
theorem init_two (SF : StoreFacts B bmB "object.__setattr__" "object") (T : XB K bmB newId C [("rule" : Str), ("things" : Str)]) (D : Ini2 K fI qual fd) {x t0 : Addr} {v u : Value} (X : K.In s.heap) (hlim : s.heap.NoLimit)
    (hx : s.heap.get? x = some (excO C t0)) (hnx : K.lookup x = none) (hroom : A.depth < recursionLimit) (hb : BindsTo s fd args [("self", .ref x), ("rule", v), ("things", u)])
    (hq : ∀ h' tk dx, InitLeft s.heap h' x C dx t0 [("things", u), ("rule", v)] → R (.ok (.ret .none)) { s with heap := h', toks := tk }) :
    codeAny (model prog w) A (.call (.ref fI) args) R s := by
  obtain ⟨oc, od, doc, pm, an, cdv, ct, osl, p1, p2, p3, q1, q2, q3, q4, r1, r2, r3, r4, rfl, ho, hcd⟩ := D.ex
  refine Att.call_fn (binds := [("self", .ref x), ("rule", v), ("things", u)]) X hlim ho hcd hroom hb (by first | rfl | decide | with_unfolding_all rfl) (fun s1 IC => ?_) rfl rfl rfl
  obtain ⟨h1, tk1, rfl⟩ := IC.toInCall.same
  have up : ∀ b o, s.heap.get? b = some o → h1.get? b = some o := IC.toInCall.keep
  have hn := IC.toInCall.ns
  have nL : s.heap.objs.size ≠ x := Nat.ne_of_gt (Heap.lt_size hx)
  have X1 : K.In h1 := X.keeps up
  have hx1 := up _ _ hx
  show wpAny _ _ (execs _ _) _ _ _
  refine wpAny_execs_cons (plainObj_wpAny_Assign_Attribute ?_)
  refine localAt (v := v) hn (by first | rfl | with_unfolding_all rfl | kernel_rfl) (localAt (v := .ref x) hn (by first | rfl | with_unfolding_all rfl | kernel_rfl) ?_)
  refine set_plain X1 (ox := excO C t0) (od := none) ⟨hx1, rfl, rfl, trivial⟩ T.sa ?_
  refine storeFirst SF X1 hx1 T.over T.hd (taker_of (T.no _ (List.mem_cons_self ..))) (fun h3 tk3 dx k3 dn dne hx3 hn3 => ?_)
  have hnL : h3.Ns s.heap.objs.size _ := hn.at' fun o e => k3 _ o nL e
  have X3 : K.In h3 := keptBut X1 hnx k3
  have hw3 : Within (fun y => if y = ("rule" : Str) then some v else none) ["rule"] := Within.cons "rule" v Within.nil
  obtain ⟨oD, _, _, hoD, _, _⟩ := hn3.count hw3
  have z : s.heap.objs.size < h1.objs.size := hn.lt
  show wpAny _ _ (execs _ _) _ _ _
  refine wpAny_execs_cons (plainObj_wpAny_Assign_Attribute ?_)
  refine localAt (v := u) hnL (by first | rfl | with_unfolding_all rfl | kernel_rfl) (localAt (v := .ref x) hnL (by first | rfl | with_unfolding_all rfl | kernel_rfl) ?_)
  refine set_plain X3 (ox := { cls := .ref C, dict := some dx, data := .fields #[.ref t0, .none, .none, .none, .bool false, .none] }) (od := some oD) ⟨hx3, rfl, rfl, hoD⟩ T.sa ?_
  refine storeNext SF X3 hx3 hn3 hw3 (by decide) T.over T.hd (taker_of (T.no _ (List.mem_cons_of_mem _ (List.mem_cons_self ..)))) (fun h4 tk4 k4 hn4 => ?_)
  show wpAny _ _ (execs _ _) _ _ _
  have big : s.heap.objs.size ≤ dx := Nat.le_of_lt (Nat.lt_of_lt_of_le z dn)
  refine wpAny_execs_nil (hq h4 tk4 dx ⟨fun b o hb e => ?_, k4 _ _ (Ne.symm dne) hx3, big, dne, ?_⟩)
  · exact k4 b o (Nat.ne_of_lt (Nat.lt_of_lt_of_le (Heap.lt_size (up b o e)) dn)) (k3 b o hb (up b o e))
  · rw [← look2]
    exact hn4
/-- what the __init__ at fI makes of an exception at x: its fields -/
def InitDoes (prog : Program) (w : World) (K : Frag) (C fI : Addr) (rest : List Value) (kw : List (Str × Value)) (kvs : List (Str × Value)) : Prop :=
  ∀ (A : Around) (R : Result → Shared → Prop) (s : Shared) (x t0 : Addr), K.In s.heap → s.heap.NoLimit → s.heap.get? x = some (excO C t0) → K.lookup x = none → A.depth < recursionLimit →
    (∀ h' tk dx, InitLeft s.heap h' x C dx t0 kvs → R (.ok (.ret .none)) { s with heap := h', toks := tk }) → codeAny (model prog w) A (.call (.ref fI) ⟨.ref x :: rest, kw⟩) R s
/-- a made one -/
structure Made (h h' : Heap) (e C d : Addr) (kvs : List (Str × Value)) : Prop where
  keep : ∀ b o, h.get? b = some o → h'.get? b = some o
  new : h.objs.size ≤ e
  obj : ∃ t, h'.get? e = some { cls := .ref C, dict := some d, data := .fields #[.ref t, .none, .none, .none, .bool false, .none] }
  dbig : h.objs.size ≤ d
  dne : d ≠ e
  ns : h'.Ns1 d (fun y => kvs.lookup y)
theorem made (FB : ExcBaseFacts B newId initId bmB) (T : XB K bmB newId C fn) (iC : findIn K (.ref C) "__init__" = some (some (.ref fI))) (tI : typeIn K (.ref fI) = some (.type "function"))
    {rest : List Value} {kw kvs : List (Str × Value)} (D : InitDoes prog w K C fI rest kw kvs) (hrest : rest.length ≤ sizeLine) (X : K.In s.heap) (hlim : s.heap.NoLimit) (hroom : A.depth + 1 < recursionLimit)
    (hq : ∀ h' tk e d, Made s.heap h' e C d kvs → R (.ok (.ret (.ref e))) { s with heap := h', toks := tk }) : codeAny (model prog w) A (.call (.ref C) ⟨rest, kw⟩) R s := by
  have up : ∀ b o, s.heap.get? b = some o → ((s.heap.push (kdv_tup rest)).push (excO C s.heap.objs.size)).get? b = some o := fun b o e => Heap.get?_push_of_some _ (Heap.get?_push_of_some _ e)
  have here : ((s.heap.push (kdv_tup rest)).push (excO C s.heap.objs.size)).get? (s.heap.objs.size + 1) = some (excO C s.heap.objs.size) := by heap_get
  have nK : K.lookup (s.heap.objs.size + 1) = none := by
    cases e : K.lookup (s.heap.objs.size + 1) with
    | none => rfl
    | some o => exact absurd (Nat.lt_of_succ_lt (Heap.lt_size (X _ _ e))) (Nat.lt_irrefl _)
  refine callK FB X T.ini iC tI hrest ?_
  refine D _ _ _ _ s.heap.objs.size (X.keeps up) (hlim.keeps up) here nK hroom fun h' tk dx L => ⟨rfl, ?_⟩
  have old : ∀ b o, s.heap.get? b = some o → h'.get? b = some o := fun b o e => L.keep b o (Nat.ne_of_lt (Nat.lt_succ_of_lt (Heap.lt_size e))) (up b o e)
  have big : s.heap.objs.size + 1 + 1 ≤ dx := by
    have q := L.dbig
    first
      | (simpa only [Heap.size_push] using q)
      | exact q
      | (rw [Heap.size_push, Heap.size_push] at q; exact q)
  exact hq h' tk (s.heap.objs.size + 1) dx ⟨old, Nat.le_succ _, ⟨_, L.obj⟩, Nat.le_trans (Nat.le_trans (Nat.le_succ _) (Nat.le_succ _)) big, L.dne, L.ns⟩
end
end VX
end PySem
namespace L2
open PySem PySem.Spec PyProof.Rows PySem.VX
/-- an exception of the class at C, its fields in the dict at d -/
def exV (e C d : Addr) : HO := .ext fun h => ∃ (oe : Obj) (vs : Array Value), h.get? e = some oe ∧ oe.cls = .ref C ∧ oe.dict = some d ∧ oe.data = .fields vs
theorem exV_ok {P : Program} {w : World} {H : Hp} {h : Heap} {e C d : Addr} {oe : Obj} {vs : Array Value} (he : h.get? e = some oe) (hc : oe.cls = .ref C) (hd : oe.dict = some d) (hv : oe.data = .fields vs) : ObjOk P w H h e (exV e C d) :=
  ⟨⟨oe, vs, he, hc, hd, hv⟩, ⟨oe, he⟩, fun h1 h2 ⟨o, v, a, b⟩ k => ⟨o, v, k _ a, b⟩⟩
theorem exV_at {P : Program} {w : World} {H : Hp} {h : Heap} {e C d : Addr} (hok : HOk P w H h) (he : H e = some (exV e C d)) : ∃ (oe : Obj) (vs : Array Value), h.get? e = some oe ∧ oe.cls = .ref C ∧ oe.dict = some d ∧ oe.data = .fields vs := by
  have x : ObjOk P w H h e (.ext fun h => ∃ (oe : Obj) (vs : Array Value), h.get? e = some oe ∧ oe.cls = .ref C ∧ oe.dict = some d ∧ oe.data = .fields vs) := hok e _ he
  exact x.1
theorem relO_pairs : ∀ {fs : List (Str × V)} {kvs : List (Str × Value)}, KV fs kvs → ∀ f, RelO (fs.lookup f) (kvs.lookup f)
  | _, _, .nil, _ => True.intro
  | (a, x) :: fs, (b, u) :: kvs, .cons h t, f => by
    obtain ⟨e, r⟩ := h
    have e' : a = b := e
    subst e'
    cases q : (f == a) with
    | true => simp only [List.lookup, q]; exact r
    | false => simp only [List.lookup, q]; exact relO_pairs t f
/-- an own exception class of the text: fn its fields in order -/
structure OwnX (prog : Program) (w : World) (K : PySem.W.Frag) (mg : Str → Option Value) (nm : Str) (C : Addr) (fn : List Str) : Prop where
  g : mg nm = some (.ref C)
  some : ∃ (bmB : List Value) (B newId initId : String) (fI : Addr), ExcBaseFacts B newId initId bmB ∧ XB K bmB newId C fn ∧ PySem.W.findIn K (.ref C) "__init__" = some (some (.ref fI)) ∧ PySem.W.typeIn K (.ref fI) = some (.type "function") ∧
    (∀ us : List Value, us.length = fn.length → InitDoes prog w K C fI us [] (fn.zip us).reverse) ∧ (∀ ws : List Value, ws.length = fn.length → InitDoes prog w K C fI [] (fn.reverse.zip ws) (fn.zip ws.reverse).reverse)
  few : fn.length ≤ 3
theorem kv_zip : ∀ (fn : List Str) {vs : List V} {us : List Value}, Vals vs us → KV (fn.zip vs) (fn.zip us)
  | [], _, _, _ => .nil
  | _ :: _, _, _, .nil => .nil
  | f :: fn, _, _, .cons r t => .cons ⟨rfl, r⟩ (kv_zip fn t)
theorem paired_app {α β : Type} {F : α → β → Prop} : ∀ {a : List α} {b : List β} {c : List α} {d : List β}, Paired F a b → Paired F c d → Paired F (a ++ c) (b ++ d)
  | _, _, _, _, .nil, q => q
  | _, _, _, _, .cons h t, q => .cons h (paired_app t q)
theorem paired_rev {α β : Type} {F : α → β → Prop} : ∀ {a : List α} {b : List β}, Paired F a b → Paired F a.reverse b.reverse
  | _, _, .nil => .nil
  | _, _, .cons h t => by
    rw [List.reverse_cons, List.reverse_cons]
    exact paired_app (paired_rev t) (.cons h .nil)
section
variable {X : Cx} {C : Addr} {nm : Str} {fn : List Str} {ta tk : TA} {p pos : Pos} {k : Nat} {e : Expr} {es : List Expr} {kws : List Keyword}
/-- what was made, as the layer sees it: all old stands, the dict is new and told -/
theorem made_inv {pins : List (Addr × Obj)} {σ : St} {H : Hp} {hp h' : Heap} {g : Array GenState} {dr : Drawn} {tk tk' : Nat} {os : OsState} {a d : Addr} {fs : List (Str × V)} {kvs : List (Str × Value)} (I : Inv X pins σ H ⟨hp, g, dr, tk, os⟩) (M : Made hp h' a C d kvs) (r : KV fs kvs) :
    ∃ G : Heap, Inv X pins σ (upd H d (.xd fs)) ⟨G, g, dr, tk', os⟩ ∧ (∀ b o, G.get? b = some o → h'.get? b = some o) ∧ G.get? a = none ∧ (upd H d (.xd fs)) a = none ∧ H d = none := by
  obtain ⟨G, g1, g2⟩ := restrict h' fun b => decide (b ≠ a)
  have gk : ∀ b, b ≠ a → G.get? b = h'.get? b := fun b hb => g1 b (decide_eq_true hb)
  have ge : G.get? a = none := g2 a (by simp)
  have old : ∀ b o, hp.get? b = some o → G.get? b = some o := fun b o q => (gk b (Nat.ne_of_lt (Nat.lt_of_lt_of_le (Heap.lt_size q) M.new))).trans (M.keep b o q)
  have ob : ObjOk X.prog X.w (upd H d (.xd fs)) G d (.xd fs) := ⟨_, M.ns.at fun o q => (gk d M.dne).trans q, relO_pairs r⟩
  refine ⟨G, I.laid (t' := tk') old M.dbig ob, fun b o q => ?_, ge, ?_, I.hok.fresh M.dbig⟩
  · by_cases hb : b = a
    · rw [hb, ge] at q
      cases q
    · exact (gk b hb).symm.trans q
  · rw [upd_ne (Ne.symm M.dne)]
    exact I.hok.fresh M.new
/-- raise C(e, ..): what is made -/
def tMkX (C : Addr) (fn : List Str) (ta : TA) : St → Hp → XK → Prop := fun σ H Q => ta σ H fun vs H1 => vs.length = fn.length ∧ ∀ d, H1 d = none → Q (.ref C) (some d) (upd H1 d (.xd (fn.zip vs).reverse))
theorem pmk_own1 (O : OwnX X.prog X.w X.K X.mg nm C fn) (hr : Room k X.A) (ha : PA X (e :: es) ta) (hg : Gl X nm) (hdb : (nm == ("__debug__" : Str)) = false := by decide)
    (he : starEach (e :: es) X.env = (false, eval e X.env) :: starEach es X.env := by rfl) (hpl : (backTo pos (starEach es X.env)).any (·.1) = false := by rfl) :
    PMk X (.Call (.Name nm p) (e :: es) [] pos) (tMkX C fn ta) := by
  intro pins s σ H Q I h
  obtain ⟨bmB, B, newId, initId, fI, FB, T, iC, tI, D, _⟩ := O.some
  refine wpAny_Call_Name_kw (ld_glob I hg O.g ?_ hdb)
  refine PySem.W.callWith_K (h₀ := X.base) I.ok.mod.kin T.keep (thn (ha.run pos pins s σ H _ I h) fun us s1 hh => ?_) he hpl
  obtain ⟨vs, H1, I1, r1, hz, q1⟩ := hh
  refine ⟨I1.kIn, ?_⟩
  have hlim := I1.nolimit
  have hl : us.length = fn.length := r1.length.symm.trans hz
  obtain ⟨hp, g, dr, tk, os⟩ := s1
  show wpAny _ _ (call (.ref C) us) _ _ _
  refine wpAny_call (made FB T iC tI (D us hl) (by rw [hl, sizeLine_eq]; have := O.few; omega) I1.kIn hlim (by have := hr.dp; omega) fun h' tk' a d M => ?_)
  obtain ⟨G, J, kG, ge, na, nd⟩ := made_inv (tk' := tk') I1 M (paired_rev (kv_zip fn r1))
  obtain ⟨t, ho⟩ := M.obj
  exact ⟨a, _, _, ⟨G, g, dr, tk', os⟩, _, .ref C, some d, rfl, J, kG, ge, ho, ⟨rfl, rfl⟩, rfl, rfl, na, rfl, I1.bare, raises_own T.exc T.ty, q1 d nd⟩
/-- C(k = v, ..) as a value; the keywords stand in the fields' order turned about -/
def tNewKw (C : Addr) (fn : List Str) (tk : TA) : TE := fun σ H Q => tk σ H fun zs H1 => zs.length = fn.length ∧ ∀ a d, H1 a = none → H1 d = none → d ≠ a → Q (.ref a) (upd (upd H1 d (.xd (fn.zip zs.reverse).reverse)) a (exV a C d))
theorem pe_newKw (O : OwnX X.prog X.w X.K X.mg nm C fn) (hr : Room k X.A) (hkw : PK X kws tk) (hg : Gl X nm) (hdb : (nm == ("__debug__" : Str)) = false := by decide)
    (hall : (backToKw pos (keywordEach kws X.env)).all (·.1.isSome) = true := by rfl) (hks : (backToKw pos (keywordEach kws X.env)).filterMap (·.1) = fn.reverse := by rfl)
    (hpl : ((backTo pos (starEach [] X.env)).any (·.1) || (backToKw pos (keywordEach kws X.env)).any (·.1.isNone)) = false := by rfl) :
    PE X (.Call (.Name nm p) [] kws pos) (tNewKw C fn tk) := by
  refine ⟨fun pins s σ H Q I h => ?_⟩
  obtain ⟨bmB, B, newId, initId, fI, FB, T, iC, tI, _, D⟩ := O.some
  refine wpAny_Call_Name_kw (ld_glob I hg O.g ?_ hdb)
  refine PySem.W.callWith_KW0 (h₀ := X.base) I.ok.mod.kin T.keep hall ?_ hpl
  refine thn (hkw.run pos pins s σ H _ I h) fun ws s1 ⟨zs, H1, I1, rz, hz, q1⟩ => ⟨I1.kIn, ?_⟩
  rw [hks]
  have hlim := I1.nolimit
  have hl : ws.length = fn.length := rz.length.symm.trans hz
  obtain ⟨hp, g, dr, tk', os⟩ := s1
  show wpAny _ _ (call (.ref C) [] (fn.reverse.zip ws)) _ _ _
  refine wpAny_call (made FB T iC tI (D ws hl) (Nat.zero_le _) I1.kIn hlim (by have := hr.dp; omega) fun h' tk2 a d M => ?_)
  obtain ⟨G, J, kG, ge, na, nd⟩ := made_inv (tk' := tk2) I1 M (paired_rev (kv_zip fn (paired_rev rz)))
  obtain ⟨t, ho⟩ := M.obj
  have J2 := J.laidN (h' := h') (t' := tk2) (o := exV a C d) kG ge na (exV_ok ho rfl rfl rfl)
  have na1 : H1 a = none := by rw [upd_ne (Ne.symm M.dne)] at na; exact na
  exact ⟨.ref a, _, J2, rfl, q1 a d na1 nd M.dne⟩
end
end L2
end
section
set_option Elab.async false
set_option linter.all false
set_option maxRecDepth 100000
set_option maxHeartbeats 4000000
/-! X5: try with several clauses «except C as n», behind which the caught exception is told -/
namespace L2
open PySem PySem.Spec PyProof.Rows PySem.VX
section
variable {X : Cx} {pins : List (Addr × Obj)} {σ : St} {H : Hp} {s : Shared}
/-- an object that nobody tells of, new since the def's entry, is told from now on -/
theorem Inv.track {a C d : Addr} {oe : Obj} {vs : Array Value} (I : Inv X pins σ H s) (ho : s.heap.get? a = some oe) (hc : oe.cls = .ref C) (hd : oe.dict = some d) (hv : oe.data = .fields vs) (na : H a = none)
    (n0 : X.s_0.heap.get? a = none) (nL : a ≠ X.env.locals) (np : ∀ p ∈ X.pn ++ pins, p.1 ≠ a) : Inv X pins σ (upd H a (exV a C d)) s := by
  have ne0 : ∀ b o, X.s_0.heap.get? b = some o → b ≠ a := fun b o e z => by
    rw [z, n0] at e
    cases e
  have neS : ∀ b u, H b = some u → b ≠ a := fun b u e => ne_of_none e na
  refine ⟨I.ok, I.os, I.bare, ⟨I.base.keep, I.base.slot, fun b o e n hx => ?_, I.base.there, fun b xs e => ?_, fun b o u e => ?_, fun b ps e => ?_⟩, I.loc, I.cell, ?_, fun x c e => ?_, fun p hp => ?_, fun b u e => ?_, I.len⟩
  · rw [upd_ne (ne0 b o e)]
    exact I.base.free b o e n hx
  · have q := I.base.tups b xs e
    rw [upd_ne (neS b _ q)]
    exact q
  · have q := I.base.frzs b o u e
    rw [upd_ne (neS b _ q)]
    exact q
  · obtain ⟨m, q⟩ := I.base.tbls b ps e
    exact ⟨m, by rw [upd_ne (neS b _ q)]; exact q⟩
  · rw [upd_ne (Ne.symm nL)]
    exact I.free
  · have nc : c ≠ a := fun z => by
      obtain ⟨v, o, e1, e2⟩ := I.cell x c e
      rw [z, ho] at e1
      cases e1
      rw [hv] at e2
      cases e2
    rw [upd_ne nc]
    exact I.freeC x c e
  · obtain ⟨e1, e2, r⟩ := I.pin p hp
    exact ⟨e1, by rw [upd_ne (np p hp)]; exact e2, r⟩
  · by_cases hb : b = a
    · subst hb
      rw [upd_same] at e
      cases e
      exact exV_ok ho hc hd hv
    · rw [upd_ne hb] at e
      refine (I.hok b u e).stay (fun _ _ _ q => q) (fun c q => ?_) fun c xs q => ?_
      · rw [upd_ne (neS c _ q)]
        exact q
      · rw [upd_ne (neS c _ q)]
        exact q
end
/-- the clauses' wishes, one behind the other; n's slot is i -/
def wManyV (K : PySem.W.Frag) (i : Nat) (Wout : WX) (D : Ends) : List (Value × (Addr → Value → Option Addr → TS)) → WX
  | [] => Wout
  | (c, ts) :: r => fun cls d σ H => ∃ b, PySem.W.exmOne K cls c = some b ∧
      (b = true → ∃ C d', cls = .ref C ∧ d = some d' ∧ ∀ a, H a = none → ts a cls d { nx := fun σ' H' => D.nx (σ'.set i none) (upd H' a (exV a C d')), rt := fun v H' => D.rt v H', bk := fun σ' H' => D.bk (σ'.set i none) H', ct := fun σ' H' => D.ct (σ'.set i none) H' } (σ.set i (some (.ref a))) H) ∧
      (b = false → wManyV K i Wout D r cls d σ H)
inductive HdsV (X : Cx) (n : Str) : List ExceptHandler → List (Value × (Addr → Value → Option Addr → TS)) → Prop
  | nil : HdsV X n [] []
  | cons {x : Str} {c : Value} {ts : Addr → Value → Option Addr → TS} {b₀ : Stmt} {suite : List Stmt} {np pos' : Pos} {hds : List ExceptHandler} {l : List (Value × (Addr → Value → Option Addr → TS))} (hc : Names X x c)
      (hsu : ∀ (a : Addr) (oe : Obj) (cls : Value) (d : Option Addr) (pn : List (Addr × Obj)), Zc cls d oe → (∃ vs, oe.data = .fields vs) → PSs (X.suite a ((a, oe) :: pn)) (b₀ :: suite) (ts a cls d)) (r : HdsV X n hds l) :
      HdsV X n (.ExceptHandler (some (.Name x np)) (some n) (b₀ :: suite) pos' :: hds) ((c, ts) :: l)
section
variable {X : Cx} {n : Str} {i : Nat} {body : List Stmt} {h₀ : ExceptHandler} {hds : List ExceptHandler} {l : List (Value × (Addr → Value → Option Addr → TS))} {pos : Pos} {tb : WX → TS} {Wout : WX}
theorem ps_try_manyV (hs : X.stack = X.env :: X.outer) (hf : X.env.frame = some X.env.locals) (hex : X.ex = []) (hN : X.N.Nodup) (hi : X.N[i]? = some n) (hln : X.env.kindOf n = some .local) (tk : Takes X Wout)
    (hb : ∀ (W : WX) (pn : List (Addr × Obj)) (xe : Value → Shared → Prop), Takes (X.tr pn xe) W → PassesOwn (model X.prog X.w) X.A X.env xe → PSs (X.tr pn xe) body (tb W))
    (hh : HdsV X n (h₀ :: hds) l) : PS X (.Try body (h₀ :: hds) [] [] pos) (fun D σ H => tb (wManyV X.K i Wout D l) D σ H) := by
  refine ⟨fun pins s σ H D I h => ?_⟩
  have ok := I.ok
  have frm : X.A.frames = some (X.env :: X.outer) := ok.frames.trans (congrArg some hs)
  have hloc : Loc X.env.scope n := .inl hln
  refine wpAny_Try_except ?_
  refine wpAny_mono ((hb (wManyV X.K i Wout D l) (X.pn ++ pins) (fun e s₁ => wpAny (model X.prog X.w) X.A (noteFrame e X.env) (fun _ s₂ => wpAny (model X.prog X.w) X.A (setFlight e none) (fun _ s₃ =>
    wpAny (model X.prog X.w) X.A (handleBy e X.env (h₀ :: hds)) (SP X pins D) X.xe s₃) X.xe s₂) X.xe s₁) (fun u s' xx => ?_) PassesOwn.looking).run [] s σ H D (I.toTry _) h) (fun f s1 hsp => ?_) (fun _ _ he => he)
  · obtain ⟨a, B, sI, pins', σ', H', cls, d, rfl, J', nb, up, sky, na, os, ag, w⟩ := xx
    have J : Inv X pins σ' H' sI := J'.ofTry ok
    have sky' : Sky B (X.env :: X.outer) a (Zc cls d) X.env.locals s'.heap := by rw [← hs]; exact sky
    show wpAny (model X.prog X.w) X.A (noteFrame (.ref a) X.env) _ _ _
    refine Sky.land Zc.steady frm hf sky' fun h3 fl3 up3 => ?_
    have J3 : Inv X pins σ' H' { s' with heap := h3 } := J.landed nb fl3.1 (up.trans up3) os ag
    obtain ⟨oe3, vs3, he3, hz3, hd3⟩ := fl3.there
    have noFrame : a ∉ frs (X.env :: X.outer) := fun hm => by
      obtain ⟨_, o', e', hnf⟩ := fl3.2.2.1.mem hm
      rw [he3] at e'
      cases e'
      exact hnf _ hd3
    have noStack : a ∉ frs X.stack := by rw [hs]; exact noFrame
    have nL : a ≠ X.env.locals := fun z => noFrame (List.mem_filterMap.mpr ⟨X.env, List.mem_cons_self, by rw [hf, z]⟩)
    have nF : a ∉ X.fs := fun hm => by
      obtain ⟨e, he, q⟩ := List.mem_filterMap.mp hm
      exact noFrame (List.mem_filterMap.mpr ⟨e, List.mem_cons_of_mem _ he, q⟩)
    -- it wasn't there ahead
    have nB : B.get? a = none := fl3.2.1
    have nI : sI.heap.get? a = none := by
      cases e : sI.heap.get? a with
      | none => rfl
      | some o =>
        have z := nb a o e noStack
        rw [nB] at z
        cases z
    have n0 : X.s_0.heap.get? a = none := by
      cases e : X.s_0.heap.get? a with
      | none => rfl
      | some o =>
        obtain ⟨o', z⟩ := J.base.there a o e (by rw [hex]; exact fun z => nomatch z)
        rw [nI] at z
        cases z
    have np : ∀ p ∈ X.pn ++ pins, p.1 ≠ a := fun p hp z => by
      have q := (J.pin p hp).1
      rw [z, nI] at q
      cases q
    have S3 := J3.suite he3 hd3 na nL nF
    have go : ∀ {hds' : List ExceptHandler} {l' : List (Value × (Addr → Value → Option Addr → TS))}, HdsV X n hds' l' → wManyV X.K i Wout D l' cls d σ' H' →
        wpAny (model X.prog X.w) X.A (handleBy (.ref a) X.env hds') (SP X pins D) X.xe { s' with heap := h3 } := by
      intro hds' l' hk
      induction hk with
      | nil =>
        intro w
        refine wpAny_handleBy_nil ?_
        obtain ⟨k1, k2, k3, oe, vs, T, oT, ts', he, hz, hd, h1, hr⟩ := id fl3
        unfold PySem.passOn
        refine wpAny_bind (wpAny_field he hd h1 ?_)
        rw [if_neg (show ¬ ((Value.ref T == Value.none) = true) from by simp)]
        have away : wpAny (model X.prog X.w) X.A (setFlight (.ref a) X.env.frame) (fun _ s4 => wpAny (model X.prog X.w) X.A (throw (.ref a) : Sem Flow) (SP X pins D) X.xe s4) X.xe { s' with heap := h3 } := by
          rw [hf]
          refine HandSPX.setFlight_upZ fl3 fun h4 hh4 up4 => wpAny_throw (tk _ _ ?_)
          exact ⟨a, B, sI, pins, σ', H', cls, d, rfl, J, nb, (up.trans up3).trans up4, .inr (.inr (by rw [hs]; exact hh4)), na, os, ag, w⟩
        first
          | exact wpAny_bind (wpAny_pure (wpAny_bind away))
          | exact wpAny_bind away
      | @cons x c ts b₀ suite np' pos' hds2 l2 hc hsu r ih =>
        intro w
        obtain ⟨b, hb1, hyes, hno⟩ := w
        refine wpAny_handleBy_cons (codeAny_handlers_test ?_) (by intro q; cases q)
        have LT : PySem.W.Looks (model X.prog X.w) h3 (typeOf (.ref a)) cls := fun A Q E s k q => wpAny_typeOf_ref (k _ _ he3) (by rw [hz3.1]; exact q)
        have LM := PySem.W.exm_one (M := model X.prog X.w) (J3.kIn) LT hb1
        have test : ∀ {Q : Value → Shared → Prop} {E : Value → Shared → Prop}, Q c { s' with heap := h3 } → wpAny (model X.prog X.w) (X.A.mark (some (.ref a))) (eval (.Name x np') X.env) Q E { s' with heap := h3 } := fun {Q E} q => by
          obtain ⟨hg, hdbg, hm | ⟨hm, hv, hnn⟩⟩ := hc
          · exact ld_glob (X := X.suite a ((a, oe3) :: (X.pn ++ pins))) S3 hg hm q hdbg
          · exact ld_blt (X := X.suite a ((a, oe3) :: (X.pn ++ pins))) S3 hg hm hv q hnn hdbg
        refine test (LM.here ?_)
        cases b with
        | true =>
          obtain ⟨C, d', rfl, rfl, hyes'⟩ := hyes rfl
          refine codeAny_handlers_suite_as ?_
          refine HandSPX.lands_againZ fl3 fun h4 fl4 up4 => ?_
          have J4 : Inv X pins σ' H' { s' with heap := h4 } := J.landed nb fl4.1 ((up.trans up3).trans up4) os ag
          obtain ⟨oe4, vs4, he4, hz4, hd4⟩ := fl4.there
          have S4 := J4.suite he4 hd4 na nL nF
          refine store_ok (X := X.suite a ((a, oe4) :: (X.pn ++ pins))) (v := .ref a) S4 hN hi hloc rfl (fun s5 S5 => ?_) (.inr hln)
          refine wpAny_mono ((hsu a oe4 (.ref C) (some d') (X.pn ++ pins) hz4 ⟨_, hd4⟩).run [] s5 _ H' _ S5 (hyes' a na)) (fun f s6 hsp => ?_) (fun _ _ z => False.elim z)
          have plain : ∀ {τ : St} {G : Hp} {Q : Shared → Prop}, Inv (X.suite a ((a, oe4) :: (X.pn ++ pins))) [] τ G s6 → (∀ s7, Inv X pins (τ.set i none) G s7 → Q s7) →
              wpAny (model X.prog X.w) X.A (do bindName X.env n .none; unbindBehindTheSuite X.env n pos') (fun _ s7 => Q s7) X.xe s6 := fun {τ G Q} S6 hq => gone_ok (S6.unsuite ok) hN hi hln hq
          cases f with
          | next =>
            obtain ⟨τ, G, S6, q6⟩ := hsp
            obtain ⟨hoa, hna, _⟩ := S6.pin (a, oe4) (List.mem_append_left _ List.mem_cons_self)
            have T6 : Inv X pins τ (upd G a (exV a C d')) s6 := (S6.unsuite ok).track hoa hz4.1 hz4.2 hd4 hna n0 nL np
            exact gone_ok T6 hN hi hln fun s7 J7 => ⟨_, _, J7, q6⟩
          | brk =>
            obtain ⟨τ, G, S6, q6⟩ := hsp
            exact plain S6 fun s7 J7 => ⟨_, _, J7, q6⟩
          | cont =>
            obtain ⟨τ, G, S6, q6⟩ := hsp
            exact plain S6 fun s7 J7 => ⟨_, _, J7, q6⟩
          | ret u =>
            obtain ⟨v6, τ, G, S6, r6, q6⟩ := hsp
            exact plain S6 fun s7 J7 => ⟨_, _, _, J7, r6, q6⟩
        | false =>
          show wpAny _ X.A (handleBy (.ref a) X.env hds2) _ _ _
          exact ih (hno rfl)
    exact go hh w
  · cases f with
    | next =>
      obtain ⟨τ, G, J', q⟩ := hsp
      exact wpAny_execs_nil ⟨τ, G, J'.ofTry ok, q⟩
    | brk =>
      obtain ⟨τ, G, J', q⟩ := hsp
      exact ⟨τ, G, J'.ofTry ok, q⟩
    | cont =>
      obtain ⟨τ, G, J', q⟩ := hsp
      exact ⟨τ, G, J'.ofTry ok, q⟩
    | ret u =>
      obtain ⟨v, τ, G, J', r, q⟩ := hsp
      exact ⟨v, τ, G, J'.ofTry ok, r, q⟩
end
end L2
end
section
set_option Elab.async false
set_option linter.all false
set_option maxRecDepth 100000
set_option maxHeartbeats 4000000
/-! X6: an exception held as a value: its fields, isinstance -/
namespace L2
open PySem PySem.Spec PyProof.Rows PySem.VX
section
variable {X : Cx} {pins : List (Addr × Obj)} {σ : St} {H : Hp} {s : Shared}
theorem exV_inst (I : Inv X pins σ H s) {a C d : Addr} {fs : List (Str × V)} (ea : H a = some (exV a C d)) (ed : H d = some (.xd fs)) :
    ∃ (oe od : Obj) (mA : Str → Option Value), PySem.W.InstAt s.heap a oe C (some od) ∧ (∀ f, RelO (fs.lookup f) (mA f)) ∧ ∀ name, PySem.W.lookIn name od = some (mA name) := by
  obtain ⟨oe, vs, ho, hc, hd, hv⟩ := exV_at I.hok ea
  have hx : ObjOk X.prog X.w H s.heap d (.xd fs) := I.hok d _ ed
  obtain ⟨mA, hns, hr⟩ := hx
  obtain ⟨od, hod, hl⟩ := lookIn_ns hns
  exact ⟨oe, od, mA, ⟨ho, hc, by unfold PySem.W.notCls; rw [hv] <;> rfl, by rw [hd]; exact hod⟩, hr, hl⟩
/-- e.f, e such an exception -/
def tFldV (K : PySem.W.Frag) (f : Str) (te : TE) : TE := fun σ H Q => te σ H fun x H1 => ∃ (a C d : Addr) (fs : List (Str × V)) (v : V), x = .ref a ∧ H1 a = some (exV a C d) ∧ H1 d = some (.xd fs) ∧ XfC K C ∧ PySem.W.findIn K (.ref C) f = some none ∧ fs.lookup f = some v ∧ Q v H1
theorem pe_fldV {e : Expr} {te : TE} {pos : Pos} {n : Str} (he : PE X e te) (hb : attributeBase e n X.env (eval e X.env) = eval e X.env := by rfl) : PE X (.Attribute e n pos) (tFldV X.K n te) := by
  refine ⟨fun pins s σ H Q I h => ?_⟩
  refine attr_of hb (thn (he.run pins s σ H _ I h) fun u s1 hh => ?_)
  obtain ⟨x, H1, I1, rx, a, C, d, fs, v, ex, ea, ed, T, hno, l, q⟩ := hh
  subst ex
  obtain rfl : u = Value.ref a := rx
  obtain ⟨oe, od, mA, J, hr, hl⟩ := exV_inst I1 ea ed
  obtain ⟨u, hu, ru⟩ := RelO.some_of (v := v) (o := mA n) (by rw [← l]; exact hr n)
  exact HandSPX.exc_get I1.kIn J T.ga T.gg T.exC (PySem.W.findObj_own T.hdC hno rfl (by rw [hl, hu])) (handed_of ru) ⟨v, H1, I1.tok _, ru, q⟩
/-- isinstance(e, c), e such an exception -/
def rIsV (K : PySem.W.Frag) : List V → Hp → VK → Prop := fun xs H Q => ∃ (a C d : Addr) (fs : List (Str × V)) (c : V) (cv : Value) (b : Bool), xs = [.ref a, c] ∧ H a = some (exV a C d) ∧ H d = some (.xd fs) ∧ ExcC K C ∧ (∀ u, RelV c u → u = cv) ∧ PySem.W.kitOne K (.ref C) cv = some b ∧ Q (.bl b) H
theorem call_isV : CallR X (.builtin "isinstance") (rIsV X.K) := by
  intro pins s σ H xs us Q I r h
  obtain ⟨a, C, d, fs, c, cv, b, rfl, ea, ed, T, hcv, e, q⟩ := h
  obtain ⟨u, u2, rfl, ru, r2⟩ := vals2 r
  obtain rfl : u = Value.ref a := ru
  have ec := hcv _ r2
  subst ec
  obtain ⟨oe, od, mA, J, _, _⟩ := exV_inst I ea ed
  have hcl : (PySem.W.clsIn X.K C).isSome = true := by
    obtain ⟨cd, hc, _⟩ := PySem.W.any_some T.hd
    rw [hc]
    rfl
  exact PySem.W.kia_one (PySem.W.kitx_exc hcl T.hg T.hk T.hs T.ha T.hn T.ht T.hm) I.kIn J e (fun z => nomatch z) fun tk => ⟨.bl b, H, I.kept (t' := tk) fun _ _ z => z, rfl, q⟩
end
end L2
end
section
set_option Elab.async false
set_option linter.all false
set_option maxRecDepth 100000
set_option maxHeartbeats 4000000
/-! X7: repr of data, in defs that run while no repr does -/
namespace L2
open PySem PySem.Spec PyProof.Rows PySem.VX
theorem guards_deeper {A : Around} {env : Env} : (A.deeper env).guards = A.guards := by
  first
    | rfl
    | (obtain ⟨a, b, c, d, e⟩ := A; rfl)
    | (obtain ⟨a, b, c, d, e⟩ := A; cases d <;> rfl)
/-- a def's promise, where no repr runs around -/
structure FnG (P : Program) (w : World) (K : PySem.W.Frag) (mg : Str → Option Value) (base : Heap) (CX : CXT) (k : Nat) (f : Addr) (fd : FuncData) (ps : List Str) (sp : Sp) : Prop where
  len : ∀ vs H Q E, sp vs H Q E → vs.length = ps.length
  run : ∀ (A : Around) (outer : List Env) (s : Shared) (H : Hp) (args : Args) (us : List Value) (vs : List V) (Q : VK) (E : XK), Room k A → A.guards = some [] → Env0 P w K mg base A outer s H → BindsTo s fd args (ps.zip us) → Vals vs us → sp vs H Q E →
    codeAny (model P w) A (.call (.ref f) args) (CR CX outer P w H s Q E) s
section
variable {P : Program} {w : World} {K : PySem.W.Frag} {mg : Str → Option Value} {base : Heap}
theorem Fun.okG {x qual : Str} {st : Stmt} {f : Addr} {fd : FuncData} {N ps : List Str} {k : Nat} {sp : Sp} (F : Fun K x qual st f fd) (S : FnScope N ps (defScope st)) (len : ∀ vs H Q E, sp vs H Q E → vs.length = ps.length)
    (hbody : ∀ (cdv : Value) (A : Around) (outer : List Env) (s : Shared) (H : Hp) (vs : List V) (Q : VK) (E : XK), Room k (A.deeper (envOfC qual (defScope st) s.heap.objs.size f cdv)) → (A.deeper (envOfC qual (defScope st) s.heap.objs.size f cdv)).guards = some [] → sp vs H Q E →
      ∃ t, PSs (cxOf CX0 P w K mg base N qual (defScope st) f cdv A outer s H E).nox (defBody st) t ∧ t { nx := fun _ H' => Q .non H', rt := Q } (start N vs) H) : FnG P w K mg base CX0 (k + 1) f fd ps sp := by
  obtain ⟨oc, od, kV, doc, pm, an, cdv, ct, osl, rfl, lk, hcd⟩ := F.ex
  refine ⟨len, fun A outer s H args us vs Q E hr hG e0 hb r hsp => ?_⟩
  have hG2 : (A.deeper (envOfC qual (defScope st) s.heap.objs.size f cdv)).guards = some [] := guards_deeper.trans hG
  have hl := len _ _ _ _ hsp
  have KX : K.In s.heap := e0.mod.kin.keeps fun b o e => (e0.bs b o e).1
  have lim : s.heap.NoLimit := e0.mod.nolimit.keeps fun b o e => (e0.bs b o e).1
  have kinds : ∀ y ∈ ps.zip us, (defScope st).names.lookup y.1 = some .local ∨ ((defScope st).names.lookup y.1 = some .cell ∧ ((cellsFrom (s.heap.objs.size + 1) (defScope st).names []).lookup y.1).isSome = true) := by
    rintro ⟨n, v⟩ hy
    rcases S.par n (List.of_mem_zip hy).1 with q | q
    · exact .inl q
    · exact .inr ⟨q, PySem.W.cellsFrom_some _ _ _ (.inl q)⟩
  refine codeAny_call_function hr.depth (KX _ _ lk) rfl S.co S.gen rfl (PySem.W.codeRec_of KX hcd) (hb _ _ _ _ ?_)
  refine wpAny_newFunctionEnv_cells S.kind kinds fun env he s1 x => ?_
  subst he
  refine ⟨lim.keeps x.toInCall.keep, codeAny_func ?_⟩
  obtain ⟨t, ht, hq⟩ := hbody cdv A outer s H vs Q E (hr.deeper _) hG2 hsp
  have I : Inv (cxOf CX0 P w K mg base N qual (defScope st) f cdv A outer s H E) [] (start N vs) H s1 := inv_start S hr.hd e0 hl r x
  refine wpAny_mono (ht.nox.run [] s1 (start N vs) H _ I hq) (fun fl s' hs => ?_) fun _ _ z => z
  have done : ∀ {σ' : St} {H' : Hp} {v : V} {u : Value}, Inv (cxOf CX0 P w K mg base N qual (defScope st) f cdv A outer s H E) [] σ' H' s' → RelV v u → Q v H' → CE outer P w H s Q u s' :=
    fun {σ' H' v u} J rv q => ⟨v, H', J.os, J.bare, J.base, J.hok, rv, q⟩
  cases fl with
  | ret u =>
    obtain ⟨v, σ', H', J, rv, q⟩ := hs
    exact done J rv q
  | next =>
    obtain ⟨σ', H', J, q⟩ := hs
    exact done (v := V.non) (u := Value.none) J rfl q
  | brk => exact False.elim hs.choose_spec.choose_spec.2
  | cont => exact False.elim hs.choose_spec.choose_spec.2
end
section
variable {X : Cx} {CX : CXT} {k : Nat} {f : Addr} {fd : FuncData} {ps : List Str} {sp : Sp} {E : XK} {x : Str} {p pos : Pos} {e : Expr} {es : List Expr} {t : TA} {ds : List Value} {dvs : List V}
/-- f(e, ..), f a def of such a promise -/
theorem pe_callG (F : FnG X.prog X.w X.K X.mg X.base CX k f fd ps sp) (hr : Room k X.A) (hG : X.A.guards = some []) (hg : Gl X x) (hm : X.mg x = some (.ref f)) (hk : PySem.W.keepIn X.K (.ref f) = true) (hb : Binds X.K fd ps ds) (hd : Vals dvs ds) (hx : Passes CX X E)
    (ha : PA X (e :: es) t) (hdb : (x == ("__debug__" : Str)) = false := by decide) (he : starEach (e :: es) X.env = (false, eval e X.env) :: starEach es X.env := by rfl) (hpl : (backTo pos (starEach es X.env)).any (·.1) = false := by rfl) :
    PE X (.Call (.Name x p) (e :: es) [] pos) (tCall sp dvs E t) := by
  refine ⟨fun pins s σ H Q I h => ?_⟩
  refine wpAny_Call_Name_kw (ld_glob I hg hm ?_ hdb)
  refine PySem.W.callWith_K (h₀ := X.base) I.ok.mod.kin hk (thn (ha.run pos pins s σ H _ I h) fun us s1 ⟨vs, H1, I1, r, q⟩ => ⟨I1.kIn, ?_⟩) he hpl
  have r2 : Vals (vs ++ dvs) (us ++ ds) := r.append hd
  have hl : (us ++ ds).length = ps.length := by
    rw [← r2.length]
    exact F.len _ _ _ _ q
  refine wpAny_call (codeAny_mono (F.run X.A X.stack s1 H1 ⟨us, []⟩ (us ++ ds) (vs ++ dvs) Q E hr hG I1.env0 (hb s1 us I1.kIn hl) r2 q) fun r s' hq => ?_)
  cases r with
  | error er => exact hx pins σ H1 s1 er s' I1 hq
  | ok fl =>
    cases fl with
    | ret u => exact I1.after hq
    | next => exact False.elim hq
    | brk => exact False.elim hq
    | cont => exact False.elim hq
/-- repr(x), x a list or tuple of data -/
def rReprD (K : PySem.W.Frag) : List V → Hp → VK → Prop := fun xs H Q => ∃ (a : Addr) (d : PyData), xs = [.ref a] ∧ Dp K H (.ref a) d ∧ d.showable = true ∧ d.hasDict = false ∧ d.depth ≤ 60 ∧ d.shown.length ≤ sizeLine ∧ Q (.str d.shown) H
theorem call_reprD (hG : X.A.guards = some []) (hu : X.A.units + 64 < cLine) : CallR X (.builtin "repr") (rReprD X.K) := by
  intro pins s σ H xs us Q I r h
  obtain ⟨a, d, rfl, hd, hs, hnd, hdp, hz, q⟩ := h
  obtain ⟨u, rfl, ru⟩ := vals1 r
  obtain rfl : u = Value.ref a := ru
  obtain ⟨as, rd⟩ := Dp.reads I d _ _ hd (show RelV (.ref a) (.ref a) from rfl)
  refine repr_of_reads' rd hs (fun z => absurd z (by rw [hnd]; decide)) hG (by omega) (fun _ _ e => e) (fun h' u tk k => ?_) hz
  exact ⟨.str d.shown, H, I.kept (t' := tk) k, ⟨_, rfl⟩, q⟩
end
/-- the law's call, for such a promise of the law -/
theorem law_callG {P : Program} {w : World} {K : PySem.W.Frag} {mg mb : Str → Option Value} {CX : CXT} {k : Nat} {fa a : Addr} {fd : FuncData} {x : Str} {sp : Sp} {s1 : Shared} {vs : List Value} {ns : List Int}
    (KX : K.In s1.heap) (hns : s1.heap.Ns mainGlobals mg) (hb : s1.heap.Ns builtinsNs mb) (hbb : ∀ x : Str, x ≠ "__name__" → mb x = bootBuiltins x) (hlim : s1.heap.NoLimit) (hg : s1.gens = #[])
    (ha : s1.heap.get? a = some { cls := .type "list", data := .seq vs.toArray }) (hi : IntsAre vs ns) (hl : ns.length ≤ sizeLine) (hr : Room k callerA)
    (F : ∀ base : Heap, K.In base → base.Ns mainGlobals mg → FnG P w K mg base CX k fa fd [x] sp) (hbind : ∀ (s : Shared) (u : Value), BindsTo s fd ⟨[u], []⟩ [(x, u)])
    (hsp : ∀ H : Hp, Only H → SqL K H a (ns.map V.int) → sp [.ref a] H (fun v _ => v = .bl true) fun _ _ _ => False)
    (hCX : ∀ H e s', CX [] H s1 (fun _ _ _ => False) e s' → False) :
    codeAny (model P w) callerA (.call (.ref fa) ⟨[.ref a], []⟩) (fun r s' => r = .ok (.ret (.bool true)) ∧ OldK s1.heap s'.heap ∧ s'.os = s1.os ∧ AllBare s'.gens) s1 := by
  have rv := vals_ints hi
  have lenV := hi.length
  have core : ∀ H : Hp, Only H → SqL K H a (ns.map V.int) → HOk P w H s1.heap → (∀ b, H b ≠ none → b = a) → (H a ≠ none → K.lookup a = none) →
      codeAny (model P w) callerA (.call (.ref fa) ⟨[.ref a], []⟩) (fun r s' => r = .ok (.ret (.bool true)) ∧ OldK s1.heap s'.heap ∧ s'.os = s1.os ∧ AllBare s'.gens) s1 := by
    intro H hO hS hok hA hK
    have only : ∀ {b : Addr} {u : HO}, H b = some u → b = a := fun {b u} q => hA b (by rw [q]; exact Option.some_ne_none u)
    have free : ∀ {b : Addr} {o : Obj} {es : Array DictEntry} {ep : Nat}, s1.heap.get? b = some o → o.data = .dict es ep → H b = none := by
      intro b o es ep e d
      cases q : H b with
      | none => rfl
      | some u =>
        have e' := only q
        subst e'
        rw [ha] at e
        cases e
        cases (show Data.seq vs.toArray _ = Data.dict es ep from d)
    have nsK : ∀ {b : Addr} {m : Str → Option Value}, s1.heap.Ns b m → (hidT s1.heap H).Ns b m := fun {b m} ⟨o, es, ep, e, d, r⟩ => ⟨o, es, ep, hidT_get e (free e d), d, r⟩
    have hKb : K.In (hidT s1.heap H) := fun b o e => hidT_get (KX b o e) (by
      cases q : H b with
      | none => rfl
      | some u =>
        have e' := only q
        subst e'
        rw [hK (by rw [q]; exact Option.some_ne_none u)] at e
        cases e)
    have hM : Mod K mg (hidT s1.heap H) := ⟨hKb, nsK hns, ⟨mb, nsK hb, hbb⟩, let ⟨mc, h1, h2⟩ := hlim; ⟨mc, nsK h1, h2⟩⟩
    have none1 : ∀ b : Addr, b ∉ ([] : List Addr) := fun b z => nomatch z
    have e0 : Env0 P w K mg (hidT s1.heap H) callerA [] s1 H := ⟨rfl, hM, fun b o e => of_hidT e, Nat.le_of_eq (hidT_size _ _), trivial, fun b hb => absurd hb (none1 b), hok, .of_eq hg⟩
    refine codeAny_mono ((F _ hKb (nsK hns)).run callerA [] s1 H ⟨[.ref a], []⟩ [.ref a] [.ref a] _ _ hr rfl e0 (hbind s1 (.ref a)) (.cons rfl .nil) (hsp H hO hS)) fun r s' h => ?_
    cases r with
    | error e => exact (hCX H e s' h).elim
    | ok fl =>
      cases fl with
      | next => exact False.elim h
      | brk => exact False.elim h
      | cont => exact False.elim h
      | ret u =>
        obtain ⟨v, H', os, bare, un, hok', r', q⟩ := h
        obtain rfl : v = .bl true := q
        obtain rfl : u = Value.bool true := r'
        refine ⟨rfl, OldK.of_keep fun b o e => ?_, os, bare⟩
        cases q : H b with
        | none => exact un.keep b o e q (none1 b) (none1 b)
        | some u =>
          rcases hO b with z | ⟨ob, xs, z⟩
          · rw [q] at z
            cases z
          · obtain ⟨e1, _⟩ := hok b _ z
            obtain ⟨e2, _⟩ := hok' b _ (un.frzs b ob _ z)
            rw [e] at e1
            cases e1
            exact e2
  cases hk : K.lookup a with
  | some o =>
    have e := KX a o hk
    rw [ha] at e
    cases e
    refine core (fun _ => none) (fun _ => .inl rfl) (.inr ⟨_, vs.toArray, _, hk, rfl, rfl, rfl, by rw [List.size_toArray, lenV]; exact hl, by simpa using rv⟩) (fun b u z => by cases (show (none : Option HO) = some u from z)) (fun b z => absurd rfl z) fun z => absurd rfl z
  | none =>
    refine core (fun b => if b = a then some (.frz { cls := .type "list", data := .seq vs.toArray } (.lst (ns.map V.int))) else none) (fun b => ?_) (.inl (.inr ⟨{ cls := .type "list", data := .seq vs.toArray }, if_pos rfl⟩)) (fun b u z => ?_) (fun b z => ?_) fun _ => hk
    · by_cases hb : b = a
      · exact .inr ⟨_, _, if_pos hb⟩
      · exact .inl (if_neg hb)
    · by_cases hb : b = a
      · cases (if_pos hb).symm.trans z
        subst hb
        exact ⟨ha, by rw [List.length_map]; exact hl, vs, _, rv, ha⟩
      · cases (if_neg hb).symm.trans z
    · by_cases hb : b = a
      · exact hb
      · exact absurd (if_neg hb) z
theorem walk_ofG {l : PySem.W.OpenLaw} {n k : Nat} {q : Program} {loose : List Str} {XP : (Str → Option Value) → Heap → Prop} {YP : World → Heap → Prop} {d : DefRec} {K : Params → PySem.W.Frag} {sp : PySem.W.Frag → Sp} {x : Str}
    (hn : l.most = some n) (hn2 : n ≤ sizeLine) (hdf : d.params.defaults = []) (hr : Room k callerA)
    (hY : ∀ (w : World) (h : Heap), YP w h → (K w.params).In h)
    (F : ∀ (w : World) (mg : Str → Option Value) (fa : Addr) (h : Heap), (K w.params).In h → h.Ns mainGlobals mg → mg d.name = some (.ref fa) →
      ∃ fd : FuncData, (∀ (s : Shared) (u : Value), BindsTo s fd ⟨[u], []⟩ [(x, u)]) ∧ ∀ base : Heap, (K w.params).In base → base.Ns mainGlobals mg → FnG l.prog w (K w.params) mg base CX0 k fa fd [x] (sp (K w.params)))
    (hsp : ∀ (K : PySem.W.Frag) (H : Hp) (a : Addr) (ns : List Int), ns.length ≤ n → Only H → SqL K H a (ns.map V.int) → sp K [.ref a] H (fun v _ => v = .bl true) fun _ _ _ => False) :
    PySem.W.WalkO q loose XP YP l.row.toRowW d [] (fun f vs => PySem.call f vs) := by
  refine Att.attach_call hn hdf fun w s₀ s1 mg mb fa o pm cd doc a vs ns G Y ho hd hcd hmg hobj hints hlen hg => ?_
  have KX := hY w _ Y
  obtain ⟨fd, hb, hF⟩ := F w mg fa _ KX G.T.g hmg
  exact law_callG KX G.T.g G.T.b G.T.builtins G.T.nolimit hg hobj hints (Nat.le_trans hlen hn2) hr hF hb (fun H hO hS => hsp (K w.params) H a ns hlen hO hS) fun H e s' z => z
end L2
end
section
set_option Elab.async false
set_option linter.all false
set_option maxRecDepth 100000
set_option maxHeartbeats 4000000
/-! X8: try with several clauses .. as n, the exceptions let go behind each suite -/
namespace L2
open PySem PySem.Spec PyProof.Rows PySem.VX
/-- the clauses' wishes, one behind the other; n's slot is i -/
def wManyN (K : PySem.W.Frag) (i : Nat) (Wout : WX) (D : Ends) : List (Value × (Addr → Value → Option Addr → TS)) → WX
  | [] => Wout
  | (c, ts) :: r => fun cls d σ H => ∃ b, PySem.W.exmOne K cls c = some b ∧
      (b = true → ∃ C d', cls = .ref C ∧ d = some d' ∧ ∀ a, H a = none → ts a cls d { nx := fun σ' H' => D.nx (σ'.set i none) H', rt := fun v H' => D.rt v H', bk := fun σ' H' => D.bk (σ'.set i none) H', ct := fun σ' H' => D.ct (σ'.set i none) H' } (σ.set i (some (.ref a))) H) ∧
      (b = false → wManyN K i Wout D r cls d σ H)
inductive HdsN (X : Cx) (n : Str) : List ExceptHandler → List (Value × (Addr → Value → Option Addr → TS)) → Prop
  | nil : HdsN X n [] []
  | cons {x : Str} {c : Value} {ts : Addr → Value → Option Addr → TS} {b₀ : Stmt} {suite : List Stmt} {np pos' : Pos} {hds : List ExceptHandler} {l : List (Value × (Addr → Value → Option Addr → TS))} (hc : Names X x c)
      (hsu : ∀ (a : Addr) (oe : Obj) (cls : Value) (d : Option Addr) (pn : List (Addr × Obj)), Zc cls d oe → (∃ vs, oe.data = .fields vs) → PSs (X.suite a ((a, oe) :: pn)) (b₀ :: suite) (ts a cls d)) (r : HdsN X n hds l) :
      HdsN X n (.ExceptHandler (some (.Name x np)) (some n) (b₀ :: suite) pos' :: hds) ((c, ts) :: l)
section
variable {X : Cx} {n : Str} {i : Nat} {body : List Stmt} {h₀ : ExceptHandler} {hds : List ExceptHandler} {l : List (Value × (Addr → Value → Option Addr → TS))} {pos : Pos} {tb : WX → TS} {Wout : WX}
theorem ps_try_manyN (hs : X.stack = X.env :: X.outer) (hf : X.env.frame = some X.env.locals) (hex : X.ex = []) (hN : X.N.Nodup) (hi : X.N[i]? = some n) (hln : X.env.kindOf n = some .local) (tk : Takes X Wout)
    (hb : ∀ (W : WX) (pn : List (Addr × Obj)) (xe : Value → Shared → Prop), Takes (X.tr pn xe) W → PassesOwn (model X.prog X.w) X.A X.env xe → PSs (X.tr pn xe) body (tb W))
    (hh : HdsN X n (h₀ :: hds) l) : PS X (.Try body (h₀ :: hds) [] [] pos) (fun D σ H => tb (wManyN X.K i Wout D l) D σ H) := by
  refine ⟨fun pins s σ H D I h => ?_⟩
  have ok := I.ok
  have frm : X.A.frames = some (X.env :: X.outer) := ok.frames.trans (congrArg some hs)
  have hloc : Loc X.env.scope n := .inl hln
  refine wpAny_Try_except ?_
  refine wpAny_mono ((hb (wManyN X.K i Wout D l) (X.pn ++ pins) (fun e s₁ => wpAny (model X.prog X.w) X.A (noteFrame e X.env) (fun _ s₂ => wpAny (model X.prog X.w) X.A (setFlight e none) (fun _ s₃ =>
    wpAny (model X.prog X.w) X.A (handleBy e X.env (h₀ :: hds)) (SP X pins D) X.xe s₃) X.xe s₂) X.xe s₁) (fun u s' xx => ?_) PassesOwn.looking).run [] s σ H D (I.toTry _) h) (fun f s1 hsp => ?_) (fun _ _ he => he)
  · obtain ⟨a, B, sI, pins', σ', H', cls, d, rfl, J', nb, up, sky, na, os, ag, w⟩ := xx
    have J : Inv X pins σ' H' sI := J'.ofTry ok
    have sky' : Sky B (X.env :: X.outer) a (Zc cls d) X.env.locals s'.heap := by rw [← hs]; exact sky
    show wpAny (model X.prog X.w) X.A (noteFrame (.ref a) X.env) _ _ _
    refine Sky.land Zc.steady frm hf sky' fun h3 fl3 up3 => ?_
    have J3 : Inv X pins σ' H' { s' with heap := h3 } := J.landed nb fl3.1 (up.trans up3) os ag
    obtain ⟨oe3, vs3, he3, hz3, hd3⟩ := fl3.there
    have noFrame : a ∉ frs (X.env :: X.outer) := fun hm => by
      obtain ⟨_, o', e', hnf⟩ := fl3.2.2.1.mem hm
      rw [he3] at e'
      cases e'
      exact hnf _ hd3
    have noStack : a ∉ frs X.stack := by rw [hs]; exact noFrame
    have nL : a ≠ X.env.locals := fun z => noFrame (List.mem_filterMap.mpr ⟨X.env, List.mem_cons_self, by rw [hf, z]⟩)
    have nF : a ∉ X.fs := fun hm => by
      obtain ⟨e, he, q⟩ := List.mem_filterMap.mp hm
      exact noFrame (List.mem_filterMap.mpr ⟨e, List.mem_cons_of_mem _ he, q⟩)
    -- it wasn't there ahead
    have nB : B.get? a = none := fl3.2.1
    have nI : sI.heap.get? a = none := by
      cases e : sI.heap.get? a with
      | none => rfl
      | some o =>
        have z := nb a o e noStack
        rw [nB] at z
        cases z
    have n0 : X.s_0.heap.get? a = none := by
      cases e : X.s_0.heap.get? a with
      | none => rfl
      | some o =>
        obtain ⟨o', z⟩ := J.base.there a o e (by rw [hex]; exact fun z => nomatch z)
        rw [nI] at z
        cases z
    have np : ∀ p ∈ X.pn ++ pins, p.1 ≠ a := fun p hp z => by
      have q := (J.pin p hp).1
      rw [z, nI] at q
      cases q
    have S3 := J3.suite he3 hd3 na nL nF
    have go : ∀ {hds' : List ExceptHandler} {l' : List (Value × (Addr → Value → Option Addr → TS))}, HdsN X n hds' l' → wManyN X.K i Wout D l' cls d σ' H' →
        wpAny (model X.prog X.w) X.A (handleBy (.ref a) X.env hds') (SP X pins D) X.xe { s' with heap := h3 } := by
      intro hds' l' hk
      induction hk with
      | nil =>
        intro w
        refine wpAny_handleBy_nil ?_
        obtain ⟨k1, k2, k3, oe, vs, T, oT, ts', he, hz, hd, h1, hr⟩ := id fl3
        unfold PySem.passOn
        refine wpAny_bind (wpAny_field he hd h1 ?_)
        rw [if_neg (show ¬ ((Value.ref T == Value.none) = true) from by simp)]
        have away : wpAny (model X.prog X.w) X.A (setFlight (.ref a) X.env.frame) (fun _ s4 => wpAny (model X.prog X.w) X.A (throw (.ref a) : Sem Flow) (SP X pins D) X.xe s4) X.xe { s' with heap := h3 } := by
          rw [hf]
          refine HandSPX.setFlight_upZ fl3 fun h4 hh4 up4 => wpAny_throw (tk _ _ ?_)
          exact ⟨a, B, sI, pins, σ', H', cls, d, rfl, J, nb, (up.trans up3).trans up4, .inr (.inr (by rw [hs]; exact hh4)), na, os, ag, w⟩
        first
          | exact wpAny_bind (wpAny_pure (wpAny_bind away))
          | exact wpAny_bind away
      | @cons x c ts b₀ suite np' pos' hds2 l2 hc hsu r ih =>
        intro w
        obtain ⟨b, hb1, hyes, hno⟩ := w
        refine wpAny_handleBy_cons (codeAny_handlers_test ?_) (by intro q; cases q)
        have LT : PySem.W.Looks (model X.prog X.w) h3 (typeOf (.ref a)) cls := fun A Q E s k q => wpAny_typeOf_ref (k _ _ he3) (by rw [hz3.1]; exact q)
        have LM := PySem.W.exm_one (M := model X.prog X.w) (J3.kIn) LT hb1
        have test : ∀ {Q : Value → Shared → Prop} {E : Value → Shared → Prop}, Q c { s' with heap := h3 } → wpAny (model X.prog X.w) (X.A.mark (some (.ref a))) (eval (.Name x np') X.env) Q E { s' with heap := h3 } := fun {Q E} q => by
          obtain ⟨hg, hdbg, hm | ⟨hm, hv, hnn⟩⟩ := hc
          · exact ld_glob (X := X.suite a ((a, oe3) :: (X.pn ++ pins))) S3 hg hm q hdbg
          · exact ld_blt (X := X.suite a ((a, oe3) :: (X.pn ++ pins))) S3 hg hm hv q hnn hdbg
        refine test (LM.here ?_)
        cases b with
        | true =>
          obtain ⟨C, d', rfl, rfl, hyes'⟩ := hyes rfl
          refine codeAny_handlers_suite_as ?_
          refine HandSPX.lands_againZ fl3 fun h4 fl4 up4 => ?_
          have J4 : Inv X pins σ' H' { s' with heap := h4 } := J.landed nb fl4.1 ((up.trans up3).trans up4) os ag
          obtain ⟨oe4, vs4, he4, hz4, hd4⟩ := fl4.there
          have S4 := J4.suite he4 hd4 na nL nF
          refine store_ok (X := X.suite a ((a, oe4) :: (X.pn ++ pins))) (v := .ref a) S4 hN hi hloc rfl (fun s5 S5 => ?_) (.inr hln)
          refine wpAny_mono ((hsu a oe4 (.ref C) (some d') (X.pn ++ pins) hz4 ⟨_, hd4⟩).run [] s5 _ H' _ S5 (hyes' a na)) (fun f s6 hsp => ?_) (fun _ _ z => False.elim z)
          have plain : ∀ {τ : St} {G : Hp} {Q : Shared → Prop}, Inv (X.suite a ((a, oe4) :: (X.pn ++ pins))) [] τ G s6 → (∀ s7, Inv X pins (τ.set i none) G s7 → Q s7) →
              wpAny (model X.prog X.w) X.A (do bindName X.env n .none; unbindBehindTheSuite X.env n pos') (fun _ s7 => Q s7) X.xe s6 := fun {τ G Q} S6 hq => gone_ok (S6.unsuite ok) hN hi hln hq
          cases f with
          | next =>
            obtain ⟨τ, G, S6, q6⟩ := hsp
            exact plain S6 fun s7 J7 => ⟨_, _, J7, q6⟩
          | brk =>
            obtain ⟨τ, G, S6, q6⟩ := hsp
            exact plain S6 fun s7 J7 => ⟨_, _, J7, q6⟩
          | cont =>
            obtain ⟨τ, G, S6, q6⟩ := hsp
            exact plain S6 fun s7 J7 => ⟨_, _, J7, q6⟩
          | ret u =>
            obtain ⟨v6, τ, G, S6, r6, q6⟩ := hsp
            exact plain S6 fun s7 J7 => ⟨_, _, _, J7, r6, q6⟩
        | false =>
          show wpAny _ X.A (handleBy (.ref a) X.env hds2) _ _ _
          exact ih (hno rfl)
    exact go hh w
  · cases f with
    | next =>
      obtain ⟨τ, G, J', q⟩ := hsp
      exact wpAny_execs_nil ⟨τ, G, J'.ofTry ok, q⟩
    | brk =>
      obtain ⟨τ, G, J', q⟩ := hsp
      exact ⟨τ, G, J'.ofTry ok, q⟩
    | cont =>
      obtain ⟨τ, G, J', q⟩ := hsp
      exact ⟨τ, G, J'.ofTry ok, q⟩
    | ret u =>
      obtain ⟨v, τ, G, J', r, q⟩ := hsp
      exact ⟨v, τ, G, J'.ofTry ok, r, q⟩
end
end L2
end
section
set_option Elab.async false
set_option linter.all false
set_option maxRecDepth 100000
set_option maxHeartbeats 4000000
/-! Q1: == and != of instances by an own __eq__, whatever it answers -/
namespace L2
open PySem PySem.Spec PyProof.Rows PySem.VX Builtin
/-- x == y, x an instance of the class at C -/
def rEqO (K : PySem.W.Frag) (C : Addr) (sp : Sp) (E : XK) : R2 := fun x y H Q => ∃ a dx fs t, x = .ref a ∧ H a = some (.ins C dx fs) ∧ TyX K H y t ∧ PySem.W.notFirst K C t = true ∧ sp [x, y] H Q E
/-- x != y, where the class has no __ne__ -/
def rNeO (K : PySem.W.Frag) (C : Addr) (sp : Sp) (E : XK) : R2 := fun x y H Q => ∃ a dx fs t, x = .ref a ∧ H a = some (.ins C dx fs) ∧ TyX K H y t ∧ PySem.W.notFirst K C t = true ∧ sp [x, y] H (fun z H' => ∃ b, z = .bl b ∧ Q (.bl (!b)) H') E
section
variable {X : Cx} {CX : CXT} {n : Nat} {C f : Addr} {fd : FuncData} {ps : List Str} {sp : Sp} {E : XK}
theorem run_eq {A : Around} {pins : List (Addr × Obj)} {σ : L2.St} {H : Hp} {s : Shared} {Q : VK} {x y : V} {v u : Value} (F : FnOk X.prog X.w X.K X.mg X.base CX n f fd ps sp) (hb : Binds X.K fd ps []) (hx : Passes CX X E) (hr : Room n A) (fr : A.frames = X.A.frames)
    (I : Inv X pins σ H s) (rx : RelV x v) (ry : RelV y u) (h : sp [x, y] H Q E) : wpAny (model X.prog X.w) A (call (.ref f) [v, u]) (EP X pins σ Q) X.xe s := by
  have e0 : Env0 X.prog X.w X.K X.mg X.base A X.stack s H := by
    have e := I.env0
    exact ⟨by rw [fr]; exact e.frames, e.mod, e.bs, e.bsz, e.funs, e.frf, e.hok, e.bare⟩
  have hl := F.len _ _ _ _ h
  refine wpAny_call (codeAny_mono (F.run A X.stack s H ⟨[v, u], []⟩ [v, u] [x, y] Q E hr e0 (by
    have := hb s [v, u] I.kIn (by simpa using hl)
    simpa using this) (.cons rx (.cons ry .nil)) h) fun r s' hq => ?_)
  cases r with
  | error e => exact hx pins σ H s e s' I hq
  | ok fl =>
    cases fl with
    | ret w => exact I.after hq
    | next => exact False.elim hq
    | brk => exact False.elim hq
    | cont => exact False.elim hq
theorem op_eqO (F : FnOk X.prog X.w X.K X.mg X.base CX n f fd ps sp) (hs : PySem.W.findIn X.K (.ref C) "__eq__" = some (some (.ref f))) (hf : PySem.W.isFn X.K (.ref f) = true) (hb : Binds X.K fd ps []) (hx : Passes CX X E) (hr : Room n X.A) : OpR X (compareOp .Eq) (rEqO X.K C sp E) := by
  intro pins s σ H x y v u Q I rx ry h
  obtain ⟨a, dx, fs, t, rfl, ha, ty, hn, q⟩ := h
  cases (show v = Value.ref a from rx)
  obtain ⟨mA, J, _⟩ := ins_get I.hok ha
  obtain ⟨od, J, _⟩ := J.look
  obtain ⟨P, Z, p, _⟩ := kit_of I ry ty
  obtain ⟨m, hF⟩ := I.fr
  show wpAny (model X.prog X.w) X.A (richCompare .Eq (.ref a) u) (EP X pins σ Q) X.xe s
  refine PySem.W.cmp_K (op := .Eq) (tb := t) hr.units0 hF I.ok.mod.kin J (Z.ty _ _ I.kIn p) hn hs hf ?_
  refine wpAny_mono (run_eq F hb hx hr rfl I rx ry q) (fun w s' z => ?_) fun _ _ x => x
  obtain ⟨z', H', I', rz, qz⟩ := z
  exact SlX.cmpback rz ⟨z', H', I', rz, qz⟩
end
section
variable {prog : Program} {w : World} {A A₀ : Around} {E : Value → Shared → Prop} {s : Shared} {K : PySem.W.Frag} {x C L f : Addr} {h₀ : Heap} {m : Str → Option Value} {ox : Obj} {od : Option Obj} {name : Str} {b tb : Value}
theorem bind_ne (self : Value) : bindSpecial (.builtin "object.__ne__") self = pure (.builtin "object.__ne__", [self]) :=
  (Slot.of (T := "object") (name := "__ne__") (owner := "object") (n := "__ne__") (by rw [typeLookup_type, builtinLookup_eq_fast]; kernel_rfl) (by decide +kernel) (by decide +kernel) (by decide +kernel)
    (.inl (by decide +kernel)) (by rw [isSubtype_type]; kernel_rfl)).bind self
theorem ifBoundNe {M : Model} {args : List Value} {Q : Option Value → Shared → Prop} (X : K.In s.heap) (I : PySem.W.InstAt s.heap x ox C od) (hs : PySem.W.findIn K (.ref C) name = some (some (.builtin "object.__ne__")))
    (h : wpAny M A (call (.builtin "object.__ne__") (.ref x :: args)) (fun v => Q (some v)) E s) : wpAny M A (callSpecialIfBound? (.ref x) name args) Q E s := by
  simp only [callSpecialIfBound?, bindSpecialIfBound?]
  refine wpAny_holding (wpAny_bind (wpAny_bind (wpAny_bind (I.type.here ((PySem.W.looks_findIn X hs).here ?_)))))
  simp only [bind_ne]
  refine wpAny_bind (wpAny_askSetting (wpAny_ite ?_))
  have fin : wpAny M A (call (.builtin "object.__ne__") ([.ref x] ++ args) >>= fun v => pure (some v)) Q E s := wpAny_bind (wpAny_mono h (fun v s' h' => wpAny_pure h') fun _ _ h' => h')
  split
  · exact wpAny_bind (wpAny_pure (wpAny_pure fin))
  · exact wpAny_tryCatch (wpAny_bind (wpAny_pure (wpAny_pure fin)))
theorem ne_entry (X : K.In s.heap) (I : PySem.W.InstAt s.heap x ox C od) (hs : PySem.W.findIn K (.ref C) "__eq__" = some (some (.ref f))) (hf : PySem.W.isFn K (.ref f) = true) (hu : A.units < cLine) {Q : Fin → Shared → Prop}
    (hcall : wpAny (model prog w) A (call (.ref f) [.ref x, b]) (fun v s' => ∃ c, v = .bool c ∧ Q (.done (.ret (.bool (!c)))) s') E s) :
    wpAny (model prog w) A (Builtin.«object.__ne__» ⟨[.ref x, b], []⟩) Q E s := by
  unfold Builtin.«object.__ne__»
  repeat (first
    | with_reducible refine wpAny_cRoomFor hu ?_
    | (refine wpAny_bind (m := callSpecialIfBound? (.ref x) (Str.ofString "__eq__") [b])
        (PySem.W.ifBound_K X I hs hf (wpAny_mono hcall (fun r s' hr => by
          obtain ⟨c, rfl, hq⟩ := hr
          repeat (first | exact hq | exact wpAny_pure hq | exact wpAny_truthy_bool hq | (refine wpAny_bind (m := truthy (.bool _)) (wpAny_truthy_bool ?_)) | wp_step)) fun _ _ e => e)))
    | wp_step)
theorem ne_K {Q : Value → Shared → Prop} (hu : A.units + 1 < cLine) (F0 : Fr h₀ L s.heap m) (X₀ : K.In h₀) (I : PySem.W.InstAt s.heap x ox C od) (hb : PySem.W.Looks (model prog w) s.heap (typeOf b) tb) (hn : PySem.W.notFirst K C tb = true)
    (hs : PySem.W.findIn K (.ref C) "__eq__" = some (some (.ref f))) (hf : PySem.W.isFn K (.ref f) = true) (hne : PySem.W.findIn K (.ref C) "__ne__" = some (some (.builtin "object.__ne__"))) (hm : PySem.W.mroIn K C (.type "object") = some true)
    (h : wpAny (model prog w) A.in1 (call (.ref f) [.ref x, b]) (fun v s' => ∃ c, v = .bool c ∧ Q (.bool (!c)) s') E s) : wpAny (model prog w) A (richCompare .NotEq (.ref x) b) Q E s := by
  have X := X₀.keeps F0.keep
  have one : wpAny (model prog w) A (tryCompare (.ref x) (cmpInfo .NotEq).2.1 b) (fun r s' => ∃ v, r = some v ∧ Q v s') E s := by
    unfold tryCompare
    refine wpAny_bind (ifBoundNe X I hne (wpAny_call (codeAny_call_builtin (by decide +kernel) PySem.F.cmpEntry_ne
      (PySem.W.check_slot PySem.F.cmpKind_ne PySem.F.cmpSplit_ne (I.type.andThen (PySem.W.looks_mroIn X hm)) (PySem.F.cmpArgs_ne _ _)
        (ne_entry (A := A.in1) X I hs hf (by exact hu) (wpAny_mono h (fun v s' hv => ?_) fun _ _ e => e))))))
    obtain ⟨c, rfl, hq⟩ := hv
    first | exact ⟨c, rfl, wpAny_pure ⟨_, rfl, hq⟩⟩ | exact ⟨c, rfl, wpAny_pure (wpAny_pure ⟨_, rfl, hq⟩)⟩
  unfold richCompare
  simp only [oneThing_ref]
  refine wpAny_holding (wpAny_bind (wpAny_cRoomFor (Nat.lt_of_succ_lt hu) ?_))
  refine wpAny_bind (I.type.here (wpAny_bind (hb.here ?_)))
  split
  · rename_i q
    have e : PySem.W.subIn K tb (.ref C) = some false := by
      rcases Bool.or_eq_true_iff.mp hn with e | e
      · rw [beq_iff_eq.mp e] at q; simp at q
      · exact beq_iff_eq.mp e
    refine wpAny_bind ((PySem.W.looks_subIn X e).here ?_)
    simp only [Bool.false_eq_true, if_false]
    refine wpAny_bind (wpAny_mono one (fun r s' z => ?_) fun _ _ e => e)
    obtain ⟨v, rfl, hq⟩ := z
    exact wpAny_pure hq
  · refine wpAny_bind (wpAny_pure ?_)
    simp only [Bool.false_eq_true, if_false]
    refine wpAny_bind (wpAny_mono one (fun r s' z => ?_) fun _ _ e => e)
    obtain ⟨v, rfl, hq⟩ := z
    exact wpAny_pure hq
end
section
variable {X : Cx} {CX : CXT} {n : Nat} {C f : Addr} {fd : FuncData} {ps : List Str} {sp : Sp} {E : XK}
theorem op_neO (F : FnOk X.prog X.w X.K X.mg X.base CX n f fd ps sp) (hs : PySem.W.findIn X.K (.ref C) "__eq__" = some (some (.ref f))) (hf : PySem.W.isFn X.K (.ref f) = true) (hne : PySem.W.findIn X.K (.ref C) "__ne__" = some (some (.builtin "object.__ne__"))) (hm : PySem.W.mroIn X.K C (.type "object") = some true)
    (hb : Binds X.K fd ps []) (hx : Passes CX X E) (hr : Room (n + 1) X.A) : OpR X (compareOp .NotEq) (rNeO X.K C sp E) := by
  intro pins s σ H x y v u Q I rx ry h
  obtain ⟨a, dx, fs, t, rfl, ha, ty, hn, q⟩ := h
  cases (show v = Value.ref a from rx)
  obtain ⟨mA, J, _⟩ := ins_get I.hok ha
  obtain ⟨od, J, _⟩ := J.look
  obtain ⟨P, Z, p, _⟩ := kit_of I ry ty
  obtain ⟨m, hF⟩ := I.fr
  show wpAny (model X.prog X.w) X.A (richCompare .NotEq (.ref a) u) (EP X pins σ Q) X.xe s
  refine ne_K (tb := t) (by exact hr.in1.units0) hF I.ok.mod.kin J (Z.ty _ _ I.kIn p) hn hs hf hne hm ?_
  refine wpAny_mono (run_eq F hb hx hr.in1 rfl I rx ry q) (fun w s' z => ?_) fun _ _ x => x
  obtain ⟨z', H', I', rz, c, rfl, qz⟩ := z
  exact ⟨c, rz, ⟨.bl (!c), H', I', rfl, qz⟩⟩
end
end L2
end
section
set_option Elab.async false
set_option linter.all false
set_option maxRecDepth 100000
set_option maxHeartbeats 4000000
/-! T0: the toolbox -/
namespace D1
open PySem L2 Evl
/-- addresses that may change, and what is always true of them -/
structure Fr where
  chg : Addr → Prop
  inv : Hp → Prop
  mono : ∀ H H', Ex H H' → inv H → inv H'
  live : ∀ H b, inv H → chg b → H b ≠ none
/-- from H to H': the invariant holds behind, all else stays -/
structure Fr.R (F : Fr) (H H' : Hp) : Prop where
  inv : F.inv H'
  keep : ∀ b o, ¬F.chg b → H b = some o → H' b = some o
theorem Fr.R.trans {F : Fr} {H H1 H2 : Hp} (a : F.R H H1) (b : F.R H1 H2) : F.R H H2 := ⟨b.inv, fun c o n e => b.keep c o n (a.keep c o n e)⟩
theorem Fr.R.refl {F : Fr} {H : Hp} (h : F.inv H) : F.R H H := ⟨h, fun _ _ _ e => e⟩
theorem Fr.R.ex {F : Fr} {H H' : Hp} (h : F.inv H) (e : Ex H H') : F.R H H' := ⟨F.mono H H' e h, fun b o _ x => e b o x⟩
theorem Fr.R.new {F : Fr} {H : Hp} {p : Addr} {o : HO} (h : F.inv H) (hp : H p = none) : F.R H (upd H p o) := .ex h (.new hp)
theorem Fr.fresh {F : Fr} {H : Hp} {p : Addr} (h : F.inv H) (hp : H p = none) : ¬F.chg p := fun m => F.live H p h m hp
/-- an object of one's own changes -/
theorem Fr.R.set {F : Fr} {H H1 : Hp} {p : Addr} {o : HO} (hinv : F.inv (upd H1 p o)) (r : F.R H H1) (hp : H p = none) : F.R H (upd H1 p o) := ⟨hinv, fun b u n e => by
  rw [upd_ne (ne_of_none e hp)]
  exact r.keep b u n e⟩
theorem yes_of {c : Bool} {A B : Prop} (hc : c = true) (h : A) : if c = true then A else B := by
  rw [if_pos hc]
  exact h
theorem no_of {c : Bool} {A B : Prop} (hc : c = false) (h : B) : if c = true then A else B := by
  rw [hc, if_neg Bool.false_ne_true]
  exact h
theorem atI_of {xs : List V} {i : Int} {v : V} (h0 : 0 ≤ i) (h : xs[i.toNat]? = some v) : atI xs i = some v := by
  have e1 : i = (i.toNat : Int) := by omega
  generalize i.toNat = j at e1 h
  subst e1
  exact atI_nat h
theorem seq0 {n : Nat} (h : 0 < n) : seqIndex? 0 n = some 0 := by
  unfold seqIndex?
  first
    | rfl
    | simp [h]
/-! ### // by a divisor of any size up to 2 ^ 64 -/
def CDivL (i j : Int) : Prop := 0 < j ∧ j < 2 ^ 64
theorem op_fdivL {X : Cx} : OpR X (binaryOp .FloorDiv) (rI CDivL fun i j => .int (i / j)) := opI fun i j _ _ _ _ _ hc q => by
  have h1 : (0 : Int) < j := hc.1
  have h2 : j < 2 ^ 64 := hc.2
  refine PyProof.Rows.floordiv_int (by omega) (by rw [Int.fdiv_eq_ediv_of_nonneg i (by omega)]; exact q) (.inl (PyProof.noPylong_of_log2 ?_))
  have h0 : j.natAbs ≠ 0 := by omega
  have h3 : j.natAbs < 2 ^ 64 := by omega
  have := (Nat.log2_lt h0).mpr h3
  omega
end D1
namespace D1
open PySem PySem.Spec PyProof.Rows L2 Evl ClX
section
variable {X : Cx} {CX : CXT} {k : Nat} {C g : Addr} {fd : FuncData} {ps : List Str} {sp : Sp} {dvs : List V} {ds : List Value} {E : XK} {m : Str} {o e : Expr} {es : List Expr} {ta : TE} {t : TA} {apos pos : Pos} {mc : Value}
/-- Base.m(self, ..) -/
def tCfn (C : Addr) (sp : Sp) (dvs : List V) (E : XK) (ta : TE) (t : TA) : TE := fun σ H Q => ta σ H fun x H1 => x = .ref C ∧ t σ H1 fun vs H2 => sp (vs ++ dvs) H2 Q E
theorem pe_cfn {pl : Sem Bool} (he : PE X o ta) (r : CRead X.K C mc) (c : CVal X.K C mc m (.ref g) (.ref g)) (F : FnOk X.prog X.w X.K X.mg X.base CX k g fd ps sp) (hr : Room k X.A) (hk : PySem.W.keepIn X.K (.ref g) = true) (hb : Binds X.K fd ps ds) (hd : Vals dvs ds) (hx : Passes CX X E) (ha : PA X (e :: es) t)
    (hst : starEach (e :: es) X.env = (false, eval e X.env) :: starEach es X.env := by rfl) (hpl : (backTo pos (starEach es X.env)).any (·.1) = false := by rfl)
    (ht : eval (.Call (.Attribute o m apos) (e :: es) [] pos) X.env = (do
      let ov ← eval o X.env
      standAt apos.atName
      let (f, first) ← holding [ov] (getMethod ov m pl)
      callWith pos f first (backTo pos (starEach (e :: es) X.env)) (backToKw pos (keywordEach [] X.env))) := by rfl) :
    PE X (.Call (.Attribute o m apos) (e :: es) [] pos) (tCfn C sp dvs E ta t) := by
  refine ⟨fun pins s σ H Q I h => ?_⟩
  refine PySem.W.methodCall_KW (pl := pl) (thn (he.run pins s σ H _ I h) fun u s1 ⟨x, H1, I1, rx, ex, q⟩ => ?_) ht
  subst ex
  obtain rfl : u = Value.ref C := rx
  refine PySem.W.method_cls I1.kIn r.ga (getcval_ok I1 r c fun s2 I2 => ?_)
  refine PySem.W.callWith_K (first := []) (h₀ := X.base) I2.ok.mod.kin hk (thn (ha.run pos pins s2 σ H1 _ I2 q) fun us s3 ⟨vs, H3, I3, r3, q3⟩ => ⟨I3.kIn, ?_⟩) hst hpl
  exact run_fn F hr hb hd hx I3 r3 q3
/-- a class of several, and the promise of its method -/
structure HeldM (P : Program) (w : World) (K : PySem.W.Frag) (mg : Str → Option Value) (base : Heap) (k : Nat) (m : Str) (C : Addr) (sp : Sp) : Prop where
  cls : Cls K C
  ex : ∃ (g : Addr) (fd : FuncData) (ps : List Str), Meth K C m g ∧ FnOk P w K mg base CX0 k g fd ps sp ∧ Binds K fd ps []
def tMethA (m : Str) (S : Addr → Option Sp) (ta : TE) (t : TA) : TE := fun σ H Q => ta σ H fun x H1 => ∃ a C dx fs sp, x = .ref a ∧ S C = some sp ∧ H1 a = some (.ins C dx fs) ∧ fs.lookup m = none ∧ t σ H1 fun vs H2 => sp (x :: vs) H2 Q E0
theorem pe_methA {pl : Sem Bool} {S : Addr → Option Sp} (A : ∀ C sp, S C = some sp → HeldM X.prog X.w X.K X.mg X.base k m C sp) (he : PE X o ta) (hr : Room k X.A) (ha : PA X (e :: es) t)
    (hst : starEach (e :: es) X.env = (false, eval e X.env) :: starEach es X.env := by rfl) (hpl : (backTo pos (starEach es X.env)).any (·.1) = false := by rfl)
    (ht : eval (.Call (.Attribute o m apos) (e :: es) [] pos) X.env = (do
      let ov ← eval o X.env
      standAt apos.atName
      let (f, first) ← holding [ov] (getMethod ov m pl)
      callWith pos f first (backTo pos (starEach (e :: es) X.env)) (backToKw pos (keywordEach [] X.env))) := by rfl) :
    PE X (.Call (.Attribute o m apos) (e :: es) [] pos) (tMethA m S ta t) := by
  refine ⟨fun pins s σ H Q I h => ?_⟩
  refine PySem.W.methodCall_KW (pl := pl) (thn (he.run pins s σ H _ I h) fun u s1 ⟨x, H1, I1, rx, a, C, dx, fs, sp, ex, hS, ea, l, q⟩ => ?_) ht
  subst ex
  obtain rfl : u = Value.ref a := rx
  have HM := A C sp hS
  obtain ⟨g, fd, ps, hm, F, hb⟩ := HM.ex
  refine getmeth_ok I1 ea HM.cls hm l ?_
  refine PySem.W.callWith_K (first := [.ref a]) (h₀ := X.base) I.ok.mod.kin hm.kp (thn (ha.run pos pins s1 σ H1 _ I1 q) fun us s2 ⟨vs, H2, I2, r, q2⟩ => ⟨I2.kIn, ?_⟩) hst hpl
  exact run_fn (dvs := []) (ds := []) (E := E0) (us := .ref a :: us) (vs := .ref a :: vs) F hr hb .nil pass0 I2 (.cons rfl r) (by rw [List.append_nil]; exact q2)
theorem pe_methA0 {pl : Sem Bool} {S : Addr → Option Sp} (A : ∀ C sp, S C = some sp → HeldM X.prog X.w X.K X.mg X.base k m C sp) (he : PE X o ta) (hr : Room k X.A)
    (ht : eval (.Call (.Attribute o m apos) [] [] pos) X.env = (do
      let ov ← eval o X.env
      standAt apos.atName
      let (f, first) ← holding [ov] (getMethod ov m pl)
      callWith pos f first (backTo pos (starEach [] X.env)) (backToKw pos (keywordEach [] X.env))) := by rfl) :
    PE X (.Call (.Attribute o m apos) [] [] pos) (tMethA m S ta tNil) := by
  refine ⟨fun pins s σ H Q I h => ?_⟩
  refine PySem.W.methodCall_KW (pl := pl) (thn (he.run pins s σ H _ I h) fun u s1 ⟨x, H1, I1, rx, a, C, dx, fs, sp, ex, hS, ea, l, q⟩ => ?_) ht
  subst ex
  obtain rfl : u = Value.ref a := rx
  have HM := A C sp hS
  obtain ⟨g, fd, ps, hm, F, hb⟩ := HM.ex
  refine getmeth_ok I1 ea HM.cls hm l ?_
  exact PySem.W.callWith_K0 (first := [.ref a]) I1.kIn hm.kp (run_fn (dvs := []) (ds := []) (E := E0) (us := [.ref a]) (vs := [.ref a]) F hr hb .nil pass0 I1 (.cons rfl .nil) (by rw [List.append_nil]; exact q))
end
end D1
namespace L2
open PySem PySem.Spec PyProof.Rows PySem.VX
theorem FunD.asFun {K : PySem.W.Frag} {x qual : Str} {st : Stmt} {f : Addr} {fd : FuncData} (F : FunD K x qual (defArgs st) (defBody st) (defScope st) [] [] f fd) : Fun K x qual st f fd := by
  obtain ⟨oc, od, dV, kV, doc, pm, an, cdv, ct, osl, e, lk, hcd, hD, _⟩ := F.ex
  rcases hD with ⟨_, rfl⟩ | ⟨hn, _⟩
  · exact ⟨⟨oc, od, kV, doc, pm, an, cdv, ct, osl, e, lk, hcd⟩, F.kp⟩
  · exact absurd rfl hn
def shN : V → Str
  | .non => "None"
  | .int i => toString i
  | _ => ""
/-- repr(x), x None or a number -/
def rReprN : List V → Hp → VK → Prop := fun xs H Q => ∃ v, xs = [v] ∧ (v = .non ∨ ∃ i, v = .int i ∧ i.natAbs.log2 < 1920) ∧ Q (.str (shN v)) H
theorem call_reprN {X : Cx} : CallR X (.builtin "repr") rReprN := by
  intro pins s σ H xs us Q I r h
  obtain ⟨v, rfl, hv, q⟩ := h
  obtain ⟨u, rfl, ru⟩ := vals1 r
  rcases hv with rfl | ⟨i, rfl, hi⟩
  · obtain rfl : u = Value.none := ru
    exact PySem.P.repr_of_none ⟨.str "None", H, I.tok _, ⟨_, rfl⟩, q⟩
  · obtain ⟨t, rfl⟩ := ru
    exact PySem.P.repr_of_int hi ⟨.str _, H, I.tok _, ⟨_, rfl⟩, q⟩
end L2
namespace D1
open PySem L2
def Low (z : Str) : Prop := ∀ c ∈ z.cps.toList, c < 128
structure Shp (d : PyData) (k n : Nat) : Prop where
  fs : d.showable = true
  fn : d.hasDict = false
  fd : d.depth ≤ k
  fl : d.leavesShort 8 = true
  fw : d.weight ≤ n
structure ShpA (ds : List PyData) (k n : Nat) : Prop where
  fs : PyData.showableAll ds = true
  fn : PyData.hasDictAll ds = false
  fd : PyData.depthAll ds ≤ k
  fl : PyData.leavesShortAll 8 ds = true
  fw : PyData.weightAll ds ≤ n
theorem ShpA.nil {k n : Nat} : ShpA [] k n := ⟨rfl, rfl, by simp [PyData.depthAll], rfl, by simp [PyData.weightAll]⟩
theorem ShpA.cons {d : PyData} {ds : List PyData} {k n m p : Nat} (h : Shp d k n) (r : ShpA ds k m) (hp : n + 1 + m ≤ p) : ShpA (d :: ds) k p := by
  refine ⟨?_, ?_, ?_, ?_, ?_⟩
  · simp only [PyData.showableAll, h.fs, r.fs, Bool.and_self]
  · simp only [PyData.hasDictAll, h.fn, r.fn, Bool.or_self]
  · simp only [PyData.depthAll]
    exact Nat.max_le.mpr ⟨h.fd, r.fd⟩
  · simp only [PyData.leavesShortAll, h.fl, r.fl, Bool.and_self]
  · simp only [PyData.weightAll]
    have a := h.fw
    have b := r.fw
    omega
theorem Shp.list {ds : List PyData} {k n : Nat} (h : ShpA ds k n) : Shp (.list ds) (k + 1) n := ⟨h.fs, h.fn, Nat.succ_le_succ h.fd, h.fl, h.fw⟩
theorem Shp.tuple {ds : List PyData} {k n : Nat} (h : ShpA ds k n) : Shp (.tuple ds) (k + 1) n := ⟨h.fs, h.fn, Nat.succ_le_succ h.fd, h.fl, h.fw⟩
theorem Shp.none {k n : Nat} : Shp .none k n := ⟨rfl, rfl, by simp [PyData.depth], rfl, by simp [PyData.weight]⟩
theorem Shp.bool {b : Bool} {k n : Nat} : Shp (.bool b) k n := ⟨rfl, rfl, by simp [PyData.depth], rfl, by simp [PyData.weight]⟩
theorem Shp.str {z : Str} {k n : Nat} (h : Low z) (hn : z.length ≤ n) : Shp (.str z) k n := by
  refine ⟨rfl, rfl, by simp [PyData.depth], ?_, ?_⟩
  · simp only [PyData.leavesShort, List.all_eq_true, decide_eq_true_eq]
    exact fun c hc => Nat.lt_of_lt_of_le (h c hc) (by decide)
  · simp only [PyData.weight]
    exact hn
theorem ShpA.strs {k n m : Nat} : ∀ {zs : List Str}, (∀ z ∈ zs, Low z ∧ z.length ≤ n) → zs.length * (n + 1) ≤ m → ShpA (zs.map .str) k m
  | [], _, _ => .nil
  | z :: r, h, hm => by
    rw [List.length_cons, Nat.succ_mul] at hm
    exact ShpA.cons (.str (h z List.mem_cons_self).1 (h z List.mem_cons_self).2) (ShpA.strs (n := n) (m := r.length * (n + 1)) (fun y hy => h y (List.mem_cons_of_mem _ hy)) (Nat.le_refl _)) (by omega)
theorem Shp.fits {d : PyData} {k n : Nat} (h : Shp d k n) (hn : n ≤ 1600000) : d.shown.length ≤ sizeLine := by
  have a := PyData.shown_le 8 (by decide) d h.fl
  have b := h.fw
  rw [sizeLine_eq]
  omega
section
variable {K : PySem.W.Frag} {σ : L2.St} {H : Hp} {te ta : TE} {Q : VK}
/-- repr of data, as a reading -/
theorem rep_of {p : Addr} {d : PyData} {k n : Nat} (h : Dp K H (.ref p) d) (s : Shp d k n) (hk : k ≤ 60) (hn : n ≤ 1600000) (q : Q (.str d.shown) H) : rReprD K [.ref p] H Q :=
  ⟨p, d, rfl, h, s.fs, s.fn, Nat.le_trans s.fd hk, s.fits hn, q⟩
end
end D1
namespace L2
open PySem PySem.Spec PyProof.Rows
theorem ps_dead {X : Cx} {st : Stmt} : PS X st (fun _ _ _ => False) := ⟨fun _ _ _ _ _ _ h => h.elim⟩
end L2
namespace D1
open PySem L2 Evl RZ ClX PySem.VX
theorem turns_it {J : It} {n : Nat} {G : Hp → Prop} {Y : Nat → Hp → V → Hp → Prop} (w : Walk J n G Y) {Qd : Hp → Prop} {H1 : Hp} {B : V → Hp → (Hp → Prop) → Prop} (Pv : Nat → Hp → Prop) (h0 : Pv 0 H1) (hG : ∀ i H, i ≤ n → Pv i H → G H)
    (hs : ∀ i x H H', i < n → Pv i H → Y i H x H' → B x H' (Pv (i + 1))) (hd : ∀ H, Pv n H → Qd H) :
    ∃ W : Nat → Nat → Hp → Prop, (∃ m, W 0 m H1) ∧ ∀ i m H, W i m H → (J.stop i H ∧ Qd H) ∨ (J.go i H ∧ ∃ Nx : Hp → Prop, (∀ H', Nx H' → ∃ m', m' < m ∧ W (i + 1) m' H') ∧ ∀ x H', J.yld i H x H' → B x H' Nx) := by
  refine ⟨fun i m H => m = n - i ∧ i ≤ n ∧ Pv i H, ⟨n, by simp, Nat.zero_le _, h0⟩, ?_⟩
  rintro i m H ⟨rfl, hi, p⟩
  have q := hG i H hi p
  by_cases hlt : i < n
  · refine .inr ⟨w.goes i H hlt q, Pv (i + 1), fun H' p' => ⟨n - (i + 1), by omega, rfl, hlt, p'⟩, fun x H' y => hs i x H H' hlt p (w.yields i H x H' hlt q y)⟩
  · have e : i = n := by omega
    subst e
    exact .inl ⟨w.stops H q, hd H p⟩
theorem tyes_go {σ : L2.St} {H : Hp} {P : Bool → Hp → Prop} (h : P true H) : tYes σ H P := h
section
variable {K : PySem.W.Frag} {σ : L2.St} {H : Hp} {te ta tb tl tx : TE}
theorem ev_all {bs : List Bool} (h : EvL ta σ H (bs.map V.bl)) : Ev (tCB (rAll K) (tCons ta tNil)) σ H (.bl (bs.all id)) := fun H1 e Q q =>
  h H1 e _ fun p H2 _ e2 hp => ⟨p, bs, rfl, sq_of hp, q H2 e2⟩
theorem given_map (n : Nat) (g : Nat → Bool) : given n (fun _ => true) (fun i => V.bl (g i)) = (((List.range n).map g).map V.bl) := by
  unfold given
  rw [List.filter_eq_self.mpr (fun _ _ => rfl), List.map_map]
  rfl
theorem all_range (n : Nat) (g : Nat → Bool) : ((List.range n).map g).all id = (List.range n).all g := by
  rw [List.all_map]
  rfl
theorem ev_eqI {σ : L2.St} {H : Hp} {ta tb : TE} {x y : Int} (ha : Ev ta σ H (.int x)) (hb : Ev tb σ H (.int y)) : Ev (tOp rEq ta tb) σ H (.bl (x == y)) := by
  have h := ev_op ha hb (rv_eq (x := .int x) (y := .int y) rfl)
  rw [dec_int] at h
  exact h
theorem ev_isi {T U : String} {b : Bool} (hx : Ev tx σ H x) (ty : ∀ H1, Ex H H1 → TyX K H1 x (.type T)) (k : PySem.W.kitOne K (.type T) (.type U) = some b) (c : ClsV (.ty U) (.type U)) : Ev (tCB (rIsi K) (tCons tx (tCons (tC (.ty U)) tNil))) σ H (.bl b) := fun H1 e Q q =>
  hx H1 e _ fun H2 e2 => ⟨x, .ty U, .type T, .type U, b, rfl, c, ty H2 (e.trans e2), k, q H2 e2⟩
theorem ev_lenT {p : Addr} {ys : List V} (hx : Ev tx σ H (.ref p)) (h : SqT K H p ys) : Ev (tCB (fun xs H Q => ∃ p ys, xs = [V.ref p] ∧ (SqL K H p ys ∨ SqT K H p ys) ∧ Q (.int ys.length) H) (tCons tx tNil)) σ H (.int ys.length) := fun H1 e Q q =>
  hx H1 e _ fun H2 e2 => ⟨p, ys, rfl, .inr (ex_t (e.trans e2) h), q H2 e2⟩
theorem ev_neI {ta tb : TE} {a b : Int} (ha : Ev ta σ H (.int a)) (hb : Ev tb σ H (.int b)) : Ev (tOp rNe ta tb) σ H (.bl (!(a == b))) := by
  have h := ev_op ha hb (show RV rNe (.int a) (.int b) H (.bl (!decide (V.int a = V.int b))) from fun H1 _ _ q => ⟨rfl, q H1 (Ex.refl H1)⟩)
  rw [dec_int] at h
  exact h
theorem tup_ty {H : Hp} {a : Addr} {xs : List V} (h : H a = some (.tup xs)) : ∀ H1, Ex H H1 → TyX K H1 (.ref a) (.type "tuple") := fun H1 e => .base (.tup (e _ _ h))
theorem kit_tt : PySem.W.kitOne K (.type "tuple") (.type "tuple") = some true := kit_ty (show kitB _ _ = some true by decide +kernel)
theorem kit_ii : PySem.W.kitOne K (.type "int") (.type "int") = some true := kit_ty (show kitB _ _ = some true by decide +kernel)
theorem kit_ib : PySem.W.kitOne K (.type "int") (.type "bool") = some false := kit_ty (show kitB _ _ = some false by decide +kernel)
theorem kit_ss : PySem.W.kitOne K (.type "str") (.type "str") = some true := kit_ty (show kitB _ _ = some true by decide +kernel)
/-- [e for x in t], t a tuple -/
theorem el_lcT {a : Addr} {xs : List V} {j : Nat} {vs : List Nat} (v : Nat → V) (h : Ev tl σ H (.ref a)) (hx : SqT K H a xs) (hz : xs.length ≤ 40000) (hw : ∀ x, wipe ((wipe σ vs).set j (some x)) vs = wipe σ vs)
    (he : ∀ (i : Nat) (x : V) H1, Ex H H1 → xs[i]? = some x → Ev te ((wipe σ vs).set j (some x)) H1 (v i)) :
    EvL (tLc (iTup K tl) (gName j) tYes te vs) σ H (given xs.length (fun _ => true) v) := fun H0 e Q q => h H0 e _ fun H1 e1 => ⟨a, rfl, ⟨xs, ex_t (e.trans e1) hx⟩, fun Dl hD =>
  lc_it (walk_tup (xs := xs)) (Cw H1 (fun _ => true) v Dl) ⟨hD, Ex.new hD, upd_same⟩ (fun i H' _ p => ex_t ((e.trans e1).trans p.2.1) hx) (fun i x H5 H6 hi p y => by
    obtain ⟨rfl, hx⟩ := y
    exact ⟨hw _, cw_turn (f := fun _ => true) p (by omega) (fun H4 _ Q' q => q H4 (Ex.refl H4)) (fun _ => he i x H1 (e.trans e1) hx)⟩) (fun H' p => q Dl H' (fresh_back e1 p.1) (e1.trans p.2.1) p.2.2)⟩
def within (a b i : Int) : Bool := decide (a ≤ i) && decide (i ≤ b)
theorem ev_chainLe {ta tb tc : TE} {a b c : Int} (ha : Ev ta σ H (.int a)) (hb : Ev tb σ H (.int b)) (hc : Ev tc σ H (.int c)) : Ev (tChain (rI0 fun i j => .bl (decide (i ≤ j))) (rI0 fun i j => .bl (decide (i ≤ j))) ta tb tc) σ H (.bl (within a c b)) := fun H1 e Q q =>
  ha H1 e _ fun H2 e2 => hb H2 (e.trans e2) _ fun H3 e3 => ⟨a, b, rfl, rfl, _, rfl, by
    unfold within at q
    cases hk : decide (a ≤ b) with
    | true =>
      rw [hk, Bool.true_and] at q
      refine yes_of rfl (hc H3 ((e.trans e2).trans e3) _ fun H4 e4 => ⟨b, c, rfl, rfl, q H4 ((e2.trans e3).trans e4)⟩)
    | false =>
      rw [hk, Bool.false_and] at q
      exact no_of rfl (q H3 (e2.trans e3))⟩
/-- all([e for x in t]) -/
theorem ev_allT {a : Addr} {xs : List V} {j : Nat} {vs : List Nat} (g : Nat → Bool) (h : Ev tl σ H (.ref a)) (hx : SqT K H a xs) (hz : xs.length ≤ 40000) (hw : ∀ x, wipe ((wipe σ vs).set j (some x)) vs = wipe σ vs)
    (he : ∀ (i : Nat) (x : V) H1, Ex H H1 → xs[i]? = some x → Ev te ((wipe σ vs).set j (some x)) H1 (.bl (g i))) :
    Ev (tCB (rAll K) (tCons (tLc (iTup K tl) (gName j) tYes te vs) tNil)) σ H (.bl ((List.range xs.length).all g)) := by
  have h1 := el_lcT (fun i => V.bl (g i)) h hx hz hw he
  rw [given_map] at h1
  have h2 := ev_all (K := K) h1
  rw [all_range] at h2
  exact h2
theorem all_rangeD {α : Type} {f : α → Bool} {d : α} (l : List α) : ((List.range l.length).all fun i => f (l.getD i d)) = l.all f := by
  rw [Bool.eq_iff_iff, List.all_eq_true, List.all_eq_true]
  constructor
  · intro h x hx
    obtain ⟨i, hi, rfl⟩ := List.mem_iff_getElem.mp hx
    have := h i (List.mem_range.mpr hi)
    rw [List.getD_eq_getElem?_getD, List.getElem?_eq_getElem hi] at this
    exact this
  · intro h i hi
    have hi2 := List.mem_range.mp hi
    rw [List.getD_eq_getElem?_getD, List.getElem?_eq_getElem hi2]
    exact h _ (List.getElem_mem hi2)
end
section
variable {K : PySem.W.Frag} {σ : L2.St} {H : Hp} {te ta tb tl tx : TE}
theorem ev_eqS {σ : L2.St} {H : Hp} {ta tb : TE} {x y : Str} (ha : Ev ta σ H (.str x)) (hb : Ev tb σ H (.str y)) : Ev (tOp rEq ta tb) σ H (.bl (x == y)) := by
  have h := ev_op ha hb (rv_eq (x := .str x) (y := .str y) rfl)
  rw [dec_str] at h
  exact h
theorem ev_gtI {σ : L2.St} {H : Hp} {ta tb : TE} {x y : Int} (ha : Ev ta σ H (.int x)) (hb : Ev tb σ H (.int y)) : Ev (tOp (rI0 fun i j => .bl (decide (j < i))) ta tb) σ H (.bl (decide (y < x))) := ev_op ha hb rv_I0
theorem ev_rep {K : PySem.W.Frag} {σ : L2.St} {H : Hp} {te : TE} {p : Addr} {d : PyData} {k n : Nat} (h : Ev te σ H (.ref p)) (dp : ∀ H1, Ex H H1 → Dp K H1 (.ref p) d) (s : Shp d k n) (hk : k ≤ 60) (hn : n ≤ 1600000) : Ev (tCB (rReprD K) (tCons te tNil)) σ H (.str d.shown) := fun H1 e Q q =>
  h H1 e _ fun H2 e2 => rep_of (dp H2 (e.trans e2)) s hk hn (q H2 e2)
theorem ev_isi0 {K : PySem.W.Frag} {σ : L2.St} {H : Hp} {tx : TE} {x : V} {t u : Value} {U : String} {b : Bool} (hx : Ev tx σ H x) (ty : ∀ H1, Ex H H1 → TyX K H1 x t) (k : PySem.W.kitOne K t u = some b) (c : ClsV (.ty U) u) : Ev (tCB (rIsi K) (tCons tx (tCons (tC (.ty U)) tNil))) σ H (.bl b) := fun H1 e Q q =>
  hx H1 e _ fun H2 e2 => ⟨x, .ty U, t, u, b, rfl, c, ty H2 (e.trans e2), k, q H2 e2⟩
theorem ev_neS {σ : L2.St} {H : Hp} {ta tb : TE} {x : Str} (ha : Ev ta σ H (.str x)) (hb : Ev tb σ H (.str x)) : Ev (tOp rNe ta tb) σ H (.bl false) := ev_op ha hb fun H1 _ Q q => ⟨rfl, by rw [decide_eq_true rfl]; exact q H1 (Ex.refl H1)⟩
theorem ev_isiC {x c : V} {t u : Value} {b : Bool} (hx : Ev tx σ H x) (ty : ∀ H1, Ex H H1 → TyX K H1 x t) (k : PySem.W.kitOne K t u = some b) (cc : ClsV c u) : Ev (tCB (rIsi K) (tCons tx (tCons (tC c) tNil))) σ H (.bl b) := fun H1 e Q q =>
  hx H1 e _ fun H2 e2 => ⟨x, c, t, u, b, rfl, cc, ty H2 (e.trans e2), k, q H2 e2⟩
end
def EvD (K : PySem.W.Frag) (te : TE) (σ : L2.St) (H : Hp) (d : PyData) : Prop := ∀ H1, Ex H H1 → ∀ Q : VK, (∀ p H2, Ex H1 H2 → Dp K H2 (.ref p) d → Q (.ref p) H2) → te σ H1 Q
theorem Dp.exD {K : PySem.W.Frag} {H : Hp} {p : Addr} {vs : List V} {ds : List PyData} (h : H p = some (.lst vs)) (hd : DpAll K H vs ds) : Dp K H (.ref p) (.list ds) := .lst (.inl (.inl h)) hd
section
variable {K : PySem.W.Frag} {σ : L2.St} {H : Hp} {te ta tb : TE} {tt : TT} {d : PyData}
theorem evd_L {vs : List V} {ds : List PyData} (h : EvL te σ H vs) (hd : ∀ H1, DpAll K H1 vs ds) : EvD K te σ H (.list ds) := fun H1 e Q q => h H1 e Q fun p H2 _ e2 h2 => q p H2 e2 (.lst (.inl (.inl h2)) (hd H2))
theorem evd_U {vs : List V} {ds : List PyData} (h : EvU te σ H vs) (hd : ∀ H1, DpAll K H1 vs ds) : EvD K te σ H (.tuple ds) := fun H1 e Q q => h H1 e Q fun p H2 _ e2 h2 => q p H2 e2 (.tup (.inl (.inl h2)) (hd H2))
theorem evd_var {i : Nat} {p : Addr} (hi : σ[i]? = some (some (.ref p))) (hd : ∀ H1, Ex H H1 → Dp K H1 (.ref p) d) : EvD K (tVar i) σ H d := fun H1 e Q q => ⟨_, hi, q p H1 (Ex.refl H1) (hd H1 e)⟩
theorem evd_if {b : Bool} (h : EvT tt σ H b) (h1 : b = true → EvD K ta σ H d) (h2 : b = false → EvD K tb σ H d) : EvD K (tIf tt ta tb) σ H d := fun H1 e Q q => h H1 e _ fun H2 e2 => by
  cases b with
  | true =>
    show ta σ H2 Q
    exact h1 rfl H2 (e.trans e2) Q fun p H3 e3 => q p H3 (e2.trans e3)
  | false =>
    show tb σ H2 Q
    exact h2 rfl H2 (e.trans e2) Q fun p H3 e3 => q p H3 (e2.trans e3)
theorem ev_repD {k n : Nat} (h : EvD K te σ H d) (s : Shp d k n) (hk : k ≤ 60) (hn : n ≤ 1600000) : Ev (tCB (rReprD K) (tCons te tNil)) σ H (.str d.shown) := fun H1 e Q q =>
  h H1 e _ fun p H2 e2 hd => rep_of hd s hk hn (q H2 e2)
/-- what is told, and what is due: alike -/
theorem ev_neRep {k n : Nat} (h : EvD K ta σ H d) (h' : EvD K tb σ H d) (s : Shp d k n) (hk : k ≤ 60) (hn : n ≤ 1600000) : Ev (tOp rNe (tCB (rReprD K) (tCons ta tNil)) (tCB (rReprD K) (tCons tb tNil))) σ H (.bl false) := ev_neS (ev_repD h s hk hn) (ev_repD h' s hk hn)
theorem ev_eqRep {k n : Nat} (h : EvD K ta σ H d) (h' : EvD K tb σ H d) (s : Shp d k n) (hk : k ≤ 60) (hn : n ≤ 1600000) : Ev (tOp rEq (tCB (rReprD K) (tCons ta tNil)) (tCB (rReprD K) (tCons tb tNil))) σ H (.bl true) := by
  have x := ev_eqS (ev_repD h s hk hn) (ev_repD h' s hk hn)
  rw [beq_self_eq_true] at x
  exact x
end
theorem low_of_dec {z : Str} (h : z.cps.toList.all (fun c => decide (c < 128)) = true) : Low z := fun c hc => of_decide_eq_true (List.all_eq_true.mp h c hc)
theorem Shp.up {d : PyData} {k k' n n' : Nat} (h : Shp d k n) (hk : k ≤ k') (hn : n ≤ n') : Shp d k' n' := ⟨h.fs, h.fn, Nat.le_trans h.fd hk, h.fl, Nat.le_trans h.fw hn⟩
section
variable {K : PySem.W.Frag} {H : Hp}
theorem dp_ints2 : ∀ row : List Int, DpAll K H (row.map V.int) (row.map PyData.int)
  | [] => .nil
  | _ :: r => .cons (.int _) (dp_ints2 r)
end
theorem asg_step {i : Nat} {te : TE} {z : TS} {D : Ends} {σ : L2.St} {H : Hp} (h : te σ H fun x H1 => z D (σ.set i (some x)) H1) : tSeq (tAsg te (gName i)) z D σ H := h
theorem ret_ix {r : R2} {te ti : TE} {t : TA} {D : Ends} {σ : L2.St} {H : Hp} (h : te σ H fun x H1 => t σ H1 fun xs H2 => (x :: xs).length ≤ sizeLine ∧ ∀ p, H2 p = none → ti σ (upd H2 p (.lst (x :: xs))) fun y H3 => r (.ref p) y H3 D.rt) : tRet (tOp r (tLst (tCons te t)) ti) D σ H := h
theorem asg_to {i : Nat} {te : TE} {z : TS} {D : Ends} {σ : L2.St} {H : Hp} (h : te σ H fun x H1 => ∃ σ', σ.set i (some x) = σ' ∧ z D σ' H1) : tSeq (tAsg te (gName i)) z D σ H := by
  have e : (fun x H1 => ∃ σ', σ.set i (some x) = σ' ∧ z D σ' H1) = fun x H1 => z D (σ.set i (some x)) H1 := by
    funext x H1
    exact propext ⟨fun ⟨_, e, h⟩ => e ▸ h, fun h => ⟨_, rfl, h⟩⟩
  rw [e] at h
  exact h
structure OkC (K : PySem.W.Frag) (C : Addr) : Prop where
  cls : Cls K C
  no : ∀ f ∈ fields, NoAttr K C f
/-- all but a stays -/
def Only (a : Addr) (H H' : Hp) : Prop := ∀ b o, b ≠ a → H b = some o → H' b = some o
theorem Only.upd {a : Addr} {H H1 : Hp} {o : HO} (h : Only a H H1) : Only a H (upd H1 a o) := fun b u n e => by
  rw [upd_ne n]
  exact h b u n e
theorem Only.refl {a : Addr} {H : Hp} : Only a H H := fun _ _ _ e => e
theorem Only.ex {a : Addr} {H H1 H2 : Hp} (h : Only a H H1) (e : Ex H1 H2) : Only a H H2 := fun b u n k => e _ _ (h b u n k)
theorem Only.trans {a : Addr} {H H1 H2 : Hp} (h : Only a H H1) (k : Only a H1 H2) : Only a H H2 := fun b u n e => k b u n (h b u n e)
/-- Base.__init__ read off the class -/
structure BaseI (K : PySem.W.Frag) (mg : Str → Option Value) (x : Str) (g : Addr) : Prop where
  ex : ∃ (C : Addr) (mc : Value), mg x = some (.ref C) ∧ CRead K C mc ∧ CVal K C mc "__init__" (.ref g) (.ref g)
theorem put_len (f : Str) (v : V) : ∀ fs : List (Str × V), (putF f v fs).length ≤ fs.length + 1
  | [] => Nat.le_refl _
  | (g, x) :: r => by
    unfold putF
    split
    · simp
    · have := put_len f v r
      simp only [List.length_cons]
      omega
theorem made_ex {H H' : Hp} {x dx C : Addr} (nx : H x = none) (ndx : H dx = none) (o : Only x (upd (upd H dx (.own x)) x (.ins C dx [])) H') : Ex H H' := fun b u e => o b u (ne_of_none e nx) (by rw [upd_ne (ne_of_none e nx), upd_ne (ne_of_none e ndx)]; exact e)
theorem new_ex {H : Hp} {x dx C : Addr} (nx : H x = none) (ndx : H dx = none) : Ex H (upd (upd H dx (.own x)) x (.ins C dx [])) := made_ex nx ndx Only.refl
theorem rv_notB {a b : Bool} : RV rNotB (.bl a) (.bl b) H (.bl (!decide (a = b))) := fun H1 _ Q q => ⟨a, b, rfl, rfl, q H1 (Ex.refl H1)⟩
theorem rv_isB {a b : Bool} : RV rIsB (.bl a) (.bl b) H (.bl (decide (a = b))) := fun H1 _ Q q => ⟨a, b, rfl, rfl, q H1 (Ex.refl H1)⟩
def rRepI : List V → Hp → VK → Prop := fun xs H Q => ∃ i : Int, xs = [.int i] ∧ i.natAbs.log2 < 1920 ∧ Q (.str (toString i)) H
section
variable {K : PySem.W.Frag} {σ : L2.St} {H : Hp} {te ta tb tl tx : TE}
theorem ev_repI {i : Int} (h : Ev te σ H (.int i)) (hs : i.natAbs.log2 < 1920) : Ev (tCB rRepI (tCons te tNil)) σ H (.str (toString i)) := fun H1 e Q q => h H1 e _ fun H2 e2 => ⟨i, rfl, hs, q H2 e2⟩
/-- two new tuples of flat data: unlike, or not -/
theorem ev_neU {vs us : List V} {ds es : List PyData} (h : EvU ta σ H vs) (h' : EvU tb σ H us) (hd : ∀ H1, DpAll K H1 vs ds) (he : ∀ H1, DpAll K H1 us es) (sd : SeqAt.shaped (.tuple ds) = true) (se : SeqAt.shaped (.tuple es) = true) :
    Ev (tOp (rNeD K) ta tb) σ H (.bl (!PyData.eqv (.tuple ds) (.tuple es))) := ev_opUU h h' fun p q H1 hp hq _ H2 e2 Q k => ⟨.tuple ds, .tuple es, .tup (.inl (.inl (e2 _ _ hp))) (hd H2), .tup (.inl (.inl (e2 _ _ hq))) (he H2), sd, se, k H2 (Ex.refl H2)⟩
end
end D1
namespace D1
open PySem L2 Evl RZ ClX PySem.VX
/-- isinstance(e, c) within the suite that holds e -/
def rIsX (K : PySem.W.Frag) (cls : Value) (d : Option Addr) (a : Addr) : List V → Hp → VK → Prop := fun xs H Q => ∃ (C dd : Addr) (fs : List (Str × V)) (c : V) (cv : Value) (b : Bool), xs = [.ref a, c] ∧ cls = .ref C ∧ d = some dd ∧ H dd = some (.xd fs) ∧ ExcC K C ∧ (∀ u, RelV c u → u = cv) ∧ PySem.W.kitOne K (.ref C) cv = some b ∧ Q (.bl b) H
theorem call_isX {X : Cx} {a : Addr} {oe : Obj} {cls : Value} {d : Option Addr} {pn : List (Addr × Obj)} (hz : Zc cls d oe) (hf : ∃ vs, oe.data = .fields vs) : CallR (X.suite a ((a, oe) :: pn)) (.builtin "isinstance") (rIsX X.K cls d a) := by
  intro pins s σ H xs us Q I r h
  obtain ⟨C, dd, fs, c, cv, b, rfl, ec, ed, hdd, T, hcv, e, q⟩ := h
  subst ec
  subst ed
  obtain ⟨u, u2, rfl, ru, r2⟩ := vals2 r
  obtain rfl : u = Value.ref a := ru
  have ec := hcv _ r2
  subst ec
  obtain ⟨ha, _⟩ := I.pin (a, oe) (List.mem_append_left _ List.mem_cons_self)
  obtain ⟨vs, hd⟩ := hf
  have hx : ObjOk X.prog X.w H s.heap dd (.xd fs) := I.hok dd _ hdd
  obtain ⟨mA, hns, hr⟩ := hx
  obtain ⟨od, ho, hl⟩ := lookIn_ns hns
  have J : PySem.W.InstAt s.heap a oe C (some od) := ⟨ha, hz.1, by unfold PySem.W.notCls; rw [hd] <;> rfl, by rw [hz.2]; exact ho⟩
  have hcl : (PySem.W.clsIn X.K C).isSome = true := by
    obtain ⟨cd, hc, _⟩ := PySem.W.any_some T.hd
    rw [hc]
    rfl
  exact PySem.W.kia_one (PySem.W.kitx_exc hcl T.hg T.hk T.hs T.ha T.hn T.ht T.hm) I.kIn J e (fun z => nomatch z) fun tk => ⟨.bl b, H, I.kept (t' := tk) fun _ _ z => z, rfl, q⟩
end D1
end
section
set_option Elab.async false
set_option linter.all false
set_option maxRecDepth 100000
set_option maxHeartbeats 4000000
/-! R0: data as it lies; kinds of rings -/
namespace D1
open PySem L2 Evl RZ ClX PySem.VX
mutual
inductive DtAt (H : Hp) : V → PyData → Prop
  | non : DtAt H .non .none
  | bl (b : Bool) : DtAt H (.bl b) (.bool b)
  | int (i : Int) : DtAt H (.int i) (.int i)
  | str (z : Str) : DtAt H (.str z) (.str z)
  | tup {a : Addr} {us : List V} {ds : List PyData} (h : H a = some (.tup us)) (r : DtAll H us ds) : DtAt H (.ref a) (.tuple ds)
inductive DtAll (H : Hp) : List V → List PyData → Prop
  | nil : DtAll H [] []
  | cons {v : V} {us : List V} {d : PyData} {ds : List PyData} (h : DtAt H v d) (r : DtAll H us ds) : DtAll H (v :: us) (d :: ds)
end
/-- tuples and instances stay -/
def stays : HO → Bool
  | .tup _ => true
  | .ins _ _ _ => true
  | _ => false
def Kp (H H' : Hp) : Prop := ∀ a o, stays o = true → H a = some o → H' a = some o
theorem Kp.ex {H H' : Hp} (e : Ex H H') : Kp H H' := fun a o _ h => e a o h
theorem Kp.refl (H : Hp) : Kp H H := fun _ _ _ h => h
theorem Kp.trans {H H1 H2 : Hp} (a : Kp H H1) (b : Kp H1 H2) : Kp H H2 := fun x o s h => b x o s (a x o s h)
theorem Kp.tup {H H' : Hp} (k : Kp H H') {a : Addr} {us : List V} (h : H a = some (.tup us)) : H' a = some (.tup us) := k a _ rfl h
theorem Kp.ins {H H' : Hp} (k : Kp H H') {a C dx : Addr} {fs : List (Str × V)} (h : H a = some (.ins C dx fs)) : H' a = some (.ins C dx fs) := k a _ rfl h
mutual
theorem DtAt.kp' {H H' : Hp} (k : Kp H H') : ∀ (d : PyData) (v : V), DtAt H v d → DtAt H' v d
  | .tuple ds, _, h => by
    cases h with
    | tup h r => exact .tup (k.tup h) (DtAll.kp' k ds _ r)
  | .none, _, h => by
    cases h
    exact .non
  | .bool _, _, h => by
    cases h
    exact .bl _
  | .int _, _, h => by
    cases h
    exact .int _
  | .str _, _, h => by
    cases h
    exact .str _
  | .list _, _, h => by cases h
  | .dict _, _, h => by cases h
theorem DtAll.kp' {H H' : Hp} (k : Kp H H') : ∀ (ds : List PyData) (us : List V), DtAll H us ds → DtAll H' us ds
  | [], _, h => by
    cases h
    exact .nil
  | d :: ds, _, h => by
    cases h with
    | cons h r => exact .cons (DtAt.kp' k d _ h) (DtAll.kp' k ds _ r)
end
theorem DtAt.kp {H H' : Hp} {v : V} {d : PyData} (h : DtAt H v d) (k : Kp H H') : DtAt H' v d := DtAt.kp' k d v h
theorem DtAll.kp {H H' : Hp} {v : List V} {d : List PyData} (h : DtAll H v d) (k : Kp H H') : DtAll H' v d := DtAll.kp' k d v h
theorem DtAt.ex {H H' : Hp} {v : V} {d : PyData} (h : DtAt H v d) (e : Ex H H') : DtAt H' v d := h.kp (.ex e)
theorem DtAll.ex {H H' : Hp} {v : List V} {d : List PyData} (h : DtAll H v d) (e : Ex H H') : DtAll H' v d := h.kp (.ex e)
mutual
theorem DtAt.dp' {K : PySem.W.Frag} {H : Hp} : ∀ (d : PyData) (v : V), DtAt H v d → Dp K H v d
  | .tuple ds, _, h => by
    cases h with
    | tup h r => exact .tup (.inl (.inl h)) (DtAll.dp' ds _ r)
  | .none, _, h => by
    cases h
    exact .non
  | .bool _, _, h => by
    cases h
    exact .bl _
  | .int _, _, h => by
    cases h
    exact .int _
  | .str _, _, h => by
    cases h
    exact .str _
  | .list _, _, h => by cases h
  | .dict _, _, h => by cases h
theorem DtAll.dp' {K : PySem.W.Frag} {H : Hp} : ∀ (ds : List PyData) (us : List V), DtAll H us ds → DpAll K H us ds
  | [], _, h => by
    cases h
    exact .nil
  | d :: ds, _, h => by
    cases h with
    | cons h r => exact .cons (DtAt.dp' d _ h) (DtAll.dp' ds _ r)
end
theorem DtAt.dp {K : PySem.W.Frag} {H : Hp} {v : V} {d : PyData} (h : DtAt H v d) : Dp K H v d := DtAt.dp' d v h
theorem DtAll.dp {K : PySem.W.Frag} {H : Hp} {v : List V} {d : List PyData} (h : DtAll H v d) : DpAll K H v d := DtAll.dp' d v h
theorem DtAll.len {H : Hp} : ∀ {us : List V} {ds : List PyData}, DtAll H us ds → us.length = ds.length
  | _, [], h => by
    cases h
    rfl
  | _, _ :: _, h => by
    cases h with
    | cons h r => rw [List.length_cons, List.length_cons, DtAll.len r]
theorem DtAll.get {H : Hp} : ∀ {us : List V} {ds : List PyData}, DtAll H us ds → ∀ {i : Nat} {v : V}, us[i]? = some v → ∃ d, ds[i]? = some d ∧ DtAt H v d
  | _, [], h, i, v, hv => by
    cases h
    simp at hv
  | _, d :: ds, h, i, v, hv => by
    cases h with
    | cons h r =>
      cases i with
      | zero =>
        simp at hv
        subst hv
        exact ⟨d, rfl, h⟩
      | succ i => exact DtAll.get r (i := i) (by simpa using hv)
theorem DtAll.get' {H : Hp} : ∀ {us : List V} {ds : List PyData}, DtAll H us ds → ∀ {i : Nat} {d : PyData}, ds[i]? = some d → ∃ v, us[i]? = some v ∧ DtAt H v d
  | _, [], h, i, v, hv => by simp at hv
  | _, d :: ds, h, i, v, hv => by
    cases h with
    | cons h r =>
      cases i with
      | zero =>
        simp at hv
        subst hv
        exact ⟨_, rfl, h⟩
      | succ i => exact DtAll.get' r (i := i) (by simpa using hv)
theorem DtAll.append {H : Hp} : ∀ {us vs : List V} {ds es : List PyData}, DtAll H us ds → DtAll H vs es → DtAll H (us ++ vs) (ds ++ es)
  | _, _, [], _, h, h' => by
    cases h
    exact h'
  | _, _, _ :: _, _, h, h' => by
    cases h with
    | cons h r => exact .cons h (DtAll.append r h')
theorem DtAt.two {H : Hp} {v : V} {x y : PyData} (h : DtAt H v (.tuple [x, y])) : ∃ a u w, v = .ref a ∧ H a = some (.tup [u, w]) ∧ DtAt H u x ∧ DtAt H w y := by
  cases h with
  | tup h r =>
    cases r with
    | cons h1 r =>
      cases r with
      | cons h2 r =>
        cases r
        exact ⟨_, _, _, rfl, h, h1, h2⟩
theorem DtAt.three {H : Hp} {v : V} {x y z : PyData} (h : DtAt H v (.tuple [x, y, z])) : ∃ a u w t, v = .ref a ∧ H a = some (.tup [u, w, t]) ∧ DtAt H u x ∧ DtAt H w y ∧ DtAt H t z := by
  cases h with
  | tup h r =>
    cases r with
    | cons h1 r =>
      cases r with
      | cons h2 r =>
        cases r with
        | cons h3 r =>
          cases r
          exact ⟨_, _, _, _, rfl, h, h1, h2, h3⟩
theorem DtAt.one {H : Hp} {v : V} {x : PyData} (h : DtAt H v (.tuple [x])) : ∃ a u, v = .ref a ∧ H a = some (.tup [u]) ∧ DtAt H u x := by
  cases h with
  | tup h r =>
    cases r with
    | cons h1 r =>
      cases r
      exact ⟨_, _, rfl, h, h1⟩
theorem DtAt.int_inv {H : Hp} {v : V} {i : Int} (h : DtAt H v (.int i)) : v = .int i := by
  cases h
  rfl
theorem DtAt.str_inv {H : Hp} {v : V} {i : Str} (h : DtAt H v (.str i)) : v = .str i := by
  cases h
  rfl
theorem DtAt.bl_inv {H : Hp} {v : V} {i : Bool} (h : DtAt H v (.bool i)) : v = .bl i := by
  cases h
  rfl
/-- a new tuple of data -/
theorem DtAt.new {H : Hp} {p : Addr} {us : List V} {ds : List PyData} (hp : H p = none) (r : DtAll H us ds) : DtAt (upd H p (.tup us)) (.ref p) (.tuple ds) := .tup upd_same (r.ex (Ex.new hp))
/-! ### what isinstance tells of data -/
def dInt : PyData → Bool
  | .int _ => true
  | _ => false
def dIB : PyData → Bool
  | .int _ => true
  | .bool _ => true
  | _ => false
def dBl : PyData → Bool
  | .bool _ => true
  | _ => false
def dTx : PyData → Bool
  | .str _ => true
  | _ => false
def dTu : PyData → Bool
  | .tuple _ => true
  | _ => false
theorem kk {K : PySem.W.Frag} (T U : String) {b : Bool} (h : kitB T U = some b) : PySem.W.kitOne K (.type T) (.type U) = some b := kit_ty h
/-- of a known kind -/
structure Tells (K : PySem.W.Frag) (H : Hp) (v : V) (int bool str tup lst : Bool) : Prop where
  ex : ∃ t : Value, (∀ H1, Ex H H1 → TyX K H1 v t) ∧ PySem.W.kitOne K t (.type "int") = some int ∧ PySem.W.kitOne K t (.type "bool") = some bool ∧ PySem.W.kitOne K t (.type "str") = some str ∧ PySem.W.kitOne K t (.type "tuple") = some tup ∧ PySem.W.kitOne K t (.type "list") = some lst
section
variable {K : PySem.W.Frag} {H H' : Hp}
theorem Tells.up {v : V} {a b c d e : Bool} (h : Tells K H v a b c d e) (x : Ex H H') : Tells K H' v a b c d e := by
  obtain ⟨t, h1, h2⟩ := h
  exact ⟨t, fun H1 e1 => h1 H1 (x.trans e1), h2⟩
theorem tl_int (i : Int) : Tells K H (.int i) true false false false false := ⟨.type "int", fun _ _ => .base (.int i), kk (b := true) "int" "int" (by decide +kernel), kk (b := false) "int" "bool" (by decide +kernel), kk (b := false) "int" "str" (by decide +kernel), kk (b := false) "int" "tuple" (by decide +kernel), kk (b := false) "int" "list" (by decide +kernel)⟩
theorem tl_bl (i : Bool) : Tells K H (.bl i) true true false false false := ⟨.type "bool", fun _ _ => .base (.bl i), kk (b := true) "bool" "int" (by decide +kernel), kk (b := true) "bool" "bool" (by decide +kernel), kk (b := false) "bool" "str" (by decide +kernel), kk (b := false) "bool" "tuple" (by decide +kernel), kk (b := false) "bool" "list" (by decide +kernel)⟩
theorem tl_non : Tells K H .non false false false false false := ⟨.type "NoneType", fun _ _ => .base .non, kk (b := false) "NoneType" "int" (by decide +kernel), kk (b := false) "NoneType" "bool" (by decide +kernel), kk (b := false) "NoneType" "str" (by decide +kernel), kk (b := false) "NoneType" "tuple" (by decide +kernel), kk (b := false) "NoneType" "list" (by decide +kernel)⟩
theorem tl_str (z : Str) : Tells K H (.str z) false false true false false := ⟨.type "str", fun _ _ => .base (.str z), kk (b := false) "str" "int" (by decide +kernel), kk (b := false) "str" "bool" (by decide +kernel), kk (b := true) "str" "str" (by decide +kernel), kk (b := false) "str" "tuple" (by decide +kernel), kk (b := false) "str" "list" (by decide +kernel)⟩
theorem tl_tup {a : Addr} {xs : List V} (h : H a = some (.tup xs)) : Tells K H (.ref a) false false false true false := ⟨.type "tuple", fun _ e => .base (.tup (e _ _ h)), kk (b := false) "tuple" "int" (by decide +kernel), kk (b := false) "tuple" "bool" (by decide +kernel), kk (b := false) "tuple" "str" (by decide +kernel), kk (b := true) "tuple" "tuple" (by decide +kernel), kk (b := false) "tuple" "list" (by decide +kernel)⟩
theorem tl_lst {a : Addr} {xs : List V} (h : H a = some (.lst xs)) : Tells K H (.ref a) false false false false true := ⟨.type "list", fun _ e => .base (.lst (e _ _ h)), kk (b := false) "list" "int" (by decide +kernel), kk (b := false) "list" "bool" (by decide +kernel), kk (b := false) "list" "str" (by decide +kernel), kk (b := false) "list" "tuple" (by decide +kernel), kk (b := true) "list" "list" (by decide +kernel)⟩
theorem tl_dic {a : Addr} {xs : List (Key × V)} (h : H a = some (.dK xs)) : Tells K H (.ref a) false false false false false := ⟨.type "dict", fun _ e => .base (.dK (e _ _ h)), kk (b := false) "dict" "int" (by decide +kernel), kk (b := false) "dict" "bool" (by decide +kernel), kk (b := false) "dict" "str" (by decide +kernel), kk (b := false) "dict" "tuple" (by decide +kernel), kk (b := false) "dict" "list" (by decide +kernel)⟩
theorem DtAt.tells {v : V} {d : PyData} (h : DtAt H v d) : Tells K H v (dIB d) (dBl d) (dTx d) (dTu d) false := by
  cases h with
  | non => exact tl_non
  | bl b => exact tl_bl b
  | int i => exact tl_int i
  | str z => exact tl_str z
  | tup h r => exact tl_tup h
variable {σ : L2.St} {te : TE} {v : V} {a b c d e : Bool}
theorem ev_tInt (h : Ev te σ H v) (t : Tells K H v a b c d e) : Ev (tCB (rIsi K) (tCons te (tCons (tC (.ty "int")) tNil))) σ H (.bl a) := by
  obtain ⟨t, h1, h2, h3, h4, h5, h6⟩ := t
  exact ev_isi0 h h1 h2 (.ty "int")
theorem ev_tBool (h : Ev te σ H v) (t : Tells K H v a b c d e) : Ev (tCB (rIsi K) (tCons te (tCons (tC (.ty "bool")) tNil))) σ H (.bl b) := by
  obtain ⟨t, h1, h2, h3, h4, h5, h6⟩ := t
  exact ev_isi0 h h1 h3 (.ty "bool")
theorem ev_tStr (h : Ev te σ H v) (t : Tells K H v a b c d e) : Ev (tCB (rIsi K) (tCons te (tCons (tC (.ty "str")) tNil))) σ H (.bl c) := by
  obtain ⟨t, h1, h2, h3, h4, h5, h6⟩ := t
  exact ev_isi0 h h1 h4 (.ty "str")
theorem ev_tTup (h : Ev te σ H v) (t : Tells K H v a b c d e) : Ev (tCB (rIsi K) (tCons te (tCons (tC (.ty "tuple")) tNil))) σ H (.bl d) := by
  obtain ⟨t, h1, h2, h3, h4, h5, h6⟩ := t
  exact ev_isi0 h h1 h5 (.ty "tuple")
theorem ev_tLst (h : Ev te σ H v) (t : Tells K H v a b c d e) : Ev (tCB (rIsi K) (tCons te (tCons (tC (.ty "list")) tNil))) σ H (.bl e) := by
  obtain ⟨t, h1, h2, h3, h4, h5, h6⟩ := t
  exact ev_isi0 h h1 h6 (.ty "list")
end
/-! ### kinds of closed rings -/
inductive RK where
  | truth | count | least | most | narrow | share
  | lot (n : Nat)
  | pair (a b : RK)
def RK.depth : RK → Nat
  | .pair a b => max a.depth b.depth + 1
  | _ => 0
def E : PyData := .str "endless"
def N : PyData := .str "none"
def nameOf : RK → Str
  | .truth => "truth"
  | .count => "count"
  | .least => "least"
  | .most => "most"
  | .narrow => "narrow"
  | .share => "share"
  | .lot _ => "lot"
  | .pair _ _ => "pair"
def madeD : RK → PyData
  | .lot n => .tuple [.str "lot", .int n]
  | .pair a b => .tuple [.str "pair", madeD a, madeD b]
  | k => .tuple [.str (nameOf k)]
def RK.ok : RK → Prop
  | .lot n => 1 ≤ n ∧ n ≤ 12
  | .pair a b => a.ok ∧ b.ok
  | _ => True
end D1
end
section
set_option Elab.async false
set_option linter.all false
set_option maxRecDepth 100000
set_option maxHeartbeats 4000000
/-! M0: products of weights -/
namespace D1
open PySem L2
def isN : PyData → Bool
  | .str z => z == "none"
  | _ => false
def isE : PyData → Bool
  | .str z => z == "endless"
  | _ => false
def i0 : PyData → Bool
  | .int i => i == 0
  | _ => false
def andB : PyData → PyData → PyData
  | .bool a, .bool b => .bool (a && b)
  | a, _ => a
def countT : PyData → PyData → PyData
  | .int i, .int j => .int (i * j)
  | a, b => if (i0 a || i0 b) = true then .int 0 else E
def boundT : PyData → PyData → PyData
  | .int i, .int j => .int (i + j)
  | a, b => if (isN a || isN b) = true then N else E
def narrT : PyData → PyData → PyData
  | .int i, .int j => .int (if i ≤ j then i else j)
  | .int i, _ => .int i
  | _, b => b
def gI (a b : Int) : Int := ((Nat.gcd a.natAbs b.natAbs : Nat) : Int)
def low (p q : Int) : PyData := .tuple [.int (p / gI p q), .int (q / gI p q)]
def shareT : PyData → PyData → PyData
  | .tuple [.int p, .int q], .tuple [.int r, .int s] => low (p * r) (q * s)
  | a, _ => a
def lotT : PyData → PyData → PyData
  | .int i, .int j => .int (Builtin.bitAnd i j)
  | a, _ => a
def times : RK → PyData → PyData → PyData
  | .truth => andB
  | .count => countT
  | .least => boundT
  | .most => boundT
  | .narrow => narrT
  | .share => shareT
  | .lot _ => lotT
  | .pair k l => fun x y => match x, y with
    | .tuple [a, b], .tuple [c, d] => .tuple [times k a c, times l b d]
    | x, _ => x
def oneD : RK → PyData
  | .truth => .bool true
  | .count => .int 1
  | .least => .int 0
  | .most => .int 0
  | .narrow => E
  | .share => .tuple [.int 1, .int 1]
  | .lot n => .int (2 ^ n - 1)
  | .pair k l => .tuple [oneD k, oneD l]
def zeroD : RK → PyData
  | .truth => .bool false
  | .count => .int 0
  | .least => N
  | .most => N
  | .narrow => .int 0
  | .share => .tuple [.int 0, .int 1]
  | .lot _ => .int 0
  | .pair k l => .tuple [zeroD k, zeroD l]
def cnGood : PyData → Bool
  | .str z => z == "endless"
  | .int i => decide (0 ≤ i)
  | _ => false
def bGood : PyData → Bool
  | .str z => z == "none" || z == "endless"
  | .int _ => true
  | _ => false
def shGood : PyData → Bool
  | .tuple [.int p, .int q] => (decide (0 ≤ p) && decide (p ≤ q)) && (gI p q == 1)
  | _ => false
def lotGood (n : Nat) : PyData → Bool
  | .int i => decide (0 ≤ i) && decide (i ≤ 2 ^ n - 1)
  | _ => false
def prGood (f g : PyData → Bool) : PyData → Bool
  | .tuple [x, y] => f x && g y
  | _ => false
def goodB : RK → PyData → Bool
  | .truth => dBl
  | .count => cnGood
  | .narrow => cnGood
  | .least => bGood
  | .most => bGood
  | .share => shGood
  | .lot n => lotGood n
  | .pair k l => prGood (goodB k) (goodB l)
/-! ### what good weights look like -/
theorem good_truth {d : PyData} (h : goodB .truth d = true) : ∃ b, d = .bool b := by
  cases d <;> first | exact ⟨_, rfl⟩ | cases h
theorem good_cn {d : PyData} (h : cnGood d = true) : d = E ∨ ∃ i, d = .int i ∧ 0 ≤ i := by
  cases d with
  | int i => exact .inr ⟨i, rfl, of_decide_eq_true h⟩
  | str z =>
    have h : (z == "endless") = true := h
    exact .inl (by rw [eq_of_beq h]; rfl)
  | _ => cases h
theorem good_b {d : PyData} (h : bGood d = true) : d = E ∨ d = N ∨ ∃ i, d = .int i := by
  cases d with
  | int i => exact .inr (.inr ⟨i, rfl⟩)
  | str z =>
    have h : (z == "none" || z == "endless") = true := h
    rcases Bool.or_eq_true_iff.mp h with h | h
    · exact .inr (.inl (by rw [eq_of_beq h]; rfl))
    · exact .inl (by rw [eq_of_beq h]; rfl)
  | _ => cases h
theorem good_share {d : PyData} (h : shGood d = true) : ∃ p q : Int, d = .tuple [.int p, .int q] ∧ 0 ≤ p ∧ p ≤ q ∧ gI p q = 1 := by
  unfold shGood at h
  split at h
  · simp only [Bool.and_eq_true, decide_eq_true_eq, beq_iff_eq] at h
    exact ⟨_, _, rfl, h.1.1, h.1.2, h.2⟩
  · cases h
theorem good_lot {n : Nat} {d : PyData} (h : lotGood n d = true) : ∃ i, d = .int i ∧ 0 ≤ i ∧ i ≤ 2 ^ n - 1 := by
  cases d with
  | int i =>
    have h : (decide (0 ≤ i) && decide (i ≤ 2 ^ n - 1)) = true := h
    simp only [Bool.and_eq_true, decide_eq_true_eq] at h
    exact ⟨i, rfl, h⟩
  | _ => cases h
theorem good_pair {f g : PyData → Bool} {d : PyData} (h : prGood f g d = true) : ∃ x y, d = .tuple [x, y] ∧ f x = true ∧ g y = true := by
  unfold prGood at h
  split at h
  · exact ⟨_, _, rfl, (Bool.and_eq_true_iff.mp h).1, (Bool.and_eq_true_iff.mp h).2⟩
  · cases h
/-! ### fractions in lowest terms, by natural numbers -/
def lowN (p q : Nat) : Nat × Nat := (p / Nat.gcd p q, q / Nat.gcd p q)
theorem low_nat (p q : Nat) : low (p : Int) (q : Int) = .tuple [.int ((lowN p q).1 : Nat), .int ((lowN p q).2 : Nat)] := by
  unfold low gI lowN
  rw [Int.natAbs_natCast, Int.natAbs_natCast, Int.natCast_ediv, Int.natCast_ediv]
theorem lowN_mul {p q k : Nat} (hk : 0 < k) : lowN (k * p) (k * q) = lowN p q := by
  unfold lowN
  rw [Nat.gcd_mul_left]
  rw [Nat.mul_div_mul_left _ _ hk, Nat.mul_div_mul_left _ _ hk]
/-- a product behind a product put in lowest terms -/
theorem lowN_low {p q r s : Nat} (hq : 0 < q) : lowN ((lowN p q).1 * r) ((lowN p q).2 * s) = lowN (p * r) (q * s) := by
  have hg : 0 < Nat.gcd p q := Nat.gcd_pos_of_pos_right p hq
  have h1 : Nat.gcd p q * (p / Nat.gcd p q) = p := Nat.mul_div_cancel' (Nat.gcd_dvd_left p q)
  have h2 : Nat.gcd p q * (q / Nat.gcd p q) = q := Nat.mul_div_cancel' (Nat.gcd_dvd_right p q)
  have h := lowN_mul (p := p / Nat.gcd p q * r) (q := q / Nat.gcd p q * s) hg
  rw [← Nat.mul_assoc, ← Nat.mul_assoc, h1, h2] at h
  exact h.symm
theorem lowN_pos {p q : Nat} (hq : 0 < q) : 0 < (lowN p q).2 := Nat.div_pos (Nat.le_of_dvd hq (Nat.gcd_dvd_right p q)) (Nat.gcd_pos_of_pos_right p hq)
theorem lowN_gcd {p q : Nat} (hq : 0 < q) : Nat.gcd (lowN p q).1 (lowN p q).2 = 1 := Nat.gcd_div_gcd_div_gcd_of_pos_right hq
theorem lowN_le {p q : Nat} (h : p ≤ q) : (lowN p q).1 ≤ (lowN p q).2 := Nat.div_le_div_right h
theorem lowN_self {p q : Nat} (h : Nat.gcd p q = 1) : lowN p q = (p, q) := by
  unfold lowN
  rw [h, Nat.div_one, Nat.div_one]
def shN (p q : Nat) : PyData := .tuple [.int (p : Nat), .int (q : Nat)]
/-- a good share, by natural numbers -/
theorem share_nat {d : PyData} (h : shGood d = true) : ∃ p q : Nat, d = shN p q ∧ p ≤ q ∧ 0 < q ∧ Nat.gcd p q = 1 := by
  obtain ⟨p, q, rfl, h1, h2, h3⟩ := good_share h
  obtain ⟨p, rfl⟩ := Int.eq_ofNat_of_zero_le h1
  obtain ⟨q, rfl⟩ := Int.eq_ofNat_of_zero_le (Int.le_trans h1 h2)
  have h3 : Nat.gcd p q = 1 := by
    unfold gI at h3
    rw [Int.natAbs_natCast, Int.natAbs_natCast] at h3
    exact Int.ofNat.inj h3
  refine ⟨p, q, rfl, by omega, ?_, h3⟩
  rcases Nat.eq_zero_or_pos q with rfl | hq
  · have : p = 0 := by omega
    subst this
    cases h3
  · exact hq
theorem nat_share {p q : Nat} (h : p ≤ q) (hg : Nat.gcd p q = 1) : shGood (shN p q) = true := by
  have e : gI (p : Int) (q : Int) = 1 := by
    unfold gI
    rw [Int.natAbs_natCast, Int.natAbs_natCast, hg]
    rfl
  show ((decide ((0 : Int) ≤ (p : Int)) && decide ((p : Int) ≤ (q : Int))) && (gI p q == 1)) = true
  rw [e, decide_eq_true (by omega : (0 : Int) ≤ (p : Int)), decide_eq_true (by omega : (p : Int) ≤ (q : Int))]
  rfl
theorem shareT_nat (p q r s : Nat) : shareT (shN p q) (shN r s) = shN (lowN (p * r) (q * s)).1 (lowN (p * r) (q * s)).2 := by
  show low ((p : Int) * (r : Int)) ((q : Int) * (s : Int)) = _
  rw [← Int.natCast_mul, ← Int.natCast_mul, low_nat]
  rfl
/-! ### products are weights; ONE; brackets -/
theorem and_nat (a b : Nat) : lotT (.int a) (.int b) = .int ((a &&& b : Nat) : Int) := congrArg PyData.int (PySem.W.os_band a b)
theorem lot_nat {n : Nat} {d : PyData} (h : lotGood n d = true) : ∃ i : Nat, d = .int (i : Int) ∧ i < 2 ^ n := by
  obtain ⟨i, rfl, h1, h2⟩ := good_lot h
  obtain ⟨i, rfl⟩ := Int.eq_ofNat_of_zero_le h1
  refine ⟨i, rfl, ?_⟩
  have h3 : ((2 : Int) ^ n) = ((2 ^ n : Nat) : Int) := by simp
  rw [h3] at h2
  omega
theorem nat_lot {n i : Nat} (h : i < 2 ^ n) : lotGood n (.int (i : Int)) = true := by
  have h3 : ((2 : Int) ^ n) = ((2 ^ n : Nat) : Int) := by simp
  show (decide ((0 : Int) ≤ (i : Int)) && decide ((i : Int) ≤ 2 ^ n - 1)) = true
  rw [h3, decide_eq_true (by omega : (0 : Int) ≤ (i : Int)), decide_eq_true (by omega : (i : Int) ≤ ((2 ^ n : Nat) : Int) - 1)]
  rfl
theorem one_lot (n : Nat) : (2 : Int) ^ n - 1 = ((2 ^ n - 1 : Nat) : Int) := by
  have h3 : ((2 : Int) ^ n) = ((2 ^ n : Nat) : Int) := by simp
  have := Nat.one_le_two_pow (n := n)
  rw [h3]
  omega
theorem good_one : ∀ k : RK, goodB k (oneD k) = true
  | .truth => rfl
  | .count => rfl
  | .least => rfl
  | .most => rfl
  | .narrow => rfl
  | .share => by decide +kernel
  | .lot n => by
    show lotGood n (.int (2 ^ n - 1)) = true
    rw [one_lot]
    exact nat_lot (by have := Nat.one_le_two_pow (n := n); omega)
  | .pair k l => by
    show (goodB k (oneD k) && goodB l (oneD l)) = true
    rw [good_one k, good_one l]
    rfl
theorem good_times : ∀ (k : RK) {a b : PyData}, goodB k a = true → goodB k b = true → goodB k (times k a b) = true
  | .truth, a, b, h, h' => by
    obtain ⟨x, rfl⟩ := good_truth h
    obtain ⟨y, rfl⟩ := good_truth h'
    rfl
  | .count, a, b, h, h' => by
    rcases good_cn h with rfl | ⟨i, rfl, hi⟩ <;> rcases good_cn h' with rfl | ⟨j, rfl, hj⟩
    · rfl
    · show cnGood (if (i0 E || i0 (.int j)) = true then .int 0 else E) = true
      split <;> rfl
    · show cnGood (if (i0 (.int i) || i0 E) = true then .int 0 else E) = true
      split <;> rfl
    · exact decide_eq_true (Int.mul_nonneg hi hj)
  | .least, a, b, h, h' => by
    rcases good_b h with rfl | rfl | ⟨i, rfl⟩ <;> rcases good_b h' with rfl | rfl | ⟨j, rfl⟩ <;> rfl
  | .most, a, b, h, h' => by
    rcases good_b h with rfl | rfl | ⟨i, rfl⟩ <;> rcases good_b h' with rfl | rfl | ⟨j, rfl⟩ <;> rfl
  | .narrow, a, b, h, h' => by
    rcases good_cn h with rfl | ⟨i, rfl, hi⟩ <;> rcases good_cn h' with rfl | ⟨j, rfl, hj⟩
    · rfl
    · exact decide_eq_true hj
    · exact decide_eq_true hi
    · refine decide_eq_true (p := 0 ≤ (if i ≤ j then i else j)) ?_
      split
      · exact hi
      · exact hj
  | .share, a, b, h, h' => by
    obtain ⟨p, q, rfl, h1, h2, h3⟩ := share_nat h
    obtain ⟨r, s, rfl, h4, h5, h6⟩ := share_nat h'
    show shGood (shareT _ _) = true
    rw [shareT_nat]
    exact nat_share (lowN_le (Nat.mul_le_mul h1 h4)) (lowN_gcd (Nat.mul_pos h2 h5))
  | .lot n, a, b, h, h' => by
    obtain ⟨i, rfl, hi⟩ := lot_nat h
    obtain ⟨j, rfl, hj⟩ := lot_nat h'
    show lotGood n (lotT _ _) = true
    rw [and_nat]
    exact nat_lot (Nat.lt_of_le_of_lt Nat.and_le_left hi)
  | .pair k l, a, b, h, h' => by
    obtain ⟨x, y, rfl, h1, h2⟩ := good_pair h
    obtain ⟨z, w, rfl, h3, h4⟩ := good_pair h'
    show (goodB k (times k x z) && goodB l (times l y w)) = true
    rw [good_times k h1 h3, good_times l h2 h4]
    rfl
theorem one_times : ∀ (k : RK) {a : PyData}, goodB k a = true → times k (oneD k) a = a
  | .truth, a, h => by
    obtain ⟨x, rfl⟩ := good_truth h
    rfl
  | .count, a, h => by
    rcases good_cn h with rfl | ⟨i, rfl, hi⟩
    · rfl
    · show PyData.int (1 * i) = _
      rw [Int.one_mul]
  | .least, a, h => by
    rcases good_b h with rfl | rfl | ⟨i, rfl⟩
    · rfl
    · rfl
    · show PyData.int (0 + i) = _
      rw [Int.zero_add]
  | .most, a, h => by
    rcases good_b h with rfl | rfl | ⟨i, rfl⟩
    · rfl
    · rfl
    · show PyData.int (0 + i) = _
      rw [Int.zero_add]
  | .narrow, a, h => by
    rcases good_cn h with rfl | ⟨i, rfl, hi⟩ <;> rfl
  | .share, a, h => by
    obtain ⟨p, q, rfl, h1, h2, h3⟩ := share_nat h
    show shareT (shN 1 1) (shN p q) = _
    rw [shareT_nat, Nat.one_mul, Nat.one_mul, lowN_self h3]
  | .lot n, a, h => by
    obtain ⟨i, rfl, hi⟩ := lot_nat h
    show lotT (.int (2 ^ n - 1)) _ = _
    rw [one_lot, and_nat, Nat.and_comm, Nat.and_two_pow_sub_one_eq_mod, Nat.mod_eq_of_lt hi]
  | .pair k l, a, h => by
    obtain ⟨x, y, rfl, h1, h2⟩ := good_pair h
    show PyData.tuple [times k (oneD k) x, times l (oneD l) y] = _
    rw [one_times k h1, one_times l h2]
theorem times_assoc : ∀ (k : RK) {a b c : PyData}, goodB k a = true → goodB k b = true → goodB k c = true → times k (times k a b) c = times k a (times k b c)
  | .truth, a, b, c, ha, hb, hc => by
    obtain ⟨x, rfl⟩ := good_truth ha
    obtain ⟨y, rfl⟩ := good_truth hb
    obtain ⟨z, rfl⟩ := good_truth hc
    cases x <;> cases y <;> cases z <;> rfl
  | .count, a, b, c, ha, hb, hc => by
    rcases good_cn ha with rfl | ⟨i, rfl, hi⟩ <;> rcases good_cn hb with rfl | ⟨j, rfl, hj⟩ <;> rcases good_cn hc with rfl | ⟨l, rfl, hl⟩
    · rfl
    · simp only [times, countT, E, i0, Bool.false_or, Bool.or_false]
      by_cases h : l = 0 <;> simp [h, i0, countT, E]
    · simp only [times, countT, E, i0, Bool.false_or, Bool.or_false]
      by_cases h : j = 0 <;> simp [h, i0, countT, E]
    · simp only [times, countT, E, i0, Bool.false_or, Bool.or_false]
      by_cases h : j = 0 <;> by_cases h2 : l = 0 <;> simp [h, h2, i0, countT, E, Int.mul_eq_zero]
    · simp only [times, countT, E, i0, Bool.false_or, Bool.or_false]
      by_cases h : i = 0 <;> simp [h, i0, countT, E]
    · simp only [times, countT, E, i0, Bool.false_or, Bool.or_false]
      by_cases h : i = 0 <;> by_cases h2 : l = 0 <;> simp [h, h2, i0, countT, E]
    · simp only [times, countT, E, i0, Bool.false_or, Bool.or_false]
      by_cases h : i = 0 <;> by_cases h2 : j = 0 <;> simp [h, h2, i0, countT, E, Int.mul_eq_zero]
    · simp only [times, countT, Int.mul_assoc]
  | .least, a, b, c, ha, hb, hc => by
    rcases good_b ha with rfl | rfl | ⟨i, rfl⟩ <;> rcases good_b hb with rfl | rfl | ⟨j, rfl⟩ <;> rcases good_b hc with rfl | rfl | ⟨l, rfl⟩ <;> first | rfl | (simp only [times, boundT, Int.add_assoc])
  | .most, a, b, c, ha, hb, hc => by
    rcases good_b ha with rfl | rfl | ⟨i, rfl⟩ <;> rcases good_b hb with rfl | rfl | ⟨j, rfl⟩ <;> rcases good_b hc with rfl | rfl | ⟨l, rfl⟩ <;> first | rfl | (simp only [times, boundT, Int.add_assoc])
  | .narrow, a, b, c, ha, hb, hc => by
    rcases good_cn ha with rfl | ⟨i, rfl, hi⟩ <;> rcases good_cn hb with rfl | ⟨j, rfl, hj⟩ <;> rcases good_cn hc with rfl | ⟨l, rfl, hl⟩ <;> first | rfl | (simp only [times, narrT, E]; congr 1; split <;> split <;> (try split) <;> omega)
  | .share, a, b, c, ha, hb, hc => by
    obtain ⟨p, q, rfl, h1, h2, h3⟩ := share_nat ha
    obtain ⟨r, s, rfl, h4, h5, h6⟩ := share_nat hb
    obtain ⟨t, u, rfl, h7, h8, h9⟩ := share_nat hc
    show shareT (shareT _ _) _ = shareT _ (shareT _ _)
    rw [shareT_nat, shareT_nat, shareT_nat, shareT_nat, lowN_low (Nat.mul_pos h2 h5)]
    rw [Nat.mul_comm p (lowN (r * t) (s * u)).1, Nat.mul_comm q (lowN (r * t) (s * u)).2, lowN_low (Nat.mul_pos h5 h8)]
    rw [show r * t * p = p * r * t by rw [Nat.mul_comm, Nat.mul_assoc], show s * u * q = q * s * u by rw [Nat.mul_comm, Nat.mul_assoc]]
  | .lot n, a, b, c, ha, hb, hc => by
    obtain ⟨i, rfl, hi⟩ := lot_nat ha
    obtain ⟨j, rfl, hj⟩ := lot_nat hb
    obtain ⟨l, rfl, hl⟩ := lot_nat hc
    show lotT (lotT _ _) _ = lotT _ (lotT _ _)
    rw [and_nat, and_nat, and_nat, and_nat, Nat.and_assoc]
  | .pair k l, a, b, c, ha, hb, hc => by
    obtain ⟨x, y, rfl, h1, h2⟩ := good_pair ha
    obtain ⟨z, w, rfl, h3, h4⟩ := good_pair hb
    obtain ⟨u, v, rfl, h5, h6⟩ := good_pair hc
    show PyData.tuple [times k (times k x z) u, times l (times l y w) v] = .tuple [times k x (times k z u), times l y (times l w v)]
    rw [times_assoc k h1 h3 h5, times_assoc l h2 h4 h6]
end D1
end
section
set_option Elab.async false
set_option linter.all false
set_option maxRecDepth 100000
set_option maxHeartbeats 4000000
/-! R1: kinds as they lie -/
namespace D1
open PySem L2 Evl RZ ClX PySem.VX
mutual
/-- all numbers in it are below 2 ^ B -/
def Sz (B : Nat) : PyData → Prop
  | .int i => i.natAbs < 2 ^ B
  | .tuple ds => SzA B ds
  | _ => True
def SzA (B : Nat) : List PyData → Prop
  | [] => True
  | d :: ds => Sz B d ∧ SzA B ds
end
mutual
theorem Sz.up' {B C : Nat} (h : B ≤ C) : ∀ d : PyData, Sz B d → Sz C d
  | .int i, s => Nat.lt_of_lt_of_le s (Nat.pow_le_pow_right (by decide) h)
  | .tuple ds, s => SzA.up' h ds s
  | .none, _ => True.intro
  | .bool _, _ => True.intro
  | .str _, _ => True.intro
  | .list _, _ => True.intro
  | .dict _, _ => True.intro
theorem SzA.up' {B C : Nat} (h : B ≤ C) : ∀ ds : List PyData, SzA B ds → SzA C ds
  | [], _ => True.intro
  | d :: ds, ⟨s, r⟩ => ⟨Sz.up' h d s, SzA.up' h ds r⟩
end
theorem Sz.up {B C : Nat} {d : PyData} (s : Sz B d) (h : B ≤ C) : Sz C d := Sz.up' h d s
theorem sz_pow {B C : Nat} {x y : Nat} (hx : x < 2 ^ B) (hy : y < 2 ^ C) : x * y < 2 ^ (B + C) := by
  rw [Nat.pow_add]
  rcases Nat.eq_zero_or_pos x with rfl | h
  · rw [Nat.zero_mul]
    exact Nat.mul_pos (Nat.two_pow_pos _) (Nat.two_pow_pos _)
  · exact Nat.lt_of_le_of_lt (Nat.mul_le_mul_left x (Nat.le_of_lt hy)) (Nat.mul_lt_mul_of_lt_of_le hx (Nat.le_refl _) (Nat.two_pow_pos _))
theorem sz_add {B C : Nat} {x y : Int} (hx : x.natAbs < 2 ^ B) (hy : y.natAbs < 2 ^ C) (hB : 0 < B) (hC : 0 < C) : (x + y).natAbs < 2 ^ (B + C) := by
  have h1 : (x + y).natAbs ≤ x.natAbs + y.natAbs := Int.natAbs_add_le x y
  have hb : 2 ^ B * 2 ≤ 2 ^ (B + C) := by
    rw [Nat.pow_add]
    exact Nat.mul_le_mul_left _ (by
      have := Nat.pow_le_pow_right (n := 2) (by decide) hC
      omega)
  have hc : 2 * 2 ^ C ≤ 2 ^ (B + C) := by
    rw [Nat.pow_add]
    exact Nat.mul_le_mul_right _ (by
      have := Nat.pow_le_pow_right (n := 2) (by decide) hB
      omega)
  omega
theorem sz_times : ∀ (k : RK) {a b : PyData} {B C : Nat}, goodB k a = true → goodB k b = true → Sz B a → Sz C b → 0 < B → 0 < C → Sz (B + C) (times k a b)
  | .truth, a, b, B, C, h, h', s, s', hB, hC => by
    obtain ⟨x, rfl⟩ := good_truth h
    obtain ⟨y, rfl⟩ := good_truth h'
    exact True.intro
  | .count, a, b, B, C, h, h', s, s', hB, hC => by
    have z : Sz (B + C) (.int 0) := Nat.two_pow_pos _
    rcases good_cn h with rfl | ⟨i, rfl, hi⟩ <;> rcases good_cn h' with rfl | ⟨j, rfl, hj⟩
    · exact True.intro
    · show Sz _ (if (i0 E || i0 (.int j)) = true then .int 0 else E)
      split
      · exact z
      · exact True.intro
    · show Sz _ (if (i0 (.int i) || i0 E) = true then .int 0 else E)
      split
      · exact z
      · exact True.intro
    · show (i * j).natAbs < _
      rw [Int.natAbs_mul]
      exact sz_pow s s'
  | .least, a, b, B, C, h, h', s, s', hB, hC => by
    rcases good_b h with rfl | rfl | ⟨i, rfl⟩ <;> rcases good_b h' with rfl | rfl | ⟨j, rfl⟩ <;> first | exact True.intro | exact sz_add s s' hB hC
  | .most, a, b, B, C, h, h', s, s', hB, hC => by
    rcases good_b h with rfl | rfl | ⟨i, rfl⟩ <;> rcases good_b h' with rfl | rfl | ⟨j, rfl⟩ <;> first | exact True.intro | exact sz_add s s' hB hC
  | .narrow, a, b, B, C, h, h', s, s', hB, hC => by
    rcases good_cn h with rfl | ⟨i, rfl, hi⟩ <;> rcases good_cn h' with rfl | ⟨j, rfl, hj⟩
    · exact True.intro
    · exact Sz.up s' (by omega)
    · exact Sz.up s (by omega)
    · show Sz _ (.int (if i ≤ j then i else j))
      split
      · exact Sz.up s (by omega)
      · exact Sz.up s' (by omega)
  | .share, a, b, B, C, h, h', s, s', hB, hC => by
    obtain ⟨p, q, rfl, h1, h2, h3⟩ := share_nat h
    obtain ⟨r, t, rfl, h4, h5, h6⟩ := share_nat h'
    show Sz _ (shareT _ _)
    rw [shareT_nat]
    obtain ⟨s1, s2, _⟩ : p < 2 ^ B ∧ q < 2 ^ B ∧ True := s
    obtain ⟨s3, s4, _⟩ : r < 2 ^ C ∧ t < 2 ^ C ∧ True := s'
    refine ⟨?_, ?_, True.intro⟩
    · exact Nat.lt_of_le_of_lt (Nat.div_le_self _ _) (sz_pow s1 s3)
    · exact Nat.lt_of_le_of_lt (Nat.div_le_self _ _) (sz_pow s2 s4)
  | .lot n, a, b, B, C, h, h', s, s', hB, hC => by
    obtain ⟨i, rfl, hi⟩ := lot_nat h
    obtain ⟨j, rfl, hj⟩ := lot_nat h'
    show Sz _ (lotT _ _)
    rw [and_nat]
    exact Nat.lt_of_le_of_lt Nat.and_le_left (Sz.up s (by omega : B ≤ B + C))
  | .pair k l, a, b, B, C, h, h', s, s', hB, hC => by
    obtain ⟨x, y, rfl, h1, h2⟩ := good_pair h
    obtain ⟨z, w, rfl, h3, h4⟩ := good_pair h'
    obtain ⟨s1, s2, _⟩ := s
    obtain ⟨s3, s4, _⟩ := s'
    exact ⟨sz_times k h1 h3 s1 s3 hB hC, sz_times l h2 h4 s2 s4 hB hC, True.intro⟩
/-! ### kinds as they lie -/
def idx : RK → Nat
  | .truth => 0
  | .count => 1
  | .least => 2
  | .most => 2
  | .narrow => 3
  | .share => 4
  | .lot _ => 5
  | .pair _ _ => 6
def KC.cls (C : KC) : RK → Addr
  | .truth => C.tr
  | .count => C.co
  | .least => C.bo
  | .most => C.bo
  | .narrow => C.na
  | .share => C.sh
  | .lot _ => C.lo
  | .pair _ _ => C.pa
theorem KC.cls_at (C : KC) (k : RK) : C.all[idx k]? = some (C.cls k) := by cases k <;> rfl
theorem KC.idx_of {C : KC} (nd : C.all.Nodup) {k : RK} {i : Nat} {c : Addr} (hi : C.all[i]? = some c) (h : C.cls k = c) : idx k = i := by
  subst h
  have h2 := C.cls_at k
  obtain ⟨l2, _⟩ := List.getElem?_eq_some_iff.mp h2
  exact (List.getElem?_inj l2 nd).mp (h2.trans hi.symm)
theorem KC.mem (C : KC) (k : RK) : C.cls k ∈ C.all := List.mem_of_getElem? (C.cls_at k)
/-- the fields that all kinds have -/
structure Com (H : Hp) (k : RK) (fs : List (Str × V)) : Prop where
  text : ∃ t : Str, fs.lookup ("_text" : Str) = some (.str t) ∧ t.length + 6 ≤ 100 * 2 ^ k.depth
  zero : ∃ z, fs.lookup ("_zero" : Str) = some z ∧ DtAt H z (zeroD k)
  one : ∃ z, fs.lookup ("_one" : Str) = some z ∧ DtAt H z (oneD k)
  no : ∀ f, f ∉ fields → fs.lookup f = none
theorem Com.kp {H H' : Hp} {k : RK} {fs : List (Str × V)} (h : Com H k fs) (x : Kp H H') : Com H' k fs := by
  obtain ⟨h1, ⟨z, h2, h3⟩, ⟨o, h4, h5⟩, h6⟩ := h
  exact ⟨h1, ⟨z, h2, h3.kp x⟩, ⟨o, h4, h5.kp x⟩, h6⟩
/-- the fields of a kind alone -/
def Own (H : Hp) (fs : List (Str × V)) : RK → Prop
  | .count => ∃ p, fs.lookup ("_others" : Str) = some (.ref p) ∧ H p = some (.tup [.str "endless"])
  | .narrow => ∃ p, fs.lookup ("_others" : Str) = some (.ref p) ∧ H p = some (.tup [.str "endless"])
  | .least => (∃ p, fs.lookup ("_others" : Str) = some (.ref p) ∧ H p = some (.tup [.str "none", .str "endless"])) ∧ fs.lookup ("_sign" : Str) = some (.int 1)
  | .most => (∃ p, fs.lookup ("_others" : Str) = some (.ref p) ∧ H p = some (.tup [.str "none", .str "endless"])) ∧ fs.lookup ("_sign" : Str) = some (.int (-1))
  | .lot n => fs.lookup ("_size" : Str) = some (.int n)
  | _ => True
theorem Own.kp {H H' : Hp} {fs : List (Str × V)} (x : Kp H H') : ∀ {k : RK}, Own H fs k → Own H' fs k
  | .count, ⟨p, a, b⟩ => ⟨p, a, x.tup b⟩
  | .narrow, ⟨p, a, b⟩ => ⟨p, a, x.tup b⟩
  | .least, ⟨⟨p, a, b⟩, c⟩ => ⟨⟨p, a, x.tup b⟩, c⟩
  | .most, ⟨⟨p, a, b⟩, c⟩ => ⟨⟨p, a, x.tup b⟩, c⟩
  | .lot _, h => h
  | .truth, _ => True.intro
  | .share, _ => True.intro
  | .pair _ _, _ => True.intro
/-- a kind at v -/
def KindAt (C : KC) (H : Hp) : RK → V → Prop
  | .pair k l, v => ∃ (a dx : Addr) (fs : List (Str × V)) (x y : V), v = .ref a ∧ H a = some (.ins C.pa dx fs) ∧ Com H (.pair k l) fs ∧ fs.lookup ("_left" : Str) = some x ∧ fs.lookup ("_right" : Str) = some y ∧ KindAt C H k x ∧ KindAt C H l y
  | k, v => ∃ (a dx : Addr) (fs : List (Str × V)), v = .ref a ∧ H a = some (.ins (C.cls k) dx fs) ∧ Com H k fs ∧ Own H fs k
theorem KindAt.kp {C : KC} {H H' : Hp} (x : Kp H H') : ∀ {k : RK} {v : V}, KindAt C H k v → KindAt C H' k v
  | .pair k l, v, ⟨a, dx, fs, u, w, h1, h2, h3, h4, h5, h6, h7⟩ => ⟨a, dx, fs, u, w, h1, x.ins h2, h3.kp x, h4, h5, KindAt.kp x h6, KindAt.kp x h7⟩
  | .truth, v, ⟨a, dx, fs, h1, h2, h3, h4⟩ => ⟨a, dx, fs, h1, x.ins h2, h3.kp x, h4⟩
  | .count, v, ⟨a, dx, fs, h1, h2, h3, h4⟩ => ⟨a, dx, fs, h1, x.ins h2, h3.kp x, Own.kp x (k := .count) h4⟩
  | .least, v, ⟨a, dx, fs, h1, h2, h3, h4⟩ => ⟨a, dx, fs, h1, x.ins h2, h3.kp x, Own.kp x (k := .least) h4⟩
  | .most, v, ⟨a, dx, fs, h1, h2, h3, h4⟩ => ⟨a, dx, fs, h1, x.ins h2, h3.kp x, Own.kp x (k := .most) h4⟩
  | .narrow, v, ⟨a, dx, fs, h1, h2, h3, h4⟩ => ⟨a, dx, fs, h1, x.ins h2, h3.kp x, Own.kp x (k := .narrow) h4⟩
  | .share, v, ⟨a, dx, fs, h1, h2, h3, h4⟩ => ⟨a, dx, fs, h1, x.ins h2, h3.kp x, h4⟩
  | .lot n, v, ⟨a, dx, fs, h1, h2, h3, h4⟩ => ⟨a, dx, fs, h1, x.ins h2, h3.kp x, h4⟩
theorem KindAt.ex {C : KC} {H H' : Hp} {k : RK} {v : V} (h : KindAt C H k v) (e : Ex H H') : KindAt C H' k v := h.kp (.ex e)
/-- what all have -/
theorem KindAt.com {C : KC} {H : Hp} : ∀ {k : RK} {v : V}, KindAt C H k v → ∃ (a dx : Addr) (fs : List (Str × V)), v = .ref a ∧ H a = some (.ins (C.cls k) dx fs) ∧ Com H k fs
  | .pair k l, v, ⟨a, dx, fs, u, w, h1, h2, h3, _⟩ => ⟨a, dx, fs, h1, h2, h3⟩
  | .truth, v, ⟨a, dx, fs, h1, h2, h3, _⟩ => ⟨a, dx, fs, h1, h2, h3⟩
  | .count, v, ⟨a, dx, fs, h1, h2, h3, _⟩ => ⟨a, dx, fs, h1, h2, h3⟩
  | .least, v, ⟨a, dx, fs, h1, h2, h3, _⟩ => ⟨a, dx, fs, h1, h2, h3⟩
  | .most, v, ⟨a, dx, fs, h1, h2, h3, _⟩ => ⟨a, dx, fs, h1, h2, h3⟩
  | .narrow, v, ⟨a, dx, fs, h1, h2, h3, _⟩ => ⟨a, dx, fs, h1, h2, h3⟩
  | .share, v, ⟨a, dx, fs, h1, h2, h3, _⟩ => ⟨a, dx, fs, h1, h2, h3⟩
  | .lot n, v, ⟨a, dx, fs, h1, h2, h3, _⟩ => ⟨a, dx, fs, h1, h2, h3⟩
/-- the promises of a method for each class -/
def SK (C : KC) (sp : Addr → Sp) : Addr → Option Sp := fun c => if c ∈ C.all then some (sp c) else none
theorem SK.at {C : KC} {sp : Addr → Sp} (k : RK) : SK C sp (C.cls k) = some (sp (C.cls k)) := if_pos (C.mem k)
theorem SK.inv {C : KC} {sp : Addr → Sp} {c : Addr} {s : Sp} (h : SK C sp c = some s) : s = sp c ∧ ∃ i : Nat, C.all[i]? = some c := by
  unfold SK at h
  split at h
  · rename_i hm
    obtain ⟨i, hi⟩ := List.mem_iff_getElem?.mp hm
    exact ⟨(Option.some.inj h).symm, i, hi⟩
  · cases h
end D1
end
section
set_option Elab.async false
set_option linter.all false
set_option maxRecDepth 100000
set_option maxHeartbeats 4000000
/-! LH: the law's top -/
namespace D1
open PySem L2
end D1
end
section
set_option Elab.async false
set_option linter.all false
set_option maxRecDepth 100000
set_option maxHeartbeats 4000000
/-! R2: products, ONE, ZERO, .. of the kinds that have no parts -/
namespace D1
open PySem L2 Evl RZ ClX PySem.VX
/-- a number, or none -/
structure Num (K : PySem.W.Frag) (H : Hp) (v : V) (o : Option Int) : Prop where
  ex : ∃ a b c d e, Tells K H v a b c d e ∧ (a && !b) = o.isSome ∧ ∀ i, o = some i → v = .int i
theorem Num.up {K : PySem.W.Frag} {H H' : Hp} {v : V} {o : Option Int} (h : Num K H v o) (e : Ex H H') : Num K H' v o := by
  obtain ⟨a, b, c, d, f, t, h1, h2⟩ := h
  exact ⟨a, b, c, d, f, t.up e, h1, h2⟩
def dNum : PyData → Option Int
  | .int i => some i
  | _ => none
theorem DtAt.num {K : PySem.W.Frag} {H : Hp} {v : V} {d : PyData} (h : DtAt H v d) : Num K H v (dNum d) := by
  refine ⟨_, _, _, _, _, h.tells, ?_, fun i hi => ?_⟩
  · cases d <;> rfl
  · cases d <;> cases hi
    exact h.int_inv
theorem num_lst {K : PySem.W.Frag} {H : Hp} {a : Addr} {xs : List V} (h : H a = some (.lst xs)) : Num K H (.ref a) none := ⟨_, _, _, _, _, tl_lst h, rfl, fun i hi => by cases hi⟩
theorem num_dic {K : PySem.W.Frag} {H : Hp} {a : Addr} {xs : List (Key × V)} (h : H a = some (.dK xs)) : Num K H (.ref a) none := ⟨_, _, _, _, _, tl_dic h, rfl, fun i hi => by cases hi⟩
def whO (lo hi : Int) : Option Int → Bool
  | some i => within lo hi i
  | none => false
/-! ### flat weights -/
def Fl (d : PyData) : Prop := (∃ z : Str, d = .str z ∧ PyData.strOk z = true) ∨ ∃ i, d = .int i
theorem fl_int (i : Int) : Fl (.int i) := .inr ⟨i, rfl⟩
theorem fl_E : Fl E := .inl ⟨_, rfl, by decide +kernel⟩
theorem fl_N : Fl N := .inl ⟨_, rfl, by decide +kernel⟩
theorem fl_cn {d : PyData} (h : cnGood d = true) : Fl d := by
  rcases good_cn h with rfl | ⟨i, rfl, _⟩
  · exact fl_E
  · exact fl_int i
theorem fl_b {d : PyData} (h : bGood d = true) : Fl d := by
  rcases good_b h with rfl | rfl | ⟨i, rfl⟩
  · exact fl_E
  · exact fl_N
  · exact fl_int i
theorem Fl.shaped {d : PyData} (h : Fl d) : SeqAt.shaped d = true := by
  rcases h with ⟨z, rfl, hz⟩ | ⟨i, rfl⟩
  · show (PyData.strOk z && decide (PyData.depth (.str z) ≤ 64)) = true
    rw [hz, Bool.true_and, decide_eq_true_eq]
    simp [PyData.depth]
  · rfl
theorem eqv_0 {d : PyData} (h : Fl d) : PyData.eqv d (.int 0) = i0 d := by
  rcases h with ⟨z, rfl, hz⟩ | ⟨i, rfl⟩ <;> rfl
theorem eqv_E {d : PyData} (h : Fl d) : PyData.eqv d E = isE d := by
  rcases h with ⟨z, rfl, hz⟩ | ⟨i, rfl⟩ <;> rfl
theorem eqv_N {d : PyData} (h : Fl d) : PyData.eqv d N = isN d := by
  rcases h with ⟨z, rfl, hz⟩ | ⟨i, rfl⟩ <;> rfl
section
variable {K : PySem.W.Frag} {σ : L2.St} {H : Hp} {ta tb : TE} {x y : V} {d e : PyData}
theorem ev_eqDt (h : Ev ta σ H x) (h' : Ev tb σ H y) (hx : DtAt H x d) (hy : DtAt H y e) (sd : SeqAt.shaped d = true) (se : SeqAt.shaped e = true) : Ev (tOp (rEqD K) ta tb) σ H (.bl (PyData.eqv d e)) :=
  ev_op h h' fun H1 e1 Q q => ⟨d, e, (hx.ex e1).dp, (hy.ex e1).dp, sd, se, q H1 (Ex.refl H1)⟩
theorem ev_neDt (h : Ev ta σ H x) (h' : Ev tb σ H y) (hx : DtAt H x d) (hy : DtAt H y e) (sd : SeqAt.shaped d = true) (se : SeqAt.shaped e = true) : Ev (tOp (rNeD K) ta tb) σ H (.bl (!PyData.eqv d e)) :=
  ev_op h h' fun H1 e1 Q q => ⟨d, e, (hx.ex e1).dp, (hy.ex e1).dp, sd, se, q H1 (Ex.refl H1)⟩
theorem ev_eq0 (h : Ev ta σ H x) (hx : DtAt H x d) (f : Fl d) : Ev (tOp (rEqD K) ta (tC (.int 0))) σ H (.bl (i0 d)) := ev_is (ev_eqDt h ev_c hx (.int 0) f.shaped rfl) (by rw [eqv_0 f])
theorem ev_eqE (h : Ev ta σ H x) (hx : DtAt H x d) (f : Fl d) : Ev (tOp (rEqD K) ta (tC (.str "endless"))) σ H (.bl (isE d)) := ev_is (ev_eqDt h ev_c hx (.str "endless") f.shaped (by decide +kernel)) (by rw [← eqv_E f]; rfl)
theorem ev_eqN (h : Ev ta σ H x) (hx : DtAt H x d) (f : Fl d) : Ev (tOp (rEqD K) ta (tC (.str "none"))) σ H (.bl (isN d)) := ev_is (ev_eqDt h ev_c hx (.str "none") f.shaped (by decide +kernel)) (by rw [← eqv_N f]; rfl)
end
theorem count0 {a b : PyData} (h : (i0 a || i0 b) = true) (ha : cnGood a = true) (hb : cnGood b = true) : countT a b = .int 0 := by
  rcases good_cn ha with rfl | ⟨i, rfl, hi⟩ <;> rcases good_cn hb with rfl | ⟨j, rfl, hj⟩
  · cases h
  · exact if_pos h
  · exact if_pos h
  · have h : ((i == 0) || (j == 0)) = true := h
    show PyData.int (i * j) = _
    rcases Bool.or_eq_true_iff.mp h with h | h
    · rw [eq_of_beq h, Int.zero_mul]
    · rw [eq_of_beq h, Int.mul_zero]
theorem countE {a b : PyData} (h : (i0 a || i0 b) = false) (h2 : (isE a || isE b) = true) (ha : cnGood a = true) (hb : cnGood b = true) : countT a b = E := by
  rcases good_cn ha with rfl | ⟨i, rfl, hi⟩ <;> rcases good_cn hb with rfl | ⟨j, rfl, hj⟩
  · rfl
  · exact if_neg (by rw [h]; decide)
  · exact if_neg (by rw [h]; decide)
  · cases h2
theorem cn_int {a : PyData} (h : cnGood a = true) (h2 : isE a = false) : ∃ i, a = .int i ∧ 0 ≤ i := by
  rcases good_cn h with rfl | ⟨i, rfl, hi⟩
  · cases h2
  · exact ⟨i, rfl, hi⟩
theorem b_int {a : PyData} (h : bGood a = true) (h2 : isE a = false) (h3 : isN a = false) : ∃ i, a = .int i := by
  rcases good_b h with rfl | rfl | ⟨i, rfl⟩
  · cases h2
  · cases h3
  · exact ⟨i, rfl⟩
theorem boundN {a b : PyData} (h : (isN a || isN b) = true) (ha : bGood a = true) (hb : bGood b = true) : boundT a b = N := by
  rcases good_b ha with rfl | rfl | ⟨i, rfl⟩ <;> rcases good_b hb with rfl | rfl | ⟨j, rfl⟩ <;> first | rfl | cases h
theorem boundE {a b : PyData} (h : (isN a || isN b) = false) (h2 : (isE a || isE b) = true) (ha : bGood a = true) (hb : bGood b = true) : boundT a b = E := by
  have e1 : isN N = true := by decide +kernel
  rcases good_b ha with rfl | rfl | ⟨i, rfl⟩
  · rcases good_b hb with rfl | rfl | ⟨j, rfl⟩
    · rfl
    · rw [e1, Bool.or_true] at h
      cases h
    · rfl
  · rw [e1, Bool.true_or] at h
    cases h
  · rcases good_b hb with rfl | rfl | ⟨j, rfl⟩
    · rfl
    · rw [e1, Bool.or_true] at h
      cases h
    · cases h2
theorem narrE {a b : PyData} (ha : cnGood a = true) (hb : cnGood b = true) (h : (isE a || isE b) = true) : narrT a b = if isE b = true then a else b := by
  rcases good_cn ha with rfl | ⟨i, rfl, hi⟩ <;> rcases good_cn hb with rfl | ⟨j, rfl, hj⟩ <;> first | rfl | cases h
theorem r_if {t : TT} {ta tb : TE} {D : Ends} {σ : L2.St} {H : Hp} {b : Bool} (h : EvT t σ H b) (h1 : b = true → ∀ H1, Ex H H1 → tRet ta D σ H1) (h2 : b = false → ∀ H1, Ex H H1 → tRet tb D σ H1) : tRet (tIf t ta tb) D σ H := h H (Ex.refl H) _ fun H1 e => by
  cases b with
  | true => exact h1 rfl H1 e
  | false => exact h2 rfl H1 e
theorem or_no {a b : Bool} (h : (a || b) = false) : a = false ∧ b = false := by
  cases a <;> cases b <;> first | exact ⟨rfl, rfl⟩ | cases h
/-! ### the promises -/
def spTimes (C : KC) (d : Nat) (c : Addr) : Sp := fun vs H Q _ => ∃ (s : V) (k : RK) (x y : V) (dx dy : PyData) (B : Nat), vs = [s, x, y] ∧ KindAt C H k s ∧ C.cls k = c ∧ k.depth < d ∧ DtAt H x dx ∧ DtAt H y dy ∧ goodB k dx = true ∧ goodB k dy = true ∧ Sz B dx ∧ Sz B dy ∧ B ≤ 4000 ∧ ∀ r H', Ex H H' → DtAt H' r (times k dx dy) → Q r H'
def spGood (C : KC) (d : Nat) (c : Addr) : Sp := fun vs H Q _ => ∃ (s : V) (k : RK) (x : V) (dx : PyData), vs = [s, x] ∧ KindAt C H k s ∧ C.cls k = c ∧ k.depth < d ∧ DtAt H x dx ∧ ∀ H', Ex H H' → Q (.bl (goodB k dx)) H'
def spClosed (C : KC) (d : Nat) (c : Addr) : Sp := fun vs H Q _ => ∃ (s : V) (k : RK), vs = [s] ∧ KindAt C H k s ∧ C.cls k = c ∧ k.depth < d ∧ ∀ H', Ex H H' → Q (.bl true) H'
def spOne (C : KC) (d : Nat) (c : Addr) : Sp := fun vs H Q _ => ∃ (s : V) (k : RK), vs = [s] ∧ KindAt C H k s ∧ C.cls k = c ∧ k.depth < d ∧ ∀ r H', Ex H H' → DtAt H' r (oneD k) → Q r H'
def spZero (C : KC) (d : Nat) (c : Addr) : Sp := fun vs H Q _ => ∃ (s : V) (k : RK), vs = [s] ∧ KindAt C H k s ∧ C.cls k = c ∧ k.depth < d ∧ ∀ r H', Ex H H' → DtAt H' r (zeroD k) → Q r H'
def spText (C : KC) (d : Nat) (c : Addr) : Sp := fun vs H Q _ => ∃ (s : V) (k : RK), vs = [s] ∧ KindAt C H k s ∧ C.cls k = c ∧ k.depth < d ∧ ∀ (t : Str) H', Ex H H' → t.length + 6 ≤ 100 * 2 ^ k.depth → Q (.str t) H'
def spNum (K : PySem.W.Frag) : Sp := fun vs H Q _ => ∃ (v : V) (o : Option Int), vs = [v] ∧ Num K H v o ∧ ∀ H', Ex H H' → Q (.bl o.isSome) H'
def spWhole (K : PySem.W.Frag) : Sp := fun vs H Q _ => ∃ (v : V) (o : Option Int) (lo hi : Int), vs = [v, .int lo, .int hi] ∧ Num K H v o ∧ ∀ H', Ex H H' → Q (.bl (whO lo hi o)) H'
section
variable {P : Program} {w : World} {K : PySem.W.Frag} {mg : Str → Option Value} {base : Heap}
abbrev s_is_number : Stmt := top 19
theorem sc_is_number : FnScope ["thing"] ["thing"] (defScope s_is_number) := ⟨rfl, rfl, rfl, by decide +kernel, rfl, by decide +kernel, by decide +kernel⟩
theorem ok_is_number {f : Addr} {fd : FuncData} (F : FnP K "is_number" s_is_number f fd) (z_isinstance : mg "isinstance" = none) (z_int : mg "int" = none) (z_bool : mg "bool" = none) : FnOk P w K mg base (CX0) 1 f fd ["thing"] (spNum K) := by
  refine F.ok (CX := CX0) sc_is_number (fun vs H Q E h => ?_) (fun cdv A outer s H vs Q E hr h => ?_)
  · obtain ⟨v, o, rfl, _⟩ := h
    rfl
  · obtain ⟨v, o, rfl, hv, q⟩ := h
    have hu := hu_of hr
    have hu64 := hr.units
    refine ⟨_, PSs.nox (pss_one (ps_ret (pe_and (pe_callB call_isi (by rfl) z_isinstance PyProof.Rows.boot_isinstance (pa_cons (pv 0) (pa_cons (pe_bltn (v := .ty "int") rfl z_int (by decide +kernel) rfl) pa_nil))) (pe_one (pe_not (pe_callB call_isi (by rfl) z_isinstance PyProof.Rows.boot_isinstance (pa_cons (pv 0) (pa_cons (pe_bltn (v := .ty "bool") rfl z_bool (by decide +kernel) rfl) pa_nil)))))))), ?_⟩
    obtain ⟨a, b, c, d, e, t, h1, h2⟩ := id hv
    refine s_ret (D := { nx := fun _ H' => Q .non H', rt := Q }) (v := .bl o.isSome) ?_ fun H' e => q H' e
    rw [← h1]
    exact ev_andV (ev_tInt (ev_var rfl) t) fun _ => ev_notV (ev_tBool (ev_var rfl) t)
abbrev s_is_whole : Stmt := top 20
theorem sc_is_whole : FnScope ["thing", "least", "most"] ["thing", "least", "most"] (defScope s_is_whole) := ⟨rfl, rfl, rfl, by decide +kernel, rfl, by decide +kernel, by decide +kernel⟩
theorem ok_is_whole {f : Addr} {fd : FuncData} (F : FnP K "is_whole" s_is_whole f fd) {f_is_number : Addr} {fd_is_number : FuncData} (F_is_number : FnP K "is_number" s_is_number f_is_number fd_is_number) (g_is_number : mg "is_number" = some (.ref f_is_number)) (G_is_number : FnOk P w K mg base (CX0) 1 f_is_number fd_is_number ["thing"] (spNum K)) : FnOk P w K mg base (CX0) 2 f fd ["thing", "least", "most"] (spWhole K) := by
  have b_is_number : Binds K fd_is_number ["thing"] [] := F_is_number.bindsN fun _ _ _ _ _ _ us hl => match us, hl with | [_], _ => rfl
  refine F.ok (CX := CX0) sc_is_whole (fun vs H Q E h => ?_) (fun cdv A outer s H vs Q E hr h => ?_)
  · obtain ⟨v, o, lo, hi, rfl, _⟩ := h
    rfl
  · obtain ⟨v, o, lo, hi, rfl, hv, q⟩ := h
    have hu := hu_of hr
    have hu64 := hr.units
    have hr_is_number := hr.mono (by decide : 1 ≤ 1)
    refine ⟨_, PSs.nox (pss_one (ps_ret (pe_and (pe_call G_is_number hr_is_number rfl g_is_number F_is_number.kp b_is_number .nil pass0 (pa_cons (pv 0) pa_nil)) (pe_one (pe_chain op_le op_le (pv 1) (pv 0) (pv 2)))))), ?_⟩
    refine s_ret (D := { nx := fun _ H' => Q .non H', rt := Q }) (v := .bl (whO lo hi o)) ?_ fun H' e => q H' e
    have hq : whO lo hi o = (o.isSome && whO lo hi o) := by cases o <;> rfl
    rw [hq]
    refine ev_andV (ev_call (z := .bl o.isSome) (ea_cons (ev_var rfl) ea_nil) fun H1 e1 Q' k' E' => ⟨v, o, rfl, hv.up e1, fun H2 e2 => k' H2 e2⟩) fun hi' => ?_
    obtain ⟨a, b, c, d, e, t, h1, h2⟩ := id hv
    cases o with
    | some i =>
      obtain rfl := h2 i rfl
      exact ev_chainLe (ev_var rfl) (ev_var rfl) (ev_var rfl)
    | none => cases hi'
abbrev s_Count_times : Stmt := meth 26 2
theorem sc_Count_times : FnScope ["self", "a", "b"] ["self", "a", "b"] (defScope s_Count_times) := ⟨rfl, rfl, rfl, by decide +kernel, rfl, by decide +kernel, by decide +kernel⟩
theorem ok_Count_times {f : Addr} {fd : FuncData} (F : FnM K "Count" "times" s_Count_times f fd) {C : KC} (nd : C.all.Nodup) (d : Nat) : FnOk P w K mg base (CX0) 1 f fd ["self", "a", "b"] (spTimes C d C.co) := by
  refine F.ok (CX := CX0) sc_Count_times (fun vs H Q E h => ?_) (fun cdv A outer s H vs Q E hr h => ?_)
  · obtain ⟨s, k, x, y, dx, dy, B, rfl, _⟩ := h
    rfl
  · obtain ⟨s, k, x, y, dx, dy, B, rfl, hK, hc, hd, hx, hy, gx, gy, sx, sy, hB, q⟩ := h
    have hu := hu_of hr
    have hu64 := hr.units
    refine ⟨_, PSs.nox (pss_cons (ps_if (PW.pt (pw_or (pt_cmpR (op_eqD hu64) (pv 1) pe_int (nomark _)) (pw_or1 (pt_cmpR (op_eqD hu64) (pv 2) pe_int (nomark _))))) (pss_one (ps_ret pe_int)) pss_nil)
      (pss_cons (ps_if (PW.pt (pw_or (pt_cmpR (op_eqD hu64) (pv 1) pe_str (nomark _)) (pw_or1 (pt_cmpR (op_eqD hu64) (pv 2) pe_str (nomark _))))) (pss_one (ps_ret pe_str)) pss_nil)
      (pss_one (ps_ret (pe_op op_mulW (pv 1) (pv 2)))))), ?_⟩
    have hi := KC.idx_of nd (i := 1) rfl hc
    have e : k = .count := by cases k <;> first | rfl | cases hi
    subst e
    have wx := fl_cn gx
    have wy := fl_cn gy
    refine q_when (b := i0 dx || i0 dy) (et_or (et_test (ev_eq0 (ev_var rfl) hx wx)) (fun _ => et_test (ev_eq0 (ev_var rfl) hy wy))) (fun hb H1 e1 => ?_) (fun hb H1 e1 => ?_)
    · exact s_ret ev_c fun H2 e2 => q _ H2 (e1.trans e2) (by show DtAt _ _ (countT dx dy); rw [count0 hb gx gy]; exact .int 0)
    refine q_when (b := isE dx || isE dy) (et_or (et_test (ev_eqE (ev_var rfl) (hx.ex e1) wx)) (fun _ => et_test (ev_eqE (ev_var rfl) (hy.ex e1) wy))) (fun hb2 H2 e2 => ?_) (fun hb2 H2 e2 => ?_)
    · exact s_ret ev_c fun H3 e3 => q _ H3 ((e1.trans e2).trans e3) (by show DtAt _ _ (countT dx dy); rw [countE hb hb2 gx gy]; exact .str _)
    obtain ⟨i, rfl, i0'⟩ := cn_int gx (or_no hb2).1
    obtain ⟨j, rfl, j0'⟩ := cn_int gy (or_no hb2).2
    obtain rfl := hx.int_inv
    obtain rfl := hy.int_inv
    exact s_ret (ev_op (ev_var rfl) (ev_var rfl) (rv_I (wide_mul (a := B + 1) (b := B + 1) (Sz.up sx (by omega)) (Sz.up sy (by omega)) (by omega) (by omega) (by omega)))) fun H3 e3 => q _ H3 ((e1.trans e2).trans e3) (.int _)
abbrev s_Bounded_times : Stmt := meth 27 3
theorem sc_Bounded_times : FnScope ["self", "a", "b"] ["self", "a", "b"] (defScope s_Bounded_times) := ⟨rfl, rfl, rfl, by decide +kernel, rfl, by decide +kernel, by decide +kernel⟩
theorem ok_Bounded_times {f : Addr} {fd : FuncData} (F : FnM K "Bounded" "times" s_Bounded_times f fd) {C : KC} (nd : C.all.Nodup) (d : Nat) : FnOk P w K mg base (CX0) 1 f fd ["self", "a", "b"] (spTimes C d C.bo) := by
  refine F.ok (CX := CX0) sc_Bounded_times (fun vs H Q E h => ?_) (fun cdv A outer s H vs Q E hr h => ?_)
  · obtain ⟨s, k, x, y, dx, dy, B, rfl, _⟩ := h
    rfl
  · obtain ⟨s, k, x, y, dx, dy, B, rfl, hK, hc, hd, hx, hy, gx, gy, sx, sy, hB, q⟩ := h
    have hu := hu_of hr
    have hu64 := hr.units
    refine ⟨_, PSs.nox (pss_cons (ps_if (PW.pt (pw_or (pt_cmpR (op_eqD hu64) (pv 1) pe_str (nomark _)) (pw_or1 (pt_cmpR (op_eqD hu64) (pv 2) pe_str (nomark _))))) (pss_one (ps_ret pe_str)) pss_nil)
      (pss_cons (ps_if (PW.pt (pw_or (pt_cmpR (op_eqD hu64) (pv 1) pe_str (nomark _)) (pw_or1 (pt_cmpR (op_eqD hu64) (pv 2) pe_str (nomark _))))) (pss_one (ps_ret pe_str)) pss_nil)
      (pss_one (ps_ret (pe_op op_add (pv 1) (pv 2)))))), ?_⟩
    have hi := KC.idx_of nd (i := 2) rfl hc
    have e : (k = .least ∨ k = .most) := by cases k <;> first | exact .inl rfl | exact .inr rfl | cases hi
    have gx : bGood dx = true := by rcases e with rfl | rfl <;> exact gx
    have gy : bGood dy = true := by rcases e with rfl | rfl <;> exact gy
    have ht : times k dx dy = boundT dx dy := by rcases e with rfl | rfl <;> rfl
    rw [ht] at q
    have wx := fl_b gx
    have wy := fl_b gy
    refine q_when (b := isN dx || isN dy) (et_or (et_test (ev_eqN (ev_var rfl) hx wx)) (fun _ => et_test (ev_eqN (ev_var rfl) hy wy))) (fun hb H1 e1 => ?_) (fun hb H1 e1 => ?_)
    · exact s_ret ev_c fun H2 e2 => q _ H2 (e1.trans e2) (by rw [boundN hb gx gy]; exact .str _)
    refine q_when (b := isE dx || isE dy) (et_or (et_test (ev_eqE (ev_var rfl) (hx.ex e1) wx)) (fun _ => et_test (ev_eqE (ev_var rfl) (hy.ex e1) wy))) (fun hb2 H2 e2 => ?_) (fun hb2 H2 e2 => ?_)
    · exact s_ret ev_c fun H3 e3 => q _ H3 ((e1.trans e2).trans e3) (by rw [boundE hb hb2 gx gy]; exact .str _)
    obtain ⟨i, rfl⟩ := b_int gx (or_no hb2).1 (or_no hb).1
    obtain ⟨j, rfl⟩ := b_int gy (or_no hb2).2 (or_no hb).2
    obtain rfl := hx.int_inv
    obtain rfl := hy.int_inv
    exact s_ret (ev_op (ev_var rfl) (ev_var rfl) rv_I0) fun H3 e3 => q _ H3 ((e1.trans e2).trans e3) (.int _)
abbrev s_Narrow_times : Stmt := meth 28 3
theorem sc_Narrow_times : FnScope ["self", "a", "b"] ["self", "a", "b"] (defScope s_Narrow_times) := ⟨rfl, rfl, rfl, by decide +kernel, rfl, by decide +kernel, by decide +kernel⟩
theorem ok_Narrow_times {f : Addr} {fd : FuncData} (F : FnM K "Narrow" "times" s_Narrow_times f fd) {C : KC} (nd : C.all.Nodup) (d : Nat) : FnOk P w K mg base (CX0) 1 f fd ["self", "a", "b"] (spTimes C d C.na) := by
  refine F.ok (CX := CX0) sc_Narrow_times (fun vs H Q E h => ?_) (fun cdv A outer s H vs Q E hr h => ?_)
  · obtain ⟨s, k, x, y, dx, dy, B, rfl, _⟩ := h
    rfl
  · obtain ⟨s, k, x, y, dx, dy, B, rfl, hK, hc, hd, hx, hy, gx, gy, sx, sy, hB, q⟩ := h
    have hu := hu_of hr
    have hu64 := hr.units
    refine ⟨_, PSs.nox (pss_cons (ps_if (PW.pt (pw_or (pt_cmpR (op_eqD hu64) (pv 1) pe_str (nomark _)) (pw_or1 (pt_cmpR (op_eqD hu64) (pv 2) pe_str (nomark _))))) (pss_one (ps_ret (pe_ifExp (pt_cmpR (op_eqD hu64) (pv 2) pe_str (nomark _)) (pv 1) (pv 2)))) pss_nil)
      (pss_one (ps_ret (pe_ifExp (pt_cmpR op_le (pv 1) (pv 2) (nomark _)) (pv 1) (pv 2))))), ?_⟩
    have hi := KC.idx_of nd (i := 3) rfl hc
    have e : k = .narrow := by cases k <;> first | rfl | cases hi
    subst e
    have wx := fl_cn gx
    have wy := fl_cn gy
    refine q_when (b := isE dx || isE dy) (et_or (et_test (ev_eqE (ev_var rfl) hx wx)) (fun _ => et_test (ev_eqE (ev_var rfl) hy wy))) (fun hb H1 e1 => ?_) (fun hb H1 e1 => ?_)
    · refine r_if (b := isE dy) (et_test (ev_eqE (ev_var rfl) (hy.ex e1) wy)) (fun h2 H2 e2 => ?_) (fun h2 H2 e2 => ?_)
      · exact s_ret (ev_var rfl) fun H3 e3 => q _ H3 ((e1.trans e2).trans e3) (by show DtAt _ _ (narrT dx dy); rw [narrE gx gy hb, if_pos h2]; exact hx.ex ((e1.trans e2).trans e3))
      · exact s_ret (ev_var rfl) fun H3 e3 => q _ H3 ((e1.trans e2).trans e3) (by show DtAt _ _ (narrT dx dy); rw [narrE gx gy hb, if_neg (by rw [h2]; decide)]; exact hy.ex ((e1.trans e2).trans e3))
    obtain ⟨i, rfl, i0'⟩ := cn_int gx (or_no hb).1
    obtain ⟨j, rfl, j0'⟩ := cn_int gy (or_no hb).2
    obtain rfl := hx.int_inv
    obtain rfl := hy.int_inv
    refine r_if (b := decide (i ≤ j)) (et_test (ev_op (ev_var rfl) (ev_var rfl) rv_I0)) (fun h2 H2 e2 => ?_) (fun h2 H2 e2 => ?_)
    · exact s_ret (ev_var rfl) fun H3 e3 => q _ H3 ((e1.trans e2).trans e3) (by show DtAt _ _ (.int (if i ≤ j then i else j)); rw [if_pos (of_decide_eq_true h2)]; exact .int _)
    · exact s_ret (ev_var rfl) fun H3 e3 => q _ H3 ((e1.trans e2).trans e3) (by show DtAt _ _ (.int (if i ≤ j then i else j)); rw [if_neg (of_decide_eq_false h2)]; exact .int _)
abbrev s_Truth_times : Stmt := meth 40 4
theorem sc_Truth_times : FnScope ["self", "a", "b"] ["self", "a", "b"] (defScope s_Truth_times) := ⟨rfl, rfl, rfl, by decide +kernel, rfl, by decide +kernel, by decide +kernel⟩
theorem ok_Truth_times {f : Addr} {fd : FuncData} (F : FnM K "Truth" "times" s_Truth_times f fd) {C : KC} (nd : C.all.Nodup) (d : Nat) : FnOk P w K mg base (CX0) 1 f fd ["self", "a", "b"] (spTimes C d C.tr) := by
  refine F.ok (CX := CX0) sc_Truth_times (fun vs H Q E h => ?_) (fun cdv A outer s H vs Q E hr h => ?_)
  · obtain ⟨s, k, x, y, dx, dy, B, rfl, _⟩ := h
    rfl
  · obtain ⟨s, k, x, y, dx, dy, B, rfl, hK, hc, hd, hx, hy, gx, gy, sx, sy, hB, q⟩ := h
    have hu := hu_of hr
    have hu64 := hr.units
    refine ⟨_, PSs.nox (pss_one (ps_ret (pe_and (pv 1) (pe_one (pv 2))))), ?_⟩
    have hi := KC.idx_of nd (i := 0) rfl hc
    have e : k = .truth := by cases k <;> first | rfl | cases hi
    subst e
    obtain ⟨a, rfl⟩ := good_truth gx
    obtain ⟨b, rfl⟩ := good_truth gy
    obtain rfl := hx.bl_inv
    obtain rfl := hy.bl_inv
    exact s_ret (D := { nx := fun _ H' => Q .non H', rt := Q }) (ev_andV (a := a) (b := b) (ev_var rfl) fun _ => ev_var rfl) fun H1 e1 => q _ H1 e1 (.bl _)
abbrev s_Lot_times : Stmt := meth 42 4
theorem sc_Lot_times : FnScope ["self", "a", "b"] ["self", "a", "b"] (defScope s_Lot_times) := ⟨rfl, rfl, rfl, by decide +kernel, rfl, by decide +kernel, by decide +kernel⟩
theorem ok_Lot_times {f : Addr} {fd : FuncData} (F : FnM K "Lot" "times" s_Lot_times f fd) {C : KC} (nd : C.all.Nodup) (d : Nat) : FnOk P w K mg base (CX0) 1 f fd ["self", "a", "b"] (spTimes C d C.lo) := by
  refine F.ok (CX := CX0) sc_Lot_times (fun vs H Q E h => ?_) (fun cdv A outer s H vs Q E hr h => ?_)
  · obtain ⟨s, k, x, y, dx, dy, B, rfl, _⟩ := h
    rfl
  · obtain ⟨s, k, x, y, dx, dy, B, rfl, hK, hc, hd, hx, hy, gx, gy, sx, sy, hB, q⟩ := h
    have hu := hu_of hr
    have hu64 := hr.units
    refine ⟨_, PSs.nox (pss_one (ps_ret (pe_op op_and (pv 1) (pv 2)))), ?_⟩
    have hi := KC.idx_of nd (i := 5) rfl hc
    obtain ⟨n, rfl⟩ : ∃ n, k = .lot n := by cases k <;> first | exact ⟨_, rfl⟩ | cases hi
    obtain ⟨i, rfl, h1, h2⟩ := good_lot gx
    obtain ⟨j, rfl, h3, h4⟩ := good_lot gy
    obtain rfl := hx.int_inv
    obtain rfl := hy.int_inv
    exact s_ret (D := { nx := fun _ H' => Q .non H', rt := Q }) (ev_op (ev_var rfl) (ev_var rfl) rv_I0) fun H1 e1 => q _ H1 e1 (.int _)
abbrev s_Share_times : Stmt := meth 41 3
theorem sc_Share_times : FnScope ["self", "a", "b", "top", "bottom", "shared"] ["self", "a", "b"] (defScope s_Share_times) := ⟨rfl, rfl, rfl, by decide +kernel, rfl, by decide +kernel, by decide +kernel⟩
theorem ok_Share_times {f : Addr} {fd : FuncData} (F : FnM K "Share" "times" s_Share_times f fd) {C : KC} (nd : C.all.Nodup) (d : Nat) (g_gcd : mg "gcd" = some (.builtin "math.gcd")) : FnOk P w K mg base (CX0) 1 f fd ["self", "a", "b"] (spTimes C d C.sh) := by
  refine F.ok (CX := CX0) sc_Share_times (fun vs H Q E h => ?_) (fun cdv A outer s H vs Q E hr h => ?_)
  · obtain ⟨s, k, x, y, dx, dy, B, rfl, _⟩ := h
    rfl
  · obtain ⟨s, k, x, y, dx, dy, B, rfl, hK, hc, hd, hx, hy, gx, gy, sx, sy, hB, q⟩ := h
    have hu := hu_of hr
    have hu64 := hr.units
    refine ⟨_, PSs.nox (pss_cons (ps_set (i := 3) sc_Share_times.nd rfl (Or.inl rfl) (pe_op op_mulW (pe_ix ix_tup (pv 1) pe_int (fun _ _ => rfl)) (pe_ix ix_tup (pv 2) pe_int (fun _ _ => rfl))))
      (pss_cons (ps_set (i := 4) sc_Share_times.nd rfl (Or.inl rfl) (pe_op op_mulW (pe_ix ix_tup (pv 1) pe_int (fun _ _ => rfl)) (pe_ix ix_tup (pv 2) pe_int (fun _ _ => rfl))))
      (pss_cons (ps_set (i := 5) sc_Share_times.nd rfl (Or.inl rfl) (pe_callBfun cr_gcd (by rfl) g_gcd (pa_cons (pv 3) (pa_cons (pv 4) pa_nil))))
      (pss_one (ps_ret (pe_tup (pa_cons (pe_op op_fdivW (pv 3) (pv 5)) (pa_cons (pe_op op_fdivW (pv 4) (pv 5)) pa_nil)))))))), ?_⟩
    have hi := KC.idx_of nd (i := 4) rfl hc
    have e : k = .share := by cases k <;> first | rfl | cases hi
    subst e
    obtain ⟨p, r, rfl, h1, h2, h3⟩ := share_nat gx
    obtain ⟨t, u, rfl, h4, h5, h6⟩ := share_nat gy
    obtain ⟨ax, _, _, rfl, hax, k1, k2⟩ := id hx.two
    obtain ⟨ay, _, _, rfl, hay, k3, k4⟩ := id hy.two
    obtain rfl := k1.int_inv
    obtain rfl := k2.int_inv
    obtain rfl := k3.int_inv
    obtain rfl := k4.int_inv
    obtain ⟨s1, s2, _⟩ : p < 2 ^ B ∧ r < 2 ^ B ∧ True := sx
    obtain ⟨s3, s4, _⟩ : t < 2 ^ B ∧ u < 2 ^ B ∧ True := sy
    have up : ∀ {x : Nat}, x < 2 ^ B → ((x : Int)).natAbs < 2 ^ (B + 1) := fun {x} h => by
      rw [Int.natAbs_natCast]
      exact Nat.lt_of_lt_of_le h (Nat.pow_le_pow_right (by decide) (by omega))
    refine q_asg (v := .int ((p : Int) * (t : Int))) (ev_op (ev_op (ev_var rfl) ev_c (rv_ixT (.inl (.inl hax)) rfl)) (ev_op (ev_var rfl) ev_c (rv_ixT (.inl (.inl hay)) rfl)) (rv_I (wide_mul (up s1) (up s3) (by omega) (by omega) (by omega)))) fun H1 e1 => ?_
    refine q_asg (v := .int ((r : Int) * (u : Int))) (ev_op (ev_op (ev_var rfl) ev_c (rv_ixT (.inl (.inl (e1 _ _ hax))) rfl)) (ev_op (ev_var rfl) ev_c (rv_ixT (.inl (.inl (e1 _ _ hay))) rfl)) (rv_I (wide_mul (up s2) (up s4) (by omega) (by omega) (by omega)))) fun H2 e2 => ?_
    refine q_asg (v := .int (gI ((p : Int) * t) ((r : Int) * u))) (ev_cb (ea_cons (ev_var rfl) (ea_cons (ev_var rfl) ea_nil)) fun H3 e3 Q' q' => ⟨_, _, rfl, q' H3 (Ex.refl H3)⟩) fun H3 e3 => ?_
    have hg : gI ((p : Int) * t) ((r : Int) * u) = ((Nat.gcd (p * t) (r * u) : Nat) : Int) := by
      unfold gI
      rw [← Int.natCast_mul, ← Int.natCast_mul, Int.natAbs_natCast, Int.natAbs_natCast]
    have hru : 0 < r * u := Nat.mul_pos h2 h5
    have g0 : 0 < Nat.gcd (p * t) (r * u) := Nat.gcd_pos_of_pos_right _ hru
    have g1 : Nat.gcd (p * t) (r * u) < 2 ^ (B + B) := Nat.lt_of_le_of_lt (Nat.le_of_dvd hru (Nat.gcd_dvd_right _ _)) (sz_pow s2 s4)
    have cd : ∀ z : Int, CDivW z (gI ((p : Int) * t) ((r : Int) * u)) := fun z => by
      rw [hg]
      refine wide_div (b := B + B + 1) (by omega) ?_ (by omega) (by omega)
      rw [Int.natAbs_natCast]
      exact Nat.lt_of_lt_of_le g1 (Nat.pow_le_pow_right (by decide) (by omega))
    exact s_retU (eu_tup (ea_cons (ev_op (ev_var rfl) (ev_var rfl) (rv_I (cd _))) (ea_cons (ev_op (ev_var rfl) (ev_var rfl) (rv_I (cd _))) ea_nil)) (by show 2 ≤ 100000; decide)) fun l H4 _ e4 hl => q _ H4 (((e1.trans e2).trans e3).trans e4) (.tup hl (.cons (.int _) (.cons (.int _) .nil)))
end
end D1
end
section
set_option Elab.async false
set_option linter.all false
set_option maxRecDepth 100000
set_option maxHeartbeats 4000000
/-! R3: ONE, ZERO, whether closed, whether good: the kinds that have no parts -/
namespace D1
open PySem L2 Evl RZ ClX PySem.VX
structure ClsK (K : PySem.W.Frag) (C : KC) : Prop where
  nd : C.all.Nodup
  ok : ∀ c ∈ C.all, OkC K c
theorem ClsK.cls {K : PySem.W.Frag} {C : KC} (T : ClsK K C) {k : RK} {c : Addr} (h : C.cls k = c) : OkC K c := h ▸ T.ok _ (C.mem k)
section
variable {K : PySem.W.Frag} {σ : L2.St} {H : Hp} {ta tb te : TE}
theorem ev_fldK {a Cc dx : Addr} {fs : List (Str × V)} {f : Str} {v : V} (h : Ev ta σ H (.ref a)) (ha : H a = some (.ins Cc dx fs)) (ok : OkC K Cc) (hf : f ∈ fields) (hl : fs.lookup f = some v) : Ev (tFld K ta f) σ H v := fun H1 e Q q =>
  h H1 e _ fun H2 e2 => ⟨a, Cc, dx, fs, v, rfl, (e.trans e2) _ _ ha, ok.cls, ok.no f hf, hl, q H2 e2⟩
end
/-- the class at c is one of three -/
def ThreeC (C : KC) (c : Addr) : Prop := c = C.co ∨ c = C.bo ∨ c = C.na
def ThreeT (C : KC) (c : Addr) : Prop := c = C.tr ∨ c = C.sh ∨ c = C.lo
theorem three_kind {C : KC} (nd : C.all.Nodup) {c : Addr} (h3 : ThreeC C c) {k : RK} (h : C.cls k = c) : k = .count ∨ k = .narrow ∨ k = .least ∨ k = .most := by
  have hi : idx k = 1 ∨ idx k = 2 ∨ idx k = 3 := by
    rcases h3 with rfl | rfl | rfl
    · exact .inl (KC.idx_of nd (i := 1) rfl h)
    · exact .inr (.inl (KC.idx_of nd (i := 2) rfl h))
    · exact .inr (.inr (KC.idx_of nd (i := 3) rfl h))
  cases k with
  | count => exact .inl rfl
  | narrow => exact .inr (.inl rfl)
  | least => exact .inr (.inr (.inl rfl))
  | most => exact .inr (.inr (.inr rfl))
  | _ => rcases hi with h | h | h <;> cases h
/-- what the three have: words beside numbers -/
def wordsOf : RK → List V
  | .least => [.str "none", .str "endless"]
  | .most => [.str "none", .str "endless"]
  | _ => [.str "endless"]
theorem KindAt.three {C : KC} {H : Hp} {k : RK} {v : V} (h : KindAt C H k v) (h3 : k = .count ∨ k = .narrow ∨ k = .least ∨ k = .most) : ∃ (a dx : Addr) (fs : List (Str × V)) (p : Addr), v = .ref a ∧ H a = some (.ins (C.cls k) dx fs) ∧ Com H k fs ∧ fs.lookup ("_others" : Str) = some (.ref p) ∧ H p = some (.tup (wordsOf k)) := by
  rcases h3 with rfl | rfl | rfl | rfl
  · obtain ⟨a, dx, fs, h1, h2, h3, p, h4, h5⟩ := h
    exact ⟨a, dx, fs, p, h1, h2, h3, h4, h5⟩
  · obtain ⟨a, dx, fs, h1, h2, h3, p, h4, h5⟩ := h
    exact ⟨a, dx, fs, p, h1, h2, h3, h4, h5⟩
  · obtain ⟨a, dx, fs, h1, h2, h3, ⟨p, h4, h5⟩, _⟩ := h
    exact ⟨a, dx, fs, p, h1, h2, h3, h4, h5⟩
  · obtain ⟨a, dx, fs, h1, h2, h3, ⟨p, h4, h5⟩, _⟩ := h
    exact ⟨a, dx, fs, p, h1, h2, h3, h4, h5⟩
theorem inV_str (z y : Str) : inV (.str z) [.str y] = (z == y) := by
  show (eqV (.str y) (.str z) || false) = _
  rw [Bool.or_false]
  show (y == z) = _
  rw [Bool.eq_iff_iff, beq_iff_eq, beq_iff_eq]
  exact eq_comm
theorem words_good {k : RK} (h3 : k = .count ∨ k = .narrow ∨ k = .least ∨ k = .most) (z : Str) : inV (.str z) (wordsOf k) = goodB k (.str z) := by
  have two : inV (.str z) [.str "none", .str "endless"] = (z == "none" || z == "endless") := by
    show (eqV (.str "none") (.str z) || (eqV (.str "endless") (.str z) || false)) = _
    rw [Bool.or_false]
    show (("none" : Str) == z || ("endless" : Str) == z) = _
    congr 1
    · rw [Bool.eq_iff_iff, beq_iff_eq, beq_iff_eq]
      exact eq_comm
    · rw [Bool.eq_iff_iff, beq_iff_eq, beq_iff_eq]
      exact eq_comm
  rcases h3 with rfl | rfl | rfl | rfl
  · exact inV_str z _
  · exact inV_str z _
  · exact two
  · exact two
/-- whether a number fits -/
def fitB : RK → Int → Bool
  | .least, _ => true
  | .most, _ => true
  | _, i => decide (0 ≤ i)
def spFits (C : KC) (c : Addr) : Sp := fun vs H Q _ => ∃ (s : V) (k : RK) (i : Int), vs = [s, .int i] ∧ KindAt C H k s ∧ C.cls k = c ∧ ∀ H', Ex H H' → Q (.bl (fitB k i)) H'
section
variable {P : Program} {w : World} {K : PySem.W.Frag} {mg : Str → Option Value} {base : Heap}
abbrev s_Kind_one : Stmt := meth 22 3
theorem sc_Kind_one : FnScope ["self"] ["self"] (defScope s_Kind_one) := ⟨rfl, rfl, rfl, by decide +kernel, rfl, by decide +kernel, by decide +kernel⟩
theorem ok_Kind_one {f : Addr} {fd : FuncData} (F : FnM K "Kind" "one" s_Kind_one f fd) {C : KC} (T : ClsK K C) (d : Nat) {c : Addr} : FnOk P w K mg base (CX0) 1 f fd ["self"] (spOne C d c) := by
  refine F.ok (CX := CX0) sc_Kind_one (fun vs H Q E h => ?_) (fun cdv A outer s H vs Q E hr h => ?_)
  · obtain ⟨s, k, rfl, _⟩ := h
    rfl
  · obtain ⟨s, k, rfl, hK, hc, hd, q⟩ := h
    have hu := hu_of hr
    have hu64 := hr.units
    refine ⟨_, PSs.nox (pss_one (ps_ret (pe_fld (pv 0) rfl))), ?_⟩
    have ok := T.cls hc
    obtain ⟨a, dx, fs, rfl, ha, com⟩ := hK.com
    rw [hc] at ha
    obtain ⟨z, hl, hz⟩ := com.one
    exact s_ret (D := { nx := fun _ H' => Q .non H', rt := Q }) (ev_fldK (ev_var rfl) ha ok (by decide) hl) fun H1 e1 => q z H1 e1 (hz.ex e1)
abbrev s_Kind_zero : Stmt := meth 22 2
theorem sc_Kind_zero : FnScope ["self"] ["self"] (defScope s_Kind_zero) := ⟨rfl, rfl, rfl, by decide +kernel, rfl, by decide +kernel, by decide +kernel⟩
theorem ok_Kind_zero {f : Addr} {fd : FuncData} (F : FnM K "Kind" "zero" s_Kind_zero f fd) {C : KC} (T : ClsK K C) (d : Nat) {c : Addr} : FnOk P w K mg base (CX0) 1 f fd ["self"] (spZero C d c) := by
  refine F.ok (CX := CX0) sc_Kind_zero (fun vs H Q E h => ?_) (fun cdv A outer s H vs Q E hr h => ?_)
  · obtain ⟨s, k, rfl, _⟩ := h
    rfl
  · obtain ⟨s, k, rfl, hK, hc, hd, q⟩ := h
    have hu := hu_of hr
    have hu64 := hr.units
    refine ⟨_, PSs.nox (pss_one (ps_ret (pe_fld (pv 0) rfl))), ?_⟩
    have ok := T.cls hc
    obtain ⟨a, dx, fs, rfl, ha, com⟩ := hK.com
    rw [hc] at ha
    obtain ⟨z, hl, hz⟩ := com.zero
    exact s_ret (D := { nx := fun _ H' => Q .non H', rt := Q }) (ev_fldK (ev_var rfl) ha ok (by decide) hl) fun H1 e1 => q z H1 e1 (hz.ex e1)
abbrev s_Kind_text : Stmt := meth 22 1
theorem sc_Kind_text : FnScope ["self"] ["self"] (defScope s_Kind_text) := ⟨rfl, rfl, rfl, by decide +kernel, rfl, by decide +kernel, by decide +kernel⟩
theorem ok_Kind_text {f : Addr} {fd : FuncData} (F : FnM K "Kind" "text" s_Kind_text f fd) {C : KC} (T : ClsK K C) (d : Nat) {c : Addr} : FnOk P w K mg base (CX0) 1 f fd ["self"] (spText C d c) := by
  refine F.ok (CX := CX0) sc_Kind_text (fun vs H Q E h => ?_) (fun cdv A outer s H vs Q E hr h => ?_)
  · obtain ⟨s, k, rfl, _⟩ := h
    rfl
  · obtain ⟨s, k, rfl, hK, hc, hd, q⟩ := h
    have hu := hu_of hr
    have hu64 := hr.units
    refine ⟨_, PSs.nox (pss_one (ps_ret (pe_fld (pv 0) rfl))), ?_⟩
    have ok := T.cls hc
    obtain ⟨a, dx, fs, rfl, ha, com⟩ := hK.com
    rw [hc] at ha
    obtain ⟨z, hl, hz⟩ := com.text
    exact s_ret (D := { nx := fun _ H' => Q .non H', rt := Q }) (ev_fldK (ev_var rfl) ha ok (by decide) hl) fun H1 e1 => q z H1 e1 hz
abbrev s_Endless_closed : Stmt := meth 25 0
theorem sc_Endless_closed : FnScope ["self"] ["self"] (defScope s_Endless_closed) := ⟨rfl, rfl, rfl, by decide +kernel, rfl, by decide +kernel, by decide +kernel⟩
theorem ok_Endless_closed {f : Addr} {fd : FuncData} (F : FnM K "Endless" "closed" s_Endless_closed f fd) {C : KC} (d : Nat) {c : Addr} : FnOk P w K mg base (CX0) 1 f fd ["self"] (spClosed C d c) := by
  refine F.ok (CX := CX0) sc_Endless_closed (fun vs H Q E h => ?_) (fun cdv A outer s H vs Q E hr h => ?_)
  · obtain ⟨s, k, rfl, _⟩ := h
    rfl
  · obtain ⟨s, k, rfl, hK, hc, hd, q⟩ := h
    have hu := hu_of hr
    have hu64 := hr.units
    refine ⟨_, PSs.nox (pss_one (ps_ret pe_bl)), ?_⟩
    exact q H (Ex.refl H)
abbrev s_Topped_closed : Stmt := meth 39 0
theorem sc_Topped_closed : FnScope ["self"] ["self"] (defScope s_Topped_closed) := ⟨rfl, rfl, rfl, by decide +kernel, rfl, by decide +kernel, by decide +kernel⟩
theorem ok_Topped_closed {f : Addr} {fd : FuncData} (F : FnM K "Topped" "closed" s_Topped_closed f fd) {C : KC} (d : Nat) {c : Addr} : FnOk P w K mg base (CX0) 1 f fd ["self"] (spClosed C d c) := by
  refine F.ok (CX := CX0) sc_Topped_closed (fun vs H Q E h => ?_) (fun cdv A outer s H vs Q E hr h => ?_)
  · obtain ⟨s, k, rfl, _⟩ := h
    rfl
  · obtain ⟨s, k, rfl, hK, hc, hd, q⟩ := h
    have hu := hu_of hr
    have hu64 := hr.units
    refine ⟨_, PSs.nox (pss_one (ps_ret pe_bl)), ?_⟩
    exact q H (Ex.refl H)
abbrev s_Counted_fits : Stmt := meth 23 2
theorem sc_Counted_fits : FnScope ["self", "number"] ["self", "number"] (defScope s_Counted_fits) := ⟨rfl, rfl, rfl, by decide +kernel, rfl, by decide +kernel, by decide +kernel⟩
theorem ok_Counted_fits {f : Addr} {fd : FuncData} (F : FnM K "Counted" "fits" s_Counted_fits f fd) {C : KC} (nd : C.all.Nodup) {c : Addr} (h3 : c = C.co ∨ c = C.na) : FnOk P w K mg base (CX0) 1 f fd ["self", "number"] (spFits C c) := by
  refine F.ok (CX := CX0) sc_Counted_fits (fun vs H Q E h => ?_) (fun cdv A outer s H vs Q E hr h => ?_)
  · obtain ⟨s, k, i, rfl, _⟩ := h
    rfl
  · obtain ⟨s, k, i, rfl, hK, hc, q⟩ := h
    have hu := hu_of hr
    have hu64 := hr.units
    refine ⟨_, PSs.nox (pss_one (ps_ret (pe_cmpR op_ge (pv 1) pe_int (nomark _)))), ?_⟩
    have hk : fitB k i = decide (0 ≤ i) := by
      have hi : idx k = 1 ∨ idx k = 3 := by
        rcases h3 with rfl | rfl
        · exact .inl (KC.idx_of nd (i := 1) rfl hc)
        · exact .inr (KC.idx_of nd (i := 3) rfl hc)
      cases k <;> first | rfl | (rcases hi with h | h <;> cases h)
    rw [hk] at q
    exact s_ret (D := { nx := fun _ H' => Q .non H', rt := Q }) (ev_op (ev_var rfl) ev_c rv_I0) fun H1 e1 => q H1 e1
abbrev s_Bounded_fits : Stmt := meth 27 1
theorem sc_Bounded_fits : FnScope ["self", "number"] ["self", "number"] (defScope s_Bounded_fits) := ⟨rfl, rfl, rfl, by decide +kernel, rfl, by decide +kernel, by decide +kernel⟩
theorem ok_Bounded_fits {f : Addr} {fd : FuncData} (F : FnM K "Bounded" "fits" s_Bounded_fits f fd) {C : KC} (nd : C.all.Nodup) : FnOk P w K mg base (CX0) 1 f fd ["self", "number"] (spFits C C.bo) := by
  refine F.ok (CX := CX0) sc_Bounded_fits (fun vs H Q E h => ?_) (fun cdv A outer s H vs Q E hr h => ?_)
  · obtain ⟨s, k, i, rfl, _⟩ := h
    rfl
  · obtain ⟨s, k, i, rfl, hK, hc, q⟩ := h
    have hu := hu_of hr
    have hu64 := hr.units
    refine ⟨_, PSs.nox (pss_one (ps_ret pe_bl)), ?_⟩
    have hk : fitB k i = true := by
      have hi := KC.idx_of nd (i := 2) rfl hc
      cases k <;> first | rfl | cases hi
    rw [hk] at q
    exact q H (Ex.refl H)
abbrev s_Counted_good : Stmt := meth 23 1
theorem sc_Counted_good : FnScope ["self", "thing"] ["self", "thing"] (defScope s_Counted_good) := ⟨rfl, rfl, rfl, by decide +kernel, rfl, by decide +kernel, by decide +kernel⟩
theorem ok_Counted_good {f : Addr} {fd : FuncData} (F : FnM K "Counted" "good" s_Counted_good f fd) {f_is_number : Addr} {fd_is_number : FuncData} (F_is_number : FnP K "is_number" s_is_number f_is_number fd_is_number) (g_is_number : mg "is_number" = some (.ref f_is_number)) (G_is_number : FnOk P w K mg base (CX0) 1 f_is_number fd_is_number ["thing"] (spNum K)) {C : KC} (T : ClsK K C) (d : Nat) {c : Addr} (h3 : ThreeC C c) (HA : ∀ e sp, (fun e => if e = c then some (spFits C c) else none) e = some sp → HeldM P w K mg base 1 "fits" e sp) (z_isinstance : mg "isinstance" = none) (z_str : mg "str" = none) : FnOk P w K mg base (CX0) 2 f fd ["self", "thing"] (spGood C d c) := by
  have b_is_number : Binds K fd_is_number ["thing"] [] := F_is_number.bindsN fun _ _ _ _ _ _ us hl => match us, hl with | [_], _ => rfl
  refine F.ok (CX := CX0) sc_Counted_good (fun vs H Q E h => ?_) (fun cdv A outer s H vs Q E hr h => ?_)
  · obtain ⟨s, k, x, dx, rfl, _⟩ := h
    rfl
  · obtain ⟨s, k, x, dx, rfl, hK, hc, hd, hx, q⟩ := h
    have hu := hu_of hr
    have hu64 := hr.units
    have hr_is_number := hr.mono (by decide : 1 ≤ 1)
    have hr_fits := hr.mono (by decide : 1 ≤ 1)
    refine ⟨_, PSs.nox (pss_cons (ps_if (pt_val (pe_callB call_isi (by rfl) z_isinstance PyProof.Rows.boot_isinstance (pa_cons (pv 1) (pa_cons (pe_bltn (v := .ty "str") rfl z_str (by decide +kernel) rfl) pa_nil)))) (pss_one (ps_ret (pe_cmpR op_in_seq (pv 1) (pe_fld (pv 0) rfl) (by rfl)))) pss_nil)
      (pss_one (ps_ret (pe_and (pe_call G_is_number hr_is_number rfl g_is_number F_is_number.kp b_is_number .nil pass0 (pa_cons (pv 1) pa_nil)) (pe_one (pe_methA (S := fun e => if e = c then some (spFits C c) else none) HA (pv 0) hr_fits (pa_cons (pv 1) pa_nil))))))), ?_⟩
    have ok := T.cls hc
    have hk := three_kind T.nd h3 hc
    obtain ⟨a, da, fs, p, rfl, ha, com, ho, hp⟩ := hK.three hk
    rw [hc] at ha
    have hG : dTx dx = false → goodB k dx = ((dNum dx).isSome && match dNum dx with | some i => fitB k i | none => false) := fun h => by
      rcases hk with rfl | rfl | rfl | rfl <;> cases dx <;> first | rfl | cases h
    refine q_when (b := dTx dx) (et_B (ev_tStr (ev_var rfl) hx.tells)) (fun hb H1 e1 => ?_) (fun hb H1 e1 => ?_)
    · cases hx with
      | str z =>
        have fl : (wordsOf k).all flatV = true := by rcases hk with rfl | rfl | rfl | rfl <;> rfl
        refine s_ret (ev_op (ev_var rfl) (ev_fldK (ev_var rfl) (e1 _ _ ha) ok (by decide) ho) (rv_isT (.inl (.inl (e1 _ _ hp))) rfl fl)) fun H2 e2 => ?_
        rw [words_good hk]
        exact q H2 (e1.trans e2)
      | _ => cases hb
    · rw [hG hb] at q
      refine s_ret (v := .bl ((dNum dx).isSome && match dNum dx with | some i => fitB k i | none => false)) (ev_andV (ev_call (ea_cons (ev_var rfl) ea_nil) fun H2 e2 Q' q' E' => ⟨x, _, rfl, (hx.ex (e1.trans e2)).num, fun H3 e3 => q' H3 e3⟩) fun hs => ?_) fun H2 e2 => q H2 (e1.trans e2)
      cases dx with
      | int i =>
        obtain rfl := hx.int_inv
        intro H2 e2 Q' q'
        have e12 := e1.trans e2
        exact ⟨_, rfl, a, c, da, fs, spFits C c, rfl, if_pos rfl, e12 _ _ ha, com.no _ (by decide), _, rfl, .ref a, k, i, rfl, hK.ex e12, hc, fun H3 e3 => q' H3 e3⟩
      | _ => cases hs
abbrev s_Truth_good : Stmt := meth 40 2
theorem sc_Truth_good : FnScope ["self", "thing"] ["self", "thing"] (defScope s_Truth_good) := ⟨rfl, rfl, rfl, by decide +kernel, rfl, by decide +kernel, by decide +kernel⟩
theorem ok_Truth_good {f : Addr} {fd : FuncData} (F : FnM K "Truth" "good" s_Truth_good f fd) {C : KC} (nd : C.all.Nodup) (d : Nat) (z_isinstance : mg "isinstance" = none) (z_bool : mg "bool" = none) : FnOk P w K mg base (CX0) 1 f fd ["self", "thing"] (spGood C d C.tr) := by
  refine F.ok (CX := CX0) sc_Truth_good (fun vs H Q E h => ?_) (fun cdv A outer s H vs Q E hr h => ?_)
  · obtain ⟨s, k, x, dx, rfl, _⟩ := h
    rfl
  · obtain ⟨s, k, x, dx, rfl, hK, hc, hd, hx, q⟩ := h
    have hu := hu_of hr
    have hu64 := hr.units
    refine ⟨_, PSs.nox (pss_one (ps_ret (pe_callB call_isi (by rfl) z_isinstance PyProof.Rows.boot_isinstance (pa_cons (pv 1) (pa_cons (pe_bltn (v := .ty "bool") rfl z_bool (by decide +kernel) rfl) pa_nil))))), ?_⟩
    have hi := KC.idx_of nd (i := 0) rfl hc
    have e : k = .truth := by cases k <;> first | rfl | cases hi
    subst e
    exact s_ret (D := { nx := fun _ H' => Q .non H', rt := Q }) (ev_tBool (ev_var rfl) hx.tells) fun H1 e1 => q H1 e1
def lenD : PyData → Nat
  | .tuple ds => ds.length
  | _ => 0
theorem ev_lenD {K : PySem.W.Frag} {σ : L2.St} {H : Hp} {te : TE} {v : V} {d : PyData} (h : Ev te σ H v) (hv : DtAt H v d) (ht : dTu d = true) : Ev (tCB (fun xs H Q => ∃ p ys, xs = [V.ref p] ∧ (SqL K H p ys ∨ SqT K H p ys) ∧ Q (.int ys.length) H) (tCons te tNil)) σ H (.int (lenD d)) := by
  cases hv with
  | tup ha r =>
    rw [show lenD (.tuple _) = _ from r.len.symm]
    exact ev_lenT h (.inl (.inl ha))
  | _ => cases ht
theorem two_of {d : PyData} (h : dTu d = true) (h2 : lenD d = 2) : ∃ x y, d = .tuple [x, y] := by
  cases d with
  | tuple ds =>
    match ds, h2 with
    | [x, y], _ => exact ⟨x, y, rfl⟩
  | _ => cases h
theorem ne_2 (n : Nat) : (!((n : Int) == (2 : Int))) = !decide (n = 2) := by
  by_cases h : n = 2
  · subst h
    rfl
  · rw [decide_eq_false h]
    have : ((n : Int) == (2 : Int)) = false := by
      rw [beq_eq_false_iff_ne]
      omega
    rw [this]
theorem shGood_tu {d : PyData} (h : (!dTu d || !decide (lenD d = 2)) = true) : shGood d = false := by
  unfold shGood
  split
  · cases h
  · rfl
theorem prGood_tu {f g : PyData → Bool} {d : PyData} (h : (!dTu d || !decide (lenD d = 2)) = true) : prGood f g d = false := by
  unfold prGood
  split
  · cases h
  · rfl
theorem shGood_two (x y : PyData) : shGood (.tuple [x, y]) = match dNum x, dNum y with | some p, some q => (decide (0 ≤ p) && decide (p ≤ q)) && (gI p q == 1) | _, _ => false := by
  cases x <;> cases y <;> rfl
abbrev s_Share_good : Stmt := meth 41 1
theorem sc_Share_good : FnScope ["self", "thing", "top", "bottom"] ["self", "thing"] (defScope s_Share_good) := ⟨rfl, rfl, rfl, by decide +kernel, rfl, by decide +kernel, by decide +kernel⟩
theorem ok_Share_good {f : Addr} {fd : FuncData} (F : FnM K "Share" "good" s_Share_good f fd) {f_is_number : Addr} {fd_is_number : FuncData} (F_is_number : FnP K "is_number" s_is_number f_is_number fd_is_number) (g_is_number : mg "is_number" = some (.ref f_is_number)) (G_is_number : FnOk P w K mg base (CX0) 1 f_is_number fd_is_number ["thing"] (spNum K)) {C : KC} (nd : C.all.Nodup) (d : Nat) (g_gcd : mg "gcd" = some (.builtin "math.gcd")) (z_isinstance : mg "isinstance" = none) (z_tuple : mg "tuple" = none) (z_len : mg "len" = none) : FnOk P w K mg base (CX0) 2 f fd ["self", "thing"] (spGood C d C.sh) := by
  have b_is_number : Binds K fd_is_number ["thing"] [] := F_is_number.bindsN fun _ _ _ _ _ _ us hl => match us, hl with | [_], _ => rfl
  refine F.ok (CX := CX0) sc_Share_good (fun vs H Q E h => ?_) (fun cdv A outer s H vs Q E hr h => ?_)
  · obtain ⟨s, k, x, dx, rfl, _⟩ := h
    rfl
  · obtain ⟨s, k, x, dx, rfl, hK, hc, hd, hx, q⟩ := h
    have hu := hu_of hr
    have hu64 := hr.units
    have hr_is_number := hr.mono (by decide : 1 ≤ 1)
    refine ⟨_, PSs.nox (pss_cons (ps_if (PW.pt (pw_or (pt_not (pt_val (pe_callB call_isi (by rfl) z_isinstance PyProof.Rows.boot_isinstance (pa_cons (pv 1) (pa_cons (pe_bltn (v := .ty "tuple") rfl z_tuple (by decide +kernel) rfl) pa_nil))))) (pw_or1 (pt_cmpR op_ne (pe_callB call_len_seq (by rfl) z_len PySem.boot_len (pa_cons (pv 1) pa_nil)) pe_int (nomark _))))) (pss_one (ps_ret pe_bl)) pss_nil)
      (pss_cons (ps_asg (pv 1) (pg_tup rfl (pgs_cons (pg_name (i := 2) sc_Share_good.nd rfl (Or.inl rfl)) (pgs_cons (pg_name (i := 3) sc_Share_good.nd rfl (Or.inl rfl)) pgs_nil))))
      (pss_cons (ps_if (PW.pt (pw_or (pt_not (pt_val (pe_call G_is_number hr_is_number rfl g_is_number F_is_number.kp b_is_number .nil pass0 (pa_cons (pv 2) pa_nil)))) (pw_or1 (pt_not (pt_val (pe_call G_is_number hr_is_number rfl g_is_number F_is_number.kp b_is_number .nil pass0 (pa_cons (pv 3) pa_nil))))))) (pss_one (ps_ret pe_bl)) pss_nil)
      (pss_one (ps_ret (pe_and (pe_chain op_le op_le pe_int (pv 2) (pv 3)) (pe_one (pe_cmpR op_eq (pe_callBfun cr_gcd (by rfl) g_gcd (pa_cons (pv 2) (pa_cons (pv 3) pa_nil))) pe_int (nomark _))))))))), ?_⟩
    have hi := KC.idx_of nd (i := 4) rfl hc
    have e : k = .share := by cases k <;> first | rfl | cases hi
    subst e
    have q : ∀ H', Ex H H' → Q (.bl (shGood dx)) H' := q
    refine q_when (b := !dTu dx || !decide (lenD dx = 2)) (et_or (et_not (et_B (ev_tTup (ev_var rfl) hx.tells))) (fun ht => et_is (et_test (ev_neI (ev_lenD (ev_var rfl) hx (by simpa using ht)) ev_c)) (ne_2 _))) (fun hb H1 e1 => ?_) (fun hb H1 e1 => ?_)
    · exact s_ret ev_c fun H2 e2 => by
        have := q H2 (e1.trans e2)
        rw [shGood_tu hb] at this
        exact this
    obtain ⟨h1, h2⟩ := or_no hb
    obtain ⟨dp, dq, rfl⟩ := two_of (by simpa using h1) (by simpa using h2)
    obtain ⟨ax, up, uq, rfl, hax, hp, hq⟩ := id hx.two
    rw [shGood_two] at q
    refine ⟨_, rfl, ax, [up, uq], rfl, .inl (.inl (e1 _ _ hax)), rfl, _, _, rfl, _, _, rfl, rfl, ?_⟩
    refine q_when (b := !(dNum dp).isSome || !(dNum dq).isSome) (et_or (et_not (et_B (ev_call (ea_cons (ev_var rfl) ea_nil) fun H2 e2 Q' q' E' => ⟨_, _, rfl, (hp.ex (e1.trans e2)).num, fun H3 e3 => q' H3 e3⟩))) (fun _ => et_not (et_B (ev_call (ea_cons (ev_var rfl) ea_nil) fun H2 e2 Q' q' E' => ⟨_, _, rfl, (hq.ex (e1.trans e2)).num, fun H3 e3 => q' H3 e3⟩)))) (fun hb2 H2 e2 => ?_) (fun hb2 H2 e2 => ?_)
    · exact s_ret ev_c fun H3 e3 => by
        have := q H3 ((e1.trans e2).trans e3)
        cases hdp : dNum dp with
        | none =>
          rw [hdp] at this
          exact this
        | some i =>
          cases hdq : dNum dq with
          | none =>
            rw [hdp, hdq] at this
            exact this
          | some j =>
            rw [hdp, hdq] at hb2
            cases hb2
    · obtain ⟨h3, h4⟩ := or_no hb2
      cases dp with
      | int p =>
        cases dq with
        | int r =>
          obtain rfl := hp.int_inv
          obtain rfl := hq.int_inv
          exact s_ret (v := .bl ((decide (0 ≤ p) && decide (p ≤ r)) && (gI p r == 1))) (ev_andV (ev_chainLe ev_c (ev_var rfl) (ev_var rfl)) fun _ => ev_eqI (ev_cb (ea_cons (ev_var rfl) (ea_cons (ev_var rfl) ea_nil)) fun H3 e3 Q' q' => ⟨_, _, rfl, q' H3 (Ex.refl H3)⟩) ev_c) fun H3 e3 => q H3 ((e1.trans e2).trans e3)
        | _ => cases h4
      | _ => cases h3
abbrev s_Lot_good : Stmt := meth 42 2
theorem sc_Lot_good : FnScope ["self", "thing"] ["self", "thing"] (defScope s_Lot_good) := ⟨rfl, rfl, rfl, by decide +kernel, rfl, by decide +kernel, by decide +kernel⟩
theorem ok_Lot_good {f : Addr} {fd : FuncData} (F : FnM K "Lot" "good" s_Lot_good f fd) {f_is_number : Addr} {fd_is_number : FuncData} (F_is_number : FnP K "is_number" s_is_number f_is_number fd_is_number) (g_is_number : mg "is_number" = some (.ref f_is_number)) (G_is_number : FnOk P w K mg base (CX0) 1 f_is_number fd_is_number ["thing"] (spNum K)) {C : KC} (nd : C.all.Nodup) (d : Nat) (HA : ∀ e sp, (fun e => if e = C.lo then some (spOne C d C.lo) else none) e = some sp → HeldM P w K mg base 1 "one" e sp) : FnOk P w K mg base (CX0) 2 f fd ["self", "thing"] (spGood C d C.lo) := by
  have b_is_number : Binds K fd_is_number ["thing"] [] := F_is_number.bindsN fun _ _ _ _ _ _ us hl => match us, hl with | [_], _ => rfl
  refine F.ok (CX := CX0) sc_Lot_good (fun vs H Q E h => ?_) (fun cdv A outer s H vs Q E hr h => ?_)
  · obtain ⟨s, k, x, dx, rfl, _⟩ := h
    rfl
  · obtain ⟨s, k, x, dx, rfl, hK, hc, hd, hx, q⟩ := h
    have hu := hu_of hr
    have hu64 := hr.units
    have hr_is_number := hr.mono (by decide : 1 ≤ 1)
    have hr_one := hr.mono (by decide : 1 ≤ 1)
    refine ⟨_, PSs.nox (pss_one (ps_ret (pe_and (pe_call G_is_number hr_is_number rfl g_is_number F_is_number.kp b_is_number .nil pass0 (pa_cons (pv 1) pa_nil)) (pe_one (pe_chain op_le op_le pe_int (pv 1) (pe_methA0 (S := fun e => if e = C.lo then some (spOne C d C.lo) else none) HA (pv 0) hr_one)))))), ?_⟩
    have hi := KC.idx_of nd (i := 5) rfl hc
    obtain ⟨n, rfl⟩ : ∃ n, k = .lot n := by cases k <;> first | exact ⟨_, rfl⟩ | cases hi
    obtain ⟨a, da, fs, rfl, ha, com⟩ := hK.com
    have q : ∀ H', Ex H H' → Q (.bl (lotGood n dx)) H' := q
    have hG : lotGood n dx = ((dNum dx).isSome && lotGood n dx) := by cases dx <;> rfl
    rw [hG] at q
    refine s_ret (D := { nx := fun _ H' => Q .non H', rt := Q }) (ev_andV (ev_call (z := .bl (dNum dx).isSome) (ea_cons (ev_var rfl) ea_nil) fun H2 e2 Q' q' E' => ⟨x, _, rfl, (hx.ex e2).num, fun H3 e3 => q' H3 e3⟩) fun hs => ?_) fun H2 e2 => q H2 e2
    cases dx with
    | int i =>
      obtain rfl := hx.int_inv
      refine ev_is (ev_chainLe ev_c (ev_var rfl) (c := 2 ^ n - 1) fun H2 e2 Q' q' => ⟨_, rfl, a, C.lo, da, fs, spOne C d C.lo, rfl, if_pos rfl, e2 _ _ ha, com.no _ (by decide), .ref a, .lot n, rfl, hK.ex e2, rfl, hd, fun r H3 e3 hr => ?_⟩) rfl
      obtain rfl := hr.int_inv
      exact q' H3 e3
    | _ => cases hs
end
end D1
end
section
set_option Elab.async false
set_option linter.all false
set_option maxRecDepth 100000
set_option maxHeartbeats 4000000
/-! R4: pairs, and so all kinds -/
namespace D1
open PySem L2 Evl RZ ClX PySem.VX
section
variable {P : Program} {w : World} {K : PySem.W.Frag} {mg : Str → Option Value} {base : Heap}
theorem fn_never {CX : CXT} {k : Nat} {f : Addr} {fd : FuncData} {ps : List Str} {sp : Sp} (h : ∀ vs H Q E, ¬sp vs H Q E) : FnOk P w K mg base CX k f fd ps sp := ⟨fun vs H Q E z => (h vs H Q E z).elim, fun _ _ _ _ _ _ vs Q E _ _ _ _ z => (h vs _ Q E z).elim⟩
theorem pair_kind {C : KC} (nd : C.all.Nodup) {k : RK} (h : C.cls k = C.pa) : ∃ l r, k = .pair l r := by
  have hi := KC.idx_of nd (i := 6) rfl h
  cases k <;> first | exact ⟨_, _, rfl⟩ | cases hi
theorem depth_l {l r : RK} {d : Nat} (h : (RK.pair l r).depth < d + 1) : l.depth < d := by
  have h : max l.depth r.depth + 1 < d + 1 := h
  have := Nat.le_max_left l.depth r.depth
  omega
theorem depth_r {l r : RK} {d : Nat} (h : (RK.pair l r).depth < d + 1) : r.depth < d := by
  have h : max l.depth r.depth + 1 < d + 1 := h
  have := Nat.le_max_right l.depth r.depth
  omega
abbrev s_Pair_times : Stmt := meth 34 5
theorem sc_Pair_times : FnScope ["self", "a", "b"] ["self", "a", "b"] (defScope s_Pair_times) := ⟨rfl, rfl, rfl, by decide +kernel, rfl, by decide +kernel, by decide +kernel⟩
theorem ok_Pair_times {f : Addr} {fd : FuncData} (F : FnM K "Pair" "times" s_Pair_times f fd) {C : KC} (T : ClsK K C) {d : Nat} (HA : ∀ e sp, SK C (spTimes C d) e = some sp → HeldM P w K mg base (d + 1) "times" e sp) : FnOk P w K mg base (CX0) (d + 2) f fd ["self", "a", "b"] (spTimes C (d + 1) C.pa) := by
  refine F.ok (CX := CX0) sc_Pair_times (fun vs H Q E h => ?_) (fun cdv A outer s H vs Q E hr h => ?_)
  · obtain ⟨s, k, x, y, dx, dy, B, rfl, _⟩ := h
    rfl
  · obtain ⟨s, k, x, y, dx, dy, B, rfl, hK, hc, hd, hx, hy, gx, gy, sx, sy, hB, q⟩ := h
    have hu := hu_of hr
    have hu64 := hr.units
    have hr_in := hr.mono (Nat.le_refl _)
    refine ⟨_, PSs.nox (pss_one (ps_ret (pe_tup (pa_cons (pe_methA (S := SK C (spTimes C d)) HA (pe_fld (pv 0) rfl) hr_in (pa_cons (pe_ix ix_tup (pv 1) pe_int (fun _ _ => rfl)) (pa_cons (pe_ix ix_tup (pv 2) pe_int (fun _ _ => rfl)) pa_nil))) (pa_cons (pe_methA (S := SK C (spTimes C d)) HA (pe_fld (pv 0) rfl) hr_in (pa_cons (pe_ix ix_tup (pv 1) pe_int (fun _ _ => rfl)) (pa_cons (pe_ix ix_tup (pv 2) pe_int (fun _ _ => rfl)) pa_nil))) pa_nil))))), ?_⟩
    obtain ⟨kl, kr, rfl⟩ := pair_kind T.nd hc
    have ok := T.cls (k := .pair kl kr) rfl
    obtain ⟨x1, x2, rfl, g1, g2⟩ := good_pair gx
    obtain ⟨y1, y2, rfl, g3, g4⟩ := good_pair gy
    obtain ⟨s1, s2, _⟩ := sx
    obtain ⟨s3, s4, _⟩ := sy
    obtain ⟨ax, u1, u2, rfl, hax, v1, v2⟩ := id hx.two
    obtain ⟨ay, t1, t2, rfl, hay, v3, v4⟩ := id hy.two
    obtain ⟨a, da, fs, fl, fr, rfl, ha, com, l1, l2, k1, k2⟩ := id hK
    obtain ⟨la, ld, lf, rfl, hla, lcom⟩ := id k1.com
    obtain ⟨ra, rd, rf, rfl, hra, rcom⟩ := id k2.com
    refine ⟨_, rfl, a, _, da, fs, _, rfl, ha, ok.cls, ok.no _ (by decide), l1, la, _, ld, lf, _, rfl, SK.at kl, hla, lcom.no _ (by decide), ?_⟩
    refine ⟨_, rfl, ax, _, _, _, rfl, rfl, .inl (.inl hax), rfl, _, rfl, ay, _, _, _, rfl, rfl, .inl (.inl hay), rfl, .ref la, kl, _, _, _, _, B, rfl, k1, rfl, depth_l hd, v1, v3, g1, g3, s1, s3, hB, fun r1 H1 e1 hr1 => ?_⟩
    refine ⟨_, rfl, a, _, da, fs, _, rfl, e1 _ _ ha, ok.cls, ok.no _ (by decide), l2, ra, _, rd, rf, _, rfl, SK.at kr, e1 _ _ hra, rcom.no _ (by decide), ?_⟩
    refine ⟨_, rfl, ax, _, _, _, rfl, rfl, .inl (.inl (e1 _ _ hax)), rfl, _, rfl, ay, _, _, _, rfl, rfl, .inl (.inl (e1 _ _ hay)), rfl, .ref ra, kr, _, _, _, _, B, rfl, k2.ex e1, rfl, depth_r hd, v2.ex e1, v4.ex e1, g2, g4, s2, s4, hB, fun r2 H2 e2 hr2 => ⟨by show 2 ≤ sizeLine; decide, fun l hl => ?_⟩⟩
    exact q _ _ ((e1.trans e2).trans (Ex.new hl)) (.new hl (.cons (hr1.ex e2) (.cons hr2 .nil)))
abbrev s_Pair_closed : Stmt := meth 34 1
theorem sc_Pair_closed : FnScope ["self"] ["self"] (defScope s_Pair_closed) := ⟨rfl, rfl, rfl, by decide +kernel, rfl, by decide +kernel, by decide +kernel⟩
theorem ok_Pair_closed {f : Addr} {fd : FuncData} (F : FnM K "Pair" "closed" s_Pair_closed f fd) {C : KC} (T : ClsK K C) {d : Nat} (HA : ∀ e sp, SK C (spClosed C d) e = some sp → HeldM P w K mg base (d + 1) "closed" e sp) : FnOk P w K mg base (CX0) (d + 2) f fd ["self"] (spClosed C (d + 1) C.pa) := by
  refine F.ok (CX := CX0) sc_Pair_closed (fun vs H Q E h => ?_) (fun cdv A outer s H vs Q E hr h => ?_)
  · obtain ⟨s, k, rfl, _⟩ := h
    rfl
  · obtain ⟨s, k, rfl, hK, hc, hd, q⟩ := h
    have hu := hu_of hr
    have hu64 := hr.units
    have hr_in := hr.mono (Nat.le_refl _)
    refine ⟨_, PSs.nox (pss_one (ps_ret (pe_and (pe_methA0 (S := SK C (spClosed C d)) HA (pe_fld (pv 0) rfl) hr_in) (pe_one (pe_methA0 (S := SK C (spClosed C d)) HA (pe_fld (pv 0) rfl) hr_in))))), ?_⟩
    obtain ⟨kl, kr, rfl⟩ := pair_kind T.nd hc
    have ok := T.cls (k := .pair kl kr) rfl
    obtain ⟨a, da, fs, fl, fr, rfl, ha, com, l1, l2, k1, k2⟩ := id hK
    obtain ⟨la, ld, lf, rfl, hla, lcom⟩ := id k1.com
    obtain ⟨ra, rd, rf, rfl, hra, rcom⟩ := id k2.com
    refine s_ret (D := { nx := fun _ H' => Q .non H', rt := Q }) (v := .bl true) (ev_is (ev_andV (a := true) (b := true) (fun H1 e1 Q' q' => ?_) (fun _ H1 e1 Q' q' => ?_)) rfl) fun H1 e1 => q H1 e1
    · exact ⟨_, rfl, a, _, da, fs, _, rfl, e1 _ _ ha, ok.cls, ok.no _ (by decide), l1, la, _, ld, lf, _, rfl, SK.at kl, e1 _ _ hla, lcom.no _ (by decide), .ref la, kl, rfl, k1.ex e1, rfl, depth_l hd, fun H2 e2 => q' H2 e2⟩
    · exact ⟨_, rfl, a, _, da, fs, _, rfl, e1 _ _ ha, ok.cls, ok.no _ (by decide), l2, ra, _, rd, rf, _, rfl, SK.at kr, e1 _ _ hra, rcom.no _ (by decide), .ref ra, kr, rfl, k2.ex e1, rfl, depth_r hd, fun H2 e2 => q' H2 e2⟩
abbrev s_Pair_good : Stmt := meth 34 3
theorem sc_Pair_good : FnScope ["self", "thing"] ["self", "thing"] (defScope s_Pair_good) := ⟨rfl, rfl, rfl, by decide +kernel, rfl, by decide +kernel, by decide +kernel⟩
theorem ok_Pair_good {f : Addr} {fd : FuncData} (F : FnM K "Pair" "good" s_Pair_good f fd) {C : KC} (T : ClsK K C) {d : Nat} (HA : ∀ e sp, SK C (spGood C d) e = some sp → HeldM P w K mg base (d + 2) "good" e sp) (z_isinstance : mg "isinstance" = none) (z_tuple : mg "tuple" = none) (z_len : mg "len" = none) : FnOk P w K mg base (CX0) (d + 3) f fd ["self", "thing"] (spGood C (d + 1) C.pa) := by
  refine F.ok (CX := CX0) sc_Pair_good (fun vs H Q E h => ?_) (fun cdv A outer s H vs Q E hr h => ?_)
  · obtain ⟨s, k, x, dx, rfl, _⟩ := h
    rfl
  · obtain ⟨s, k, x, dx, rfl, hK, hc, hd, hx, q⟩ := h
    have hu := hu_of hr
    have hu64 := hr.units
    have hr_in := hr.mono (Nat.le_refl _)
    refine ⟨_, PSs.nox (pss_cons (ps_if (PW.pt (pw_or (pt_not (pt_val (pe_callB call_isi (by rfl) z_isinstance PyProof.Rows.boot_isinstance (pa_cons (pv 1) (pa_cons (pe_bltn (v := .ty "tuple") rfl z_tuple (by decide +kernel) rfl) pa_nil))))) (pw_or1 (pt_cmpR op_ne (pe_callB call_len_seq (by rfl) z_len PySem.boot_len (pa_cons (pv 1) pa_nil)) pe_int (nomark _))))) (pss_one (ps_ret pe_bl)) pss_nil)
      (pss_one (ps_ret (pe_and (pe_methA (S := SK C (spGood C d)) HA (pe_fld (pv 0) rfl) hr_in (pa_cons (pe_ix ix_tup (pv 1) pe_int (fun _ _ => rfl)) pa_nil)) (pe_one (pe_methA (S := SK C (spGood C d)) HA (pe_fld (pv 0) rfl) hr_in (pa_cons (pe_ix ix_tup (pv 1) pe_int (fun _ _ => rfl)) pa_nil))))))), ?_⟩
    obtain ⟨kl, kr, rfl⟩ := pair_kind T.nd hc
    have ok := T.cls (k := .pair kl kr) rfl
    obtain ⟨a, da, fs, fl, fr, rfl, ha, com, l1, l2, k1, k2⟩ := id hK
    obtain ⟨la, ld, lf, rfl, hla, lcom⟩ := id k1.com
    obtain ⟨ra, rd, rf, rfl, hra, rcom⟩ := id k2.com
    have q : ∀ H', Ex H H' → Q (.bl (prGood (goodB kl) (goodB kr) dx)) H' := q
    refine q_when (b := !dTu dx || !decide (lenD dx = 2)) (et_or (et_not (et_B (ev_tTup (ev_var rfl) hx.tells))) (fun ht => et_is (et_test (ev_neI (ev_lenD (ev_var rfl) hx (by simpa using ht)) ev_c)) (ne_2 _))) (fun hb H1 e1 => ?_) (fun hb H1 e1 => ?_)
    · exact s_ret ev_c fun H2 e2 => by
        have := q H2 (e1.trans e2)
        rw [prGood_tu hb] at this
        exact this
    obtain ⟨h1, h2⟩ := or_no hb
    obtain ⟨dp, dq, rfl⟩ := two_of (by simpa using h1) (by simpa using h2)
    obtain ⟨ax, up, uq, rfl, hax, hp, hq⟩ := id hx.two
    refine s_ret (v := .bl (goodB kl dp && goodB kr dq)) (ev_andV (fun H2 e2 Q' q' => ?_) (fun _ H2 e2 Q' q' => ?_)) fun H2 e2 => q H2 (e1.trans e2)
    · have e := e1.trans e2
      exact ⟨_, rfl, a, _, da, fs, _, rfl, e _ _ ha, ok.cls, ok.no _ (by decide), l1, la, _, ld, lf, _, rfl, SK.at kl, e _ _ hla, lcom.no _ (by decide), _, rfl, ax, _, _, _, rfl, rfl, .inl (.inl (e _ _ hax)), rfl, .ref la, kl, _, _, rfl, k1.ex e, rfl, depth_l hd, hp.ex e, fun H3 e3 => q' H3 e3⟩
    · have e := e1.trans e2
      exact ⟨_, rfl, a, _, da, fs, _, rfl, e _ _ ha, ok.cls, ok.no _ (by decide), l2, ra, _, rd, rf, _, rfl, SK.at kr, e _ _ hra, rcom.no _ (by decide), _, rfl, ax, _, _, _, rfl, rfl, .inl (.inl (e _ _ hax)), rfl, .ref ra, kr, _, _, rfl, k2.ex e, rfl, depth_r hd, hq.ex e, fun H3 e3 => q' H3 e3⟩
theorem all_times {C : KC} (T : ClsK K C) {f_tr : Addr} {fd_tr : FuncData} (m_tr : Meth K C.tr "times" f_tr) (b_tr : Binds K fd_tr ["self", "a", "b"] []) {f_co : Addr} {fd_co : FuncData} (m_co : Meth K C.co "times" f_co) (b_co : Binds K fd_co ["self", "a", "b"] []) {f_bo : Addr} {fd_bo : FuncData} (m_bo : Meth K C.bo "times" f_bo) (b_bo : Binds K fd_bo ["self", "a", "b"] []) {f_na : Addr} {fd_na : FuncData} (m_na : Meth K C.na "times" f_na) (b_na : Binds K fd_na ["self", "a", "b"] []) {f_sh : Addr} {fd_sh : FuncData} (m_sh : Meth K C.sh "times" f_sh) (b_sh : Binds K fd_sh ["self", "a", "b"] []) {f_lo : Addr} {fd_lo : FuncData} (m_lo : Meth K C.lo "times" f_lo) (b_lo : Binds K fd_lo ["self", "a", "b"] []) {f_pa : Addr} {fd_pa : FuncData} (m_pa : Meth K C.pa "times" f_pa) (b_pa : Binds K fd_pa ["self", "a", "b"] []) (G_tr : ∀ d, FnOk P w K mg base CX0 1 f_tr fd_tr ["self", "a", "b"] (spTimes C d C.tr)) (G_co : ∀ d, FnOk P w K mg base CX0 1 f_co fd_co ["self", "a", "b"] (spTimes C d C.co)) (G_bo : ∀ d, FnOk P w K mg base CX0 1 f_bo fd_bo ["self", "a", "b"] (spTimes C d C.bo)) (G_na : ∀ d, FnOk P w K mg base CX0 1 f_na fd_na ["self", "a", "b"] (spTimes C d C.na)) (G_sh : ∀ d, FnOk P w K mg base CX0 1 f_sh fd_sh ["self", "a", "b"] (spTimes C d C.sh)) (G_lo : ∀ d, FnOk P w K mg base CX0 1 f_lo fd_lo ["self", "a", "b"] (spTimes C d C.lo)) (G_pa : ∀ d, (∀ e sp, SK C (spTimes C d) e = some sp → HeldM P w K mg base (d + 1) "times" e sp) → FnOk P w K mg base CX0 (d + 2) f_pa fd_pa ["self", "a", "b"] (spTimes C (d + 1) C.pa)) : ∀ d, ∀ e sp, SK C (spTimes C d) e = some sp → HeldM P w K mg base (d + 1) "times" e sp
  | 0, e, sp, h => by
    obtain ⟨rfl, i, hi⟩ := SK.inv h
    match i, hi with
    | 0, hi => cases Option.some.inj hi; exact ⟨(T.ok _ (List.mem_of_getElem? (i := 0) rfl)).cls, f_tr, fd_tr, _, m_tr, (G_tr 0).mono (by omega), b_tr⟩
    | 1, hi => cases Option.some.inj hi; exact ⟨(T.ok _ (List.mem_of_getElem? (i := 1) rfl)).cls, f_co, fd_co, _, m_co, (G_co 0).mono (by omega), b_co⟩
    | 2, hi => cases Option.some.inj hi; exact ⟨(T.ok _ (List.mem_of_getElem? (i := 2) rfl)).cls, f_bo, fd_bo, _, m_bo, (G_bo 0).mono (by omega), b_bo⟩
    | 3, hi => cases Option.some.inj hi; exact ⟨(T.ok _ (List.mem_of_getElem? (i := 3) rfl)).cls, f_na, fd_na, _, m_na, (G_na 0).mono (by omega), b_na⟩
    | 4, hi => cases Option.some.inj hi; exact ⟨(T.ok _ (List.mem_of_getElem? (i := 4) rfl)).cls, f_sh, fd_sh, _, m_sh, (G_sh 0).mono (by omega), b_sh⟩
    | 5, hi => cases Option.some.inj hi; exact ⟨(T.ok _ (List.mem_of_getElem? (i := 5) rfl)).cls, f_lo, fd_lo, _, m_lo, (G_lo 0).mono (by omega), b_lo⟩
    | 6, hi => cases Option.some.inj hi; exact ⟨(T.ok _ (List.mem_of_getElem? (i := 6) rfl)).cls, f_pa, fd_pa, _, m_pa, fn_never (fun vs H Q E ⟨_, _, _, _, _, _, _, _, _, _, hd, _⟩ => absurd hd (by omega)), b_pa⟩
    | i + 7, hi => exact absurd hi (by simp [KC.all])
  | d + 1, e, sp, h => by
    have ih := all_times T m_tr b_tr m_co b_co m_bo b_bo m_na b_na m_sh b_sh m_lo b_lo m_pa b_pa G_tr G_co G_bo G_na G_sh G_lo G_pa d
    obtain ⟨rfl, i, hi⟩ := SK.inv h
    match i, hi with
    | 0, hi => cases Option.some.inj hi; exact ⟨(T.ok _ (List.mem_of_getElem? (i := 0) rfl)).cls, f_tr, fd_tr, _, m_tr, (G_tr (d + 1)).mono (by omega), b_tr⟩
    | 1, hi => cases Option.some.inj hi; exact ⟨(T.ok _ (List.mem_of_getElem? (i := 1) rfl)).cls, f_co, fd_co, _, m_co, (G_co (d + 1)).mono (by omega), b_co⟩
    | 2, hi => cases Option.some.inj hi; exact ⟨(T.ok _ (List.mem_of_getElem? (i := 2) rfl)).cls, f_bo, fd_bo, _, m_bo, (G_bo (d + 1)).mono (by omega), b_bo⟩
    | 3, hi => cases Option.some.inj hi; exact ⟨(T.ok _ (List.mem_of_getElem? (i := 3) rfl)).cls, f_na, fd_na, _, m_na, (G_na (d + 1)).mono (by omega), b_na⟩
    | 4, hi => cases Option.some.inj hi; exact ⟨(T.ok _ (List.mem_of_getElem? (i := 4) rfl)).cls, f_sh, fd_sh, _, m_sh, (G_sh (d + 1)).mono (by omega), b_sh⟩
    | 5, hi => cases Option.some.inj hi; exact ⟨(T.ok _ (List.mem_of_getElem? (i := 5) rfl)).cls, f_lo, fd_lo, _, m_lo, (G_lo (d + 1)).mono (by omega), b_lo⟩
    | 6, hi => cases Option.some.inj hi; exact ⟨(T.ok _ (List.mem_of_getElem? (i := 6) rfl)).cls, f_pa, fd_pa, _, m_pa, (by have := G_pa d ih; rw [show d + 2 = d + 1 + 1 by omega] at this; exact this), b_pa⟩
    | i + 7, hi => exact absurd hi (by simp [KC.all])
theorem all_good {C : KC} (T : ClsK K C) {f_tr : Addr} {fd_tr : FuncData} (m_tr : Meth K C.tr "good" f_tr) (b_tr : Binds K fd_tr ["self", "thing"] []) {f_co : Addr} {fd_co : FuncData} (m_co : Meth K C.co "good" f_co) (b_co : Binds K fd_co ["self", "thing"] []) {f_bo : Addr} {fd_bo : FuncData} (m_bo : Meth K C.bo "good" f_bo) (b_bo : Binds K fd_bo ["self", "thing"] []) {f_na : Addr} {fd_na : FuncData} (m_na : Meth K C.na "good" f_na) (b_na : Binds K fd_na ["self", "thing"] []) {f_sh : Addr} {fd_sh : FuncData} (m_sh : Meth K C.sh "good" f_sh) (b_sh : Binds K fd_sh ["self", "thing"] []) {f_lo : Addr} {fd_lo : FuncData} (m_lo : Meth K C.lo "good" f_lo) (b_lo : Binds K fd_lo ["self", "thing"] []) {f_pa : Addr} {fd_pa : FuncData} (m_pa : Meth K C.pa "good" f_pa) (b_pa : Binds K fd_pa ["self", "thing"] []) (G_tr : ∀ d, FnOk P w K mg base CX0 2 f_tr fd_tr ["self", "thing"] (spGood C d C.tr)) (G_co : ∀ d, FnOk P w K mg base CX0 2 f_co fd_co ["self", "thing"] (spGood C d C.co)) (G_bo : ∀ d, FnOk P w K mg base CX0 2 f_bo fd_bo ["self", "thing"] (spGood C d C.bo)) (G_na : ∀ d, FnOk P w K mg base CX0 2 f_na fd_na ["self", "thing"] (spGood C d C.na)) (G_sh : ∀ d, FnOk P w K mg base CX0 2 f_sh fd_sh ["self", "thing"] (spGood C d C.sh)) (G_lo : ∀ d, FnOk P w K mg base CX0 2 f_lo fd_lo ["self", "thing"] (spGood C d C.lo)) (G_pa : ∀ d, (∀ e sp, SK C (spGood C d) e = some sp → HeldM P w K mg base (d + 2) "good" e sp) → FnOk P w K mg base CX0 (d + 3) f_pa fd_pa ["self", "thing"] (spGood C (d + 1) C.pa)) : ∀ d, ∀ e sp, SK C (spGood C d) e = some sp → HeldM P w K mg base (d + 2) "good" e sp
  | 0, e, sp, h => by
    obtain ⟨rfl, i, hi⟩ := SK.inv h
    match i, hi with
    | 0, hi => cases Option.some.inj hi; exact ⟨(T.ok _ (List.mem_of_getElem? (i := 0) rfl)).cls, f_tr, fd_tr, _, m_tr, (G_tr 0).mono (by omega), b_tr⟩
    | 1, hi => cases Option.some.inj hi; exact ⟨(T.ok _ (List.mem_of_getElem? (i := 1) rfl)).cls, f_co, fd_co, _, m_co, (G_co 0).mono (by omega), b_co⟩
    | 2, hi => cases Option.some.inj hi; exact ⟨(T.ok _ (List.mem_of_getElem? (i := 2) rfl)).cls, f_bo, fd_bo, _, m_bo, (G_bo 0).mono (by omega), b_bo⟩
    | 3, hi => cases Option.some.inj hi; exact ⟨(T.ok _ (List.mem_of_getElem? (i := 3) rfl)).cls, f_na, fd_na, _, m_na, (G_na 0).mono (by omega), b_na⟩
    | 4, hi => cases Option.some.inj hi; exact ⟨(T.ok _ (List.mem_of_getElem? (i := 4) rfl)).cls, f_sh, fd_sh, _, m_sh, (G_sh 0).mono (by omega), b_sh⟩
    | 5, hi => cases Option.some.inj hi; exact ⟨(T.ok _ (List.mem_of_getElem? (i := 5) rfl)).cls, f_lo, fd_lo, _, m_lo, (G_lo 0).mono (by omega), b_lo⟩
    | 6, hi => cases Option.some.inj hi; exact ⟨(T.ok _ (List.mem_of_getElem? (i := 6) rfl)).cls, f_pa, fd_pa, _, m_pa, fn_never (fun vs H Q E ⟨_, _, _, _, _, _, _, hd, _⟩ => absurd hd (by omega)), b_pa⟩
    | i + 7, hi => exact absurd hi (by simp [KC.all])
  | d + 1, e, sp, h => by
    have ih := all_good T m_tr b_tr m_co b_co m_bo b_bo m_na b_na m_sh b_sh m_lo b_lo m_pa b_pa G_tr G_co G_bo G_na G_sh G_lo G_pa d
    obtain ⟨rfl, i, hi⟩ := SK.inv h
    match i, hi with
    | 0, hi => cases Option.some.inj hi; exact ⟨(T.ok _ (List.mem_of_getElem? (i := 0) rfl)).cls, f_tr, fd_tr, _, m_tr, (G_tr (d + 1)).mono (by omega), b_tr⟩
    | 1, hi => cases Option.some.inj hi; exact ⟨(T.ok _ (List.mem_of_getElem? (i := 1) rfl)).cls, f_co, fd_co, _, m_co, (G_co (d + 1)).mono (by omega), b_co⟩
    | 2, hi => cases Option.some.inj hi; exact ⟨(T.ok _ (List.mem_of_getElem? (i := 2) rfl)).cls, f_bo, fd_bo, _, m_bo, (G_bo (d + 1)).mono (by omega), b_bo⟩
    | 3, hi => cases Option.some.inj hi; exact ⟨(T.ok _ (List.mem_of_getElem? (i := 3) rfl)).cls, f_na, fd_na, _, m_na, (G_na (d + 1)).mono (by omega), b_na⟩
    | 4, hi => cases Option.some.inj hi; exact ⟨(T.ok _ (List.mem_of_getElem? (i := 4) rfl)).cls, f_sh, fd_sh, _, m_sh, (G_sh (d + 1)).mono (by omega), b_sh⟩
    | 5, hi => cases Option.some.inj hi; exact ⟨(T.ok _ (List.mem_of_getElem? (i := 5) rfl)).cls, f_lo, fd_lo, _, m_lo, (G_lo (d + 1)).mono (by omega), b_lo⟩
    | 6, hi => cases Option.some.inj hi; exact ⟨(T.ok _ (List.mem_of_getElem? (i := 6) rfl)).cls, f_pa, fd_pa, _, m_pa, (by have := G_pa d ih; rw [show d + 3 = d + 1 + 2 by omega] at this; exact this), b_pa⟩
    | i + 7, hi => exact absurd hi (by simp [KC.all])
theorem all_closed {C : KC} (T : ClsK K C) {f_tr : Addr} {fd_tr : FuncData} (m_tr : Meth K C.tr "closed" f_tr) (b_tr : Binds K fd_tr ["self"] []) {f_co : Addr} {fd_co : FuncData} (m_co : Meth K C.co "closed" f_co) (b_co : Binds K fd_co ["self"] []) {f_bo : Addr} {fd_bo : FuncData} (m_bo : Meth K C.bo "closed" f_bo) (b_bo : Binds K fd_bo ["self"] []) {f_na : Addr} {fd_na : FuncData} (m_na : Meth K C.na "closed" f_na) (b_na : Binds K fd_na ["self"] []) {f_sh : Addr} {fd_sh : FuncData} (m_sh : Meth K C.sh "closed" f_sh) (b_sh : Binds K fd_sh ["self"] []) {f_lo : Addr} {fd_lo : FuncData} (m_lo : Meth K C.lo "closed" f_lo) (b_lo : Binds K fd_lo ["self"] []) {f_pa : Addr} {fd_pa : FuncData} (m_pa : Meth K C.pa "closed" f_pa) (b_pa : Binds K fd_pa ["self"] []) (G_tr : ∀ d, FnOk P w K mg base CX0 1 f_tr fd_tr ["self"] (spClosed C d C.tr)) (G_co : ∀ d, FnOk P w K mg base CX0 1 f_co fd_co ["self"] (spClosed C d C.co)) (G_bo : ∀ d, FnOk P w K mg base CX0 1 f_bo fd_bo ["self"] (spClosed C d C.bo)) (G_na : ∀ d, FnOk P w K mg base CX0 1 f_na fd_na ["self"] (spClosed C d C.na)) (G_sh : ∀ d, FnOk P w K mg base CX0 1 f_sh fd_sh ["self"] (spClosed C d C.sh)) (G_lo : ∀ d, FnOk P w K mg base CX0 1 f_lo fd_lo ["self"] (spClosed C d C.lo)) (G_pa : ∀ d, (∀ e sp, SK C (spClosed C d) e = some sp → HeldM P w K mg base (d + 1) "closed" e sp) → FnOk P w K mg base CX0 (d + 2) f_pa fd_pa ["self"] (spClosed C (d + 1) C.pa)) : ∀ d, ∀ e sp, SK C (spClosed C d) e = some sp → HeldM P w K mg base (d + 1) "closed" e sp
  | 0, e, sp, h => by
    obtain ⟨rfl, i, hi⟩ := SK.inv h
    match i, hi with
    | 0, hi => cases Option.some.inj hi; exact ⟨(T.ok _ (List.mem_of_getElem? (i := 0) rfl)).cls, f_tr, fd_tr, _, m_tr, (G_tr 0).mono (by omega), b_tr⟩
    | 1, hi => cases Option.some.inj hi; exact ⟨(T.ok _ (List.mem_of_getElem? (i := 1) rfl)).cls, f_co, fd_co, _, m_co, (G_co 0).mono (by omega), b_co⟩
    | 2, hi => cases Option.some.inj hi; exact ⟨(T.ok _ (List.mem_of_getElem? (i := 2) rfl)).cls, f_bo, fd_bo, _, m_bo, (G_bo 0).mono (by omega), b_bo⟩
    | 3, hi => cases Option.some.inj hi; exact ⟨(T.ok _ (List.mem_of_getElem? (i := 3) rfl)).cls, f_na, fd_na, _, m_na, (G_na 0).mono (by omega), b_na⟩
    | 4, hi => cases Option.some.inj hi; exact ⟨(T.ok _ (List.mem_of_getElem? (i := 4) rfl)).cls, f_sh, fd_sh, _, m_sh, (G_sh 0).mono (by omega), b_sh⟩
    | 5, hi => cases Option.some.inj hi; exact ⟨(T.ok _ (List.mem_of_getElem? (i := 5) rfl)).cls, f_lo, fd_lo, _, m_lo, (G_lo 0).mono (by omega), b_lo⟩
    | 6, hi => cases Option.some.inj hi; exact ⟨(T.ok _ (List.mem_of_getElem? (i := 6) rfl)).cls, f_pa, fd_pa, _, m_pa, fn_never (fun vs H Q E ⟨_, _, _, _, _, hd, _⟩ => absurd hd (by omega)), b_pa⟩
    | i + 7, hi => exact absurd hi (by simp [KC.all])
  | d + 1, e, sp, h => by
    have ih := all_closed T m_tr b_tr m_co b_co m_bo b_bo m_na b_na m_sh b_sh m_lo b_lo m_pa b_pa G_tr G_co G_bo G_na G_sh G_lo G_pa d
    obtain ⟨rfl, i, hi⟩ := SK.inv h
    match i, hi with
    | 0, hi => cases Option.some.inj hi; exact ⟨(T.ok _ (List.mem_of_getElem? (i := 0) rfl)).cls, f_tr, fd_tr, _, m_tr, (G_tr (d + 1)).mono (by omega), b_tr⟩
    | 1, hi => cases Option.some.inj hi; exact ⟨(T.ok _ (List.mem_of_getElem? (i := 1) rfl)).cls, f_co, fd_co, _, m_co, (G_co (d + 1)).mono (by omega), b_co⟩
    | 2, hi => cases Option.some.inj hi; exact ⟨(T.ok _ (List.mem_of_getElem? (i := 2) rfl)).cls, f_bo, fd_bo, _, m_bo, (G_bo (d + 1)).mono (by omega), b_bo⟩
    | 3, hi => cases Option.some.inj hi; exact ⟨(T.ok _ (List.mem_of_getElem? (i := 3) rfl)).cls, f_na, fd_na, _, m_na, (G_na (d + 1)).mono (by omega), b_na⟩
    | 4, hi => cases Option.some.inj hi; exact ⟨(T.ok _ (List.mem_of_getElem? (i := 4) rfl)).cls, f_sh, fd_sh, _, m_sh, (G_sh (d + 1)).mono (by omega), b_sh⟩
    | 5, hi => cases Option.some.inj hi; exact ⟨(T.ok _ (List.mem_of_getElem? (i := 5) rfl)).cls, f_lo, fd_lo, _, m_lo, (G_lo (d + 1)).mono (by omega), b_lo⟩
    | 6, hi => cases Option.some.inj hi; exact ⟨(T.ok _ (List.mem_of_getElem? (i := 6) rfl)).cls, f_pa, fd_pa, _, m_pa, (by have := G_pa d ih; rw [show d + 2 = d + 1 + 1 by omega] at this; exact this), b_pa⟩
    | i + 7, hi => exact absurd hi (by simp [KC.all])
theorem all_one {C : KC} (T : ClsK K C) {f : Addr} {fd : FuncData} (b : Binds K fd ["self"] []) (G : ∀ (d : Nat) (c : Addr), FnOk P w K mg base CX0 1 f fd ["self"] (spOne C d c)) (M : ∀ c ∈ C.all, Meth K c "one" f) (d : Nat) : ∀ e sp, SK C (spOne C d) e = some sp → HeldM P w K mg base 1 "one" e sp := fun e sp h => by
  obtain ⟨rfl, i, hi⟩ := SK.inv h
  have hm := List.mem_of_getElem? hi
  exact ⟨(T.ok _ hm).cls, f, fd, _, M _ hm, G d e, b⟩
theorem all_zero {C : KC} (T : ClsK K C) {f : Addr} {fd : FuncData} (b : Binds K fd ["self"] []) (G : ∀ (d : Nat) (c : Addr), FnOk P w K mg base CX0 1 f fd ["self"] (spZero C d c)) (M : ∀ c ∈ C.all, Meth K c "zero" f) (d : Nat) : ∀ e sp, SK C (spZero C d) e = some sp → HeldM P w K mg base 1 "zero" e sp := fun e sp h => by
  obtain ⟨rfl, i, hi⟩ := SK.inv h
  have hm := List.mem_of_getElem? hi
  exact ⟨(T.ok _ hm).cls, f, fd, _, M _ hm, G d e, b⟩
theorem all_text {C : KC} (T : ClsK K C) {f : Addr} {fd : FuncData} (b : Binds K fd ["self"] []) (G : ∀ (d : Nat) (c : Addr), FnOk P w K mg base CX0 1 f fd ["self"] (spText C d c)) (M : ∀ c ∈ C.all, Meth K c "text" f) (d : Nat) : ∀ e sp, SK C (spText C d) e = some sp → HeldM P w K mg base 1 "text" e sp := fun e sp h => by
  obtain ⟨rfl, i, hi⟩ := SK.inv h
  have hm := List.mem_of_getElem? hi
  exact ⟨(T.ok _ hm).cls, f, fd, _, M _ hm, G d e, b⟩
end
end D1
end
section
set_option Elab.async false
set_option linter.all false
set_option maxRecDepth 100000
set_option maxHeartbeats 4000000
/-! R5: how kinds are made -/
namespace D1
open PySem L2 Evl RZ ClX PySem.VX
def spKind (K : PySem.W.Frag) : Sp := fun vs H Q _ => ∃ (a C dx : Addr) (fs : List (Str × V)) (t z n : V), vs = [.ref a, t, z, n] ∧ H a = some (.ins C dx fs) ∧ OkC K C ∧ fs.length < 100 ∧ ∀ H', Only a H H' → H' a = some (.ins C dx (putF "_one" n (putF "_zero" z (putF "_text" t fs)))) → Q .non H'
def fsCounted (t z n o : V) (fs : List (Str × V)) : List (Str × V) := putF "_others" o (putF "_one" n (putF "_zero" z (putF "_text" t fs)))
def spCounted (K : PySem.W.Frag) : Sp := fun vs H Q _ => ∃ (a C dx : Addr) (fs : List (Str × V)) (t z n o : V), vs = [.ref a, t, z, n, o] ∧ H a = some (.ins C dx fs) ∧ OkC K C ∧ fs.length < 50 ∧ ∀ H', Only a H H' → H' a = some (.ins C dx (fsCounted t z n o fs)) → Q .non H'
/-- a new kind: only itself changes, and it lies as it ought -/
def spMk (C : KC) (k : RK) (args : List V) : Sp := fun vs H Q _ => ∃ (a dx : Addr), vs = .ref a :: args ∧ H a = some (.ins (C.cls k) dx []) ∧ ∀ H', Only a H H' → KindAt C H' k (.ref a) → Q .non H'
def spMkLot (C : KC) : Sp := fun vs H Q _ => ∃ (n : Nat) (a dx : Addr), vs = [.ref a, .int n] ∧ 1 ≤ n ∧ n ≤ 12 ∧ H a = some (.ins C.lo dx []) ∧ ∀ H', Only a H H' → KindAt C H' (.lot n) (.ref a) → Q .non H'
def spMkBound (C : KC) : Sp := fun vs H Q _ => ∃ (k : RK) (z : Str) (i : Int) (a dx : Addr), vs = [.ref a, .str z, .int i] ∧ ((k = .least ∧ z = "least" ∧ i = 1) ∨ (k = .most ∧ z = "most" ∧ i = -1)) ∧ H a = some (.ins C.bo dx []) ∧ ∀ H', Only a H H' → KindAt C H' k (.ref a) → Q .non H'
def spMkPair (C : KC) : Sp := fun vs H Q _ => ∃ (k l : RK) (x y : V) (a dx : Addr), vs = [.ref a, x, y] ∧ KindAt C H k x ∧ KindAt C H l y ∧ k.depth < 4 ∧ l.depth < 4 ∧ H a = some (.ins C.pa dx []) ∧ ∀ H', Only a H H' → KindAt C H' (.pair k l) (.ref a) → Q .non H'
theorem no_fs {fs : List (Str × V)} (hb : (fs.map (·.1)).all (fun x => fields.contains x) = true) : ∀ f, f ∉ fields → fs.lookup f = none := by
  have h : ∀ p ∈ fs, p.1 ∈ fields := fun p hp => List.contains_iff_mem.mp (List.all_eq_true.mp hb _ (List.mem_map.mpr ⟨p, hp, rfl⟩))
  clear hb
  intro f hf
  induction fs with
  | nil => rfl
  | cons p r ih =>
    obtain ⟨g, x⟩ := p
    have hg := h (g, x) List.mem_cons_self
    have hb : (f == g) = false := beq_eq_false_iff_ne.mpr fun z => hf (z ▸ hg)
    simp only [List.lookup, hb]
    exact ih fun p hp => h p (List.mem_cons_of_mem _ hp)
theorem Only.kp {a : Addr} {H H' : Hp} (h : Only a H H') {v : V} {d : PyData} (hv : DtAt H v d) (ha : ∃ C dx fs, H a = some (.ins C dx fs)) : DtAt H' v d := by
  obtain ⟨C, dx, fs, ha⟩ := ha
  have main : (∀ d : PyData, ∀ v, DtAt H v d → DtAt H' v d) := by
    intro d v hv
    exact DtAt.rec (motive_1 := fun v d _ => DtAt H' v d) (motive_2 := fun us ds _ => DtAll H' us ds) .non (fun b => .bl b) (fun i => .int i) (fun z => .str z) (fun {b us ds} hb _ r => .tup (h b _ (fun z => by rw [z, ha] at hb; cases hb) hb) r) .nil (fun _ _ h r => .cons h r) hv
  exact main d v hv
theorem Com.only {a Cc dx : Addr} {fs0 : List (Str × V)} {H H' : Hp} {k : RK} {fs : List (Str × V)} (h : Com H k fs) (o : Only a H H') (ha : H a = some (.ins Cc dx fs0)) : Com H' k fs := by
  obtain ⟨h1, ⟨z, h2, h3⟩, ⟨y, h4, h5⟩, h6⟩ := h
  exact ⟨h1, ⟨z, h2, o.kp h3 ⟨_, _, _, ha⟩⟩, ⟨y, h4, o.kp h5 ⟨_, _, _, ha⟩⟩, h6⟩
theorem Com.off {a b Cc dx Cb db : Addr} {fs0 fs : List (Str × V)} {H : Hp} {k : RK} (h : Com H k fs) (hb : H b = some (.ins Cb db fs)) (ha : H a = some (.ins Cc dx fs0)) (hn : fs0.lookup ("_text" : Str) = none) : b ≠ a := fun z => by
  obtain ⟨t, h1, _⟩ := h.text
  rw [z, ha] at hb
  have e : fs0 = fs := by injection (Option.some.inj hb)
  rw [← e, hn] at h1
  cases h1
theorem Own.only {a Cc dx : Addr} {fs0 fs : List (Str × V)} {H H' : Hp} (o : Only a H H') (ha : H a = some (.ins Cc dx fs0)) : ∀ {k : RK}, Own H fs k → Own H' fs k := by
  have f : ∀ {p : Addr} {us : List V}, H p = some (.tup us) → H' p = some (.tup us) := fun {p us} hp => o _ _ (fun z => by rw [z, ha] at hp; cases hp) hp
  intro k h
  cases k with
  | count => obtain ⟨p, x, y⟩ := h; exact ⟨p, x, f y⟩
  | narrow => obtain ⟨p, x, y⟩ := h; exact ⟨p, x, f y⟩
  | least => obtain ⟨⟨p, x, y⟩, z⟩ := h; exact ⟨⟨p, x, f y⟩, z⟩
  | most => obtain ⟨⟨p, x, y⟩, z⟩ := h; exact ⟨⟨p, x, f y⟩, z⟩
  | lot _ => exact h
  | _ => exact True.intro
theorem KindAt.only {C : KC} {a Cc dx : Addr} {fs0 : List (Str × V)} {H H' : Hp} {k : RK} {v : V} (h : KindAt C H k v) (o : Only a H H') (ha : H a = some (.ins Cc dx fs0)) (hn : fs0.lookup ("_text" : Str) = none) : KindAt C H' k v := by
  induction k generalizing v with
  | pair k l ik il =>
    obtain ⟨b, db, fs, u, w, h1, h2, h3, h4, h5, h6, h7⟩ := h
    exact ⟨b, db, fs, u, w, h1, o _ _ (h3.off h2 ha hn) h2, h3.only o ha, h4, h5, ik h6, il h7⟩
  | _ =>
    obtain ⟨b, db, fs, h1, h2, h3, h4⟩ := h
    exact ⟨b, db, fs, h1, o _ _ (h3.off h2 ha hn) h2, h3.only o ha, Own.only o ha h4⟩
theorem lot_len : ∀ k : Fin 13, ((toString ((k.val : Nat) : Int) : String) : Str).length ≤ 40 := by decide +kernel
theorem str_len (a b : Str) : (a ++ b).length = a.length + b.length := by
  show (a ++ b).cps.size = a.cps.size + b.cps.size
  show (a.cps ++ b.cps).size = _
  exact Array.size_append
section
variable {P : Program} {w : World} {K : PySem.W.Frag} {mg : Str → Option Value} {base : Heap}
abbrev s_Kind_init : Stmt := meth 22 0
theorem sc_Kind_init : FnScope ["self", "text", "zero", "one"] ["self", "text", "zero", "one"] (defScope s_Kind_init) := ⟨rfl, rfl, rfl, by decide +kernel, rfl, by decide +kernel, by decide +kernel⟩
theorem ok_Kind_init {f : Addr} {fd : FuncData} (F : FnM K "Kind" "__init__" s_Kind_init f fd) : FnOk P w K mg base (CX0) 1 f fd ["self", "text", "zero", "one"] (spKind K) := by
  refine F.ok (CX := CX0) sc_Kind_init (fun vs H Q E h => ?_) (fun cdv A outer s H vs Q E hr h => ?_)
  · obtain ⟨a, C, dx, fs, t, z, n, rfl, _⟩ := h
    rfl
  · obtain ⟨a, C, dx, fs, t, z, n, rfl, ha, ok, hl, q⟩ := h
    have hu := hu_of hr
    have hu64 := hr.units
    refine ⟨_, PSs.nox (pss_cons (ps_fld (pv 0) (pv 1) rfl)
      (pss_cons (ps_fld (pv 0) (pv 2) rfl)
      (pss_one (ps_fld (pv 0) (pv 3) rfl)))), ?_⟩
    have l1 := put_len "_text" t fs
    have l2 := put_len "_zero" z (putF "_text" t fs)
    refine ⟨_, rfl, _, rfl, a, C, dx, fs, rfl, ha, ok.cls, ok.no _ (by decide), by omega, ?_⟩
    refine ⟨_, rfl, _, rfl, a, C, dx, _, rfl, upd_same, ok.cls, ok.no _ (by decide), by omega, ?_⟩
    refine ⟨_, rfl, _, rfl, a, C, dx, _, rfl, upd_same, ok.cls, ok.no _ (by decide), by omega, ?_⟩
    exact q _ (((Only.refl.upd).upd).upd) upd_same
abbrev s_Counted_init : Stmt := meth 23 0
theorem sc_Counted_init : FnScope ["self", "text", "zero", "one", "others"] ["self", "text", "zero", "one", "others"] (defScope s_Counted_init) := ⟨rfl, rfl, rfl, by decide +kernel, rfl, by decide +kernel, by decide +kernel⟩
theorem ok_Counted_init {f : Addr} {fd : FuncData} (F : FnM K "Counted" "__init__" s_Counted_init f fd) {f_Kind_init : Addr} {fd_Kind_init : FuncData} (F_Kind_init : FnM K "Kind" "__init__" s_Kind_init f_Kind_init fd_Kind_init) (G_Kind_init : FnOk P w K mg base CX0 1 f_Kind_init fd_Kind_init ["self", "text", "zero", "one"] (spKind K)) (B_Kind : BaseI K mg "Kind" f_Kind_init) : FnOk P w K mg base (CX0) 2 f fd ["self", "text", "zero", "one", "others"] (spCounted K) := by
  obtain ⟨C_Kind, mc_Kind, g_Kind, r_Kind, c_Kind⟩ := B_Kind.ex
  have b_Kind_init : Binds K fd_Kind_init ["self", "text", "zero", "one"] [] := F_Kind_init.bindsN fun _ _ _ _ _ _ us hl => match us, hl with | [_, _, _, _], _ => rfl
  refine F.ok (CX := CX0) sc_Counted_init (fun vs H Q E h => ?_) (fun cdv A outer s H vs Q E hr h => ?_)
  · obtain ⟨a, C, dx, fs, t, z, n, o, rfl, _⟩ := h
    rfl
  · obtain ⟨a, C, dx, fs, t, z, n, o, rfl, ha, ok, hl, q⟩ := h
    have hu := hu_of hr
    have hu64 := hr.units
    have hr_Kind_init := hr.mono (by decide : 1 ≤ 1)
    refine ⟨_, PSs.nox (pss_cons (ps_expr (pe_cfn (C := C_Kind) (mc := mc_Kind) (pe_glob (v := .ref C_Kind) rfl g_Kind rfl) r_Kind c_Kind G_Kind_init hr_Kind_init F_Kind_init.kp b_Kind_init .nil pass0 (pa_cons (pv 0) (pa_cons (pv 1) (pa_cons (pv 2) (pa_cons (pv 3) pa_nil))))))
      (pss_one (ps_fld (pv 0) (pv 4) rfl))), ?_⟩
    have l1 := put_len "_text" t fs
    have l2 := put_len "_zero" z (putF "_text" t fs)
    have l3 := put_len "_one" n (putF "_zero" z (putF "_text" t fs))
    refine ⟨rfl, _, rfl, _, rfl, _, rfl, _, rfl, a, C, dx, fs, t, z, n, rfl, ha, ok, by omega, fun H1 o1 h1 => ?_⟩
    refine ⟨_, rfl, _, rfl, a, C, dx, _, rfl, h1, ok.cls, ok.no _ (by decide), by omega, ?_⟩
    exact q _ o1.upd upd_same
abbrev s_Count_init : Stmt := meth 26 0
theorem sc_Count_init : FnScope ["self"] ["self"] (defScope s_Count_init) := ⟨rfl, rfl, rfl, by decide +kernel, rfl, by decide +kernel, by decide +kernel⟩
theorem ok_Count_init {f : Addr} {fd : FuncData} (F : FnM K "Count" "__init__" s_Count_init f fd) {f_Counted_init : Addr} {fd_Counted_init : FuncData} (F_Counted_init : FnM K "Counted" "__init__" s_Counted_init f_Counted_init fd_Counted_init) (G_Counted_init : FnOk P w K mg base CX0 2 f_Counted_init fd_Counted_init ["self", "text", "zero", "one", "others"] (spCounted K)) (B_Endless : BaseI K mg "Endless" f_Counted_init) {C : KC} (T : ClsK K C) : FnOk P w K mg base (CX0) 3 f fd ["self"] (spMk C .count []) := by
  obtain ⟨C_Endless, mc_Endless, g_Endless, r_Endless, c_Endless⟩ := B_Endless.ex
  have b_Counted_init : Binds K fd_Counted_init ["self", "text", "zero", "one", "others"] [] := F_Counted_init.bindsN fun _ _ _ _ _ _ us hl => match us, hl with | [_, _, _, _, _], _ => rfl
  refine F.ok (CX := CX0) sc_Count_init (fun vs H Q E h => ?_) (fun cdv A outer s H vs Q E hr h => ?_)
  · obtain ⟨a, dx, rfl, _⟩ := h
    rfl
  · obtain ⟨a, dx, rfl, ha, q⟩ := h
    have hu := hu_of hr
    have hu64 := hr.units
    have hr_Counted_init := hr.mono (by decide : 2 ≤ 2)
    refine ⟨_, PSs.nox (pss_one (ps_expr (pe_cfn (C := C_Endless) (mc := mc_Endless) (pe_glob (v := .ref C_Endless) rfl g_Endless rfl) r_Endless c_Endless G_Counted_init hr_Counted_init F_Counted_init.kp b_Counted_init .nil pass0 (pa_cons (pv 0) (pa_cons pe_str (pa_cons pe_int (pa_cons pe_int (pa_cons (pe_tup (pa_cons pe_str pa_nil)) pa_nil)))))))), ?_⟩
    have ok := T.cls (k := .count) rfl
    refine ⟨rfl, _, rfl, by show 1 ≤ sizeLine; decide, fun p hp => ?_⟩
    have e1 := Ex.new (o := .tup [.str "endless"]) hp
    have hpa : a ≠ p := ne_of_none ha hp
    refine ⟨a, _, dx, [], .str "count", .int 0, .int 1, .ref p, rfl, e1 _ _ ha, ok, by decide, fun H1 o1 h1 => ?_⟩
    have o2 : Only a H H1 := Only.trans (fun b o _ e => e1 b o e) o1
    refine q H1 o2 ⟨a, dx, _, rfl, h1, ⟨⟨_, rfl, by decide⟩, ⟨_, rfl, .int 0⟩, ⟨_, rfl, .int 1⟩, no_fs (by rfl)⟩, ⟨p, rfl, o1 _ _ (Ne.symm hpa) upd_same⟩⟩
abbrev s_Narrow_init : Stmt := meth 28 0
theorem sc_Narrow_init : FnScope ["self"] ["self"] (defScope s_Narrow_init) := ⟨rfl, rfl, rfl, by decide +kernel, rfl, by decide +kernel, by decide +kernel⟩
theorem ok_Narrow_init {f : Addr} {fd : FuncData} (F : FnM K "Narrow" "__init__" s_Narrow_init f fd) {f_Counted_init : Addr} {fd_Counted_init : FuncData} (F_Counted_init : FnM K "Counted" "__init__" s_Counted_init f_Counted_init fd_Counted_init) (G_Counted_init : FnOk P w K mg base CX0 2 f_Counted_init fd_Counted_init ["self", "text", "zero", "one", "others"] (spCounted K)) (B_Endless : BaseI K mg "Endless" f_Counted_init) {C : KC} (T : ClsK K C) : FnOk P w K mg base (CX0) 3 f fd ["self"] (spMk C .narrow []) := by
  obtain ⟨C_Endless, mc_Endless, g_Endless, r_Endless, c_Endless⟩ := B_Endless.ex
  have b_Counted_init : Binds K fd_Counted_init ["self", "text", "zero", "one", "others"] [] := F_Counted_init.bindsN fun _ _ _ _ _ _ us hl => match us, hl with | [_, _, _, _, _], _ => rfl
  refine F.ok (CX := CX0) sc_Narrow_init (fun vs H Q E h => ?_) (fun cdv A outer s H vs Q E hr h => ?_)
  · obtain ⟨a, dx, rfl, _⟩ := h
    rfl
  · obtain ⟨a, dx, rfl, ha, q⟩ := h
    have hu := hu_of hr
    have hu64 := hr.units
    have hr_Counted_init := hr.mono (by decide : 2 ≤ 2)
    refine ⟨_, PSs.nox (pss_one (ps_expr (pe_cfn (C := C_Endless) (mc := mc_Endless) (pe_glob (v := .ref C_Endless) rfl g_Endless rfl) r_Endless c_Endless G_Counted_init hr_Counted_init F_Counted_init.kp b_Counted_init .nil pass0 (pa_cons (pv 0) (pa_cons pe_str (pa_cons pe_int (pa_cons pe_str (pa_cons (pe_tup (pa_cons pe_str pa_nil)) pa_nil)))))))), ?_⟩
    have ok := T.cls (k := .narrow) rfl
    refine ⟨rfl, _, rfl, by show 1 ≤ sizeLine; decide, fun p hp => ?_⟩
    have e1 := Ex.new (o := .tup [.str "endless"]) hp
    have hpa : a ≠ p := ne_of_none ha hp
    refine ⟨a, _, dx, [], .str "narrow", .int 0, .str "endless", .ref p, rfl, e1 _ _ ha, ok, by decide, fun H1 o1 h1 => ?_⟩
    have o2 : Only a H H1 := Only.trans (fun b o _ e => e1 b o e) o1
    refine q H1 o2 ⟨a, dx, _, rfl, h1, ⟨⟨_, rfl, by decide⟩, ⟨_, rfl, .int 0⟩, ⟨_, rfl, .str _⟩, no_fs (by rfl)⟩, ⟨p, rfl, o1 _ _ (Ne.symm hpa) upd_same⟩⟩
abbrev s_Bounded_init : Stmt := meth 27 0
theorem sc_Bounded_init : FnScope ["self", "text", "sign"] ["self", "text", "sign"] (defScope s_Bounded_init) := ⟨rfl, rfl, rfl, by decide +kernel, rfl, by decide +kernel, by decide +kernel⟩
theorem ok_Bounded_init {f : Addr} {fd : FuncData} (F : FnM K "Bounded" "__init__" s_Bounded_init f fd) {f_Counted_init : Addr} {fd_Counted_init : FuncData} (F_Counted_init : FnM K "Counted" "__init__" s_Counted_init f_Counted_init fd_Counted_init) (G_Counted_init : FnOk P w K mg base CX0 2 f_Counted_init fd_Counted_init ["self", "text", "zero", "one", "others"] (spCounted K)) (B_Endless : BaseI K mg "Endless" f_Counted_init) {C : KC} (T : ClsK K C) : FnOk P w K mg base (CX0) 3 f fd ["self", "text", "sign"] (spMkBound C) := by
  obtain ⟨C_Endless, mc_Endless, g_Endless, r_Endless, c_Endless⟩ := B_Endless.ex
  have b_Counted_init : Binds K fd_Counted_init ["self", "text", "zero", "one", "others"] [] := F_Counted_init.bindsN fun _ _ _ _ _ _ us hl => match us, hl with | [_, _, _, _, _], _ => rfl
  refine F.ok (CX := CX0) sc_Bounded_init (fun vs H Q E h => ?_) (fun cdv A outer s H vs Q E hr h => ?_)
  · obtain ⟨k, z, i, a, dx, rfl, _⟩ := h
    rfl
  · obtain ⟨k, z, i, a, dx, rfl, hk, ha, q⟩ := h
    have hu := hu_of hr
    have hu64 := hr.units
    have hr_Counted_init := hr.mono (by decide : 2 ≤ 2)
    refine ⟨_, PSs.nox (pss_cons (ps_expr (pe_cfn (C := C_Endless) (mc := mc_Endless) (pe_glob (v := .ref C_Endless) rfl g_Endless rfl) r_Endless c_Endless G_Counted_init hr_Counted_init F_Counted_init.kp b_Counted_init .nil pass0 (pa_cons (pv 0) (pa_cons (pv 1) (pa_cons pe_str (pa_cons pe_int (pa_cons (pe_tup (pa_cons pe_str (pa_cons pe_str pa_nil))) pa_nil)))))))
      (pss_one (ps_fld (pv 0) (pv 2) rfl))), ?_⟩
    have ok := T.cls (k := .least) rfl
    refine ⟨rfl, _, rfl, _, rfl, by show 2 ≤ sizeLine; decide, fun p hp => ?_⟩
    have e1 := Ex.new (o := .tup [.str "none", .str "endless"]) hp
    have hpa : a ≠ p := ne_of_none ha hp
    refine ⟨a, _, dx, [], .str z, .str "none", .int 0, .ref p, rfl, e1 _ _ ha, ok, by decide, fun H1 o1 h1 => ?_⟩
    have o2 : Only a H H1 := Only.trans (fun b o _ e => e1 b o e) o1
    refine ⟨_, rfl, _, rfl, a, _, dx, _, rfl, h1, ok.cls, ok.no _ (by decide), by (show 4 < 1000; decide), ?_⟩
    have hp1 := o1 _ _ (Ne.symm hpa) upd_same
    have hp2 : (upd H1 a (.ins C.bo dx (putF "_sign" (.int i) (fsCounted (.str z) (.str "none") (.int 0) (.ref p) [])))) p = some (.tup [.str "none", .str "endless"]) := by rw [upd_ne (Ne.symm hpa)]; exact hp1
    rcases hk with ⟨rfl, rfl, rfl⟩ | ⟨rfl, rfl, rfl⟩
    · exact q _ o2.upd ⟨a, dx, _, rfl, upd_same, ⟨⟨_, rfl, by decide⟩, ⟨_, rfl, .str _⟩, ⟨_, rfl, .int 0⟩, no_fs (by rfl)⟩, ⟨p, rfl, hp2⟩, rfl⟩
    · exact q _ o2.upd ⟨a, dx, _, rfl, upd_same, ⟨⟨_, rfl, by decide⟩, ⟨_, rfl, .str _⟩, ⟨_, rfl, .int 0⟩, no_fs (by rfl)⟩, ⟨p, rfl, hp2⟩, rfl⟩
abbrev s_Truth_init : Stmt := meth 40 0
theorem sc_Truth_init : FnScope ["self"] ["self"] (defScope s_Truth_init) := ⟨rfl, rfl, rfl, by decide +kernel, rfl, by decide +kernel, by decide +kernel⟩
theorem ok_Truth_init {f : Addr} {fd : FuncData} (F : FnM K "Truth" "__init__" s_Truth_init f fd) {f_Kind_init : Addr} {fd_Kind_init : FuncData} (F_Kind_init : FnM K "Kind" "__init__" s_Kind_init f_Kind_init fd_Kind_init) (G_Kind_init : FnOk P w K mg base CX0 1 f_Kind_init fd_Kind_init ["self", "text", "zero", "one"] (spKind K)) (B_Topped : BaseI K mg "Topped" f_Kind_init) {C : KC} (T : ClsK K C) : FnOk P w K mg base (CX0) 2 f fd ["self"] (spMk C .truth []) := by
  obtain ⟨C_Topped, mc_Topped, g_Topped, r_Topped, c_Topped⟩ := B_Topped.ex
  have b_Kind_init : Binds K fd_Kind_init ["self", "text", "zero", "one"] [] := F_Kind_init.bindsN fun _ _ _ _ _ _ us hl => match us, hl with | [_, _, _, _], _ => rfl
  refine F.ok (CX := CX0) sc_Truth_init (fun vs H Q E h => ?_) (fun cdv A outer s H vs Q E hr h => ?_)
  · obtain ⟨a, dx, rfl, _⟩ := h
    rfl
  · obtain ⟨a, dx, rfl, ha, q⟩ := h
    have hu := hu_of hr
    have hu64 := hr.units
    have hr_Kind_init := hr.mono (by decide : 1 ≤ 1)
    refine ⟨_, PSs.nox (pss_one (ps_expr (pe_cfn (C := C_Topped) (mc := mc_Topped) (pe_glob (v := .ref C_Topped) rfl g_Topped rfl) r_Topped c_Topped G_Kind_init hr_Kind_init F_Kind_init.kp b_Kind_init .nil pass0 (pa_cons (pv 0) (pa_cons pe_str (pa_cons pe_bl (pa_cons pe_bl pa_nil))))))), ?_⟩
    have ok := T.cls (k := .truth) rfl
    refine ⟨rfl, _, rfl, a, _, dx, [], .str "truth", .bl false, .bl true, rfl, ha, ok, by decide, fun H1 o1 h1 => ?_⟩
    exact q H1 o1 ⟨a, dx, _, rfl, h1, ⟨⟨_, rfl, by decide⟩, ⟨_, rfl, .bl _⟩, ⟨_, rfl, .bl _⟩, no_fs (by rfl)⟩, True.intro⟩
abbrev s_Share_init : Stmt := meth 41 0
theorem sc_Share_init : FnScope ["self"] ["self"] (defScope s_Share_init) := ⟨rfl, rfl, rfl, by decide +kernel, rfl, by decide +kernel, by decide +kernel⟩
theorem ok_Share_init {f : Addr} {fd : FuncData} (F : FnM K "Share" "__init__" s_Share_init f fd) {f_Kind_init : Addr} {fd_Kind_init : FuncData} (F_Kind_init : FnM K "Kind" "__init__" s_Kind_init f_Kind_init fd_Kind_init) (G_Kind_init : FnOk P w K mg base CX0 1 f_Kind_init fd_Kind_init ["self", "text", "zero", "one"] (spKind K)) (B_Topped : BaseI K mg "Topped" f_Kind_init) {C : KC} (T : ClsK K C) : FnOk P w K mg base (CX0) 2 f fd ["self"] (spMk C .share []) := by
  obtain ⟨C_Topped, mc_Topped, g_Topped, r_Topped, c_Topped⟩ := B_Topped.ex
  have b_Kind_init : Binds K fd_Kind_init ["self", "text", "zero", "one"] [] := F_Kind_init.bindsN fun _ _ _ _ _ _ us hl => match us, hl with | [_, _, _, _], _ => rfl
  refine F.ok (CX := CX0) sc_Share_init (fun vs H Q E h => ?_) (fun cdv A outer s H vs Q E hr h => ?_)
  · obtain ⟨a, dx, rfl, _⟩ := h
    rfl
  · obtain ⟨a, dx, rfl, ha, q⟩ := h
    have hu := hu_of hr
    have hu64 := hr.units
    have hr_Kind_init := hr.mono (by decide : 1 ≤ 1)
    refine ⟨_, PSs.nox (pss_one (ps_expr (pe_cfn (C := C_Topped) (mc := mc_Topped) (pe_glob (v := .ref C_Topped) rfl g_Topped rfl) r_Topped c_Topped G_Kind_init hr_Kind_init F_Kind_init.kp b_Kind_init .nil pass0 (pa_cons (pv 0) (pa_cons pe_str (pa_cons (pe_tup (pa_cons pe_int (pa_cons pe_int pa_nil))) (pa_cons (pe_tup (pa_cons pe_int (pa_cons pe_int pa_nil))) pa_nil))))))), ?_⟩
    have ok := T.cls (k := .share) rfl
    refine ⟨rfl, _, rfl, by show 2 ≤ sizeLine; decide, fun p hp => ⟨by show 2 ≤ sizeLine; decide, fun r hr' => ?_⟩⟩
    have e1 := Ex.new (o := .tup [.int 0, .int 1]) hp
    have e2 := Ex.new (o := .tup [.int 1, .int 1]) hr'
    have i1 : upd (upd H p (.tup [.int 0, .int 1])) r (.tup [.int 1, .int 1]) p = some (.tup [.int 0, .int 1]) := e2 _ _ upd_same
    have hpa : p ≠ a := fun z => by rw [z, ha] at hp; cases hp
    have hra : r ≠ a := fun z => by
      have h := e1 _ _ ha
      rw [← z, hr'] at h
      cases h
    refine ⟨a, _, dx, [], .str "share", .ref p, .ref r, rfl, (e1.trans e2) _ _ ha, ok, by decide, fun H1 o1 h1 => ?_⟩
    exact q H1 (Only.trans (fun b o _ e => (e1.trans e2) b o e) o1) ⟨a, dx, _, rfl, h1, ⟨⟨_, rfl, by decide⟩, ⟨_, rfl, .tup (o1 _ _ hpa i1) (.cons (.int _) (.cons (.int _) .nil))⟩, ⟨_, rfl, .tup (o1 _ _ hra upd_same) (.cons (.int _) (.cons (.int _) .nil))⟩, no_fs (by rfl)⟩, True.intro⟩
abbrev s_Lot_init : Stmt := meth 42 0
theorem sc_Lot_init : FnScope ["self", "size"] ["self", "size"] (defScope s_Lot_init) := ⟨rfl, rfl, rfl, by decide +kernel, rfl, by decide +kernel, by decide +kernel⟩
theorem ok_Lot_init {f : Addr} {fd : FuncData} (F : FnM K "Lot" "__init__" s_Lot_init f fd) {f_Kind_init : Addr} {fd_Kind_init : FuncData} (F_Kind_init : FnM K "Kind" "__init__" s_Kind_init f_Kind_init fd_Kind_init) (G_Kind_init : FnOk P w K mg base CX0 1 f_Kind_init fd_Kind_init ["self", "text", "zero", "one"] (spKind K)) (B_Topped : BaseI K mg "Topped" f_Kind_init) {C : KC} (T : ClsK K C) : FnOk P w K mg base (CX0) 2 f fd ["self", "size"] (spMkLot C) := by
  obtain ⟨C_Topped, mc_Topped, g_Topped, r_Topped, c_Topped⟩ := B_Topped.ex
  have b_Kind_init : Binds K fd_Kind_init ["self", "text", "zero", "one"] [] := F_Kind_init.bindsN fun _ _ _ _ _ _ us hl => match us, hl with | [_, _, _, _], _ => rfl
  refine F.ok (CX := CX0) sc_Lot_init (fun vs H Q E h => ?_) (fun cdv A outer s H vs Q E hr h => ?_)
  · obtain ⟨n, a, dx, rfl, _⟩ := h
    rfl
  · obtain ⟨n, a, dx, rfl, n1, n2, ha, q⟩ := h
    have hu := hu_of hr
    have hu64 := hr.units
    have hr_Kind_init := hr.mono (by decide : 1 ≤ 1)
    refine ⟨_, PSs.nox (pss_cons (ps_expr (pe_cfn (C := C_Topped) (mc := mc_Topped) (pe_glob (v := .ref C_Topped) rfl g_Topped rfl) r_Topped c_Topped G_Kind_init hr_Kind_init F_Kind_init.kp b_Kind_init .nil pass0 (pa_cons (pv 0) (pa_cons (pe_joined (PJ.cons pe_str (PJ.cons (pe_fmt (pv 1)) PJ.nil))) (pa_cons pe_int (pa_cons (pe_op op_sub (pe_op op_shl pe_int (pv 1)) pe_int) pa_nil))))))
      (pss_one (ps_fld (pv 0) (pv 1) rfl))), ?_⟩
    have ok := T.cls (k := .lot n) rfl
    have big : (300000 : Nat) ≤ sizeLine := by decide
    have hl : ((toString ((n : Nat) : Int) : String) : Str).length ≤ 40 := lot_len ⟨n, by omega⟩
    have h0 : (Str.empty ++ ("lot " : Str)).length = 4 := by decide
    have hs : (n : Int).natAbs.log2 < 1920 := by
      have h : ∀ k : Fin 13, Nat.log2 k.val < 1920 := by decide
      rw [Int.natAbs_natCast]
      exact h ⟨n, by omega⟩
    refine ⟨rfl, _, rfl, _, rfl, by rw [h0]; omega, _, rfl, .inr ⟨_, rfl, hs, _, rfl, by rw [str_len, h0]; omega, _, rfl, 1, _, rfl, rfl, ⟨by omega, by omega, by first | decide | omega⟩, _, _, rfl, rfl, ?_⟩⟩
    have tl : ((Str.empty ++ ("lot " : Str)) ++ ((toString ((n : Nat) : Int) : String) : Str)).length + 6 ≤ 100 * 2 ^ (RK.lot n).depth := by
      rw [str_len, h0]
      show _ ≤ 100 * 2 ^ 0
      omega
    generalize (Str.empty ++ ("lot " : Str)) ++ ((toString ((n : Nat) : Int) : String) : Str) = z at tl ⊢
    have hone : (1 : Int) * 2 ^ (n : Int).toNat - 1 = 2 ^ n - 1 := by rw [Int.one_mul, Int.toNat_natCast]
    refine ⟨a, _, dx, [], .str z, .int 0, .int ((1 : Int) * 2 ^ (n : Int).toNat - 1), rfl, ha, ok, by decide, fun H1 o1 h1 => ?_⟩
    refine ⟨_, rfl, _, rfl, a, _, dx, _, rfl, h1, ok.cls, ok.no _ (by decide), by (show 3 < 1000; decide), ?_⟩
    exact q _ o1.upd ⟨a, dx, _, rfl, upd_same, ⟨⟨_, rfl, tl⟩, ⟨_, rfl, .int _⟩, ⟨_, rfl, by rw [hone]; exact .int _⟩, no_fs (by rfl)⟩, rfl⟩
abbrev s_Pair_init : Stmt := meth 34 0
theorem sc_Pair_init : FnScope ["self", "left", "right", "text"] ["self", "left", "right"] (defScope s_Pair_init) := ⟨rfl, rfl, rfl, by decide +kernel, rfl, by decide +kernel, by decide +kernel⟩
theorem ok_Pair_init {f : Addr} {fd : FuncData} (F : FnM K "Pair" "__init__" s_Pair_init f fd) {f_Kind_init : Addr} {fd_Kind_init : FuncData} (F_Kind_init : FnM K "Kind" "__init__" s_Kind_init f_Kind_init fd_Kind_init) (G_Kind_init : FnOk P w K mg base CX0 1 f_Kind_init fd_Kind_init ["self", "text", "zero", "one"] (spKind K)) (B_Kind : BaseI K mg "Kind" f_Kind_init) {C : KC} (T : ClsK K C) (A_text : ∀ e sp, SK C (spText C 4) e = some sp → HeldM P w K mg base 1 "text" e sp) (A_zero : ∀ e sp, SK C (spZero C 4) e = some sp → HeldM P w K mg base 1 "zero" e sp) (A_one : ∀ e sp, SK C (spOne C 4) e = some sp → HeldM P w K mg base 1 "one" e sp) : FnOk P w K mg base (CX0) 2 f fd ["self", "left", "right"] (spMkPair C) := by
  obtain ⟨C_Kind, mc_Kind, g_Kind, r_Kind, c_Kind⟩ := B_Kind.ex
  have b_Kind_init : Binds K fd_Kind_init ["self", "text", "zero", "one"] [] := F_Kind_init.bindsN fun _ _ _ _ _ _ us hl => match us, hl with | [_, _, _, _], _ => rfl
  refine F.ok (CX := CX0) sc_Pair_init (fun vs H Q E h => ?_) (fun cdv A outer s H vs Q E hr h => ?_)
  · obtain ⟨k, l, x, y, a, dx, rfl, _⟩ := h
    rfl
  · obtain ⟨k, l, x, y, a, dx, rfl, hk, hl, dk, dl, ha, q⟩ := h
    have hu := hu_of hr
    have hu64 := hr.units
    have hr_Kind_init := hr.mono (by decide : 1 ≤ 1)
    have hr_in := hr.mono (by decide : 1 ≤ 1)
    refine ⟨_, PSs.nox (pss_cons (ps_set (i := 3) sc_Pair_init.nd rfl (Or.inl rfl) (pe_joined (PJ.cons pe_str (PJ.cons (pe_fmt (pe_methA0 (S := SK C (spText C 4)) A_text (pv 1) hr_in)) (PJ.cons pe_str (PJ.cons (pe_fmt (pe_methA0 (S := SK C (spText C 4)) A_text (pv 2) hr_in)) PJ.nil))))))
      (pss_cons (ps_expr (pe_cfn (C := C_Kind) (mc := mc_Kind) (pe_glob (v := .ref C_Kind) rfl g_Kind rfl) r_Kind c_Kind G_Kind_init hr_Kind_init F_Kind_init.kp b_Kind_init .nil pass0 (pa_cons (pv 0) (pa_cons (pv 3) (pa_cons (pe_tup (pa_cons (pe_methA0 (S := SK C (spZero C 4)) A_zero (pv 1) hr_in) (pa_cons (pe_methA0 (S := SK C (spZero C 4)) A_zero (pv 2) hr_in) pa_nil))) (pa_cons (pe_tup (pa_cons (pe_methA0 (S := SK C (spOne C 4)) A_one (pv 1) hr_in) (pa_cons (pe_methA0 (S := SK C (spOne C 4)) A_one (pv 2) hr_in) pa_nil))) pa_nil))))))
      (pss_cons (ps_fld (pv 0) (pv 1) rfl)
      (pss_one (ps_fld (pv 0) (pv 2) rfl))))), ?_⟩
    have ok := T.cls (k := .pair k l) rfl
    obtain ⟨la, ld, lf, rfl, l1, l2⟩ := id hk.com
    obtain ⟨ra, rd, rf, rfl, r1, r2⟩ := id hl.com
    have big : (300000 : Nat) ≤ sizeLine := by decide
    have h5 : ("pair " : Str).length = 5 := by decide
    have h1 : (" " : Str).length = 1 := by decide
    have h0 : (Str.empty ++ ("pair " : Str)).length = 5 := by decide
    have pk : 2 ^ k.depth ≤ 2 ^ max k.depth l.depth := Nat.pow_le_pow_right (by decide) (Nat.le_max_left _ _)
    have pl : 2 ^ l.depth ≤ 2 ^ max k.depth l.depth := Nat.pow_le_pow_right (by decide) (Nat.le_max_right _ _)
    have pm : 2 ^ max k.depth l.depth ≤ 2 ^ 3 := Nat.pow_le_pow_right (by decide) (by omega)
    have p1 : 1 ≤ 2 ^ max k.depth l.depth := Nat.one_le_two_pow
    have KA : ∀ {G : Hp}, Ex H G → KindAt C G k (.ref la) ∧ KindAt C G l (.ref ra) ∧ G la = some (.ins (C.cls k) ld lf) ∧ G ra = some (.ins (C.cls l) rd rf) := fun e => ⟨hk.ex e, hl.ex e, e _ _ l1, e _ _ r1⟩
    refine ⟨_, rfl, by rw [h0]; omega, _, rfl, la, _, ld, lf, _, rfl, SK.at k, l1, l2.no _ (by decide), .ref la, k, rfl, hk, rfl, dk, fun lz G1 g1 lt => .inl ⟨lz, rfl, by omega, _, rfl, by rw [str_len, h0]; omega, ?_⟩⟩
    obtain ⟨kk1, kk2, kk3, kk4⟩ := KA g1
    refine ⟨_, rfl, by rw [str_len, str_len, h0, h1]; omega, _, rfl, ra, _, rd, rf, _, rfl, SK.at l, kk4, r2.no _ (by decide), .ref ra, l, rfl, kk2, rfl, dl, fun rz G2 g2 rt => .inl ⟨rz, rfl, by omega, _, rfl, by rw [str_len, str_len, str_len, h0, h1]; omega, ?_⟩⟩
    have tl : (((Str.empty ++ ("pair " : Str)) ++ lz) ++ (" " : Str) ++ rz).length + 6 ≤ 100 * 2 ^ (RK.pair k l).depth := by
      rw [str_len, str_len, str_len, h0, h1]
      show _ ≤ 100 * 2 ^ (max k.depth l.depth + 1)
      rw [Nat.pow_succ]
      omega
    generalize hz : ((Str.empty ++ ("pair " : Str)) ++ lz) ++ (" " : Str) ++ rz = z at tl
    have g12 := g1.trans g2
    obtain ⟨kk1, kk2, kk3, kk4⟩ := KA g12
    refine ⟨rfl, _, rfl, _, rfl, ?_⟩
    refine ⟨_, rfl, la, _, ld, lf, _, rfl, SK.at k, kk3, l2.no _ (by decide), .ref la, k, rfl, kk1, rfl, dk, fun v1 G3 g3 d1 => ?_⟩
    obtain ⟨kk1, kk2, kk3, kk4⟩ := KA (g12.trans g3)
    refine ⟨_, rfl, ra, _, rd, rf, _, rfl, SK.at l, kk4, r2.no _ (by decide), .ref ra, l, rfl, kk2, rfl, dl, fun v2 G4 g4 d2 => ⟨by show 2 ≤ sizeLine; decide, fun T0 hT0 => ?_⟩⟩
    have e0 := Ex.new (o := .tup [v1, v2]) hT0
    have D0 : DtAt (upd G4 T0 (.tup [v1, v2])) (.ref T0) (zeroD (.pair k l)) := .new hT0 (.cons (d1.ex g4) (.cons d2 .nil))
    have e5 := ((g12.trans g3).trans g4).trans e0
    generalize upd G4 T0 (.tup [v1, v2]) = G5 at e0 D0 e5 ⊢
    obtain ⟨kk1, kk2, kk3, kk4⟩ := KA e5
    refine ⟨_, rfl, la, _, ld, lf, _, rfl, SK.at k, kk3, l2.no _ (by decide), .ref la, k, rfl, kk1, rfl, dk, fun v3 G6 g6 d3 => ?_⟩
    obtain ⟨kk1, kk2, kk3, kk4⟩ := KA (e5.trans g6)
    refine ⟨_, rfl, ra, _, rd, rf, _, rfl, SK.at l, kk4, r2.no _ (by decide), .ref ra, l, rfl, kk2, rfl, dl, fun v4 G7 g7 d4 => ⟨by show 2 ≤ sizeLine; decide, fun T1 hT1 => ?_⟩⟩
    have e1 := Ex.new (o := .tup [v3, v4]) hT1
    have DT1 : DtAt (upd G7 T1 (.tup [v3, v4])) (.ref T1) (oneD (.pair k l)) := .new hT1 (.cons (d3.ex g7) (.cons d4 .nil))
    have D0' := D0.ex ((g6.trans g7).trans e1)
    have e8 := ((e5.trans g6).trans g7).trans e1
    generalize upd G7 T1 (.tup [v3, v4]) = G8 at DT1 D0' e8 ⊢
    have ha8 := e8 _ _ ha
    refine ⟨a, _, dx, [], .str z, .ref T0, .ref T1, rfl, ha8, ok, by decide, fun H1 o1 h1 => ?_⟩
    refine ⟨_, rfl, _, rfl, a, _, dx, _, rfl, h1, ok.cls, ok.no _ (by decide), by (show 3 < 1000; decide), ?_⟩
    refine ⟨_, rfl, _, rfl, a, _, dx, _, rfl, upd_same, ok.cls, ok.no _ (by decide), by (show 4 < 1000; decide), ?_⟩
    have o2 := (o1.upd (o := .ins C.pa dx (putF "_left" (.ref la) (putF "_one" (.ref T1) (putF "_zero" (.ref T0) (putF "_text" (.str z) [])))))).upd (o := .ins C.pa dx (putF "_right" (.ref ra) (putF "_left" (.ref la) (putF "_one" (.ref T1) (putF "_zero" (.ref T0) (putF "_text" (.str z) []))))))
    have hal : ∃ Cc dd ff, G8 a = some (.ins Cc dd ff) := ⟨_, _, _, ha8⟩
    refine q _ (Only.trans (fun b o _ e => e8 b o e) o2) ⟨a, dx, _, .ref la, .ref ra, rfl, upd_same, ⟨⟨_, rfl, tl⟩, ⟨_, rfl, o2.kp D0' hal⟩, ⟨_, rfl, o2.kp DT1 hal⟩, no_fs (by rfl)⟩, rfl, rfl, (KA e8).1.only o2 ha8 rfl, (KA e8).2.1.only o2 ha8 rfl⟩
end
end D1
end
section
set_option Elab.async false
set_option linter.all false
set_option maxRecDepth 100000
set_option maxHeartbeats 4000000
/-! R6: kinds of tuples; Rings; the form -/
namespace D1
open PySem L2 Evl RZ ClX PySem.VX
def bare : RK → Bool
  | .lot _ => false
  | .pair _ _ => false
  | _ => true
theorem bare_made {k : RK} (h : bare k = true) : madeD k = .tuple [.str (nameOf k)] := by cases k <;> first | rfl | cases h
def RingAt (C : KC) (CR : Addr) (H : Hp) (v : V) (k : RK) : Prop := ∃ (r dr : Addr) (fr : List (Str × V)) (m x : V), v = .ref r ∧ H r = some (.ins CR dr fr) ∧ fr.lookup ("_made" : Str) = some m ∧ DtAt H m (madeD k) ∧ fr.lookup ("_kind" : Str) = some x ∧ KindAt C H k x ∧ ∀ f, f ∉ fields → fr.lookup f = none
theorem RingAt.kp {C : KC} {CR : Addr} {H H' : Hp} {v : V} {k : RK} (h : RingAt C CR H v k) (x : Kp H H') : RingAt C CR H' v k := by
  obtain ⟨r, dr, fr, m, y, h1, h2, h3, h4, h5, h6, h7⟩ := h
  exact ⟨r, dr, fr, m, y, h1, x.ins h2, h3, h4.kp x, h5, h6.kp x, h7⟩
theorem RingAt.ex {C : KC} {CR : Addr} {H H' : Hp} {v : V} {k : RK} (h : RingAt C CR H v k) (e : Ex H H') : RingAt C CR H' v k := h.kp (.ex e)
structure SizesC (K : PySem.W.Frag) (w : World) (mg : Str → Option Value) (d : Addr) (es : Array DictEntry) (n : Nat) (a2 : Addr) : Prop where
  g : mg "_SIZES" = some (.ref d)
  D : KDict K w d es n
  no : ∀ k : RK, (∀ n, k ≠ .lot n) → PySem.W.nsIn K d (nameOf k) = some none
  lot : PySem.W.nsIn K d "lot" = some (some (.ref a2))
  two : ∀ H, SqT K H a2 [.int 1, .int 12]
structure BareK (K : PySem.W.Frag) (mg : Str → Option Value) (aB : Addr) : Prop where
  g : mg "_BARE" = some (.ref aB)
  at_ : ∀ H, SqT K H aB [.str "truth", .str "count", .str "least", .str "most", .str "narrow", .str "share"]
def spBare (C : KC) : Sp := fun vs H Q _ => ∃ k : RK, vs = [.str (nameOf k)] ∧ bare k = true ∧ ∀ (r : V) H', Ex H H' → KindAt C H' k r → Q r H'
def spSized (C : KC) : Sp := fun vs H Q _ => ∃ n : Nat, vs = [.str "lot", .int n] ∧ 1 ≤ n ∧ n ≤ 12 ∧ ∀ (r : V) H', Ex H H' → KindAt C H' (.lot n) r → Q r H'
def spKindOf (C : KC) (d : Nat) : Sp := fun vs H Q _ => ∃ (v : V) (k : RK), vs = [v] ∧ DtAt H v (madeD k) ∧ k.depth < d ∧ k.ok ∧ ∀ (r : V) H', Ex H H' → KindAt C H' k r → Q r H'
def spRingI (C : KC) (CR : Addr) : Sp := fun vs H Q _ => ∃ (a dx : Addr) (v : V) (k : RK), vs = [.ref a, v] ∧ H a = some (.ins CR dx []) ∧ DtAt H v (madeD k) ∧ k.depth < 4 ∧ k.ok ∧ ∀ H', Only a H H' → RingAt C CR H' (.ref a) k → Q .non H'
def spForm (d : Nat) : Sp := fun vs H Q _ => ∃ (v : V) (k : RK) (n : Int), vs = [v, .int n] ∧ DtAt H v (madeD k) ∧ k.ok ∧ k.depth < d ∧ (k.depth : Int) ≤ n ∧ ∀ H', Ex H H' → Q (.bl true) H'
def spTabs (d : Nat) : Sp := fun vs H Q _ => ∃ (v : V) (k : RK), vs = [v] ∧ DtAt H v (madeD k) ∧ k.depth < d ∧ ∀ p H', H p = none → Ex H H' → H' p = some (.lst []) → Q (.ref p) H'
def spRingOf (C : KC) (CR : Addr) : Sp := fun vs H Q _ => ∃ (v : V) (k : RK), vs = [v] ∧ DtAt H v (madeD k) ∧ k.ok ∧ k.depth < 4 ∧ ∀ (r : V) H', Ex H H' → RingAt C CR H' r k → Q r H'
theorem is_lot {k : RK} : (∀ n, k ≠ .lot n) ∨ ∃ n, k = .lot n := by cases k <;> first | exact .inr ⟨_, rfl⟩ | exact .inl fun n h => by cases h
/-- the tuple of which a ring is made -/
theorem made_at {H : Hp} {v : V} {k : RK} (h : DtAt H v (madeD k)) : ∃ (a : Addr) (xs : List V), v = .ref a ∧ H a = some (.tup (.str (nameOf k) :: xs)) ∧ (bare k = true → xs = []) ∧ (∀ n, k = .lot n → xs = [.int n]) ∧ ∀ x y, k = .pair x y → ∃ u w, xs = [u, w] ∧ DtAt H u (madeD x) ∧ DtAt H w (madeD y) := by
  cases k with
  | lot n =>
    obtain ⟨a, u, w, rfl, ha, h1, h2⟩ := h.two
    obtain rfl := h1.str_inv
    obtain rfl := h2.int_inv
    exact ⟨a, _, rfl, ha, fun h => (by cases h), fun m e => (by cases e; rfl), fun x y e => (by cases e)⟩
  | pair x y =>
    obtain ⟨a, u, w, t, rfl, ha, h1, h2, h3⟩ := h.three
    obtain rfl := h1.str_inv
    exact ⟨a, _, rfl, ha, fun h => (by cases h), fun m e => (by cases e), fun x' y' e => (by cases e; exact ⟨w, t, rfl, h2, h3⟩)⟩
  | _ =>
    obtain ⟨a, u, rfl, ha, h1⟩ := h.one
    obtain rfl := h1.str_inv
    exact ⟨a, _, rfl, ha, fun _ => rfl, fun m e => (by cases e), fun x y e => (by cases e)⟩
section
variable {P : Program} {w : World} {K : PySem.W.Frag} {mg : Str → Option Value} {base : Heap}
abbrev s__bare_kind : Stmt := top 46
theorem sc__bare_kind : FnScope ["name"] ["name"] (defScope s__bare_kind) := ⟨rfl, rfl, rfl, by decide +kernel, rfl, by decide +kernel, by decide +kernel⟩
theorem ok__bare_kind {f : Addr} {fd : FuncData} (F : FnP K "_bare_kind" s__bare_kind f fd) {C : KC} {f_Truth_init : Addr} {fd_Truth_init : FuncData} (b_Truth_init : Binds K fd_Truth_init ["self"] []) (G_Truth_init : FnOk P w K mg base CX0 2 f_Truth_init fd_Truth_init ["self"] (spMk C .truth [])) (M_Truth : L2.Mk K C.tr f_Truth_init) (g_Truth : mg "Truth" = some (.ref C.tr)) {f_Count_init : Addr} {fd_Count_init : FuncData} (b_Count_init : Binds K fd_Count_init ["self"] []) (G_Count_init : FnOk P w K mg base CX0 3 f_Count_init fd_Count_init ["self"] (spMk C .count [])) (M_Count : L2.Mk K C.co f_Count_init) (g_Count : mg "Count" = some (.ref C.co)) {f_Bounded_init : Addr} {fd_Bounded_init : FuncData} (b_Bounded_init : Binds K fd_Bounded_init ["self", "text", "sign"] []) (G_Bounded_init : FnOk P w K mg base CX0 3 f_Bounded_init fd_Bounded_init ["self", "text", "sign"] (spMkBound C)) (M_Bounded : L2.Mk K C.bo f_Bounded_init) (g_Bounded : mg "Bounded" = some (.ref C.bo)) {f_Narrow_init : Addr} {fd_Narrow_init : FuncData} (b_Narrow_init : Binds K fd_Narrow_init ["self"] []) (G_Narrow_init : FnOk P w K mg base CX0 3 f_Narrow_init fd_Narrow_init ["self"] (spMk C .narrow [])) (M_Narrow : L2.Mk K C.na f_Narrow_init) (g_Narrow : mg "Narrow" = some (.ref C.na)) {f_Share_init : Addr} {fd_Share_init : FuncData} (b_Share_init : Binds K fd_Share_init ["self"] []) (G_Share_init : FnOk P w K mg base CX0 2 f_Share_init fd_Share_init ["self"] (spMk C .share [])) (M_Share : L2.Mk K C.sh f_Share_init) (g_Share : mg "Share" = some (.ref C.sh)) : FnOk P w K mg base (CX0) 5 f fd ["name"] (spBare C) := by
  refine F.ok (CX := CX0) sc__bare_kind (fun vs H Q E h => ?_) (fun cdv A outer s H vs Q E hr h => ?_)
  · obtain ⟨k, rfl, _⟩ := h
    rfl
  · obtain ⟨k, rfl, hb, q⟩ := h
    have hu := hu_of hr
    have hu64 := hr.units
    have hr_Truth := hr.mono (by decide : 2 + 1 ≤ 4)
    have hr_Share := hr.mono (by decide : 2 + 1 ≤ 4)
    have hr_Count := hr.mono (by decide : 3 + 1 ≤ 4)
    have hr_Bounded := hr.mono (by decide : 3 + 1 ≤ 4)
    have hr_Narrow := hr.mono (by decide : 3 + 1 ≤ 4)
    refine ⟨_, PSs.nox (pss_cons (ps_if (pt_cmpR op_eq (pv 0) pe_str (nomark _)) (pss_one (ps_ret (pe_make0 M_Truth G_Truth_init hr_Truth rfl g_Truth b_Truth_init .nil pass0))) pss_nil)
      (pss_cons (ps_if (pt_cmpR op_eq (pv 0) pe_str (nomark _)) (pss_one (ps_ret (pe_make0 M_Count G_Count_init hr_Count rfl g_Count b_Count_init .nil pass0))) pss_nil)
      (pss_cons (ps_if (pt_cmpR op_eq (pv 0) pe_str (nomark _)) (pss_one (ps_ret (pe_make M_Bounded G_Bounded_init hr_Bounded rfl g_Bounded b_Bounded_init .nil pass0 (pa_cons pe_str (pa_cons pe_int pa_nil))))) pss_nil)
      (pss_cons (ps_if (pt_cmpR op_eq (pv 0) pe_str (nomark _)) (pss_one (ps_ret (pe_make M_Bounded G_Bounded_init hr_Bounded rfl g_Bounded b_Bounded_init .nil pass0 (pa_cons pe_str (pa_cons (pe_un un_neg pe_int) pa_nil))))) pss_nil)
      (pss_cons (ps_if (pt_cmpR op_eq (pv 0) pe_str (nomark _)) (pss_one (ps_ret (pe_make0 M_Narrow G_Narrow_init hr_Narrow rfl g_Narrow b_Narrow_init .nil pass0))) pss_nil)
      (pss_one (ps_ret (pe_make0 M_Share G_Share_init hr_Share rfl g_Share b_Share_init .nil pass0)))))))), ?_⟩
    cases k with
    | truth =>
      refine ⟨_, rfl, rfl, _, rfl, yes_of (by first | rfl | (rw [dec_str]; rfl)) ?_⟩
      intro x dx nx ndx nex
      exact ⟨x, dx, rfl, upd_same, fun H' o1 hk => ⟨rfl, q (.ref x) H' (made_ex nx ndx o1) hk⟩⟩
    | count =>
      refine ⟨_, rfl, rfl, _, rfl, no_of (by first | rfl | (rw [dec_str]; rfl)) ?_⟩
      refine ⟨_, rfl, rfl, _, rfl, yes_of (by first | rfl | (rw [dec_str]; rfl)) ?_⟩
      intro x dx nx ndx nex
      exact ⟨x, dx, rfl, upd_same, fun H' o1 hk => ⟨rfl, q (.ref x) H' (made_ex nx ndx o1) hk⟩⟩
    | least =>
      refine ⟨_, rfl, rfl, _, rfl, no_of (by first | rfl | (rw [dec_str]; rfl)) ?_⟩
      refine ⟨_, rfl, rfl, _, rfl, no_of (by first | rfl | (rw [dec_str]; rfl)) ?_⟩
      refine ⟨_, rfl, rfl, _, rfl, yes_of (by first | rfl | (rw [dec_str]; rfl)) ?_⟩
      intro x dx nx ndx nex
      exact ⟨.least, _, _, x, dx, rfl, .inl ⟨rfl, rfl, rfl⟩, upd_same, fun H' o1 hk => ⟨rfl, q (.ref x) H' (made_ex nx ndx o1) hk⟩⟩
    | most =>
      refine ⟨_, rfl, rfl, _, rfl, no_of (by first | rfl | (rw [dec_str]; rfl)) ?_⟩
      refine ⟨_, rfl, rfl, _, rfl, no_of (by first | rfl | (rw [dec_str]; rfl)) ?_⟩
      refine ⟨_, rfl, rfl, _, rfl, no_of (by first | rfl | (rw [dec_str]; rfl)) ?_⟩
      refine ⟨_, rfl, rfl, _, rfl, yes_of (by first | rfl | (rw [dec_str]; rfl)) ?_⟩
      refine ⟨1, rfl, ?_⟩
      intro x dx nx ndx nex
      exact ⟨.most, _, _, x, dx, rfl, .inr ⟨rfl, rfl, rfl⟩, upd_same, fun H' o1 hk => ⟨rfl, q (.ref x) H' (made_ex nx ndx o1) hk⟩⟩
    | narrow =>
      refine ⟨_, rfl, rfl, _, rfl, no_of (by first | rfl | (rw [dec_str]; rfl)) ?_⟩
      refine ⟨_, rfl, rfl, _, rfl, no_of (by first | rfl | (rw [dec_str]; rfl)) ?_⟩
      refine ⟨_, rfl, rfl, _, rfl, no_of (by first | rfl | (rw [dec_str]; rfl)) ?_⟩
      refine ⟨_, rfl, rfl, _, rfl, no_of (by first | rfl | (rw [dec_str]; rfl)) ?_⟩
      refine ⟨_, rfl, rfl, _, rfl, yes_of (by first | rfl | (rw [dec_str]; rfl)) ?_⟩
      intro x dx nx ndx nex
      exact ⟨x, dx, rfl, upd_same, fun H' o1 hk => ⟨rfl, q (.ref x) H' (made_ex nx ndx o1) hk⟩⟩
    | share =>
      refine ⟨_, rfl, rfl, _, rfl, no_of (by first | rfl | (rw [dec_str]; rfl)) ?_⟩
      refine ⟨_, rfl, rfl, _, rfl, no_of (by first | rfl | (rw [dec_str]; rfl)) ?_⟩
      refine ⟨_, rfl, rfl, _, rfl, no_of (by first | rfl | (rw [dec_str]; rfl)) ?_⟩
      refine ⟨_, rfl, rfl, _, rfl, no_of (by first | rfl | (rw [dec_str]; rfl)) ?_⟩
      refine ⟨_, rfl, rfl, _, rfl, no_of (by first | rfl | (rw [dec_str]; rfl)) ?_⟩
      intro x dx nx ndx nex
      exact ⟨x, dx, rfl, upd_same, fun H' o1 hk => ⟨rfl, q (.ref x) H' (made_ex nx ndx o1) hk⟩⟩
    | _ => cases hb
abbrev s__sized_kind : Stmt := top 45
theorem sc__sized_kind : FnScope ["name", "size"] ["name", "size"] (defScope s__sized_kind) := ⟨rfl, rfl, rfl, by decide +kernel, rfl, by decide +kernel, by decide +kernel⟩
theorem ok__sized_kind {f : Addr} {fd : FuncData} (F : FnP K "_sized_kind" s__sized_kind f fd) {C : KC} {f_Lot_init : Addr} {fd_Lot_init : FuncData} (b_Lot_init : Binds K fd_Lot_init ["self", "size"] []) (G_Lot_init : FnOk P w K mg base CX0 2 f_Lot_init fd_Lot_init ["self", "size"] (spMkLot C)) (M_Lot : L2.Mk K C.lo f_Lot_init) (g_Lot : mg "Lot" = some (.ref C.lo)) : FnOk P w K mg base (CX0) 4 f fd ["name", "size"] (spSized C) := by
  refine F.ok (CX := CX0) sc__sized_kind (fun vs H Q E h => ?_) (fun cdv A outer s H vs Q E hr h => ?_)
  · obtain ⟨n, rfl, _⟩ := h
    rfl
  · obtain ⟨n, rfl, n1, n2, q⟩ := h
    have hu := hu_of hr
    have hu64 := hr.units
    have hr_Lot := hr.mono (by decide : 2 + 1 ≤ 3)
    refine ⟨_, PSs.nox (pss_cons (ps_if (pt_cmpR op_eq (pv 0) pe_str (nomark _)) (pss_one (ps_ret (pe_make M_Lot G_Lot_init hr_Lot rfl g_Lot b_Lot_init .nil pass0 (pa_cons (pv 1) pa_nil)))) pss_nil)
      (pss_cons (ps_if (pt_cmpR op_eq (pv 0) pe_str (nomark _)) (pss_one (ps_dead)) pss_nil)
      (pss_one (ps_dead)))), ?_⟩
    refine ⟨_, rfl, rfl, _, rfl, yes_of (by first | rfl | (rw [dec_str]; rfl)) ⟨_, rfl, ?_⟩⟩
    intro x dx nx ndx nex
    exact ⟨n, x, dx, rfl, n1, n2, upd_same, fun H' o1 hk => ⟨rfl, q (.ref x) H' (made_ex nx ndx o1) hk⟩⟩
abbrev s_kind_of : Stmt := top 44
theorem sc_kind_of : FnScope ["made", "name"] ["made"] (defScope s_kind_of) := ⟨rfl, rfl, rfl, by decide +kernel, rfl, by decide +kernel, by decide +kernel⟩
theorem ok_kind_of {f : Addr} {fd : FuncData} (F : FnP K "kind_of" s_kind_of f fd) (g_kind_of : mg "kind_of" = some (.ref f)) {C : KC} {f_Pair_init : Addr} {fd_Pair_init : FuncData} (b_Pair_init : Binds K fd_Pair_init ["self", "left", "right"] []) (G_Pair_init : FnOk P w K mg base CX0 2 f_Pair_init fd_Pair_init ["self", "left", "right"] (spMkPair C)) (M_Pair : L2.Mk K C.pa f_Pair_init) (g_Pair : mg "Pair" = some (.ref C.pa)) {f__bare_kind : Addr} {fd__bare_kind : FuncData} (F__bare_kind : FnP K "_bare_kind" s__bare_kind f__bare_kind fd__bare_kind) (g__bare_kind : mg "_bare_kind" = some (.ref f__bare_kind)) (G__bare_kind : FnOk P w K mg base (CX0) 5 f__bare_kind fd__bare_kind ["name"] (spBare C)) {f__sized_kind : Addr} {fd__sized_kind : FuncData} (F__sized_kind : FnP K "_sized_kind" s__sized_kind f__sized_kind fd__sized_kind) (g__sized_kind : mg "_sized_kind" = some (.ref f__sized_kind)) (G__sized_kind : FnOk P w K mg base (CX0) 4 f__sized_kind fd__sized_kind ["name", "size"] (spSized C)) (z_len : mg "len" = none) : ∀ d : Nat, d ≤ 4 → FnOk P w K mg base CX0 (d + 6) f fd ["made"] (spKindOf C d) := by
  have F_kind_of := F
  have b_kind_of : Binds K fd ["made"] [] := F.bindsN fun _ _ _ _ _ _ us hl => match us, hl with | [_], _ => rfl
  have b__bare_kind : Binds K fd__bare_kind ["name"] [] := F__bare_kind.bindsN fun _ _ _ _ _ _ us hl => match us, hl with | [_], _ => rfl
  have b__sized_kind : Binds K fd__sized_kind ["name", "size"] [] := F__sized_kind.bindsN fun _ _ _ _ _ _ us hl => match us, hl with | [_, _], _ => rfl
  intro d
  induction d with
  | zero =>
    intro _
    exact fn_never fun vs H Q E ⟨v, k, _, _, h, _⟩ => Nat.not_lt_zero _ h
  | succ d ih =>
    intro hd
    have G_kind_of := ih (by omega)
    refine F.ok sc_kind_of (fun vs H Q E h => ?_) (fun cdv A outer s H vs Q E hr h => ?_)
    · obtain ⟨v, k, rfl, _⟩ := h
      rfl
    · obtain ⟨v, k, rfl, hM, hdep, hok, q⟩ := h
      have hr_kind_of := hr
      have hr_Pair := hr.mono (by omega : 2 + 1 ≤ d + 6)
      have hr__bare_kind := hr.mono (by omega : 5 ≤ d + 6)
      have hr__sized_kind := hr.mono (by omega : 4 ≤ d + 6)
      refine ⟨_, PSs.nox (pss_cons (ps_set (i := 1) sc_kind_of.nd rfl (Or.inl rfl) (pe_ix ix_tup (pv 0) pe_int (fun _ _ => rfl)))
      (pss_cons (ps_if (pt_cmpR op_eq (pv 1) pe_str (nomark _)) (pss_one (ps_ret (pe_make M_Pair G_Pair_init hr_Pair rfl g_Pair b_Pair_init .nil pass0 (pa_cons (pe_call G_kind_of hr_kind_of rfl g_kind_of F_kind_of.kp b_kind_of .nil pass0 (pa_cons (pe_ix ix_tup (pv 0) pe_int (fun _ _ => rfl)) pa_nil)) (pa_cons (pe_call G_kind_of hr_kind_of rfl g_kind_of F_kind_of.kp b_kind_of .nil pass0 (pa_cons (pe_ix ix_tup (pv 0) pe_int (fun _ _ => rfl)) pa_nil)) pa_nil))))) pss_nil)
      (pss_cons (ps_if (pt_cmpR op_eq (pv 1) pe_str (nomark _)) (pss_one (ps_dead)) pss_nil)
      (pss_cons (ps_if (pt_cmpR op_eq (pe_callB call_len_seq (by rfl) z_len PySem.boot_len (pa_cons (pv 0) pa_nil)) pe_int (nomark _)) (pss_one (ps_ret (pe_call G__sized_kind hr__sized_kind rfl g__sized_kind F__sized_kind.kp b__sized_kind .nil pass0 (pa_cons (pv 1) (pa_cons (pe_ix ix_tup (pv 0) pe_int (fun _ _ => rfl)) pa_nil))))) pss_nil)
      (pss_one (ps_ret (pe_call G__bare_kind hr__bare_kind rfl g__bare_kind F__bare_kind.kp b__bare_kind .nil pass0 (pa_cons (pv 1) pa_nil)))))))), ?_⟩
      obtain ⟨a, xs, rfl, ha, h1, h2, h3⟩ := made_at hM
      refine ⟨_, rfl, a, _, _, .str (nameOf k), rfl, rfl, .inl (.inl ha), atI_of (Int.le_refl 0) rfl, ?_⟩
      by_cases hb : bare k = true
      · obtain rfl := h1 hb
        have n1 : nameOf k ≠ "pair" := by cases k <;> first | (intro h; exact absurd h (by decide)) | cases hb
        have n2 : nameOf k ≠ "table" := by cases k <;> first | (intro h; exact absurd h (by decide)) | cases hb
        refine ⟨_, rfl, rfl, _, rfl, no_of (by rw [dec_str]; exact beq_eq_false_iff_ne.mpr n1) ?_⟩
        refine ⟨_, rfl, rfl, _, rfl, no_of (by rw [dec_str]; exact beq_eq_false_iff_ne.mpr n2) ?_⟩
        refine ⟨_, rfl, a, _, rfl, .inr (.inl (.inl ha)), rfl, _, rfl, no_of (by first | rfl | (rw [dec_int]; rfl)) ?_⟩
        exact ⟨_, rfl, k, rfl, hb, fun r H' e hk => q r H' e hk⟩
      · cases k with
        | lot n =>
          obtain rfl := h2 n rfl
          obtain ⟨n1, n2⟩ : 1 ≤ n ∧ n ≤ 12 := hok
          refine ⟨_, rfl, rfl, _, rfl, no_of (by first | rfl | (rw [dec_str]; rfl)) ?_⟩
          refine ⟨_, rfl, rfl, _, rfl, no_of (by first | rfl | (rw [dec_str]; rfl)) ?_⟩
          refine ⟨_, rfl, a, _, rfl, .inr (.inl (.inl ha)), rfl, _, rfl, yes_of (by first | rfl | (rw [dec_int]; rfl)) ?_⟩
          exact ⟨_, rfl, _, rfl, a, _, _, _, rfl, rfl, .inl (.inl ha), rfl, n, rfl, n1, n2, fun r H' e hk => q r H' e hk⟩
        | pair y z =>
          obtain ⟨u, u', rfl, hy, hz⟩ := h3 y z rfl
          obtain ⟨ok1, ok2⟩ : y.ok ∧ z.ok := hok
          have d1 := depth_l hdep
          have d2 := depth_r hdep
          refine ⟨_, rfl, rfl, _, rfl, yes_of (by first | rfl | (rw [dec_str]; rfl)) ?_⟩
          refine ⟨_, rfl, a, _, _, _, rfl, rfl, .inl (.inl ha), rfl, u, y, rfl, hy, d1, ok1, fun k1 H1 e1 hk1 => ?_⟩
          refine ⟨_, rfl, a, _, _, _, rfl, rfl, .inl (.inl (e1 _ _ ha)), rfl, u', z, rfl, hz.ex e1, d2, ok2, fun k2 H2 e2 hk2 => ?_⟩
          intro x dx nx ndx nex
          have eN := new_ex (C := C.pa) nx ndx
          exact ⟨y, z, k1, k2, x, dx, rfl, (hk1.ex e2).ex eN, hk2.ex eN, by omega, by omega, upd_same, fun H' o1 hk => ⟨rfl, q (.ref x) H' ((e1.trans e2).trans (made_ex nx ndx o1)) hk⟩⟩
        | _ => exact absurd rfl hb
abbrev s_Ring_init : Stmt := meth 48 0
theorem sc_Ring_init : FnScope ["self", "made"] ["self", "made"] (defScope s_Ring_init) := ⟨rfl, rfl, rfl, by decide +kernel, rfl, by decide +kernel, by decide +kernel⟩
theorem ok_Ring_init {f : Addr} {fd : FuncData} (F : FnM K "Ring" "__init__" s_Ring_init f fd) {C : KC} {CR : Addr} (okR : OkC K CR) {f_kind_of : Addr} {fd_kind_of : FuncData} (F_kind_of : FnP K "kind_of" s_kind_of f_kind_of fd_kind_of) (g_kind_of : mg "kind_of" = some (.ref f_kind_of)) (G_kind_of : FnOk P w K mg base (CX0) 10 f_kind_of fd_kind_of ["made"] (spKindOf C 4)) : FnOk P w K mg base (CX0) 11 f fd ["self", "made"] (spRingI C CR) := by
  have b_kind_of : Binds K fd_kind_of ["made"] [] := F_kind_of.bindsN fun _ _ _ _ _ _ us hl => match us, hl with | [_], _ => rfl
  refine F.ok (CX := CX0) sc_Ring_init (fun vs H Q E h => ?_) (fun cdv A outer s H vs Q E hr h => ?_)
  · obtain ⟨a, dx, v, k, rfl, _⟩ := h
    rfl
  · obtain ⟨a, dx, v, k, rfl, ha, hM, hd, hok, q⟩ := h
    have hu := hu_of hr
    have hu64 := hr.units
    have hr_kind_of := hr.mono (by decide : 10 ≤ 10)
    refine ⟨_, PSs.nox (pss_cons (ps_fld (pv 0) (pv 1) rfl)
      (pss_one (ps_fld (pv 0) (pe_call G_kind_of hr_kind_of rfl g_kind_of F_kind_of.kp b_kind_of .nil pass0 (pa_cons (pv 1) pa_nil)) rfl))), ?_⟩
    refine ⟨_, rfl, _, rfl, a, CR, dx, [], rfl, ha, okR.cls, okR.no _ (by decide), by decide, ?_⟩
    have o1 : Only a H (upd H a (.ins CR dx (putF "_made" v []))) := Only.refl.upd
    refine ⟨_, rfl, v, k, rfl, o1.kp hM ⟨_, _, _, ha⟩, hd, hok, fun x H2 e hk => ?_⟩
    have ha2 : H2 a = some (.ins CR dx (putF "_made" v [])) := e _ _ upd_same
    refine ⟨_, rfl, a, CR, dx, _, rfl, ha2, okR.cls, okR.no _ (by decide), by (show 1 < 1000; decide), ?_⟩
    have o2 : Only a H2 (upd H2 a (.ins CR dx (putF "_kind" x (putF "_made" v [])))) := Only.refl.upd
    have hM2 := (o1.kp hM ⟨_, _, _, ha⟩).ex e
    exact q _ ((o1.ex e).trans o2) ⟨a, dx, _, v, x, rfl, upd_same, rfl, o2.kp hM2 ⟨_, _, _, ha2⟩, rfl, hk.only o2 ha2 rfl, no_fs (by rfl)⟩
abbrev s__has_form : Stmt := top 78
theorem sc__has_form : FnScope ["made", "deep", "name", "least", "most"] ["made", "deep"] (defScope s__has_form) := ⟨rfl, rfl, rfl, by decide +kernel, rfl, by decide +kernel, by decide +kernel⟩
theorem ok__has_form {f : Addr} {fd : FuncData} (F : FnP K "_has_form" s__has_form f fd) (g__has_form : mg "_has_form" = some (.ref f)) {f_is_whole : Addr} {fd_is_whole : FuncData} (F_is_whole : FnP K "is_whole" s_is_whole f_is_whole fd_is_whole) (g_is_whole : mg "is_whole" = some (.ref f_is_whole)) (G_is_whole : FnOk P w K mg base (CX0) 2 f_is_whole fd_is_whole ["thing", "least", "most"] (spWhole K)) {dS aS2 aB : Addr} {es : Array DictEntry} {nS : Nat} (SZ : SizesC K w mg dS es nS aS2) (BA : BareK K mg aB) (z_isinstance : mg "isinstance" = none) (z_tuple : mg "tuple" = none) (z_len : mg "len" = none) (z_str : mg "str" = none) : ∀ d : Nat, FnOk P w K mg base CX0 (d + 5) f fd ["made", "deep"] (spForm d) := by
  have F__has_form := F
  have b__has_form : Binds K fd ["made", "deep"] [] := F__has_form.bindsN fun _ _ _ _ _ _ us hl => match us, hl with | [_, _], _ => rfl
  have b_is_whole : Binds K fd_is_whole ["thing", "least", "most"] [] := F_is_whole.bindsN fun _ _ _ _ _ _ us hl => match us, hl with | [_, _, _], _ => rfl
  intro d
  induction d with
  | zero => exact fn_never fun vs H Q E ⟨v, k, n, _, _, _, h, _⟩ => Nat.not_lt_zero _ h
  | succ d ih =>
    have G__has_form := ih
    refine F.ok sc__has_form (fun vs H Q E h => ?_) (fun cdv A outer s H vs Q E hr h => ?_)
    · obtain ⟨v, k, n, rfl, _⟩ := h
      rfl
    · obtain ⟨v, k, n, rfl, hM, hok, hdep, hn, q⟩ := h
      have hu := hu_of hr
      have hr__has_form := hr
      have hr_is_whole := hr.mono (by omega : 2 ≤ d + 5)
      refine ⟨_, PSs.nox (pss_cons (ps_if (PW.pt (pw_or (pt_not (pt_val (pe_callB call_isi (by rfl) z_isinstance PyProof.Rows.boot_isinstance (pa_cons (pv 0) (pa_cons (pe_bltn (v := .ty "tuple") rfl z_tuple (by decide +kernel) rfl) pa_nil))))) (pw_or (pt_cmpR op_eq (pe_callB call_len_seq (by rfl) z_len PySem.boot_len (pa_cons (pv 0) pa_nil)) pe_int (nomark _)) (pw_or1 (pt_not (pt_val (pe_callB call_isi (by rfl) z_isinstance PyProof.Rows.boot_isinstance (pa_cons (pe_ix ix_tup (pv 0) pe_int (fun _ _ => rfl)) (pa_cons (pe_bltn (v := .ty "str") rfl z_str (by decide +kernel) rfl) pa_nil))))))))) (pss_one (ps_ret pe_bl)) pss_nil)
      (pss_cons (ps_set (i := 2) sc__has_form.nd rfl (Or.inl rfl) (pe_ix ix_tup (pv 0) pe_int (fun _ _ => rfl)))
      (pss_cons (ps_if (pt_cmpR (op_in_kd SZ.D) (pv 2) (pe_glob (v := .ref dS) rfl SZ.g rfl) (by rfl)) (pss_cons (ps_asg (pe_ix ix_kdict (pe_glob (v := .ref dS) rfl SZ.g rfl) (pv 2) (fun _ _ => rfl)) (pg_tup rfl (pgs_cons (pg_name (i := 3) sc__has_form.nd rfl (Or.inl rfl)) (pgs_cons (pg_name (i := 4) sc__has_form.nd rfl (Or.inl rfl)) pgs_nil))))
      (pss_one (ps_ret (pe_and (pe_cmpR op_eq (pe_callB call_len_seq (by rfl) z_len PySem.boot_len (pa_cons (pv 0) pa_nil)) pe_int (nomark _)) (pe_one (pe_call G_is_whole hr_is_whole rfl g_is_whole F_is_whole.kp b_is_whole .nil pass0 (pa_cons (pe_ix ix_tup (pv 0) pe_int (fun _ _ => rfl)) (pa_cons (pv 3) (pa_cons (pv 4) pa_nil))))))))) pss_nil)
      (pss_cons (ps_if (PW.pt (pw_and (pt_cmpR op_eq (pe_callB call_len_seq (by rfl) z_len PySem.boot_len (pa_cons (pv 0) pa_nil)) pe_int (nomark _)) (pw_and1 (pt_cmpR op_eq (pv 2) pe_str (nomark _))))) (pss_one (ps_dead)) pss_nil)
      (pss_cons (ps_if (PW.pt (pw_and (pt_cmpR op_eq (pe_callB call_len_seq (by rfl) z_len PySem.boot_len (pa_cons (pv 0) pa_nil)) pe_int (nomark _)) (pw_and1 (pt_cmpR op_eq (pv 2) pe_str (nomark _))))) (pss_one (ps_ret (pe_and (pe_cmpR op_gt (pv 1) pe_int (nomark _)) (pe_and (pe_call G__has_form hr__has_form rfl g__has_form F__has_form.kp b__has_form .nil pass0 (pa_cons (pe_ix ix_tup (pv 0) pe_int (fun _ _ => rfl)) (pa_cons (pe_op op_sub (pv 1) pe_int) pa_nil))) (pe_one (pe_call G__has_form hr__has_form rfl g__has_form F__has_form.kp b__has_form .nil pass0 (pa_cons (pe_ix ix_tup (pv 0) pe_int (fun _ _ => rfl)) (pa_cons (pe_op op_sub (pv 1) pe_int) pa_nil)))))))) pss_nil)
      (pss_one (ps_ret (pe_and (pe_cmpR op_eq (pe_callB call_len_seq (by rfl) z_len PySem.boot_len (pa_cons (pv 0) pa_nil)) pe_int (nomark _)) (pe_one (pe_cmpR op_in_seq (pv 2) (pe_glob (v := .ref aB) rfl BA.g rfl) (by rfl))))))))))), ?_⟩
      obtain ⟨a, xs, rfl, ha, h1, h2, h3⟩ := made_at hM
      have hS : SqT K H a (.str (nameOf k) :: xs) := .inl (.inl ha)
      refine q_when (b := false) (et_is (et_or (et_not (et_B (ev_tTup (ev_var rfl) (tl_tup ha)))) (fun _ => et_or (a := false) (et_is (et_test (ev_eqI (ev_lenT (ev_var rfl) hS) ev_c)) ?_) (fun _ => et_not (et_B (ev_tStr (ev_op (ev_var rfl) ev_c (rv_ixT hS (v := .str (nameOf k)) (atI_of (Int.le_refl 0) rfl))) (tl_str _)))))) rfl) (fun hb => (by cases hb)) (fun _ H1 e1 => ?_)
      · rw [beq_eq_false_iff_ne]
        show ((xs.length + 1 : Nat) : Int) ≠ 0
        omega
      refine q_asg (ev_op (ev_var rfl) ev_c (rv_ixT (ex_t e1 hS) (v := .str (nameOf k)) (atI_of (Int.le_refl 0) rfl))) fun H2 e2 => ?_
      have e3 := e1.trans e2
      have hS2 := ex_t e3 hS
      rcases is_lot (k := k) with hnl | ⟨m, rfl⟩
      · refine q_when (b := false) (et_test (ev_op (ev_var rfl) ev_c fun H3 _ Q' k' => ⟨_, none, rfl, rfl, SZ.no k hnl, k' H3 (Ex.refl H3)⟩)) (fun hb => (by cases hb)) (fun _ H3 e4 => ?_)
        by_cases hb : bare k = true
        · obtain rfl := h1 hb
          refine q_when (b := false) (et_is (et_and (a := false) (b := false) (et_is (et_test (ev_eqI (ev_lenT (ev_var rfl) (ex_t (e3.trans e4) hS)) ev_c)) rfl) (fun hb => (by cases hb))) rfl) (fun hb => (by cases hb)) (fun _ H4 e5 => ?_)
          refine q_when (b := false) (et_is (et_and (a := false) (b := false) (et_is (et_test (ev_eqI (ev_lenT (ev_var rfl) (ex_t ((e3.trans e4).trans e5) hS)) ev_c)) rfl) (fun hb => (by cases hb))) rfl) (fun hb => (by cases hb)) (fun _ H5 e6 => ?_)
          have e7 := ((e3.trans e4).trans e5).trans e6
          refine s_ret (ev_andV (a := true) (b := true) (ev_is (ev_eqI (ev_lenT (ev_var rfl) (ex_t e7 hS)) ev_c) rfl) (fun _ => ev_is (ev_op (ev_var rfl) ev_c (rv_inT (BA.at_ H5) rfl rfl)) (by cases k <;> first | (exact congrArg V.bl (by decide)) | cases hb))) fun H6 e8 => q H6 (e7.trans e8)
        · cases k with
          | pair y z =>
            obtain ⟨u, u', rfl, hy, hz⟩ := h3 y z rfl
            obtain ⟨ok1, ok2⟩ : y.ok ∧ z.ok := hok
            have d1 := depth_l hdep
            have d2 := depth_r hdep
            have hn2 : ((max y.depth z.depth + 1 : Nat) : Int) ≤ n := hn
            have m1 := Nat.le_max_left y.depth z.depth
            have m2 := Nat.le_max_right y.depth z.depth
            refine q_when (b := false) (et_is (et_and (a := true) (b := false) (et_is (et_test (ev_eqI (ev_lenT (ev_var rfl) (ex_t (e3.trans e4) hS)) ev_c)) rfl) (fun _ => et_is (et_test (ev_eqS (ev_var rfl) ev_c)) (by show (("pair" : Str) == "table") = false; decide +kernel))) rfl) (fun hb => (by cases hb)) (fun _ H4 e5 => ?_)
            refine q_when (b := true) (et_is (et_and (a := true) (b := true) (et_is (et_test (ev_eqI (ev_lenT (ev_var rfl) (ex_t ((e3.trans e4).trans e5) hS)) ev_c)) rfl) (fun _ => et_is (et_test (ev_eqS (ev_var rfl) ev_c)) (by show (("pair" : Str) == "pair") = true; decide +kernel))) rfl) (fun _ H5 e6 => ?_) (fun hb => (by cases hb))
            have e7 := ((e3.trans e4).trans e5).trans e6
            refine s_ret (v := .bl true) (ev_is (ev_andV (a := true) (b := true) (ev_is (ev_gtI (ev_var rfl) ev_c) (by rw [decide_eq_true (by omega : (0 : Int) < n)])) fun _ => ev_is (ev_andV (a := true) (b := true) (ev_call (ea_cons (ev_op (ev_var rfl) ev_c (rv_ixT (ex_t e7 hS) (v := u) rfl)) (ea_cons (ev_op (ev_var rfl) ev_c rv_I0) ea_nil)) fun H6 e8 Q' k' E' => ⟨u, y, n - 1, rfl, hy.ex (e7.trans e8), ok1, d1, by omega, fun H7 e9 => k' H7 e9⟩) fun _ => ev_call (ea_cons (ev_op (ev_var rfl) ev_c (rv_ixT (ex_t e7 hS) (v := u') rfl)) (ea_cons (ev_op (ev_var rfl) ev_c rv_I0) ea_nil)) fun H6 e8 Q' k' E' => ⟨u', z, n - 1, rfl, hz.ex (e7.trans e8), ok2, d2, by omega, fun H7 e9 => k' H7 e9⟩) rfl) rfl) fun H6 e8 => q H6 (e7.trans e8)
          | lot m => exact absurd rfl (hnl m)
          | _ => exact absurd rfl hb
      · obtain rfl := h2 m rfl
        obtain ⟨n1, n2⟩ : 1 ≤ m ∧ m ≤ 12 := hok
        refine q_when (b := true) (et_test (ev_op (ev_var rfl) ev_c fun H3 _ Q' k => ⟨_, some (.ref aS2), rfl, rfl, SZ.lot, k H3 (Ex.refl H3)⟩)) (fun _ H3 e4 => ?_) (fun hb => (by cases hb))
        refine ⟨_, rfl, dS, _, .ref aS2, rfl, rfl, ⟨es, nS, .ref aS2, SZ.D.at_, SZ.D.lit, SZ.lot, rfl⟩, aS2, _, rfl, SZ.two _, rfl, _, _, rfl, _, _, rfl, rfl, ?_⟩
        have e7 := e3.trans e4
        refine s_ret (v := .bl true) (ev_is (ev_andV (a := true) (b := true) (ev_is (ev_eqI (ev_lenT (ev_var rfl) (ex_t e7 hS)) ev_c) rfl) (fun _ => ev_is (ev_call (ea_cons (ev_op (ev_var rfl) ev_c (rv_ixT (ex_t e7 hS) (v := .int m) rfl)) (ea_cons (ev_var rfl) (ea_cons (ev_var rfl) ea_nil))) fun H5 e8 Q' k' E' => ⟨_, some (m : Int), _, _, rfl, (DtAt.int (m : Int)).num, fun H6 e9 => k' H6 e9⟩) (by show V.bl (within 1 12 (m : Int)) = _; unfold within; rw [decide_eq_true (by omega : (1 : Int) ≤ (m : Int)), decide_eq_true (by omega : (m : Int) ≤ 12)]; rfl))) rfl) fun H6 e8 => q H6 (e7.trans e8)
abbrev s__tables : Stmt := top 82
theorem sc__tables : FnScope ["made"] ["made"] (defScope s__tables) := ⟨rfl, rfl, rfl, by decide +kernel, rfl, by decide +kernel, by decide +kernel⟩
theorem ok__tables {f : Addr} {fd : FuncData} (F : FnP K "_tables" s__tables f fd) (g__tables : mg "_tables" = some (.ref f)) : ∀ d : Nat, FnOk P w K mg base CX0 d f fd ["made"] (spTabs d) := by
  have F__tables := F
  have b__tables : Binds K fd ["made"] [] := F__tables.bindsN fun _ _ _ _ _ _ us hl => match us, hl with | [_], _ => rfl
  intro d
  induction d with
  | zero => exact fn_never fun vs H Q E ⟨v, k, _, _, h, _⟩ => Nat.not_lt_zero _ h
  | succ d ih =>
    have G__tables := ih
    refine F.ok sc__tables (fun vs H Q E h => ?_) (fun cdv A outer s H vs Q E hr h => ?_)
    · obtain ⟨v, k, rfl, _⟩ := h
      rfl
    · obtain ⟨v, k, rfl, hM, hdep, q⟩ := h
      have hr__tables := hr
      refine ⟨_, PSs.nox (pss_cons (ps_if (pt_cmpR op_eq (pe_ix ix_tup (pv 0) pe_int (fun _ _ => rfl)) pe_str (nomark _)) (pss_one (ps_dead)) pss_nil)
      (pss_cons (ps_if (pt_cmpR op_eq (pe_ix ix_tup (pv 0) pe_int (fun _ _ => rfl)) pe_str (nomark _)) (pss_one (ps_ret (pe_lst (StX.pa_star (pe_call G__tables hr__tables rfl g__tables F__tables.kp b__tables .nil pass0 (pa_cons (pe_ix ix_tup (pv 0) pe_int (fun _ _ => rfl)) pa_nil)) (StX.pa_star (pe_call G__tables hr__tables rfl g__tables F__tables.kp b__tables .nil pass0 (pa_cons (pe_ix ix_tup (pv 0) pe_int (fun _ _ => rfl)) pa_nil)) pa_nil))))) pss_nil)
      (pss_one (ps_ret (pe_lst pa_nil))))), ?_⟩
      obtain ⟨a, xs, rfl, ha, h1, h2, h3⟩ := made_at hM
      have n2 : nameOf k ≠ "table" := by cases k <;> first | (intro h; exact absurd h (by decide)) | (show ¬(("lot" : Str) = "table"); decide) | (show ¬(("pair" : Str) = "table"); decide)
      refine ⟨_, rfl, a, _, _, .str (nameOf k), rfl, rfl, .inl (.inl ha), atI_of (Int.le_refl 0) rfl, rfl, _, rfl, no_of (by rw [dec_str]; exact beq_eq_false_iff_ne.mpr n2) ?_⟩
      by_cases hp : ∃ y z, k = .pair y z
      · obtain ⟨y, z, rfl⟩ := hp
        obtain ⟨u, u', rfl, hy, hz⟩ := h3 y z rfl
        refine ⟨_, rfl, a, _, _, _, rfl, rfl, .inl (.inl ha), rfl, rfl, _, rfl, yes_of (by first | rfl | (rw [dec_str]; rfl)) ?_⟩
        refine ⟨_, rfl, a, _, _, _, rfl, rfl, .inl (.inl ha), rfl, u, y, rfl, hy, depth_l hdep, fun D1 H1 hD1 e1 hL1 => ⟨D1, _, rfl, .inr (SqL.of hL1), ?_⟩⟩
        have ha1 := e1 _ _ ha
        refine ⟨_, rfl, a, _, _, _, rfl, rfl, .inl (.inl ha1), rfl, u', z, rfl, hz.ex e1, depth_r hdep, fun D2 H2 hD2 e2 hL2 => ⟨D2, _, rfl, .inr (SqL.of hL2), ?_⟩⟩
        exact ⟨Nat.zero_le _, fun D hD => q D _ (fresh_back (e1.trans e2) hD) ((e1.trans e2).trans (Ex.new hD)) upd_same⟩
      · have n3 : nameOf k ≠ "pair" := by cases k <;> first | (intro h; exact absurd h (by decide)) | exact absurd ⟨_, _, rfl⟩ hp | (show ¬(("lot" : Str) = "pair"); decide)
        refine ⟨_, rfl, a, _, _, .str (nameOf k), rfl, rfl, .inl (.inl ha), atI_of (Int.le_refl 0) rfl, rfl, _, rfl, no_of (by rw [dec_str]; exact beq_eq_false_iff_ne.mpr n3) ?_⟩
        exact ⟨Nat.zero_le _, fun D hD => q D _ hD (Ex.new hD) upd_same⟩
abbrev s_ring_of : Stmt := top 77
theorem sc_ring_of : FnScope ["made", "sums", "products", "broken"] ["made"] (defScope s_ring_of) := ⟨rfl, rfl, rfl, by decide +kernel, rfl, by decide +kernel, by decide +kernel⟩
theorem ok_ring_of {f : Addr} {fd : FuncData} (F : FnP K "ring_of" s_ring_of f fd) {C : KC} {CR : Addr} {f__has_form : Addr} {fd__has_form : FuncData} (F__has_form : FnP K "_has_form" s__has_form f__has_form fd__has_form) (g__has_form : mg "_has_form" = some (.ref f__has_form)) (G__has_form : FnOk P w K mg base (CX0) 9 f__has_form fd__has_form ["made", "deep"] (spForm 4)) {f__tables : Addr} {fd__tables : FuncData} (F__tables : FnP K "_tables" s__tables f__tables fd__tables) (g__tables : mg "_tables" = some (.ref f__tables)) (G__tables : FnOk P w K mg base (CX0) 4 f__tables fd__tables ["made"] (spTabs 4)) {f_Ring_init : Addr} {fd_Ring_init : FuncData} (b_Ring_init : Binds K fd_Ring_init ["self", "made"] []) (G_Ring_init : FnOk P w K mg base CX0 11 f_Ring_init fd_Ring_init ["self", "made"] (spRingI C CR)) (M_R : L2.Mk K CR f_Ring_init) (g_Ring : mg "Ring" = some (.ref CR)) {tP : Tok} (g_PAIRS : mg "_PAIRS" = some (.int 3 tP)) : FnOk P w K mg base (CX0) 13 f fd ["made"] (spRingOf C CR) := by
  have b__has_form : Binds K fd__has_form ["made", "deep"] [] := F__has_form.bindsN fun _ _ _ _ _ _ us hl => match us, hl with | [_, _], _ => rfl
  have b__tables : Binds K fd__tables ["made"] [] := F__tables.bindsN fun _ _ _ _ _ _ us hl => match us, hl with | [_], _ => rfl
  refine F.ok (CX := CX0) sc_ring_of (fun vs H Q E h => ?_) (fun cdv A outer s H vs Q E hr h => ?_)
  · obtain ⟨v, k, rfl, _⟩ := h
    rfl
  · obtain ⟨v, k, rfl, hM, hok, hd, q⟩ := h
    have hu := hu_of hr
    have hu64 := hr.units
    have hr__has_form := hr.mono (by decide : 9 ≤ 12)
    have hr__tables := hr.mono (by decide : 4 ≤ 12)
    have hr_Ring := hr.mono (by decide : 11 + 1 ≤ 12)
    refine ⟨_, PSs.nox (pss_cons (ps_if (pt_not (pt_val (pe_call G__has_form hr__has_form rfl g__has_form F__has_form.kp b__has_form .nil pass0 (pa_cons (pv 0) (pa_cons (pe_glob (v := .int 3) rfl g_PAIRS ⟨_, rfl⟩) pa_nil))))) (pss_one (ps_dead)) pss_nil)
      (pss_cons (ps_for PassesOwn.never rfl (pi_list (pe_call G__tables hr__tables rfl g__tables F__tables.kp b__tables .nil pass0 (pa_cons (pv 0) pa_nil))) (pg_tup rfl (pgs_cons (pg_name (i := 1) sc_ring_of.nd rfl (Or.inl rfl)) (pgs_cons (pg_name (i := 2) sc_ring_of.nd rfl (Or.inl rfl)) pgs_nil))) (pss_cons (ps_dead)
      (pss_one (ps_if (pt_cmpR op_notN (pv 3) pe_non (nomark _)) (pss_one (ps_dead)) pss_nil))))
      (pss_one (ps_ret (pe_make M_R G_Ring_init hr_Ring rfl g_Ring b_Ring_init .nil pass0 (pa_cons (pv 0) pa_nil)))))), ?_⟩
    refine q_when (b := false) (et_is (et_not (et_B (ev_call (z := .bl true) (ea_cons (ev_var rfl) (ea_cons ev_c ea_nil)) fun H1 e1 Q' k' E' => ⟨v, k, 3, rfl, hM.ex e1, hok, hd, by omega, fun H2 e2 => k' H2 e2⟩))) rfl) (fun hb => (by cases hb)) (fun hb H1 e1 => ?_)
    refine ⟨_, rfl, v, k, rfl, hM.ex e1, hd, fun D H2 hD e2 hL => ⟨D, rfl, ⟨_, SqL.of hL⟩, ?_⟩⟩
    refine for_it (walk_list (K := K) (a := D) (xs := [])) (fun i σ' G => σ' = [some v, none, none, none] ∧ Ex H2 G) ⟨rfl, Ex.refl H2⟩ (fun i σ' G _ h => ex_l h.2 (SqL.of hL)) (fun i x σ' H' G hi => absurd hi (Nat.not_lt_zero _)) ?_
    rintro σ' G ⟨rfl, eG⟩
    refine ⟨_, rfl, ?_⟩
    intro x dx nx ndx nex
    have e := (e1.trans e2).trans eG
    exact ⟨x, dx, v, k, rfl, upd_same, (hM.ex e).ex (new_ex nx ndx), hd, hok, fun H' o1 hR => ⟨rfl, q (.ref x) H' (e.trans (made_ex nx ndx o1)) hR⟩⟩
end
end D1
end
section
set_option Elab.async false
set_option linter.all false
set_option maxRecDepth 100000
set_option maxHeartbeats 4000000
/-! W0: what is a list or a tuple; webs and paths as they lie -/
namespace L2
open PySem PySem.Spec PyProof.Rows Evl RZ
/-- a list (true) or a tuple (false) -/
def objQ (q : Bool) (xs : List V) : HO := if q then .lst xs else .tup xs
def SqQ (K : PySem.W.Frag) (q : Bool) (H : Hp) (a : Addr) (xs : List V) : Prop := (q = true ∧ SqL K H a xs) ∨ (q = false ∧ SqT K H a xs)
theorem SqQ.of {K : PySem.W.Frag} {q : Bool} {H : Hp} {a : Addr} {xs : List V} (h : H a = some (objQ q xs)) : SqQ K q H a xs := by
  cases q with
  | true => exact .inl ⟨rfl, sq_of h⟩
  | false => exact .inr ⟨rfl, st_of h⟩
theorem ex_q {K : PySem.W.Frag} {q : Bool} {H H' : Hp} {a : Addr} {xs : List V} (e : Ex H H') (h : SqQ K q H a xs) : SqQ K q H' a xs := by
  rcases h with ⟨z, h⟩ | ⟨z, h⟩
  · exact .inl ⟨z, ex_l e h⟩
  · exact .inr ⟨z, ex_t e h⟩
def ItQ (K : PySem.W.Frag) (q : Bool) (a : Addr) : It := if q then Itl K a else Itt K a
def iSeq (K : PySem.W.Frag) (tl : TE) : TI := fun σ H R => tl σ H fun x H1 => ∃ a q xs, x = .ref a ∧ SqQ K q H1 a xs ∧ R (ItQ K q a) H1
section
variable {X : Cx} {tg : Expr}
theorem pi_seq {l : Expr} {tl : TE} (hl : PE X l tl) : PI X tg l (iSeq X.K tl) := by
  refine ⟨fun pins s σ H R I h => ?_⟩
  refine thn (hl.run pins s σ H _ I h) fun v s1 ⟨x, H1, I1, r1, q1⟩ => ?_
  obtain ⟨a, q, xs, e, hq, k⟩ := q1
  subst e
  cases r1
  rcases hq with ⟨rfl, hq⟩ | ⟨rfl, hq⟩
  · obtain ⟨its, rv, p, hz⟩ := I1.list hq
    refine wpAny_pyIter_list p.isList ?_
    refine ⟨s1.heap.objs.size, [s1.heap.objs.size], _, _, H1, rfl, I1.kept (t' := s1.toks) fun b o e => Heap.get?_push_of_some _ e, turn_list a _, ⟨_, Heap.get?_push_size _ rfl, rfl, rfl⟩, fun b hb => ?_, k⟩
    have e : b = s1.heap.objs.size := by simpa using hb
    subst e
    exact I1.fpOk (Nat.le_refl _) (I1.hok.fresh (Nat.le_refl _))
  · obtain ⟨its, rv, p, hz⟩ := I1.tuple hq
    refine wpAny_pyIter_tuple (show s1.heap.IsTuple a its.toArray from p) ?_
    refine ⟨s1.heap.objs.size, [s1.heap.objs.size], _, _, H1, rfl, I1.kept (t' := s1.toks) fun b o e => Heap.get?_push_of_some _ e, turn_tuple a _, ⟨_, Heap.get?_push_size _ rfl, rfl, rfl⟩, fun b hb => ?_, k⟩
    have e : b = s1.heap.objs.size := by simpa using hb
    subst e
    exact I1.fpOk (Nat.le_refl _) (I1.hok.fresh (Nat.le_refl _))
theorem sl_seq : SlR X (fun x lo hi H Q => rSlL X.K x lo hi H Q ∨ rSlA X.K x lo hi H Q) := SlR.or sl_list sl_tupA
theorem ix_seq_walk {K : PySem.W.Frag} {q : Bool} {a : Addr} {xs : List V} : Walk (ItQ K q a) xs.length (fun H => SqQ K q H a xs) (YAt xs) := by
  cases q with
  | true => exact ⟨fun i H hi g => (walk_list (K := K) (a := a) (xs := xs)).goes i H hi (by rcases g with ⟨_, g⟩ | ⟨h, _⟩; exact g; cases h), fun H g => (walk_list (K := K) (a := a) (xs := xs)).stops H (by rcases g with ⟨_, g⟩ | ⟨h, _⟩; exact g; cases h), fun i H x H' hi g y => (walk_list (K := K) (a := a) (xs := xs)).yields i H x H' hi (by rcases g with ⟨_, g⟩ | ⟨h, _⟩; exact g; cases h) y⟩
  | false => exact ⟨fun i H hi g => (walk_tup (K := K) (a := a) (xs := xs)).goes i H hi (by rcases g with ⟨h, _⟩ | ⟨_, g⟩; cases h; exact g), fun H g => (walk_tup (K := K) (a := a) (xs := xs)).stops H (by rcases g with ⟨h, _⟩ | ⟨_, g⟩; cases h; exact g), fun i H x H' hi g y => (walk_tup (K := K) (a := a) (xs := xs)).yields i H x H' hi (by rcases g with ⟨h, _⟩ | ⟨_, g⟩; cases h; exact g) y⟩
end
section
variable {K : PySem.W.Frag} {σ : L2.St} {H : Hp} {te ta tb tl tx : TE}
/-- [e for x in s], s a list or a tuple -/
theorem el_lcQ {a : Addr} {q : Bool} {xs : List V} {j : Nat} {vs : List Nat} (v : Nat → V) (h : Ev tl σ H (.ref a)) (hx : SqQ K q H a xs) (hz : xs.length ≤ 40000) (hw : ∀ x, wipe ((wipe σ vs).set j (some x)) vs = wipe σ vs)
    (he : ∀ (i : Nat) (x : V) H1, Ex H H1 → xs[i]? = some x → Ev te ((wipe σ vs).set j (some x)) H1 (v i)) :
    EvL (tLc (iSeq K tl) (gName j) tYes te vs) σ H (given xs.length (fun _ => true) v) := fun H0 e Q k => h H0 e _ fun H1 e1 => ⟨a, q, xs, rfl, ex_q (e.trans e1) hx, fun Dl hD =>
  lc_it (ix_seq_walk (xs := xs)) (Cw H1 (fun _ => true) v Dl) ⟨hD, Ex.new hD, upd_same⟩ (fun i H' _ p => ex_q ((e.trans e1).trans p.2.1) hx) (fun i x H5 H6 hi p y => by
    obtain ⟨rfl, hx⟩ := y
    exact ⟨hw _, cw_turn (f := fun _ => true) p (by omega) (fun H4 _ Q' q => q H4 (Ex.refl H4)) (fun _ => he i x H1 (e.trans e1) hx)⟩) (fun H' p => k Dl H' (fresh_back e1 p.1) (e1.trans p.2.1) p.2.2)⟩
theorem ev_allQ {a : Addr} {q : Bool} {xs : List V} {j : Nat} {vs : List Nat} (g : Nat → Bool) (h : Ev tl σ H (.ref a)) (hx : SqQ K q H a xs) (hz : xs.length ≤ 40000) (hw : ∀ x, wipe ((wipe σ vs).set j (some x)) vs = wipe σ vs)
    (he : ∀ (i : Nat) (x : V) H1, Ex H H1 → xs[i]? = some x → Ev te ((wipe σ vs).set j (some x)) H1 (.bl (g i))) :
    Ev (tCB (rAll K) (tCons (tLc (iSeq K tl) (gName j) tYes te vs) tNil)) σ H (.bl ((List.range xs.length).all g)) := by
  have h1 := el_lcQ (fun i => V.bl (g i)) h hx hz hw he
  rw [D1.given_map] at h1
  have h2 := D1.ev_all (K := K) h1
  rw [D1.all_range] at h2
  exact h2
theorem ev_lenQ {p : Addr} {q : Bool} {ys : List V} (hx : Ev tx σ H (.ref p)) (h : SqQ K q H p ys) : Ev (tCB (fun xs H Q => ∃ p ys, xs = [V.ref p] ∧ (SqL K H p ys ∨ SqT K H p ys) ∧ Q (.int ys.length) H) (tCons tx tNil)) σ H (.int ys.length) := fun H1 e Q k =>
  hx H1 e _ fun H2 e2 => ⟨p, ys, rfl, by
    rcases ex_q (e.trans e2) h with ⟨_, h⟩ | ⟨_, h⟩
    · exact .inl h
    · exact .inr h, k H2 e2⟩
end
end L2
namespace D1
open PySem L2 Evl RZ ClX PySem.VX
section
variable {K : PySem.W.Frag} {σ : L2.St} {H : Hp} {te ta tb tl tx : TE}
/-- isinstance(x, (list, tuple)) -/
theorem ev_tLT {v : V} {a b c d e : Bool} (h : Ev te σ H v) (t : Tells K H v a b c d e) : Ev (tCB (rIsiT K) (tCons te (tCons (tTup (tCons (tC (.ty "list")) (tCons (tC (.ty "tuple")) tNil))) tNil))) σ H (.bl (e || d)) := fun H1 e1 Q q => by
  obtain ⟨t, h1, h2, h3, h4, h5, h6⟩ := t
  refine h H1 e1 _ fun H2 e2 => ⟨by show 2 ≤ sizeLine; decide, fun l hl => ?_⟩
  refine ⟨v, l, _, t, [.type "list", .type "tuple"], e || d, rfl, upd_same, .cons (.ty "list") (.cons (.ty "tuple") .nil), h1 _ ((e1.trans e2).trans (Ex.new hl)), ?_, q _ (e2.trans (Ex.new hl))⟩
  cases e with
  | true => exact kitAny_cons h6 (fun h => by cases h) (fun _ => rfl)
  | false => exact kitAny_cons h6 (fun _ => by
      cases d with
      | true => exact kitAny_cons h5 (fun h => by cases h) (fun _ => rfl)
      | false => exact kitAny_cons h5 (fun _ => kitAny_nil) (fun h => by cases h)) (fun h => by cases h)
theorem tl_q {a : Addr} {q : Bool} {xs : List V} (h : H a = some (objQ q xs)) : Tells K H (.ref a) false false false (!q) q := by
  cases q with
  | true => exact tl_lst h
  | false => exact tl_tup h
end
/-! ### webs and paths -/
abbrev Step := Nat × Nat × PyData
def stepD (s : Step) : PyData := .tuple [.int (s.1 : Nat), .int (s.2.1 : Nat), s.2.2]
def webD (n : Nat) (ss : List Step) : PyData := .tuple [.int (n : Nat), .tuple (ss.map stepD)]
structure WebOk (k : RK) (n : Nat) (ss : List Step) : Prop where
  n1 : 1 ≤ n
  n12 : n ≤ 12
  len : ss.length ≤ 80
  at_ : ∀ s ∈ ss, s.1 < n ∧ s.2.1 < n ∧ goodB k s.2.2 = true
abbrev Line := Option (List (Option Int))
def NumAll (K : PySem.W.Frag) (H : Hp) : List V → List (Option Int) → Prop
  | [], [] => True
  | v :: vs, o :: os => Num K H v o ∧ NumAll K H vs os
  | _, _ => False
theorem NumAll.up {K : PySem.W.Frag} {H H' : Hp} (e : Ex H H') : ∀ {vs : List V} {os : List (Option Int)}, NumAll K H vs os → NumAll K H' vs os
  | [], [], h => h
  | _ :: _, _ :: _, ⟨h, r⟩ => ⟨h.up e, NumAll.up e r⟩
  | [], _ :: _, h => h.elim
  | _ :: _, [], h => h.elim
theorem NumAll.len {K : PySem.W.Frag} {H : Hp} : ∀ {vs : List V} {os : List (Option Int)}, NumAll K H vs os → vs.length = os.length
  | [], [], h => rfl
  | _ :: _, _ :: _, ⟨h, r⟩ => congrArg (· + 1) (NumAll.len r)
  | [], _ :: _, h => h.elim
  | _ :: _, [], h => h.elim
theorem NumAll.get {K : PySem.W.Frag} {H : Hp} : ∀ {vs : List V} {os : List (Option Int)}, NumAll K H vs os → ∀ {i : Nat} {v : V}, vs[i]? = some v → ∃ o, os[i]? = some o ∧ Num K H v o
  | [], [], h, i, v, hv => by simp at hv
  | _ :: _, o :: _, ⟨h, r⟩, 0, v, hv => by
    simp at hv
    subst hv
    exact ⟨o, rfl, h⟩
  | _ :: _, _ :: _, ⟨h, r⟩, i + 1, v, hv => NumAll.get r (i := i) (by simpa using hv)
  | [], _ :: _, h, _, _, _ => h.elim
  | _ :: _, [], h, _, _, _ => h.elim
/-- a path as it lies: a list or a tuple of numbers and other things; or no such thing -/
def PathAt (K : PySem.W.Frag) (H : Hp) (v : V) : Line → Prop
  | some os => ∃ (a : Addr) (q : Bool) (xs : List V), v = .ref a ∧ H a = some (objQ q xs) ∧ NumAll K H xs os ∧ os.length ≤ 1000
  | none => ∃ a b c, Tells K H v a b c false false
theorem PathAt.up {K : PySem.W.Frag} {H H' : Hp} {v : V} (e : Ex H H') : ∀ {l : Line}, PathAt K H v l → PathAt K H' v l
  | some os, ⟨a, q, xs, h1, h2, h3, h4⟩ => ⟨a, q, xs, h1, e _ _ h2, h3.up e, h4⟩
  | none, ⟨a, b, c, t⟩ => ⟨a, b, c, t.up e⟩
def numB (m : Nat) (o : Option Int) : Bool := whO 0 ((m : Int) - 1) o
def stepN (ss : List Step) (o : Option Int) : Step := ss.getD (o.getD 0).toNat (0, 0, .none)
def linkB (ss : List Step) (os : List (Option Int)) : Bool := (List.range (os.length - 1)).all fun i => ((stepN ss (os.getD i none)).2.1 : Int) == (stepN ss (os.getD (i + 1) none)).1
def isPathB (ss : List Step) : Line → Bool
  | some os => os.all (numB ss.length) && linkB ss os
  | none => false
def lineLen : Line → Nat
  | some os => os.length
  | none => 0
def wtD (k : RK) (ss : List Step) (os : List (Option Int)) : PyData := os.foldl (fun d o => times k d (stepN ss o).2.2) (oneD k)
theorem numB_step {ss : List Step} {o : Option Int} (h : numB ss.length o = true) : ∃ i : Nat, o = some (i : Int) ∧ i < ss.length ∧ ss[i]? = some (stepN ss o) := by
  cases o with
  | none => cases h
  | some j =>
    have h : within 0 ((ss.length : Int) - 1) j = true := h
    unfold within at h
    rw [Bool.and_eq_true, decide_eq_true_eq, decide_eq_true_eq] at h
    obtain ⟨h1, h2⟩ := h
    have hj : j.toNat < ss.length := by omega
    refine ⟨j.toNat, by rw [Int.toNat_of_nonneg h1], hj, ?_⟩
    unfold stepN
    rw [Option.getD_some, List.getD_eq_getElem?_getD, List.getElem?_eq_getElem hj, Option.getD_some]
theorem WebOk.step {k : RK} {n : Nat} {ss : List Step} (h : WebOk k n ss) {i : Nat} {s : Step} (hs : ss[i]? = some s) : s.1 < n ∧ s.2.1 < n ∧ goodB k s.2.2 = true := h.at_ s (List.mem_of_getElem? hs)
/-- the parts of a web as they lie -/
theorem web_at {H : Hp} {v : V} {n : Nat} {ss : List Step} (h : DtAt H v (webD n ss)) : ∃ a p us, v = .ref a ∧ H a = some (.tup [.int (n : Nat), .ref p]) ∧ H p = some (.tup us) ∧ DtAll H us (ss.map stepD) ∧ us.length = ss.length := by
  obtain ⟨a, u, w, rfl, ha, h1, h2⟩ := h.two
  obtain rfl := h1.int_inv
  cases h2 with
  | tup h r => exact ⟨a, _, _, rfl, ha, h, r, by rw [DtAll.len r, List.length_map]⟩
theorem step_at {H : Hp} {us : List V} {ss : List Step} (h : DtAll H us (ss.map stepD)) {i : Nat} {s : Step} (hs : ss[i]? = some s) : ∃ a w, us[i]? = some (.ref a) ∧ H a = some (.tup [.int (s.1 : Nat), .int (s.2.1 : Nat), w]) ∧ DtAt H w s.2.2 := by
  obtain ⟨v, hv, hd⟩ := h.get' (i := i) (d := stepD s) (by rw [List.getElem?_map, hs]; rfl)
  obtain ⟨a, u, w, t, rfl, ha, h1, h2, h3⟩ := hd.three
  obtain rfl := h1.int_inv
  obtain rfl := h2.int_inv
  exact ⟨a, t, hv, ha, h3⟩
end D1
end
section
set_option Elab.async false
set_option linter.all false
set_option maxRecDepth 100000
set_option maxHeartbeats 4000000
/-! W1: each and its next of a list or a tuple -/
namespace D1
open PySem L2 Evl RZ ClX PySem.VX
abbrev rLenQ (K : PySem.W.Frag) : List V → Hp → VK → Prop := fun xs H Q => ∃ p ys, xs = [V.ref p] ∧ (SqL K H p ys ∨ SqT K H p ys) ∧ Q (.int ys.length) H
theorem cut1 (xs : List V) : cutV xs (some 1) none = xs.drop 1 := by
  unfold cutV
  rw [show HT.sIx xs.length 0 (some 1) = min 1 xs.length from HT.sIx_nat _ _ 1, HT.sIx_none]
  rcases xs with _ | ⟨x, xs⟩
  · rfl
  · have h : min 1 (x :: xs).length = 1 := by rw [List.length_cons]; omega
    rw [h]
    exact List.take_of_length_le (by rw [List.length_drop]; exact Nat.le_refl _)
theorem walk_zipQ {K : PySem.W.Frag} {a b : Addr} {xs ys : List V} {n : Nat} (hn : n = min xs.length ys.length) : Walk (ItzT K a b) n (fun H => SqT K H a xs ∧ SqT K H b ys) (YPair (fun i => xs[i]?) (fun i => ys[i]?)) := by
  subst hn
  refine ⟨fun i _ hi q => ?_, fun _ q => ⟨xs, ys, q.1, q.2, by omega⟩, fun i H v H' _ q y => ?_⟩
  · have h1 : i < xs.length := by omega
    have h2 : i < ys.length := by omega
    exact ⟨xs, ys, xs[i], ys[i], q.1, q.2, by simp [h1], by simp [h2]⟩
  · obtain ⟨T, x, z, h1, h2, h3, h4, h5⟩ := y
    exact ⟨T, x, z, h1, h2, h3, h4 xs q.1, h5 ys q.2⟩
section
variable {K : PySem.W.Frag} {σ : L2.St} {H : Hp} {te ta tb tl tx : TE}
def sl1 (K : PySem.W.Frag) (tl : TE) : TE := tSl (fun x lo hi H Q => rSlL K x lo hi H Q ∨ rSlA K x lo hi H Q) tl (tPart (tC (.int 1))) tNoPart
/-- s[1:] -/
theorem sl1_ok {a : Addr} {q : Bool} {xs : List V} (h : Ev tl σ H (.ref a)) (hx : H a = some (objQ q xs)) {H1 : Hp} (e : Ex H H1) {Q : VK} (k : ∀ b H2, Ex H1 H2 → H2 b = some (objQ q (xs.drop 1)) → Q (.ref b) H2) : sl1 K tl σ H1 Q := by
  refine h H1 e _ fun H2 e2 => ?_
  have hx2 := (e.trans e2) _ _ hx
  refine ⟨1, rfl, ?_⟩
  cases q with
  | true =>
    refine .inl ⟨a, xs, rfl, sq_of hx2, fun p hp => k p _ (e2.trans (Ex.new hp)) ?_⟩
    rw [upd_same, cut1]
    rfl
  | false =>
    refine .inr ⟨a, xs, rfl, st_of hx2, fun hw => ?_, fun hw p hp => k p _ (e2.trans (Ex.new hp)) ?_⟩
    · have h0 : xs.length = 0 := by
        have h1 : min 1 xs.length = 0 := by rw [← show HT.sIx xs.length 0 (some 1) = min 1 xs.length from HT.sIx_nat _ _ 1]; exact hw.1
        omega
      refine k a _ e2 ?_
      rw [hx2]
      cases xs with
      | nil => rfl
      | cons _ _ => cases h0
    · rw [upd_same, cut1]
      rfl
/-- all([e for x, y in zip(s, s[1:])]) -/
theorem ev_allZ {a : Addr} {q : Bool} {xs : List V} {j k : Nat} {vs : List Nat} (g : Nat → Bool) (h : Ev tl σ H (.ref a)) (hx : H a = some (objQ q xs)) (hz : xs.length ≤ 40000)
    (hw : ∀ x y, wipe (((wipe σ vs).set j (some x)).set k (some y)) vs = wipe σ vs)
    (he : ∀ (i : Nat) (x y : V) H1, Ex H H1 → xs[i]? = some x → xs[i + 1]? = some y → Ev te (((wipe σ vs).set j (some x)).set k (some y)) H1 (.bl (g i))) :
    Ev (tCB (rAll K) (tCons (tLc (iZipA K (tCons tl (tCons (sl1 K tl) tNil))) (gTup K 2 (gCons (gName j) (gCons (gName k) gNil))) tYes te vs) tNil)) σ H (.bl ((List.range (xs.length - 1)).all g)) := by
  have main : EvL (tLc (iZipA K (tCons tl (tCons (sl1 K tl) tNil))) (gTup K 2 (gCons (gName j) (gCons (gName k) gNil))) tYes te vs) σ H (given (xs.length - 1) (fun _ => true) fun i => .bl (g i)) := fun H0 e Q k' => by
    refine h H0 e _ fun H1 e1 => sl1_ok h hx (e.trans e1) fun b H2 e2 hb => ?_
    have e12 := e1.trans e2
    have ha := (e.trans e12) _ _ hx
    have hn : xs.length - 1 = min xs.length (xs.drop 1).length := by rw [List.length_drop]; omega
    refine ⟨a, b, xs, xs.drop 1, rfl, ?_⟩
    have turn : ∀ (Dl : Addr) (i : Nat) (x : V) (H5 H6 : Hp), i < xs.length - 1 → Cw H2 (fun _ => true) (fun i => V.bl (g i)) Dl i H5 → YPair (fun i => xs[i]?) (fun i => (xs.drop 1)[i]?) i H5 x H6 → gTup K 2 (gCons (gName j) (gCons (gName k) gNil)) x (wipe σ vs) H6 fun σ2 H2' => wipe σ2 vs = wipe σ vs ∧ tYes σ2 H2' fun b' H3 =>
        if b' = true then te σ2 H3 fun y H4 => ∃ acc, H4 Dl = some (.lst acc) ∧ acc.length < sizeLine ∧ Cw H2 (fun _ => true) (fun i => V.bl (g i)) Dl (i + 1) (upd H4 Dl (.lst (acc ++ [y]))) else Cw H2 (fun _ => true) (fun i => V.bl (g i)) Dl (i + 1) H3 := fun Dl i x H5 H6 hi p y => by
      obtain ⟨Tp, c, d, rfl, hT, rfl, hc, hd⟩ := y
      have hd : xs[i + 1]? = some d := by
        have hd : (xs.drop 1)[i]? = some d := hd
        rw [List.getElem?_drop, Nat.add_comm] at hd
        exact hd
      have p2 : Cw H2 (fun _ => true) (fun i => V.bl (g i)) Dl i (upd H5 Tp (.tup [c, d])) := ⟨p.1, p.2.1.trans (Ex.new hT), by rw [upd_ne (ne_of_none p.2.2 hT)]; exact p.2.2⟩
      exact ⟨Tp, _, rfl, .inl (.inl upd_same), rfl, _, _, rfl, _, _, rfl, rfl, hw _ _, cw_turn (f := fun _ => true) p2 (by omega) (fun H4 _ Q' q => q H4 (Ex.refl H4)) (fun _ => he i c d H2 (e.trans e12) hc hd)⟩
    cases q with
    | true =>
      refine .inl ⟨sq_of ha, sq_of hb, fun Dl hD => ?_⟩
      exact lc_it (walk_zip (K := K) (a := a) (b := b) (xs := xs) (ys := xs.drop 1) hn) (Cw H2 (fun _ => true) (fun i => V.bl (g i)) Dl) ⟨hD, Ex.new hD, upd_same⟩ (fun i H' _ p => ⟨sq_of (p.2.1 _ _ ha), sq_of (p.2.1 _ _ hb)⟩) (fun i x H5 H6 hi p y => turn Dl i x H5 H6 hi p y) (fun H' p => k' Dl H' (fresh_back e12 p.1) (e12.trans p.2.1) p.2.2)
    | false =>
      refine .inr ⟨st_of ha, st_of hb, fun Dl hD => ?_⟩
      exact lc_it (walk_zipQ (K := K) (a := a) (b := b) (xs := xs) (ys := xs.drop 1) hn) (Cw H2 (fun _ => true) (fun i => V.bl (g i)) Dl) ⟨hD, Ex.new hD, upd_same⟩ (fun i H' _ p => ⟨st_of (p.2.1 _ _ ha), st_of (p.2.1 _ _ hb)⟩) (fun i x H5 H6 hi p y => turn Dl i x H5 H6 hi p y) (fun H' p => k' Dl H' (fresh_back e12 p.1) (e12.trans p.2.1) p.2.2)
  rw [given_map] at main
  have h2 := ev_all (K := K) main
  rw [all_range] at h2
  exact h2
end
end D1
end
section
set_option Elab.async false
set_option linter.all false
set_option maxRecDepth 100000
set_option maxHeartbeats 4000000
/-! R7: Rings' methods; webs and their paths -/
namespace D1
open PySem L2 Evl RZ ClX PySem.VX
/-- what the written part says of Ring -/
structure RingF (K : PySem.W.Frag) (CR : Addr) : Prop where
  ok : OkC K CR
  hcl : PySem.W.findIn K (.ref CR) "__class__" = some (some (.builtin "object.__class__"))
  hgn : PySem.W.specialIn K (.builtin "object.__class__") "__get__" = some (some (.builtin "getset_descriptor.__get__"))
  htk : PySem.W.takesIn K (.builtin "object.__class__") = some true
  hmo : PySem.W.mroIn K CR (.type "object") = some true
  rr : PySem.W.kitOne K (.ref CR) (.ref CR) = some true
theorem RingAt.ty {K : PySem.W.Frag} {C : KC} {CR : Addr} {H : Hp} {v : V} {k : RK} (T : RingF K CR) (h : RingAt C CR H v k) : ∀ H1, Ex H H1 → TyX K H1 v (.ref CR) := fun H1 e => by
  obtain ⟨r, dr, fr, m, x, rfl, h2, _⟩ := h
  exact .base (.ins (e _ _ h2) T.ok.cls T.hcl T.hgn T.htk T.hmo)
theorem RingAt.no {C : KC} {CR : Addr} {H : Hp} {v : V} {k : RK} (h : RingAt C CR H v k) {m : Str} (hm : m ∉ fields) : ∃ r dr fr, v = .ref r ∧ H r = some (.ins CR dr fr) ∧ fr.lookup m = none := by
  obtain ⟨r, dr, fr, _, x, rfl, h2, h3, h4, h5, h6, h7⟩ := h
  exact ⟨r, dr, fr, rfl, h2, h7 m hm⟩
def spRKind (C : KC) (CR : Addr) : Sp := fun vs H Q _ => ∃ (s : V) (k : RK), vs = [s] ∧ RingAt C CR H s k ∧ ∀ x H', Ex H H' → KindAt C H' k x → Q x H'
def spRClosed (C : KC) (CR : Addr) : Sp := fun vs H Q _ => ∃ (s : V) (k : RK), vs = [s] ∧ RingAt C CR H s k ∧ k.depth < 4 ∧ ∀ H', Ex H H' → Q (.bl true) H'
def spRGood (C : KC) (CR : Addr) : Sp := fun vs H Q _ => ∃ (s : V) (k : RK) (x : V) (dx : PyData), vs = [s, x] ∧ RingAt C CR H s k ∧ k.depth < 4 ∧ DtAt H x dx ∧ ∀ H', Ex H H' → Q (.bl (goodB k dx)) H'
def spNeedRing (C : KC) (CR : Addr) : Sp := fun vs H Q _ => ∃ (s : V) (k : RK), vs = [s] ∧ RingAt C CR H s k ∧ ∀ H', Ex H H' → Q .non H'
def spIsStep (C : KC) (CR : Addr) : Sp := fun vs H Q _ => ∃ (r : V) (k : RK) (n : Nat) (v : V) (s : Step), vs = [r, .int (n : Nat), v] ∧ RingAt C CR H r k ∧ k.depth < 4 ∧ DtAt H v (stepD s) ∧ s.1 < n ∧ s.2.1 < n ∧ goodB k s.2.2 = true ∧ ∀ H', Ex H H' → Q (.bl true) H'
def spIsWeb (C : KC) (CR : Addr) : Sp := fun vs H Q _ => ∃ (r : V) (k : RK) (n : Nat) (v : V) (ss : List Step), vs = [r, v] ∧ RingAt C CR H r k ∧ k.depth < 4 ∧ DtAt H v (webD n ss) ∧ WebOk k n ss ∧ ∀ H', Ex H H' → Q (.bl true) H'
def spNeedWeb (C : KC) (CR : Addr) : Sp := fun vs H Q _ => ∃ (r : V) (k : RK) (n : Nat) (v : V) (ss : List Step), vs = [r, v] ∧ RingAt C CR H r k ∧ k.depth < 4 ∧ DtAt H v (webD n ss) ∧ WebOk k n ss ∧ ∀ H', Ex H H' → Q .non H'
def spIsPath (K : PySem.W.Frag) : Sp := fun vs H Q _ => ∃ (a : Addr) (us : List V) (ss : List Step) (v : V) (l : Line), vs = [.ref a, v] ∧ H a = some (.tup us) ∧ DtAll H us (ss.map stepD) ∧ PathAt K H v l ∧ ∀ H', Ex H H' → Q (.bl (isPathB ss l)) H'
section
variable {P : Program} {w : World} {K : PySem.W.Frag} {mg : Str → Option Value} {base : Heap}
abbrev s_Ring_kind : Stmt := meth 48 1
theorem sc_Ring_kind : FnScope ["self"] ["self"] (defScope s_Ring_kind) := ⟨rfl, rfl, rfl, by decide +kernel, rfl, by decide +kernel, by decide +kernel⟩
theorem ok_Ring_kind {f : Addr} {fd : FuncData} (F : FnM K "Ring" "kind" s_Ring_kind f fd) {C : KC} {CR : Addr} (T : RingF K CR) : FnOk P w K mg base (CX0) 1 f fd ["self"] (spRKind C CR) := by
  refine F.ok (CX := CX0) sc_Ring_kind (fun vs H Q E h => ?_) (fun cdv A outer s H vs Q E hr h => ?_)
  · obtain ⟨s, k, rfl, _⟩ := h
    rfl
  · obtain ⟨s, k, rfl, hR, q⟩ := h
    have hu := hu_of hr
    have hu64 := hr.units
    refine ⟨_, PSs.nox (pss_one (ps_ret (pe_fld (pv 0) rfl))), ?_⟩
    obtain ⟨r, dr, fr, m, x, rfl, h2, h3, h4, h5, h6, h7⟩ := hR
    exact s_ret (ev_fldK (ev_var rfl) h2 T.ok (by decide) h5) fun H1 e1 => q x H1 e1 (h6.ex e1)
abbrev s_Ring_is_closed : Stmt := meth 48 5
theorem sc_Ring_is_closed : FnScope ["self"] ["self"] (defScope s_Ring_is_closed) := ⟨rfl, rfl, rfl, by decide +kernel, rfl, by decide +kernel, by decide +kernel⟩
theorem ok_Ring_is_closed {f : Addr} {fd : FuncData} (F : FnM K "Ring" "is_closed" s_Ring_is_closed f fd) {C : KC} {CR : Addr} (T : RingF K CR) (HA : ∀ e sp, SK C (spClosed C 4) e = some sp → HeldM P w K mg base (5) "closed" e sp) : FnOk P w K mg base (CX0) 6 f fd ["self"] (spRClosed C CR) := by
  refine F.ok (CX := CX0) sc_Ring_is_closed (fun vs H Q E h => ?_) (fun cdv A outer s H vs Q E hr h => ?_)
  · obtain ⟨s, k, rfl, _⟩ := h
    rfl
  · obtain ⟨s, k, rfl, hR, hd, q⟩ := h
    have hu := hu_of hr
    have hu64 := hr.units
    have hr_in := hr.mono (Nat.le_refl _)
    refine ⟨_, PSs.nox (pss_one (ps_ret (pe_methA0 (S := SK C (spClosed C 4)) HA (pe_fld (pv 0) rfl) hr_in))), ?_⟩
    obtain ⟨r, dr, fr, m, x, rfl, h2, h3, h4, h5, h6, h7⟩ := hR
    obtain ⟨la, ld, lf, rfl, hla, lcom⟩ := id h6.com
    exact ⟨_, rfl, r, _, dr, fr, _, rfl, h2, T.ok.cls, T.ok.no _ (by decide), h5, la, _, ld, lf, _, rfl, SK.at k, hla, lcom.no _ (by decide), .ref la, k, rfl, h6, rfl, hd, fun H2 e2 => q H2 e2⟩
abbrev s_Ring_good : Stmt := meth 48 7
theorem sc_Ring_good : FnScope ["self", "thing"] ["self", "thing"] (defScope s_Ring_good) := ⟨rfl, rfl, rfl, by decide +kernel, rfl, by decide +kernel, by decide +kernel⟩
theorem ok_Ring_good {f : Addr} {fd : FuncData} (F : FnM K "Ring" "good" s_Ring_good f fd) {C : KC} {CR : Addr} (T : RingF K CR) (HA : ∀ e sp, SK C (spGood C 4) e = some sp → HeldM P w K mg base (6) "good" e sp) : FnOk P w K mg base (CX0) 7 f fd ["self", "thing"] (spRGood C CR) := by
  refine F.ok (CX := CX0) sc_Ring_good (fun vs H Q E h => ?_) (fun cdv A outer s H vs Q E hr h => ?_)
  · obtain ⟨s, k, x, dx, rfl, _⟩ := h
    rfl
  · obtain ⟨s, k, x, dx, rfl, hR, hd, hx, q⟩ := h
    have hu := hu_of hr
    have hu64 := hr.units
    have hr_in := hr.mono (Nat.le_refl _)
    refine ⟨_, PSs.nox (pss_one (ps_ret (pe_methA (S := SK C (spGood C 4)) HA (pe_fld (pv 0) rfl) hr_in (pa_cons (pv 1) pa_nil)))), ?_⟩
    obtain ⟨r, dr, fr, m, x', rfl, h2, h3, h4, h5, h6, h7⟩ := hR
    obtain ⟨la, ld, lf, rfl, hla, lcom⟩ := id h6.com
    exact ⟨_, rfl, r, _, dr, fr, _, rfl, h2, T.ok.cls, T.ok.no _ (by decide), h5, la, _, ld, lf, _, rfl, SK.at k, hla, lcom.no _ (by decide), _, rfl, .ref la, k, x, dx, rfl, h6, rfl, hd, hx, fun H2 e2 => q H2 e2⟩
abbrev s_need_ring : Stmt := top 50
theorem sc_need_ring : FnScope ["thing"] ["thing"] (defScope s_need_ring) := ⟨rfl, rfl, rfl, by decide +kernel, rfl, by decide +kernel, by decide +kernel⟩
theorem ok_need_ring {f : Addr} {fd : FuncData} (F : FnP K "need_ring" s_need_ring f fd) {C : KC} {CR : Addr} (T : RingF K CR) (g_Ring : mg "Ring" = some (.ref CR)) (z_isinstance : mg "isinstance" = none) : FnOk P w K mg base (CX0) 1 f fd ["thing"] (spNeedRing C CR) := by
  refine F.ok (CX := CX0) sc_need_ring (fun vs H Q E h => ?_) (fun cdv A outer s H vs Q E hr h => ?_)
  · obtain ⟨s, k, rfl, _⟩ := h
    rfl
  · obtain ⟨s, k, rfl, hR, q⟩ := h
    have hu := hu_of hr
    have hu64 := hr.units
    refine ⟨_, PSs.nox (pss_one (ps_if (pt_not (pt_val (pe_callB call_isi (by rfl) z_isinstance PyProof.Rows.boot_isinstance (pa_cons (pv 0) (pa_cons (pe_glob (v := .ref CR) rfl g_Ring rfl) pa_nil))))) (pss_one (ps_dead)) pss_nil)), ?_⟩
    exact s_when (b := false) (et_is (et_not (et_B (ev_isiC (ev_var rfl) (hR.ty T) T.rr (.own CR)))) rfl) (fun hb => (by cases hb)) (fun _ H1 e1 => q H1 e1)
abbrev s__is_step : Stmt := top 56
theorem sc__is_step : FnScope ["ring", "states", "step", "i", "j", "weight"] ["ring", "states", "step"] (defScope s__is_step) := ⟨rfl, rfl, rfl, by decide +kernel, rfl, by decide +kernel, by decide +kernel⟩
theorem ok__is_step {f : Addr} {fd : FuncData} (F : FnP K "_is_step" s__is_step f fd) {C : KC} {CR : Addr} (T : RingF K CR) {f_is_whole : Addr} {fd_is_whole : FuncData} (F_is_whole : FnP K "is_whole" s_is_whole f_is_whole fd_is_whole) (g_is_whole : mg "is_whole" = some (.ref f_is_whole)) (G_is_whole : FnOk P w K mg base (CX0) 2 f_is_whole fd_is_whole ["thing", "least", "most"] (spWhole K)) {f_good : Addr} {fd_good : FuncData} (m_good : Meth K CR "good" f_good) (b_good : Binds K fd_good ["self", "thing"] []) (G_good : FnOk P w K mg base CX0 7 f_good fd_good ["self", "thing"] (spRGood C CR)) (z_isinstance : mg "isinstance" = none) (z_tuple : mg "tuple" = none) (z_len : mg "len" = none) : FnOk P w K mg base (CX0) 8 f fd ["ring", "states", "step"] (spIsStep C CR) := by
  have b_is_whole : Binds K fd_is_whole ["thing", "least", "most"] [] := F_is_whole.bindsN fun _ _ _ _ _ _ us hl => match us, hl with | [_, _, _], _ => rfl
  refine F.ok (CX := CX0) sc__is_step (fun vs H Q E h => ?_) (fun cdv A outer s H vs Q E hr h => ?_)
  · obtain ⟨r, k, n, v, s, rfl, _⟩ := h
    rfl
  · obtain ⟨r, k, n, v, s, rfl, hR, hd, hv, hi, hj, hg, q⟩ := h
    have hu := hu_of hr
    have hu64 := hr.units
    have hr_is_whole := hr.mono (by decide : 2 ≤ 7)
    have hr_good := hr.mono (Nat.le_refl _)
    refine ⟨_, PSs.nox (pss_cons (ps_if (PW.pt (pw_or (pt_not (pt_val (pe_callB call_isi (by rfl) z_isinstance PyProof.Rows.boot_isinstance (pa_cons (pv 2) (pa_cons (pe_bltn (v := .ty "tuple") rfl z_tuple (by decide +kernel) rfl) pa_nil))))) (pw_or1 (pt_cmpR op_ne (pe_callB call_len_seq (by rfl) z_len PySem.boot_len (pa_cons (pv 2) pa_nil)) pe_int (nomark _))))) (pss_one (ps_ret pe_bl)) pss_nil)
      (pss_cons (ps_asg (pv 2) (pg_tup rfl (pgs_cons (pg_name (i := 3) sc__is_step.nd rfl (Or.inl rfl)) (pgs_cons (pg_name (i := 4) sc__is_step.nd rfl (Or.inl rfl)) (pgs_cons (pg_name (i := 5) sc__is_step.nd rfl (Or.inl rfl)) pgs_nil)))))
      (pss_one (ps_ret (pe_and (pe_call G_is_whole hr_is_whole rfl g_is_whole F_is_whole.kp b_is_whole .nil pass0 (pa_cons (pv 3) (pa_cons pe_int (pa_cons (pe_op op_sub (pv 1) pe_int) pa_nil)))) (pe_and (pe_call G_is_whole hr_is_whole rfl g_is_whole F_is_whole.kp b_is_whole .nil pass0 (pa_cons (pv 4) (pa_cons pe_int (pa_cons (pe_op op_sub (pv 1) pe_int) pa_nil)))) (pe_one (pe_meth (C := CR) (pv 0) T.ok.cls m_good G_good hr_good b_good .nil pass0 (pa_cons (pv 5) pa_nil))))))))), ?_⟩
    obtain ⟨a, u, w1, w2, rfl, ha, h1, h2, h3⟩ := id hv.three
    obtain rfl := h1.int_inv
    obtain rfl := h2.int_inv
    have hS : SqT K H a [.int (s.1 : Nat), .int (s.2.1 : Nat), w2] := .inl (.inl ha)
    refine q_when (b := false) (et_is (et_or (et_not (et_B (ev_tTup (ev_var rfl) (tl_tup ha)))) (fun _ => et_is (et_test (ev_neI (ev_lenT (ev_var rfl) hS) ev_c)) (by rfl : (!((([V.int (s.1 : Nat), .int (s.2.1 : Nat), w2].length : Nat) : Int) == 3)) = false))) rfl) (fun hb => (by cases hb)) (fun _ H1 e1 => ?_)
    refine ⟨_, rfl, a, _, rfl, ex_t e1 hS, rfl, _, _, rfl, _, _, rfl, _, _, rfl, rfl, ?_⟩
    have wh : ∀ i : Nat, i < n → whO 0 ((n : Int) - 1) (some (i : Int)) = true := fun i hi => by
      show (decide ((0 : Int) ≤ (i : Int)) && decide ((i : Int) ≤ (n : Int) - 1)) = true
      rw [decide_eq_true (by omega : (0 : Int) ≤ (i : Int)), decide_eq_true (by omega : (i : Int) ≤ (n : Int) - 1)]
      rfl
    refine s_ret (v := .bl true) (ev_is (ev_andV (a := true) (b := true) (ev_call (ea_cons (ev_var rfl) (ea_cons ev_c (ea_cons (ev_op (ev_var rfl) ev_c rv_I0) ea_nil))) fun H2 e2 Q' k' E' => ⟨_, some (s.1 : Int), _, _, rfl, (DtAt.int (s.1 : Int)).num, fun H3 e3 => (by rw [wh _ hi]; exact k' H3 e3)⟩) fun _ => ev_andV (a := true) (b := true) (ev_call (ea_cons (ev_var rfl) (ea_cons ev_c (ea_cons (ev_op (ev_var rfl) ev_c rv_I0) ea_nil))) fun H2 e2 Q' k' E' => ⟨_, some (s.2.1 : Int), _, _, rfl, (DtAt.int (s.2.1 : Int)).num, fun H3 e3 => (by rw [wh _ hj]; exact k' H3 e3)⟩) (fun _ H2 e2 Q' k' => ?_)) rfl) fun H2 e2 => q H2 (e1.trans e2)
    have e12 := e1.trans e2
    obtain ⟨r', dr, fr, rfl, hr2, hn⟩ := (hR.ex e12).no (m := ("good" : Str)) (by decide)
    exact ⟨_, rfl, r', dr, fr, rfl, hr2, hn, _, rfl, .ref r', k, _, _, rfl, hR.ex e12, hd, h3.ex e12, fun H3 e3 => (by rw [hg]; exact k' H3 e3)⟩
abbrev s__is_web : Stmt := top 55
theorem sc__is_web : FnScope ["ring", "web", "states", "steps", "step"] ["ring", "web"] (defScope s__is_web) := ⟨rfl, rfl, rfl, by decide +kernel, rfl, by decide +kernel, by decide +kernel⟩
theorem ok__is_web {f : Addr} {fd : FuncData} (F : FnP K "_is_web" s__is_web f fd) {C : KC} {CR : Addr} (T : RingF K CR) {f_is_whole : Addr} {fd_is_whole : FuncData} (F_is_whole : FnP K "is_whole" s_is_whole f_is_whole fd_is_whole) (g_is_whole : mg "is_whole" = some (.ref f_is_whole)) (G_is_whole : FnOk P w K mg base (CX0) 2 f_is_whole fd_is_whole ["thing", "least", "most"] (spWhole K)) {f__is_step : Addr} {fd__is_step : FuncData} (F__is_step : FnP K "_is_step" s__is_step f__is_step fd__is_step) (g__is_step : mg "_is_step" = some (.ref f__is_step)) (G__is_step : FnOk P w K mg base (CX0) 8 f__is_step fd__is_step ["ring", "states", "step"] (spIsStep C CR)) {t1 t2 : Tok} (g_STATES : mg "_STATES" = some (.int 12 t1)) (g_STEPS : mg "_STEPS" = some (.int 80 t2)) (z_isinstance : mg "isinstance" = none) (z_tuple : mg "tuple" = none) (z_len : mg "len" = none) (z_all : mg "all" = none) : FnOk P w K mg base (CX0) 9 f fd ["ring", "web"] (spIsWeb C CR) := by
  have b_is_whole : Binds K fd_is_whole ["thing", "least", "most"] [] := F_is_whole.bindsN fun _ _ _ _ _ _ us hl => match us, hl with | [_, _, _], _ => rfl
  have b__is_step : Binds K fd__is_step ["ring", "states", "step"] [] := F__is_step.bindsN fun _ _ _ _ _ _ us hl => match us, hl with | [_, _, _], _ => rfl
  refine F.ok (CX := CX0) sc__is_web (fun vs H Q E h => ?_) (fun cdv A outer s H vs Q E hr h => ?_)
  · obtain ⟨r, k, n, v, ss, rfl, _⟩ := h
    rfl
  · obtain ⟨r, k, n, v, ss, rfl, hR, hd, hv, ok, q⟩ := h
    have hu := hu_of hr
    have hu64 := hr.units
    have hr_is_whole := hr.mono (by decide : 2 ≤ 8)
    have hr__is_step := hr.mono (Nat.le_refl _)
    refine ⟨_, PSs.nox (pss_cons (ps_if (PW.pt (pw_or (pt_not (pt_val (pe_callB call_isi (by rfl) z_isinstance PyProof.Rows.boot_isinstance (pa_cons (pv 1) (pa_cons (pe_bltn (v := .ty "tuple") rfl z_tuple (by decide +kernel) rfl) pa_nil))))) (pw_or1 (pt_cmpR op_ne (pe_callB call_len_seq (by rfl) z_len PySem.boot_len (pa_cons (pv 1) pa_nil)) pe_int (nomark _))))) (pss_one (ps_ret pe_bl)) pss_nil)
      (pss_cons (ps_asg (pv 1) (pg_tup rfl (pgs_cons (pg_name (i := 2) sc__is_web.nd rfl (Or.inr rfl)) (pgs_cons (pg_name (i := 3) sc__is_web.nd rfl (Or.inl rfl)) pgs_nil))))
      (pss_cons (ps_if (PW.pt (pw_or (pt_not (pt_val (pe_call G_is_whole hr_is_whole rfl g_is_whole F_is_whole.kp b_is_whole .nil pass0 (pa_cons (pv 2) (pa_cons pe_int (pa_cons (pe_glob (v := .int 12) rfl g_STATES ⟨_, rfl⟩) pa_nil)))))) (pw_or (pt_not (pt_val (pe_callB call_isi (by rfl) z_isinstance PyProof.Rows.boot_isinstance (pa_cons (pv 3) (pa_cons (pe_bltn (v := .ty "tuple") rfl z_tuple (by decide +kernel) rfl) pa_nil))))) (pw_or1 (pt_cmpR op_gt (pe_callB call_len_seq (by rfl) z_len PySem.boot_len (pa_cons (pv 3) pa_nil)) (pe_glob (v := .int 80) rfl g_STEPS ⟨_, rfl⟩) (nomark _)))))) (pss_one (ps_ret pe_bl)) pss_nil)
      (pss_one (ps_ret (pe_callB (cr_all rfl) (by rfl) z_all PyProof.Rows.boot_all (pa_cons (pe_lc (own := [("step", 4)]) (g := gName 4) (tt := tYes) (by rfl) sc__is_web.nd (pi_tup (pv 3)) (blkOk_by (own := [("step", 4)]) (N := ["ring", "web", "states", "steps", "step"]) (sc := defScope s__is_web) (by decide +kernel)) (fun _ _ _ _ _ => pg_name (i := 4) sc__is_web.nd rfl (Or.inl rfl)) (fun _ _ _ _ _ => pts_nil) (fun _ _ _ _ _ => pe_call G__is_step hr__is_step rfl g__is_step F__is_step.kp b__is_step .nil pass0 (pa_cons (pv 0) (pa_cons (pv 2) (pa_cons (pv 4) pa_nil))))) pa_nil))))))), ?_⟩
    obtain ⟨a, p, us, rfl, ha, hp, hus, hlen⟩ := web_at hv
    have hS : SqT K H a [.int (n : Nat), .ref p] := .inl (.inl ha)
    have hP : SqT K H p us := .inl (.inl hp)
    have l80 := ok.len
    have n1 := ok.n1
    have n12 := ok.n12
    refine q_when (b := false) (et_is (et_or (et_not (et_B (ev_tTup (ev_var rfl) (tl_tup ha)))) (fun _ => et_is (et_test (ev_neI (ev_lenT (ev_var rfl) hS) ev_c)) (by rfl : (!((([V.int (n : Nat), .ref p].length : Nat) : Int) == 2)) = false))) rfl) (fun hb => (by cases hb)) (fun _ H1 e1 => ?_)
    refine ⟨_, rfl, a, _, rfl, ex_t e1 hS, rfl, _, _, rfl, _, _, rfl, rfl, ?_⟩
    refine q_when (b := false) (et_is (et_or (a := false) (et_is (et_not (et_B (ev_call (z := .bl true) (ea_cons (ev_var rfl) (ea_cons ev_c (ea_cons ev_c ea_nil))) fun H2 e2 Q' k' E' => ⟨_, some (n : Int), _, _, rfl, (DtAt.int (n : Int)).num, fun H3 e3 => (by
      have hw : whO 1 12 (some (n : Int)) = true := by
        show (decide ((1 : Int) ≤ (n : Int)) && decide ((n : Int) ≤ 12)) = true
        rw [decide_eq_true (by omega : (1 : Int) ≤ (n : Int)), decide_eq_true (by omega : (n : Int) ≤ 12)]
        rfl
      rw [hw]
      exact k' H3 e3)⟩))) rfl) fun _ => et_or (a := false) (et_is (et_not (et_B (ev_tTup (ev_var rfl) (tl_tup (e1 _ _ hp))))) rfl) fun _ => et_is (et_test (ev_gtI (ev_lenT (ev_var rfl) (ex_t e1 hP)) ev_c)) (decide_eq_false (by omega : ¬((80 : Int) < ((us.length : Nat) : Int))))) rfl) (fun hb => (by cases hb)) (fun _ H2 e2 => ?_)
    have e12 := e1.trans e2
    refine s_ret (ev_allT (fun _ => true) (ev_var rfl) (ex_t e12 hP) (by omega) (fun _ => rfl) fun i x H3 e3 hx => ev_call (ea_cons (ev_var rfl) (ea_cons (ev_var rfl) (ea_cons (ev_var rfl) ea_nil))) fun H4 e4 Q' k' E' => ?_) fun H3 e3 => (by
      have hall : (List.range us.length).all (fun _ => true) = true := List.all_eq_true.mpr fun _ _ => rfl
      rw [hall]
      exact q H3 (e12.trans e3))
    have e := (e12.trans e3).trans e4
    obtain ⟨d, hd1, hd2⟩ := hus.get hx
    rw [List.getElem?_map] at hd1
    obtain ⟨s, hs, rfl⟩ := Option.map_eq_some_iff.mp hd1
    obtain ⟨s1, s2, s3⟩ := ok.step hs
    exact ⟨r, k, n, x, s, rfl, hR.ex e, hd, hd2.ex e, s1, s2, s3, fun H5 e5 => k' H5 e5⟩
abbrev s_need_web : Stmt := top 54
theorem sc_need_web : FnScope ["ring", "web"] ["ring", "web"] (defScope s_need_web) := ⟨rfl, rfl, rfl, by decide +kernel, rfl, by decide +kernel, by decide +kernel⟩
theorem ok_need_web {f : Addr} {fd : FuncData} (F : FnP K "need_web" s_need_web f fd) {C : KC} {CR : Addr} (T : RingF K CR) {f_need_ring : Addr} {fd_need_ring : FuncData} (F_need_ring : FnP K "need_ring" s_need_ring f_need_ring fd_need_ring) (g_need_ring : mg "need_ring" = some (.ref f_need_ring)) (G_need_ring : FnOk P w K mg base (CX0) 1 f_need_ring fd_need_ring ["thing"] (spNeedRing C CR)) {f__is_web : Addr} {fd__is_web : FuncData} (F__is_web : FnP K "_is_web" s__is_web f__is_web fd__is_web) (g__is_web : mg "_is_web" = some (.ref f__is_web)) (G__is_web : FnOk P w K mg base (CX0) 9 f__is_web fd__is_web ["ring", "web"] (spIsWeb C CR)) {f_is_closed : Addr} {fd_is_closed : FuncData} (m_is_closed : Meth K CR "is_closed" f_is_closed) (b_is_closed : Binds K fd_is_closed ["self"] []) (G_is_closed : FnOk P w K mg base CX0 6 f_is_closed fd_is_closed ["self"] (spRClosed C CR)) : FnOk P w K mg base (CX0) 10 f fd ["ring", "web"] (spNeedWeb C CR) := by
  have b_need_ring : Binds K fd_need_ring ["thing"] [] := F_need_ring.bindsN fun _ _ _ _ _ _ us hl => match us, hl with | [_], _ => rfl
  have b__is_web : Binds K fd__is_web ["ring", "web"] [] := F__is_web.bindsN fun _ _ _ _ _ _ us hl => match us, hl with | [_, _], _ => rfl
  refine F.ok (CX := CX0) sc_need_web (fun vs H Q E h => ?_) (fun cdv A outer s H vs Q E hr h => ?_)
  · obtain ⟨r, k, n, v, ss, rfl, _⟩ := h
    rfl
  · obtain ⟨r, k, n, v, ss, rfl, hR, hd, hv, ok, q⟩ := h
    have hu := hu_of hr
    have hu64 := hr.units
    have hr_need_ring := hr.mono (by decide : 1 ≤ 9)
    have hr__is_web := hr.mono (Nat.le_refl _)
    have hr_is_closed := hr.mono (by decide : 6 ≤ 9)
    refine ⟨_, PSs.nox (pss_cons (ps_expr (pe_call G_need_ring hr_need_ring rfl g_need_ring F_need_ring.kp b_need_ring .nil pass0 (pa_cons (pv 0) pa_nil)))
      (pss_cons (ps_if (pt_not (pt_val (pe_meth0 (C := CR) (pv 0) T.ok.cls m_is_closed G_is_closed hr_is_closed b_is_closed .nil pass0))) (pss_one (ps_dead)) pss_nil)
      (pss_one (ps_if (pt_not (pt_val (pe_call G__is_web hr__is_web rfl g__is_web F__is_web.kp b__is_web .nil pass0 (pa_cons (pv 0) (pa_cons (pv 1) pa_nil))))) (pss_one (ps_dead)) pss_nil)))), ?_⟩
    refine q_drop (v := .non) (ev_call (ea_cons (ev_var rfl) ea_nil) fun H1 e1 Q' k' E' => ⟨r, k, rfl, hR.ex e1, fun H2 e2 => k' H2 e2⟩) fun H1 e1 => ?_
    refine q_when (b := false) (et_is (et_not (a := true) (et_B fun H2 e2 Q' k' => ?_)) rfl) (fun hb => (by cases hb)) (fun _ H2 e2 => ?_)
    · obtain ⟨r', dr, fr, rfl, hr2, hn⟩ := (hR.ex (e1.trans e2)).no (m := ("is_closed" : Str)) (by decide)
      exact ⟨_, rfl, r', dr, fr, rfl, hr2, hn, .ref r', k, rfl, hR.ex (e1.trans e2), hd, fun H3 e3 => k' H3 e3⟩
    · have e12 := e1.trans e2
      exact s_when (b := false) (et_is (et_not (et_B (ev_call (z := .bl true) (ea_cons (ev_var rfl) (ea_cons (ev_var rfl) ea_nil)) fun H3 e3 Q' k' E' => ⟨r, k, n, v, ss, rfl, hR.ex (e12.trans e3), hd, hv.ex (e12.trans e3), ok, fun H4 e4 => k' H4 e4⟩))) rfl) (fun hb => (by cases hb)) (fun _ H3 e3 => q H3 (e12.trans e3))
abbrev s_is_path : Stmt := top 57
theorem sc_is_path : FnScope ["steps", "path", "number", "follower"] ["steps", "path"] (defScope s_is_path) := ⟨rfl, rfl, rfl, by decide +kernel, rfl, by decide +kernel, by decide +kernel⟩
theorem ok_is_path {f : Addr} {fd : FuncData} (F : FnP K "is_path" s_is_path f fd) {f_is_whole : Addr} {fd_is_whole : FuncData} (F_is_whole : FnP K "is_whole" s_is_whole f_is_whole fd_is_whole) (g_is_whole : mg "is_whole" = some (.ref f_is_whole)) (G_is_whole : FnOk P w K mg base (CX0) 2 f_is_whole fd_is_whole ["thing", "least", "most"] (spWhole K)) (z_isinstance : mg "isinstance" = none) (z_tuple : mg "tuple" = none) (z_list : mg "list" = none) (z_len : mg "len" = none) (z_all : mg "all" = none) (z_zip : mg "zip" = none) : FnOk P w K mg base (CX0) 3 f fd ["steps", "path"] (spIsPath K) := by
  have b_is_whole : Binds K fd_is_whole ["thing", "least", "most"] [] := F_is_whole.bindsN fun _ _ _ _ _ _ us hl => match us, hl with | [_, _, _], _ => rfl
  refine F.ok (CX := CX0) sc_is_path (fun vs H Q E h => ?_) (fun cdv A outer s H vs Q E hr h => ?_)
  · obtain ⟨a, us, ss, v, l, rfl, _⟩ := h
    rfl
  · obtain ⟨a, us, ss, v, l, rfl, ha, hus, hP, q⟩ := h
    have hu := hu_of hr
    have hu64 := hr.units
    have hr_is_whole := hr.mono (by decide : 2 ≤ 2)
    refine ⟨_, PSs.nox (pss_cons (ps_if (pt_not (pt_val (pe_callB call_isiT (by rfl) z_isinstance PyProof.Rows.boot_isinstance (pa_cons (pv 1) (pa_cons (pe_tup (pa_cons (pe_bltn (v := .ty "list") rfl z_list (by decide +kernel) rfl) (pa_cons (pe_bltn (v := .ty "tuple") rfl z_tuple (by decide +kernel) rfl) pa_nil))) pa_nil))))) (pss_one (ps_ret pe_bl)) pss_nil)
      (pss_cons (ps_if (pt_not (pt_val (pe_callB (cr_all rfl) (by rfl) z_all PyProof.Rows.boot_all (pa_cons (pe_lc (own := [("number", 2)]) (g := gName 2) (tt := tYes) (te := tCall (spWhole K) [] E0 (tCons (tVar 2) (tCons (tC (.int 0)) (tCons (tOp (rI0 fun i j => .int (i - j)) (tCB (rLenQ K) (tCons (tVar 0) tNil)) (tC (.int 1))) tNil)))) (by rfl) sc_is_path.nd (pi_seq (pv 1)) (blkOk_by (own := [("number", 2)]) (N := ["steps", "path", "number", "follower"]) (sc := defScope s_is_path) (by decide +kernel)) (fun _ _ _ _ _ => pg_name (i := 2) sc_is_path.nd rfl (Or.inl rfl)) (fun _ _ _ _ _ => pts_nil) (fun _ _ _ _ _ => pe_call G_is_whole hr_is_whole rfl g_is_whole F_is_whole.kp b_is_whole .nil pass0 (pa_cons (pv 2) (pa_cons pe_int (pa_cons (pe_op op_sub (pe_callB call_len_seq (by rfl) z_len PySem.boot_len (pa_cons (pv 0) pa_nil)) pe_int) pa_nil))))) pa_nil)))) (pss_one (ps_ret pe_bl)) pss_nil)
      (pss_one (ps_ret (pe_callB (cr_all rfl) (by rfl) z_all PyProof.Rows.boot_all (pa_cons (pe_lc (own := [("number", 2), ("follower", 3)]) (g := gTup K 2 (gCons (gName 2) (gCons (gName 3) gNil))) (tt := tYes) (te := tOp rEq (tOp (rIxT K) (tOp (rIxT K) (tVar 0) (tVar 2)) (tC (.int 1))) (tOp (rIxT K) (tOp (rIxT K) (tVar 0) (tVar 3)) (tC (.int 0)))) (by rfl) sc_is_path.nd (pi_zipA (by rfl) z_zip (pa_cons (pv 1) (pa_cons (pe_slice sl_seq (pv 1) (po_some pe_int) po_none) pa_nil))) (blkOk_by (own := [("number", 2), ("follower", 3)]) (N := ["steps", "path", "number", "follower"]) (sc := defScope s_is_path) (by decide +kernel)) (fun _ _ _ _ _ => pg_tup rfl (pgs_cons (pg_name (i := 2) sc_is_path.nd rfl (Or.inl rfl)) (pgs_cons (pg_name (i := 3) sc_is_path.nd rfl (Or.inl rfl)) pgs_nil))) (fun _ _ _ _ _ => pts_nil) (fun _ _ _ _ _ => pe_cmpR op_eq (pe_ix ix_tup (pe_ix ix_tup (pv 0) (pv 2) (fun _ _ => rfl)) pe_int (fun _ _ => rfl)) (pe_ix ix_tup (pe_ix ix_tup (pv 0) (pv 3) (fun _ _ => rfl)) pe_int (fun _ _ => rfl)) (nomark _))) pa_nil)))))), ?_⟩
    have hU : SqT K H a us := .inl (.inl ha)
    have hlen : us.length = ss.length := by rw [DtAll.len hus, List.length_map]
    cases l with
    | none =>
      obtain ⟨b1, b2, b3, t⟩ := hP
      exact q_when (b := true) (et_is (et_not (et_B (ev_tLT (ev_var rfl) t))) rfl) (fun _ H1 e1 => s_ret ev_c fun H2 e2 => q H2 (e1.trans e2)) (fun hb => (by cases hb))
    | some os =>
      obtain ⟨p, qq, xs, rfl, hp, hN, hz⟩ := hP
      have hxl := hN.len
      refine q_when (b := false) (et_is (et_not (a := true) (et_B (ev_is (ev_tLT (ev_var rfl) (tl_q hp)) (by cases qq <;> rfl)))) rfl) (fun hb => (by cases hb)) (fun _ H1 e1 => ?_)
      have hSp : SqQ K qq H1 p xs := ex_q e1 (SqQ.of hp)
      have hall : ((List.range xs.length).all fun i => numB ss.length (os.getD i none)) = os.all (numB ss.length) := by
        rw [hxl]
        exact all_rangeD os
      refine q_when (b := !os.all (numB ss.length)) (et_not (et_B (ev_is (ev_allQ (fun i => numB ss.length (os.getD i none)) (ev_var rfl) hSp (by omega) (fun _ => rfl) fun i x H2 e2 hx => ?_) (congrArg V.bl hall)))) (fun hb H2 e2 => ?_) (fun hb H2 e2 => ?_)
      · obtain ⟨oo, ho, hn⟩ := hN.get hx
        have hoo : os.getD i none = oo := by rw [List.getD_eq_getElem?_getD, ho]; rfl
        refine ev_call (ea_cons (ev_var rfl) (ea_cons ev_c (ea_cons (ev_op (ev_lenT (ev_var rfl) (ex_t (e1.trans e2) hU)) ev_c rv_I0) ea_nil))) fun H3 e3 Q' k' E' => ⟨x, oo, _, _, rfl, hn.up ((e1.trans e2).trans e3), fun H4 e4 => ?_⟩
        have := k' H4 e4
        rw [hoo] at this
        unfold numB at this
        rw [hlen]
        exact this
      · refine s_ret ev_c fun H3 e3 => ?_
        have := q H3 ((e1.trans e2).trans e3)
        have hb2 : isPathB ss (some os) = false := by
          show (os.all (numB ss.length) && _) = false
          rw [show os.all (numB ss.length) = false by simpa using hb]
          rfl
        rw [hb2] at this
        exact this
      · have hb : os.all (numB ss.length) = true := by simpa using hb
        have hat : ∀ {i : Nat} {x : V}, xs[i]? = some x → ∃ n : Nat, x = .int (n : Int) ∧ n < ss.length ∧ ss[n]? = some (stepN ss (os.getD i none)) := fun {i x} hx => by
          obtain ⟨oo, ho, hn⟩ := hN.get hx
          have hoo : os.getD i none = oo := by rw [List.getD_eq_getElem?_getD, ho]; rfl
          obtain ⟨n, hn1, hn2, hn3⟩ := numB_step (List.all_eq_true.mp hb oo (List.mem_of_getElem? ho))
          obtain ⟨_, _, _, _, _, _, _, hni⟩ := hn.ex
          rw [hoo]
          exact ⟨n, hni _ hn1, hn2, hn3⟩
        have e12 := e1.trans e2
        refine s_ret (ev_is (ev_allZ (fun i => ((stepN ss (os.getD i none)).2.1 : Int) == (stepN ss (os.getD (i + 1) none)).1) (ev_var rfl) (e12 _ _ hp) (by omega) (fun _ _ => rfl) fun i x y H3 e3 hx hy => ?_) (w := .bl (isPathB ss (some os))) (congrArg V.bl (by rw [hxl]; show linkB ss os = (os.all (numB ss.length) && linkB ss os); rw [hb]; rfl))) fun H3 e3 => q H3 (e12.trans e3)
        have e := e12.trans e3
        obtain ⟨n1, rfl, _, g1⟩ := hat hx
        obtain ⟨n2, rfl, _, g2⟩ := hat hy
        obtain ⟨a1, w1, u1, s1, _⟩ := step_at hus g1
        obtain ⟨a2, w2, u2, s2, _⟩ := step_at hus g2
        have at1 : atI us (n1 : Int) = some (.ref a1) := atI_of (by omega) (by rw [Int.toNat_natCast]; exact u1)
        have at2 : atI us (n2 : Int) = some (.ref a2) := atI_of (by omega) (by rw [Int.toNat_natCast]; exact u2)
        exact ev_eqI (ev_op (ev_op (ev_var rfl) (ev_var rfl) (rv_ixT (ex_t e hU) at1)) ev_c (rv_ixT (.inl (.inl (e _ _ s1))) rfl)) (ev_op (ev_op (ev_var rfl) (ev_var rfl) (rv_ixT (ex_t e hU) at2)) ev_c (rv_ixT (.inl (.inl (e _ _ s2))) rfl))
end
end D1
end
section
set_option Elab.async false
set_option linter.all false
set_option maxRecDepth 100000
set_option maxHeartbeats 4000000
/-! R8: product_of, path_weight -/
namespace D1
open PySem L2 Evl RZ ClX PySem.VX
theorem sz_one : ∀ {k : RK}, k.ok → Sz 12 (oneD k)
  | .truth, _ => True.intro
  | .count, _ => by show (1 : Int).natAbs < 2 ^ 12; decide
  | .least, _ => by show (0 : Int).natAbs < 2 ^ 12; decide
  | .most, _ => by show (0 : Int).natAbs < 2 ^ 12; decide
  | .narrow, _ => True.intro
  | .share, _ => by
    refine ⟨?_, ?_, True.intro⟩ <;> (show (1 : Int).natAbs < 2 ^ 12; decide)
  | .lot n, ⟨h1, h2⟩ => by
    show ((2 : Int) ^ n - 1).natAbs < 2 ^ 12
    rw [one_lot, Int.natAbs_natCast]
    have := Nat.pow_le_pow_right (n := 2) (by decide) h2
    have := Nat.two_pow_pos n
    omega
  | .pair a b, ⟨h1, h2⟩ => ⟨sz_one h1, sz_one h2, True.intro⟩
def prodD (k : RK) (ds : List PyData) : PyData := ds.foldl (times k) (oneD k)
theorem foldl_snoc {α β : Type} (f : β → α → β) (z : β) {l : List α} {i : Nat} {x : α} (h : l[i]? = some x) : (l.take (i + 1)).foldl f z = f ((l.take i).foldl f z) x := by
  rw [List.take_succ, h, List.foldl_append]
  rfl
theorem prod_good {k : RK} {ds : List PyData} (h : ∀ d ∈ ds, goodB k d = true) : goodB k (prodD k ds) = true := by
  unfold prodD
  have : ∀ (ds : List PyData) (z : PyData), goodB k z = true → (∀ d ∈ ds, goodB k d = true) → goodB k (ds.foldl (times k) z) = true := by
    intro ds
    induction ds with
    | nil => intro z hz _; exact hz
    | cons d r ih => intro z hz h; exact ih _ (good_times k hz (h d List.mem_cons_self)) fun x hx => h x (List.mem_cons_of_mem _ hx)
  exact this ds _ (good_one k) h
theorem prod_sz {k : RK} {B : Nat} (hB : 0 < B) (ok : k.ok) {ds : List PyData} (h : ∀ d ∈ ds, goodB k d = true) (hs : ∀ d ∈ ds, Sz B d) : Sz (12 + ds.length * B) (prodD k ds) := by
  unfold prodD
  have : ∀ (ds : List PyData) (z : PyData) (A : Nat), 0 < A → goodB k z = true → Sz A z → (∀ d ∈ ds, goodB k d = true) → (∀ d ∈ ds, Sz B d) → Sz (A + ds.length * B) (ds.foldl (times k) z) := by
    intro ds
    induction ds with
    | nil => intro z A _ _ hz _ _; rw [List.length_nil, Nat.zero_mul, Nat.add_zero]; exact hz
    | cons d r ih =>
      intro z A hA hz sz h hs
      have hd := h d List.mem_cons_self
      have := ih (times k z d) (A + B) (by omega) (good_times k hz hd) (sz_times k hz hd sz (hs d List.mem_cons_self) hA hB) (fun x hx => h x (List.mem_cons_of_mem _ hx)) fun x hx => hs x (List.mem_cons_of_mem _ hx)
      rw [List.length_cons, Nat.succ_mul, Nat.add_comm (r.length * B) B, ← Nat.add_assoc]
      exact this
  exact this ds _ 12 (by decide) (good_one k) (sz_one ok) h hs
def spProd (C : KC) : Sp := fun vs H Q _ => ∃ (kv : V) (k : RK) (D : Addr) (us : List V) (ds : List PyData) (B : Nat), vs = [kv, .ref D] ∧ KindAt C H k kv ∧ k.depth < 4 ∧ k.ok ∧ H D = some (.lst us) ∧ DtAll H us ds ∧ (∀ d ∈ ds, goodB k d = true) ∧ (∀ d ∈ ds, Sz B d) ∧ 0 < B ∧ 12 + ds.length * B ≤ 4000 ∧ B ≤ 4000 ∧ ∀ x H', Ex H H' → DtAt H' x (prodD k ds) → Q x H'
def whyP : Str := "not a path of this web, or the empty one"
def spPW (K : PySem.W.Frag) (C : KC) (CR cP : Addr) : Sp := fun vs H Q E => ∃ (r wv pv : V) (k : RK) (n : Nat) (ss : List Step) (l : Line) (B : Nat), vs = [r, wv, pv] ∧ RingAt C CR H r k ∧ k.depth < 4 ∧ k.ok ∧ DtAt H wv (webD n ss) ∧ WebOk k n ss ∧ (∀ s ∈ ss, Sz B s.2.2) ∧ 0 < B ∧ B ≤ 4000 ∧ 12 + lineLen l * B ≤ 4000 ∧ PathAt K H pv l ∧
  ((isPathB ss l = false ∨ lineLen l = 0) → ∀ d H', Ex H H' → H' d = none → E (.ref cP) (some d) (upd H' d (.xd [("why", .str whyP)]))) ∧
  (∀ os, l = some os → isPathB ss l = true → os.length ≠ 0 → ∀ x H', Ex H H' → DtAt H' x (prodD k (os.map fun o => (stepN ss o).2.2)) → Q x H')
/-- the weights of a path's steps as they lie -/
theorem path_ws {K : PySem.W.Frag} {H : Hp} {us : List V} {ss : List Step} (hus : DtAll H us (ss.map stepD)) : ∀ {xs : List V} {os : List (Option Int)}, NumAll K H xs os → os.all (numB ss.length) = true → ∃ ws : List V, ws.length = xs.length ∧ DtAll H ws (os.map fun o => (stepN ss o).2.2) ∧
    ∀ (i : Nat) (x : V), xs[i]? = some x → ∃ (n : Nat) (a : Addr) (y z : V), x = .int (n : Int) ∧ us[n]? = some (.ref a) ∧ H a = some (.tup [y, z, ws.getD i .non])
  | [], [], _, _ => ⟨[], rfl, .nil, fun i x h => by simp at h⟩
  | v :: vs, o :: os, ⟨h, r⟩, hb => by
    rw [List.all_cons, Bool.and_eq_true] at hb
    obtain ⟨ws, h1, h2, h3⟩ := path_ws hus r hb.2
    obtain ⟨n, hn1, hn2, hn3⟩ := numB_step hb.1
    obtain ⟨_, _, _, _, _, _, _, hni⟩ := h.ex
    obtain ⟨a, w, u1, s1, d1⟩ := step_at hus hn3
    refine ⟨w :: ws, by rw [List.length_cons, List.length_cons, h1], .cons d1 h2, fun i x hx => ?_⟩
    cases i with
    | zero =>
      simp at hx
      subst hx
      exact ⟨n, a, _, _, hni _ hn1, u1, s1⟩
    | succ i =>
      obtain ⟨m, b, y, z, e1, e2, e3⟩ := h3 i x (by simpa using hx)
      exact ⟨m, b, y, z, e1, e2, by simpa using e3⟩
  | [], _ :: _, h, _ => h.elim
  | _ :: _, [], h, _ => h.elim
theorem given_get (ws : List V) : given ws.length (fun _ => true) (fun i => ws.getD i .non) = ws := by
  unfold given
  rw [List.filter_eq_self.mpr (fun _ _ => rfl)]
  apply List.ext_getElem (by simp)
  intro i h1 h2
  simp [h2]
section
variable {P : Program} {w : World} {K : PySem.W.Frag} {mg : Str → Option Value} {base : Heap}
abbrev s_product_of : Stmt := top 14
theorem sc_product_of : FnScope ["kind", "weights", "told", "weight"] ["kind", "weights"] (defScope s_product_of) := ⟨rfl, rfl, rfl, by decide +kernel, rfl, by decide +kernel, by decide +kernel⟩
theorem ok_product_of {f : Addr} {fd : FuncData} (F : FnP K "product_of" s_product_of f fd) {C : KC} (HT : ∀ e sp, SK C (spTimes C 4) e = some sp → HeldM P w K mg base 5 "times" e sp) (HO : ∀ e sp, SK C (spOne C 4) e = some sp → HeldM P w K mg base 1 "one" e sp) : FnOk P w K mg base (CX0) 6 f fd ["kind", "weights"] (spProd C) := by
  refine F.ok (CX := CX0) sc_product_of (fun vs H Q E h => ?_) (fun cdv A outer s H vs Q E hr h => ?_)
  · obtain ⟨kv, k, D, us, ds, B, rfl, _⟩ := h
    rfl
  · obtain ⟨kv, k, D, us, ds, B, rfl, hK, hd, ok, hD, hus, hg, hs, hB, hB2, hB3, q⟩ := h
    have hu := hu_of hr
    have hu64 := hr.units
    have hr_one := hr.mono (by decide : 1 ≤ 5)
    have hr_times := hr.mono (Nat.le_refl _)
    refine ⟨_, PSs.nox (pss_cons (ps_set (i := 2) sc_product_of.nd rfl (Or.inl rfl) (pe_methA0 (S := SK C (spOne C 4)) HO (pv 0) hr_one))
      (pss_cons (ps_for PassesOwn.never rfl (pi_list (pv 1)) (pg_name (i := 3) sc_product_of.nd rfl (Or.inl rfl)) (pss_one (ps_set (i := 2) sc_product_of.nd rfl (Or.inl rfl) (pe_methA (S := SK C (spTimes C 4)) HT (pv 0) hr_times (pa_cons (pv 2) (pa_cons (pv 3) pa_nil))))))
      (pss_one (ps_ret (pv 2))))), ?_⟩
    obtain ⟨a, da, fs, rfl, ha, com⟩ := id hK.com
    refine asg_step ?_
    refine ⟨_, rfl, a, _, da, fs, _, rfl, SK.at k, ha, com.no _ (by decide), .ref a, k, rfl, hK, rfl, hd, fun x0 H1 e1 hx0 => ?_⟩
    refine ⟨_, rfl, D, rfl, ⟨_, sq_of (e1 _ _ hD)⟩, ?_⟩
    refine for_it (walk_list (K := K) (a := D) (xs := us)) (fun i σ' G => ∃ x3 x, σ' = [some (.ref a), some (.ref D), some x, x3] ∧ Ex H1 G ∧ DtAt G x (prodD k (ds.take i))) ⟨none, x0, rfl, Ex.refl H1, hx0⟩ (fun i σ' G _ h => ?_) ?_ ?_
    · obtain ⟨_, _, _, h, _⟩ := h
      exact sq_of ((e1.trans h) _ _ hD)
    · rintro i y σ' _ G hi ⟨x3, x, rfl, eG, hx⟩ ⟨rfl, hy⟩
      have e := e1.trans eG
      obtain ⟨d, hd1, hd2⟩ := hus.get hy
      have hmem := List.mem_of_getElem? hd1
      have gt : ∀ d ∈ ds.take i, goodB k d = true := fun d h => hg d (List.mem_of_mem_take h)
      have st : ∀ d ∈ ds.take i, Sz B d := fun d h => hs d (List.mem_of_mem_take h)
      have hl : 12 + (ds.take i).length * B ≤ 12 + ds.length * B := Nat.add_le_add_left (Nat.mul_le_mul_right _ (by rw [List.length_take]; omega)) _
      refine ⟨_, rfl, a, _, da, fs, _, rfl, SK.at k, e _ _ ha, com.no _ (by decide), _, rfl, _, rfl, .ref a, k, x, y, _, d, 4000, rfl, hK.ex e, rfl, hd, hx, hd2.ex e, prod_good gt, hg d hmem, (prod_sz hB ok gt st).up (by omega), (hs d hmem).up hB3, Nat.le_refl _, fun x2 H2 e2 hx2 => ?_⟩
      refine ⟨_, _, rfl, eG.trans e2, ?_⟩
      unfold prodD
      rw [foldl_snoc _ _ hd1]
      exact hx2
    · rintro σ' G ⟨x3, x, rfl, eG, hx⟩
      refine s_ret (ev_var rfl) fun H' e' => q x H' ((e1.trans eG).trans e') ?_
      have hl : us.length = ds.length := DtAll.len hus
      rw [hl, List.take_length] at hx
      exact hx.ex e'
abbrev s_path_weight : Stmt := top 58
theorem sc_path_weight : FnScope ["ring", "web", "path", "steps", "number"] ["ring", "web", "path"] (defScope s_path_weight) := ⟨rfl, rfl, rfl, by decide +kernel, rfl, by decide +kernel, by decide +kernel⟩
theorem ok_path_weight {f : Addr} {fd : FuncData} (F : FnP K "path_weight" s_path_weight f fd) {C : KC} {CR : Addr} (T : RingF K CR) {f_need_web : Addr} {fd_need_web : FuncData} (F_need_web : FnP K "need_web" s_need_web f_need_web fd_need_web) (g_need_web : mg "need_web" = some (.ref f_need_web)) (G_need_web : FnOk P w K mg base (CX0) 10 f_need_web fd_need_web ["ring", "web"] (spNeedWeb C CR)) {f_is_path : Addr} {fd_is_path : FuncData} (F_is_path : FnP K "is_path" s_is_path f_is_path fd_is_path) (g_is_path : mg "is_path" = some (.ref f_is_path)) (G_is_path : FnOk P w K mg base (CX0) 3 f_is_path fd_is_path ["steps", "path"] (spIsPath K)) {f_product_of : Addr} {fd_product_of : FuncData} (F_product_of : FnP K "product_of" s_product_of f_product_of fd_product_of) (g_product_of : mg "product_of" = some (.ref f_product_of)) (G_product_of : FnOk P w K mg base (CX0) 6 f_product_of fd_product_of ["kind", "weights"] (spProd C)) {f_kind : Addr} {fd_kind : FuncData} (m_kind : Meth K CR "kind" f_kind) (b_kind : Binds K fd_kind ["self"] []) (G_kind : FnOk P w K mg base CX0 1 f_kind fd_kind ["self"] (spRKind C CR)) {cP : Addr} (O_BadPath : OwnX P w K mg "BadPath" cP [("why" : Str)]) (z_len : mg "len" = none) : FnOk P w K mg base (L2.CX P w) 11 f fd ["ring", "web", "path"] (spPW K C CR cP) := by
  have b_need_web : Binds K fd_need_web ["ring", "web"] [] := F_need_web.bindsN fun _ _ _ _ _ _ us hl => match us, hl with | [_, _], _ => rfl
  have b_is_path : Binds K fd_is_path ["steps", "path"] [] := F_is_path.bindsN fun _ _ _ _ _ _ us hl => match us, hl with | [_, _], _ => rfl
  have b_product_of : Binds K fd_product_of ["kind", "weights"] [] := F_product_of.bindsN fun _ _ _ _ _ _ us hl => match us, hl with | [_, _], _ => rfl
  refine F.ok (CX := L2.CX P w) sc_path_weight (fun vs H Q E h => ?_) (fun cdv A outer s H vs Q E hr h => ?_)
  · obtain ⟨r, wv, p, k, n, ss, l, B, rfl, _⟩ := h
    rfl
  · obtain ⟨r, wv, p, k, n, ss, l, B, rfl, hR, hd, ok, hW, hok, hs, hB, hB3, hB2, hP, qE, qT⟩ := h
    have hu := hu_of hr
    have hu64 := hr.units
    have hr_need_web := hr.mono (Nat.le_refl _)
    have hr_is_path := hr.mono (by decide : 3 ≤ 10)
    have hr_product_of := hr.mono (by decide : 6 ≤ 10)
    have hr_kind := hr.mono (by decide : 1 ≤ 10)
    refine ⟨_, (pss_cons (ps_expr (pe_call G_need_web hr_need_web rfl g_need_web F_need_web.kp b_need_web .nil pass0 (pa_cons (pv 0) (pa_cons (pv 1) pa_nil))))
      (pss_cons (ps_set (i := 3) sc_path_weight.nd rfl (Or.inr rfl) (pe_ix ix_tup (pv 1) pe_int (fun _ _ => rfl)))
      (pss_cons (ps_if (PW.pt (pw_or (pt_not (pt_val (pe_call G_is_path hr_is_path rfl g_is_path F_is_path.kp b_is_path .nil pass0 (pa_cons (pv 3) (pa_cons (pv 2) pa_nil))))) (pw_or1 (pt_cmpR op_eq (pe_callB call_len_seq (by rfl) z_len PySem.boot_len (pa_cons (pv 2) pa_nil)) pe_int (nomark _))))) (pss_one (ps_raise (W := fun cls d _ H => E cls d H) rfl (takes_of rfl rfl rfl rfl) (pmk_own1 O_BadPath hr (pa_cons pe_str pa_nil) (by rfl)))) pss_nil)
      (pss_one (ps_ret (pe_call G_product_of hr_product_of rfl g_product_of F_product_of.kp b_product_of .nil pass0 (pa_cons (pe_meth0 (C := CR) (pv 0) T.ok.cls m_kind G_kind hr_kind b_kind .nil pass0) (pa_cons (pe_lc (own := [("number", 4)]) (g := gName 4) (tt := tYes) (te := tOp (rIxT K) (tOp (rIxT K) (tVar 3) (tVar 4)) (tC (.int 2))) (by rfl) sc_path_weight.nd (pi_seq (pv 2)) (blkOk_by (own := [("number", 4)]) (N := ["ring", "web", "path", "steps", "number"]) (sc := defScope s_path_weight) (by decide +kernel)) (fun _ _ _ _ _ => pg_name (i := 4) sc_path_weight.nd rfl (Or.inl rfl)) (fun _ _ _ _ _ => pts_nil) (fun _ _ _ _ _ => pe_ix ix_tup (pe_ix ix_tup (pv 3) (pv 4) (fun _ _ => rfl)) pe_int (fun _ _ => rfl))) pa_nil)))))))), ?_⟩
    obtain ⟨a, p1, us, rfl, ha, hp1, hus, hlen⟩ := web_at hW
    refine q_drop (v := .non) (ev_call (ea_cons (ev_var rfl) (ea_cons (ev_var rfl) ea_nil)) fun H1 e1 Q' k' E' => ⟨r, k, n, .ref a, ss, rfl, hR.ex e1, hd, hW.ex e1, hok, fun H2 e2 => k' H2 e2⟩) fun H1 e1 => ?_
    refine q_asg (v := .ref p1) (ev_op (ev_var rfl) ev_c (rv_ixT (.inl (.inl (e1 _ _ ha))) rfl)) fun H2 e2 => ?_
    have e12 := e1.trans e2
    refine q_when (b := !isPathB ss l || decide (lineLen l = 0)) (et_or (et_not (et_B (ev_call (ea_cons (ev_var rfl) (ea_cons (ev_var rfl) ea_nil)) fun H3 e3 Q' k' E' => ⟨p1, us, ss, p, l, rfl, (e12.trans e3) _ _ hp1, hus.ex (e12.trans e3), hP.up (e12.trans e3), fun H4 e4 => k' H4 e4⟩))) fun hb => ?_) (fun hb H3 e3 => ?_) (fun hb H3 e3 => ?_)
    · cases l with
      | none => cases hb
      | some os =>
        obtain ⟨pa, qq, xs, rfl, hpa, hN, hz⟩ := id hP
        refine et_is (et_test (ev_eqI (ev_lenQ (ev_var rfl) (ex_q e12 (SqQ.of hpa))) ev_c)) ?_
        rw [hN.len]
        show ((os.length : Int) == 0) = decide (os.length = 0)
        rw [Bool.eq_iff_iff, beq_iff_eq, decide_eq_true_eq]
        omega
    · refine ⟨rfl, fun d hd => qE ?_ d H3 (e12.trans e3) hd⟩
      rw [Bool.or_eq_true, decide_eq_true_eq, Bool.not_eq_true'] at hb
      exact hb
    · rw [Bool.or_eq_false_iff, decide_eq_false_iff_not, Bool.not_eq_false'] at hb
      obtain ⟨hb, hne⟩ := hb
      cases l with
      | none => cases hb
      | some os =>
        obtain ⟨pa, qq, xs, rfl, hpa, hN, hz⟩ := id hP
        have hxl := hN.len
        have hall : os.all (numB ss.length) = true := (Bool.and_eq_true_iff.mp hb).1
        obtain ⟨ws, hwl, hws, hat⟩ := path_ws hus hN hall
        have e3' := e12.trans e3
        obtain ⟨r', dr, fr, rfl, hr2, hn⟩ := (hR.ex e3').no (m := ("kind" : Str)) (by decide)
        refine ⟨_, rfl, r', dr, fr, rfl, hr2, hn, .ref r', k, rfl, hR.ex e3', fun x H4 e4 hk => ?_⟩
        have e4' := e3'.trans e4
        have hE := el_lcQ (K := K) (tl := tVar 2) (te := tOp (rIxT K) (tOp (rIxT K) (tVar 3) (tVar 4)) (tC (.int 2))) (j := 4) (vs := [4]) (σ := [some (.ref r'), some (.ref a), some (.ref pa), some (.ref p1), none]) (H := H4) (fun i => ws.getD i .non) (ev_var rfl) (ex_q e4' (SqQ.of hpa)) (by omega) (fun _ => rfl) fun i y H5 e5 hy => by
            obtain ⟨m, b, y1, y2, rfl, g1, g2⟩ := hat i y hy
            have e := e4'.trans e5
            exact ev_op (ev_op (ev_var rfl) (ev_var rfl) (rv_ixT (.inl (.inl (e _ _ hp1))) (atI_of (by omega) (by rw [Int.toNat_natCast]; exact g1)))) ev_c (rv_ixT (.inl (.inl (e _ _ g2))) rfl)
        rw [← hwl, given_get] at hE
        refine hE H4 (Ex.refl H4) _ fun D H5 hD e5 hL => ?_
        have e5' := e4'.trans e5
        have hmem : ∀ d ∈ (os.map fun o => (stepN ss o).2.2), ∃ s ∈ ss, d = s.2.2 := fun d hd => by
          obtain ⟨o, ho, rfl⟩ := List.mem_map.mp hd
          obtain ⟨m, _, _, hm⟩ := numB_step (List.all_eq_true.mp hall o ho)
          exact ⟨_, List.mem_of_getElem? hm, rfl⟩
        refine ⟨x, k, D, ws, _, B, rfl, hk.ex e5, hd, ok, hL, hws.ex e5', fun d hd => ?_, fun d hd => ?_, hB, by rw [List.length_map]; exact hB2, hB3, fun y H6 e6 hy => qT os rfl hb hne y H6 (e5'.trans e6) hy⟩
        · obtain ⟨s, hs1, rfl⟩ := hmem d hd
          exact (hok.at_ s hs1).2.2
        · obtain ⟨s, hs1, rfl⟩ := hmem d hd
          exact hs s hs1
end
end D1
end
section
set_option Elab.async false
set_option linter.all false
set_option maxRecDepth 100000
set_option maxHeartbeats 4000000
/-! L1: draws -/
namespace D1
open PySem L2 Evl RZ ClX PySem.VX
theorem shaped_ints (ls : List Int) : SeqAt.shaped (.list (ls.map PyData.int)) = true := PySem.W.shaped_ints ls
theorem eqv_nil (ls : List Int) : PyData.eqv (.list (ls.map PyData.int)) (.list []) = ls.isEmpty := by
  cases ls <;> rfl
theorem int_get {xs : List Int} {i : Nat} {y : Int} (h : xs[i]? = some y) : (xs.map V.int)[i]? = some (V.int y) := by
  rw [List.getElem?_map, h]
  rfl
theorem int_atL {cs : List Int} {i : Nat} {x : V} (h : (cs.map V.int)[i]? = some x) : x = .int (cs.getD i 0) := by
  rw [List.getElem?_map] at h
  obtain ⟨y, hy, rfl⟩ := Option.map_eq_some_iff.mp h
  rw [List.getD_eq_getElem?_getD, hy]
  rfl
theorem cut9 {ns : List Int} {k : Nat} (hk : k < ns.length) : cutV (ns.map V.int) (some (k : Int)) (some ((k : Int) + 9)) = ((ns.drop k).take 9).map V.int := by
  unfold cutV
  rw [HT.sIx_nat, show ((k : Int) + 9) = ((k + 9 : Nat) : Int) by omega, HT.sIx_nat, List.length_map, List.map_take, List.map_drop]
  have h1 : min k ns.length = k := by omega
  rw [h1]
  apply List.ext_getElem?
  intro i
  rw [List.getElem?_take, List.getElem?_take]
  by_cases h : i < 9
  · rw [if_pos h]
    by_cases h2 : i < min (k + 9) ns.length - k
    · rw [if_pos h2]
    · rw [if_neg h2, List.getElem?_eq_none (by rw [List.length_drop, List.length_map]; omega)]
  · rw [if_neg h, if_neg (by omega)]
/-- read to such values, in such heaps -/
def EvP (te : TE) (σ : L2.St) (H : Hp) (M : V → Hp → Prop) : Prop := ∀ Q : VK, (∀ x H', M x H' → Q x H') → te σ H Q
theorem asg_p {i : Nat} {te : TE} {z : TS} {D : Ends} {σ : L2.St} {H : Hp} {M : V → Hp → Prop} (h : EvP te σ H M) (k : ∀ x H', M x H' → z D (σ.set i (some x)) H') : tSeq (tAsg te (gName i)) z D σ H := h _ k
theorem ret_p {te : TE} {D : Ends} {σ : L2.St} {H : Hp} {M : V → Hp → Prop} (h : EvP te σ H M) (k : ∀ x H', M x H' → D.rt x H') : tRet te D σ H := h _ k
theorem Ev.p {te : TE} {σ : L2.St} {H : Hp} {v : V} (h : Ev te σ H v) : EvP te σ H (fun x H' => x = v ∧ Ex H H') := fun Q k => h H (Ex.refl H) Q fun H' e => k v H' ⟨rfl, e⟩
/-- the state of draws: so many at most drawn -/
structure DS (m pc pg : Addr) (cs : List Int) (j : Nat) (H : Hp) : Prop where
  mc : m ≠ pc
  mg : m ≠ pg
  cg : pc ≠ pg
  cne : cs ≠ []
  hc : H pc = some (.lst (cs.map V.int))
  ex : ∃ (a : Nat) (r : Int) (gs : List Int), H m = some (.lst [.ref pc, .int (a : Int), .int r, .ref pg]) ∧ H pg = some (.lst (gs.map V.int)) ∧ a ≤ j ∧ 0 ≤ r ∧ (∀ g ∈ gs, 0 < g) ∧ gs.length ≤ 63
theorem DS.up {m pc pg : Addr} {cs : List Int} {i j : Nat} {H : Hp} (h : DS m pc pg cs i H) (e : i ≤ j) : DS m pc pg cs j H := by
  obtain ⟨h1, h2, h3, h4, h5, a, r, gs, h6, h7, h8, h9⟩ := h
  exact ⟨h1, h2, h3, h4, h5, a, r, gs, h6, h7, Nat.le_trans h8 e, h9⟩
def frD (m pc pg : Addr) (cs : List Int) (j : Nat) : Fr where
  chg := fun b => b = m ∨ b = pg
  inv := DS m pc pg cs j
  mono := fun H H' e h => by
    obtain ⟨h1, h2, h3, h4, h5, a, r, gs, h6, h7, h8⟩ := h
    exact ⟨h1, h2, h3, h4, e _ _ h5, a, r, gs, e _ _ h6, e _ _ h7, h8⟩
  live := fun H b h => by
    obtain ⟨h1, h2, h3, h4, h5, a, r, gs, h6, h7, h8⟩ := h
    rintro (rfl | rfl)
    · rw [h6]
      exact Option.some_ne_none _
    · rw [h7]
      exact Option.some_ne_none _
section
variable {m pc pg : Addr} {cs : List Int} {i j : Nat} {H H1 H2 : Hp}
abbrev RD (m pc pg : Addr) (cs : List Int) (j : Nat) (H H' : Hp) : Prop := (frD m pc pg cs j).R H H'
theorem RD.up (r : RD m pc pg cs i H H1) (e : i ≤ j) : RD m pc pg cs j H H1 := ⟨DS.up r.inv e, r.keep⟩
theorem RD.then (a : RD m pc pg cs i H H1) (b : RD m pc pg cs j H1 H2) : RD m pc pg cs j H H2 := ⟨b.inv, fun c o n e => b.keep c o n (a.keep c o n e)⟩
theorem RD.ofEx (h : DS m pc pg cs j H) (e : Ex H H1) : RD m pc pg cs j H H1 := .ex h e
/-- tuples and instances stay -/
theorem RD.kp (h : DS m pc pg cs i H) (r : RD m pc pg cs j H H1) : Kp H H1 := fun a o so ha => by
  obtain ⟨h1, h2, h3, h4, h5, b, r', gs, h6, h7, h8⟩ := h
  refine r.keep a o (fun hc => ?_) ha
  rcases hc with rfl | rfl
  · rw [h6] at ha
    cases ha
    cases so
  · rw [h7] at ha
    cases ha
    cases so
/-- an object that the draws don't hold stays -/
theorem RD.stay (r : RD m pc pg cs j H H1) {p : Addr} {o : HO} (h1 : p ≠ m) (h2 : p ≠ pg) (hp : H p = some o) : H1 p = some o := r.keep p o (fun hc => hc.elim h1 h2) hp
/-- a fresh address isn't one of theirs -/
theorem DS.fresh (h : DS m pc pg cs j H) {p : Addr} (hp : H p = none) : p ≠ m ∧ p ≠ pg := by
  obtain ⟨h1, h2, h3, h4, h5, b, r', gs, h6, h7, h8⟩ := h
  refine ⟨fun z => ?_, fun z => ?_⟩
  · rw [z, h6] at hp
    cases hp
  · rw [z, h7] at hp
    cases hp
/-- an object of one's own changes, the draws go on -/
theorem RD.set (r : RD m pc pg cs j H H1) {p : Addr} {o : HO} (d : DS m pc pg cs i H) (hp : H p = none) : RD m pc pg cs j H (upd H1 p o) := by
  obtain ⟨n1, n2⟩ := d.fresh hp
  have n3 : p ≠ pc := fun z => by
    have := d.hc
    rw [← z, hp] at this
    cases this
  obtain ⟨h1, h2, h3, h4, h5, b, r', gs, h6, h7, h8⟩ := r.inv
  exact Fr.R.set (F := frD m pc pg cs j) ⟨h1, h2, h3, h4, by rw [upd_ne (Ne.symm n3)]; exact h5, b, r', gs, by rw [upd_ne (Ne.symm n1)]; exact h6, by rw [upd_ne (Ne.symm n2)]; exact h7, h8⟩ r hp
end
section
variable {P : Program} {w : World} {K : PySem.W.Frag} {mg : Str → Option Value} {base : Heap}
def spMixed : Sp := fun vs H Q _ => ∃ c k : Int, vs = [.int c, .int k] ∧ 0 ≤ k ∧ k ≤ 10000000 ∧ ∀ (x : Int) H', 0 ≤ x → x < 2 ^ 31 → Ex H H' → Q (.int x) H'
/-- the draw begun: all objects are new -/
def spDraw (K : PySem.W.Frag) : Sp := fun vs H Q _ => ∃ (a : Addr) (ns : List Int) (k : Nat), vs = [.ref a, .int (k : Int)] ∧ SqL K H a (ns.map V.int) ∧ ns.length ≤ 63 ∧ (ns ≠ [] → k < ns.length) ∧ k ≤ 63 ∧ ∀ m pc pg cs H', Ex H H' → H m = none → H pc = none → H pg = none → DS m pc pg cs (64 * k) H' → Q (.ref m) H'
def spNext : Sp := fun vs H Q _ => ∃ (m pc pg : Addr) (cs : List Int) (j : Nat) (n : Int), vs = [.ref m, .int n] ∧ DS m pc pg cs j H ∧ j ≤ 100000 ∧ 0 < n ∧ n.natAbs.log2 < 9000 ∧ ∀ (x : Int) H', 0 ≤ x → x < n → RD m pc pg cs (j + 1) H H' → Q (.int x) H'
abbrev s_mixed : Stmt := top 84
theorem sc_mixed : FnScope ["_law_cell", "_law_k", "_law_prime"] ["_law_cell", "_law_k"] (defScope s_mixed) := ⟨rfl, rfl, rfl, by decide +kernel, rfl, by decide +kernel, by decide +kernel⟩
theorem ok_mixed {f : Addr} {fd : FuncData} (F : FnP K "_law_mixed" s_mixed f fd) : FnOk P w K mg base (CX0) 1 f fd ["_law_cell", "_law_k"] (spMixed) := by
  refine F.ok (CX := CX0) sc_mixed (fun vs H Q E h => ?_) (fun cdv A outer s H vs Q E hr h => ?_)
  · obtain ⟨c, k, rfl, _⟩ := h
    rfl
  · obtain ⟨c, k, rfl, k0, k1, q⟩ := h
    have hu := hu_of hr
    have hu64 := hr.units
    refine ⟨_, PSs.nox (pss_cons (ps_set (i := 2) sc_mixed.nd rfl (Or.inl rfl) (pe_ix ix_list (pe_lst (pa_cons pe_int (pa_cons pe_int (pa_cons pe_int (pa_cons pe_int (pa_cons pe_int pa_nil)))))) (pe_op op_mod (pv 1) pe_int) (fun _ _ => rfl)))
      (pss_one (ps_ret (pe_op op_mod (pe_op op_mul (pe_op op_mod (pe_op op_pow (pe_op op_mod (pe_op op_add (pe_op op_add (pv 0) (pe_op op_mul pe_int (pv 1))) pe_int) (pv 2)) pe_int) (pv 2)) (pe_op op_add pe_int (pe_op op_mul pe_int (pv 1)))) (pv 2))))), ?_⟩
    have hp : ∃ p : Int, atI [V.int 2147483629, .int 2147483587, .int 2147483579, .int 2147483563, .int 2147483549] (k % 5) = some (.int p) ∧ 0 < p ∧ p < 2 ^ 31 := by
      have h0 : 0 ≤ k % 5 := Int.emod_nonneg _ (by decide)
      have h1 : k % 5 < 5 := Int.emod_lt_of_pos _ (by decide)
      generalize k % 5 = z at h0 h1
      have h2 : z = 0 ∨ z = 1 ∨ z = 2 ∨ z = 3 ∨ z = 4 := by omega
      rcases h2 with rfl | rfl | rfl | rfl | rfl
      · exact ⟨_, rfl, by decide, by decide⟩
      · exact ⟨_, rfl, by decide, by decide⟩
      · exact ⟨_, rfl, by decide, by decide⟩
      · exact ⟨_, rfl, by decide, by decide⟩
      · exact ⟨_, rfl, by decide, by decide⟩
    obtain ⟨p, hp, p0, p1⟩ := hp
    refine q_asg (v := .int p) (ev_opL1 (el_lst (ea_cons ev_c (ea_cons ev_c (ea_cons ev_c (ea_cons ev_c (ea_cons ev_c ea_nil))))) (by decide)) (fun H1 e1 => ev_op (ev_var rfl) ev_c (rv_I (by decide : (0 : Int) < 5))) fun l H1 hl e1 => rv_ixL (sq_of hl) hp) fun H1 e1 => ?_
    have m0 : ∀ z : Int, 0 ≤ z % p := fun z => Int.emod_nonneg _ (by omega)
    have m1 : ∀ z : Int, z % p < p := fun z => Int.emod_lt_of_pos _ p0
    refine s_ret (ev_op (ev_op (ev_op (ev_op (ev_op (ev_op (ev_op (ev_var rfl) (ev_op ev_c (ev_var rfl) (rv_I (.inl ⟨by decide, by decide⟩))) rv_I0) ev_c rv_I0) (ev_var rfl) (rv_I p0)) ev_c (rv_I ⟨by decide, by decide, ?_⟩)) (ev_var rfl) (rv_I p0)) (ev_op ev_c (ev_op ev_c (ev_var rfl) (rv_I (.inl ⟨by decide, by decide⟩))) rv_I0) (rv_I (.inl ⟨?_, ?_⟩))) (ev_var rfl) (rv_I p0)) fun H2 e2 => q _ H2 (m0 _) (Int.lt_trans (m1 _) p1) (e1.trans e2)
    · have h1 := m0 (c + 7919 * k + 104729)
      have h2 := m1 (c + 7919 * k + 104729)
      generalize (c + 7919 * k + 104729) % p = z at h1 h2
      omega
    · have h1 := m0 (((c + 7919 * k + 104729) % p) ^ (5 : Int).toNat)
      omega
    · have h1 := m1 (((c + 7919 * k + 104729) % p) ^ (5 : Int).toNat)
      omega
abbrev s_draw : Stmt := top 85
theorem sc_draw : FnScope ["_law_script", "_law_k", "_law_cells", "_law_cell"] ["_law_script", "_law_k"] (defScope s_draw) := ⟨rfl, rfl, rfl, by decide +kernel, rfl, by decide +kernel, by decide +kernel⟩
theorem ok_draw {f : Addr} {fd : FuncData} (F : FnP K "_law_draw" s_draw f fd) : FnOk P w K mg base (CX0) 1 f fd ["_law_script", "_law_k"] (spDraw K) := by
  refine F.ok (CX := CX0) sc_draw (fun vs H Q E h => ?_) (fun cdv A outer s H vs Q E hr h => ?_)
  · obtain ⟨a, ns, k, rfl, _⟩ := h
    rfl
  · obtain ⟨a, ns, k, rfl, hS, hl, hk, k63, q⟩ := h
    have hu := hu_of hr
    have hu64 := hr.units
    refine ⟨_, PSs.nox (pss_cons (ps_set (i := 2) sc_draw.nd rfl (Or.inl rfl) (pe_ifExp (pt_cmpR (op_neD hu64) (pv 0) (pe_lst pa_nil) (nomark _)) (pe_slice sl_list (pv 0) (po_some (pv 1)) (po_some (pe_op op_add (pv 1) pe_int))) (pe_lst (pa_cons pe_int pa_nil))))
      (pss_one (ps_ret (pe_lst (pa_cons (pv 2) (pa_cons (pe_op op_mul pe_int (pv 1)) (pa_cons pe_int (pa_cons (pe_lc (own := [("_law_cell", 3)]) (g := gName 3) (by rfl) sc_draw.nd (pi_list (pv 2)) (blkOk_by (own := [("_law_cell", 3)]) (N := ["_law_script", "_law_k", "_law_cells", "_law_cell"]) (sc := defScope s_draw) (by decide +kernel)) (fun _ _ _ _ _ => pg_name (i := 3) sc_draw.nd rfl (Or.inl rfl)) (fun _ _ _ _ _ => pts_one (pt_cmpR op_ge (pv 3) (pe_op op_pow pe_int pe_int) (nomark _))) (fun _ _ _ _ _ => pv 3)) pa_nil)))))))), ?_⟩
    refine asg_p (M := fun v G => ∃ cs pc, v = .ref pc ∧ H pc = none ∧ cs ≠ [] ∧ cs.length ≤ 63 ∧ Ex H G ∧ G pc = some (.lst (cs.map V.int))) (fun Q' k' => ?_) ?_
    · refine ⟨_, rfl, (by show 0 ≤ sizeLine; decide), fun e he => ?_⟩
      have eE : Ex H (upd H e (.lst [])) := Ex.new he
      refine ⟨.list (ns.map PyData.int), .list [], .lst (ex_l eE hS) (dp_ints2 ns), .lst (.inl (.inl upd_same)) .nil, shaped_ints ns, rfl, _, rfl, ?_⟩
      rw [eqv_nil]
      by_cases hn : ns = []
      · subst hn
        refine no_of rfl ⟨(by show 1 ≤ sizeLine; decide), fun l hl2 => ?_⟩
        exact k' _ _ ⟨[0], l, rfl, fresh_back eE hl2, by decide, by decide, eE.trans (Ex.new hl2), upd_same⟩
      · have hb : (!ns.isEmpty) = true := by
          cases ns with
          | nil => exact absurd rfl hn
          | cons _ _ => rfl
        refine yes_of hb ⟨_, rfl, _, rfl, (k : Int), rfl, _, rfl, (k : Int), 9, rfl, rfl, _, rfl, a, _, rfl, ex_l eE hS, fun p hp => ?_⟩
        refine k' _ _ ⟨(ns.drop k).take 9, p, rfl, fresh_back eE hp, ?_, ?_, eE.trans (Ex.new hp), ?_⟩
        · have := hk hn
          intro z
          have := congrArg List.length z
          rw [List.length_take, List.length_drop, List.length_nil] at this
          omega
        · rw [List.length_take, List.length_drop]
          omega
        · rw [upd_same, cut9 (hk hn)]
    · rintro v G ⟨cs, pc, rfl, hpc, hne, hcl, eG, hG⟩
      refine ⟨_, rfl, _, rfl, 64, (k : Int), rfl, rfl, .inl ⟨by decide, by decide⟩, ?_⟩
      have hE := el_lcL (K := K) (t := tTest (tOp (rI0 fun i j => .bl (decide (j ≤ i))) (tVar 3) (tOp (rI CPow fun i j => .int (i ^ j.toNat)) (tC (.int 10)) (tC (.int 18))))) (te := tVar 3) (tl := tVar 2) (σ := [some (.ref a), some (.int (k : Int)), some (.ref pc), none]) (a := pc) (xs := cs.map V.int) (j := 3) (vs := [3]) (H := G) (fun i => decide ((10 : Int) ^ (18 : Int).toNat ≤ cs.getD i 0)) (fun i => V.int (cs.getD i 0)) (ev_var rfl) (sq_of hG) (by rw [List.length_map]; omega) (fun _ => rfl) (fun i x H5 e5 hx => by
        obtain rfl := int_atL hx
        exact et_test (ev_op (ev_var rfl) (ev_op ev_c ev_c (rv_I ⟨by decide, by decide, by decide⟩)) rv_I0)) (fun i x H5 e5 hx _ => by
        obtain rfl := int_atL hx
        exact ev_var rfl)
      dsimp only [tCons, tC]
      refine hE G (Ex.refl G) _ fun pg G1 hpg e1 h1 => ?_
      refine ⟨by show 4 ≤ sizeLine; decide, fun m hm => ?_⟩
      have pcne : pc ≠ pg := ne_of_none hG hpg
      have hpc1 := e1 _ _ hG
      have m1 : m ≠ pc := fun z => by
        rw [z, hpc1] at hm
        cases hm
      have m2 : m ≠ pg := fun z => by
        rw [z, h1] at hm
        cases hm
      refine q m pc pg cs _ ((eG.trans e1).trans (Ex.new hm)) (fresh_back (eG.trans e1) hm) hpc (fresh_back eG hpg) ⟨m1, m2, pcne, hne, by rw [upd_ne (Ne.symm m1)]; exact hpc1, 64 * k, 0, ((List.range cs.length).filter fun i => decide ((10 : Int) ^ (18 : Int).toNat ≤ cs.getD i 0)).map (fun i => cs.getD i 0), by rw [upd_same, Int.natCast_mul]; rfl, ?_, Nat.le_refl _, Int.le_refl _, ?_, ?_⟩
      · rw [upd_ne (Ne.symm m2), h1]
        unfold given
        rw [List.length_map, List.map_map]
        rfl
      · intro g hg
        obtain ⟨i, hi, rfl⟩ := List.mem_map.mp hg
        have := of_decide_eq_true (List.mem_filter.mp hi).2
        exact Int.lt_of_lt_of_le (by decide) this
      · rw [List.length_map]
        exact Nat.le_trans (List.length_filter_le _ _) (by rw [List.length_range]; exact hcl)
end
end D1
end
section
set_option Elab.async false
set_option linter.all false
set_option maxRecDepth 100000
set_option maxHeartbeats 4000000
/-! L2: _law_next -/
namespace D1
open PySem L2 Evl RZ ClX PySem.VX
theorem q_ifP {t : TT} {tu tz : TS} {D : Ends} {σ : L2.St} {H : Hp} {b : Bool} (M : Hp → Prop) (h : EvT t σ H b) (h1 : b = true → ∀ H1, Ex H H1 → ∀ D' : Ends, (∀ H2, M H2 → D'.nx σ H2) → tu D' σ H1) (h2 : b = false → ∀ H1, Ex H H1 → M H1) (k : ∀ H2, M H2 → tz D σ H2) : tSeq (tIfS t tu tNext) tz D σ H :=
  q_when h (fun hb H1 e1 => h1 hb H1 e1 { D with nx := tz D } k) (fun hb H1 e1 => k H1 (h2 hb H1 e1))
theorem et_neNil {K : PySem.W.Frag} {ta : TE} {σ : L2.St} {H : Hp} {p : Addr} {ls : List Int} (h : Ev ta σ H (.ref p)) (hp : SqL K H p (ls.map V.int)) : EvT (tTest (tOp (rNeD K) ta (tLst tNil))) σ H (!ls.isEmpty) := fun H1 e Q q =>
  h H1 e _ fun H2 e2 => ⟨(by show 0 ≤ sizeLine; decide), fun r hr => ⟨.list (ls.map PyData.int), .list [], .lst (ex_l ((e.trans e2).trans (Ex.new hr)) hp) (dp_ints2 ls), .lst (sq_of upd_same) .nil, shaped_ints ls, rfl, _, by rw [eqv_nil], q _ (e2.trans (Ex.new hr))⟩⟩
theorem dmk {m pc pg : Addr} {cs : List Int} {a j : Nat} {r : Int} {gs : List Int} {H : Hp} (h : DS m pc pg cs j H) (r0 : 0 ≤ r) (ha : a ≤ j) (hg : H pg = some (.lst (gs.map V.int))) (g0 : ∀ g ∈ gs, 0 < g) (gl : gs.length ≤ 63) : DS m pc pg cs j (upd H m (.lst [.ref pc, .int (a : Int), .int r, .ref pg])) :=
  ⟨h.mc, h.mg, h.cg, h.cne, by rw [upd_ne (Ne.symm h.mc)]; exact h.hc, a, r, gs, upd_same, by rw [upd_ne (Ne.symm h.mg)]; exact hg, ha, r0, g0, gl⟩
section
variable {P : Program} {w : World} {K : PySem.W.Frag} {mg : Str → Option Value} {base : Heap}
abbrev s_next : Stmt := top 86
theorem sc_next : FnScope ["_law_draw_here", "_law_many", "_law_found", "_law_cell"] ["_law_draw_here", "_law_many"] (defScope s_next) := ⟨rfl, rfl, rfl, by decide +kernel, rfl, by decide +kernel, by decide +kernel⟩
theorem ok_next {f : Addr} {fd : FuncData} (F : FnP K "_law_next" s_next f fd) {f_mixed : Addr} {fd_mixed : FuncData} (F_mixed : FnP K "_law_mixed" s_mixed f_mixed fd_mixed) (g_mixed : mg "_law_mixed" = some (.ref f_mixed)) (G_mixed : FnOk P w K mg base (CX0) 1 f_mixed fd_mixed ["_law_cell", "_law_k"] (spMixed)) (z_len : mg "len" = none) : FnOk P w K mg base (CX0) 2 f fd ["_law_draw_here", "_law_many"] (spNext) := by
  have b_mixed : Binds K fd_mixed ["_law_cell", "_law_k"] [] := F_mixed.bindsN fun _ _ _ _ _ _ us hl => match us, hl with | [_, _], _ => rfl
  refine F.ok (CX := CX0) sc_next (fun vs H Q E h => ?_) (fun cdv A outer s H vs Q E hr h => ?_)
  · obtain ⟨m, pc, pg, cs, j, n, rfl, _⟩ := h
    rfl
  · obtain ⟨m, pc, pg, cs, j, n, rfl, hD, hj, n0, n1, q⟩ := h
    have hu := hu_of hr
    have hu64 := hr.units
    have hr_mixed := hr
    refine ⟨_, PSs.nox (pss_cons (ps_if (PW.pt (pw_and (pt_cmpR op_eq (pe_ix ix_list (pv 0) pe_int (fun _ _ => rfl)) pe_int (nomark _)) (pw_and1 (pt_cmpR (op_neD hu64) (pe_ix ix_list (pv 0) pe_int (fun _ _ => rfl)) (pe_lst pa_nil) (nomark _))))) (pss_one (ps_asg (pe_bm PySem.F.plainAttrs_list PySem.F.slot_list_pop PySem.F.type_list_pop mt_popAt (pe_ix ix_list (pv 0) pe_int (fun _ _ => rfl)) (pa_cons pe_int pa_nil)) (pg_sub (pv 0) pe_int set_list))) pss_nil)
      (pss_cons (ps_if (pt_cmpR op_gt (pe_ix ix_list (pv 0) pe_int (fun _ _ => rfl)) pe_int (nomark _)) (pss_cons (ps_set (i := 2) sc_next.nd rfl (Or.inl rfl) (pe_op op_mod (pe_ix ix_list (pv 0) pe_int (fun _ _ => rfl)) (pv 1)))
      (pss_cons (ps_asg (pe_op op_fdivW (pe_ix ix_list (pv 0) pe_int (fun _ _ => rfl)) (pv 1)) (pg_sub (pv 0) pe_int set_list))
      (pss_one (ps_ret (pv 2))))) pss_nil)
      (pss_cons (ps_asg (pe_op op_add (pe_ix ix_list (pv 0) pe_int (fun _ _ => rfl)) pe_int) (pg_sub (pv 0) pe_int set_list))
      (pss_cons (ps_set (i := 3) sc_next.nd rfl (Or.inl rfl) (pe_ix ix_list (pe_ix ix_list (pv 0) pe_int (fun _ _ => rfl)) (pe_op op_mod (pe_ix ix_list (pv 0) pe_int (fun _ _ => rfl)) (pe_callB call_len_seq (by rfl) z_len PySem.boot_len (pa_cons (pe_ix ix_list (pv 0) pe_int (fun _ _ => rfl)) pa_nil))) (fun _ _ => rfl)))
      (pss_one (ps_ret (pe_op op_mod (pe_op op_fdiv (pe_op op_add (pe_op op_mul (pe_call G_mixed hr_mixed rfl g_mixed F_mixed.kp b_mixed .nil pass0 (pa_cons (pv 3) (pa_cons (pe_ix ix_list (pv 0) pe_int (fun _ _ => rfl)) pa_nil))) pe_int) (pe_call G_mixed hr_mixed rfl g_mixed F_mixed.kp b_mixed .nil pass0 (pa_cons (pv 3) (pa_cons (pe_op op_add (pe_ix ix_list (pv 0) pe_int (fun _ _ => rfl)) pe_int) pa_nil)))) pe_int) (pv 1)))))))), ?_⟩
    obtain ⟨a, r, gs, hm, hg, ha, r0, g0, gl⟩ := hD.ex
    refine q_ifP (M := RD m pc pg cs j H) (b := (r == 0) && !gs.isEmpty) (et_and (et_test (ev_eqI (ev_op (ev_var rfl) ev_c (rv_ixL (sq_of hm) rfl)) ev_c)) fun _ => et_neNil (ev_op (ev_var rfl) ev_c (rv_ixL (sq_of hm) rfl)) (sq_of hg)) (fun hb H1 e1 D' k' => ?_) (fun _ H1 e1 => .ofEx hD e1) (fun H2 rd => ?_)
    · cases gs with
      | nil =>
        rw [Bool.and_eq_true] at hb
        cases hb.2
      | cons g gs =>
        have hm1 := e1 _ _ hm
        have hg1 := e1 _ _ hg
        have hD1 : DS m pc pg cs j (upd H1 pg (.lst (gs.map V.int))) := ⟨hD.mc, hD.mg, hD.cg, hD.cne, by rw [upd_ne hD.cg]; exact e1 _ _ hD.hc, a, r, gs, by rw [upd_ne hD.mg]; exact hm1, upd_same, ha, r0, fun x hx => g0 x (List.mem_cons_of_mem _ hx), by rw [List.length_cons] at gl; omega⟩
        refine ⟨_, rfl, m, _, 3, .ref pg, rfl, rfl, sq_of hm1, rfl, .inl ⟨rfl, _, sq_of hg1⟩, pg, _, 0, 0, .int g, rfl, rfl, hg1, by decide, by decide, seq0 (by rw [List.length_map, List.length_cons]; omega), rfl, ?_⟩
        refine ⟨_, rfl, m, [.ref pc, .int (a : Int), .int r, .ref pg], 2, 2, rfl, rfl, by show (upd H1 pg _) m = _; rw [upd_ne hD.mg]; exact hm1, rfl, k' _ ⟨dmk hD1 (Int.le_of_lt (g0 g List.mem_cons_self)) ha upd_same (fun x hx => g0 x (List.mem_cons_of_mem _ hx)) (by rw [List.length_cons] at gl; omega), fun b o nc hb => ?_⟩⟩
        have n1 : b ≠ m := fun z => nc (.inl z)
        have n2 : b ≠ pg := fun z => nc (.inr z)
        rw [upd_ne n1, show (upd H1 pg (.lst ((List.map V.int (g :: gs)).eraseIdx 0))) b = _ from upd_ne n2]
        exact e1 _ _ hb
    · clear hm hg ha r0 g0 gl
      have hD2 := rd.inv
      obtain ⟨a, r, gs, hm, hg, ha, r0, g0, gl⟩ := hD2.ex
      have set2 : ∀ {H3 : Hp} {o : HO}, Ex H2 H3 → DS m pc pg cs (j + 1) (upd H3 m o) → RD m pc pg cs (j + 1) H (upd H3 m o) := fun {H3 o} e h => ⟨h, fun b u nc hb => by
        rw [upd_ne (fun z => nc (.inl z))]
        exact e _ _ (rd.keep b u nc hb)⟩
      have up1 : ∀ {H3 : Hp}, Ex H2 H3 → DS m pc pg cs (j + 1) H3 := fun {H3} e => DS.up ((frD m pc pg cs j).mono _ _ e hD2) (Nat.le_succ j)
      refine q_when (b := decide (0 < r)) (et_test (ev_gtI (ev_op (ev_var rfl) ev_c (rv_ixL (sq_of hm) rfl)) ev_c)) (fun hb H3 e3 => ?_) (fun hb H3 e3 => ?_)
      · have hm3 := e3 _ _ hm
        refine q_asg (v := .int (r % n)) (ev_op (ev_op (ev_var rfl) ev_c (rv_ixL (sq_of hm3) rfl)) (ev_var rfl) (rv_I n0)) fun H4 e4 => ?_
        have hm4 := e4 _ _ hm3
        refine q_setL (l := m) (j := 2) (v := .int (r / n)) hm4 (ev_op (ev_op (ev_var rfl) ev_c (rv_ixL (sq_of hm4) rfl)) (ev_var rfl) (rv_I ⟨n0, n1⟩)) (ev_var rfl) ev_c (by show 2 < 4; decide) fun H5 e5 => ?_
        have e := (e3.trans e4).trans e5
        refine s_ret (ev_var rfl) fun H6 e6 => q _ H6 (Int.emod_nonneg _ (by omega)) (Int.emod_lt_of_pos _ n0) (RD.then (set2 (o := .lst [.ref pc, .int (a : Int), .int (r / n), .ref pg]) e (dmk (up1 e) (Int.ediv_nonneg r0 (Int.le_of_lt n0)) (by omega) (e _ _ hg) g0 gl)) (.ofEx (dmk (up1 e) (Int.ediv_nonneg r0 (Int.le_of_lt n0)) (by omega) (e _ _ hg) g0 gl) e6))
      · have hm3 := e3 _ _ hm
        refine q_setL (l := m) (j := 1) (v := .int ((a : Int) + 1)) hm3 (ev_op (ev_op (ev_var rfl) ev_c (rv_ixL (sq_of hm3) rfl)) ev_c rv_I0) (ev_var rfl) ev_c (by show 1 < 4; decide) fun H4 e4 => ?_
        change tSeq _ _ _ _ (upd H4 m (.lst [.ref pc, .int ((a : Int) + 1), .int r, .ref pg]))
        have e := e3.trans e4
        have hD4 : DS m pc pg cs (j + 1) (upd H4 m (.lst [.ref pc, .int ((a : Int) + 1), .int r, .ref pg])) := dmk (a := a + 1) (up1 e) r0 (by omega) (e _ _ hg) g0 gl
        have rd4 := set2 (o := .lst [.ref pc, .int ((a : Int) + 1), .int r, .ref pg]) e hD4
        have hm5 : (upd H4 m (.lst [.ref pc, .int ((a : Int) + 1), .int r, .ref pg])) m = some (.lst [.ref pc, .int ((a : Int) + 1), .int r, .ref pg]) := upd_same
        have hc5 := hD4.hc
        have l0 : 0 < cs.length := List.length_pos_iff.mpr hD.cne
        have hi : ∃ c : Int, atI (cs.map V.int) (((a : Int) + 1) % (cs.length : Int)) = some (.int c) := by
          have h0 := Int.emod_nonneg ((a : Int) + 1) (b := (cs.length : Int)) (by omega)
          have h1 := Int.emod_lt_of_pos ((a : Int) + 1) (b := (cs.length : Int)) (by omega)
          have h2 : (((a : Int) + 1) % (cs.length : Int)).toNat < cs.length := by omega
          exact ⟨_, atI_of h0 (int_get (List.getElem?_eq_getElem h2))⟩
        obtain ⟨c, hc⟩ := hi
        generalize (upd H4 m (.lst [.ref pc, .int ((a : Int) + 1), .int r, .ref pg])) = G at hD4 rd4 hm5 hc5 ⊢
        refine q_asg (v := .int c) (ev_op (ev_op (ev_var rfl) ev_c (rv_ixL (sq_of hm5) rfl)) (ev_op (ev_op (ev_var rfl) ev_c (rv_ixL (sq_of hm5) rfl)) (ev_is (ev_lenQ (q := true) (ev_op (ev_var rfl) ev_c (rv_ixL (sq_of hm5) rfl)) (.inl ⟨rfl, sq_of hc5⟩)) (by rw [List.length_map])) (rv_I (by omega : (0 : Int) < (cs.length : Int)))) (rv_ixL (sq_of hc5) hc)) fun H6 e6 => ?_
        have hm6 := e6 _ _ hm5
        refine ⟨_, rfl, _, rfl, m, _, 1, _, rfl, rfl, sq_of hm6, rfl, c, _, rfl, by omega, by omega, fun x1 H7 x0 x2 e7 => ?_⟩
        have hm7 := e7 _ _ hm6
        refine ⟨x1, 2147483647, rfl, rfl, .inr ⟨by decide, by decide⟩, ?_⟩
        refine ⟨_, rfl, _, rfl, m, _, 1, _, rfl, rfl, sq_of hm7, rfl, _, _, rfl, rfl, c, _, rfl, by omega, by omega, fun y1 H8 y0 y2 e8 => ?_⟩
        refine ⟨_, y1, rfl, rfl, _, 23, rfl, rfl, ⟨by decide, by decide⟩, _, rfl, _, n, rfl, rfl, n0, ?_⟩
        exact q _ H8 (Int.emod_nonneg _ (by omega)) (Int.emod_lt_of_pos _ n0) (rd4.then (.ofEx hD4 ((e6.trans e7).trans e8)))
end
end D1
end
section
set_option Elab.async false
set_option linter.all false
set_option maxRecDepth 100000
set_option maxHeartbeats 4000000
/-! L3: the law's rings, ZERO, ONE -/
namespace D1
open PySem L2 Evl RZ ClX PySem.VX
def costR : Nat → Nat
  | 0 => 3
  | d + 1 => 2 * costR d + 1
def spLRing (n : Nat) : Sp := fun vs H Q _ => ∃ (m pc pg : Addr) (cs : List Int) (j d : Nat), vs = [.ref m, .int (d : Int)] ∧ d < n ∧ DS m pc pg cs j H ∧ j + costR d ≤ 100000 ∧ ∀ (k : RK) v H', k.ok → k.depth ≤ d → RD m pc pg cs (j + costR d) H H' → DtAt H' v (madeD k) → Q v H'
def spLZero (n : Nat) : Sp := fun vs H Q _ => ∃ (v : V) (k : RK), vs = [v] ∧ DtAt H v (madeD k) ∧ k.depth < n ∧ ∀ x H', Ex H H' → DtAt H' x (zeroD k) → Q x H'
def spLOne (n : Nat) : Sp := fun vs H Q _ => ∃ (v : V) (k : RK), vs = [v] ∧ DtAt H v (madeD k) ∧ k.depth < n ∧ k.ok ∧ ∀ x H', Ex H H' → DtAt H' x (oneD k) → Q x H'
def zeroV (t : Addr) : RK → V
  | .truth => .bl false
  | .share => .ref t
  | .least => .str "none"
  | .most => .str "none"
  | _ => .int 0
def zeroKv (t : Addr) : List (Key × V) := [(.inr "truth", .bl false), (.inr "share", .ref t), (.inr "least", .str "none"), (.inr "most", .str "none")]
theorem zero_get (t : Addr) {k : RK} (hk : ∀ a b, k ≠ .pair a b) : (valV (mergeK [] (zeroKv t)) (.inr (nameOf k) : Key)).getD (.int 0) = zeroV t k := by
  cases k with
  | pair a b => exact absurd rfl (hk a b)
  | _ => rfl
theorem zero_at {H : Hp} {t : Addr} (h : H t = some (.tup [.int 0, .int 1])) {k : RK} (hk : ∀ a b, k ≠ .pair a b) : DtAt H (zeroV t k) (zeroD k) := by
  cases k with
  | pair a b => exact absurd rfl (hk a b)
  | share => exact .tup h (.cons (.int 0) (.cons (.int 1) .nil))
  | truth => exact .bl false
  | least => exact .str _
  | most => exact .str _
  | _ => exact .int 0
def oneV (t : Addr) : RK → V
  | .truth => .bl true
  | .count => .int 1
  | .narrow => .str "endless"
  | .share => .ref t
  | _ => .int 0
def oneKv (t : Addr) : List (Key × V) := [(.inr "truth", .bl true), (.inr "count", .int 1), (.inr "narrow", .str "endless"), (.inr "share", .ref t)]
theorem one_get (t : Addr) {k : RK} (hk : ∀ a b, k ≠ .pair a b) : (valV (mergeK [] (oneKv t)) (.inr (nameOf k) : Key)).getD (.int 0) = oneV t k := by
  cases k with
  | pair a b => exact absurd rfl (hk a b)
  | _ => rfl
theorem one_at {H : Hp} {t : Addr} (h : H t = some (.tup [.int 1, .int 1])) {k : RK} (hk : ∀ a b, k ≠ .pair a b) (hl : ∀ n, k ≠ .lot n) : DtAt H (oneV t k) (oneD k) := by
  cases k with
  | pair a b => exact absurd rfl (hk a b)
  | lot n => exact absurd rfl (hl n)
  | share => exact .tup h (.cons (.int 1) (.cons (.int 1) .nil))
  | truth => exact .bl true
  | narrow => exact .str _
  | count => exact .int 1
  | _ => exact .int 0
theorem is_pair {k : RK} : (∀ a b, k ≠ .pair a b) ∨ ∃ a b, k = .pair a b := by cases k <;> first | exact .inr ⟨_, _, rfl⟩ | exact .inl fun a b h => by cases h
theorem name_pair {k : RK} (hk : ∀ a b, k ≠ .pair a b) : nameOf k ≠ ("pair" : Str) := by
  cases k with
  | pair a b => exact absurd rfl (hk a b)
  | _ => intro h; exact absurd h (by first | decide | (show ¬(("lot" : Str) = "pair"); decide))
theorem name_lot {k : RK} (hk : ∀ n, k ≠ .lot n) : nameOf k ≠ ("lot" : Str) := by
  cases k with
  | lot n => exact absurd rfl (hk n)
  | _ => intro h; exact absurd h (by first | decide | (show ¬(("pair" : Str) = "lot"); decide))
/-- made[0] == 'name' -/
theorem et_kind {K : PySem.W.Frag} {te : TE} {σ : L2.St} {H : Hp} {a : Addr} {xs : List V} {k : RK} {z : Str} (h : Ev te σ H (.ref a)) (ha : H a = some (.tup (.str (nameOf k) :: xs))) : EvT (tTest (tOp rEq (tOp (rIxT K) te (tC (.int 0))) (tC (.str z)))) σ H (nameOf k == z) :=
  et_test (ev_eqS (ev_op h ev_c (rv_ixT (st_of ha) (v := .str (nameOf k)) (atI_of (Int.le_refl 0) rfl))) ev_c)
section
variable {P : Program} {w : World} {K : PySem.W.Frag} {mg : Str → Option Value} {base : Heap}
abbrev s_zero : Stmt := top 88
theorem sc_zero : FnScope ["_law_made"] ["_law_made"] (defScope s_zero) := ⟨rfl, rfl, rfl, by decide +kernel, rfl, by decide +kernel, by decide +kernel⟩
theorem ok_zero {f : Addr} {fd : FuncData} (F : FnP K "_law_zero" s_zero f fd) (g_zero : mg "_law_zero" = some (.ref f)) : ∀ d : Nat, FnOk P w K mg base CX0 (d + 1) f fd ["_law_made"] (spLZero d) := by
  have F_zero := F
  have b_zero : Binds K fd ["_law_made"] [] := F_zero.bindsN fun _ _ _ _ _ _ us hl => match us, hl with | [_], _ => rfl
  intro d
  induction d with
  | zero =>
    refine fn_never fun vs H Q E h => ?_
    obtain ⟨v, k, rfl, hM, hn, q⟩ := h
    exact Nat.not_lt_zero _ hn
  | succ d ih =>
    have G_zero := ih
    refine F.ok sc_zero (fun vs H Q E h => ?_) (fun cdv A outer s H vs Q E hr h => ?_)
    · obtain ⟨v, k, rfl, _⟩ := h
      rfl
    · obtain ⟨v, k, rfl, hM, hn, q⟩ := h
      have hu := hu_of hr
      have hu64 := hr.units
      have hr_zero := hr
      refine ⟨_, PSs.nox (pss_cons (ps_if (pt_cmpR op_eq (pe_ix ix_tup (pv 0) pe_int (fun _ _ => rfl)) pe_str (nomark _)) (pss_one (ps_ret (pe_tup (pa_cons (pe_call G_zero hr_zero rfl g_zero F_zero.kp b_zero .nil pass0 (pa_cons (pe_ix ix_tup (pv 0) pe_int (fun _ _ => rfl)) pa_nil)) (pa_cons (pe_call G_zero hr_zero rfl g_zero F_zero.kp b_zero .nil pass0 (pa_cons (pe_ix ix_tup (pv 0) pe_int (fun _ _ => rfl)) pa_nil)) pa_nil))))) pss_nil)
      (pss_one (ps_ret (pe_dget2 hu (pe_disp (pps_cons pe_str pe_bl (pps_cons pe_str (pe_tup (pa_cons pe_int (pa_cons pe_int pa_nil))) (pps_cons pe_str pe_str (pps_cons pe_str pe_str pps_nil)))) (by rfl) (by rfl) (fun z => by cases z) (by decide)) (pe_ix ix_tup (pv 0) pe_int (fun _ _ => rfl)) pe_int ⟨rfl, rfl, rfl, rfl⟩)))), ?_⟩
      obtain ⟨a, xs, rfl, ha, h1, h2, h3⟩ := made_at hM
      rcases is_pair (k := k) with hp | ⟨kl, kr, rfl⟩
      · refine q_when (b := false) (et_is (et_kind (ev_var rfl) ha) (beq_eq_false_iff_ne.mpr (name_pair hp))) (fun hb => (by cases hb)) (fun _ H1 e1 => ?_)
        refine fun p hpn => ⟨by show 2 ≤ sizeLine; decide, fun t ht => ?_⟩
        have hpt : p ≠ t := fun z => by rw [← z, upd_same] at ht; cases ht
        have e2 : Ex H1 (upd (upd H1 p (.dK [])) t (.tup [.int 0, .int 1])) := (Ex.new hpn).trans (Ex.new ht)
        refine ⟨by rw [upd_ne hpt]; exact upd_same, zeroKv t, rfl, by show 4 ≤ 15; decide, p, rfl, .inl ⟨_, .inl upd_same⟩, ?_⟩
        generalize hG : (upd (upd (upd H1 p (.dK [])) t (.tup [.int 0, .int 1])) p (.dK (mergeK [] (zeroKv t)))) = G
        have eG : Ex H1 G := hG ▸ Ex.mut e2 hpn
        have hpG : G p = some (.dK (mergeK [] (zeroKv t))) := by rw [← hG, upd_same]
        have htG : G t = some (.tup [.int 0, .int 1]) := by rw [← hG, upd_ne (Ne.symm hpt), upd_same]
        refine ⟨_, rfl, a, _, 0, .str (nameOf k), rfl, rfl, st_of (eG _ _ (e1 _ _ ha)), atI_of (Int.le_refl 0) rfl, _, DGet.k (k := .inr (nameOf k)) hpG, ?_⟩
        rw [zero_get t hp]
        exact q _ _ (e1.trans eG) (zero_at htG hp)
      · obtain ⟨u, u', rfl, hy, hz⟩ := h3 kl kr rfl
        refine q_when (b := true) (et_is (et_kind (ev_var rfl) ha) (by show (("pair" : Str) == "pair") = true; decide +kernel)) (fun _ H1 e1 => ?_) (fun hb => (by cases hb))
        have ha1 := e1 _ _ ha
        refine ⟨_, rfl, a, _, 1, u, rfl, rfl, st_of ha1, rfl, u, kl, rfl, hy.ex e1, depth_l hn, fun x H2 e2 hx => ?_⟩
        have e12 := e1.trans e2
        refine ⟨_, rfl, a, _, 2, u', rfl, rfl, st_of (e12 _ _ ha), rfl, u', kr, rfl, hz.ex e12, depth_r hn, fun y H3 e3 hy2 => ⟨by show 2 ≤ sizeLine; decide, fun l hl => ?_⟩⟩
        exact q _ _ ((e12.trans e3).trans (Ex.new hl)) (.new hl (.cons (hx.ex e3) (.cons hy2 .nil)))
abbrev s_one : Stmt := top 89
theorem sc_one : FnScope ["_law_made"] ["_law_made"] (defScope s_one) := ⟨rfl, rfl, rfl, by decide +kernel, rfl, by decide +kernel, by decide +kernel⟩
theorem ok_one {f : Addr} {fd : FuncData} (F : FnP K "_law_one" s_one f fd) (g_one : mg "_law_one" = some (.ref f)) : ∀ d : Nat, FnOk P w K mg base CX0 (d + 1) f fd ["_law_made"] (spLOne d) := by
  have F_one := F
  have b_one : Binds K fd ["_law_made"] [] := F_one.bindsN fun _ _ _ _ _ _ us hl => match us, hl with | [_], _ => rfl
  intro d
  induction d with
  | zero =>
    refine fn_never fun vs H Q E h => ?_
    obtain ⟨v, k, rfl, hM, hn, ok, q⟩ := h
    exact Nat.not_lt_zero _ hn
  | succ d ih =>
    have G_one := ih
    refine F.ok sc_one (fun vs H Q E h => ?_) (fun cdv A outer s H vs Q E hr h => ?_)
    · obtain ⟨v, k, rfl, _⟩ := h
      rfl
    · obtain ⟨v, k, rfl, hM, hn, ok, q⟩ := h
      have hu := hu_of hr
      have hu64 := hr.units
      have hr_one := hr
      refine ⟨_, PSs.nox (pss_cons (ps_if (pt_cmpR op_eq (pe_ix ix_tup (pv 0) pe_int (fun _ _ => rfl)) pe_str (nomark _)) (pss_one (ps_ret (pe_tup (pa_cons (pe_call G_one hr_one rfl g_one F_one.kp b_one .nil pass0 (pa_cons (pe_ix ix_tup (pv 0) pe_int (fun _ _ => rfl)) pa_nil)) (pa_cons (pe_call G_one hr_one rfl g_one F_one.kp b_one .nil pass0 (pa_cons (pe_ix ix_tup (pv 0) pe_int (fun _ _ => rfl)) pa_nil)) pa_nil))))) pss_nil)
      (pss_cons (ps_if (pt_cmpR op_eq (pe_ix ix_tup (pv 0) pe_int (fun _ _ => rfl)) pe_str (nomark _)) (pss_one (ps_ret (pe_op op_sub (pe_op op_shl pe_int (pe_ix ix_tup (pv 0) pe_int (fun _ _ => rfl))) pe_int))) pss_nil)
      (pss_one (ps_ret (pe_dget2 hu (pe_disp (pps_cons pe_str pe_bl (pps_cons pe_str pe_int (pps_cons pe_str pe_str (pps_cons pe_str (pe_tup (pa_cons pe_int (pa_cons pe_int pa_nil))) pps_nil)))) (by rfl) (by rfl) (fun z => by cases z) (by decide)) (pe_ix ix_tup (pv 0) pe_int (fun _ _ => rfl)) pe_int ⟨rfl, rfl, rfl, rfl⟩))))), ?_⟩
      obtain ⟨a, xs, rfl, ha, h1, h2, h3⟩ := made_at hM
      rcases is_pair (k := k) with hp | ⟨kl, kr, rfl⟩
      · refine q_when (b := false) (et_is (et_kind (ev_var rfl) ha) (beq_eq_false_iff_ne.mpr (name_pair hp))) (fun hb => (by cases hb)) (fun _ H0 e0 => ?_)
        rcases is_lot (k := k) with hnl | ⟨n, rfl⟩
        · refine q_when (b := false) (et_is (et_kind (ev_var rfl) (e0 _ _ ha)) (beq_eq_false_iff_ne.mpr (name_lot hnl))) (fun hb => (by cases hb)) (fun _ H1 e1 => ?_)
          replace e1 := e0.trans e1
          refine fun p hpn => ⟨by show 2 ≤ sizeLine; decide, fun t ht => ?_⟩
          have hpt : p ≠ t := fun z => by rw [← z, upd_same] at ht; cases ht
          have e2 : Ex H1 (upd (upd H1 p (.dK [])) t (.tup [.int 1, .int 1])) := (Ex.new hpn).trans (Ex.new ht)
          refine ⟨by rw [upd_ne hpt]; exact upd_same, oneKv t, rfl, by show 4 ≤ 15; decide, p, rfl, .inl ⟨_, .inl upd_same⟩, ?_⟩
          generalize hG : (upd (upd (upd H1 p (.dK [])) t (.tup [.int 1, .int 1])) p (.dK (mergeK [] (oneKv t)))) = G
          have eG : Ex H1 G := hG ▸ Ex.mut e2 hpn
          have hpG : G p = some (.dK (mergeK [] (oneKv t))) := by rw [← hG, upd_same]
          have htG : G t = some (.tup [.int 1, .int 1]) := by rw [← hG, upd_ne (Ne.symm hpt), upd_same]
          refine ⟨_, rfl, a, _, 0, .str (nameOf k), rfl, rfl, st_of (eG _ _ (e1 _ _ ha)), atI_of (Int.le_refl 0) rfl, _, DGet.k (k := .inr (nameOf k)) hpG, ?_⟩
          rw [one_get t hp]
          exact q _ _ (e1.trans eG) (one_at htG hp hnl)
        · obtain rfl := h2 n rfl
          refine q_when (b := true) (et_is (et_kind (ev_var rfl) (e0 _ _ ha)) (by show (("lot" : Str) == "lot") = true; decide +kernel)) (fun _ H1 e1 => ?_) (fun hb => (by cases hb))
          replace e1 := e0.trans e1
          have n12 : n ≤ 12 := ok.2
          refine s_ret (ev_op (ev_op ev_c (ev_op (ev_var rfl) ev_c (rv_ixT (st_of (e1 _ _ ha)) (v := .int (n : Int)) rfl)) (rv_I ⟨by omega, by omega, by decide⟩)) ev_c rv_I0) fun H2 e2 => q _ H2 (e1.trans e2) ?_
          have he : (1 : Int) * 2 ^ ((n : Int)).toNat - 1 = 2 ^ n - 1 := by rw [Int.one_mul, Int.toNat_natCast]
          show DtAt H2 (.int ((1 : Int) * 2 ^ ((n : Int)).toNat - 1)) (.int (2 ^ n - 1))
          rw [he]
          exact .int _
      · obtain ⟨u, u', rfl, hy, hz⟩ := h3 kl kr rfl
        refine q_when (b := true) (et_is (et_kind (ev_var rfl) ha) (by show (("pair" : Str) == "pair") = true; decide +kernel)) (fun _ H1 e1 => ?_) (fun hb => (by cases hb))
        have ha1 := e1 _ _ ha
        refine ⟨_, rfl, a, _, 1, u, rfl, rfl, st_of ha1, rfl, u, kl, rfl, hy.ex e1, depth_l hn, ok.1, fun x H2 e2 hx => ?_⟩
        have e12 := e1.trans e2
        refine ⟨_, rfl, a, _, 2, u', rfl, rfl, st_of (e12 _ _ ha), rfl, u', kr, rfl, hz.ex e12, depth_r hn, ok.2, fun y H3 e3 hy2 => ⟨by show 2 ≤ sizeLine; decide, fun l hl => ?_⟩⟩
        exact q _ _ ((e12.trans e3).trans (Ex.new hl)) (.new hl (.cons (hx.ex e3) (.cons hy2 .nil)))
def kindN : Nat → RK
  | 0 => .truth
  | 1 => .count
  | 2 => .least
  | 3 => .most
  | 4 => .narrow
  | _ => .share
theorem kindN_ok (i : Nat) : (kindN i).ok ∧ (kindN i).depth = 0 ∧ madeD (kindN i) = .tuple [.str (nameOf (kindN i))] := by
  unfold kindN
  split <;> exact ⟨True.intro, rfl, rfl⟩
abbrev s_ring : Stmt := top 87
theorem sc_ring : FnScope ["_law_draw_here", "_law_deep", "_law_way"] ["_law_draw_here", "_law_deep"] (defScope s_ring) := ⟨rfl, rfl, rfl, by decide +kernel, rfl, by decide +kernel, by decide +kernel⟩
theorem ok_ring {f : Addr} {fd : FuncData} (F : FnP K "_law_ring" s_ring f fd) (g_ring : mg "_law_ring" = some (.ref f)) {f_next : Addr} {fd_next : FuncData} (F_next : FnP K "_law_next" s_next f_next fd_next) (g_next : mg "_law_next" = some (.ref f_next)) (G_next : FnOk P w K mg base (CX0) 2 f_next fd_next ["_law_draw_here", "_law_many"] (spNext)) : ∀ d : Nat, FnOk P w K mg base CX0 (d + 2) f fd ["_law_draw_here", "_law_deep"] (spLRing d) := by
  have F_ring := F
  have b_ring : Binds K fd ["_law_draw_here", "_law_deep"] [] := F_ring.bindsN fun _ _ _ _ _ _ us hl => match us, hl with | [_, _], _ => rfl
  have b_next : Binds K fd_next ["_law_draw_here", "_law_many"] [] := F_next.bindsN fun _ _ _ _ _ _ us hl => match us, hl with | [_, _], _ => rfl
  intro d
  induction d with
  | zero =>
    refine fn_never fun vs H Q E h => ?_
    obtain ⟨m, pc, pg, cs, j, e, rfl, hn, hD, hj, q⟩ := h
    exact Nat.not_lt_zero _ hn
  | succ d ih =>
    have G_ring := ih
    refine F.ok sc_ring (fun vs H Q E h => ?_) (fun cdv A outer s H vs Q E hr h => ?_)
    · obtain ⟨m, pc, pg, cs, j, e, rfl, _⟩ := h
      rfl
    · obtain ⟨m, pc, pg, cs, j, e, rfl, hn, hD, hj, q⟩ := h
      have hu := hu_of hr
      have hu64 := hr.units
      have hr_ring := hr
      have hr_next := hr.mono (by omega : 2 ≤ d + 2)
      refine ⟨_, PSs.nox (pss_cons (ps_set (i := 2) sc_ring.nd rfl (Or.inl rfl) (pe_call G_next hr_next rfl g_next F_next.kp b_next .nil pass0 (pa_cons (pv 0) (pa_cons pe_int pa_nil))))
      (pss_cons (ps_if (PW.pt (pw_and (pt_cmpR op_gt (pv 2) pe_int (nomark _)) (pw_and1 (pt_cmpR op_gt (pv 1) pe_int (nomark _))))) (pss_one (ps_ret (pe_tup (pa_cons pe_str (pa_cons (pe_call G_ring hr_ring rfl g_ring F_ring.kp b_ring .nil pass0 (pa_cons (pv 0) (pa_cons (pe_op op_sub (pv 1) pe_int) pa_nil))) (pa_cons (pe_call G_ring hr_ring rfl g_ring F_ring.kp b_ring .nil pass0 (pa_cons (pv 0) (pa_cons (pe_op op_sub (pv 1) pe_int) pa_nil))) pa_nil)))))) pss_nil)
      (pss_cons (ps_if (pt_cmpR op_gt (pv 2) pe_int (nomark _)) (pss_one (ps_ret (pe_tup (pa_cons pe_str (pa_cons (pe_op op_add pe_int (pe_call G_next hr_next rfl g_next F_next.kp b_next .nil pass0 (pa_cons (pv 0) (pa_cons pe_int pa_nil)))) pa_nil))))) pss_nil)
      (pss_one (ps_ret (pe_tup (pa_cons (pe_ix ix_list (pe_lst (pa_cons pe_str (pa_cons pe_str (pa_cons pe_str (pa_cons pe_str (pa_cons pe_str (pa_cons pe_str pa_nil))))))) (pv 2) (fun _ _ => rfl)) pa_nil))))))), ?_⟩
      refine asg_step ?_
      have hj3 : 3 ≤ costR e := by
        clear hj q
        induction e with
        | zero => exact Nat.le_refl 3
        | succ e ih =>
          have := ih (by omega)
          show 3 ≤ 2 * costR e + 1
          omega
      refine ⟨_, rfl, m, pc, pg, cs, j, 9, rfl, hD, by omega, by decide, by decide, fun x H1 x0 x1 r1 => ?_⟩
      have hD1 := r1.inv
      have hj1 : costR e ≤ 100000 - j := by omega
      refine q_when (b := decide (6 < x) && decide (0 < (e : Int))) (et_and (et_test (ev_gtI (ev_var rfl) ev_c)) fun _ => et_test (ev_gtI (ev_var rfl) ev_c)) (fun hb H2 e2 => ?_) (fun hb H2 e2 => ?_)
      · rw [Bool.and_eq_true, decide_eq_true_eq, decide_eq_true_eq] at hb
        obtain ⟨e', rfl⟩ : ∃ e', e = e' + 1 := ⟨e - 1, by omega⟩
        have hc : costR (e' + 1) = 2 * costR e' + 1 := rfl
        have r2 : RD m pc pg cs (j + 1) H H2 := r1.then (.ofEx hD1 e2)
        have vseq : [V.ref m, V.int ((((e' + 1 : Nat) : Int)) - 1)] = [V.ref m, V.int (e' : Int)] := by
          rw [show (((e' + 1 : Nat) : Int)) - 1 = (e' : Int) by omega]
        refine ⟨_, rfl, _, rfl, _, _, rfl, rfl, m, pc, pg, cs, j + 1, e', vseq, by omega, r2.inv, by omega, fun kl u H3 okl dl r3 hu3 => ?_⟩
        refine ⟨_, rfl, _, rfl, _, _, rfl, rfl, m, pc, pg, cs, j + 1 + costR e', e', vseq, by omega, r3.inv, by omega, fun kr u2 H4 okr dr r4 hu4 => ⟨by show 3 ≤ sizeLine; decide, fun l hl => ?_⟩⟩
        have hu3' := hu3.kp (r4.kp r3.inv)
        refine q (.pair kl kr) _ _ ⟨okl, okr⟩ (by show max kl.depth kr.depth + 1 ≤ e' + 1; omega) ?_ (.new hl (.cons (.str _) (.cons hu3' (.cons hu4 .nil))))
        refine RD.up (((r2.then r3).then r4).then (.ofEx r4.inv (Ex.new hl))) (by omega)
      · have r2 : RD m pc pg cs (j + 1) H H2 := r1.then (.ofEx hD1 e2)
        refine q_when (b := decide (5 < x)) (et_test (ev_gtI (ev_var rfl) ev_c)) (fun hb2 H3 e3 => ?_) (fun hb2 H3 e3 => ?_)
        · refine ⟨_, rfl, m, pc, pg, cs, j + 1, 12, rfl, (RD.ofEx r2.inv e3).inv, by omega, by decide, by decide, fun y H4 y0 y1 r4 => ⟨1, y, rfl, rfl, by show 2 ≤ sizeLine; decide, fun l hl => ?_⟩⟩
          obtain ⟨n, rfl⟩ : ∃ n : Nat, y = (n : Int) := ⟨y.toNat, by omega⟩
          refine q (.lot (n + 1)) _ _ ⟨by omega, by omega⟩ (Nat.zero_le _) ?_ (.new hl (.cons (.str _) (.cons (by show DtAt H4 (.int ((1 : Int) + (n : Int))) (.int ((n + 1 : Nat) : Int)); rw [show (1 : Int) + (n : Int) = ((n + 1 : Nat) : Int) by omega]; exact .int _) .nil)))
          exact RD.up (((r2.then (.ofEx r2.inv e3)).then r4).then (.ofEx r4.inv (Ex.new hl))) (by omega)
        · have hx5 : x ≤ 5 := by
            have := of_decide_eq_false hb2
            omega
          obtain ⟨n, rfl⟩ : ∃ n : Nat, x = (n : Int) := ⟨x.toNat, by omega⟩
          have hat : atI [V.str "truth", .str "count", .str "least", .str "most", .str "narrow", .str "share"] (n : Int) = some (.str (nameOf (kindN n))) := by
            have h6 : n = 0 ∨ n = 1 ∨ n = 2 ∨ n = 3 ∨ n = 4 ∨ n = 5 := by omega
            rcases h6 with rfl | rfl | rfl | rfl | rfl | rfl <;> rfl
          obtain ⟨ok, dp, md⟩ := kindN_ok n
          refine s_retU (eu_tup (ea_cons (ev_opL1 (el_lst (ea_cons ev_c (ea_cons ev_c (ea_cons ev_c (ea_cons ev_c (ea_cons ev_c (ea_cons ev_c ea_nil)))))) (by show 6 ≤ 100000; decide)) (fun H1 e1 => ev_var rfl) fun l H1 hl e1 => rv_ixL (sq_of hl) hat) ea_nil) (by show 1 ≤ 100000; decide)) fun l H4 hl e4 h4 => ?_
          refine q (kindN n) _ _ ok (by omega) (RD.up ((r2.then (.ofEx r2.inv e3)).then (.ofEx (RD.ofEx r2.inv e3).inv e4)) (by omega)) ?_
          rw [md]
          exact .tup h4 (.cons (.str _) .nil)
end
end D1
end
section
set_option Elab.async false
set_option linter.all false
set_option maxRecDepth 100000
set_option maxHeartbeats 4000000
/-! L4: the law's lowest terms, products -/
namespace D1
open PySem L2 Evl RZ ClX PySem.VX
theorem par_step {i j : Nat} {t : TA} {z : TS} {D : Ends} {σ : L2.St} {H : Hp} (h : t σ H fun vs H1 => ∃ v w, vs = [v, w] ∧ z D ((σ.set i (some v)).set j (some w)) H1) : tSeq (tPar i j t) z D σ H := h
theorem s_par {i j : Nat} {t : TA} {D : Ends} {σ : L2.St} {H : Hp} (h : t σ H fun vs H1 => ∃ v w, vs = [v, w] ∧ D.nx ((σ.set i (some v)).set j (some w)) H1) : tPar i j t D σ H := h
theorem ret_call {sp : Sp} {dvs vs : List V} {E : XK} {t : TA} {D : Ends} {σ : L2.St} {H : Hp} (h : EvA t σ H vs) (k : ∀ H1, Ex H H1 → sp (vs ++ dvs) H1 D.rt E) : tRet (tCall sp dvs E t) D σ H := h H (Ex.refl H) _ k
def spLowest : Sp := fun vs H Q _ => ∃ p q : Nat, vs = [.int (p : Int), .int (q : Int)] ∧ 0 < q ∧ q < 2 ^ 8100 ∧ ∀ r H', Ex H H' → DtAt H' r (low p q) → Q r H'
def spLTimes (n : Nat) : Sp := fun vs H Q _ => ∃ (v x y : V) (k : RK) (dx dy : PyData), vs = [v, x, y] ∧ DtAt H v (madeD k) ∧ k.depth < n ∧ DtAt H x dx ∧ DtAt H y dy ∧ goodB k dx = true ∧ goodB k dy = true ∧ Sz 4000 dx ∧ Sz 4000 dy ∧ ∀ r H', Ex H H' → DtAt H' r (times k dx dy) → Q r H'
theorem narrX {a b : PyData} (ha : cnGood a = true) (hb : cnGood b = true) (h : isE a = true) : narrT a b = b := by
  rcases good_cn ha with rfl | ⟨i, rfl, hi⟩
  · rfl
  · cases h
theorem narrY {a b : PyData} (ha : cnGood a = true) (hb : cnGood b = true) (h : isE a = false) (h2 : (isE a || isE b) = true) : narrT a b = a := by
  rcases good_cn ha with rfl | ⟨i, rfl, hi⟩
  · cases h
  · rcases good_cn hb with rfl | ⟨j, rfl, hj⟩
    · rfl
    · cases h2
theorem cn_notN {a : PyData} (h : cnGood a = true) : isN a = false := by
  rcases good_cn h with rfl | ⟨i, rfl, hi⟩
  · decide +kernel
  · rfl
theorem inV2 (z x y : V) : inV z [x, y] = (eqV x z || eqV y z) := by
  show (eqV x z || (eqV y z || false)) = _
  rw [Bool.or_false]
theorem eqE {H : Hp} {x : V} {d : PyData} (h : DtAt H x d) (f : Fl d) : eqV x (.str "endless") = isE d := by
  rcases f with ⟨z, rfl, _⟩ | ⟨i, rfl⟩
  · obtain rfl := h.str_inv
    rfl
  · obtain rfl := h.int_inv
    rfl
theorem eqN {H : Hp} {x : V} {d : PyData} (h : DtAt H x d) (f : Fl d) : eqV x (.str "none") = isN d := by
  rcases f with ⟨z, rfl, _⟩ | ⟨i, rfl⟩
  · obtain rfl := h.str_inv
    rfl
  · obtain rfl := h.int_inv
    rfl
theorem eq0' {H : Hp} {x : V} {d : PyData} (h : DtAt H x d) (f : Fl d) : eqV x (.int 0) = i0 d := by
  rcases f with ⟨z, rfl, _⟩ | ⟨i, rfl⟩
  · obtain rfl := h.str_inv
    rfl
  · obtain rfl := h.int_inv
    rfl
theorem Fl.flat {H : Hp} {x : V} {d : PyData} (h : DtAt H x d) (f : Fl d) : flatV x = true := by
  rcases f with ⟨z, rfl, _⟩ | ⟨i, rfl⟩
  · obtain rfl := h.str_inv
    rfl
  · obtain rfl := h.int_inv
    rfl
section
variable {K : PySem.W.Frag} {σ : L2.St} {H : Hp} {ta tb : TE} {x y : V} {dx dy : PyData}
theorem ev_in2 {z : V} {f : PyData → Bool} (hf : ∀ {x : V} {d : PyData}, DtAt H x d → Fl d → eqV x z = f d) (hz : flatV z = true) (ha : Ev ta σ H x) (hb : Ev tb σ H y) (hx : DtAt H x dx) (hy : DtAt H y dy) (fx : Fl dx) (fy : Fl dy) : Ev (tOp (rIn K false) (tC z) (tTup (tCons ta (tCons tb tNil)))) σ H (.bl (f dx || f dy)) := by
  refine ev_is (ev_inU ev_c (eu_tup (ea_cons ha (ea_cons hb ea_nil)) (by show 2 ≤ 100000; decide)) hz ?_) ?_
  · show (flatV x && (flatV y && true)) = true
    rw [fx.flat hx, fy.flat hy]
    rfl
  · rw [inV2, hf hx fx, hf hy fy]
end
section
variable {P : Program} {w : World} {K : PySem.W.Frag} {mg : Str → Option Value} {base : Heap}
abbrev s_lowest : Stmt := top 90
theorem sc_lowest : FnScope ["_law_top", "_law_bottom", "_law_one_here", "_law_other"] ["_law_top", "_law_bottom"] (defScope s_lowest) := ⟨rfl, rfl, rfl, by decide +kernel, rfl, by decide +kernel, by decide +kernel⟩
theorem ok_lowest {f : Addr} {fd : FuncData} (F : FnP K "_law_lowest" s_lowest f fd) : FnOk P w K mg base (CX0) 1 f fd ["_law_top", "_law_bottom"] (spLowest) := by
  refine F.ok (CX := CX0) sc_lowest (fun vs H Q E h => ?_) (fun cdv A outer s H vs Q E hr h => ?_)
  · obtain ⟨p, q, rfl, _⟩ := h
    rfl
  · obtain ⟨p, r, rfl, r0, r1, q⟩ := h
    have hu := hu_of hr
    have hu64 := hr.units
    refine ⟨_, PSs.nox (pss_cons (ps_par (i := 2) (j := 3) (by rfl) sc_lowest.nd rfl rfl (by decide) rfl rfl (pa_cons (pv 1) (pa_cons (pv 0) pa_nil)) (by rfl))
      (pss_cons (ps_while PassesOwn.never (pt_cmpR op_ne (pv 3) pe_int (nomark _)) (pss_one (ps_par (i := 2) (j := 3) (by rfl) sc_lowest.nd rfl rfl (by decide) rfl rfl (pa_cons (pv 3) (pa_cons (pe_op op_mod (pv 2) (pv 3)) pa_nil)) (by rfl))))
      (pss_one (ps_ret (pe_tup (pa_cons (pe_op op_fdivW (pv 0) (pv 2)) (pa_cons (pe_op op_fdivW (pv 1) (pv 2)) pa_nil))))))), ?_⟩
    refine par_step ⟨_, rfl, _, rfl, _, _, rfl, ?_⟩
    refine q_while (fun m σ' G => ∃ x y : Nat, σ' = [some (.int (p : Int)), some (.int (r : Int)), some (.int (x : Int)), some (.int (y : Int))] ∧ m = y ∧ Ex H G ∧ Nat.gcd x y = Nat.gcd r p) p ⟨r, p, rfl, rfl, Ex.refl H, rfl⟩ ?_
    rintro m0 σ' G ⟨x, y, rfl, hm, eG, hg⟩
    rw [hm]
    clear hm m0
    refine ⟨!((y : Int) == 0), et_test (ev_neI (ev_var rfl) ev_c), fun hb H1 e1 => ?_, fun hb H1 e1 => ?_⟩
    · have y0 : 0 < y := by
        rcases Nat.eq_zero_or_pos y with rfl | h
        · cases hb
        · exact h
      refine ⟨fun σ2 G2 => ∃ x' y' : Nat, σ2 = [some (.int (p : Int)), some (.int (r : Int)), some (.int (x' : Int)), some (.int (y' : Int))] ∧ y' < y ∧ Ex H G2 ∧ Nat.gcd x' y' = Nat.gcd r p, fun σ2 G2 ⟨x', y', h1, h2, h3, h4⟩ => ⟨y', h2, x', y', h1, rfl, h3, h4⟩, ?_⟩
      refine s_par ⟨_, rfl, _, rfl, _, rfl, _, _, rfl, rfl, by omega, _, _, rfl, ?_⟩
      refine ⟨y, x % y, rfl, Nat.mod_lt _ y0, eG.trans e1, ?_⟩
      rw [← hg, Nat.gcd_comm y (x % y), ← Nat.gcd_rec y x, Nat.gcd_comm]
    · have y0 : y = 0 := by
        have : ((y : Int) == 0) = true := by simpa using hb
        have := eq_of_beq this
        omega
      rw [y0] at hg
      rw [Nat.gcd_zero_right] at hg
      subst hg
      have hgi : gI (p : Int) (r : Int) = ((Nat.gcd r p : Nat) : Int) := by
        unfold gI
        rw [Int.natAbs_natCast, Int.natAbs_natCast, Nat.gcd_comm]
      have g0 : 0 < Nat.gcd r p := Nat.gcd_pos_of_pos_left _ r0
      have g1 : Nat.gcd r p < 2 ^ 8100 := Nat.lt_of_le_of_lt (Nat.le_of_dvd r0 (Nat.gcd_dvd_left _ _)) r1
      have cd : ∀ z : Int, CDivW z ((Nat.gcd r p : Nat) : Int) := fun z => wide_div (b := 8100) (by omega) (by rw [Int.natAbs_natCast]; exact g1) (by decide) (by decide)
      refine s_retU (eu_tup (ea_cons (ev_op (ev_var rfl) (ev_var rfl) (rv_I (cd _))) (ea_cons (ev_op (ev_var rfl) (ev_var rfl) (rv_I (cd _))) ea_nil)) (by show 2 ≤ 100000; decide)) fun l H4 _ e4 hl => q _ H4 ((eG.trans e1).trans e4) ?_
      unfold low
      rw [hgi]
      exact .tup hl (.cons (.int _) (.cons (.int _) .nil))
abbrev s_times : Stmt := top 91
theorem sc_times : FnScope ["_law_made", "_law_a", "_law_b", "_law_kind"] ["_law_made", "_law_a", "_law_b"] (defScope s_times) := ⟨rfl, rfl, rfl, by decide +kernel, rfl, by decide +kernel, by decide +kernel⟩
theorem ok_times {f : Addr} {fd : FuncData} (F : FnP K "_law_times" s_times f fd) (g_times : mg "_law_times" = some (.ref f)) {f_lowest : Addr} {fd_lowest : FuncData} (F_lowest : FnP K "_law_lowest" s_lowest f_lowest fd_lowest) (g_lowest : mg "_law_lowest" = some (.ref f_lowest)) (G_lowest : FnOk P w K mg base (CX0) 1 f_lowest fd_lowest ["_law_top", "_law_bottom"] (spLowest)) (z_min : mg "min" = none) : ∀ d : Nat, FnOk P w K mg base CX0 (d + 2) f fd ["_law_made", "_law_a", "_law_b"] (spLTimes d) := by
  have F_times := F
  have b_times : Binds K fd ["_law_made", "_law_a", "_law_b"] [] := F_times.bindsN fun _ _ _ _ _ _ us hl => match us, hl with | [_, _, _], _ => rfl
  have b_lowest : Binds K fd_lowest ["_law_top", "_law_bottom"] [] := F_lowest.bindsN fun _ _ _ _ _ _ us hl => match us, hl with | [_, _], _ => rfl
  intro d
  induction d with
  | zero =>
    refine fn_never fun vs H Q E h => ?_
    obtain ⟨v, x, y, k, dx, dy, rfl, hM, hn, hx, hy, gx, gy, sx, sy, q⟩ := h
    exact Nat.not_lt_zero _ hn
  | succ d ih =>
    have G_times := ih
    refine F.ok sc_times (fun vs H Q E h => ?_) (fun cdv A outer s H vs Q E hr h => ?_)
    · obtain ⟨v, x, y, k, dx, dy, rfl, _⟩ := h
      rfl
    · obtain ⟨v, x, y, k, dx, dy, rfl, hM, hn, hx, hy, gx, gy, sx, sy, q⟩ := h
      have hu := hu_of hr
      have hu64 := hr.units
      have hr_times := hr
      have hr_lowest := hr.mono (by omega : 1 ≤ d + 2)
      refine ⟨_, PSs.nox (pss_cons (ps_set (i := 3) sc_times.nd rfl (Or.inl rfl) (pe_ix ix_tup (pv 0) pe_int (fun _ _ => rfl)))
      (pss_cons (ps_if (pt_cmpR op_eq (pv 3) pe_str (nomark _)) (pss_one (ps_ret (pe_tup (pa_cons (pe_call G_times hr_times rfl g_times F_times.kp b_times .nil pass0 (pa_cons (pe_ix ix_tup (pv 0) pe_int (fun _ _ => rfl)) (pa_cons (pe_ix ix_tup (pv 1) pe_int (fun _ _ => rfl)) (pa_cons (pe_ix ix_tup (pv 2) pe_int (fun _ _ => rfl)) pa_nil)))) (pa_cons (pe_call G_times hr_times rfl g_times F_times.kp b_times .nil pass0 (pa_cons (pe_ix ix_tup (pv 0) pe_int (fun _ _ => rfl)) (pa_cons (pe_ix ix_tup (pv 1) pe_int (fun _ _ => rfl)) (pa_cons (pe_ix ix_tup (pv 2) pe_int (fun _ _ => rfl)) pa_nil)))) pa_nil))))) pss_nil)
      (pss_cons (ps_if (pt_cmpR op_eq (pv 3) pe_str (nomark _)) (pss_one (ps_ret (pe_and (pv 1) (pe_one (pv 2))))) pss_nil)
      (pss_cons (ps_if (pt_cmpR op_eq (pv 3) pe_str (nomark _)) (pss_one (ps_ret (pe_op op_and (pv 1) (pv 2)))) pss_nil)
      (pss_cons (ps_if (pt_cmpR op_eq (pv 3) pe_str (nomark _)) (pss_one (ps_ret (pe_call G_lowest hr_lowest rfl g_lowest F_lowest.kp b_lowest .nil pass0 (pa_cons (pe_op op_mulW (pe_ix ix_tup (pv 1) pe_int (fun _ _ => rfl)) (pe_ix ix_tup (pv 2) pe_int (fun _ _ => rfl))) (pa_cons (pe_op op_mulW (pe_ix ix_tup (pv 1) pe_int (fun _ _ => rfl)) (pe_ix ix_tup (pv 2) pe_int (fun _ _ => rfl))) pa_nil))))) pss_nil)
      (pss_cons (ps_if (pt_cmpR op_eq (pv 3) pe_str (nomark _)) (pss_cons (ps_if (pt_cmpR op_in_seq pe_str (pe_tup (pa_cons (pv 1) (pa_cons (pv 2) pa_nil))) (by rfl)) (pss_one (ps_ret (pe_ifExp (pt_cmpR (op_eqD hu64) (pv 1) pe_str (nomark _)) (pv 2) (pv 1)))) pss_nil)
      (pss_one (ps_ret (pe_callB (call_min2 rfl) (by rfl) z_min PyProof.Rows.boot_min (pa_cons (pv 1) (pa_cons (pv 2) pa_nil)))))) pss_nil)
      (pss_cons (ps_if (PW.pt (pw_and (pt_cmpR op_eq (pv 3) pe_str (nomark _)) (pw_and1 (pt_cmpR op_in_seq pe_int (pe_tup (pa_cons (pv 1) (pa_cons (pv 2) pa_nil))) (by rfl))))) (pss_one (ps_ret pe_int)) pss_nil)
      (pss_cons (ps_if (pt_cmpR op_in_seq pe_str (pe_tup (pa_cons (pv 1) (pa_cons (pv 2) pa_nil))) (by rfl)) (pss_one (ps_ret pe_str)) pss_nil)
      (pss_cons (ps_if (pt_cmpR op_in_seq pe_str (pe_tup (pa_cons (pv 1) (pa_cons (pv 2) pa_nil))) (by rfl)) (pss_one (ps_ret pe_str)) pss_nil)
      (pss_one (ps_ret (pe_ifExp (pt_cmpR op_eq (pv 3) pe_str (nomark _)) (pe_op op_mulW (pv 1) (pv 2)) (pe_op op_add (pv 1) (pv 2)))))))))))))), ?_⟩
      obtain ⟨a, xs, rfl, ha, h1, h2, h3⟩ := made_at hM
      refine q_asg (v := .str (nameOf k)) (ev_op (ev_var rfl) ev_c (rv_ixT (st_of ha) (v := .str (nameOf k)) (atI_of (Int.le_refl 0) rfl))) fun H1 e1 => ?_
      have tk : ∀ {G : Hp} {t : Str}, EvT (tTest (tOp rEq (tVar 3) (tC (.str t)))) [some (.ref a), some x, some y, some (.str (nameOf k))] G (nameOf k == t) := fun {G t} => et_test (ev_eqS (ev_var rfl) ev_c)
      cases k with
      | pair kl kr =>
        obtain ⟨u, u', rfl, hu1, hu2⟩ := h3 kl kr rfl
        refine q_when (b := true) (et_is tk (by show (("pair" : Str) == "pair") = true; decide +kernel)) (fun _ H2 e2 => ?_) (fun hb => (by cases hb))
        have e12 := e1.trans e2
        obtain ⟨x1, x2, rfl, g1, g2⟩ := good_pair gx
        obtain ⟨y1, y2, rfl, g3, g4⟩ := good_pair gy
        obtain ⟨s1, s2, _⟩ := sx
        obtain ⟨s3, s4, _⟩ := sy
        obtain ⟨ax, p1, p2, rfl, hax, v1, v2⟩ := id hx.two
        obtain ⟨ay, t1, t2, rfl, hay, v3, v4⟩ := id hy.two
        refine ⟨_, rfl, a, _, 1, u, rfl, rfl, st_of (e12 _ _ ha), rfl, _, rfl, ax, _, 0, p1, rfl, rfl, st_of (e12 _ _ hax), rfl, _, rfl, ay, _, 0, t1, rfl, rfl, st_of (e12 _ _ hay), rfl, u, p1, t1, kl, x1, y1, rfl, hu1.ex e12, depth_l hn, v1.ex e12, v3.ex e12, g1, g3, s1, s3, fun r1 H3 e3 hr1 => ?_⟩
        have e13 := e12.trans e3
        refine ⟨_, rfl, a, _, 2, u', rfl, rfl, st_of (e13 _ _ ha), rfl, _, rfl, ax, _, 1, p2, rfl, rfl, st_of (e13 _ _ hax), rfl, _, rfl, ay, _, 1, t2, rfl, rfl, st_of (e13 _ _ hay), rfl, u', p2, t2, kr, x2, y2, rfl, hu2.ex e13, depth_r hn, v2.ex e13, v4.ex e13, g2, g4, s2, s4, fun r2 H4 e4 hr2 => ⟨by show 2 ≤ sizeLine; decide, fun l hl => ?_⟩⟩
        exact q _ _ ((e13.trans e4).trans (Ex.new hl)) (.new hl (.cons (hr1.ex e4) (.cons hr2 .nil)))
      | truth =>
        refine q_when (b := false) (et_is tk (by show (("truth" : Str) == "pair") = false; decide +kernel)) (fun hb => (by cases hb)) (fun _ H2 e2 => ?_)
        refine q_when (b := true) (et_is tk (by show (("truth" : Str) == "truth") = true; decide +kernel)) (fun _ H3 e3 => ?_) (fun hb => (by cases hb))
        obtain ⟨b1, rfl⟩ := good_truth gx
        obtain ⟨b2, rfl⟩ := good_truth gy
        obtain rfl := hx.bl_inv
        obtain rfl := hy.bl_inv
        exact s_ret (ev_andV (a := b1) (b := b2) (ev_var rfl) fun _ => ev_var rfl) fun H4 e4 => q _ H4 (((e1.trans e2).trans e3).trans e4) (.bl _)
      | lot n =>
        refine q_when (b := false) (et_is tk (by show (("lot" : Str) == "pair") = false; decide +kernel)) (fun hb => (by cases hb)) (fun _ H2 e2 => ?_)
        refine q_when (b := false) (et_is tk (by show (("lot" : Str) == "truth") = false; decide +kernel)) (fun hb => (by cases hb)) (fun _ H3 e3 => ?_)
        refine q_when (b := true) (et_is tk (by show (("lot" : Str) == "lot") = true; decide +kernel)) (fun _ H4 e4 => ?_) (fun hb => (by cases hb))
        obtain ⟨i, rfl, _⟩ := good_lot gx
        obtain ⟨j, rfl, _⟩ := good_lot gy
        obtain rfl := hx.int_inv
        obtain rfl := hy.int_inv
        exact s_ret (ev_op (ev_var rfl) (ev_var rfl) rv_I0) fun H5 e5 => q _ H5 ((((e1.trans e2).trans e3).trans e4).trans e5) (.int _)
      | share =>
        refine q_when (b := false) (et_is tk (by show (("share" : Str) == "pair") = false; decide +kernel)) (fun hb => (by cases hb)) (fun _ H2 e2 => ?_)
        refine q_when (b := false) (et_is tk (by show (("share" : Str) == "truth") = false; decide +kernel)) (fun hb => (by cases hb)) (fun _ H3 e3 => ?_)
        refine q_when (b := false) (et_is tk (by show (("share" : Str) == "lot") = false; decide +kernel)) (fun hb => (by cases hb)) (fun _ H4 e4 => ?_)
        refine q_when (b := true) (et_is tk (by show (("share" : Str) == "share") = true; decide +kernel)) (fun _ H5 e5 => ?_) (fun hb => (by cases hb))
        have e := (((e1.trans e2).trans e3).trans e4).trans e5
        obtain ⟨p, r, rfl, h1, h2, h3⟩ := share_nat gx
        obtain ⟨t, u, rfl, h4, h5, h6⟩ := share_nat gy
        obtain ⟨ax, _, _, rfl, hax, k1, k2⟩ := id hx.two
        obtain ⟨ay, _, _, rfl, hay, k3, k4⟩ := id hy.two
        obtain rfl := k1.int_inv
        obtain rfl := k2.int_inv
        obtain rfl := k3.int_inv
        obtain rfl := k4.int_inv
        obtain ⟨s1, s2, _⟩ : p < 2 ^ 4000 ∧ r < 2 ^ 4000 ∧ True := sx
        obtain ⟨s3, s4, _⟩ : t < 2 ^ 4000 ∧ u < 2 ^ 4000 ∧ True := sy
        have up : ∀ {x : Nat}, x < 2 ^ 4000 → ((x : Int)).natAbs < 2 ^ 4000 := fun {x} h => by rw [Int.natAbs_natCast]; exact h
        refine ret_call (ea_cons (ev_op (ev_op (ev_var rfl) ev_c (rv_ixT (st_of (e _ _ hax)) rfl)) (ev_op (ev_var rfl) ev_c (rv_ixT (st_of (e _ _ hay)) rfl)) (rv_I (wide_mul (up s1) (up s3) (by decide) (by decide) (by decide)))) (ea_cons (ev_op (ev_op (ev_var rfl) ev_c (rv_ixT (st_of (e _ _ hax)) rfl)) (ev_op (ev_var rfl) ev_c (rv_ixT (st_of (e _ _ hay)) rfl)) (rv_I (wide_mul (up s2) (up s4) (by decide) (by decide) (by decide)))) ea_nil)) fun H6 e6 => ?_
        refine ⟨p * t, r * u, by rw [Int.natCast_mul, Int.natCast_mul]; rfl, Nat.mul_pos h2 h5, Nat.lt_of_lt_of_le (sz_pow s2 s4) (Nat.pow_le_pow_right (by decide) (by decide)), fun r1 H7 e7 hr1 => q _ H7 ((e.trans e6).trans e7) ?_⟩
        rw [Int.natCast_mul, Int.natCast_mul] at hr1
        exact hr1
      | narrow =>
        refine q_when (b := false) (et_is tk (by show (("narrow" : Str) == "pair") = false; decide +kernel)) (fun hb => (by cases hb)) (fun _ H2 e2 => ?_)
        refine q_when (b := false) (et_is tk (by show (("narrow" : Str) == "truth") = false; decide +kernel)) (fun hb => (by cases hb)) (fun _ H3 e3 => ?_)
        refine q_when (b := false) (et_is tk (by show (("narrow" : Str) == "lot") = false; decide +kernel)) (fun hb => (by cases hb)) (fun _ H4 e4 => ?_)
        refine q_when (b := false) (et_is tk (by show (("narrow" : Str) == "share") = false; decide +kernel)) (fun hb => (by cases hb)) (fun _ H5 e5 => ?_)
        refine q_when (b := true) (et_is tk (by show (("narrow" : Str) == "narrow") = true; decide +kernel)) (fun _ H6 e6 => ?_) (fun hb => (by cases hb))
        have e := ((((e1.trans e2).trans e3).trans e4).trans e5).trans e6
        have wx := fl_cn gx
        have wy := fl_cn gy
        refine q_when (b := isE dx || isE dy) (et_test (ev_in2 (f := isE) (fun h f => eqE h f) rfl (ev_var rfl) (ev_var rfl) (hx.ex e) (hy.ex e) wx wy)) (fun hb H7 e7 => ?_) (fun hb H7 e7 => ?_)
        · refine r_if (b := isE dx) (et_test (ev_eqE (ev_var rfl) (hx.ex (e.trans e7)) wx)) (fun h2 H8 e8 => ?_) (fun h2 H8 e8 => ?_)
          · exact s_ret (ev_var rfl) fun H9 e9 => q _ H9 (((e.trans e7).trans e8).trans e9) (by show DtAt _ _ (narrT dx dy); rw [narrX gx gy h2]; exact hy.ex (((e.trans e7).trans e8).trans e9))
          · exact s_ret (ev_var rfl) fun H9 e9 => q _ H9 (((e.trans e7).trans e8).trans e9) (by show DtAt _ _ (narrT dx dy); rw [narrY gx gy h2 hb]; exact hx.ex (((e.trans e7).trans e8).trans e9))
        · obtain ⟨i, rfl, i0'⟩ := cn_int gx (or_no hb).1
          obtain ⟨j, rfl, j0'⟩ := cn_int gy (or_no hb).2
          obtain rfl := hx.int_inv
          obtain rfl := hy.int_inv
          refine s_ret (ev_cb (ea_cons (ev_var rfl) (ea_cons (ev_var rfl) ea_nil)) fun H8 e8 Q' q' => ⟨_, _, rfl, q' H8 (Ex.refl H8)⟩) fun H9 e9 => q _ H9 ((e.trans e7).trans e9) ?_
          show DtAt _ (.int (if j < i then j else i)) (.int (if i ≤ j then i else j))
          have hm : (if j < i then j else i) = (if i ≤ j then i else j) := by split <;> split <;> omega
          rw [hm]
          exact .int _
      | count =>
        refine q_when (b := false) (et_is tk (by show (("count" : Str) == "pair") = false; decide +kernel)) (fun hb => (by cases hb)) (fun _ H2 e2 => ?_)
        refine q_when (b := false) (et_is tk (by show (("count" : Str) == "truth") = false; decide +kernel)) (fun hb => (by cases hb)) (fun _ H3 e3 => ?_)
        refine q_when (b := false) (et_is tk (by show (("count" : Str) == "lot") = false; decide +kernel)) (fun hb => (by cases hb)) (fun _ H4 e4 => ?_)
        refine q_when (b := false) (et_is tk (by show (("count" : Str) == "share") = false; decide +kernel)) (fun hb => (by cases hb)) (fun _ H5 e5 => ?_)
        refine q_when (b := false) (et_is tk (by show (("count" : Str) == "narrow") = false; decide +kernel)) (fun hb => (by cases hb)) (fun _ H6 e6 => ?_)
        have e := ((((e1.trans e2).trans e3).trans e4).trans e5).trans e6
        have wx := fl_cn gx
        have wy := fl_cn gy
        refine q_when (b := i0 dx || i0 dy) (et_is (et_and (a := true) (et_is tk (by show (("count" : Str) == "count") = true; decide +kernel)) fun _ => et_test (ev_in2 (f := i0) (fun h f => eq0' h f) rfl (ev_var rfl) (ev_var rfl) (hx.ex e) (hy.ex e) wx wy)) rfl) (fun hb H7 e7 => ?_) (fun hb H7 e7 => ?_)
        · exact s_ret ev_c fun H8 e8 => q _ H8 ((e.trans e7).trans e8) (by show DtAt _ _ (countT dx dy); rw [count0 hb gx gy]; exact .int 0)
        have nN : (isN dx || isN dy) = false := by rw [cn_notN gx, cn_notN gy]; rfl
        refine q_when (b := false) (et_is (et_test (ev_in2 (f := isN) (fun h f => eqN h f) rfl (ev_var rfl) (ev_var rfl) (hx.ex (e.trans e7)) (hy.ex (e.trans e7)) wx wy)) nN) (fun hb => (by cases hb)) (fun _ H8 e8 => ?_)
        replace e8 := (e.trans e7).trans e8
        refine q_when (b := isE dx || isE dy) (et_test (ev_in2 (f := isE) (fun h f => eqE h f) rfl (ev_var rfl) (ev_var rfl) (hx.ex e8) (hy.ex e8) wx wy)) (fun hb2 H9 e9 => ?_) (fun hb2 H9 e9 => ?_)
        · exact s_ret ev_c fun H10 e10 => q _ H10 ((e8.trans e9).trans e10) (by show DtAt _ _ (countT dx dy); rw [countE hb hb2 gx gy]; exact .str _)
        obtain ⟨i, rfl, i0'⟩ := cn_int gx (or_no hb2).1
        obtain ⟨j, rfl, j0'⟩ := cn_int gy (or_no hb2).2
        obtain rfl := hx.int_inv
        obtain rfl := hy.int_inv
        refine r_if (b := true) (et_is tk (by show (("count" : Str) == "count") = true; decide +kernel)) (fun _ H10 e10 => ?_) (fun hb => (by cases hb))
        exact s_ret (ev_op (ev_var rfl) (ev_var rfl) (rv_I (wide_mul (a := 4000) (b := 4000) sx sy (by decide) (by decide) (by decide)))) fun H11 e11 => q _ H11 (((e8.trans e9).trans e10).trans e11) (.int _)
      | least =>
        refine q_when (b := false) (et_is tk (by show (("least" : Str) == "pair") = false; decide +kernel)) (fun hb => (by cases hb)) (fun _ H2 e2 => ?_)
        refine q_when (b := false) (et_is tk (by show (("least" : Str) == "truth") = false; decide +kernel)) (fun hb => (by cases hb)) (fun _ H3 e3 => ?_)
        refine q_when (b := false) (et_is tk (by show (("least" : Str) == "lot") = false; decide +kernel)) (fun hb => (by cases hb)) (fun _ H4 e4 => ?_)
        refine q_when (b := false) (et_is tk (by show (("least" : Str) == "share") = false; decide +kernel)) (fun hb => (by cases hb)) (fun _ H5 e5 => ?_)
        refine q_when (b := false) (et_is tk (by show (("least" : Str) == "narrow") = false; decide +kernel)) (fun hb => (by cases hb)) (fun _ H6 e6 => ?_)
        have e := ((((e1.trans e2).trans e3).trans e4).trans e5).trans e6
        have wx := fl_b gx
        have wy := fl_b gy
        refine q_when (b := false) (et_is (et_and (a := false) (b := false) (et_is tk (by show (("least" : Str) == "count") = false; decide +kernel)) fun hb => (by cases hb)) rfl) (fun hb => (by cases hb)) (fun _ H7 e7 => ?_)
        refine q_when (b := isN dx || isN dy) (et_test (ev_in2 (f := isN) (fun h f => eqN h f) rfl (ev_var rfl) (ev_var rfl) (hx.ex (e.trans e7)) (hy.ex (e.trans e7)) wx wy)) (fun hb H8 e8 => ?_) (fun hb H8 e8 => ?_)
        · exact s_ret ev_c fun H9 e9 => q _ H9 (((e.trans e7).trans e8).trans e9) (by show DtAt _ _ (boundT dx dy); rw [boundN hb gx gy]; exact .str _)
        replace e8 := (e.trans e7).trans e8
        refine q_when (b := isE dx || isE dy) (et_test (ev_in2 (f := isE) (fun h f => eqE h f) rfl (ev_var rfl) (ev_var rfl) (hx.ex e8) (hy.ex e8) wx wy)) (fun hb2 H9 e9 => ?_) (fun hb2 H9 e9 => ?_)
        · exact s_ret ev_c fun H10 e10 => q _ H10 ((e8.trans e9).trans e10) (by show DtAt _ _ (boundT dx dy); rw [boundE hb hb2 gx gy]; exact .str _)
        obtain ⟨i, rfl⟩ := b_int gx (or_no hb2).1 (or_no hb).1
        obtain ⟨j, rfl⟩ := b_int gy (or_no hb2).2 (or_no hb).2
        obtain rfl := hx.int_inv
        obtain rfl := hy.int_inv
        refine r_if (b := false) (et_is tk (by show (("least" : Str) == "count") = false; decide +kernel)) (fun hb => (by cases hb)) (fun _ H10 e10 => ?_)
        exact s_ret (ev_op (ev_var rfl) (ev_var rfl) rv_I0) fun H11 e11 => q _ H11 (((e8.trans e9).trans e10).trans e11) (.int _)
      | most =>
        refine q_when (b := false) (et_is tk (by show (("most" : Str) == "pair") = false; decide +kernel)) (fun hb => (by cases hb)) (fun _ H2 e2 => ?_)
        refine q_when (b := false) (et_is tk (by show (("most" : Str) == "truth") = false; decide +kernel)) (fun hb => (by cases hb)) (fun _ H3 e3 => ?_)
        refine q_when (b := false) (et_is tk (by show (("most" : Str) == "lot") = false; decide +kernel)) (fun hb => (by cases hb)) (fun _ H4 e4 => ?_)
        refine q_when (b := false) (et_is tk (by show (("most" : Str) == "share") = false; decide +kernel)) (fun hb => (by cases hb)) (fun _ H5 e5 => ?_)
        refine q_when (b := false) (et_is tk (by show (("most" : Str) == "narrow") = false; decide +kernel)) (fun hb => (by cases hb)) (fun _ H6 e6 => ?_)
        have e := ((((e1.trans e2).trans e3).trans e4).trans e5).trans e6
        have wx := fl_b gx
        have wy := fl_b gy
        refine q_when (b := false) (et_is (et_and (a := false) (b := false) (et_is tk (by show (("most" : Str) == "count") = false; decide +kernel)) fun hb => (by cases hb)) rfl) (fun hb => (by cases hb)) (fun _ H7 e7 => ?_)
        refine q_when (b := isN dx || isN dy) (et_test (ev_in2 (f := isN) (fun h f => eqN h f) rfl (ev_var rfl) (ev_var rfl) (hx.ex (e.trans e7)) (hy.ex (e.trans e7)) wx wy)) (fun hb H8 e8 => ?_) (fun hb H8 e8 => ?_)
        · exact s_ret ev_c fun H9 e9 => q _ H9 (((e.trans e7).trans e8).trans e9) (by show DtAt _ _ (boundT dx dy); rw [boundN hb gx gy]; exact .str _)
        replace e8 := (e.trans e7).trans e8
        refine q_when (b := isE dx || isE dy) (et_test (ev_in2 (f := isE) (fun h f => eqE h f) rfl (ev_var rfl) (ev_var rfl) (hx.ex e8) (hy.ex e8) wx wy)) (fun hb2 H9 e9 => ?_) (fun hb2 H9 e9 => ?_)
        · exact s_ret ev_c fun H10 e10 => q _ H10 ((e8.trans e9).trans e10) (by show DtAt _ _ (boundT dx dy); rw [boundE hb hb2 gx gy]; exact .str _)
        obtain ⟨i, rfl⟩ := b_int gx (or_no hb2).1 (or_no hb).1
        obtain ⟨j, rfl⟩ := b_int gy (or_no hb2).2 (or_no hb).2
        obtain rfl := hx.int_inv
        obtain rfl := hy.int_inv
        refine r_if (b := false) (et_is tk (by show (("most" : Str) == "count") = false; decide +kernel)) (fun hb => (by cases hb)) (fun _ H10 e10 => ?_)
        exact s_ret (ev_op (ev_var rfl) (ev_var rfl) rv_I0) fun H11 e11 => q _ H11 (((e8.trans e9).trans e10).trans e11) (.int _)
end
end D1
end
section
set_option Elab.async false
set_option linter.all false
set_option maxRecDepth 100000
set_option maxHeartbeats 4000000
/-! L5: the law's weights -/
namespace D1
open PySem L2 Evl RZ ClX PySem.VX
def costW : RK → Nat
  | .pair a b => costW a + costW b
  | _ => 3
theorem costW_pos : ∀ k : RK, 3 ≤ costW k
  | .pair a b => by
    have := costW_pos a
    show 3 ≤ costW a + costW b
    omega
  | .truth => Nat.le_refl _
  | .count => Nat.le_refl _
  | .least => Nat.le_refl _
  | .most => Nat.le_refl _
  | .narrow => Nat.le_refl _
  | .share => Nat.le_refl _
  | .lot _ => Nat.le_refl _
theorem costW_le : ∀ k : RK, costW k ≤ 3 * 2 ^ k.depth
  | .pair a b => by
    have h1 := costW_le a
    have h2 := costW_le b
    have h3 := Nat.pow_le_pow_right (n := 2) (by decide) (Nat.le_max_left a.depth b.depth)
    have h4 := Nat.pow_le_pow_right (n := 2) (by decide) (Nat.le_max_right a.depth b.depth)
    show costW a + costW b ≤ 3 * 2 ^ (max a.depth b.depth + 1)
    rw [Nat.pow_succ]
    omega
  | .truth => Nat.le_refl _
  | .count => Nat.le_refl _
  | .least => Nat.le_refl _
  | .most => Nat.le_refl _
  | .narrow => Nat.le_refl _
  | .share => Nat.le_refl _
  | .lot _ => Nat.le_refl _
def spLWeight (n : Nat) : Sp := fun vs H Q _ => ∃ (m pc pg : Addr) (cs : List Int) (j : Nat) (v : V) (k : RK) (mood lift : Int), vs = [.ref m, v, .int mood, .int lift] ∧ DS m pc pg cs j H ∧ j + costW k ≤ 100000 ∧ DtAt H v (madeD k) ∧ k.depth < n ∧ k.ok ∧ 0 ≤ mood ∧ mood < 4 ∧ -100 ≤ lift ∧ lift ≤ 100 ∧
  ∀ (x : V) (d : PyData) H', RD m pc pg cs (j + costW k) H H' → DtAt H' x d → goodB k d = true → Sz 140 d → Q x H'
theorem good_zero : ∀ k : RK, goodB k (zeroD k) = true
  | .truth => rfl
  | .count => rfl
  | .least => by decide +kernel
  | .most => by decide +kernel
  | .narrow => rfl
  | .share => by decide +kernel
  | .lot n => by
    show (decide ((0 : Int) ≤ 0) && decide ((0 : Int) ≤ 2 ^ n - 1)) = true
    rw [one_lot, decide_eq_true (by omega : (0 : Int) ≤ ((2 ^ n - 1 : Nat) : Int))]
    rfl
  | .pair a b => by
    show (goodB a (zeroD a) && goodB b (zeroD b)) = true
    rw [good_zero a, good_zero b]
    rfl
theorem sz_int {i : Int} (h : i.natAbs < 2 ^ 140) : Sz 140 (.int i) := h
theorem low_good {p q : Nat} (q0 : 0 < q) (h : p ≤ q) : shGood (low p q) = true := by
  rw [low_nat]
  exact nat_share (lowN_le h) (lowN_gcd q0)
theorem low_sz {p q : Nat} (h : p ≤ q) (hq : q < 2 ^ 140) : Sz 140 (low p q) := by
  rw [low_nat]
  refine ⟨?_, ?_, True.intro⟩
  · show (((lowN p q).1 : Nat) : Int).natAbs < 2 ^ 140
    rw [Int.natAbs_natCast]
    exact Nat.lt_of_le_of_lt (Nat.div_le_self _ _) (Nat.lt_of_le_of_lt h hq)
  · show (((lowN p q).2 : Nat) : Int).natAbs < 2 ^ 140
    rw [Int.natAbs_natCast]
    exact Nat.lt_of_le_of_lt (Nat.div_le_self _ _) hq
theorem ev_ifI {t : TT} {ta tb : TE} {σ : L2.St} {H : Hp} {b : Bool} {x y : Int} (h : EvT t σ H b) (h1 : Ev ta σ H (.int x)) (h2 : Ev tb σ H (.int y)) : Ev (tIf t ta tb) σ H (.int (if b = true then x else y)) := ev_if h (fun hb => by rw [if_pos hb]; exact h1) (fun hb => by rw [hb, if_neg Bool.false_ne_true]; exact h2)
theorem log_lt {n : Int} (h0 : 0 < n) (h : n < 2 ^ 139) : n.natAbs.log2 < 9000 := by
  have h1 : n.natAbs ≠ 0 := by omega
  have h2 : n.natAbs < 2 ^ 139 := by omega
  have := (Nat.log2_lt h1).mpr h2
  omega
theorem size_at {x : Int} (h0 : 0 ≤ x) (h1 : x < 4) : ∃ s : Int, atI [V.int 4, .int 4, .int 90, .int ((10 : Int) ^ (40 : Int).toNat)] x = some (.int s) ∧ 0 < s ∧ s < 2 ^ 139 := by
  have h2 : x = 0 ∨ x = 1 ∨ x = 2 ∨ x = 3 := by omega
  rcases h2 with rfl | rfl | rfl | rfl
  · exact ⟨_, rfl, by decide, by decide⟩
  · exact ⟨_, rfl, by decide, by decide⟩
  · exact ⟨_, rfl, by decide, by decide⟩
  · exact ⟨_, rfl, by decide, by decide⟩
theorem mood_at {x : Int} (h0 : 0 ≤ x) (h1 : x < 4) : ∃ s : Int, atI [V.int 0, .int 0, .int 1, .int 2] x = some (.int s) ∧ True := by
  have h2 : x = 0 ∨ x = 1 ∨ x = 2 ∨ x = 3 := by omega
  rcases h2 with rfl | rfl | rfl | rfl <;> exact ⟨_, rfl, True.intro⟩
theorem rv_neg {H : Hp} {i : Int} : RU (rU fun i => .int (-i)) (.int i) H (.int (-i)) := fun H1 _ Q q => ⟨i, rfl, q H1 (Ex.refl H1)⟩
section
variable {P : Program} {w : World} {K : PySem.W.Frag} {mg : Str → Option Value} {base : Heap}
abbrev s_weight : Stmt := top 92
theorem sc_weight : FnScope ["_law_draw_here", "_law_made", "_law_mood", "_law_lift", "_law_kind", "_law_size", "_law_bottom", "_law_way", "_law_number"] ["_law_draw_here", "_law_made", "_law_mood", "_law_lift"] (defScope s_weight) := ⟨rfl, rfl, rfl, by decide +kernel, rfl, by decide +kernel, by decide +kernel⟩
theorem ok_weight {f : Addr} {fd : FuncData} (F : FnP K "_law_weight" s_weight f fd) (g_weight : mg "_law_weight" = some (.ref f)) {f_next : Addr} {fd_next : FuncData} (F_next : FnP K "_law_next" s_next f_next fd_next) (g_next : mg "_law_next" = some (.ref f_next)) (G_next : FnOk P w K mg base (CX0) 2 f_next fd_next ["_law_draw_here", "_law_many"] (spNext)) {f_lowest : Addr} {fd_lowest : FuncData} (F_lowest : FnP K "_law_lowest" s_lowest f_lowest fd_lowest) (g_lowest : mg "_law_lowest" = some (.ref f_lowest)) (G_lowest : FnOk P w K mg base (CX0) 1 f_lowest fd_lowest ["_law_top", "_law_bottom"] (spLowest)) {f_zero : Addr} {fd_zero : FuncData} (F_zero : FnP K "_law_zero" s_zero f_zero fd_zero) (g_zero : mg "_law_zero" = some (.ref f_zero)) (G_zero : FnOk P w K mg base (CX0) 4 f_zero fd_zero ["_law_made"] (spLZero 3)) (z_min : mg "min" = none) : ∀ d : Nat, FnOk P w K mg base CX0 (d + 4) f fd ["_law_draw_here", "_law_made", "_law_mood", "_law_lift"] (spLWeight d) := by
  have F_weight := F
  have b_weight : Binds K fd ["_law_draw_here", "_law_made", "_law_mood", "_law_lift"] [] := F_weight.bindsN fun _ _ _ _ _ _ us hl => match us, hl with | [_, _, _, _], _ => rfl
  have b_next : Binds K fd_next ["_law_draw_here", "_law_many"] [] := F_next.bindsN fun _ _ _ _ _ _ us hl => match us, hl with | [_, _], _ => rfl
  have b_lowest : Binds K fd_lowest ["_law_top", "_law_bottom"] [] := F_lowest.bindsN fun _ _ _ _ _ _ us hl => match us, hl with | [_, _], _ => rfl
  have b_zero : Binds K fd_zero ["_law_made"] [] := F_zero.bindsN fun _ _ _ _ _ _ us hl => match us, hl with | [_], _ => rfl
  intro d
  induction d with
  | zero =>
    refine fn_never fun vs H Q E h => ?_
    obtain ⟨m, pc, pg, cs, j, v, k, mood, lift, rfl, hD, hj, hM, hn, ok, m0, m1, l0, l1, q⟩ := h
    exact Nat.not_lt_zero _ hn
  | succ d ih =>
    have G_weight := ih
    refine F.ok sc_weight (fun vs H Q E h => ?_) (fun cdv A outer s H vs Q E hr h => ?_)
    · obtain ⟨m, pc, pg, cs, j, v, k, mood, lift, rfl, _⟩ := h
      rfl
    · obtain ⟨m, pc, pg, cs, j, v, k, mood, lift, rfl, hD, hj, hM, hn, ok, m0, m1, l0, l1, q⟩ := h
      have hu := hu_of hr
      have hu64 := hr.units
      have hr_weight := hr
      have hr_next := hr.mono (by omega : 2 ≤ d + 4)
      have hr_lowest := hr.mono (by omega : 1 ≤ d + 4)
      have hr_zero := hr.mono (by omega : 4 ≤ d + 4)
      refine ⟨_, PSs.nox (pss_cons (ps_set (i := 4) sc_weight.nd rfl (Or.inl rfl) (pe_ix ix_tup (pv 1) pe_int (fun _ _ => rfl)))
      (pss_cons (ps_if (pt_cmpR op_eq (pv 4) pe_str (nomark _)) (pss_one (ps_ret (pe_tup (pa_cons (pe_call G_weight hr_weight rfl g_weight F_weight.kp b_weight .nil pass0 (pa_cons (pv 0) (pa_cons (pe_ix ix_tup (pv 1) pe_int (fun _ _ => rfl)) (pa_cons (pv 2) (pa_cons (pv 3) pa_nil))))) (pa_cons (pe_call G_weight hr_weight rfl g_weight F_weight.kp b_weight .nil pass0 (pa_cons (pv 0) (pa_cons (pe_ix ix_tup (pv 1) pe_int (fun _ _ => rfl)) (pa_cons (pv 2) (pa_cons (pv 3) pa_nil))))) pa_nil))))) pss_nil)
      (pss_cons (ps_if (pt_cmpR op_eq (pv 4) pe_str (nomark _)) (pss_one (ps_ret (pe_cmpR op_gt (pe_call G_next hr_next rfl g_next F_next.kp b_next .nil pass0 (pa_cons (pv 0) (pa_cons pe_int pa_nil))) pe_int (nomark _)))) pss_nil)
      (pss_cons (ps_if (pt_cmpR op_eq (pv 4) pe_str (nomark _)) (pss_one (ps_ret (pe_call G_next hr_next rfl g_next F_next.kp b_next .nil pass0 (pa_cons (pv 0) (pa_cons (pe_op op_shl pe_int (pe_ix ix_tup (pv 1) pe_int (fun _ _ => rfl))) pa_nil))))) pss_nil)
      (pss_cons (ps_set (i := 5) sc_weight.nd rfl (Or.inl rfl) (pe_ix ix_list (pe_lst (pa_cons pe_int (pa_cons pe_int (pa_cons pe_int (pa_cons (pe_op op_pow pe_int pe_int) pa_nil))))) (pe_call G_next hr_next rfl g_next F_next.kp b_next .nil pass0 (pa_cons (pv 0) (pa_cons pe_int pa_nil))) (fun _ _ => rfl)))
      (pss_cons (ps_if (pt_cmpR op_eq (pv 4) pe_str (nomark _)) (pss_cons (ps_set (i := 6) sc_weight.nd rfl (Or.inl rfl) (pe_op op_add pe_int (pe_call G_next hr_next rfl g_next F_next.kp b_next .nil pass0 (pa_cons (pv 0) (pa_cons (pe_callB (call_min2 rfl) (by rfl) z_min PyProof.Rows.boot_min (pa_cons (pv 5) (pa_cons (pe_op op_pow pe_int pe_int) pa_nil))) pa_nil)))))
      (pss_one (ps_ret (pe_call G_lowest hr_lowest rfl g_lowest F_lowest.kp b_lowest .nil pass0 (pa_cons (pe_call G_next hr_next rfl g_next F_next.kp b_next .nil pass0 (pa_cons (pv 0) (pa_cons (pe_op op_add (pv 6) pe_int) pa_nil))) (pa_cons (pv 6) pa_nil)))))) pss_nil)
      (pss_cons (ps_par (i := 7) (j := 8) (by rfl) sc_weight.nd rfl rfl (by decide) rfl rfl (pa_cons (pe_call G_next hr_next rfl g_next F_next.kp b_next .nil pass0 (pa_cons (pv 0) (pa_cons pe_int pa_nil))) (pa_cons (pe_call G_next hr_next rfl g_next F_next.kp b_next .nil pass0 (pa_cons (pv 0) (pa_cons (pv 5) pa_nil))) pa_nil)) (by rfl))
      (pss_cons (ps_if (pt_cmpR op_lt (pv 7) (pe_ix ix_list (pe_lst (pa_cons pe_int (pa_cons pe_int (pa_cons pe_int (pa_cons pe_int pa_nil))))) (pv 2) (fun _ _ => rfl)) (nomark _)) (pss_one (ps_ret pe_str)) pss_nil)
      (pss_cons (ps_if (pt_cmpR op_eq (pv 7) pe_int (nomark _)) (pss_one (ps_ret (pe_call G_zero hr_zero rfl g_zero F_zero.kp b_zero .nil pass0 (pa_cons (pv 1) pa_nil)))) pss_nil)
      (pss_cons (ps_if (pt_cmpR op_notIn_seq (pv 4) (pe_tup (pa_cons pe_str (pa_cons pe_str pa_nil))) (by rfl)) (pss_one (ps_ret (pv 8))) pss_nil)
      (pss_cons (ps_set (i := 8) sc_weight.nd rfl (Or.inl rfl) (pe_ifExp (pt_cmpR op_eq (pv 2) pe_int (nomark _)) (pe_op op_add (pv 8) (pv 3)) (pv 8)))
      (pss_cons (ps_set (i := 8) sc_weight.nd rfl (Or.inl rfl) (pe_ifExp (PW.pt (pw_and (pt_cmpR op_eq (pv 2) pe_int (nomark _)) (pw_and1 (pt_cmpR op_gt (pv 7) pe_int (nomark _))))) (pe_un un_neg (pv 8)) (pv 8)))
      (pss_one (ps_ret (pe_ifExp (pt_cmpR op_eq (pv 4) pe_str (nomark _)) (pv 8) (pe_un un_neg (pv 8))))))))))))))))), ?_⟩
      obtain ⟨a, xs, rfl, ha, h1, h2, h3⟩ := made_at hM
      refine q_asg (v := .str (nameOf k)) (ev_op (ev_var rfl) ev_c (rv_ixT (st_of ha) (v := .str (nameOf k)) (atI_of (Int.le_refl 0) rfl))) fun H1 e1 => ?_
      have cw := costW_pos k
      have tk : ∀ {G : Hp} {t : Str} {s5 s6 s7 s8 : Option V}, EvT (tTest (tOp rEq (tVar 4) (tC (.str t)))) [some (.ref m), some (.ref a), some (.int mood), some (.int lift), some (.str (nameOf k)), s5, s6, s7, s8] G (nameOf k == t) := fun {G t s5 s6 s7 s8} => et_test (ev_eqS (ev_var rfl) ev_c)
      cases k with
      | pair kl kr =>
        obtain ⟨u, u', rfl, hu1, hu2⟩ := h3 kl kr rfl
        refine q_when (b := true) (et_is tk (by show (("pair" : Str) == "pair") = true; decide +kernel)) (fun _ H2 e2 => ?_) (fun hb => (by cases hb))
        have e12 := e1.trans e2
        have hc : costW (.pair kl kr) = costW kl + costW kr := rfl
        have rA := RD.ofEx hD e12
        refine ⟨_, rfl, _, rfl, a, _, 1, u, rfl, rfl, st_of (e12 _ _ ha), rfl, _, rfl, _, rfl, m, pc, pg, cs, j, u, kl, mood, lift, rfl, rA.inv, by omega, hu1.ex e12, depth_l hn, ok.1, m0, m1, l0, l1, fun x1 d1 H3 r3 hx1 g1 s1 => ?_⟩
        have kp : Kp H H3 := (rA.then r3).kp hD
        refine ⟨_, rfl, _, rfl, a, _, 2, u', rfl, rfl, st_of (kp.tup ha), rfl, _, rfl, _, rfl, m, pc, pg, cs, j + costW kl, u', kr, mood, lift, rfl, r3.inv, by omega, hu2.kp kp, depth_r hn, ok.2, m0, m1, l0, l1, fun x2 d2 H4 r4 hx2 g2 s2 => ⟨by show 2 ≤ sizeLine; decide, fun l hl => ?_⟩⟩
        refine q _ _ _ (RD.up (((rA.then r3).then r4).then (.ofEx r4.inv (Ex.new hl))) (by omega)) (.new hl (.cons (hx1.kp (r4.kp r3.inv)) (.cons hx2 .nil))) ?_ ⟨s1, s2, True.intro⟩
        show (goodB kl d1 && goodB kr d2) = true
        rw [g1, g2]
        rfl
      | truth =>
        refine q_when (b := false) (et_is tk (by show (("truth" : Str) == "pair") = false; decide +kernel)) (fun hb => (by cases hb)) (fun _ H2 e2 => ?_)
        have e := (e1.trans e2)
        refine q_when (b := true) (et_is tk (by show (("truth" : Str) == "truth") = true; decide +kernel)) (fun _ H3 e3 => ?_) (fun hb => (by cases hb))
        have rA := RD.ofEx hD (e.trans e3)
        refine ⟨_, rfl, m, pc, pg, cs, j, 4, rfl, rA.inv, by omega, by decide, by decide, fun x H4 x0 x1 r4 => ⟨x, 0, rfl, rfl, ?_⟩⟩
        exact q _ _ _ (RD.up (rA.then r4) (by omega)) (.bl _) rfl True.intro
      | lot n =>
        obtain rfl := h2 n rfl
        refine q_when (b := false) (et_is tk (by show (("lot" : Str) == "pair") = false; decide +kernel)) (fun hb => (by cases hb)) (fun _ H2 e2 => ?_)
        refine q_when (b := false) (et_is tk (by show (("lot" : Str) == "truth") = false; decide +kernel)) (fun hb => (by cases hb)) (fun _ H3 e3 => ?_)
        have e := ((e1.trans e2).trans e3)
        refine q_when (b := true) (et_is tk (by show (("lot" : Str) == "lot") = true; decide +kernel)) (fun _ H4 e4 => ?_) (fun hb => (by cases hb))
        have rA := RD.ofEx hD (e.trans e4)
        have n12 : n ≤ 12 := ok.2
        have hp := Nat.pow_le_pow_right (n := 2) (by decide) n12
        have hp0 := Nat.two_pow_pos n
        have hv : (1 : Int) * 2 ^ ((n : Int)).toNat = ((2 ^ n : Nat) : Int) := by rw [Int.one_mul, Int.toNat_natCast, Int.natCast_pow]; rfl
        refine ⟨_, rfl, _, rfl, a, _, 1, .int (n : Int), rfl, rfl, st_of (e.trans e4 _ _ ha), rfl, 1, (n : Int), rfl, rfl, ⟨by omega, by omega, by decide⟩, m, pc, pg, cs, j, ((2 ^ n : Nat) : Int), by rw [← hv]; rfl, rA.inv, by omega, by omega, log_lt (by omega) (by omega), fun x H5 x0 x1 r5 => ?_⟩
        obtain ⟨i, rfl⟩ : ∃ i : Nat, x = (i : Int) := ⟨x.toNat, by omega⟩
        exact q _ _ _ (RD.up (rA.then r5) (by omega)) (.int _) (nat_lot (by omega)) (sz_int (by omega))
      | share =>
        refine q_when (b := false) (et_is tk (by show (("share" : Str) == "pair") = false; decide +kernel)) (fun hb => (by cases hb)) (fun _ H2 e2 => ?_)
        refine q_when (b := false) (et_is tk (by show (("share" : Str) == "truth") = false; decide +kernel)) (fun hb => (by cases hb)) (fun _ H3 e3 => ?_)
        refine q_when (b := false) (et_is tk (by show (("share" : Str) == "lot") = false; decide +kernel)) (fun hb => (by cases hb)) (fun _ H4 e4 => ?_)
        have e := (((e1.trans e2).trans e3).trans e4)
        refine asg_step ⟨10, 40, rfl, rfl, ⟨by decide, by decide, by decide⟩, by show 4 ≤ sizeLine; decide, fun l hl => ?_⟩
        have hDl := (RD.ofEx hD (e.trans (Ex.new (o := .lst [.int 4, .int 4, .int 90, .int ((10 : Int) ^ (40 : Int).toNat)]) hl))).inv
        obtain ⟨l1, l2⟩ := (RD.ofEx hD e).inv.fresh hl
        refine ⟨_, rfl, m, pc, pg, cs, j, 4, rfl, hDl, by omega, by decide, by decide, fun x H5 x0 x1 r1 => ?_⟩
        have hl5 := r1.stay l1 l2 (o := .lst [.int 4, .int 4, .int 90, .int ((10 : Int) ^ (40 : Int).toNat)]) upd_same
        obtain ⟨sz, hsz, z0, z1⟩ := size_at x0 x1
        refine ⟨l, _, x, .int sz, rfl, rfl, sq_of hl5, hsz, ?_⟩
        have rA : RD m pc pg cs (j + 1) H H5 := (RD.ofEx hD (e.trans (Ex.new hl))).then r1
        refine q_when (b := true) (et_is tk (by show (("share" : Str) == "share") = true; decide +kernel)) (fun _ H6 e6 => ?_) (fun hb => (by cases hb))
        refine asg_step ⟨_, rfl, _, rfl, 10, 12, rfl, rfl, ⟨by decide, by decide, by decide⟩, _, _, rfl, m, pc, pg, cs, j + 1, (if (10 : Int) ^ (12 : Int).toNat < sz then (10 : Int) ^ (12 : Int).toNat else sz), rfl, (RD.ofEx rA.inv e6).inv, by omega, ?_, ?_, fun y H7 y0 y1 r7 => ⟨1, y, rfl, rfl, ?_⟩⟩
        · split
          · decide
          · exact z0
        · refine log_lt ?_ ?_
          · split
            · decide
            · exact z0
          · split
            · decide
            · exact z1
        have yb : y < 2 ^ 139 := by
          refine Int.lt_trans y1 ?_
          split
          · decide
          · exact z1
        obtain ⟨b, rfl⟩ : ∃ b : Nat, y = (b : Int) := ⟨y.toNat, by omega⟩
        refine ⟨_, rfl, _, rfl, (1 + (b : Int)), 1, rfl, rfl, m, pc, pg, cs, j + 1 + 1, (1 + (b : Int) + 1), rfl, r7.inv, by omega, by omega, ?_, fun t H8 t0 t1 r8 => ?_⟩
        · have h1 : (1 + (b : Int) + 1).natAbs ≠ 0 := by omega
          have h2 : (1 + (b : Int) + 1).natAbs < 2 ^ 140 := by omega
          have := (Nat.log2_lt h1).mpr h2
          omega
        obtain ⟨p, rfl⟩ : ∃ p : Nat, t = (p : Int) := ⟨t.toNat, by omega⟩
        have hbb : (1 + (b : Int)) = ((b + 1 : Nat) : Int) := by omega
        refine ⟨_, rfl, p, b + 1, congrArg (fun z => [V.int (p : Int), V.int z]) hbb, Nat.succ_pos b, Nat.lt_of_le_of_lt (by omega : b + 1 ≤ 2 ^ 139) (Nat.pow_lt_pow_right (by decide) (by decide)), fun r H9 e9 hr9 => ?_⟩
        refine q r _ H9 (RD.up ((((rA.then (.ofEx rA.inv e6)).then r7).then r8).then (.ofEx r8.inv e9)) (by omega)) hr9 (low_good (Nat.succ_pos b) (by omega)) (low_sz (by omega) ?_)
        have : (2 : Nat) ^ 140 = 2 ^ 139 + 2 ^ 139 := by decide
        omega
      | count =>
        refine q_when (b := false) (et_is tk (by show (("count" : Str) == "pair") = false; decide +kernel)) (fun hb => (by cases hb)) (fun _ H2 e2 => ?_)
        refine q_when (b := false) (et_is tk (by show (("count" : Str) == "truth") = false; decide +kernel)) (fun hb => (by cases hb)) (fun _ H3 e3 => ?_)
        refine q_when (b := false) (et_is tk (by show (("count" : Str) == "lot") = false; decide +kernel)) (fun hb => (by cases hb)) (fun _ H4 e4 => ?_)
        have e := (((e1.trans e2).trans e3).trans e4)
        refine asg_step ⟨10, 40, rfl, rfl, ⟨by decide, by decide, by decide⟩, by show 4 ≤ sizeLine; decide, fun l hl => ?_⟩
        have hDl := (RD.ofEx hD (e.trans (Ex.new (o := .lst [.int 4, .int 4, .int 90, .int ((10 : Int) ^ (40 : Int).toNat)]) hl))).inv
        obtain ⟨l1, l2⟩ := (RD.ofEx hD e).inv.fresh hl
        refine ⟨_, rfl, m, pc, pg, cs, j, 4, rfl, hDl, by omega, by decide, by decide, fun x H5 x0 x1 r1 => ?_⟩
        have hl5 := r1.stay l1 l2 (o := .lst [.int 4, .int 4, .int 90, .int ((10 : Int) ^ (40 : Int).toNat)]) upd_same
        obtain ⟨sz, hsz, z0, z1⟩ := size_at x0 x1
        refine ⟨l, _, x, .int sz, rfl, rfl, sq_of hl5, hsz, ?_⟩
        have rA : RD m pc pg cs (j + 1) H H5 := (RD.ofEx hD (e.trans (Ex.new hl))).then r1
        refine q_when (b := false) (et_is tk (by show (("count" : Str) == "share") = false; decide +kernel)) (fun hb => (by cases hb)) (fun _ H6 e6 => ?_)
        refine par_step ⟨_, rfl, m, pc, pg, cs, j + 1, 12, rfl, (RD.ofEx rA.inv e6).inv, by omega, by decide, by decide, fun way H7 w0 w1 r7 => ?_⟩
        refine ⟨_, rfl, _, rfl, m, pc, pg, cs, j + 1 + 1, sz, rfl, r7.inv, by omega, z0, log_lt z0 z1, fun nu H8 n0 n1 r8 => ⟨_, _, rfl, ?_⟩⟩
        have rB : RD m pc pg cs (j + 3) H H8 := ((rA.then (.ofEx rA.inv e6)).then r7).then r8
        have kp : Kp H H8 := rB.kp hD
        have done : ∀ {x : V} {d : PyData} {G : Hp}, Ex H8 G → DtAt G x d → goodB .count d = true → Sz 140 d → Q x G := fun {x d G} eG hx hg hs => q x d G (rB.then (.ofEx rB.inv eG)) hx hg hs
        obtain ⟨lim, hlim, _⟩ := mood_at m0 m1
        refine q_when (b := decide (way < lim)) (et_test (ev_op (ev_var rfl) (ev_opL1 (el_lst (ea_cons ev_c (ea_cons ev_c (ea_cons ev_c (ea_cons ev_c ea_nil)))) (by show 4 ≤ 100000; decide)) (fun H1 e1 => ev_var rfl) fun l H1 hl e1 => rv_ixL (sq_of hl) hlim) rv_I0)) (fun _ H9 e9 => ?_) (fun _ H9 e9 => ?_)
        · exact s_ret ev_c fun H10 e10 => done (e9.trans e10) (.str _) (by decide +kernel) True.intro
        refine q_when (b := (way == 11)) (et_test (ev_eqI (ev_var rfl) ev_c)) (fun _ H10 e10 => ?_) (fun _ H10 e10 => ?_)
        · refine ret_call (ea_cons (ev_var rfl) ea_nil) fun H11 e11 => ⟨.ref a, .count, rfl, hM.kp (kp.trans (.ex ((e9.trans e10).trans e11))), by show 0 < 3; decide, fun x G eG hx => done (((e9.trans e10).trans e11).trans eG) hx (good_zero .count) (by show (0 : Int).natAbs < 2 ^ 140; decide)⟩
        have e10' := e9.trans e10
        refine q_when (b := true) (et_is (et_test (ev_niU (ev_var rfl) (eu_tup (ea_cons ev_c (ea_cons ev_c ea_nil)) (by show 2 ≤ 100000; decide)) rfl rfl)) (by decide +kernel)) (fun hb H11 e11 => ?_) (fun hb H11 e11 => ?_)
        · exact s_ret (ev_var rfl) fun H12 e12 => done ((e10'.trans e11).trans e12) (.int _) (decide_eq_true n0) (sz_int (by omega))
        · cases hb
      | narrow =>
        refine q_when (b := false) (et_is tk (by show (("narrow" : Str) == "pair") = false; decide +kernel)) (fun hb => (by cases hb)) (fun _ H2 e2 => ?_)
        refine q_when (b := false) (et_is tk (by show (("narrow" : Str) == "truth") = false; decide +kernel)) (fun hb => (by cases hb)) (fun _ H3 e3 => ?_)
        refine q_when (b := false) (et_is tk (by show (("narrow" : Str) == "lot") = false; decide +kernel)) (fun hb => (by cases hb)) (fun _ H4 e4 => ?_)
        have e := (((e1.trans e2).trans e3).trans e4)
        refine asg_step ⟨10, 40, rfl, rfl, ⟨by decide, by decide, by decide⟩, by show 4 ≤ sizeLine; decide, fun l hl => ?_⟩
        have hDl := (RD.ofEx hD (e.trans (Ex.new (o := .lst [.int 4, .int 4, .int 90, .int ((10 : Int) ^ (40 : Int).toNat)]) hl))).inv
        obtain ⟨l1, l2⟩ := (RD.ofEx hD e).inv.fresh hl
        refine ⟨_, rfl, m, pc, pg, cs, j, 4, rfl, hDl, by omega, by decide, by decide, fun x H5 x0 x1 r1 => ?_⟩
        have hl5 := r1.stay l1 l2 (o := .lst [.int 4, .int 4, .int 90, .int ((10 : Int) ^ (40 : Int).toNat)]) upd_same
        obtain ⟨sz, hsz, z0, z1⟩ := size_at x0 x1
        refine ⟨l, _, x, .int sz, rfl, rfl, sq_of hl5, hsz, ?_⟩
        have rA : RD m pc pg cs (j + 1) H H5 := (RD.ofEx hD (e.trans (Ex.new hl))).then r1
        refine q_when (b := false) (et_is tk (by show (("narrow" : Str) == "share") = false; decide +kernel)) (fun hb => (by cases hb)) (fun _ H6 e6 => ?_)
        refine par_step ⟨_, rfl, m, pc, pg, cs, j + 1, 12, rfl, (RD.ofEx rA.inv e6).inv, by omega, by decide, by decide, fun way H7 w0 w1 r7 => ?_⟩
        refine ⟨_, rfl, _, rfl, m, pc, pg, cs, j + 1 + 1, sz, rfl, r7.inv, by omega, z0, log_lt z0 z1, fun nu H8 n0 n1 r8 => ⟨_, _, rfl, ?_⟩⟩
        have rB : RD m pc pg cs (j + 3) H H8 := ((rA.then (.ofEx rA.inv e6)).then r7).then r8
        have kp : Kp H H8 := rB.kp hD
        have done : ∀ {x : V} {d : PyData} {G : Hp}, Ex H8 G → DtAt G x d → goodB .narrow d = true → Sz 140 d → Q x G := fun {x d G} eG hx hg hs => q x d G (rB.then (.ofEx rB.inv eG)) hx hg hs
        obtain ⟨lim, hlim, _⟩ := mood_at m0 m1
        refine q_when (b := decide (way < lim)) (et_test (ev_op (ev_var rfl) (ev_opL1 (el_lst (ea_cons ev_c (ea_cons ev_c (ea_cons ev_c (ea_cons ev_c ea_nil)))) (by show 4 ≤ 100000; decide)) (fun H1 e1 => ev_var rfl) fun l H1 hl e1 => rv_ixL (sq_of hl) hlim) rv_I0)) (fun _ H9 e9 => ?_) (fun _ H9 e9 => ?_)
        · exact s_ret ev_c fun H10 e10 => done (e9.trans e10) (.str _) (by decide +kernel) True.intro
        refine q_when (b := (way == 11)) (et_test (ev_eqI (ev_var rfl) ev_c)) (fun _ H10 e10 => ?_) (fun _ H10 e10 => ?_)
        · refine ret_call (ea_cons (ev_var rfl) ea_nil) fun H11 e11 => ⟨.ref a, .narrow, rfl, hM.kp (kp.trans (.ex ((e9.trans e10).trans e11))), by show 0 < 3; decide, fun x G eG hx => done (((e9.trans e10).trans e11).trans eG) hx (good_zero .narrow) (by show (0 : Int).natAbs < 2 ^ 140; decide)⟩
        have e10' := e9.trans e10
        refine q_when (b := true) (et_is (et_test (ev_niU (ev_var rfl) (eu_tup (ea_cons ev_c (ea_cons ev_c ea_nil)) (by show 2 ≤ 100000; decide)) rfl rfl)) (by decide +kernel)) (fun hb H11 e11 => ?_) (fun hb H11 e11 => ?_)
        · exact s_ret (ev_var rfl) fun H12 e12 => done ((e10'.trans e11).trans e12) (.int _) (decide_eq_true n0) (sz_int (by omega))
        · cases hb
      | least =>
        refine q_when (b := false) (et_is tk (by show (("least" : Str) == "pair") = false; decide +kernel)) (fun hb => (by cases hb)) (fun _ H2 e2 => ?_)
        refine q_when (b := false) (et_is tk (by show (("least" : Str) == "truth") = false; decide +kernel)) (fun hb => (by cases hb)) (fun _ H3 e3 => ?_)
        refine q_when (b := false) (et_is tk (by show (("least" : Str) == "lot") = false; decide +kernel)) (fun hb => (by cases hb)) (fun _ H4 e4 => ?_)
        have e := (((e1.trans e2).trans e3).trans e4)
        refine asg_step ⟨10, 40, rfl, rfl, ⟨by decide, by decide, by decide⟩, by show 4 ≤ sizeLine; decide, fun l hl => ?_⟩
        have hDl := (RD.ofEx hD (e.trans (Ex.new (o := .lst [.int 4, .int 4, .int 90, .int ((10 : Int) ^ (40 : Int).toNat)]) hl))).inv
        obtain ⟨l1, l2⟩ := (RD.ofEx hD e).inv.fresh hl
        refine ⟨_, rfl, m, pc, pg, cs, j, 4, rfl, hDl, by omega, by decide, by decide, fun x H5 x0 x1 r1 => ?_⟩
        have hl5 := r1.stay l1 l2 (o := .lst [.int 4, .int 4, .int 90, .int ((10 : Int) ^ (40 : Int).toNat)]) upd_same
        obtain ⟨sz, hsz, z0, z1⟩ := size_at x0 x1
        refine ⟨l, _, x, .int sz, rfl, rfl, sq_of hl5, hsz, ?_⟩
        have rA : RD m pc pg cs (j + 1) H H5 := (RD.ofEx hD (e.trans (Ex.new hl))).then r1
        refine q_when (b := false) (et_is tk (by show (("least" : Str) == "share") = false; decide +kernel)) (fun hb => (by cases hb)) (fun _ H6 e6 => ?_)
        refine par_step ⟨_, rfl, m, pc, pg, cs, j + 1, 12, rfl, (RD.ofEx rA.inv e6).inv, by omega, by decide, by decide, fun way H7 w0 w1 r7 => ?_⟩
        refine ⟨_, rfl, _, rfl, m, pc, pg, cs, j + 1 + 1, sz, rfl, r7.inv, by omega, z0, log_lt z0 z1, fun nu H8 n0 n1 r8 => ⟨_, _, rfl, ?_⟩⟩
        have rB : RD m pc pg cs (j + 3) H H8 := ((rA.then (.ofEx rA.inv e6)).then r7).then r8
        have kp : Kp H H8 := rB.kp hD
        have done : ∀ {x : V} {d : PyData} {G : Hp}, Ex H8 G → DtAt G x d → goodB .least d = true → Sz 140 d → Q x G := fun {x d G} eG hx hg hs => q x d G (rB.then (.ofEx rB.inv eG)) hx hg hs
        obtain ⟨lim, hlim, _⟩ := mood_at m0 m1
        refine q_when (b := decide (way < lim)) (et_test (ev_op (ev_var rfl) (ev_opL1 (el_lst (ea_cons ev_c (ea_cons ev_c (ea_cons ev_c (ea_cons ev_c ea_nil)))) (by show 4 ≤ 100000; decide)) (fun H1 e1 => ev_var rfl) fun l H1 hl e1 => rv_ixL (sq_of hl) hlim) rv_I0)) (fun _ H9 e9 => ?_) (fun _ H9 e9 => ?_)
        · exact s_ret ev_c fun H10 e10 => done (e9.trans e10) (.str _) (by decide +kernel) True.intro
        refine q_when (b := (way == 11)) (et_test (ev_eqI (ev_var rfl) ev_c)) (fun _ H10 e10 => ?_) (fun _ H10 e10 => ?_)
        · refine ret_call (ea_cons (ev_var rfl) ea_nil) fun H11 e11 => ⟨.ref a, .least, rfl, hM.kp (kp.trans (.ex ((e9.trans e10).trans e11))), by show 0 < 3; decide, fun x G eG hx => done (((e9.trans e10).trans e11).trans eG) hx (good_zero .least) (by exact True.intro)⟩
        have e10' := e9.trans e10
        refine q_when (b := false) (et_is (et_test (ev_niU (ev_var rfl) (eu_tup (ea_cons ev_c (ea_cons ev_c ea_nil)) (by show 2 ≤ 100000; decide)) rfl rfl)) (by decide +kernel)) (fun hb H11 e11 => ?_) (fun hb H11 e11 => ?_)
        · cases hb
        replace e11 := e10'.trans e11
        refine q_asg (ev_ifI (et_test (ev_eqI (ev_var rfl) ev_c)) (ev_op (ev_var rfl) (ev_var rfl) rv_I0) (ev_var rfl)) fun H12 e12 => ?_
        have hb1 : ∃ n2 : Int, (if ((mood == 1) = true) then nu + lift else nu) = n2 ∧ -100 ≤ n2 ∧ n2 ≤ nu + 100 := by
          refine ⟨_, rfl, ?_, ?_⟩ <;> split <;> omega
        obtain ⟨n2, hn2, b1, b2⟩ := hb1
        rw [hn2]
        refine q_asg (ev_ifI (et_and (et_test (ev_eqI (ev_var rfl) ev_c)) fun _ => et_test (ev_gtI (ev_var rfl) ev_c)) (ev_un (ev_var rfl) rv_neg) (ev_var rfl)) fun H13 e13 => ?_
        have hb3 : ∃ n3 : Int, (if (((mood == 2) && decide (7 < way)) = true) then -n2 else n2) = n3 ∧ n3.natAbs ≤ nu.natAbs + 100 := by
          refine ⟨_, rfl, ?_⟩
          split <;> omega
        obtain ⟨n3, hn3, b3⟩ := hb3
        rw [hn3]
        refine r_if (b := true) (et_is tk (by show (("least" : Str) == "least") = true; decide +kernel)) (fun hb H14 e14 => ?_) (fun hb H14 e14 => ?_)
        · exact s_ret (ev_var rfl) fun H15 e15 => done ((((e11.trans e12).trans e13).trans e14).trans e15) (.int _) rfl (sz_int (by omega))
        · cases hb
      | most =>
        refine q_when (b := false) (et_is tk (by show (("most" : Str) == "pair") = false; decide +kernel)) (fun hb => (by cases hb)) (fun _ H2 e2 => ?_)
        refine q_when (b := false) (et_is tk (by show (("most" : Str) == "truth") = false; decide +kernel)) (fun hb => (by cases hb)) (fun _ H3 e3 => ?_)
        refine q_when (b := false) (et_is tk (by show (("most" : Str) == "lot") = false; decide +kernel)) (fun hb => (by cases hb)) (fun _ H4 e4 => ?_)
        have e := (((e1.trans e2).trans e3).trans e4)
        refine asg_step ⟨10, 40, rfl, rfl, ⟨by decide, by decide, by decide⟩, by show 4 ≤ sizeLine; decide, fun l hl => ?_⟩
        have hDl := (RD.ofEx hD (e.trans (Ex.new (o := .lst [.int 4, .int 4, .int 90, .int ((10 : Int) ^ (40 : Int).toNat)]) hl))).inv
        obtain ⟨l1, l2⟩ := (RD.ofEx hD e).inv.fresh hl
        refine ⟨_, rfl, m, pc, pg, cs, j, 4, rfl, hDl, by omega, by decide, by decide, fun x H5 x0 x1 r1 => ?_⟩
        have hl5 := r1.stay l1 l2 (o := .lst [.int 4, .int 4, .int 90, .int ((10 : Int) ^ (40 : Int).toNat)]) upd_same
        obtain ⟨sz, hsz, z0, z1⟩ := size_at x0 x1
        refine ⟨l, _, x, .int sz, rfl, rfl, sq_of hl5, hsz, ?_⟩
        have rA : RD m pc pg cs (j + 1) H H5 := (RD.ofEx hD (e.trans (Ex.new hl))).then r1
        refine q_when (b := false) (et_is tk (by show (("most" : Str) == "share") = false; decide +kernel)) (fun hb => (by cases hb)) (fun _ H6 e6 => ?_)
        refine par_step ⟨_, rfl, m, pc, pg, cs, j + 1, 12, rfl, (RD.ofEx rA.inv e6).inv, by omega, by decide, by decide, fun way H7 w0 w1 r7 => ?_⟩
        refine ⟨_, rfl, _, rfl, m, pc, pg, cs, j + 1 + 1, sz, rfl, r7.inv, by omega, z0, log_lt z0 z1, fun nu H8 n0 n1 r8 => ⟨_, _, rfl, ?_⟩⟩
        have rB : RD m pc pg cs (j + 3) H H8 := ((rA.then (.ofEx rA.inv e6)).then r7).then r8
        have kp : Kp H H8 := rB.kp hD
        have done : ∀ {x : V} {d : PyData} {G : Hp}, Ex H8 G → DtAt G x d → goodB .most d = true → Sz 140 d → Q x G := fun {x d G} eG hx hg hs => q x d G (rB.then (.ofEx rB.inv eG)) hx hg hs
        obtain ⟨lim, hlim, _⟩ := mood_at m0 m1
        refine q_when (b := decide (way < lim)) (et_test (ev_op (ev_var rfl) (ev_opL1 (el_lst (ea_cons ev_c (ea_cons ev_c (ea_cons ev_c (ea_cons ev_c ea_nil)))) (by show 4 ≤ 100000; decide)) (fun H1 e1 => ev_var rfl) fun l H1 hl e1 => rv_ixL (sq_of hl) hlim) rv_I0)) (fun _ H9 e9 => ?_) (fun _ H9 e9 => ?_)
        · exact s_ret ev_c fun H10 e10 => done (e9.trans e10) (.str _) (by decide +kernel) True.intro
        refine q_when (b := (way == 11)) (et_test (ev_eqI (ev_var rfl) ev_c)) (fun _ H10 e10 => ?_) (fun _ H10 e10 => ?_)
        · refine ret_call (ea_cons (ev_var rfl) ea_nil) fun H11 e11 => ⟨.ref a, .most, rfl, hM.kp (kp.trans (.ex ((e9.trans e10).trans e11))), by show 0 < 3; decide, fun x G eG hx => done (((e9.trans e10).trans e11).trans eG) hx (good_zero .most) (by exact True.intro)⟩
        have e10' := e9.trans e10
        refine q_when (b := false) (et_is (et_test (ev_niU (ev_var rfl) (eu_tup (ea_cons ev_c (ea_cons ev_c ea_nil)) (by show 2 ≤ 100000; decide)) rfl rfl)) (by decide +kernel)) (fun hb H11 e11 => ?_) (fun hb H11 e11 => ?_)
        · cases hb
        replace e11 := e10'.trans e11
        refine q_asg (ev_ifI (et_test (ev_eqI (ev_var rfl) ev_c)) (ev_op (ev_var rfl) (ev_var rfl) rv_I0) (ev_var rfl)) fun H12 e12 => ?_
        have hb1 : ∃ n2 : Int, (if ((mood == 1) = true) then nu + lift else nu) = n2 ∧ -100 ≤ n2 ∧ n2 ≤ nu + 100 := by
          refine ⟨_, rfl, ?_, ?_⟩ <;> split <;> omega
        obtain ⟨n2, hn2, b1, b2⟩ := hb1
        rw [hn2]
        refine q_asg (ev_ifI (et_and (et_test (ev_eqI (ev_var rfl) ev_c)) fun _ => et_test (ev_gtI (ev_var rfl) ev_c)) (ev_un (ev_var rfl) rv_neg) (ev_var rfl)) fun H13 e13 => ?_
        have hb3 : ∃ n3 : Int, (if (((mood == 2) && decide (7 < way)) = true) then -n2 else n2) = n3 ∧ n3.natAbs ≤ nu.natAbs + 100 := by
          refine ⟨_, rfl, ?_⟩
          split <;> omega
        obtain ⟨n3, hn3, b3⟩ := hb3
        rw [hn3]
        refine r_if (b := false) (et_is tk (by show (("most" : Str) == "least") = false; decide +kernel)) (fun hb H14 e14 => ?_) (fun hb H14 e14 => ?_)
        · cases hb
        · exact s_ret (ev_un (ev_var rfl) rv_neg) fun H15 e15 => done ((((e11.trans e12).trans e13).trans e14).trans e15) (.int _) rfl (sz_int (by omega))
end
end D1
end
section
set_option Elab.async false
set_option linter.all false
set_option maxRecDepth 100000
set_option maxHeartbeats 4000000
/-! L6: the law's orders -/
namespace D1
open PySem L2 Evl RZ ClX PySem.VX
/-- [e for k in range(n)], numbers drawn -/
theorem lc_ints {P : Int → Prop} {σ : L2.St} {H1 : Hp} {te : TE} {ta : TA} {jj : Nat} {vs : List Nat} {Q : VK} {n : Nat} (I : Nat → Hp → Prop) (hn : n ≤ 100000) (ha : EvA ta σ H1 [.int (n : Int)])
    (h0 : ∀ G, Ex H1 G → I 0 G) (hI : ∀ (i : Nat) (D : Addr) (o : HO) (G : Hp), H1 D = none → I i G → I i (upd G D o)) (hw : ∀ x, wipe ((wipe σ vs).set jj (some x)) vs = wipe σ vs)
    (hs : ∀ (i : Nat) (G : Hp), i < n → I i G → EvP te ((wipe σ vs).set jj (some (.int (0 + (i : Int))))) G fun y G' => ∃ z, y = .int z ∧ P z ∧ I (i + 1) G' ∧ ∀ (D : Addr) (xs : List V), H1 D = none → G D = some (.lst xs) → G' D = some (.lst xs))
    (k : ∀ (D : Addr) (zs : List Int) (G : Hp), H1 D = none → G D = some (.lst (zs.map V.int)) → zs.length = n → (∀ z ∈ zs, P z) → I n G → Q (.ref D) G) :
    tLc (iRng1 ta) (gName jj) tYes te vs σ H1 Q := by
  refine ha H1 (Ex.refl H1) _ fun H2 e2 => ⟨(n : Int), rfl, by omega, by omega, ?_⟩
  intro D hD
  have hD1 := fresh_back e2 hD
  have key : ∃ W : Nat → Nat → Hp → Prop, (∃ m, W 0 m (upd H2 D (.lst []))) ∧ ∀ i m H, W i m H → ((Itr 0 n).stop i H ∧ Q (.ref D) H) ∨ ((Itr 0 n).go i H ∧ ∃ Nx : Hp → Prop, (∀ H', Nx H' → ∃ m', m' < m ∧ W (i + 1) m' H') ∧ ∀ x H', (Itr 0 n).yld i H x H' → gName jj x (wipe σ vs) H' fun σ2 H2 => wipe σ2 vs = wipe σ vs ∧ tYes σ2 H2 fun b H3 =>
      if b = true then te σ2 H3 fun y H4 => ∃ acc, H4 D = some (.lst acc) ∧ acc.length < sizeLine ∧ Nx (upd H4 D (.lst (acc ++ [y]))) else Nx H3) := by
    refine lc_it (walk_range (lo := 0) (n := n)) (fun i G => I i G ∧ ∃ zs : List Int, G D = some (.lst (zs.map V.int)) ∧ zs.length = i ∧ ∀ z ∈ zs, P z) ⟨hI _ _ _ _ hD1 (h0 H2 e2), [], upd_same, rfl, fun z hz => by cases hz⟩ (fun _ _ _ _ => True.intro) ?_ ?_
    · rintro i x _ G hi ⟨hIi, zs, hz, hl, hP⟩ ⟨rfl, rfl⟩
      refine ⟨hw _, tyes_go (yes_of rfl ?_)⟩
      refine hs i G hi hIi _ ?_
      rintro y G' ⟨z, rfl, hPz, hI2, hk⟩
      refine ⟨_, hk D _ hD1 hz, ?_, hI _ _ _ _ hD1 hI2, zs ++ [z], ?_, by rw [List.length_append, hl]; rfl, fun u hu => ?_⟩
      · rw [List.length_map, hl]
        exact Nat.lt_of_lt_of_le hi (Nat.le_trans hn (by decide))
      · rw [upd_same, List.map_append]
        rfl
      · rcases List.mem_append.mp hu with h | h
        · exact hP u h
        · rw [List.mem_singleton] at h
          rw [h]
          exact hPz
    · rintro G ⟨hIn, zs, hz, hl, hP⟩
      exact k D zs G hD1 hz hl hP hIn
  have hnn : ((n : Int)).toNat = n := Int.toNat_natCast n
  rw [hnn]
  exact key
theorem er_map : ∀ (ws : List Int) (i : Nat), (ws.map V.int).eraseIdx i = (ws.eraseIdx i).map V.int
  | [], _ => rfl
  | _ :: _, 0 => rfl
  | w :: ws, i + 1 => congrArg (V.int w :: ·) (er_map ws i)
theorem rg_ok {n : Nat} (h : n ≤ 10000) : RgOk 0 (n : Int) := .of_le (Int.le_refl 0) (by omega) (by decide) (by omega)
theorem rg_v (n : Nat) : rgV 0 (n : Int) = ((List.range n).map (fun i : Nat => (i : Int))).map V.int := by
  unfold rgV
  rw [show (((n : Int) - 0).toNat) = n by omega, List.map_map]
  apply List.map_congr_left
  intro i _
  show V.int (0 + (i : Int)) = V.int (i : Int)
  rw [Int.zero_add]
theorem small_log {n : Int} (h : n.natAbs ≤ 1000000) : n.natAbs.log2 < 9000 := by
  rcases Nat.eq_zero_or_pos n.natAbs with h0 | h0
  · rw [h0]
    decide
  · have h2 : n.natAbs < 2 ^ 40 := by omega
    have := (Nat.log2_lt (by omega : n.natAbs ≠ 0)).mpr h2
    omega
theorem seqi {x : Int} {n : Nat} (h0 : 0 ≤ x) (h : x.toNat < n) : seqIndex? x n = some x.toNat := by
  unfold seqIndex?
  have h1 : ¬ x < 0 := by omega
  dsimp only
  rw [if_neg h1, decide_eq_true h0, decide_eq_true (by omega : x < (n : Int))]
  rfl
theorem DS.off {m pc pg : Addr} {cs : List Int} {j : Nat} {H : Hp} (h : DS m pc pg cs j H) {p : Addr} (hp : H p = none) : p ≠ m ∧ p ≠ pg := h.fresh hp
def spTurned : Sp := fun vs H Q _ => ∃ (m pc pg : Addr) (cs : List Int) (j n : Nat), vs = [.ref m, .int (n : Int)] ∧ DS m pc pg cs j H ∧ n ≤ 100 ∧ j + n ≤ 100000 ∧ ∀ (D : Addr) (zs : List Int) (H' : Hp), H D = none → H' D = some (.lst (zs.map V.int)) → zs.length = n → (∀ z ∈ zs, 0 ≤ z ∧ z < (n : Int)) → RD m pc pg cs (j + n) H H' → Q (.ref D) H'
section
variable {P : Program} {w : World} {K : PySem.W.Frag} {mg : Str → Option Value} {base : Heap}
abbrev s_turned : Stmt := top 93
theorem sc_turned : FnScope ["_law_draw_here", "_law_many", "_law_waiting", "_law_k"] ["_law_draw_here", "_law_many"] (defScope s_turned) := ⟨rfl, rfl, rfl, by decide +kernel, rfl, by decide +kernel, by decide +kernel⟩
theorem ok_turned {f : Addr} {fd : FuncData} (F : FnP K "_law_turned" s_turned f fd) {f_next : Addr} {fd_next : FuncData} (F_next : FnP K "_law_next" s_next f_next fd_next) (g_next : mg "_law_next" = some (.ref f_next)) (G_next : FnOk P w K mg base (CX0) 2 f_next fd_next ["_law_draw_here", "_law_many"] (spNext)) (z_list : mg "list" = none) (z_range : mg "range" = none) (z_len : mg "len" = none) : FnOk P w K mg base (CX0) 3 f fd ["_law_draw_here", "_law_many"] (spTurned) := by
  have b_next : Binds K fd_next ["_law_draw_here", "_law_many"] [] := F_next.bindsN fun _ _ _ _ _ _ us hl => match us, hl with | [_, _], _ => rfl
  refine F.ok (CX := CX0) sc_turned (fun vs H Q E h => ?_) (fun cdv A outer s H vs Q E hr h => ?_)
  · obtain ⟨m, pc, pg, cs, j, n, rfl, _⟩ := h
    rfl
  · obtain ⟨m, pc, pg, cs, j, n, rfl, hD, hn, hj, q⟩ := h
    have hu := hu_of hr
    have hu64 := hr.units
    have hr_next := hr.mono (by decide : 2 ≤ 2)
    refine ⟨_, PSs.nox (pss_cons (ps_set (i := 2) sc_turned.nd rfl (Or.inr rfl) (pe_listRg rfl rfl z_list (prg_1 rfl z_range (pv 1))))
      (pss_one (ps_ret (pe_lc (own := [("_law_k", 3)]) (g := gName 3) (tt := tYes) (te := tBM K "list" rPopAt (tVar 2) (tCons (tCall spNext [] E0 (tCons (tVar 0) (tCons (tCB (rLenQ K) (tCons (tVar 2) tNil)) tNil))) tNil)) (by rfl) sc_turned.nd (pi_range1 rfl z_range (pa_cons (pv 1) pa_nil)) (blkOk_by (own := [("_law_k", 3)]) (N := ["_law_draw_here", "_law_many", "_law_waiting", "_law_k"]) (sc := defScope s_turned) (by decide +kernel)) (fun _ _ _ _ _ => pg_name (i := 3) sc_turned.nd rfl (Or.inl rfl)) (fun _ _ _ _ _ => pts_nil) (fun _ _ _ _ _ => pe_bm PySem.F.plainAttrs_list PySem.F.slot_list_pop PySem.F.type_list_pop mt_popAt (pv 2) (pa_cons (pe_call G_next hr_next rfl g_next F_next.kp b_next .nil pass0 (pa_cons (pv 0) (pa_cons (pe_callB call_len_seq (by rfl) z_len PySem.boot_len (pa_cons (pv 2) pa_nil)) pa_nil))) pa_nil)))))), ?_⟩
    refine asg_step ⟨_, rfl, (n : Int), rfl, rg_ok (by omega), fun W hW => ?_⟩
    rw [rg_v]
    have hD1 : DS m pc pg cs j (upd H W (.lst (((List.range n).map (fun i : Nat => (i : Int))).map V.int))) := (RD.ofEx hD (Ex.new hW)).inv
    obtain ⟨w1, w2⟩ := hD.fresh hW
    generalize hG1 : (upd H W (.lst (((List.range n).map (fun i : Nat => (i : Int))).map V.int))) = G1 at hD1 ⊢
    have eW : Ex H G1 := hG1 ▸ Ex.new hW
    have hWG : G1 W = some (.lst (((List.range n).map (fun i : Nat => (i : Int))).map V.int)) := by rw [← hG1, upd_same]
    refine lc_ints (P := fun z => 0 ≤ z ∧ z < (n : Int)) (n := n) (fun i G => RD m pc pg cs (j + i) H G ∧ ∃ ws : List Int, G W = some (.lst (ws.map V.int)) ∧ ws.length = n - i ∧ ∀ z ∈ ws, 0 ≤ z ∧ z < (n : Int)) (by omega) (ea_cons (ev_var rfl) ea_nil) (fun G e => ⟨.ofEx hD (eW.trans e), _, e _ _ hWG, by rw [List.length_map, List.length_range]; rfl, fun z hz => ?_⟩) (fun i D o G hDn hI => ?_) (fun _ => rfl) (fun i G hi hI Q' k' => ?_) (fun D zs G hDn hz hl hP hI => ?_)
    · obtain ⟨i, hi, rfl⟩ := List.mem_map.mp hz
      rw [List.mem_range] at hi
      omega
    · obtain ⟨r, ws, h1, h2⟩ := hI
      have : W ≠ D := fun z => by
        rw [← z, hWG] at hDn
        cases hDn
      exact ⟨r.set hD (fresh_back eW hDn), ws, by rw [upd_ne this]; exact h1, h2⟩
    · obtain ⟨r, ws, h1, h2, h3⟩ := hI
      have l0 : 0 < ws.length := by omega
      refine ⟨_, rfl, .inl ⟨rfl, _, sq_of h1⟩, ?_⟩
      refine ⟨_, rfl, _, rfl, W, _, rfl, .inl (sq_of h1), m, pc, pg, cs, j + i, (ws.length : Int), by rw [List.length_map]; rfl, r.inv, by omega, by omega, small_log (by omega), fun x G2 x0 x1 r2 => ?_⟩
      have h1' := r2.stay w1 w2 h1
      have hx : x.toNat < ws.length := by omega
      refine ⟨W, _, x, x.toNat, .int (ws[x.toNat]), rfl, rfl, h1', by omega, by omega, by rw [List.length_map]; exact seqi x0 hx, int_get (List.getElem?_eq_getElem hx), ?_⟩
      refine k' _ _ ⟨_, rfl, h3 _ (List.getElem_mem hx), ⟨RD.set (r.then r2) hD hW, ws.eraseIdx x.toNat, by rw [upd_same, er_map], by rw [List.length_eraseIdx_of_lt hx]; omega, fun z hz => h3 z (List.mem_of_mem_eraseIdx hz)⟩, fun D xs hDn hG => ?_⟩
      have : D ≠ W := fun z => by
        rw [z, hWG] at hDn
        cases hDn
      obtain ⟨d1, d2⟩ := hD1.fresh hDn
      rw [upd_ne this]
      exact r2.stay d1 d2 hG
    · obtain ⟨r, _⟩ := hI
      exact q D zs G (fresh_back eW hDn) hz hl hP r
end
end D1
end
section
set_option Elab.async false
set_option linter.all false
set_option maxRecDepth 100000
set_option maxHeartbeats 4000000
/-! L7: the law's webs -/
namespace D1
open PySem L2 Evl RZ ClX PySem.VX
theorem q_ifS {t : TT} {tu tz : TS} {D : Ends} {σ : L2.St} {H : Hp} {b : Bool} (M : L2.St → Hp → Prop) (h : EvT t σ H b) (h1 : b = true → ∀ H1, Ex H H1 → ∀ D' : Ends, (∀ σ2 H2, M σ2 H2 → D'.nx σ2 H2) → tu D' σ H1) (h2 : b = false → ∀ H1, Ex H H1 → M σ H1) (k : ∀ σ2 H2, M σ2 H2 → tz D σ2 H2) : tSeq (tIfS t tu tNext) tz D σ H :=
  q_when h (fun hb H1 e1 => h1 hb H1 e1 { D with nx := tz D } k) (fun hb H1 e1 => k σ H1 (h2 hb H1 e1))
theorem Kp.lst {H : Hp} {p : Addr} {xs ys : List V} (h : H p = some (.lst xs)) : Kp H (upd H p (.lst ys)) := fun a o so ha => by
  have : a ≠ p := fun z => by
    rw [z, h] at ha
    cases ha
    cases so
  rw [upd_ne this]
  exact ha
theorem par3_step {i j l : Nat} {t : TA} {z : TS} {D : Ends} {σ : L2.St} {H : Hp} (h : t σ H fun vs H1 => ∃ u v w, vs = [u, v, w] ∧ z D (((σ.set i (some u)).set j (some v)).set l (some w)) H1) : tSeq (tPar3 i j l t) z D σ H := h
theorem ints_at {zs : List Int} {n : Nat} (hl : zs.length = n) {B : Int} (hz : ∀ z ∈ zs, 0 ≤ z ∧ z < B) {a : Nat} (ha : a < n) : ∃ z : Nat, atI (zs.map V.int) (a : Int) = some (.int (z : Int)) ∧ (z : Int) < B := by
  have h : a < zs.length := by omega
  obtain ⟨h0, h1⟩ := hz _ (List.getElem_mem h)
  refine ⟨(zs[a]).toNat, atI_of (by omega) ?_, by omega⟩
  rw [Int.toNat_natCast, int_get (List.getElem?_eq_getElem h), Int.toNat_of_nonneg h0]
theorem RD.back {m pc pg : Addr} {cs : List Int} {i j : Nat} {H H1 : Hp} (r : RD m pc pg cs j H H1) {p : Addr} (hp : H1 p = none) : H p = none := by
  cases h : H p with
  | none => rfl
  | some o =>
    obtain ⟨n1, n2⟩ := DS.fresh r.inv hp
    rw [r.stay n1 n2 h] at hp
    cases hp
theorem asg_if {t : TT} {ta tb : TE} {g : TG} {D : Ends} {σ : L2.St} {H : Hp} {b : Bool} (h : EvT t σ H b) (h1 : b = true → ∀ H1, Ex H H1 → tAsg ta g D σ H1) (h2 : b = false → ∀ H1, Ex H H1 → tAsg tb g D σ H1) : tAsg (tIf t ta tb) g D σ H := h H (Ex.refl H) _ fun H1 e => by
  cases b with
  | true => exact h1 rfl H1 e
  | false => exact h2 rfl H1 e
theorem asg_tup2 {K : PySem.W.Frag} {te : TE} {i j : Nat} {x y : V} {D : Ends} {σ : L2.St} {H : Hp} (h : EvU te σ H [x, y]) (k : ∀ H1, Ex H H1 → D.nx ((σ.set i (some x)).set j (some y)) H1) : tAsg te (gTup K 2 (gCons (gName i) (gCons (gName j) gNil))) D σ H := h H (Ex.refl H) _ fun p H1 hp e h1 => ⟨p, _, rfl, st_of h1, rfl, _, _, rfl, _, _, rfl, rfl, k H1 e⟩
def spLWeb : Sp := fun vs H Q _ => ∃ (m pc pg : Addr) (cs : List Int) (j : Nat) (v : V) (k : RK) (most many : Nat), vs = [.ref m, v, .int (most : Int), .int (many : Int)] ∧ DS m pc pg cs j H ∧ j + 2000 ≤ 100000 ∧ DtAt H v (madeD k) ∧ k.depth < 3 ∧ k.ok ∧ 1 ≤ most ∧ most ≤ 12 ∧ many ≤ 80 ∧
  ∀ (x : V) (n : Nat) (ss : List Step) H', RD m pc pg cs (j + 2000) H H' → DtAt H' x (webD n ss) → WebOk k n ss → (∀ s ∈ ss, Sz 140 s.2.2) → n ≤ most → ss.length ≤ many → Q x H'
section
variable {P : Program} {w : World} {K : PySem.W.Frag} {mg : Str → Option Value} {base : Heap}
abbrev s_web : Stmt := top 94
theorem sc_web : FnScope ["_law_draw_here", "_law_made", "_law_most", "_law_many", "_law_states", "_law_shape", "_law_mood", "_law_k", "_law_order", "_law_lifts", "_law_steps", "_law_a", "_law_b"] ["_law_draw_here", "_law_made", "_law_most", "_law_many"] (defScope s_web) := ⟨rfl, rfl, rfl, by decide +kernel, rfl, by decide +kernel, by decide +kernel⟩
theorem ok_web {f : Addr} {fd : FuncData} (F : FnP K "_law_web" s_web f fd) {f_next : Addr} {fd_next : FuncData} (F_next : FnP K "_law_next" s_next f_next fd_next) (g_next : mg "_law_next" = some (.ref f_next)) (G_next : FnOk P w K mg base (CX0) 2 f_next fd_next ["_law_draw_here", "_law_many"] (spNext)) {f_turned : Addr} {fd_turned : FuncData} (F_turned : FnP K "_law_turned" s_turned f_turned fd_turned) (g_turned : mg "_law_turned" = some (.ref f_turned)) (G_turned : FnOk P w K mg base (CX0) 3 f_turned fd_turned ["_law_draw_here", "_law_many"] (spTurned)) {f_weight : Addr} {fd_weight : FuncData} (F_weight : FnP K "_law_weight" s_weight f_weight fd_weight) (g_weight : mg "_law_weight" = some (.ref f_weight)) (G_weight : FnOk P w K mg base (CX0) 7 f_weight fd_weight ["_law_draw_here", "_law_made", "_law_mood", "_law_lift"] (spLWeight 3)) (z_list : mg "list" = none) (z_range : mg "range" = none) (z_len : mg "len" = none) (z_tuple : mg "tuple" = none) (z_min : mg "min" = none) (z_max : mg "max" = none) : FnOk P w K mg base (CX0) 8 f fd ["_law_draw_here", "_law_made", "_law_most", "_law_many"] (spLWeb) := by
  have b_next : Binds K fd_next ["_law_draw_here", "_law_many"] [] := F_next.bindsN fun _ _ _ _ _ _ us hl => match us, hl with | [_, _], _ => rfl
  have b_turned : Binds K fd_turned ["_law_draw_here", "_law_many"] [] := F_turned.bindsN fun _ _ _ _ _ _ us hl => match us, hl with | [_, _], _ => rfl
  have b_weight : Binds K fd_weight ["_law_draw_here", "_law_made", "_law_mood", "_law_lift"] [] := F_weight.bindsN fun _ _ _ _ _ _ us hl => match us, hl with | [_, _, _, _], _ => rfl
  refine F.ok (CX := CX0) sc_web (fun vs H Q E h => ?_) (fun cdv A outer s H vs Q E hr h => ?_)
  · obtain ⟨m, pc, pg, cs, j, v, k, most, many, rfl, _⟩ := h
    rfl
  · obtain ⟨m, pc, pg, cs, j, v, k, most, many, rfl, hD, hj, hM, hn, ok, mo1, mo2, ma, q⟩ := h
    have hu := hu_of hr
    have hu64 := hr.units
    have hr_next := hr.mono (by decide : 2 ≤ 7)
    have hr_turned := hr.mono (by decide : 3 ≤ 7)
    have hr_weight := hr.mono (by decide : 7 ≤ 7)
    refine ⟨_, PSs.nox (pss_cons (ps_par3 (i := 4) (j := 5) (l := 6) (by rfl) sc_web.nd rfl rfl rfl (by decide) (by decide) (by decide) rfl rfl rfl (pa_cons (pe_op op_add pe_int (pe_call G_next hr_next rfl g_next F_next.kp b_next .nil pass0 (pa_cons (pv 0) (pa_cons (pv 2) pa_nil)))) (pa_cons (pe_call G_next hr_next rfl g_next F_next.kp b_next .nil pass0 (pa_cons (pv 0) (pa_cons pe_int pa_nil))) (pa_cons (pe_call G_next hr_next rfl g_next F_next.kp b_next .nil pass0 (pa_cons (pv 0) (pa_cons pe_int pa_nil))) pa_nil))) (by rfl))
      (pss_cons (ps_par (i := 8) (j := 9) (by rfl) sc_web.nd rfl rfl (by decide) rfl rfl (pa_cons (pe_call G_turned hr_turned rfl g_turned F_turned.kp b_turned .nil pass0 (pa_cons (pv 0) (pa_cons (pv 4) pa_nil))) (pa_cons (pe_lc (own := [("_law_k", 7)]) (g := gName 7) (tt := tYes) (by rfl) sc_web.nd (pi_range1 rfl z_range (pa_cons (pv 4) pa_nil)) (blkOk_by (own := [("_law_k", 7)]) (N := ["_law_draw_here", "_law_made", "_law_most", "_law_many", "_law_states", "_law_shape", "_law_mood", "_law_k", "_law_order", "_law_lifts", "_law_steps", "_law_a", "_law_b"]) (sc := defScope s_web) (by decide +kernel)) (fun _ _ _ _ _ => pg_name (i := 7) sc_web.nd rfl (Or.inl rfl)) (fun _ _ _ _ _ => pts_nil) (fun _ _ _ _ _ => pe_call G_next hr_next rfl g_next F_next.kp b_next .nil pass0 (pa_cons (pv 0) (pa_cons pe_int pa_nil)))) pa_nil)) (by rfl))
      (pss_cons (ps_set (i := 10) sc_web.nd rfl (Or.inl rfl) (pe_lst pa_nil))
      (pss_cons (ps_for PassesOwn.never rfl (pi_range1 rfl z_range (pa_cons (pe_call G_next hr_next rfl g_next F_next.kp b_next .nil pass0 (pa_cons (pv 0) (pa_cons (pe_op op_add (pv 3) pe_int) pa_nil))) pa_nil)) (pg_name (i := 7) sc_web.nd rfl (Or.inl rfl)) (pss_cons (ps_par (i := 11) (j := 12) (by rfl) sc_web.nd rfl rfl (by decide) rfl rfl (pa_cons (pe_call G_next hr_next rfl g_next F_next.kp b_next .nil pass0 (pa_cons (pv 0) (pa_cons (pv 4) pa_nil))) (pa_cons (pe_call G_next hr_next rfl g_next F_next.kp b_next .nil pass0 (pa_cons (pv 0) (pa_cons (pv 4) pa_nil))) pa_nil)) (by rfl))
      (pss_cons (ps_if (pt_cmpR op_gt (pv 5) pe_int (nomark _)) (pss_one (ps_asg (pe_ifExp (PW.pt (pw_and (pt_cmpR op_eq (pv 5) pe_int (nomark _)) (pw_and1 (pt_cmpR op_eq (pv 7) pe_int (nomark _))))) (pe_tup (pa_cons (pe_callB (call_max2 rfl) (by rfl) z_max PyProof.Rows.boot_max (pa_cons (pv 11) (pa_cons (pv 12) pa_nil))) (pa_cons (pe_callB (call_min2 rfl) (by rfl) z_min PyProof.Rows.boot_min (pa_cons (pv 11) (pa_cons (pv 12) pa_nil))) pa_nil))) (pe_tup (pa_cons (pe_callB (call_min2 rfl) (by rfl) z_min PyProof.Rows.boot_min (pa_cons (pv 11) (pa_cons (pv 12) pa_nil))) (pa_cons (pe_callB (call_max2 rfl) (by rfl) z_max PyProof.Rows.boot_max (pa_cons (pv 11) (pa_cons (pv 12) pa_nil))) pa_nil)))) (pg_tup rfl (pgs_cons (pg_name (i := 11) sc_web.nd rfl (Or.inl rfl)) (pgs_cons (pg_name (i := 12) sc_web.nd rfl (Or.inl rfl)) pgs_nil))))) pss_nil)
      (pss_one (ps_if (PW.pt (pw_or (pt_cmpR op_eq (pv 5) pe_int (nomark _)) (pw_or1 (pt_cmpR op_ne (pv 11) (pv 12) (nomark _))))) (pss_one (ps_expr (pe_bm PySem.F.plainAttrs_list PySem.F.slot_list_append PySem.F.type_list_append mt_append (pv 10) (pa_cons (pe_tup (pa_cons (pe_ix ix_list (pv 8) (pv 11) (fun _ _ => rfl)) (pa_cons (pe_ix ix_list (pv 8) (pv 12) (fun _ _ => rfl)) (pa_cons (pe_call G_weight hr_weight rfl g_weight F_weight.kp b_weight .nil pass0 (pa_cons (pv 0) (pa_cons (pv 1) (pa_cons (pv 6) (pa_cons (pe_op op_sub (pe_ix ix_list (pv 9) (pv 12) (fun _ _ => rfl)) (pe_ix ix_list (pv 9) (pv 11) (fun _ _ => rfl))) pa_nil))))) pa_nil)))) pa_nil)))) pss_nil)))))
      (pss_one (ps_ret (pe_tup (pa_cons (pv 4) (pa_cons (pe_tupleOf rfl z_tuple (pv 10)) pa_nil))))))))), ?_⟩
    refine par3_step ⟨_, rfl, _, rfl, m, pc, pg, cs, j, (most : Int), rfl, hD, by omega, by omega, small_log (by omega), fun x1 H1 x10 x11 r1 => ⟨1, x1, rfl, rfl, ?_⟩⟩
    refine ⟨_, rfl, m, pc, pg, cs, j + 1, 3, rfl, r1.inv, by omega, by decide, by decide, fun shape H2 s0 s1 r2 => ?_⟩
    refine ⟨_, rfl, m, pc, pg, cs, j + 1 + 1, 4, rfl, r2.inv, by omega, by decide, by decide, fun mood H3 m0 m1 r3 => ⟨_, _, _, rfl, ?_⟩⟩
    obtain ⟨n0, rfl⟩ : ∃ n0 : Nat, x1 = (n0 : Int) := ⟨x1.toNat, by omega⟩
    obtain ⟨n, hn'⟩ : ∃ n : Nat, n = n0 + 1 := ⟨_, rfl⟩
    have hnc : (1 : Int) + (n0 : Int) = (n : Int) := by omega
    have rA : RD m pc pg cs (j + 3) H H3 := (r1.then r2).then r3
    change tSeq _ _ _ [some (.ref m), some v, some (.int (most : Int)), some (.int (many : Int)), some (.int ((1 : Int) + (n0 : Int))), some (.int shape), some (.int mood), none, none, none, none, none, none] H3
    rw [hnc]
    refine par_step ⟨_, rfl, _, rfl, m, pc, pg, cs, j + 3, n, rfl, rA.inv, by omega, by omega, fun Do os H4 hDo ho1 ho2 ho3 r4 => ?_⟩
    have rB : RD m pc pg cs (j + 3 + n) H H4 := rA.then r4
    refine lc_ints (P := fun z => 0 ≤ z ∧ z < 90) (n := n) (fun i G => RD m pc pg cs (j + 3 + n + i) H4 G ∧ True) (by omega) (ea_cons (ev_var rfl) ea_nil) (fun G e => ⟨.ofEx rB.inv e, True.intro⟩) (fun i D o G hDn hI => ⟨hI.1.set rB.inv hDn, True.intro⟩) (fun _ => rfl) (fun i G hi hI Q' k' => ?_) (fun Dl ls H5 hDl hl1 hl2 hl3 hI => ⟨_, _, rfl, ?_⟩)
    · refine ⟨_, rfl, m, pc, pg, cs, j + 3 + n + i, 90, rfl, hI.1.inv, by omega, by decide, by decide, fun x G2 x0 x1 r2 => k' _ _ ⟨x, rfl, ⟨x0, x1⟩, ⟨hI.1.then r2, True.intro⟩, fun D xs hDn hG => ?_⟩⟩
      obtain ⟨d1, d2⟩ := DS.fresh rB.inv hDn
      exact r2.stay d1 d2 hG
    have rC : RD m pc pg cs (j + 3 + n + n) H H5 := rB.then hI.1
    refine asg_step ⟨Nat.zero_le _, fun Ds hDs => ?_⟩
    have hDs0 : H Ds = none := RD.back (i := 0) rC hDs
    obtain ⟨s1', s2'⟩ := DS.fresh hD hDs0
    have rD0 : RD m pc pg cs (j + 3 + n + n) H (upd H5 Ds (.lst [])) := rC.then (.ofEx rC.inv (Ex.new hDs))
    have hDo0 : H Do = none := RD.back (i := 0) rA hDo
    have hDl0 : H Dl = none := RD.back (i := 0) rB hDl
    obtain ⟨o1', o2'⟩ := DS.fresh hD hDo0
    obtain ⟨l1', l2'⟩ := DS.fresh hD hDl0
    have hDo5 : H5 Do = some (.lst (os.map V.int)) := hI.1.stay o1' o2' ho1
    have sDo : Do ≠ Ds := ne_of_none hDo5 hDs
    have sDl : Dl ≠ Ds := ne_of_none hl1 hDs
    have hDo6 : (upd H5 Ds (.lst [])) Do = some (.lst (os.map V.int)) := by rw [upd_ne sDo]; exact hDo5
    have hDl6 : (upd H5 Ds (.lst [])) Dl = some (.lst (ls.map V.int)) := by rw [upd_ne sDl]; exact hl1
    refine ⟨_, rfl, _, rfl, _, _, rfl, rfl, m, pc, pg, cs, j + 3 + n + n, (many : Int) + 1, rfl, rD0.inv, by omega, by omega, small_log (by omega), fun cnt H7 c0 c1 r7 => ⟨cnt, rfl, by omega, by omega, ?_⟩⟩
    have rE : RD m pc pg cs (j + 3 + n + n + 1) H H7 := rD0.then r7
    obtain ⟨jb, hjb⟩ : ∃ jb, jb = j + 3 + n + n + 1 := ⟨_, rfl⟩
    rw [← hjb] at rE
    refine for_it (walk_range (lo := 0) (n := cnt.toNat)) (fun i σ' G => ∃ x7 x11 x12, σ' = [some (.ref m), some v, some (.int (most : Int)), some (.int (many : Int)), some (.int (n : Int)), some (.int shape), some (.int mood), x7, some (.ref Do), some (.ref Dl), some (.ref Ds), x11, x12] ∧ RD m pc pg cs (jb + i * 20) H G ∧ G Do = some (.lst (os.map V.int)) ∧ G Dl = some (.lst (ls.map V.int)) ∧ ∃ us ss, G Ds = some (.lst us) ∧ DtAll G us (List.map stepD ss) ∧ ss.length ≤ i ∧ ∀ s ∈ ss, s.1 < n ∧ s.2.1 < n ∧ goodB k s.2.2 = true ∧ Sz 140 s.2.2)
      ⟨_, _, _, rfl, rE.up (by omega), r7.stay o1' o2' hDo6, r7.stay l1' l2' hDl6, [], [], r7.stay s1' s2' upd_same, .nil, Nat.zero_le _, fun s hs => by cases hs⟩ (fun _ _ _ _ _ => True.intro) ?_ ?_
    · rintro i x σ' _ G hi ⟨x7, x11, x12, rfl, rG, g1, g2, us, ss, g3, g4, g5, g6⟩ ⟨rfl, rfl⟩
      have hi80 : i < 81 := by omega
      refine par_step ⟨_, rfl, _, rfl, m, pc, pg, cs, jb + i * 20, (n : Int), rfl, rG.inv, by omega, by omega, small_log (by omega), fun a G1 a0 a1 ra => ⟨_, rfl, _, rfl, m, pc, pg, cs, jb + i * 20 + 1, (n : Int), rfl, ra.inv, by omega, by omega, small_log (by omega), fun b G2 b0 b1 rb => ⟨_, _, rfl, ?_⟩⟩⟩
      obtain ⟨a, rfl⟩ : ∃ a' : Nat, a = (a' : Int) := ⟨a.toNat, by omega⟩
      obtain ⟨b, rfl⟩ : ∃ b' : Nat, b = (b' : Int) := ⟨b.toNat, by omega⟩
      have rF : RD m pc pg cs (jb + i * 20 + 2) H G2 := (rG.then ra).then rb
      have rGF := ra.then rb
      refine q_ifS (b := decide (0 < shape)) (fun σ2 G3 => ∃ a' b' : Nat, σ2 = [some (.ref m), some v, some (.int (most : Int)), some (.int (many : Int)), some (.int (n : Int)), some (.int shape), some (.int mood), some (.int ((0 : Int) + (i : Int))), some (.ref Do), some (.ref Dl), some (.ref Ds), some (.int (a' : Int)), some (.int (b' : Int))] ∧ a' < n ∧ b' < n ∧ Ex G2 G3) (et_test (ev_gtI (ev_var rfl) ev_c)) (fun hb G3 e3 D' k' => ?_) (fun hb G3 e3 => ⟨a, b, rfl, by omega, by omega, e3⟩) ?_
      · obtain ⟨mx, hmx, lmx⟩ : ∃ mx : Nat, (if (b : Int) > (a : Int) then (b : Int) else (a : Int)) = (mx : Int) ∧ mx < n := by split <;> exact ⟨_, rfl, by omega⟩
        obtain ⟨mn, hmn, lmn⟩ : ∃ mn : Nat, (if (b : Int) < (a : Int) then (b : Int) else (a : Int)) = (mn : Int) ∧ mn < n := by split <;> exact ⟨_, rfl, by omega⟩
        refine asg_if (b := (shape == 2) && ((0 : Int) + (i : Int) == 1)) (et_and (et_test (ev_eqI (ev_var rfl) ev_c)) fun _ => et_test (ev_eqI (ev_var rfl) ev_c)) (fun hb G4 e4 => ?_) (fun hb G4 e4 => ?_)
        · refine asg_tup2 (eu_tup (ea_cons (ev_is (ev_cb (ea_cons (ev_var rfl) (ea_cons (ev_var rfl) ea_nil)) fun H8 e8 Q' q' => ⟨_, _, rfl, q' H8 (Ex.refl H8)⟩) (congrArg V.int hmx)) (ea_cons (ev_is (ev_cb (ea_cons (ev_var rfl) (ea_cons (ev_var rfl) ea_nil)) fun H8 e8 Q' q' => ⟨_, _, rfl, q' H8 (Ex.refl H8)⟩) (congrArg V.int hmn)) ea_nil)) (by show 2 ≤ 100000; decide)) fun G5 e5 => k' _ _ ⟨_, _, rfl, lmx, lmn, (e3.trans e4).trans e5⟩
        · refine asg_tup2 (eu_tup (ea_cons (ev_is (ev_cb (ea_cons (ev_var rfl) (ea_cons (ev_var rfl) ea_nil)) fun H8 e8 Q' q' => ⟨_, _, rfl, q' H8 (Ex.refl H8)⟩) (congrArg V.int hmn)) (ea_cons (ev_is (ev_cb (ea_cons (ev_var rfl) (ea_cons (ev_var rfl) ea_nil)) fun H8 e8 Q' q' => ⟨_, _, rfl, q' H8 (Ex.refl H8)⟩) (congrArg V.int hmx)) ea_nil)) (by show 2 ≤ 100000; decide)) fun G5 e5 => k' _ _ ⟨_, _, rfl, lmn, lmx, (e3.trans e4).trans e5⟩
      rintro σ2 G3 ⟨a', b', rfl, ha', hb', e3⟩
      have rH : RD m pc pg cs (jb + i * 20 + 2) H G3 := rF.then (.ofEx rF.inv e3)
      have rGH : RD m pc pg cs (jb + i * 20 + 2) G G3 := rGF.then (.ofEx rF.inv e3)
      refine s_when (b := (shape == 0) || !((a' : Int) == (b' : Int))) (et_or (et_test (ev_eqI (ev_var rfl) ev_c)) fun _ => et_test (ev_neI (ev_var rfl) (ev_var rfl))) (fun hb G4 e4 => ?_) (fun hb G4 e4 => ?_)
      · have rI : RD m pc pg cs (jb + i * 20 + 2) H G4 := rH.then (.ofEx rH.inv e4)
        have rGI : RD m pc pg cs (jb + i * 20 + 2) G G4 := rGH.then (.ofEx rH.inv e4)
        have kpI : Kp G G4 := rGI.kp rG.inv
        have g1' := rGI.stay o1' o2' g1
        have g2' := rGI.stay l1' l2' g2
        have g3' := rGI.stay s1' s2' g3
        obtain ⟨z1, at1, z1b⟩ := ints_at ho2 ho3 ha'
        obtain ⟨z2, at2, z2b⟩ := ints_at ho2 ho3 hb'
        obtain ⟨y1, bt1, y1b⟩ := ints_at hl2 hl3 ha'
        obtain ⟨y2, bt2, y2b⟩ := ints_at hl2 hl3 hb'
        have cw := costW_le k
        have cw2 : costW k ≤ 12 := by
          have h3 := Nat.pow_le_pow_right (n := 2) (by decide) (by omega : k.depth ≤ 2)
          omega
        refine ⟨_, rfl, .inl ⟨rfl, _, sq_of g3'⟩, _, rfl, _, rfl, Do, _, (a' : Int), .int (z1 : Int), rfl, rfl, sq_of g1', at1, _, rfl, _, rfl, Do, _, (b' : Int), .int (z2 : Int), rfl, rfl, sq_of g1', at2, _, rfl, _, rfl, _, rfl, _, rfl, _, rfl, Dl, _, (b' : Int), .int (y2 : Int), rfl, rfl, sq_of g2', bt2, _, rfl, _, rfl, Dl, _, (a' : Int), .int (y1 : Int), rfl, rfl, sq_of g2', bt1, _, _, rfl, rfl, ?_⟩
        refine ⟨m, pc, pg, cs, jb + i * 20 + 2, v, k, mood, (y2 : Int) - (y1 : Int), rfl, rI.inv, by omega, hM.kp (rI.kp hD), hn, ok, m0, m1, by omega, by omega, fun xw dw G5 rw hxw gw sw => ⟨by show 3 ≤ sizeLine; decide, fun l hl => ?_⟩⟩
        have rJ : RD m pc pg cs (jb + i * 20 + 2 + costW k) H G5 := rI.then rw
        have rGJ : RD m pc pg cs (jb + i * 20 + 2 + costW k) G G5 := rGI.then rw
        have g1'' := rw.stay o1' o2' g1'
        have g2'' := rw.stay l1' l2' g2'
        have g3'' := rw.stay s1' s2' g3'
        have hl' := Ex.new (o := .tup [.int (z1 : Int), .int (z2 : Int), xw]) hl
        refine ⟨Ds, us, .ref l, rfl, rfl, hl' _ _ g3'', ?_, ?_⟩
        · have := DtAll.len g4
          rw [List.length_map] at this
          rw [this]
          exact Nat.lt_of_le_of_lt g5 (Nat.lt_of_lt_of_le hi80 (by decide))
        have kp2 : Kp G5 (upd (upd G5 l (.tup [.int (z1 : Int), .int (z2 : Int), xw])) Ds (.lst (us ++ [.ref l]))) := (Kp.ex hl').trans (Kp.lst (hl' _ _ g3''))
        refine ⟨_, _, _, rfl, RD.up (RD.set (rJ.then (.ofEx rJ.inv hl')) hD hDs0) (by rw [Nat.succ_mul]; omega), by rw [upd_ne sDo]; exact hl' _ _ g1'', by rw [upd_ne sDl]; exact hl' _ _ g2'', us ++ [.ref l], ss ++ [(z1, z2, dw)], upd_same, ?_, by rw [List.length_append]; exact Nat.succ_le_succ g5, fun s hs => ?_⟩
        · rw [List.map_append]
          refine DtAll.append ((g4.kp (rGJ.kp rG.inv)).kp kp2) (.cons ?_ .nil)
          have : l ≠ Ds := fun z => by rw [z, g3''] at hl; cases hl
          exact .tup (by rw [upd_ne this]; exact upd_same) (.cons (.int _) (.cons (.int _) (.cons (hxw.kp kp2) .nil)))
        · rcases List.mem_append.mp hs with h | h
          · exact g6 s h
          · rw [List.mem_singleton] at h
            rw [h]
            exact ⟨(by omega : z1 < n), (by omega : z2 < n), gw, sw⟩
      · have rI : RD m pc pg cs (jb + i * 20 + 2) H G4 := rH.then (.ofEx rH.inv e4)
        have rGI : RD m pc pg cs (jb + i * 20 + 2) G G4 := rGH.then (.ofEx rH.inv e4)
        exact ⟨_, _, _, rfl, RD.up rI (by rw [Nat.succ_mul]; omega), rGI.stay o1' o2' g1, rGI.stay l1' l2' g2, us, ss, rGI.stay s1' s2' g3, g4.kp (rGI.kp rG.inv), by omega, g6⟩
    · rintro σ' G ⟨x7, x11, x12, rfl, rG, g1, g2, us, ss, g3, g4, g5, g6⟩
      refine ⟨_, rfl, _, rfl, .inl ⟨Ds, us, rfl, sq_of g3, fun t ht => ⟨by show 2 ≤ sizeLine; decide, fun l hl => ?_⟩⟩⟩
      have e1 := Ex.new (o := .tup us) ht
      have e2 := Ex.new (o := .tup [.int (n : Int), .ref t]) hl
      have hc : cnt.toNat * 20 ≤ 80 * 20 := Nat.mul_le_mul_right _ (by omega)
      refine q _ n ss _ (RD.up (rG.then (.ofEx rG.inv (e1.trans e2))) (by omega)) (.new hl (.cons (.int _) (.cons (.new ht g4) .nil))) ⟨by omega, by omega, by omega, fun s hs => ⟨(g6 s hs).1, (g6 s hs).2.1, (g6 s hs).2.2.1⟩⟩ (fun s hs => (g6 s hs).2.2.2) (by omega) (by omega)
end
end D1
end
section
set_option Elab.async false
set_option linter.all false
set_option maxRecDepth 100000
set_option maxHeartbeats 4000000
/-! Z3: enumerate of a tuple -/
namespace PySem
open Sem (wp)
theorem meets_enumerate_new1 {v : Value} {o : Obj} {H : Heap → Prop} (B : Begins v o H) :
    Meets (Builtin.«enumerate.__new__» ⟨[.type "enumerate", v], []⟩) (fun _ R s => H s.heap ∧
      R (.ok (.ret (.ref (s.heap.push o).objs.size))) { s with heap := (s.heap.push o).push { cls := .type "enumerate", data := .fields #[.none, .bool false, .ref s.heap.objs.size, rawInt 0, .none, .none] } }) :=
  .of_wp fun prog w A R s h => by
    obtain ⟨hp, g, d, tk, os⟩ := s; obtain ⟨h1, h⟩ := h
    have hsub := sub_enumerate
    have q1 : ∀ {A' : Around} {E : Value → Shared → Prop} {Q : Value → Shared → Prop}, Q (.ref hp.objs.size) ⟨hp.push o, g, d, tk, os⟩ → wpAny (model prog w) A' (pyIter v) Q E ⟨hp, g, d, tk, os⟩ :=
      fun q => B.iter prog w _ _ ⟨hp, g, d, tk, os⟩ _ h1 q
    wp_walk using q1
    refine wpAny_stack_any fun st => wpAny_pure ?_
    split
    · rename_i c _ _ _ _ _
      cases (c == Value.type "enumerate")
      · wp_walk using q1
        exact ⟨_, rfl, h⟩
      · wp_walk using q1
        exact ⟨_, rfl, h⟩
    · wp_walk using q1
      exact ⟨_, rfl, h⟩
section
variable {prog : Program} {w : World} {A : Around} {E : Value → Shared → Prop} {s : Shared}
theorem enum_begins1 {v : Value} {o : Obj} {H : Heap → Prop} {Q : Value → Shared → Prop} (B : Begins v o H) (h1 : H s.heap)
    (h : ∀ h', IsEnum h' (s.heap.objs.size + 1) s.heap.objs.size 0 .none → h'.get? s.heap.objs.size = some o → h'.objs.size = s.heap.objs.size + 2 →
      (∀ b o, s.heap.get? b = some o → h'.get? b = some o) → Q (.ref (s.heap.objs.size + 1)) { s with heap := h' }) :
    wpAny (model prog w) A (call (.type "enumerate") [v]) Q E s := by
  refine callType_new F.called_enumerate (by decide) (F.typeCall_enumerate_1 _) (F.newCall_enumerate_1 _) (fun obj => F.args_object_init_2 obj _) F.entry_enumerate_new
    (meets_enumerate_new1 B) ⟨h1, ?_⟩
  have hz : (s.heap.push o).objs.size = s.heap.objs.size + 1 := Heap.size_push ..
  show _ ∧ _
  rw [hz]
  have he : IsEnum ((s.heap.push o).push { cls := .type "enumerate", data := .fields #[.none, .bool false, .ref s.heap.objs.size, rawInt 0, .none, .none] }) (s.heap.objs.size + 1) s.heap.objs.size 0 .none := by
    have := Heap.get?_push_size (s.heap.push o) (o := { cls := .type "enumerate", data := .fields #[.none, .bool false, .ref s.heap.objs.size, rawInt 0, .none, .none] }) rfl
    rw [hz] at this; exact this
  refine ⟨⟨_, he, rfl⟩, h _ he (Heap.get?_push_of_some _ (Heap.get?_push_size _ B.free)) (by rw [Heap.size_push, hz]) fun b o x => Heap.get?_push_of_some _ (Heap.get?_push_of_some _ x)⟩
end
end PySem
namespace RZ
open PySem PySem.Spec PyProof.Rows L2
def IteT (K : PySem.W.Frag) (a : Addr) : It :=
  ⟨fun i H => ∃ (xs : List V) (x : V), SqT K H a xs ∧ xs[i]? = some x, fun i H v H' => ∃ T x, v = .ref T ∧ H T = none ∧ H' = upd H T (.tup [.int (i : Nat), x]) ∧ ∀ xs, SqT K H a xs → xs[i]? = some x, fun i H => ∃ xs : List V, SqT K H a xs ∧ i = xs.length⟩
theorem turn_enumT {P : Program} {w : World} {K : PySem.W.Frag} {elts : List Expr} {kk : Nat} {tpos : Pos} (a e it : Addr) (ai : a ≠ it) (ae : a ≠ e) :
    Turn P w K (.Tuple elts kk tpos) (IteT K a) [e, it] e (fun i h => (∃ old, IsEnum h e it ((i : Nat) : Int) old) ∧ h.IsTupleIter it a i ∧ e ≠ it) where
  mem := by simp
  obj := fun i h st b hb => by
    obtain ⟨⟨old, he⟩, ⟨o, ho, hc, hd⟩, _⟩ := st
    have e' : b = e ∨ b = it := by simpa using hb
    rcases e' with z | z
    · rw [z]; exact ⟨_, he, fun v q => nomatch q⟩
    · rw [z]; exact ⟨o, ho, fun v q => by rw [hd] at q; cases q⟩
  keep := fun i h h' st k => let ⟨⟨old, he⟩, hi, hne⟩ := st; ⟨⟨old, k e (by simp) _ he⟩, hi.at fun o q => k it (by simp) o q, hne⟩
  item := by
    intro X hP hw hK hc i pins s σ H E I hf st hg
    subst hP hw hK
    obtain ⟨⟨old, he⟩, hit, hne⟩ := st
    obtain ⟨xs, x, hq, hx⟩ := hg
    obtain ⟨its, rv, p, _⟩ := I.tuple hq
    obtain ⟨u, hu, ru⟩ := rv.get hx
    have hel : e < s.heap.objs.size := Heap.lt_size he
    have hil : it < s.heap.objs.size := by obtain ⟨_, q, _⟩ := hit; exact Heap.lt_size q
    have L2 : s.heap.IsTuple a its.toArray := p
    have q1 : its.toArray[i]? = some u := by simpa using hu
    have n1 : i < its.toArray.size := by
      obtain ⟨h, _⟩ := Array.getElem?_eq_some_iff.mp q1
      exact h
    refine wpAny_pyNext_enum_itemD (St := fun i h => h.IsTupleIter it a i ∧ h.IsTuple a its.toArray) (Draws.tuple (A := X.A.in1) (show X.A.in1.handled = none from I.ok.hd hc) it a ai its.toArray) he ⟨hit, L2⟩ n1 hne (by simp [hne, Ne.symm ae]) fun v h' tk e1 ho hit' hT hsz hk => ?_
    have ev1 : u = v := Option.some.inj (q1.symm.trans e1)
    subst ev1
    refine ⟨_, rfl, wpAny_letOwnedTupleGo_enum (s := { s with heap := h', toks := tk + 1 }) ho fun h'' he' sb => ?_⟩
    have hT2 : h''.get? s.heap.objs.size = some { cls := .type "tuple", data := .seq #[.int i tk, u] } := (sb.2 _ (Nat.ne_of_gt hel)).trans hT
    have new : ObjOk X.prog X.w (upd H s.heap.objs.size (.tup [.int (i : Nat), x])) h'' s.heap.objs.size (.tup [.int (i : Nat), x]) :=
      ⟨by show 2 ≤ sizeLine; decide, [.int i tk, u], .cons ⟨_, rfl⟩ (.cons ru .nil), ⟨_, hT2, rfl, _, rfl⟩⟩
    have I1 : Inv X pins σ (upd H s.heap.objs.size (.tup [.int (i : Nat), x])) { s with heap := h'', toks := tk + 1 } :=
      I.turnedNew (t' := tk + 1) (ch := [e, it]) (fun b ob hb q => (sb.2 b (fun z => hb (by simp [z]))).trans (hk b ob (fun z => hb (by simp [z])) (fun z => hb (by simp [z])) q)) hf (Nat.le_refl _) new
    refine ⟨.ref s.heap.objs.size, _, I1, rfl, ⟨_, x, rfl, I.hok.fresh (Nat.le_refl _), rfl, fun ys hy => by rw [I.tuple_inj hy hq]; exact hx⟩, ⟨⟨u, ?_⟩, hit'.1.at fun o q => (sb.2 it (Ne.symm hne)).trans q, hne⟩, fun b hb => ?_⟩
    · have e1 : ((i + 1 : Nat) : Int) = (i : Int) + 1 := by omega
      rw [e1]; exact he'
    · have hb' : b < s.heap.objs.size := by
        have e' : b = e ∨ b = it := by simpa using hb
        rcases e' with z | z
        · rw [z]; exact hel
        · rw [z]; exact hil
      rw [upd_ne (Nat.ne_of_lt hb')]
      exact (hf b hb).1
  done := by
    intro X hP hw hK hc i pins s σ H E I hf st hg
    subst hP hw hK
    obtain ⟨⟨old, he⟩, hit, hne⟩ := st
    obtain ⟨xs, hq, hx⟩ := hg
    obtain ⟨its, rv, p, _⟩ := I.tuple hq
    obtain ⟨f0, f1, f2, f3, f4, f5⟩ := hf it (by simp)
    have hl := rv.length
    have L2 : s.heap.IsTuple a its.toArray := p
    have hi : i = its.toArray.size := by rw [List.size_toArray]; omega
    subst hi
    exact wpAny_pyNext_enum_endD (St := fun i h => h.IsTupleIter it a i ∧ h.IsTuple a its.toArray) (Draws.tuple (A := X.A.in1) (show X.A.in1.handled = none from I.ok.hd hc) it a ai its.toArray) he ⟨hit, L2⟩ fun h' eb => ⟨rfl, I.turned (t' := s.toks) (fun b o hb q => eb b o hb q) f0 f1 f3 f4 f5⟩
  self := fun A i s Q E st h => let ⟨⟨_, he⟩, _⟩ := st; wpAny_pyIter_enum he h
def iEnumT (K : PySem.W.Frag) (ta : TA) : TI := fun σ H R => ta σ H fun vs H1 => ∃ a xs, vs = [.ref a] ∧ SqT K H1 a xs ∧ R (IteT K a) H1
theorem pi_enumT {X : Cx} {e : Expr} {ta : TA} {p pos tpos : Pos} {elts : List Expr} {kk : Nat} (hg : Gl X "enumerate") (hm : X.mg "enumerate" = none) (ha : PA X [e] ta) (hs : starEach [e] X.env = [(false, eval e X.env)] := by rfl) :
    PI X (.Tuple elts kk tpos) (.Call (.Name "enumerate" p) [e] [] pos) (iEnumT X.K ta) := by
  refine ⟨fun pins s σ H R I h => ?_⟩
  refine Call_ (ld_blt I hg hm boot_enumerate (PyProof.Rows.callWith_type1 (thn (ha.run pos pins s σ H _ I h) fun us s1 ⟨vs, H1, I1, r1, q1⟩ => ?_) hs rfl))
  obtain ⟨a, xs, ex, hq, q⟩ := q1
  subst ex
  cases r1 with
  | cons r rr =>
    cases rr
    cases r
    obtain ⟨its, rv, p', _⟩ := I1.tuple hq
    obtain ⟨o2, ho2, _⟩ := id p'
    have hlt : a < s1.heap.objs.size := Heap.lt_size ho2
    refine enum_begins1 (begins_tuple a its.toArray) (show s1.heap.IsTuple a its.toArray from p') fun h' he hit hsz hk => wpAny_pyIter_enum he ?_
    have I2 : Inv X pins σ H1 { s1 with heap := h' } := I1.kept (t' := s1.toks) hk
    refine ⟨s1.heap.objs.size + 1, [s1.heap.objs.size + 1, s1.heap.objs.size], _, _, H1, rfl, I2, turn_enumT a (s1.heap.objs.size + 1) s1.heap.objs.size (Nat.ne_of_lt hlt) (Nat.ne_of_lt (Nat.lt_succ_of_lt hlt)), ⟨⟨.none, he⟩, ⟨_, hit, rfl, rfl⟩, Nat.succ_ne_self _⟩, fun b hb => ?_, q⟩
    have e' : b = s1.heap.objs.size + 1 ∨ b = s1.heap.objs.size := by simpa using hb
    have hle : s1.heap.objs.size ≤ b := by
      rcases e' with z | z
      · rw [z]; exact Nat.le_add_right _ _
      · rw [z]; exact Nat.le_refl _
    exact I1.fpOk hle (I1.hok.fresh hle)
theorem walk_enumT {K : PySem.W.Frag} {a : Addr} {xs : List V} : Walk (IteT K a) xs.length (fun H => SqT K H a xs) (YPair (fun i => some (.int (i : Nat))) (fun i => xs[i]?)) := by
  refine ⟨fun i _ hi q => ⟨xs, xs[i], q, by simp [hi]⟩, fun _ q => ⟨xs, q, rfl⟩, fun i H v H' _ q y => ?_⟩
  obtain ⟨T, x, h1, h2, h3, h4⟩ := y
  exact ⟨T, .int (i : Nat), x, h1, h2, h3, rfl, h4 xs q⟩
end RZ
end
section
set_option Elab.async false
set_option linter.all false
set_option maxRecDepth 100000
set_option maxHeartbeats 4000000
/-! L8: what the law compares, sums up, and walks -/
namespace D1
open PySem L2 Evl RZ ClX PySem.VX
section
variable {K : PySem.W.Frag} {σ : L2.St} {H : Hp} {te ta tb : TE}
/-- all([e for x, y in zip(s, t)]), two tuples -/
theorem ev_allTT {a b : Addr} {xs ys : List V} {j k : Nat} {vs : List Nat} (g : Nat → Bool) (h : Ev ta σ H (.ref a)) (h' : Ev tb σ H (.ref b)) (hx : H a = some (.tup xs)) (hy : H b = some (.tup ys)) (hl : xs.length = ys.length) (hz : xs.length ≤ 40000)
    (hw : ∀ x y, wipe (((wipe σ vs).set j (some x)).set k (some y)) vs = wipe σ vs)
    (he : ∀ (i : Nat) (x y : V) H1, Ex H H1 → xs[i]? = some x → ys[i]? = some y → Ev te (((wipe σ vs).set j (some x)).set k (some y)) H1 (.bl (g i))) :
    Ev (tCB (rAll K) (tCons (tLc (iZipA K (tCons ta (tCons tb tNil))) (gTup K 2 (gCons (gName j) (gCons (gName k) gNil))) tYes te vs) tNil)) σ H (.bl ((List.range xs.length).all g)) := by
  have main : EvL (tLc (iZipA K (tCons ta (tCons tb tNil))) (gTup K 2 (gCons (gName j) (gCons (gName k) gNil))) tYes te vs) σ H (given xs.length (fun _ => true) fun i => .bl (g i)) := fun H0 e Q k' => by
    refine h H0 e _ fun H1 e1 => h' H1 (e.trans e1) _ fun H2 e2 => ?_
    have e12 := e1.trans e2
    have ha := (e.trans e12) _ _ hx
    have hb := (e.trans e12) _ _ hy
    refine ⟨a, b, xs, ys, rfl, .inr ⟨st_of ha, st_of hb, fun Dl hD => ?_⟩⟩
    refine lc_it (walk_zipQ (K := K) (a := a) (b := b) (xs := xs) (ys := ys) (n := xs.length) (by omega)) (Cw H2 (fun _ => true) (fun i => V.bl (g i)) Dl) ⟨hD, Ex.new hD, upd_same⟩ (fun i H' _ p => ⟨st_of (p.2.1 _ _ ha), st_of (p.2.1 _ _ hb)⟩) (fun i x H5 H6 hi p y => ?_) (fun H' p => k' Dl H' (fresh_back e12 p.1) (e12.trans p.2.1) p.2.2)
    obtain ⟨Tp, c, d, rfl, hT, rfl, hc, hd⟩ := y
    have p2 : Cw H2 (fun _ => true) (fun i => V.bl (g i)) Dl i (upd H5 Tp (.tup [c, d])) := ⟨p.1, p.2.1.trans (Ex.new hT), by rw [upd_ne (ne_of_none p.2.2 hT)]; exact p.2.2⟩
    exact ⟨Tp, _, rfl, .inl (.inl upd_same), rfl, _, _, rfl, _, _, rfl, rfl, hw _ _, cw_turn (f := fun _ => true) p2 (by omega) (fun H4 _ Q' q => q H4 (Ex.refl H4)) (fun _ => he i c d H2 (e.trans e12) hc hd)⟩
  rw [given_map] at main
  have h2 := ev_all (K := K) main
  rw [all_range] at h2
  exact h2
end
/-- at most so many tuples in tuples -/
def Nest : Nat → PyData → Prop
  | 0, .tuple _ => False
  | n + 1, .tuple ds => (∀ d ∈ ds, Nest n d) ∧ ds.length ≤ 1000
  | _, _ => True
def spLSame (N : Nat) : Sp := fun vs H Q _ => ∃ (x y : V) (d : PyData) (n : Nat), vs = [x, y] ∧ DtAt H x d ∧ DtAt H y d ∧ Nest n d ∧ n < N ∧ ∀ H', Ex H H' → Q (.bl true) H'
section
variable {P : Program} {w : World} {K : PySem.W.Frag} {mg : Str → Option Value} {base : Heap}
abbrev s_same : Stmt := top 95
theorem sc_same : FnScope ["_law_told_here", "_law_due_here", "_law_right_here", "_law_a", "_law_b"] ["_law_told_here", "_law_due_here"] (defScope s_same) := ⟨rfl, rfl, rfl, by decide +kernel, rfl, by decide +kernel, by decide +kernel⟩
theorem ok_same {f : Addr} {fd : FuncData} (F : FnP K "_law_same" s_same f fd) (g_same : mg "_law_same" = some (.ref f)) (z_isinstance : mg "isinstance" = none) (z_tuple : mg "tuple" = none) (z_list : mg "list" = none) (z_bool : mg "bool" = none) (z_int : mg "int" = none) (z_str : mg "str" = none) (z_len : mg "len" = none) (z_all : mg "all" = none) (z_zip : mg "zip" = none) : ∀ d : Nat, FnOk P w K mg base CX0 (d + 1) f fd ["_law_told_here", "_law_due_here"] (spLSame d) := by
  have F_same := F
  have b_same : Binds K fd ["_law_told_here", "_law_due_here"] [] := F_same.bindsN fun _ _ _ _ _ _ us hl => match us, hl with | [_, _], _ => rfl
  intro d
  induction d with
  | zero =>
    refine fn_never fun vs H Q E h => ?_
    obtain ⟨x, y, dd, n, rfl, hx, hy, hN, hn, q⟩ := h
    exact Nat.not_lt_zero _ hn
  | succ d ih =>
    have G_same := ih
    refine F.ok sc_same (fun vs H Q E h => ?_) (fun cdv A outer s H vs Q E hr h => ?_)
    · obtain ⟨x, y, dd, n, rfl, _⟩ := h
      rfl
    · obtain ⟨x, y, dd, n, rfl, hx, hy, hN, hn, q⟩ := h
      have hu := hu_of hr
      have hu64 := hr.units
      have hr_same := hr
      refine ⟨_, PSs.nox (pss_cons (ps_if (pt_val (pe_callB call_isiT (by rfl) z_isinstance PyProof.Rows.boot_isinstance (pa_cons (pv 1) (pa_cons (pe_tup (pa_cons (pe_bltn (v := .ty "list") rfl z_list (by decide +kernel) rfl) (pa_cons (pe_bltn (v := .ty "tuple") rfl z_tuple (by decide +kernel) rfl) pa_nil))) pa_nil)))) (pss_cons (ps_set (i := 2) sc_same.nd rfl (Or.inl rfl) (pe_ifExp (pt_val (pe_callB call_isi (by rfl) z_isinstance PyProof.Rows.boot_isinstance (pa_cons (pv 1) (pa_cons (pe_bltn (v := .ty "tuple") rfl z_tuple (by decide +kernel) rfl) pa_nil)))) (pe_callB call_isi (by rfl) z_isinstance PyProof.Rows.boot_isinstance (pa_cons (pv 0) (pa_cons (pe_bltn (v := .ty "tuple") rfl z_tuple (by decide +kernel) rfl) pa_nil))) (pe_callB call_isi (by rfl) z_isinstance PyProof.Rows.boot_isinstance (pa_cons (pv 0) (pa_cons (pe_bltn (v := .ty "list") rfl z_list (by decide +kernel) rfl) pa_nil)))))
      (pss_one (ps_ret (pe_and (pv 2) (pe_and (pe_cmpR op_eq (pe_callB call_len_seq (by rfl) z_len PySem.boot_len (pa_cons (pv 0) pa_nil)) (pe_callB call_len_seq (by rfl) z_len PySem.boot_len (pa_cons (pv 1) pa_nil)) (nomark _)) (pe_one (pe_callB (cr_all rfl) (by rfl) z_all PyProof.Rows.boot_all (pa_cons (pe_lc (own := [("_law_a", 3), ("_law_b", 4)]) (g := gTup K 2 (gCons (gName 3) (gCons (gName 4) gNil))) (tt := tYes) (by rfl) sc_same.nd (pi_zipA (by rfl) z_zip (pa_cons (pv 0) (pa_cons (pv 1) pa_nil))) (blkOk_by (own := [("_law_a", 3), ("_law_b", 4)]) (N := ["_law_told_here", "_law_due_here", "_law_right_here", "_law_a", "_law_b"]) (sc := defScope s_same) (by decide +kernel)) (fun _ _ _ _ _ => pg_tup rfl (pgs_cons (pg_name (i := 3) sc_same.nd rfl (Or.inl rfl)) (pgs_cons (pg_name (i := 4) sc_same.nd rfl (Or.inl rfl)) pgs_nil))) (fun _ _ _ _ _ => pts_nil) (fun _ _ _ _ _ => pe_call G_same hr_same rfl g_same F_same.kp b_same .nil pass0 (pa_cons (pv 3) (pa_cons (pv 4) pa_nil)))) pa_nil)))))))) pss_nil)
      (pss_cons (ps_if (pt_cmpR op_isN (pv 1) pe_non (nomark _)) (pss_one (ps_ret (pe_cmpR op_isN (pv 0) pe_non (nomark _)))) pss_nil)
      (pss_cons (ps_if (pt_val (pe_callB call_isi (by rfl) z_isinstance PyProof.Rows.boot_isinstance (pa_cons (pv 1) (pa_cons (pe_bltn (v := .ty "bool") rfl z_bool (by decide +kernel) rfl) pa_nil)))) (pss_one (ps_ret (pe_and (pe_callB call_isi (by rfl) z_isinstance PyProof.Rows.boot_isinstance (pa_cons (pv 0) (pa_cons (pe_bltn (v := .ty "bool") rfl z_bool (by decide +kernel) rfl) pa_nil))) (pe_one (pe_cmpR op_eq (pv 0) (pv 1) (nomark _)))))) pss_nil)
      (pss_cons (ps_if (pt_val (pe_callB call_isi (by rfl) z_isinstance PyProof.Rows.boot_isinstance (pa_cons (pv 1) (pa_cons (pe_bltn (v := .ty "int") rfl z_int (by decide +kernel) rfl) pa_nil)))) (pss_one (ps_ret (pe_and (pe_callB call_isi (by rfl) z_isinstance PyProof.Rows.boot_isinstance (pa_cons (pv 0) (pa_cons (pe_bltn (v := .ty "int") rfl z_int (by decide +kernel) rfl) pa_nil))) (pe_and (pe_not (pe_callB call_isi (by rfl) z_isinstance PyProof.Rows.boot_isinstance (pa_cons (pv 0) (pa_cons (pe_bltn (v := .ty "bool") rfl z_bool (by decide +kernel) rfl) pa_nil)))) (pe_one (pe_cmpR op_eq (pv 0) (pv 1) (nomark _))))))) pss_nil)
      (pss_one (ps_ret (pe_and (pe_callB call_isi (by rfl) z_isinstance PyProof.Rows.boot_isinstance (pa_cons (pv 0) (pa_cons (pe_bltn (v := .ty "str") rfl z_str (by decide +kernel) rfl) pa_nil))) (pe_one (pe_cmpR op_eq (pv 0) (pv 1) (nomark _)))))))))), ?_⟩
      cases dd with
      | tuple ds =>
        cases n with
        | zero => exact hN.elim
        | succ n =>
          obtain ⟨hN, hz⟩ := hN
          cases hx with
          | tup hax hux =>
            cases hy with
            | tup hay huy =>
              rename_i ax us ay ws
              have l1 := DtAll.len hux
              have l2 := DtAll.len huy
              refine q_when (b := true) (et_B (ev_tLT (ev_var rfl) (tl_tup hay))) (fun _ H1 e1 => ?_) (fun hb => (by cases hb))
              refine q_asg (v := .bl true) (ev_if (b := true) (et_B (ev_tTup (ev_var rfl) (tl_tup (e1 _ _ hay)))) (fun _ => ev_tTup (ev_var rfl) (tl_tup (e1 _ _ hax))) (fun hb => (by cases hb))) fun H2 e2 => ?_
              have e := e1.trans e2
              refine s_ret (v := .bl true) (ev_is (ev_andV (a := true) (b := true) (ev_var rfl) fun _ => ev_is (ev_andV (a := true) (b := true) (ev_is (ev_eqI (ev_lenQ (q := false) (ev_var rfl) (.inr ⟨rfl, st_of (e _ _ hax)⟩)) (ev_lenQ (q := false) (ev_var rfl) (.inr ⟨rfl, st_of (e _ _ hay)⟩))) (by rw [l1, l2, beq_self_eq_true])) fun _ => ev_is (ev_allTT (fun _ => true) (ev_var rfl) (ev_var rfl) (e _ _ hax) (e _ _ hay) (by rw [l1, l2]) (by omega) (fun _ _ => rfl) fun i u w' H3 e3 hu hw => ?_) (congrArg V.bl (List.all_eq_true.mpr fun _ _ => rfl))) rfl) rfl) fun H3 e3 => q H3 (e.trans e3)
              obtain ⟨d1, h1, h2⟩ := hux.get hu
              obtain ⟨d2, h3, h4⟩ := huy.get hw
              rw [h1] at h3
              cases h3
              exact ev_call (ea_cons (ev_var rfl) (ea_cons (ev_var rfl) ea_nil)) fun H4 e4 Q' k' E' => ⟨_, _, _, n, rfl, h2.ex ((e.trans e3).trans e4), h4.ex ((e.trans e3).trans e4), hN _ (List.mem_of_getElem? h1), by omega, fun H5 e5 => k' H5 e5⟩
      | list _ => cases hx
      | dict _ => cases hx
      | none =>
        obtain rfl : x = .non := by cases hx; rfl
        obtain rfl : y = .non := by cases hy; rfl
        refine q_when (b := false) (et_B (ev_tLT (ev_var rfl) (hy.tells))) (fun hb => (by cases hb)) (fun _ H1 e1 => ?_)
        refine q_when (b := true) (et_test (ev_op (ev_var rfl) ev_c (fun H1 _ Q q => ⟨rfl, q H1 (Ex.refl H1)⟩))) (fun _ H2 e2 => ?_) (fun hb => (by cases hb))
        exact s_ret (v := .bl true) (ev_op (ev_var rfl) ev_c (fun H1 _ Q q => ⟨rfl, q H1 (Ex.refl H1)⟩)) fun H3 e3 => q H3 ((e1.trans e2).trans e3)
      | bool b =>
        obtain rfl := hx.bl_inv
        obtain rfl := hy.bl_inv
        refine q_when (b := false) (et_B (ev_tLT (ev_var rfl) (hy.tells))) (fun hb => (by cases hb)) (fun _ H1 e1 => ?_)
        refine q_when (b := false) (et_test (ev_op (ev_var rfl) ev_c (fun H1 _ Q q => ⟨rfl, q H1 (Ex.refl H1)⟩))) (fun hb => (by cases hb)) (fun _ H2 e2 => ?_)
        refine q_when (b := true) (et_B (ev_tBool (ev_var rfl) (tl_bl b))) (fun _ H3 e3 => ?_) (fun hb => (by cases hb))
        exact s_ret (v := .bl true) (ev_is (ev_andV (a := true) (b := true) (ev_tBool (ev_var rfl) (tl_bl b)) fun _ => ev_is (ev_op (ev_var rfl) (ev_var rfl) (rv_eq rfl)) (by rw [decide_eq_true rfl])) rfl) fun H4 e4 => q H4 (((e1.trans e2).trans e3).trans e4)
      | int i =>
        obtain rfl := hx.int_inv
        obtain rfl := hy.int_inv
        refine q_when (b := false) (et_B (ev_tLT (ev_var rfl) (hy.tells))) (fun hb => (by cases hb)) (fun _ H1 e1 => ?_)
        refine q_when (b := false) (et_test (ev_op (ev_var rfl) ev_c (fun H1 _ Q q => ⟨rfl, q H1 (Ex.refl H1)⟩))) (fun hb => (by cases hb)) (fun _ H2 e2 => ?_)
        refine q_when (b := false) (et_B (ev_tBool (ev_var rfl) (tl_int i))) (fun hb => (by cases hb)) (fun _ H3 e3 => ?_)
        refine q_when (b := true) (et_B (ev_tInt (ev_var rfl) (tl_int i))) (fun _ H4 e4 => ?_) (fun hb => (by cases hb))
        exact s_ret (v := .bl true) (ev_is (ev_andV (a := true) (b := true) (ev_tInt (ev_var rfl) (tl_int i)) fun _ => ev_is (ev_andV (a := true) (b := true) (ev_is (ev_notV (ev_tBool (ev_var rfl) (tl_int i))) rfl) fun _ => ev_is (ev_op (ev_var rfl) (ev_var rfl) (rv_eq rfl)) (by rw [decide_eq_true rfl])) rfl) rfl) fun H5 e5 => q H5 ((((e1.trans e2).trans e3).trans e4).trans e5)
      | str z =>
        obtain rfl := hx.str_inv
        obtain rfl := hy.str_inv
        refine q_when (b := false) (et_B (ev_tLT (ev_var rfl) (hy.tells))) (fun hb => (by cases hb)) (fun _ H1 e1 => ?_)
        refine q_when (b := false) (et_test (ev_op (ev_var rfl) ev_c (fun H1 _ Q q => ⟨rfl, q H1 (Ex.refl H1)⟩))) (fun hb => (by cases hb)) (fun _ H2 e2 => ?_)
        refine q_when (b := false) (et_B (ev_tBool (ev_var rfl) (tl_str z))) (fun hb => (by cases hb)) (fun _ H3 e3 => ?_)
        refine q_when (b := false) (et_B (ev_tInt (ev_var rfl) (tl_str z))) (fun hb => (by cases hb)) (fun _ H4 e4 => ?_)
        exact s_ret (v := .bl true) (ev_is (ev_andV (a := true) (b := true) (ev_tStr (ev_var rfl) (tl_str z)) fun _ => ev_is (ev_op (ev_var rfl) (ev_var rfl) (rv_eq rfl)) (by rw [decide_eq_true rfl])) rfl) fun H5 e5 => q H5 ((((e1.trans e2).trans e3).trans e4).trans e5)
end
end D1
end
section
set_option Elab.async false
set_option linter.all false
set_option maxRecDepth 100000
set_option maxHeartbeats 4000000
/-! L9: what the law says of paths -/
namespace D1
open PySem L2 Evl RZ ClX PySem.VX
theorem eqv_ints : ∀ (xs ys : List Int), PyData.eqvAll (xs.map PyData.int) (ys.map PyData.int) = (xs == ys)
  | [], [] => rfl
  | [], _ :: _ => rfl
  | _ :: _, [] => rfl
  | x :: xs, y :: ys => by
    show (PyData.eqv (.int x) (.int y) && PyData.eqvAll (xs.map PyData.int) (ys.map PyData.int)) = _
    rw [eqv_ints xs ys]
    rfl
theorem cutM (xs : List V) : cutV xs none (some (-1)) = xs.take (xs.length - 1) := by
  unfold cutV
  rw [HT.sIx_none]
  show (xs.drop 0).take ((-1 + (xs.length : Int)).toNat - 0) = _
  rw [List.drop_zero, show (-1 + (xs.length : Int)).toNat - 0 = xs.length - 1 by omega]
def dstI (ss : List Step) (o : Option Int) : Int := ((stepN ss o).2.1 : Nat)
def srcI (ss : List Step) (o : Option Int) : Int := ((stepN ss o).1 : Nat)
theorem link_nil (ss : List Step) : linkB ss [] = true := rfl
theorem link_one (ss : List Step) (a : Option Int) : linkB ss [a] = true := rfl
theorem link_cons (ss : List Step) (a b : Option Int) (r : List (Option Int)) : linkB ss (a :: b :: r) = ((dstI ss a == srcI ss b) && linkB ss (b :: r)) := by
  unfold linkB
  show (List.range (r.length + 1)).all _ = _
  rw [List.range_succ_eq_map, List.all_cons, List.all_map]
  rfl
theorem link_eq (ss : List Step) : ∀ os : List (Option Int), ((os.map (dstI ss)).take (os.length - 1) == (os.map (srcI ss)).drop 1) = linkB ss os
  | [] => rfl
  | [a] => rfl
  | a :: b :: r => by
    rw [link_cons, ← link_eq ss (b :: r)]
    rfl
theorem ev_chainLL {σ : L2.St} {H : Hp} {ta tb tc : TE} {a b c : Int} (ha : Ev ta σ H (.int a)) (hb : Ev tb σ H (.int b)) (hc : Ev tc σ H (.int c)) : Ev (tChain (rI0 fun i j => .bl (decide (i ≤ j))) (rI0 fun i j => .bl (decide (i < j))) ta tb tc) σ H (.bl (decide (a ≤ b) && decide (b < c))) := fun H1 e Q q =>
  ha H1 e _ fun H2 e2 => hb H2 (e.trans e2) _ fun H3 e3 => ⟨a, b, rfl, rfl, _, rfl, by
    cases hk : decide (a ≤ b) with
    | true =>
      rw [hk, Bool.true_and] at q
      refine yes_of rfl (hc H3 ((e.trans e2).trans e3) _ fun H4 e4 => ⟨b, c, rfl, rfl, q H4 ((e2.trans e3).trans e4)⟩)
    | false =>
      rw [hk, Bool.false_and] at q
      exact no_of rfl (q H3 (e2.trans e3))⟩
theorem given_map' {α : Type} (os : List α) (f : α → V) (d : α) : given os.length (fun _ => true) (fun i => f (os.getD i d)) = os.map f := by
  unfold given
  rw [List.filter_eq_self.mpr (fun _ _ => rfl)]
  apply List.ext_getElem (by simp)
  intro i h1 h2
  simp at h2
  simp [h2]
def spLIsPath (K : PySem.W.Frag) : Sp := fun vs H Q _ => ∃ (w v : V) (n : Nat) (ss : List Step) (l : Line), vs = [w, v] ∧ DtAt H w (webD n ss) ∧ PathAt K H v l ∧ ∀ H', Ex H H' → Q (.bl (isPathB ss l && decide (lineLen l ≠ 0))) H'
def spLDue (K : PySem.W.Frag) : Sp := fun vs H Q _ => ∃ (v wv p : V) (k : RK) (n : Nat) (ss : List Step) (os : List (Option Int)) (B : Nat), vs = [v, wv, p] ∧ DtAt H v (madeD k) ∧ k.depth < 3 ∧ k.ok ∧ DtAt H wv (webD n ss) ∧ WebOk k n ss ∧ (∀ s ∈ ss, Sz B s.2.2) ∧ 0 < B ∧ B ≤ 4000 ∧ 12 + os.length * B ≤ 4000 ∧ PathAt K H p (some os) ∧ os.all (numB ss.length) = true ∧
  ∀ x H', Ex H H' → DtAt H' x (prodD k (os.map fun o => (stepN ss o).2.2)) → Q x H'
section
variable {P : Program} {w : World} {K : PySem.W.Frag} {mg : Str → Option Value} {base : Heap}
abbrev s_lispath : Stmt := top 98
theorem sc_lispath : FnScope ["_law_net", "_law_line", "_law_number", "_law_ends"] ["_law_net", "_law_line"] (defScope s_lispath) := ⟨rfl, rfl, rfl, by decide +kernel, rfl, by decide +kernel, by decide +kernel⟩
theorem ok_lispath {f : Addr} {fd : FuncData} (F : FnP K "_law_is_path" s_lispath f fd) (z_isinstance : mg "isinstance" = none) (z_tuple : mg "tuple" = none) (z_list : mg "list" = none) (z_int : mg "int" = none) (z_bool : mg "bool" = none) (z_len : mg "len" = none) : FnOk P w K mg base CX0 1 f fd ["_law_net", "_law_line"] (spLIsPath K) := by
  refine F.ok (CX := CX0) sc_lispath (fun vs H Q E h => ?_) (fun cdv A outer s H vs Q E hr h => ?_)
  · obtain ⟨w, v, n, ss, l, rfl, _⟩ := h
    rfl
  · obtain ⟨w, v, n, ss, l, rfl, hW, hP, q⟩ := h
    have hu64 := hr.units
    refine ⟨_, PSs.nox (pss_cons (ps_if (PW.pt (pw_or (pt_not (pt_val (pe_callB call_isiT (by rfl) z_isinstance PyProof.Rows.boot_isinstance (pa_cons (pv 1) (pa_cons (pe_tup (pa_cons (pe_bltn (v := .ty "list") rfl z_list (by decide +kernel) rfl) (pa_cons (pe_bltn (v := .ty "tuple") rfl z_tuple (by decide +kernel) rfl) pa_nil))) pa_nil))))) (pw_or1 (pt_cmpR op_eq (pe_callB call_len_seq (by rfl) z_len PySem.boot_len (pa_cons (pv 1) pa_nil)) pe_int (nomark _))))) (pss_one (ps_ret pe_bl)) pss_nil)
      (pss_cons (ps_for PassesOwn.never rfl (pi_seq (pv 1)) (pg_name (i := 2) sc_lispath.nd rfl (Or.inl rfl)) (pss_one (ps_if (PW.pt (pw_or (pt_not (pt_val (pe_callB call_isi (by rfl) z_isinstance PyProof.Rows.boot_isinstance (pa_cons (pv 2) (pa_cons (pe_bltn (v := .ty "int") rfl z_int (by decide +kernel) rfl) pa_nil))))) (pw_or (pt_val (pe_callB call_isi (by rfl) z_isinstance PyProof.Rows.boot_isinstance (pa_cons (pv 2) (pa_cons (pe_bltn (v := .ty "bool") rfl z_bool (by decide +kernel) rfl) pa_nil)))) (pw_or1 (pt_not (pt_chain op_le op_lt pe_int (pv 2) (pe_callB call_len_seq (by rfl) z_len PySem.boot_len (pa_cons (pe_ix ix_tup (pv 0) pe_int (fun _ _ => rfl)) pa_nil)))))))) (pss_one (ps_ret pe_bl)) pss_nil)))
      (pss_cons (ps_setLc (i := 3) (own := [("_law_number", 2)]) (g := gName 2) (tt := tYes) (te := tOp (rIxT K) (tOp (rIxT K) (tOp (rIxT K) (tVar 0) (tC (.int 1))) (tVar 2)) (tC (.int 1))) (by rfl) sc_lispath.nd rfl rfl (sw_true rfl rfl rfl (by decide +kernel)) (pi_seq (pv 1)) (blkOk_by (own := [("_law_number", 2)]) (N := ["_law_net", "_law_line", "_law_number", "_law_ends"]) (sc := defScope s_lispath) (by decide +kernel)) (fun _ _ _ _ _ => pg_name (i := 2) sc_lispath.nd rfl (Or.inl rfl)) (fun _ _ _ _ _ => pts_nil) (fun _ _ _ _ _ => pe_ix ix_tup (pe_ix ix_tup (pe_ix ix_tup (pv 0) pe_int (fun _ _ => rfl)) (pv 2) (fun _ _ => rfl)) pe_int (fun _ _ => rfl)))
      (pss_one (ps_ret (pe_cmpR (op_eqD hu64) (pe_slice sl_list (pv 3) po_none (po_some (pe_un un_neg pe_int))) (pe_slice sl_list (pe_lc (own := [("_law_number", 2)]) (g := gName 2) (tt := tYes) (te := tOp (rIxT K) (tOp (rIxT K) (tOp (rIxT K) (tVar 0) (tC (.int 1))) (tVar 2)) (tC (.int 0))) (by rfl) sc_lispath.nd (pi_seq (pv 1)) (blkOk_by (own := [("_law_number", 2)]) (N := ["_law_net", "_law_line", "_law_number", "_law_ends"]) (sc := defScope s_lispath) (by decide +kernel)) (fun _ _ _ _ _ => pg_name (i := 2) sc_lispath.nd rfl (Or.inl rfl)) (fun _ _ _ _ _ => pts_nil) (fun _ _ _ _ _ => pe_ix ix_tup (pe_ix ix_tup (pe_ix ix_tup (pv 0) pe_int (fun _ _ => rfl)) (pv 2) (fun _ _ => rfl)) pe_int (fun _ _ => rfl))) (po_some pe_int) po_none) (nomark _))))))), ?_⟩
    obtain ⟨a, p1, us, rfl, ha, hp1, hus, hlen⟩ := web_at hW
    cases l with
    | none =>
      obtain ⟨b1, b2, b3, t⟩ := hP
      exact q_when (b := true) (et_is (et_or (a := true) (b := true) (et_is (et_not (et_B (ev_tLT (ev_var rfl) t))) rfl) (fun hb => (by cases hb))) rfl) (fun _ H1 e1 => s_ret ev_c fun H2 e2 => q H2 (e1.trans e2)) (fun hb => (by cases hb))
    | some os =>
      obtain ⟨p, qq, xs, rfl, hp, hN, hz⟩ := id hP
      have hxl := hN.len
      refine q_when (b := decide (os.length = 0)) (et_is (et_or (a := false) (et_is (et_not (et_B (ev_is (ev_tLT (ev_var rfl) (tl_q hp)) (by cases qq <;> rfl : V.bl (qq || !qq) = .bl true)))) rfl) (fun _ => et_test (ev_eqI (ev_lenQ (ev_var rfl) (SqQ.of hp)) ev_c))) (by
        rw [hxl, Bool.false_or, Bool.eq_iff_iff, beq_iff_eq, decide_eq_true_eq]
        omega)) (fun hb H1 e1 => ?_) (fun hb H1 e1 => ?_)
      · refine s_ret ev_c fun H2 e2 => ?_
        have := q H2 (e1.trans e2)
        rw [show decide (lineLen (some os) ≠ 0) = false from decide_eq_false (fun h => h (of_decide_eq_true hb)), Bool.and_false] at this
        exact this
      have h0 : os.length ≠ 0 := of_decide_eq_false hb
      have qf : os.all (numB ss.length) = false → ∀ H', Ex H H' → Q (.bl false) H' := fun hall H' e => by
        have := q H' e
        rw [show isPathB ss (some os) = (os.all (numB ss.length) && linkB ss os) from rfl, hall, Bool.false_and, Bool.false_and] at this
        exact this
      refine ⟨_, rfl, p, qq, xs, rfl, ex_q e1 (SqQ.of hp), ?_⟩
      refine for_it (ix_seq_walk (K := K) (q := qq) (a := p) (xs := xs)) (fun i σ' G => ∃ x2, σ' = [some (.ref a), some (.ref p), x2, none] ∧ Ex H1 G ∧ (os.take i).all (numB ss.length) = true) ⟨none, rfl, Ex.refl H1, rfl⟩ (fun i σ' G _ h => ?_) ?_ ?_
      · obtain ⟨_, _, h, _⟩ := h
        exact ex_q (e1.trans h) (SqQ.of hp)
      · rintro i x σ' _ G hi ⟨x2, rfl, eG, hall⟩ ⟨rfl, hx⟩
        obtain ⟨oo, ho, hn⟩ := hN.get hx
        have e := e1.trans eG
        obtain ⟨ai, bi, c, d, ee, t, n1, n2⟩ := (hn.up e).ex
        refine s_when (b := !numB ss.length oo) (et_is (et_or (et_not (et_B (ev_tInt (ev_var rfl) t))) fun ha1 => et_or (et_B (ev_tBool (ev_var rfl) t)) fun hb1 => (?T : EvT _ _ G (!numB ss.length oo))) ?_) (fun hb H2 e2 => ?_) (fun hb H2 e2 => ?_)
        case T =>
          have ha1 : ai = true := by simpa using ha1
          rw [ha1, hb1] at n1
          cases oo with
          | none => cases n1
          | some z =>
            obtain rfl := n2 z rfl
            refine et_is (et_not (et_test (ev_chainLL ev_c (ev_var rfl) (ev_lenT (ev_op (ev_var rfl) ev_c (rv_ixT (st_of (e _ _ ha)) (v := .ref p1) rfl)) (st_of (e _ _ hp1)))))) ?_
            congr 1
            show _ = (decide ((0 : Int) ≤ z) && decide (z ≤ (ss.length : Int) - 1))
            rw [hlen]
            congr 1
            rw [Bool.eq_iff_iff, decide_eq_true_eq, decide_eq_true_eq]
            omega
        · cases oo with
          | none =>
            have hnn : numB ss.length none = false := rfl
            rw [hnn]
            cases ai <;> cases bi <;> first | rfl | cases n1
          | some z =>
            cases ai <;> cases bi <;> first | rfl | cases n1
        · refine s_ret ev_c fun H3 e3 => qf ?_ H3 ((e.trans e2).trans e3)
          cases hc : os.all (numB ss.length) with
          | false => rfl
          | true =>
            have := List.all_eq_true.mp hc oo (List.mem_of_getElem? ho)
            rw [this] at hb
            cases hb
        · refine ⟨_, rfl, eG.trans e2, ?_⟩
          rw [List.take_succ, ho, List.all_append, hall]
          have : numB ss.length oo = true := by simpa using hb
          show (true && (numB ss.length oo && true)) = true
          rw [this]
          rfl
      · rintro σ' G ⟨x2, rfl, eG, hall⟩
        rw [hxl, List.take_length] at hall
        have e := e1.trans eG
        have hat : ∀ {i : Nat} {x : V}, xs[i]? = some x → ∃ (n : Nat) (b : Addr) (u : V), x = .int (n : Int) ∧ us[n]? = some (.ref b) ∧ H b = some (.tup [.int (srcI ss (os.getD i none)), .int (dstI ss (os.getD i none)), u]) := fun {i x} hx => by
          obtain ⟨oo, ho, hn⟩ := hN.get hx
          have hoo : os.getD i none = oo := by rw [List.getD_eq_getElem?_getD, ho]; rfl
          obtain ⟨n, hn1, hn2, hn3⟩ := numB_step (List.all_eq_true.mp hall oo (List.mem_of_getElem? ho))
          obtain ⟨_, _, _, _, _, _, _, hni⟩ := hn.ex
          obtain ⟨b, u, h1, h2, _⟩ := step_at hus hn3
          rw [hoo]
          exact ⟨n, b, u, hni _ hn1, h1, h2⟩
        have hE : ∀ (kk : Nat) (g : Option Int → Int) (hk : ∀ (b : Addr) (i : Nat) (u : V) G2, G2 b = some (.tup [.int (srcI ss (os.getD i none)), .int (dstI ss (os.getD i none)), u]) → RV (rIxT K) (.ref b) (.int (kk : Int)) G2 (.int (g (os.getD i none)))) {σ : L2.St} {G1 : Hp} (hσ0 : σ[0]? = some (some (.ref a))) (hσ1 : σ[1]? = some (some (.ref p))) (hw : ∀ x, wipe ((wipe σ [2]).set 2 (some x)) [2] = wipe σ [2]) (hv0 : ∀ x, ((wipe σ [2]).set 2 (some x))[0]? = some (some (.ref a))) (hv2 : ∀ x, ((wipe σ [2]).set 2 (some x))[2]? = some (some x)) (e1 : Ex H G1), EvL (tLc (iSeq K (tVar 1)) (gName 2) tYes (tOp (rIxT K) (tOp (rIxT K) (tOp (rIxT K) (tVar 0) (tC (.int 1))) (tVar 2)) (tC (.int (kk : Int)))) [2]) σ G1 ((os.map g).map V.int) := fun kk g hk σ G1 hσ0 hσ1 hw hv0 hv2 e1 => by
          have h1 := el_lcQ (K := K) (tl := tVar 1) (te := tOp (rIxT K) (tOp (rIxT K) (tOp (rIxT K) (tVar 0) (tC (.int 1))) (tVar 2)) (tC (.int (kk : Int)))) (j := 2) (vs := [2]) (σ := σ) (H := G1) (fun i => V.int (g (os.getD i none))) (ev_var hσ1) (ex_q e1 (SqQ.of hp)) (by omega) hw fun i y H5 e5 hy => by
            obtain ⟨m, b, u, rfl, g1, g2⟩ := hat hy
            have e := e1.trans e5
            exact ev_op (ev_op (ev_op (ev_var (hv0 _)) ev_c (rv_ixT (st_of (e _ _ ha)) (v := .ref p1) rfl)) (ev_var (hv2 _)) (rv_ixT (st_of (e _ _ hp1)) (atI_of (by omega) (by rw [Int.toNat_natCast]; exact g1)))) ev_c (hk b i u _ (e _ _ g2))
          rw [hxl, given_map' os (fun o => V.int (g o)) none] at h1
          rw [List.map_map]
          exact h1
        refine q_asgL (hE 1 (dstI ss) (fun b i u G2 h => rv_ixT (st_of h) rfl) rfl rfl (fun _ => rfl) (fun _ => rfl) (fun _ => rfl) e) fun D1 H2 hD1 e2 hL1 => ?_
        have e12 := e.trans e2
        refine s_ret (v := .bl (isPathB ss (some os))) (fun H3 e3 Q' k' => ?_) fun H3 e3 => (by
          have := q H3 (e12.trans e3)
          rw [show decide (lineLen (some os) ≠ 0) = true from decide_eq_true h0, Bool.and_true] at this
          exact this)
        have hb2 : isPathB ss (some os) = linkB ss os := by
          show (os.all (numB ss.length) && linkB ss os) = linkB ss os
          rw [hall]
          rfl
        have e13 := e12.trans e3
        have hD3 := e3 _ _ hL1
        refine ⟨_, rfl, 1, rfl, _, rfl, D1, _, rfl, sq_of hD3, fun P1 hP1 => ?_⟩
        have eP1 := Ex.new (o := .lst (cutV ((os.map (dstI ss)).map V.int) none (some (-1)))) hP1
        refine (hE 0 (srcI ss) (fun b i u G2 h => rv_ixT (st_of h) rfl) rfl rfl (fun _ => rfl) (fun _ => rfl) (fun _ => rfl) (e13.trans eP1)) _ (Ex.refl _) _ fun D2 H4 hD2 e4 hL2 => ?_
        refine ⟨1, rfl, D2, _, rfl, sq_of hL2, fun P2 hP2 => ?_⟩
        have eP2 := Ex.new (o := .lst (cutV ((os.map (srcI ss)).map V.int) (some 1) none)) hP2
        have h1 : (upd H4 P2 (.lst (cutV ((os.map (srcI ss)).map V.int) (some 1) none))) P1 = some (.lst (((os.map (dstI ss)).take (os.length - 1)).map V.int)) := by
          rw [eP2 _ _ (e4 _ _ upd_same), cutM, List.length_map, List.length_map, List.map_take]
        have h2 : (upd H4 P2 (.lst (cutV ((os.map (srcI ss)).map V.int) (some 1) none))) P2 = some (.lst (((os.map (srcI ss)).drop 1).map V.int)) := by
          rw [upd_same, cut1, List.map_drop]
        refine ⟨_, _, .lst (sq_of h1) (dp_ints2 _), .lst (sq_of h2) (dp_ints2 _), shaped_ints _, shaped_ints _, ?_⟩
        have hv : PyData.eqv (.list (((os.map (dstI ss)).take (os.length - 1)).map PyData.int)) (.list (((os.map (srcI ss)).drop 1).map PyData.int)) = isPathB ss (some os) := by
          show PyData.eqvAll _ _ = _
          rw [eqv_ints, link_eq, hb2]
        rw [hv]
        exact k' _ (((eP1.trans e4)).trans eP2)
end
end D1
end
section
set_option Elab.async false
set_option linter.all false
set_option maxRecDepth 100000
set_option maxHeartbeats 4000000
/-! LA: the weight due; a walk -/
namespace D1
open PySem L2 Evl RZ ClX PySem.VX
/-- numbers of steps, as a path -/
def lineOf (ns : List Nat) : List (Option Int) := ns.map fun n : Nat => some (n : Int)
theorem num_nat {K : PySem.W.Frag} {H : Hp} (n : Nat) : Num K H (.int (n : Int)) (some (n : Int)) := (DtAt.int (H := H) (n : Int)).num
theorem numAll_nat {K : PySem.W.Frag} {H : Hp} : ∀ ns : List Nat, NumAll K H (ns.map fun n : Nat => V.int (n : Int)) (lineOf ns)
  | [] => True.intro
  | n :: ns => ⟨num_nat n, numAll_nat ns⟩
theorem linkB_snoc (ss : List Step) (b : Option Int) : ∀ (os : List (Option Int)) (a : Option Int), os.getLast? = some a → linkB ss (os ++ [b]) = (linkB ss os && (dstI ss a == srcI ss b))
  | [], a, h => by cases h
  | [c], a, h => by
    obtain rfl : c = a := by simpa using h
    show linkB ss [c, b] = _
    rw [link_cons, link_one, link_one, Bool.and_true, Bool.true_and]
  | c :: d :: r, a, h => by
    have h2 : (d :: r).getLast? = some a := by
      rw [← h]
      rfl
    have ih := linkB_snoc ss b (d :: r) a h2
    show linkB ss (c :: d :: (r ++ [b])) = _
    rw [link_cons, link_cons]
    rw [show d :: (r ++ [b]) = (d :: r) ++ [b] from rfl, ih, Bool.and_assoc]
/-- what a walk holds: linked, and it stands where the last step led -/
structure WalkOk (ss : List Step) (n : Nat) (ns : List Nat) (here : Nat) : Prop where
  lt : ∀ i ∈ ns, i < ss.length
  link : linkB ss (lineOf ns) = true
  hin : here < n
  last : ∀ i, ns.getLast? = some i → dstI ss (some (i : Int)) = (here : Int)
theorem WalkOk.nil (ss : List Step) {n here : Nat} (h : here < n) : WalkOk ss n [] here := ⟨fun _ h => (by cases h), rfl, h, fun _ h => (by cases h)⟩
theorem stepN_nat {ss : List Step} {i : Nat} {s : Step} (h : ss[i]? = some s) : stepN ss (some (i : Int)) = s := by
  unfold stepN
  rw [Option.getD_some, Int.toNat_natCast, List.getD_eq_getElem?_getD, h]
  rfl
theorem WalkOk.snoc {ss : List Step} {n : Nat} {ns : List Nat} {here i : Nat} {s : Step} (h : WalkOk ss n ns here) (hi : ss[i]? = some s) (hs : s.1 = here) (hd : s.2.1 < n) : WalkOk ss n (ns ++ [i]) s.2.1 := by
  have hl := (List.getElem?_eq_some_iff.mp hi).1
  refine ⟨fun j hj => ?_, ?_, hd, fun j hj => ?_⟩
  · rcases List.mem_append.mp hj with x | x
    · exact h.lt j x
    · rw [List.mem_singleton] at x
      rw [x]
      exact hl
  · rcases hns : ns.getLast? with _ | a
    · rw [List.getLast?_eq_none_iff] at hns
      rw [hns]
      rfl
    · have hm : (lineOf ns).getLast? = some (some (a : Int)) := by
        unfold lineOf
        rw [List.getLast?_map, hns]
        rfl
      have := linkB_snoc ss (some (i : Int)) (lineOf ns) _ hm
      have e : lineOf (ns ++ [i]) = lineOf ns ++ [some (i : Int)] := by
        unfold lineOf
        rw [List.map_append]
        rfl
      rw [e, this, h.link, h.last a hns]
      show ((here : Int) == srcI ss (some (i : Int))) = true
      unfold srcI
      rw [stepN_nat hi, hs]
      exact beq_self_eq_true _
  · rw [List.getLast?_append] at hj
    have : j = i := by
      simpa using hj.symm
    subst this
    unfold dstI
    rw [stepN_nat hi]
theorem WalkOk.all {ss : List Step} {n here : Nat} {ns : List Nat} (h : WalkOk ss n ns here) : (lineOf ns).all (numB ss.length) = true := by
  refine List.all_eq_true.mpr fun o ho => ?_
  obtain ⟨i, hi, rfl⟩ := List.mem_map.mp ho
  have := h.lt i hi
  show (decide ((0 : Int) ≤ (i : Int)) && decide ((i : Int) ≤ (ss.length : Int) - 1)) = true
  rw [decide_eq_true (by omega : (0 : Int) ≤ (i : Int)), decide_eq_true (by omega : (i : Int) ≤ (ss.length : Int) - 1)]
  rfl
def spWalk : Sp := fun vs H Q _ => ∃ (m pc pg : Addr) (cs : List Int) (j : Nat) (w : V) (n : Nat) (ss : List Step) (k : RK) (many : Nat), vs = [.ref m, w, .int (many : Int)] ∧ DS m pc pg cs j H ∧ j + 20 ≤ 100000 ∧ DtAt H w (webD n ss) ∧ WebOk k n ss ∧ many ≤ 13 ∧
  ∀ (D : Addr) (ns : List Nat) (here : Nat) (H' : Hp), H D = none → H' D = some (.lst (ns.map fun i : Nat => V.int (i : Int))) → ns.length ≤ many → WalkOk ss n ns here → RD m pc pg cs (j + 20) H H' → Q (.ref D) H'
section
variable {P : Program} {w : World} {K : PySem.W.Frag} {mg : Str → Option Value} {base : Heap}
abbrev s_due : Stmt := top 99
theorem sc_due : FnScope ["_law_made", "_law_net", "_law_line", "_law_found", "_law_number"] ["_law_made", "_law_net", "_law_line"] (defScope s_due) := ⟨rfl, rfl, rfl, by decide +kernel, rfl, by decide +kernel, by decide +kernel⟩
theorem ok_due {f : Addr} {fd : FuncData} (F : FnP K "_law_due" s_due f fd) {f_one : Addr} {fd_one : FuncData} (F_one : FnP K "_law_one" s_one f_one fd_one) (g_one : mg "_law_one" = some (.ref f_one)) (G_one : FnOk P w K mg base (CX0) 4 f_one fd_one ["_law_made"] (spLOne 3)) {f_times : Addr} {fd_times : FuncData} (F_times : FnP K "_law_times" s_times f_times fd_times) (g_times : mg "_law_times" = some (.ref f_times)) (G_times : FnOk P w K mg base (CX0) 5 f_times fd_times ["_law_made", "_law_a", "_law_b"] (spLTimes 3)) : FnOk P w K mg base (CX0) 6 f fd ["_law_made", "_law_net", "_law_line"] (spLDue K) := by
  have b_one : Binds K fd_one ["_law_made"] [] := F_one.bindsN fun _ _ _ _ _ _ us hl => match us, hl with | [_], _ => rfl
  have b_times : Binds K fd_times ["_law_made", "_law_a", "_law_b"] [] := F_times.bindsN fun _ _ _ _ _ _ us hl => match us, hl with | [_, _, _], _ => rfl
  refine F.ok (CX := CX0) sc_due (fun vs H Q E h => ?_) (fun cdv A outer s H vs Q E hr h => ?_)
  · obtain ⟨v, wv, p, k, n, ss, os, B, rfl, _⟩ := h
    rfl
  · obtain ⟨v, wv, p, k, n, ss, os, B, rfl, hM, hd, ok, hW, hok, hs, hB, hB3, hB2, hP, hall, q⟩ := h
    have hu := hu_of hr
    have hu64 := hr.units
    have hr_one := hr.mono (by decide : 4 ≤ 5)
    have hr_times := hr.mono (by decide : 5 ≤ 5)
    refine ⟨_, PSs.nox (pss_cons (ps_set (i := 3) sc_due.nd rfl (Or.inl rfl) (pe_call G_one hr_one rfl g_one F_one.kp b_one .nil pass0 (pa_cons (pv 0) pa_nil)))
      (pss_cons (ps_for PassesOwn.never rfl (pi_seq (pv 2)) (pg_name (i := 4) sc_due.nd rfl (Or.inl rfl)) (pss_one (ps_set (i := 3) sc_due.nd rfl (Or.inl rfl) (pe_call G_times hr_times rfl g_times F_times.kp b_times .nil pass0 (pa_cons (pv 0) (pa_cons (pv 3) (pa_cons (pe_ix ix_tup (pe_ix ix_tup (pe_ix ix_tup (pv 1) pe_int (fun _ _ => rfl)) (pv 4) (fun _ _ => rfl)) pe_int (fun _ _ => rfl)) pa_nil)))))))
      (pss_one (ps_ret (pv 3))))), ?_⟩
    obtain ⟨a, p1, us, rfl, ha, hp1, hus, hlen⟩ := web_at hW
    obtain ⟨pa, qq, xs, rfl, hpa, hN, hz⟩ := id hP
    have hxl := hN.len
    have hg : ∀ i, ∀ d ∈ ((os.map fun o => (stepN ss o).2.2).take i), goodB k d = true ∧ Sz B d := fun i d hd => by
      obtain ⟨o, ho, rfl⟩ := List.mem_map.mp (List.mem_of_mem_take hd)
      obtain ⟨m, _, _, hm⟩ := numB_step (List.all_eq_true.mp hall o ho)
      exact ⟨(hok.step hm).2.2, hs _ (List.mem_of_getElem? hm)⟩
    refine asg_step ⟨_, rfl, v, k, rfl, hM, hd, ok, fun x0 H1 e1 hx0 => ?_⟩
    refine ⟨_, rfl, pa, qq, xs, rfl, ex_q e1 (SqQ.of hpa), ?_⟩
    refine for_it (ix_seq_walk (K := K) (q := qq) (a := pa) (xs := xs)) (fun i σ' G => ∃ x4 x, σ' = [some v, some (.ref a), some (.ref pa), some x, x4] ∧ Ex H1 G ∧ DtAt G x (prodD k ((os.map fun o => (stepN ss o).2.2).take i))) ⟨none, x0, rfl, Ex.refl H1, hx0⟩ (fun i σ' G _ h => ?_) ?_ ?_
    · obtain ⟨_, _, _, h, _⟩ := h
      exact ex_q (e1.trans h) (SqQ.of hpa)
    · rintro i y σ' _ G hi ⟨x4, x, rfl, eG, hx⟩ ⟨rfl, hy⟩
      have e := e1.trans eG
      obtain ⟨oo, ho, hn⟩ := hN.get hy
      obtain ⟨m, hn1, hn2, hn3⟩ := numB_step (List.all_eq_true.mp hall oo (List.mem_of_getElem? ho))
      obtain ⟨_, _, _, _, _, _, _, hni⟩ := hn.ex
      obtain rfl := hni _ hn1
      obtain ⟨b, u, h1, h2, h3⟩ := step_at hus hn3
      have hmap : (os.map fun o => (stepN ss o).2.2)[i]? = some (stepN ss oo).2.2 := by rw [List.getElem?_map, ho]; rfl
      have hl : 12 + ((os.map fun o => (stepN ss o).2.2).take i).length * B ≤ 4000 := Nat.le_trans (Nat.add_le_add_left (Nat.mul_le_mul_right _ (by rw [List.length_take, List.length_map]; omega)) _) hB2
      refine ⟨_, rfl, _, rfl, _, rfl, a, _, 1, .ref p1, rfl, rfl, st_of (e _ _ ha), rfl, _, rfl, p1, _, (m : Int), .ref b, rfl, rfl, st_of (e _ _ hp1), atI_of (by omega) (by rw [Int.toNat_natCast]; exact h1), b, _, 2, u, rfl, rfl, st_of (e _ _ h2), rfl, v, x, u, k, _, (stepN ss oo).2.2, rfl, hM.ex e, hd, hx, h3.ex e, prod_good fun d hd => (hg i d hd).1, (hok.step hn3).2.2, (prod_sz hB ok (fun d hd => (hg i d hd).1) fun d hd => (hg i d hd).2).up hl, (hs _ (List.mem_of_getElem? hn3)).up hB3, fun x2 H2 e2 hx2 => ?_⟩
      refine ⟨_, _, rfl, eG.trans e2, ?_⟩
      unfold prodD
      rw [foldl_snoc _ _ hmap]
      exact hx2
    · rintro σ' G ⟨x4, x, rfl, eG, hx⟩
      refine s_ret (ev_var rfl) fun H' e' => q x H' ((e1.trans eG).trans e') ?_
      rw [List.take_of_length_le (by rw [List.length_map, hxl]; exact Nat.le_refl _)] at hx
      exact hx.ex e'
end
end D1
end
section
set_option Elab.async false
set_option linter.all false
set_option maxRecDepth 100000
set_option maxHeartbeats 4000000
/-! LB: a walk -/
namespace D1
open PySem L2 Evl RZ ClX PySem.VX
theorem asg_any {te : TE} {g : TG} {z : TS} {D : Ends} {σ : L2.St} {H : Hp} (h : te σ H fun x H1 => g x σ H1 fun σ2 H2 => z D σ2 H2) : tSeq (tAsg te g) z D σ H := h
section
variable {K : PySem.W.Frag} {σ : L2.St} {H : Hp} {te tb : TE} {t : TT}
/-- [e for i, x in enumerate(s) if t], s a tuple -/
theorem el_enumT {a : Addr} {xs : List V} {j k : Nat} {vs : List Nat} (f : Nat → Bool) (v : Nat → V) (h : Ev tb σ H (.ref a)) (hx : SqT K H a xs) (hz : xs.length ≤ 40000)
    (hw : ∀ x y, wipe (((wipe σ vs).set j (some x)).set k (some y)) vs = wipe σ vs)
    (ht : ∀ (i : Nat) (y : V) H1, Ex H H1 → xs[i]? = some y → EvT t (((wipe σ vs).set j (some (.int (i : Int)))).set k (some y)) H1 (f i))
    (he : ∀ (i : Nat) (y : V) H1, Ex H H1 → xs[i]? = some y → f i = true → Ev te (((wipe σ vs).set j (some (.int (i : Int)))).set k (some y)) H1 (v i)) :
    EvL (tLc (iEnumT K (tCons tb tNil)) (gTup K 2 (gCons (gName j) (gCons (gName k) gNil))) t te vs) σ H (given xs.length f v) := fun H0 e Q q =>
  h H0 e _ fun H1 e1 => by
    have hx2 : SqT K H1 a xs := ex_t (e.trans e1) hx
    refine ⟨a, xs, rfl, hx2, fun Dl hD => ?_⟩
    refine lc_it (walk_enumT (K := K) (a := a) (xs := xs)) (Cw H1 f v Dl) ⟨hD, Ex.new hD, upd_same⟩ (fun i H' _ p => ex_t p.2.1 hx2) (fun i x H5 H6 hi p y => ?_) (fun H' p => q Dl H' (fresh_back e1 p.1) (e1.trans p.2.1) p.2.2)
    obtain ⟨Tp, c, d, rfl, hT, rfl, hc, hd⟩ := y
    have hc : V.int (i : Int) = c := Option.some.inj hc
    subst hc
    have p2 : Cw H1 f v Dl i (upd H5 Tp (.tup [.int (i : Int), d])) := ⟨p.1, p.2.1.trans (Ex.new hT), by rw [upd_ne (ne_of_none p.2.2 hT)]; exact p.2.2⟩
    exact ⟨Tp, _, rfl, .inl (.inl upd_same), rfl, _, _, rfl, _, _, rfl, rfl, hw _ _, cw_turn p2 (by omega) (ht i d H1 (e.trans e1) hd) (he i d H1 (e.trans e1) hd)⟩
end
section
variable {P : Program} {w : World} {K : PySem.W.Frag} {mg : Str → Option Value} {base : Heap}
abbrev s_walk : Stmt := top 96
theorem sc_walk : FnScope ["_law_draw_here", "_law_net", "_law_many", "_law_line", "_law_here", "_law_turn", "_law_some", "_law_number", "_law_step"] ["_law_draw_here", "_law_net", "_law_many"] (defScope s_walk) := ⟨rfl, rfl, rfl, by decide +kernel, rfl, by decide +kernel, by decide +kernel⟩
theorem ok_walk {f : Addr} {fd : FuncData} (F : FnP K "_law_walk" s_walk f fd) {f_next : Addr} {fd_next : FuncData} (F_next : FnP K "_law_next" s_next f_next fd_next) (g_next : mg "_law_next" = some (.ref f_next)) (G_next : FnOk P w K mg base (CX0) 2 f_next fd_next ["_law_draw_here", "_law_many"] (spNext)) (z_range : mg "range" = none) (z_len : mg "len" = none) (z_enumerate : mg "enumerate" = none) : FnOk P w K mg base (CX0) 3 f fd ["_law_draw_here", "_law_net", "_law_many"] (spWalk) := by
  have b_next : Binds K fd_next ["_law_draw_here", "_law_many"] [] := F_next.bindsN fun _ _ _ _ _ _ us hl => match us, hl with | [_, _], _ => rfl
  refine F.ok (CX := CX0) sc_walk (fun vs H Q E h => ?_) (fun cdv A outer s H vs Q E hr h => ?_)
  · obtain ⟨m, pc, pg, cs, j, w, n, ss, k, many, rfl, _⟩ := h
    rfl
  · obtain ⟨m, pc, pg, cs, j, w, n, ss, k, many, rfl, hD, hj, hW, hok, hm, q⟩ := h
    have hu := hu_of hr
    have hu64 := hr.units
    have hr_next := hr.mono (by decide : 2 ≤ 2)
    refine ⟨_, PSs.nox (pss_cons (ps_asg (pe_tup (pa_cons (pe_lst pa_nil) (pa_cons (pe_call G_next hr_next rfl g_next F_next.kp b_next .nil pass0 (pa_cons (pv 0) (pa_cons (pe_ix ix_tup (pv 1) pe_int (fun _ _ => rfl)) pa_nil))) pa_nil))) (pg_tup rfl (pgs_cons (pg_name (i := 3) sc_walk.nd rfl (Or.inl rfl)) (pgs_cons (pg_name (i := 4) sc_walk.nd rfl (Or.inr rfl)) pgs_nil))))
      (pss_cons (ps_for PassesOwn.never rfl (pi_range1 rfl z_range (pa_cons (pv 2) pa_nil)) (pg_name (i := 5) sc_walk.nd rfl (Or.inl rfl)) (pss_cons (ps_setLc (i := 6) (own := [("_law_number", 7), ("_law_step", 8)]) (g := gTup K 2 (gCons (gName 7) (gCons (gName 8) gNil))) (tt := tTest (tOp rEq (tOp (rIxT K) (tVar 8) (tC (.int 0))) (tVar 4))) (by rfl) sc_walk.nd rfl rfl (sw_true rfl rfl rfl (by decide +kernel)) (pi_enumT (by rfl) z_enumerate (pa_cons (pe_ix ix_tup (pv 1) pe_int (fun _ _ => rfl)) pa_nil)) (blkOk_by (own := [("_law_number", 7), ("_law_step", 8)]) (N := ["_law_draw_here", "_law_net", "_law_many", "_law_line", "_law_here", "_law_turn", "_law_some", "_law_number", "_law_step"]) (sc := defScope s_walk) (by decide +kernel)) (fun _ _ _ _ _ => pg_tup rfl (pgs_cons (pg_name (i := 7) sc_walk.nd rfl (Or.inl rfl)) (pgs_cons (pg_name (i := 8) sc_walk.nd rfl (Or.inl rfl)) pgs_nil))) (fun _ _ _ _ _ => pts_one (pt_cmpR op_eq (pe_ix ix_tup (pv 8) pe_int (fun _ _ => rfl)) (pv 4) (nomark _))) (fun _ _ _ _ _ => pv 7))
      (pss_one (ps_if (pt_cmpR (op_neD hu64) (pv 6) (pe_lst pa_nil) (nomark _)) (pss_cons (ps_expr (pe_bm PySem.F.plainAttrs_list PySem.F.slot_list_append PySem.F.type_list_append mt_append (pv 3) (pa_cons (pe_ix ix_list (pv 6) (pe_call G_next hr_next rfl g_next F_next.kp b_next .nil pass0 (pa_cons (pv 0) (pa_cons (pe_callB call_len_seq (by rfl) z_len PySem.boot_len (pa_cons (pv 6) pa_nil)) pa_nil))) (fun _ _ => rfl)) pa_nil)))
      (pss_one (ps_set (i := 4) sc_walk.nd rfl (Or.inr rfl) (pe_ix ix_tup (pe_ix ix_tup (pe_ix ix_tup (pv 1) pe_int (fun _ _ => rfl)) (pe_ix ix_list (pv 3) (pe_un un_neg pe_int) (fun _ _ => rfl)) (fun _ _ => rfl)) pe_int (fun _ _ => rfl))))) pss_nil))))
      (pss_one (ps_ret (pv 3))))), ?_⟩
    obtain ⟨a, p1, us, rfl, ha, hp1, hus, hlen⟩ := web_at hW
    have n1 := hok.n1
    have n12 := hok.n12
    have l80 := hok.len
    refine asg_any ⟨by show 0 ≤ sizeLine; decide, fun D hDn => ?_⟩
    have r0 : RD m pc pg cs j H (upd H D (.lst [])) := .ofEx hD (Ex.new hDn)
    obtain ⟨d1, d2⟩ := DS.fresh hD hDn
    refine ⟨_, rfl, _, rfl, a, _, 0, .int (n : Int), rfl, rfl, st_of (Ex.new hDn _ _ ha), rfl, m, pc, pg, cs, j, (n : Int), rfl, r0.inv, by omega, by omega, small_log (by omega), fun x H1 x0 x1 r1 => ⟨by show 2 ≤ sizeLine; decide, fun tp htp => ⟨tp, _, rfl, st_of upd_same, rfl, _, _, rfl, _, _, rfl, rfl, ?_⟩⟩⟩
    have eT := Ex.new (o := .tup [.ref D, .int x]) htp
    obtain ⟨here, rfl⟩ : ∃ here : Nat, x = (here : Int) := ⟨x.toNat, by omega⟩
    refine ⟨_, rfl, (many : Int), rfl, by omega, by omega, ?_⟩
    rw [Int.toNat_natCast]
    refine for_it (walk_range (lo := 0) (n := many)) (fun i σ' G => ∃ x5 x6 x7 x8 here ns, σ' = [some (.ref m), some (.ref a), some (.int (many : Int)), some (.ref D), some (.int ((here : Nat) : Int)), x5, x6, x7, x8] ∧ RD m pc pg cs (j + 1 + i) H G ∧ G D = some (.lst (ns.map fun i : Nat => V.int (i : Int))) ∧ ns.length ≤ i ∧ WalkOk ss n ns here) ⟨_, _, _, _, here, [], rfl, (r0.then r1).then (.ofEx r1.inv eT), eT _ _ (r1.stay d1 d2 upd_same), Nat.le_refl _, WalkOk.nil ss (by omega)⟩ (fun _ _ _ _ _ => True.intro) ?_ ?_
    · rintro i x σ' _ G hi ⟨x5, x6, x7, x8, here, ns, rfl, rG, hG, hl, wk⟩ ⟨rfl, rfl⟩
      have kp : Kp H G := rG.kp hD
      have hp1G : SqT K G p1 us := st_of (kp.tup hp1)
      have haG := kp.tup ha
      refine q_asgL (el_enumT (K := K) (fun i => (stepN ss (some (i : Int))).1 == here) (fun i => V.int (i : Int)) (ev_op (ev_var rfl) ev_c (rv_ixT (st_of haG) (v := .ref p1) rfl)) hp1G (by omega) (fun _ _ => rfl) (fun i y H5 e5 hy => ?_) (fun i y H5 e5 hy _ => ev_var rfl)) fun S H2 hS e2 hS2 => ?_
      · have hil : i < ss.length := by
          have := (List.getElem?_eq_some_iff.mp hy).1
          omega
        have hs : ss[i]? = some ss[i] := List.getElem?_eq_getElem hil
        obtain ⟨b, u, g1, g2, _⟩ := step_at hus hs
        rw [hy] at g1
        obtain rfl := Option.some.inj g1
        refine et_is (et_test (ev_eqI (ev_op (ev_var rfl) ev_c (rv_ixT (st_of (e5 _ _ (kp.tup g2))) rfl)) (ev_var rfl))) ?_
        rw [stepN_nat hs, Bool.eq_iff_iff, beq_iff_eq, beq_iff_eq]
        omega
      obtain ⟨ids, hids⟩ : ∃ ids : List Nat, ids = (List.range us.length).filter fun i : Nat => (stepN ss (some (i : Int))).1 == here := ⟨_, rfl⟩
      have hS3 : H2 S = some (.lst ((ids.map fun i : Nat => (i : Int)).map V.int)) := by
        rw [hS2, List.map_map, hids]
        rfl
      have idok : ∀ i ∈ ids, ∃ s, ss[i]? = some s ∧ s.1 = here ∧ s.2.1 < n := fun i hi => by
        rw [hids] at hi
        obtain ⟨h1, h2⟩ := List.mem_filter.mp hi
        rw [List.mem_range] at h1
        have hil : i < ss.length := by omega
        have hs : ss[i]? = some ss[i] := List.getElem?_eq_getElem hil
        rw [stepN_nat hs] at h2
        exact ⟨_, hs, eq_of_beq h2, (hok.step hs).2.1⟩
      have rH : RD m pc pg cs (j + 1 + i) H H2 := rG.then (.ofEx rG.inv e2)
      refine s_when (b := !(ids.map fun i : Nat => (i : Int)).isEmpty) (et_neNil (ev_var rfl) (sq_of hS3)) (fun hb H3 e3 => ?_) (fun hb H3 e3 => ?_)
      · have l0 : 0 < ids.length := by
          cases ids with
          | nil => cases hb
          | cons _ _ => exact Nat.succ_pos _
        have lmax : ids.length ≤ 80 := by
          rw [hids]
          exact Nat.le_trans (List.length_filter_le _ _) (by rw [List.length_range]; omega)
        have e23 := e2.trans e3
        have rI : RD m pc pg cs (j + 1 + i) H H3 := rH.then (.ofEx rH.inv e3)
        have hG3 := e23 _ _ hG
        have hS4 := e3 _ _ hS3
        have hS0 : H S = none := RD.back (i := 0) rG hS
        obtain ⟨t1, t2⟩ := DS.fresh hD hS0
        refine ⟨_, rfl, .inl ⟨rfl, _, sq_of hG3⟩, _, rfl, _, rfl, _, rfl, S, _, rfl, .inl (sq_of hS4), m, pc, pg, cs, j + 1 + i, (ids.length : Int), by rw [List.length_map, List.length_map]; rfl, rI.inv, by omega, by omega, small_log (by omega), fun y H4 y0 y1 r4 => ?_⟩
        have hS5 := r4.stay t1 t2 hS4
        have hG5 := r4.stay d1 d2 hG3
        have hy : y.toNat < ids.length := by omega
        obtain ⟨s, hs1, hs2, hs3⟩ := idok _ (List.getElem_mem hy)
        have hat : atI ((ids.map fun i : Nat => (i : Int)).map V.int) y = some (.int ((ids[y.toNat] : Nat) : Int)) := atI_of y0 (int_get (by rw [List.getElem?_map, List.getElem?_eq_getElem hy]; rfl))
        have rJ : RD m pc pg cs (j + 1 + i + 1) H H4 := rI.then r4
        refine ⟨S, _, y, _, rfl, rfl, sq_of hS5, hat, D, _, _, rfl, rfl, hG5, by rw [List.length_map]; exact Nat.lt_of_le_of_lt (Nat.le_trans hl (by omega : i ≤ 13)) (by decide), ?_⟩
        have hDD : (upd H4 D (.lst ((ns.map fun i : Nat => V.int (i : Int)) ++ [V.int ((ids[y.toNat] : Nat) : Int)]))) D = some (.lst ((ns.map fun i : Nat => V.int (i : Int)) ++ [V.int ((ids[y.toNat] : Nat) : Int)])) := upd_same
        have rK : RD m pc pg cs (j + 1 + i + 1) H (upd H4 D (.lst ((ns.map fun i : Nat => V.int (i : Int)) ++ [V.int ((ids[y.toNat] : Nat) : Int)]))) := RD.set rJ hD hDn
        have kp2 := rK.kp hD
        obtain ⟨b, u, g1, g2, _⟩ := step_at hus hs1
        generalize (upd H4 D (.lst ((ns.map fun i : Nat => V.int (i : Int)) ++ [V.int ((ids[y.toNat] : Nat) : Int)]))) = G2 at hDD rK kp2 ⊢
        refine s_asg (v := .int (s.2.1 : Nat)) (ev_op (ev_op (ev_op (ev_var rfl) ev_c (rv_ixT (st_of (kp2.tup ha)) (v := .ref p1) rfl)) (ev_op (ev_var rfl) (ev_un ev_c rv_neg) (rv_ixL (sq_of hDD) (atI_last _ _))) (rv_ixT (st_of (kp2.tup hp1)) (v := .ref b) (atI_of (by omega) (by rw [Int.toNat_natCast]; exact g1)))) ev_c (rv_ixT (st_of (kp2.tup g2)) rfl)) fun H6 e6 => ?_
        refine ⟨_, _, _, _, s.2.1, ns ++ [ids[y.toNat]], rfl, RD.up (rK.then (.ofEx rK.inv e6)) (by omega), ?_, by rw [List.length_append]; exact Nat.succ_le_succ hl, wk.snoc hs1 hs2 hs3⟩
        rw [e6 _ _ hDD, List.map_append]
        rfl
      · have rI : RD m pc pg cs (j + 1 + i) H H3 := rH.then (.ofEx rH.inv e3)
        exact ⟨_, _, _, _, here, ns, rfl, RD.up rI (by omega), (e2.trans e3) _ _ hG, by omega, wk⟩
    · rintro σ' G ⟨x5, x6, x7, x8, here, ns, rfl, rG, hG, hl, wk⟩
      exact s_ret (ev_var rfl) fun H' e' => q D ns here H' hDn (e' _ _ hG) hl wk (RD.up (rG.then (.ofEx rG.inv e')) (by omega))
end
end D1
end
section
set_option Elab.async false
set_option linter.all false
set_option maxRecDepth 100000
set_option maxHeartbeats 4000000
/-! LC: calls with keywords; paths cut in two -/
namespace L2
open PySem PySem.Spec PyProof.Rows PySem.VX
section
variable {K : PySem.W.Frag} {x qual : Str} {params : Arguments} {body : List Stmt} {scope : Scope} {kws : List (Str × V)} {f : Addr} {fd : FuncData} {ps : List Str}
theorem FunD.kbn0 (F : FunD K x qual params body scope [] kws f fd) (n : Nat) (ks : List Str) (g : {α : Type} → List α → List α → List α)
    (hrel : ∀ {vs zs : List V} {us ws : List Value}, Vals vs us → Vals zs ws → Vals (g vs zs) (g us ws))
    (h : ∀ (kV doc pm : Value) (an : Option Addr) (cdv ct : Value) (us ws : List Value), us.length = n → ws.length = ks.length → bindArgs (PySem.W.fnOf x qual params body scope .none kV doc pm an cdv ct) ⟨us, ks.zip ws⟩ = pure (ps.zip (g us ws))) :
    KBn K fd ps n ks (fun us ws => g us ws) (fun vs zs => g vs zs) := by
  obtain ⟨oc, od, dV, kV, doc, pm, an, cdv, ct, osl, rfl, lk, hcd, hD, hK⟩ := F.ex
  rcases hD with ⟨_, rfl⟩ | ⟨e, _⟩
  · exact ⟨fun s us ws X l1 l2 => .of_eq (h kV doc pm an cdv ct us ws l1 l2), fun r1 r2 => hrel r1 r2⟩
  · exact absurd rfl e
end
section
variable {X : Cx} {CX : CXT} {k n : Nat} {f : Addr} {fd : FuncData} {ps ks : List Str} {sp : Sp} {E : XK} {ES : St → XK} {x : Str} {p pos : Pos} {e : Expr} {es : List Expr} {kws : List Keyword} {t tk : TA} {g : List Value → List Value → List Value} {gV : List V → List V → List V}
/-- f(k = v, ..), keywords only -/
theorem pe_callN0 (F : FnOk X.prog X.w X.K X.mg X.base CX k f fd ps sp) (hr : Room k X.A) (hg : Gl X x) (hm : X.mg x = some (.ref f)) (hk : PySem.W.keepIn X.K (.ref f) = true) (hb : KBn X.K fd ps 0 ks g gV) (hx : Passes CX X E)
    (hkw : PK X kws tk) (hall : (backToKw pos (keywordEach kws X.env)).all (·.1.isSome) = true := by rfl) (hks : (backToKw pos (keywordEach kws X.env)).filterMap (·.1) = ks := by rfl)
    (hdb : (x == ("__debug__" : Str)) = false := by decide) (hpl : ((backTo pos (starEach [] X.env)).any (·.1) || (backToKw pos (keywordEach kws X.env)).any (·.1.isNone)) = false := by rfl) :
    PE X (.Call (.Name x p) [] kws pos) (tCallN 0 ks.length sp gV E tNil tk) := by
  refine ⟨fun pins s σ H Q I h => ?_⟩
  refine wpAny_Call_Name_kw (ld_glob I hg hm ?_ hdb)
  refine PySem.W.callWith_KW0 (h₀ := X.base) I.ok.mod.kin hk hall ?_ hpl
  refine thn (hkw.run pos pins s σ H _ I h) fun ws s2 ⟨zs, H2, I2, rz, l1, l2, q2⟩ => ⟨I2.kIn, ?_⟩
  rw [hks]
  exact run_fnN (us := []) (vs := []) F hr hb hx I2 .nil rz rfl l2 q2
def tCallNS (n m : Nat) (sp : Sp) (gV : List V → List V → List V) (E : St → XK) (t tk : TA) : TE := fun σ H Q => t σ H fun vs H1 => tk σ H1 fun zs H2 => vs.length = n ∧ zs.length = m ∧ sp (gV vs zs) H2 Q (E σ)
theorem run_fnNS {pins : List (Addr × Obj)} {σ : St} {H : Hp} {s : Shared} {Q : VK} {us ws : List Value} {vs zs : List V} (F : FnOk X.prog X.w X.K X.mg X.base CX k f fd ps sp) (hr : Room k X.A) (hb : KBn X.K fd ps n ks g gV) (hx : PassesAt CX X σ (ES σ))
    (I : Inv X pins σ H s) (r : Vals vs us) (rz : Vals zs ws) (l1 : vs.length = n) (l2 : zs.length = ks.length) (h : sp (gV vs zs) H Q (ES σ)) : wpAny (model X.prog X.w) X.A (call (.ref f) us (ks.zip ws)) (EP X pins σ Q) X.xe s := by
  have r2 := hb.rel r rz
  refine wpAny_call (codeAny_mono (F.run X.A X.stack s H ⟨us, ks.zip ws⟩ (g us ws) (gV vs zs) Q (ES σ) hr I.env0 (hb.to s us ws I.kIn (r.length.symm.trans l1) (rz.length.symm.trans l2)) r2 h) fun r s' hq => ?_)
  cases r with
  | error e => exact hx pins H s e s' I hq
  | ok fl =>
    cases fl with
    | ret u => exact I.after hq
    | next => exact False.elim hq
    | brk => exact False.elim hq
    | cont => exact False.elim hq
/-- f(e, .., k = v, ..) within a suite -/
theorem pe_callNS (F : FnOk X.prog X.w X.K X.mg X.base CX k f fd ps sp) (hr : Room k X.A) (hg : Gl X x) (hm : X.mg x = some (.ref f)) (hk : PySem.W.keepIn X.K (.ref f) = true) (hb : KBn X.K fd ps n ks g gV) (hx : ∀ σ, PassesAt CX X σ (ES σ))
    (ha : PA X (e :: es) t) (hkw : PK X kws tk) (hall : (backToKw pos (keywordEach kws X.env)).all (·.1.isSome) = true := by rfl) (hks : (backToKw pos (keywordEach kws X.env)).filterMap (·.1) = ks := by rfl)
    (hdb : (x == ("__debug__" : Str)) = false := by decide) (he : starEach (e :: es) X.env = (false, eval e X.env) :: starEach es X.env := by rfl)
    (hpl : ((backTo pos (starEach (e :: es) X.env)).any (·.1) || (backToKw pos (keywordEach kws X.env)).any (·.1.isNone)) = false := by rfl) :
    PE X (.Call (.Name x p) (e :: es) kws pos) (tCallNS n ks.length sp gV ES t tk) := by
  refine ⟨fun pins s σ H Q I h => ?_⟩
  refine wpAny_Call_Name_kw (ld_glob I hg hm ?_ hdb)
  refine PySem.W.callWith_KW (h₀ := X.base) I.ok.mod.kin hk hall (thn (ha.run pos pins s σ H _ I h) fun us s1 ⟨vs, H1, I1, r, q⟩ => ?_) hpl he
  refine thn (hkw.run pos pins s1 σ H1 _ I1 q) fun ws s2 ⟨zs, H2, I2, rz, l1, l2, q2⟩ => ⟨I2.kIn, ?_⟩
  rw [hks]
  exact run_fnNS F hr hb (hx σ) I2 r rz l1 l2 q2
theorem passNo {X : Cx} {P : Program} {w : World} : Passes (L2.CX P w) X E0 := fun _ _ _ _ _ _ _ h => by
  obtain ⟨_, _, _, _, _, _, _, _, _, _, _, _, hE⟩ := h
  exact hE.elim
end
end L2
namespace D1
open PySem L2 Evl RZ ClX PySem.VX
theorem link_drop (ss : List Step) : ∀ (os : List (Option Int)) (k : Nat), linkB ss os = true → linkB ss (os.drop k) = true
  | os, 0, h => h
  | [], k + 1, _ => rfl
  | [a], k + 1, _ => by
    show linkB ss ([].drop k) = true
    rw [List.drop_nil]
    rfl
  | a :: b :: r, k + 1, h => by
    rw [link_cons, Bool.and_eq_true] at h
    exact link_drop ss (b :: r) k h.2
theorem link_take (ss : List Step) : ∀ (os : List (Option Int)) (k : Nat), linkB ss os = true → linkB ss (os.take k) = true
  | os, 0, h => by
    rw [List.take_zero]
    rfl
  | [], k + 1, _ => rfl
  | [a], k + 1, _ => by
    show linkB ss (a :: [].take k) = true
    rw [List.take_nil]
    rfl
  | a :: b :: r, 1, h => rfl
  | a :: b :: r, k + 2, h => by
    rw [link_cons, Bool.and_eq_true] at h
    have := link_take ss (b :: r) (k + 1) h.2
    show linkB ss (a :: b :: r.take k) = true
    rw [link_cons, h.1]
    exact this
theorem fold_times (k : RK) : ∀ (r : List PyData) (z y : PyData), goodB k z = true → goodB k y = true → (∀ d ∈ r, goodB k d = true) → r.foldl (times k) (times k z y) = times k z (r.foldl (times k) y)
  | [], _, _, _, _, _ => rfl
  | d :: r, z, y, hz, hy, h => by
    have hd := h d List.mem_cons_self
    show r.foldl (times k) (times k (times k z y) d) = times k z (r.foldl (times k) (times k y d))
    rw [times_assoc k hz hy hd]
    exact fold_times k r z (times k y d) hz (good_times k hy hd) fun x hx => h x (List.mem_cons_of_mem _ hx)
theorem prod_app {k : RK} {as bs : List PyData} (ha : ∀ d ∈ as, goodB k d = true) (hb : ∀ d ∈ bs, goodB k d = true) (hne : bs ≠ []) : prodD k (as ++ bs) = times k (prodD k as) (prodD k bs) := by
  cases bs with
  | nil => exact absurd rfl hne
  | cons b r =>
    have hbb := hb b List.mem_cons_self
    have hr : ∀ d ∈ r, goodB k d = true := fun d hd => hb d (List.mem_cons_of_mem _ hd)
    unfold prodD
    rw [List.foldl_append, List.foldl_cons, List.foldl_cons, one_times k hbb]
    exact fold_times k r _ b (prod_good ha) hbb hr
theorem nest_up : ∀ (d : PyData) (m n : Nat), m ≤ n → Nest m d → Nest n d
  | .tuple ds, 0, n, _, h => h.elim
  | .tuple ds, m + 1, 0, hl, _ => absurd hl (by omega)
  | .tuple ds, m + 1, n + 1, hl, h => ⟨fun d hd => nest_up d m n (by omega) (h.1 d hd), h.2⟩
  | .none, m, n, _, _ => by cases n <;> exact True.intro
  | .bool _, m, n, _, _ => by cases n <;> exact True.intro
  | .int _, m, n, _, _ => by cases n <;> exact True.intro
  | .str _, m, n, _, _ => by cases n <;> exact True.intro
  | .list _, m, n, _, _ => by cases n <;> exact True.intro
  | .dict _, m, n, _, _ => by cases n <;> exact True.intro
theorem nest_good : ∀ (k : RK) {d : PyData}, goodB k d = true → Nest (k.depth + 1) d
  | .truth, d, h => by
    obtain ⟨b, rfl⟩ := good_truth h
    exact True.intro
  | .count, d, h => by
    rcases good_cn h with rfl | ⟨i, rfl, _⟩ <;> exact True.intro
  | .narrow, d, h => by
    rcases good_cn h with rfl | ⟨i, rfl, _⟩ <;> exact True.intro
  | .least, d, h => by
    rcases good_b h with rfl | rfl | ⟨i, rfl⟩ <;> exact True.intro
  | .most, d, h => by
    rcases good_b h with rfl | rfl | ⟨i, rfl⟩ <;> exact True.intro
  | .share, d, h => by
    obtain ⟨p, q, rfl, _⟩ := good_share h
    refine ⟨fun d hd => ?_, by show 2 ≤ 1000; decide⟩
    have : d = .int p ∨ d = .int q := by simpa using hd
    rcases this with rfl | rfl <;> exact True.intro
  | .lot n, d, h => by
    obtain ⟨i, rfl, _⟩ := good_lot h
    exact True.intro
  | .pair a b, d, h => by
    obtain ⟨x, y, rfl, h1, h2⟩ := good_pair h
    have up : ∀ (d : PyData) (m n : Nat), m ≤ n → Nest m d → Nest n d := nest_up
    refine ⟨fun d hd => ?_, by show 2 ≤ 1000; decide⟩
    have : d = x ∨ d = y := by simpa using hd
    rcases this with rfl | rfl
    · exact up _ _ _ (Nat.succ_le_succ (Nat.le_max_left _ _)) (nest_good a h1)
    · exact up _ _ _ (Nat.succ_le_succ (Nat.le_max_right _ _)) (nest_good b h2)
end D1
end
section
set_option Elab.async false
set_option linter.all false
set_option maxRecDepth 100000
set_option maxHeartbeats 4000000
/-! LD: paths joined -/
namespace D1
open PySem L2 Evl RZ ClX PySem.VX
def gPW {α : Type} (_us ws : List α) : List α := match ws with
  | [a, b, c] => [c, a, b]
  | _ => []
theorem gPW_rel {vs zs : List V} {us ws : List Value} (_ : Vals vs us) (h : Vals zs ws) : Vals (gPW vs zs) (gPW us ws) := by
  cases h with
  | nil => exact .nil
  | cons h1 r =>
    cases r with
    | nil => exact .nil
    | cons h2 r =>
      cases r with
      | nil => exact .nil
      | cons h3 r =>
        cases r with
        | nil => exact .cons h3 (.cons h1 (.cons h2 .nil))
        | cons _ _ => exact .nil
def gApp {α : Type} (us ws : List α) : List α := us ++ ws
theorem gApp_rel {vs zs : List V} {us ws : List Value} (h : Vals vs us) (h' : Vals zs ws) : Vals (gApp vs zs) (gApp us ws) := by
  induction h with
  | nil => exact h'
  | cons a r ih => exact .cons a ih
theorem cutT (xs : List V) {k : Nat} (h : k ≤ xs.length) : cutV xs none (some (k : Int)) = xs.take k := by
  unfold cutV
  rw [HT.sIx_none, HT.sIx_nat, List.drop_zero, Nat.sub_zero, Nat.min_eq_left h]
theorem cutD (xs : List V) {k : Nat} (h : k ≤ xs.length) : cutV xs (some (k : Int)) none = xs.drop k := by
  unfold cutV
  rw [HT.sIx_nat, HT.sIx_none, Nat.min_eq_left h]
  exact List.take_of_length_le (by rw [List.length_drop]; exact Nat.le_refl _)
theorem path_nat {K : PySem.W.Frag} {H : Hp} {D : Addr} {ns : List Nat} (h : H D = some (.lst (ns.map fun i : Nat => V.int (i : Int)))) (hl : ns.length ≤ 1000) : PathAt K H (.ref D) (some (lineOf ns)) :=
  ⟨D, true, _, rfl, h, numAll_nat ns, by unfold lineOf; rw [List.length_map]; exact hl⟩
theorem line_len (ns : List Nat) : (lineOf ns).length = ns.length := by
  unfold lineOf
  rw [List.length_map]
/-- numbers of a linked path -/
def Linked (ss : List Step) (ns : List Nat) : Prop := (∀ i ∈ ns, i < ss.length) ∧ linkB ss (lineOf ns) = true
theorem Linked.all {ss : List Step} {ns : List Nat} (h : Linked ss ns) : (lineOf ns).all (numB ss.length) = true := by
  refine List.all_eq_true.mpr fun o ho => ?_
  obtain ⟨i, hi, rfl⟩ := List.mem_map.mp ho
  have := h.1 i hi
  show (decide ((0 : Int) ≤ (i : Int)) && decide ((i : Int) ≤ (ss.length : Int) - 1)) = true
  rw [decide_eq_true (by omega : (0 : Int) ≤ (i : Int)), decide_eq_true (by omega : (i : Int) ≤ (ss.length : Int) - 1)]
  rfl
theorem Linked.path {ss : List Step} {ns : List Nat} (h : Linked ss ns) : isPathB ss (some (lineOf ns)) = true := by
  show ((lineOf ns).all (numB ss.length) && linkB ss (lineOf ns)) = true
  rw [h.all, h.2]
  rfl
theorem Linked.take {ss : List Step} {ns : List Nat} (h : Linked ss ns) (k : Nat) : Linked ss (ns.take k) := ⟨fun i hi => h.1 i (List.mem_of_mem_take hi), by
  have : lineOf (ns.take k) = (lineOf ns).take k := List.map_take ..
  rw [this]
  exact link_take ss _ k h.2⟩
theorem Linked.drop {ss : List Step} {ns : List Nat} (h : Linked ss ns) (k : Nat) : Linked ss (ns.drop k) := ⟨fun i hi => h.1 i (List.mem_of_mem_drop hi), by
  have : lineOf (ns.drop k) = (lineOf ns).drop k := List.map_drop ..
  rw [this]
  exact link_drop ss _ k h.2⟩
def wts (ss : List Step) (os : List (Option Int)) : List PyData := os.map fun o => (stepN ss o).2.2
theorem Linked.good {k : RK} {n : Nat} {ss : List Step} {ns : List Nat} (h : Linked ss ns) (hok : WebOk k n ss) : ∀ d ∈ wts ss (lineOf ns), goodB k d = true := fun d hd => by
  obtain ⟨o, ho, rfl⟩ := List.mem_map.mp hd
  obtain ⟨m, _, _, hm⟩ := numB_step (List.all_eq_true.mp h.all o ho)
  exact (hok.step hm).2.2
theorem Linked.sz {B : Nat} {ss : List Step} {ns : List Nat} (h : Linked ss ns) (hs : ∀ s ∈ ss, Sz B s.2.2) : ∀ d ∈ wts ss (lineOf ns), Sz B d := fun d hd => by
  obtain ⟨o, ho, rfl⟩ := List.mem_map.mp hd
  obtain ⟨m, _, _, hm⟩ := numB_step (List.all_eq_true.mp h.all o ho)
  exact hs _ (List.mem_of_getElem? hm)
def spJoined (C : KC) (CR : Addr) : Sp := fun vs H Q _ => ∃ (v r w : V) (D : Addr) (t : Nat) (k : RK) (n : Nat) (ss : List Step) (ns : List Nat), vs = [v, r, w, .ref D, .int (t : Int)] ∧ DtAt H v (madeD k) ∧ RingAt C CR H r k ∧ k.depth < 3 ∧ k.ok ∧ DtAt H w (webD n ss) ∧ WebOk k n ss ∧ (∀ s ∈ ss, Sz 140 s.2.2) ∧ H D = some (.lst (ns.map fun i : Nat => V.int (i : Int))) ∧ Linked ss ns ∧ ns.length ≤ 20 ∧ 1 ≤ t ∧ t < ns.length ∧ ∀ H', Ex H H' → Q (.bl true) H'
section
variable {P : Program} {w : World} {K : PySem.W.Frag} {mg : Str → Option Value} {base : Heap}
abbrev s_joined : Stmt := top 102
theorem sc_joined : FnScope ["_law_made", "_law_base", "_law_net", "_law_line", "_law_at", "_law_parts"] ["_law_made", "_law_base", "_law_net", "_law_line", "_law_at"] (defScope s_joined) := ⟨rfl, rfl, rfl, by decide +kernel, rfl, by decide +kernel, by decide +kernel⟩
theorem ok_joined {f : Addr} {fd : FuncData} (F : FnP K "_law_joined" s_joined f fd) {C : KC} {CR cP : Addr} {f_path_weight : Addr} {fd_path_weight : FuncData} (F_path_weight : FnP K "path_weight" s_path_weight f_path_weight fd_path_weight) (g_path_weight : mg "path_weight" = some (.ref f_path_weight)) (G_path_weight : FnOk P w K mg base (L2.CX P w) 11 f_path_weight fd_path_weight ["ring", "web", "path"] (spPW K C CR cP)) {f_same : Addr} {fd_same : FuncData} (F_same : FnP K "_law_same" s_same f_same fd_same) (g_same : mg "_law_same" = some (.ref f_same)) (G_same : FnOk P w K mg base (CX0) 7 f_same fd_same ["_law_told_here", "_law_due_here"] (spLSame 6)) {f_times : Addr} {fd_times : FuncData} (F_times : FnP K "_law_times" s_times f_times fd_times) (g_times : mg "_law_times" = some (.ref f_times)) (G_times : FnOk P w K mg base (CX0) 5 f_times fd_times ["_law_made", "_law_a", "_law_b"] (spLTimes 3)) : FnOk P w K mg base (CX0) 12 f fd ["_law_made", "_law_base", "_law_net", "_law_line", "_law_at"] (spJoined C CR) := by
  have b_path_weight : Binds K fd_path_weight ["ring", "web", "path"] [] := F_path_weight.bindsN fun _ _ _ _ _ _ us hl => match us, hl with | [_, _, _], _ => rfl
  have k_path_weight : KBn K fd_path_weight ["ring", "web", "path"] 0 ["web", "path", "ring"] (fun us ws => gPW us ws) (fun vs zs => gPW vs zs) := F_path_weight.kbn0 0 _ gPW gPW_rel fun _ _ _ _ _ _ us ws hl hl2 => match us, ws, hl, hl2 with | [], [_, _, _], _, _ => rfl
  have b_same : Binds K fd_same ["_law_told_here", "_law_due_here"] [] := F_same.bindsN fun _ _ _ _ _ _ us hl => match us, hl with | [_, _], _ => rfl
  have b_times : Binds K fd_times ["_law_made", "_law_a", "_law_b"] [] := F_times.bindsN fun _ _ _ _ _ _ us hl => match us, hl with | [_, _, _], _ => rfl
  refine F.ok (CX := CX0) sc_joined (fun vs H Q E h => ?_) (fun cdv A outer s H vs Q E hr h => ?_)
  · obtain ⟨v, r, w, D, t, k, n, ss, ns, rfl, _⟩ := h
    rfl
  · obtain ⟨v, r, w, D, t, k, n, ss, ns, rfl, hM, hR, hd, ok, hW, hok, hs, hD, hL, hl, t1, t2, q⟩ := h
    have hu := hu_of hr
    have hu64 := hr.units
    have hr_path_weight := hr.mono (by decide : 11 ≤ 11)
    have hr_same := hr.mono (by decide : 7 ≤ 11)
    have hr_times := hr.mono (by decide : 5 ≤ 11)
    refine ⟨_, PSs.nox (pss_cons (ps_set (i := 5) sc_joined.nd rfl (Or.inl rfl) (pe_lst (pa_cons (pe_call G_path_weight hr_path_weight rfl g_path_weight F_path_weight.kp b_path_weight .nil passNo (pa_cons (pv 1) (pa_cons (pv 2) (pa_cons (pe_slice sl_list (pv 3) po_none (po_some (pv 4))) pa_nil)))) (pa_cons (pe_call G_path_weight hr_path_weight rfl g_path_weight F_path_weight.kp b_path_weight .nil passNo (pa_cons (pv 1) (pa_cons (pv 2) (pa_cons (pe_slice sl_list (pv 3) (po_some (pv 4)) po_none) pa_nil)))) pa_nil))))
      (pss_one (ps_ret (pe_call G_same hr_same rfl g_same F_same.kp b_same .nil pass0 (pa_cons (pe_callN0 G_path_weight hr_path_weight rfl g_path_weight F_path_weight.kp k_path_weight passNo (pk_cons (pv 2) (pk_cons (pv 3) (pk_cons (pv 1) pk_nil)))) (pa_cons (pe_call G_times hr_times rfl g_times F_times.kp b_times .nil pass0 (pa_cons (pv 0) (pa_cons (pe_ix ix_list (pv 5) pe_int (fun _ _ => rfl)) (pa_cons (pe_ix ix_list (pv 5) pe_int (fun _ _ => rfl)) pa_nil)))) pa_nil)))))), ?_⟩
    have lt : (ns.take t).length = t := by rw [List.length_take]; omega
    have ld : (ns.drop t).length = ns.length - t := List.length_drop ..
    have no : ∀ {ms : List Nat} {X : Prop}, Linked ss ms → ms.length ≠ 0 → (isPathB ss (some (lineOf ms)) = false ∨ lineLen (some (lineOf ms)) = 0) → X := fun {ms X} hL h0 h => by
      rcases h with h | h
      · rw [hL.path] at h
        cases h
      · exact absurd (by rw [← line_len ms]; exact h) h0
    have bd : ∀ {ms : List Nat}, ms.length ≤ 20 → 12 + lineLen (some (lineOf ms)) * 140 ≤ 4000 := fun {ms} h => by
      show 12 + (lineOf ms).length * 140 ≤ 4000
      rw [line_len]
      omega
    have hxl : (ns.map fun i : Nat => V.int (i : Int)).length = ns.length := List.length_map ..
    refine asg_step ⟨_, rfl, _, rfl, _, rfl, _, rfl, (t : Int), rfl, D, _, rfl, sq_of hD, fun p1 hp1 => ?_⟩
    have e1 := Ex.new (o := .lst (cutV (ns.map fun i : Nat => V.int (i : Int)) none (some (t : Int)))) hp1
    have h1 : (upd H p1 (.lst (cutV (ns.map fun i : Nat => V.int (i : Int)) none (some (t : Int))))) p1 = some (.lst ((ns.take t).map fun i : Nat => V.int (i : Int))) := by
      rw [upd_same, cutT _ (by rw [hxl]; omega), List.map_take]
    refine ⟨r, w, .ref p1, k, n, ss, some (lineOf (ns.take t)), 140, rfl, hR.ex e1, by omega, ok, hW.ex e1, hok, hs, by decide, by decide, bd (by omega), path_nat h1 (by omega), fun h => no (hL.take t) (by omega) h, fun os ho _ _ x1 H1 e2 hx1 => ?_⟩
    obtain rfl := Option.some.inj ho
    have e12 := e1.trans e2
    refine ⟨_, rfl, _, rfl, _, rfl, _, rfl, (t : Int), rfl, D, _, rfl, sq_of (e12 _ _ hD), fun p2 hp2 => ?_⟩
    have e3 := Ex.new (o := .lst (cutV (ns.map fun i : Nat => V.int (i : Int)) (some (t : Int)) none)) hp2
    have h2 : (upd H1 p2 (.lst (cutV (ns.map fun i : Nat => V.int (i : Int)) (some (t : Int)) none))) p2 = some (.lst ((ns.drop t).map fun i : Nat => V.int (i : Int))) := by
      rw [upd_same, cutD _ (by rw [hxl]; omega), List.map_drop]
    have e13 := e12.trans e3
    refine ⟨r, w, .ref p2, k, n, ss, some (lineOf (ns.drop t)), 140, rfl, hR.ex e13, by omega, ok, hW.ex e13, hok, hs, by decide, by decide, bd (by omega), path_nat h2 (by omega), fun h => no (hL.drop t) (by omega) h, fun os ho _ _ x2 H2 e4 hx2 => ⟨by show 2 ≤ sizeLine; decide, fun lp hlp => ?_⟩⟩
    obtain rfl := Option.some.inj ho
    have e5 := Ex.new (o := .lst [x1, x2]) hlp
    have e15 := (e13.trans e4).trans e5
    have hlp2 : (upd H2 lp (.lst [x1, x2])) lp = some (.lst [x1, x2]) := upd_same
    have hx1' := hx1.ex ((e3.trans e4).trans e5)
    have hx2' := hx2.ex e5
    generalize (upd H2 lp (.lst [x1, x2])) = G at hlp2 hx1' hx2' e15 ⊢
    refine ⟨_, rfl, _, rfl, _, rfl, rfl, rfl, r, w, .ref D, k, n, ss, some (lineOf ns), 140, rfl, hR.ex e15, by omega, ok, hW.ex e15, hok, hs, by decide, by decide, bd hl, path_nat (e15 _ _ hD) (by omega), fun h => no hL (by omega) h, fun os ho _ _ x H3 e6 hx => ?_⟩
    obtain rfl := Option.some.inj ho
    have gt := (hL.take t).good hok
    have gd := (hL.drop t).good hok
    have hl3 := e6 _ _ hlp2
    have e16 := e15.trans e6
    have szt := prod_sz (by decide) ok gt ((hL.take t).sz hs)
    have szd := prod_sz (by decide) ok gd ((hL.drop t).sz hs)
    have lw : ∀ ms : List Nat, (wts ss (lineOf ms)).length = ms.length := fun ms => by
      unfold wts
      rw [List.length_map, line_len]
    refine ⟨_, rfl, _, rfl, lp, _, 0, x1, rfl, rfl, sq_of hl3, rfl, _, rfl, lp, _, 1, x2, rfl, rfl, sq_of hl3, rfl, v, x1, x2, k, _, _, rfl, hM.ex e16, hd, hx1'.ex e6, hx2'.ex e6, prod_good gt, prod_good gd, szt.up (by rw [lw]; omega), szd.up (by rw [lw]; omega), fun y H4 e7 hy => ?_⟩
    have hsplit : wts ss (lineOf ns) = wts ss (lineOf (ns.take t)) ++ wts ss (lineOf (ns.drop t)) := by
      unfold wts lineOf
      rw [← List.map_append, ← List.map_append, List.take_append_drop]
    have hne : wts ss (lineOf (ns.drop t)) ≠ [] := fun z => by
      have := congrArg List.length z
      rw [lw, List.length_nil] at this
      omega
    have hp := prod_app gt gd hne
    rw [← hsplit] at hp
    refine ⟨x, y, _, k.depth + 1, rfl, hx.ex e7, ?_, nest_good k (prod_good (hL.good hok)), by omega, fun H5 e8 => q H5 ((e16.trans e7).trans e8)⟩
    have : prodD k (wts ss (lineOf ns)) = times k (prodD k (wts ss (lineOf (ns.take t)))) (prodD k (wts ss (lineOf (ns.drop t)))) := hp
    show DtAt H4 y (prodD k (wts ss (lineOf ns)))
    rw [this]
    exact hy
end
end D1
end
section
set_option Elab.async false
set_option linter.all false
set_option maxRecDepth 100000
set_option maxHeartbeats 4000000
/-! LE: what the program told -/
namespace D1
open PySem L2 Evl RZ ClX PySem.VX
structure FamP (K : PySem.W.Frag) (mg : Str → Option Value) (cP cW cB aF : Addr) : Prop where
  gP : mg "BadPath" = some (.ref cP)
  gW : mg "BadWeb" = some (.ref cW)
  gB : mg "BadRing" = some (.ref cB)
  gF : mg "Refused" = some (.ref aF)
  pf : PySem.W.exmOne K (.ref cP) (.ref aF) = some true
  eP : ExcC K cP
  pp : PySem.W.kitOne K (.ref cP) (.ref cP) = some true
  pw : PySem.W.kitOne K (.ref cP) (.ref cW) = some false
  pb : PySem.W.kitOne K (.ref cP) (.ref cB) = some false
def refD : PyData := .tuple [.str "refused", .bool true]
def toldD (k : RK) (ss : List Step) : Line → PyData
  | some os => if (isPathB ss (some os) && decide (lineLen (some os) ≠ 0)) = true then .tuple [.str "told", prodD k (os.map fun o => (stepN ss o).2.2)] else refD
  | none => refD
def spTold (K : PySem.W.Frag) (C : KC) (CR : Addr) : Sp := fun vs H Q _ => ∃ (r wv pv : V) (k : RK) (n : Nat) (ss : List Step) (l : Line), vs = [r, wv, pv] ∧ RingAt C CR H r k ∧ k.depth < 4 ∧ k.ok ∧ DtAt H wv (webD n ss) ∧ WebOk k n ss ∧ (∀ s ∈ ss, Sz 140 s.2.2) ∧ lineLen l ≤ 28 ∧ PathAt K H pv l ∧ ∀ x H', Ex H H' → DtAt H' x (toldD k ss l) → Q x H'
section
variable {K : PySem.W.Frag} {σ : L2.St} {H : Hp} {te : TE}
theorem ev_isV {a C d : Addr} {fs : List (Str × V)} {c : V} {cv : Value} {b : Bool} (h : Ev te σ H (.ref a)) (ea : H a = some (exV a C d)) (ed : H d = some (.xd fs)) (T : ExcC K C) (hc : ∀ u, RelV c u → u = cv) (e : PySem.W.kitOne K (.ref C) cv = some b) :
    Ev (tCB (rIsV K) (tCons te (tCons (tC c) tNil))) σ H (.bl b) :=
  ev_cb (ea_cons h (ea_cons ev_c ea_nil)) fun H1 x _ q => ⟨a, C, d, fs, c, cv, b, rfl, x _ _ ea, x _ _ ed, T, hc, e, q H1 (Ex.refl H1)⟩
end
section
variable {P : Program} {w : World} {K : PySem.W.Frag} {mg : Str → Option Value} {base : Heap}
abbrev s_told : Stmt := top 100
theorem sc_told : FnScope ["_law_base", "_law_net", "_law_line", "_law_found", "_law_wrong", "error", "_law_others"] ["_law_base", "_law_net", "_law_line"] (defScope s_told) := ⟨rfl, rfl, rfl, by decide +kernel, rfl, by decide +kernel, by decide +kernel⟩
theorem ok_told {f : Addr} {fd : FuncData} (F : FnP K "_law_told" s_told f fd) {C : KC} {CR cP cW cB aF : Addr} (T : FamP K mg cP cW cB aF) {f_path_weight : Addr} {fd_path_weight : FuncData} (F_path_weight : FnP K "path_weight" s_path_weight f_path_weight fd_path_weight) (g_path_weight : mg "path_weight" = some (.ref f_path_weight)) (G_path_weight : FnOk P w K mg base (L2.CX P w) 11 f_path_weight fd_path_weight ["ring", "web", "path"] (spPW K C CR cP)) (z_isinstance : mg "isinstance" = none) : FnOk P w K mg base (CX0) 12 f fd ["_law_base", "_law_net", "_law_line"] (spTold K C CR) := by
  have k_path_weight : KBn K fd_path_weight ["ring", "web", "path"] 2 ["path"] (fun us ws => gApp us ws) (fun vs zs => gApp vs zs) := F_path_weight.kbn0 2 _ gApp gApp_rel fun _ _ _ _ _ _ us ws hl hl2 => match us, ws, hl, hl2 with | [_, _], [_], _, _ => rfl
  refine F.ok (CX := CX0) sc_told (fun vs H Q E h => ?_) (fun cdv A outer s H vs Q E hr h => ?_)
  · obtain ⟨r, wv, lv, k, n, ss, l, rfl, _⟩ := h
    rfl
  · obtain ⟨r, wv, lv, k, n, ss, l, rfl, hR, hd, ok, hW, hok, hs, hl, hP, q⟩ := h
    have hu := hu_of hr
    have hu64 := hr.units
    have hr_path_weight := hr.mono (by decide : 11 ≤ 11)
    refine ⟨_, (pss_cons (ps_asg (pe_tup (pa_cons pe_non (pa_cons pe_non pa_nil))) (pg_tup rfl (pgs_cons (pg_name (i := 3) sc_told.nd rfl (Or.inl rfl)) (pgs_cons (pg_name (i := 4) sc_told.nd rfl (Or.inl rfl)) pgs_nil))))
      (pss_cons (ps_try_manyV (i := 5) (Wout := fun _ _ _ _ => False) rfl rfl rfl sc_told.nd rfl rfl takes0 (fun W pn xe tk _ => pss_one (ps_set (i := 3) sc_told.nd rfl (Or.inl rfl) (pe_callNS G_path_weight hr_path_weight rfl g_path_weight F_path_weight.kp k_path_weight (fun σ => passAt tk σ) (by exact (pa_cons (pv 0) (pa_cons (pv 1) pa_nil))) (by exact (pk_cons (pv 2) pk_nil))))) (.cons ⟨rfl, by decide, .inl T.gF⟩ (fun a oe cls d pn _ _ => pss_one (ps_set (i := 4) sc_told.nd rfl (Or.inl rfl) (pv 5))) .nil))
      (pss_cons (ps_if (pt_cmpR op_isN (pv 4) pe_non (nomark _)) (pss_one (ps_ret (pe_tup (pa_cons pe_str (pa_cons (pv 3) pa_nil))))) pss_nil)
      (pss_cons (ps_set (i := 6) sc_told.nd rfl (Or.inl rfl) (pe_or (pe_callB call_isV (by rfl) z_isinstance PyProof.Rows.boot_isinstance (pa_cons (pv 4) (pa_cons (pe_glob (v := .ref cW) rfl T.gW rfl) pa_nil))) (pe_one (pe_callB call_isV (by rfl) z_isinstance PyProof.Rows.boot_isinstance (pa_cons (pv 4) (pa_cons (pe_glob (v := .ref cB) rfl T.gB rfl) pa_nil))))))
      (pss_one (ps_ret (pe_tup (pa_cons pe_str (pa_cons (pe_and (pe_callB call_isV (by rfl) z_isinstance PyProof.Rows.boot_isinstance (pa_cons (pv 4) (pa_cons (pe_glob (v := .ref cP) rfl T.gP rfl) pa_nil))) (pe_one (pe_not (pv 6)))) pa_nil))))))))), ?_⟩
    refine asg_any ⟨by show 2 ≤ sizeLine; decide, fun tp htp => ⟨tp, _, rfl, st_of upd_same, rfl, _, _, rfl, _, _, rfl, rfl, ?_⟩⟩
    have e0 := Ex.new (o := .tup [.non, .non]) htp
    refine ⟨_, rfl, _, rfl, _, rfl, rfl, rfl, r, wv, lv, k, n, ss, l, 140, rfl, hR.ex e0, hd, ok, hW.ex e0, hok, hs, by decide, by decide, by omega, hP.up e0, fun hbad d H1 e1 hd1 => ?_, fun os hos hb hne x H1 e1 hx => ?_⟩
    · refine ⟨true, T.pf, fun _ => ⟨cP, d, rfl, rfl, fun a ha => ?_⟩, fun h => (by cases h)⟩
      have e2 := Ex.new (o := .xd [("why", .str whyP)]) hd1
      have e3 := Ex.new (o := exV a cP d) ha
      have eA := ((e0.trans e1).trans e2).trans e3
      have da : d ≠ a := fun z => by rw [← z, upd_same] at ha; cases ha
      have hA : (upd (upd H1 d (.xd [("why", .str whyP)])) a (exV a cP d)) a = some (exV a cP d) := upd_same
      have hDd : (upd (upd H1 d (.xd [("why", .str whyP)])) a (exV a cP d)) d = some (.xd [("why", .str whyP)]) := by rw [upd_ne da, upd_same]
      refine ⟨_, rfl, ?_⟩
      dsimp only [gName]
      change tSeq _ _ _ [some r, some wv, some lv, some .non, some (.ref a), none, none] (upd (upd H1 d (.xd [("why", .str whyP)])) a (exV a cP d))
      generalize (upd (upd H1 d (.xd [("why", .str whyP)])) a (exV a cP d)) = G at eA hA hDd ⊢
      have ht : toldD k ss l = refD := by
        cases l with
        | none => rfl
        | some os =>
          refine if_neg ?_
          rw [Bool.and_eq_true, decide_eq_true_eq]
          rintro ⟨h1, h2⟩
          rcases hbad with h | h
          · rw [h1] at h
            cases h
          · exact h2 h
      refine q_when (b := false) (et_test (ev_op (ev_var rfl) ev_c (fun H1 _ Q q => ⟨rfl, q H1 (Ex.refl H1)⟩))) (fun hb => (by cases hb)) (fun _ H2 e4 => ?_)
      refine q_asg (v := .bl false) (ev_is (ev_orV (a := false) (b := false) (ev_isV (ev_var rfl) (e4 _ _ hA) (e4 _ _ hDd) T.eP (fun u h => h) T.pw) (fun _ => ev_isV (ev_var rfl) (e4 _ _ hA) (e4 _ _ hDd) T.eP (fun u h => h) T.pb)) rfl) fun H3 e5 => ?_
      have e45 := e4.trans e5
      refine s_retU (eu_tup (ea_cons ev_c (ea_cons (ev_is (ev_andV (a := true) (b := true) (ev_isV (ev_var rfl) (e45 _ _ hA) (e45 _ _ hDd) T.eP (fun u h => h) T.pp) (fun _ => ev_is (ev_notV (ev_var rfl)) rfl)) rfl) ea_nil)) (by show 2 ≤ 100000; decide)) fun lp H4 hlp e6 h4 => q (.ref lp) H4 ((eA.trans e45).trans e6) ?_
      rw [ht]
      exact .tup h4 (.cons (.str _) (.cons (.bl _) .nil))
    · subst hos
      have ht : toldD k ss (some os) = .tuple [.str "told", prodD k (os.map fun o => (stepN ss o).2.2)] := by
        refine if_pos ?_
        rw [hb, Bool.true_and]
        exact decide_eq_true hne
      dsimp only [gName]
      change tSeq _ _ _ [some r, some wv, some lv, some x, some .non, none, none] H1
      refine q_when (b := true) (et_test (ev_op (ev_var rfl) ev_c (fun H1 _ Q q => ⟨rfl, q H1 (Ex.refl H1)⟩))) (fun _ H2 e4 => ?_) (fun hb => (by cases hb))
      refine s_retU (eu_tup (ea_cons ev_c (ea_cons (ev_var rfl) ea_nil)) (by show 2 ≤ 100000; decide)) fun lp H4 hlp e6 h4 => q (.ref lp) H4 (((e0.trans e1).trans e4).trans e6) ?_
      rw [ht]
      exact .tup h4 (.cons (.str _) (.cons (hx.ex (e4.trans e6)) .nil))
end
end D1
end
section
set_option Elab.async false
set_option linter.all false
set_option maxRecDepth 100000
set_option maxHeartbeats 4000000
/-! LF: what repr shows: data with great numbers, texts, dicts of numbers -/
namespace D1
open PySem L2 Evl RZ ClX PySem.VX
structure ShB (d : PyData) (k n : Nat) : Prop where
  fs : d.showable = true
  fd : d.depth ≤ k
  fl : d.leavesShort 60 = true
  fw : d.weight ≤ n
structure ShBA (ds : List PyData) (k n : Nat) : Prop where
  fs : PyData.showableAll ds = true
  fd : PyData.depthAll ds ≤ k
  fl : PyData.leavesShortAll 60 ds = true
  fw : PyData.weightAll ds ≤ n
theorem ShBA.nil {k n : Nat} : ShBA [] k n := ⟨rfl, by simp [PyData.depthAll], rfl, by simp [PyData.weightAll]⟩
theorem ShBA.cons {d : PyData} {ds : List PyData} {k n m p : Nat} (h : ShB d k n) (r : ShBA ds k m) (hp : n + 1 + m ≤ p) : ShBA (d :: ds) k p := by
  refine ⟨?_, ?_, ?_, ?_⟩
  · simp only [PyData.showableAll, h.fs, r.fs, Bool.and_self]
  · simp only [PyData.depthAll]
    exact Nat.max_le.mpr ⟨h.fd, r.fd⟩
  · simp only [PyData.leavesShortAll, h.fl, r.fl, Bool.and_self]
  · simp only [PyData.weightAll]
    have a := h.fw
    have b := r.fw
    omega
theorem ShBA.all {k n m : Nat} : ∀ {ds : List PyData}, (∀ d ∈ ds, ShB d k n) → ds.length * (n + 1) ≤ m → ShBA ds k m
  | [], _, _ => .nil
  | d :: r, h, hm => by
    rw [List.length_cons, Nat.succ_mul] at hm
    exact ShBA.cons (h d List.mem_cons_self) (ShBA.all (n := n) (m := r.length * (n + 1)) (fun y hy => h y (List.mem_cons_of_mem _ hy)) (Nat.le_refl _)) (by omega)
theorem ShB.list {ds : List PyData} {k n : Nat} (h : ShBA ds k n) : ShB (.list ds) (k + 1) n := ⟨h.fs, Nat.succ_le_succ h.fd, h.fl, h.fw⟩
theorem ShB.tuple {ds : List PyData} {k n : Nat} (h : ShBA ds k n) : ShB (.tuple ds) (k + 1) n := ⟨h.fs, Nat.succ_le_succ h.fd, h.fl, h.fw⟩
theorem ShB.none {k n : Nat} : ShB .none k n := ⟨rfl, by simp [PyData.depth], rfl, by simp [PyData.weight]⟩
theorem ShB.bool {b : Bool} {k n : Nat} : ShB (.bool b) k n := ⟨rfl, by simp [PyData.depth], rfl, by simp [PyData.weight]⟩
theorem ShB.int {i : Int} {k : Nat} (h : i.natAbs < 2 ^ 145) : ShB (.int i) k 150 := by
  have h1 : i.natAbs.log2 < 145 := by
    rcases Nat.eq_zero_or_pos i.natAbs with z | z
    · rw [z]
      decide
    · exact (Nat.log2_lt (by omega)).mpr h
  refine ⟨?_, by simp [PyData.depth], ?_, ?_⟩
  · show decide (i.natAbs.log2 < 1920) = true
    exact decide_eq_true (by omega)
  · show decide ((PyData.shown (.int i)).length ≤ 60) = true
    refine decide_eq_true ?_
    have := int_text_length_le10 (a := i) (k := 50) (by decide) (Nat.lt_trans h (by decide))
    show (Str.ofString (toString i)).length ≤ 60
    rw [ofString_length]
    omega
  · show (if i == 0 then 0 else i.natAbs.log2 + 1) ≤ 150
    split <;> omega
theorem ShB.str {z : Str} {k n : Nat} (h : ∀ c ∈ z.cps.toList, c < 16 ^ 8) (hn : z.length ≤ n) : ShB (.str z) k n := by
  refine ⟨rfl, by simp [PyData.depth], ?_, ?_⟩
  · simp only [PyData.leavesShort, List.all_eq_true, decide_eq_true_eq]
    exact h
  · simp only [PyData.weight]
    exact hn
theorem ShB.up {d : PyData} {k k' n n' : Nat} (h : ShB d k n) (hk : k ≤ k') (hn : n ≤ n') : ShB d k' n' := ⟨h.fs, Nat.le_trans h.fd hk, h.fl, Nat.le_trans h.fw hn⟩
theorem ShB.fits {d : PyData} {k n : Nat} (h : ShB d k n) (hn : n ≤ 200000) : d.shown.length ≤ sizeLine := by
  have a := PyData.shown_le 60 (by decide) d h.fl
  have b := h.fw
  rw [sizeLine_eq]
  omega
/-- all that a ring's weight shows -/
theorem good_shb : ∀ (k : RK) {d : PyData}, goodB k d = true → Sz 140 d → ShB d (k.depth + 1) (400 * 2 ^ k.depth - 2)
  | .truth, d, h, _ => by
    obtain ⟨b, rfl⟩ := good_truth h
    exact .bool
  | .count, d, h, s => by
    rcases good_cn h with rfl | ⟨i, rfl, _⟩
    · exact .str (by decide +kernel) (by decide +kernel)
    · exact (ShB.int (k := 0) (Nat.lt_of_lt_of_le s (by decide))).up (by omega) (by show 150 ≤ 400 * 2 ^ 0 - 2; decide)
  | .narrow, d, h, s => by
    rcases good_cn h with rfl | ⟨i, rfl, _⟩
    · exact .str (by decide +kernel) (by decide +kernel)
    · exact (ShB.int (k := 0) (Nat.lt_of_lt_of_le s (by decide))).up (by omega) (by show 150 ≤ 400 * 2 ^ 0 - 2; decide)
  | .least, d, h, s => by
    rcases good_b h with rfl | rfl | ⟨i, rfl⟩
    · exact .str (by decide +kernel) (by decide +kernel)
    · exact .str (by decide +kernel) (by decide +kernel)
    · exact (ShB.int (k := 0) (Nat.lt_of_lt_of_le s (by decide))).up (by omega) (by show 150 ≤ 400 * 2 ^ 0 - 2; decide)
  | .most, d, h, s => by
    rcases good_b h with rfl | rfl | ⟨i, rfl⟩
    · exact .str (by decide +kernel) (by decide +kernel)
    · exact .str (by decide +kernel) (by decide +kernel)
    · exact (ShB.int (k := 0) (Nat.lt_of_lt_of_le s (by decide))).up (by omega) (by show 150 ≤ 400 * 2 ^ 0 - 2; decide)
  | .share, d, h, s => by
    obtain ⟨p, q, rfl, _⟩ := good_share h
    obtain ⟨s1, s2, _⟩ := s
    exact .tuple (.cons (.int (Nat.lt_of_lt_of_le s1 (by decide))) (.cons (.int (Nat.lt_of_lt_of_le s2 (by decide))) (ShBA.nil (n := 0)) (Nat.le_refl _)) (by show 150 + 1 + (150 + 1 + 0) ≤ 400 * 2 ^ 0 - 2; decide))
  | .lot n, d, h, s => by
    obtain ⟨i, rfl, _⟩ := good_lot h
    exact (ShB.int (k := 0) (Nat.lt_of_lt_of_le s (by decide))).up (by omega) (by show 150 ≤ 400 * 2 ^ 0 - 2; decide)
  | .pair a b, d, h, s => by
    obtain ⟨x, y, rfl, h1, h2⟩ := good_pair h
    obtain ⟨s1, s2, _⟩ := s
    have ha := good_shb a h1 s1
    have hb := good_shb b h2 s2
    have pa := Nat.pow_le_pow_right (n := 2) (by decide) (Nat.le_max_left a.depth b.depth)
    have pb := Nat.pow_le_pow_right (n := 2) (by decide) (Nat.le_max_right a.depth b.depth)
    have p0 := Nat.two_pow_pos (max a.depth b.depth)
    refine .tuple (k := max a.depth b.depth + 1) (.cons (ha.up (Nat.succ_le_succ (Nat.le_max_left _ _)) (Nat.le_refl _)) (.cons (hb.up (Nat.succ_le_succ (Nat.le_max_right _ _)) (Nat.le_refl _)) (ShBA.nil (n := 0)) (Nat.le_refl _)) ?_)
    show 400 * 2 ^ a.depth - 2 + 1 + (400 * 2 ^ b.depth - 2 + 1 + 0) ≤ 400 * 2 ^ (max a.depth b.depth + 1) - 2
    have q1 := Nat.two_pow_pos a.depth
    have q2 := Nat.two_pow_pos b.depth
    rw [Nat.pow_succ]
    omega
theorem web_shb {k : RK} {n : Nat} {ss : List Step} (hd : k.depth < 3) (hok : WebOk k n ss) (hs : ∀ s ∈ ss, Sz 140 s.2.2) : ShB (webD n ss) 6 180000 := by
  have hp := Nat.pow_le_pow_right (n := 2) (by decide) (by omega : k.depth ≤ 2)
  have hstep : ∀ d ∈ ss.map stepD, ShB d 4 1910 := fun d hdm => by
    obtain ⟨s, hsm, rfl⟩ := List.mem_map.mp hdm
    obtain ⟨h1, h2, h3⟩ := hok.at_ s hsm
    have n12 := hok.n12
    have hb : ∀ i : Nat, i < n → ((i : Nat) : Int).natAbs < 2 ^ 145 := fun i hi => by
      rw [Int.natAbs_natCast]
      exact Nat.lt_of_lt_of_le (by omega : i < 12) (by decide)
    exact .tuple (k := 3) (.cons (.int (hb _ h1)) (.cons (.int (hb _ h2)) (.cons ((good_shb k h3 (hs s hsm)).up (n' := 1598) (by omega) (by omega)) (ShBA.nil (n := 0)) (Nat.le_refl _)) (Nat.le_refl _)) (by omega))
  have n12 := hok.n12
  have hl := hok.len
  exact .tuple (k := 5) (.cons (.int (by rw [Int.natAbs_natCast]; exact Nat.lt_of_lt_of_le (by omega : n < 13) (by decide))) (.cons (.tuple (k := 4) (ShBA.all (m := 80 * 1911) hstep (by rw [List.length_map]; exact Nat.mul_le_mul_right _ hl))) (ShBA.nil (n := 0)) (Nat.le_refl _)) (by omega))
/-- repr of data, of a text, of a dict of numbers -/
def dictD (kvs : List (Int × Bool)) : PyData := .dict (kvs.map fun p => (.int p.1, .bool p.2))
def dictK (kvs : List (Int × Bool)) : List (Key × V) := kvs.map fun p => (.inl p.1, .bl p.2)
def rReprB (K : PySem.W.Frag) : List V → Hp → VK → Prop := fun xs H Q =>
  (∃ (a : Addr) (d : PyData), xs = [.ref a] ∧ Dp K H (.ref a) d ∧ d.showable = true ∧ d.hasDict = false ∧ d.depth ≤ 60 ∧ d.shown.length ≤ sizeLine ∧ Q (.str d.shown) H) ∨
  (∃ z : Str, xs = [.str z] ∧ (PyData.shown (.str z)).length ≤ sizeLine ∧ Q (.str (PyData.shown (.str z))) H) ∨
  (∃ (a : Addr) (kvs : List (Int × Bool)), xs = [.ref a] ∧ H a = some (.dK (dictK kvs)) ∧ (dictD kvs).showable = true ∧ (dictD kvs).depth ≤ 60 ∧ (dictD kvs).shown.length ≤ sizeLine ∧ Q (.str (dictD kvs).shown) H) ∨
  ((xs = [.non] ∧ Q (.str "None") H) ∨ (∃ b : Bool, xs = [.bl b] ∧ Q (.str (if b then "True" else "False")) H) ∨ ∃ i : Int, xs = [.int i] ∧ i.natAbs.log2 < 1920 ∧ Q (.str (toString i)) H)
theorem reads_dict {h : Heap} {P : Program} {w : World} : ∀ {kvs : List (Int × Bool)} {vs : List (Key × Value)} {es : List DictEntry}, KV (dictK kvs) vs → Pairs (mixKind P w) es vs → ReadsAll h (es.map (·.key)) ((kvs.map fun p => (PyData.int p.1, PyData.bool p.2)).map (·.1)) [] ∧ ReadsAll h (es.map (·.val)) ((kvs.map fun p => (PyData.int p.1, PyData.bool p.2)).map (·.2)) []
  | [], _, _, .nil, .nil => ⟨.nil, .nil⟩
  | (i, b) :: kvs, _, _, .cons ⟨h1, h2⟩ r, .cons hk hv r' => by
    obtain ⟨a1, a2⟩ := reads_dict r r'
    rename_i kv vs e es
    obtain ⟨k0, v0⟩ := kv
    obtain rfl : Sum.inl i = k0 := h1
    have hk : keyIs (.inl i) e.key = true := hk
    rcases keyIs_shape hk with ⟨j, t, e1, e2⟩ | ⟨x, t, e1, _⟩
    · cases e1
      have hv : e.val = v0 := hv
      have h2 : v0 = Value.bool b := h2
      refine ⟨?_, ?_⟩
      · show ReadsAll h (e.key :: es.map (·.key)) (.int i :: _) ([] ++ [])
        rw [e2]
        exact .cons (.int i t) a1
      · show ReadsAll h (e.val :: es.map (·.val)) (.bool b :: _) ([] ++ [])
        rw [hv, h2]
        exact .cons (.bool b) a2
    · cases e1
theorem call_reprB {X : Cx} (hG : X.A.guards = some []) (hu : X.A.units + 64 < cLine) : CallR X (.builtin "repr") (rReprB X.K) := by
  intro pins s σ H xs us Q I r h
  rcases h with h | ⟨z, rfl, hz, q⟩ | ⟨a, kvs, rfl, ha, hs, hd, hz, q⟩ | ⟨rfl, q⟩ | ⟨b, rfl, q⟩ | ⟨i, rfl, hz, q⟩
  · exact call_reprD hG hu pins s σ H xs us Q I r h
  · obtain ⟨u, rfl, t, rfl⟩ := vals1 r
    exact call_repr_gives (typeIs_str s z t) F.slot_str_repr F.entry_str_repr (F.args_str_repr_1 _) (gives_str_repr z t) (hx := hz) ⟨.str _, H, I.tok _, ⟨_, rfl⟩, q⟩
  · obtain ⟨u, rfl, ru⟩ := vals1 r
    obtain rfl : u = Value.ref a := ru
    obtain ⟨_, hsy, vs, kv, o, es, ep, ho, hex, hdat, _, hp, _⟩ := dk_of I.hok ha
    obtain ⟨r1, r2⟩ := reads_dict (h := s.heap) kv hp
    have rd : Reads s.heap (.ref a) (dictD kvs) (a :: [] ++ []) := Reads.dict ho hex.1 hdat r1 r2
    refine repr_of_reads' rd hs (fun _ hm => ?_) hG (by omega) (fun _ _ e => e) (fun h' u tk k => ?_) hz
    · have : sysModules = a := by simpa using hm
      rw [this] at hsy
      simp at hsy
    · exact ⟨.str _, H, I.kept (t' := tk) k, ⟨_, rfl⟩, q⟩
  · obtain ⟨u, rfl, ru⟩ := vals1 r
    obtain rfl : u = Value.none := ru
    exact PySem.P.repr_of_none ⟨.str _, H, I.tok _, ⟨_, rfl⟩, q⟩
  · obtain ⟨u, rfl, ru⟩ := vals1 r
    obtain rfl : u = Value.bool b := ru
    exact PySem.P.repr_of_bool ⟨.str _, H, I.tok _, ⟨_, rfl⟩, q⟩
  · obtain ⟨u, rfl, t, rfl⟩ := vals1 r
    exact PySem.P.repr_of_int hz ⟨.str _, H, I.tok _, ⟨_, rfl⟩, q⟩
/-- str of data -/
def rStrD (K : PySem.W.Frag) : List V → Hp → VK → Prop := fun xs H Q => ∃ (a : Addr) (d : PyData), xs = [.ref a] ∧ Dp K H (.ref a) d ∧ d.showable = true ∧ d.hasDict = false ∧ d.depth ≤ 60 ∧ d.shown.length ≤ sizeLine ∧ Q (.str d.shown) H
theorem call_strD {X : Cx} (hG : X.A.guards = some []) (hu : X.A.units + 64 < cLine) : CallR X (.type "str") (rStrD X.K) := by
  intro pins s σ H xs us Q I r h
  obtain ⟨a, d, rfl, hd, hs, hnd, hdp, hz, q⟩ := h
  obtain ⟨u, rfl, ru⟩ := vals1 r
  obtain rfl : u = Value.ref a := ru
  obtain ⟨as, rd⟩ := Dp.reads I d _ _ hd (show RelV (.ref a) (.ref a) from rfl)
  refine str_of_reads rd hs (fun z => absurd z (by rw [hnd]; decide)) hG (by omega) (fun _ _ e => e) (fun h' u tk k => ?_) hz
  exact ⟨.str d.shown, H, I.kept (t' := tk) k, ⟨_, rfl⟩, q⟩
/-- a dict made of pairs is one of fewer pairs -/
theorem put_dict (i : Int) (b : Bool) : ∀ kvs : List (Int × Bool), ∃ kvs', putK (dictK kvs) (.inl i) (.bl b) = dictK kvs' ∧ kvs'.length ≤ kvs.length + 1 ∧ ∀ p ∈ kvs', p ∈ kvs ∨ p.1 = i := fun kvs => by
  unfold putK
  split
  · refine ⟨kvs.map fun p => if (Sum.inl p.1 : Key) = Sum.inl i then (p.1, b) else p, ?_, by rw [List.length_map]; omega, fun p hp => ?_⟩
    · unfold dictK
      rw [List.map_map, List.map_map]
      refine List.map_congr_left fun p _ => ?_
      show (if (Sum.inl p.1 : Key) = Sum.inl i then ((Sum.inl p.1 : Key), V.bl b) else (Sum.inl p.1, V.bl p.2)) = _
      show _ = ((Sum.inl (if (Sum.inl p.1 : Key) = Sum.inl i then (p.1, b) else p).1 : Key), V.bl (if (Sum.inl p.1 : Key) = Sum.inl i then (p.1, b) else p).2)
      split <;> rfl
    · obtain ⟨p0, h0, rfl⟩ := List.mem_map.mp hp
      split
      · rename_i h
        right
        exact Sum.inl.inj h
      · left
        exact h0
  · refine ⟨kvs ++ [(i, b)], ?_, by rw [List.length_append]; exact Nat.le_refl _, fun p hp => ?_⟩
    · unfold dictK
      rw [List.map_append]
      rfl
    · rcases List.mem_append.mp hp with h | h
      · exact .inl h
      · rw [List.mem_singleton] at h
        rw [h]
        exact .inr rfl
theorem merge_dict (B : Nat) : ∀ (more kvs : List (Int × Bool)), (∀ p ∈ kvs, p.1.natAbs < B) → (∀ p ∈ more, p.1.natAbs < B) → ∃ kvs', mergeK (dictK kvs) (dictK more) = dictK kvs' ∧ kvs'.length ≤ kvs.length + more.length ∧ ∀ p ∈ kvs', p.1.natAbs < B
  | [], kvs, h, _ => ⟨kvs, rfl, Nat.le_refl _, h⟩
  | (i, b) :: more, kvs, h, hm => by
    obtain ⟨k1, e1, l1, m1⟩ := put_dict i b kvs
    have hi := hm (i, b) List.mem_cons_self
    obtain ⟨k2, e2, l2, m2⟩ := merge_dict B more k1 (fun p hp => by
      rcases m1 p hp with x | x
      · exact h p x
      · rw [x]
        exact hi) fun p hp => hm p (List.mem_cons_of_mem _ hp)
    refine ⟨k2, ?_, by rw [List.length_cons]; omega, m2⟩
    show mergeK (putK (dictK kvs) (.inl i) (.bl b)) (dictK more) = _
    rw [e1, e2]
end D1
end
section
set_option Elab.async false
set_option linter.all false
set_option maxRecDepth 100000
set_option maxHeartbeats 4000000
/-! LG: whether the program told right -/
namespace D1
open PySem L2 Evl RZ ClX PySem.VX
def Shows (K : PySem.W.Frag) (H : Hp) (v : V) (z : Str) : Prop := ∀ H1, Ex H H1 → ∀ Q : VK, Q (.str z) H1 → rReprB K [v] H1 Q
theorem Shows.up {K : PySem.W.Frag} {H H' : Hp} {v : V} {z : Str} (h : Shows K H v z) (e : Ex H H') : Shows K H' v z := fun H1 e1 => h H1 (e.trans e1)
/-- a line as it lies, with all that repr shows of it -/
def LineAt (K : PySem.W.Frag) (H : Hp) (v : V) : Line → Prop
  | some os => ∃ (p : Addr) (q : Bool) (xs : List V) (ds : List PyData), v = .ref p ∧ H p = some (objQ q xs) ∧ NumAll K H xs os ∧ os.length ≤ 28 ∧ (∀ H1, Ex H H1 → DpAll K H1 xs ds) ∧ ShBA ds 8 150000 ∧ PyData.hasDictAll ds = false
  | none => (∃ a b c, Tells K H v a b c false false) ∧ ∃ z, Shows K H v z
theorem LineAt.up {K : PySem.W.Frag} {H H' : Hp} {v : V} (e : Ex H H') : ∀ {l : Line}, LineAt K H v l → LineAt K H' v l
  | some os, ⟨p, q, xs, ds, h1, h2, h3, h4, h5, h6⟩ => ⟨p, q, xs, ds, h1, e _ _ h2, h3.up e, h4, fun H1 e1 => h5 H1 (e.trans e1), h6⟩
  | none, ⟨⟨a, b, c, t⟩, z, h⟩ => ⟨⟨a, b, c, t.up e⟩, z, h.up e⟩
theorem LineAt.path {K : PySem.W.Frag} {H : Hp} {v : V} : ∀ {l : Line}, LineAt K H v l → PathAt K H v l
  | some os, ⟨p, q, xs, ds, h1, h2, h3, h4, _⟩ => ⟨p, q, xs, h1, h2, h3, by omega⟩
  | none, ⟨t, _⟩ => t
theorem LineAt.len {K : PySem.W.Frag} {H : Hp} {v : V} : ∀ {l : Line}, LineAt K H v l → lineLen l ≤ 28
  | some os, ⟨p, q, xs, ds, h1, h2, h3, h4, _⟩ => h4
  | none, _ => Nat.zero_le _
theorem shows_q {K : PySem.W.Frag} {H : Hp} {p : Addr} {q : Bool} {xs : List V} {ds : List PyData} (h : H p = some (objQ q xs)) (hd : ∀ H1, Ex H H1 → DpAll K H1 xs ds) (sh : ShBA ds 8 150000) (hn : PyData.hasDictAll ds = false) : ∃ z, Shows K H (.ref p) z := by
  cases q with
  | true =>
    have s := ShB.list sh
    exact ⟨_, fun H1 e Q k => .inl ⟨p, .list ds, rfl, .lst (sq_of (e _ _ h)) (hd H1 e), s.fs, hn, Nat.le_trans s.fd (by decide), s.fits (by decide), k⟩⟩
  | false =>
    have s := ShB.tuple sh
    exact ⟨_, fun H1 e Q k => .inl ⟨p, .tuple ds, rfl, .tup (st_of (e _ _ h)) (hd H1 e), s.fs, hn, Nat.le_trans s.fd (by decide), s.fits (by decide), k⟩⟩
theorem LineAt.shows {K : PySem.W.Frag} {H : Hp} {v : V} : ∀ {l : Line}, LineAt K H v l → ∃ z, Shows K H v z
  | some os, ⟨p, q, xs, ds, h1, h2, h3, h4, h5, h6, h7⟩ => by
    subst h1
    exact shows_q h2 h5 h6 h7
  | none, ⟨_, h⟩ => h
theorem nest_told {k : RK} {n : Nat} {ss : List Step} (hok : WebOk k n ss) (hd : k.depth < 3) : ∀ l : Line, Nest 4 (toldD k ss l)
  | none => ⟨fun d hd => by
      have : d = .str "refused" ∨ d = .bool true := by simpa using hd
      rcases this with rfl | rfl <;> exact True.intro, by show 2 ≤ 1000; decide⟩
  | some os => by
    show Nest 4 (if (isPathB ss (some os) && decide (lineLen (some os) ≠ 0)) = true then PyData.tuple [.str "told", prodD k (os.map fun o => (stepN ss o).2.2)] else refD)
    split
    · rename_i hb
      rw [Bool.and_eq_true] at hb
      have hall : os.all (numB ss.length) = true := (Bool.and_eq_true_iff.mp hb.1).1
      refine ⟨fun d hdm => ?_, by show 2 ≤ 1000; decide⟩
      have : d = .str "told" ∨ d = prodD k (os.map fun o => (stepN ss o).2.2) := by simpa using hdm
      rcases this with rfl | rfl
      · exact True.intro
      · refine nest_up _ (k.depth + 1) 3 (by omega) (nest_good k (prod_good fun d hd => ?_))
        obtain ⟨o, ho, rfl⟩ := List.mem_map.mp hd
        obtain ⟨m, _, _, hm⟩ := numB_step (List.all_eq_true.mp hall o ho)
        exact (hok.step hm).2.2
    · exact ⟨fun d hd => by
        have : d = .str "refused" ∨ d = .bool true := by simpa using hd
        rcases this with rfl | rfl <;> exact True.intro, by show 2 ≤ 1000; decide⟩
def spRight (K : PySem.W.Frag) (C : KC) (CR : Addr) : Sp := fun vs H Q _ => ∃ (v r w lv : V) (k : RK) (n : Nat) (ss : List Step) (l : Line), vs = [v, r, w, lv] ∧ DtAt H v (madeD k) ∧ RingAt C CR H r k ∧ k.depth < 3 ∧ k.ok ∧ DtAt H w (webD n ss) ∧ WebOk k n ss ∧ (∀ s ∈ ss, Sz 140 s.2.2) ∧ LineAt K H lv l ∧ ∀ H', Ex H H' → Q (.bl true) H'
section
variable {P : Program} {w : World} {K : PySem.W.Frag} {mg : Str → Option Value} {base : Heap}
abbrev s_right : Stmt := top 101
theorem sc_right : FnScope ["_law_made", "_law_base", "_law_net", "_law_line", "_law_due_here", "_law_some", "_law_thing", "_law_kept"] ["_law_made", "_law_base", "_law_net", "_law_line"] (defScope s_right) := ⟨rfl, rfl, rfl, by decide +kernel, rfl, by decide +kernel, by decide +kernel⟩
theorem ok_right {f : Addr} {fd : FuncData} (F : FnP K "_law_right" s_right f fd) {C : KC} {CR : Addr} {f_same : Addr} {fd_same : FuncData} (F_same : FnP K "_law_same" s_same f_same fd_same) (g_same : mg "_law_same" = some (.ref f_same)) (G_same : FnOk P w K mg base (CX0) 7 f_same fd_same ["_law_told_here", "_law_due_here"] (spLSame 6)) {f_lispath : Addr} {fd_lispath : FuncData} (F_lispath : FnP K "_law_is_path" s_lispath f_lispath fd_lispath) (g_lispath : mg "_law_is_path" = some (.ref f_lispath)) (G_lispath : FnOk P w K mg base (CX0) 1 f_lispath fd_lispath ["_law_net", "_law_line"] (spLIsPath K)) {f_due : Addr} {fd_due : FuncData} (F_due : FnP K "_law_due" s_due f_due fd_due) (g_due : mg "_law_due" = some (.ref f_due)) (G_due : FnOk P w K mg base (CX0) 6 f_due fd_due ["_law_made", "_law_net", "_law_line"] (spLDue K)) {f_told : Addr} {fd_told : FuncData} (F_told : FnP K "_law_told" s_told f_told fd_told) (g_told : mg "_law_told" = some (.ref f_told)) (G_told : FnOk P w K mg base (CX0) 12 f_told fd_told ["_law_base", "_law_net", "_law_line"] (spTold K C CR)) (z_isinstance : mg "isinstance" = none) (z_list : mg "list" = none) (z_tuple : mg "tuple" = none) (z_repr : mg "repr" = none) : FnG P w K mg base CX0 13 f fd ["_law_made", "_law_base", "_law_net", "_law_line"] (spRight K C CR) := by
  have b_same : Binds K fd_same ["_law_told_here", "_law_due_here"] [] := F_same.bindsN fun _ _ _ _ _ _ us hl => match us, hl with | [_, _], _ => rfl
  have b_lispath : Binds K fd_lispath ["_law_net", "_law_line"] [] := F_lispath.bindsN fun _ _ _ _ _ _ us hl => match us, hl with | [_, _], _ => rfl
  have b_due : Binds K fd_due ["_law_made", "_law_net", "_law_line"] [] := F_due.bindsN fun _ _ _ _ _ _ us hl => match us, hl with | [_, _, _], _ => rfl
  have b_told : Binds K fd_told ["_law_base", "_law_net", "_law_line"] [] := F_told.bindsN fun _ _ _ _ _ _ us hl => match us, hl with | [_, _, _], _ => rfl
  refine Fun.okG F.asFun sc_right (fun vs H Q E h => ?_) (fun cdv A outer s H vs Q E hr hG h => ?_)
  · obtain ⟨v, r, w, lv, k, n, ss, l, rfl, _⟩ := h
    rfl
  · obtain ⟨v, r, w, lv, k, n, ss, l, rfl, hM, hR, hd, ok, hW, hok, hs, hL, q⟩ := h
    have hu64 := hr.units
    have hr_same := hr.mono (by decide : 7 ≤ 12)
    have hr_lispath := hr.mono (by decide : 1 ≤ 12)
    have hr_due := hr.mono (by decide : 6 ≤ 12)
    have hr_told := hr.mono (by decide : 12 ≤ 12)
    refine ⟨_, (pss_cons (ps_par (i := 4) (j := 5) (by rfl) sc_right.nd rfl rfl (by decide) rfl rfl (pa_cons (pe_tup (pa_cons pe_str (pa_cons pe_bl pa_nil))) (pa_cons (pe_lst (pa_cons (pv 3) pa_nil)) pa_nil)) (by rfl))
      (pss_cons (ps_if (pt_val (pe_call G_lispath hr_lispath rfl g_lispath F_lispath.kp b_lispath .nil pass0 (pa_cons (pv 2) (pa_cons (pv 3) pa_nil)))) (pss_one (ps_set (i := 4) sc_right.nd rfl (Or.inl rfl) (pe_tup (pa_cons pe_str (pa_cons (pe_call G_due hr_due rfl g_due F_due.kp b_due .nil pass0 (pa_cons (pv 0) (pa_cons (pv 2) (pa_cons (pv 3) pa_nil)))) pa_nil))))) pss_nil)
      (pss_cons (ps_if (pt_val (pe_callB call_isiT (by rfl) z_isinstance PyProof.Rows.boot_isinstance (pa_cons (pv 3) (pa_cons (pe_tup (pa_cons (pe_bltn (v := .ty "list") rfl z_list (by decide +kernel) rfl) (pa_cons (pe_bltn (v := .ty "tuple") rfl z_tuple (by decide +kernel) rfl) pa_nil))) pa_nil)))) (pss_one (ps_set (i := 5) sc_right.nd rfl (Or.inl rfl) (pe_lst (pa_cons (pv 3) (pa_cons (pe_callTy call_list_of (by rfl) z_list PyProof.Rows.boot_list (pa_cons (pv 3) pa_nil)) (pa_cons (pe_tupleOf rfl z_tuple (pv 3)) pa_nil)))))) pss_nil)
      (pss_cons (ps_for PassesOwn.never rfl (pi_list (pv 5)) (pg_name (i := 6) sc_right.nd rfl (Or.inl rfl)) (pss_cons (ps_set (i := 7) sc_right.nd rfl (Or.inl rfl) (pe_callB (call_reprB hG hu64) (by rfl) z_repr (by decide +kernel) (pa_cons (pv 6) pa_nil)))
      (pss_one (ps_if (PW.pt (pw_or (pt_not (pt_val (pe_call G_same hr_same rfl g_same F_same.kp b_same .nil pass0 (pa_cons (pe_call G_told hr_told rfl g_told F_told.kp b_told .nil pass0 (pa_cons (pv 1) (pa_cons (pv 2) (pa_cons (pv 6) pa_nil)))) (pa_cons (pv 4) pa_nil))))) (pw_or1 (pt_cmpR op_ne (pe_callB (call_reprB hG hu64) (by rfl) z_repr (by decide +kernel) (pa_cons (pv 6) pa_nil)) (pv 7) (nomark _))))) (pss_one (ps_ret pe_bl)) pss_nil))))
      (pss_one (ps_ret pe_bl)))))), ?_⟩
    refine par_step ⟨by show 2 ≤ sizeLine; decide, fun tp htp => ⟨_, rfl, by show 1 ≤ sizeLine; decide, fun S0 hS0 => ⟨_, _, rfl, ?_⟩⟩⟩
    have e0 := (Ex.new (o := .tup [.str "refused", .bl true]) htp).trans (Ex.new (o := .lst [lv]) hS0)
    have hS : (upd (upd H tp (.tup [.str "refused", .bl true])) S0 (.lst [lv])) S0 = some (.lst [lv]) := upd_same
    have hT : DtAt (upd (upd H tp (.tup [.str "refused", .bl true])) S0 (.lst [lv])) (.ref tp) refD := .tup ((Ex.new hS0) _ _ upd_same) (.cons (.str _) (.cons (.bl _) .nil))
    change tSeq _ _ _ [some v, some r, some w, some lv, some (.ref tp), some (.ref S0), none, none] (upd (upd H tp (.tup [.str "refused", .bl true])) S0 (.lst [lv]))
    generalize (upd (upd H tp (.tup [.str "refused", .bl true])) S0 (.lst [lv])) = G0 at e0 hS hT ⊢
    refine q_ifS (b := isPathB ss l && decide (lineLen l ≠ 0)) (fun σ2 G => ∃ d1, σ2 = [some v, some r, some w, some lv, some d1, some (.ref S0), none, none] ∧ Ex G0 G ∧ DtAt G d1 (toldD k ss l)) (et_B (ev_call (ea_cons (ev_var rfl) (ea_cons (ev_var rfl) ea_nil)) fun H1 e1 Q' k' E' => ⟨w, lv, n, ss, l, rfl, hW.ex (e0.trans e1), (hL.up (e0.trans e1)).path, fun H2 e2 => k' H2 e2⟩)) (fun hb H1 e1 D' k' => ?_) (fun hb H1 e1 => ⟨.ref tp, rfl, e1, ?_⟩) ?_
    · cases l with
      | none => cases hb
      | some os =>
        have hb' := hb
        rw [Bool.and_eq_true] at hb'
        have hall : os.all (numB ss.length) = true := (Bool.and_eq_true_iff.mp hb'.1).1
        have e01 := e0.trans e1
        have hl20 : os.length ≤ 28 := hL.len
        refine ⟨_, rfl, _, rfl, _, rfl, v, w, lv, k, n, ss, os, 140, rfl, hM.ex e01, hd, ok, hW.ex e01, hok, hs, by decide, by decide, by omega, (hL.up e01).path, hall, fun x H2 e2 hx => ⟨by show 2 ≤ sizeLine; decide, fun lp hlp => ?_⟩⟩
        refine k' _ _ ⟨.ref lp, rfl, (e1.trans e2).trans (Ex.new hlp), ?_⟩
        rw [show toldD k ss (some os) = .tuple [.str "told", prodD k (os.map fun o => (stepN ss o).2.2)] from if_pos hb]
        exact .new hlp (.cons (.str _) (.cons hx .nil))
    · have ht : toldD k ss l = refD := by
        cases l with
        | none => rfl
        | some os => exact if_neg (by rw [hb]; decide)
      rw [ht]
      exact hT.ex e1
    rintro σ2 G1 ⟨d1, rfl, e1, hd1⟩
    have e01 := e0.trans e1
    refine q_ifS (b := l.isSome) (fun σ2 G => ∃ S items, σ2 = [some v, some r, some w, some lv, some d1, some (.ref S), none, none] ∧ Ex G1 G ∧ G S = some (.lst items) ∧ ∀ t ∈ items, PathAt K G t l ∧ ∃ z, Shows K G t z) ?_ (fun hb H1 e2 D' k' => ?_) (fun hb H1 e2 => ⟨S0, [lv], rfl, e2, (e1.trans e2) _ _ hS, fun t ht => ?_⟩) ?_
    · cases l with
      | none =>
        obtain ⟨⟨a, b, c, t⟩, _⟩ := hL
        exact et_B (ev_tLT (ev_var rfl) (t.up e01))
      | some os =>
        obtain ⟨p, qq, xs, ds, rfl, hp, _⟩ := hL
        exact et_B (ev_is (ev_tLT (ev_var rfl) (tl_q (e01 _ _ hp))) (by cases qq <;> rfl))
    · cases l with
      | none => cases hb
      | some os =>
        obtain ⟨p, qq, xs, ds, rfl, hp, hN, hl, hds, sh, hn⟩ := id hL
        have e02 := e01.trans e2
        have hpp := e02 _ _ hp
        have fin : ∀ (L T : Addr) (qt : Bool) (G : Hp), Ex H1 G → G L = some (objQ true xs) → G T = some (objQ qt xs) → ∀ S, G S = none → ∀ t ∈ [V.ref p, .ref L, .ref T], PathAt K (upd G S (.lst [.ref p, .ref L, .ref T])) t (some os) ∧ ∃ z, Shows K (upd G S (.lst [.ref p, .ref L, .ref T])) t z := fun L T qt G eG hL' hT' S hS' t ht => by
          have eS := Ex.new (o := .lst [.ref p, .ref L, .ref T]) hS'
          have eA := (e02.trans eG).trans eS
          have one : ∀ (a : Addr) (qa : Bool), (upd G S (.lst [.ref p, .ref L, .ref T])) a = some (objQ qa xs) → PathAt K (upd G S (.lst [.ref p, .ref L, .ref T])) (.ref a) (some os) ∧ ∃ z, Shows K (upd G S (.lst [.ref p, .ref L, .ref T])) (.ref a) z := fun a qa ha => ⟨⟨a, qa, xs, rfl, ha, hN.up eA, by omega⟩, shows_q ha (fun H2 e => hds H2 (eA.trans e)) sh hn⟩
          have h3 : t = .ref p ∨ t = .ref L ∨ t = .ref T := by simpa using ht
          rcases h3 with rfl | rfl | rfl
          · exact one p qq (eA _ _ hp)
          · exact one L true (eS _ _ hL')
          · exact one T qt (eS _ _ hT')
        refine ⟨_, rfl, _, rfl, p, xs, rfl, ?_, fun L hLn => ⟨_, rfl, ?_⟩⟩
        · cases qq with
          | true => exact .inl (sq_of hpp)
          | false => exact .inr (st_of hpp)
        have eL := Ex.new (o := .lst xs) hLn
        cases qq with
        | true =>
          refine .inl ⟨p, xs, rfl, sq_of (eL _ _ hpp), fun T hTn => ⟨by show 3 ≤ sizeLine; decide, fun S hSn => ?_⟩⟩
          have eT := Ex.new (o := .tup xs) hTn
          exact k' _ _ ⟨S, _, rfl, ((e2.trans eL).trans eT).trans (Ex.new hSn), upd_same, fin L T false _ (eL.trans eT) (eT _ _ upd_same) upd_same S hSn⟩
        | false =>
          refine .inr ⟨p, xs, rfl, st_of (eL _ _ hpp), by show 3 ≤ sizeLine; decide, fun S hSn => ?_⟩
          exact k' _ _ ⟨S, _, rfl, (e2.trans eL).trans (Ex.new hSn), upd_same, fin L p false _ eL upd_same (eL _ _ hpp) S hSn⟩
    · obtain rfl : t = lv := by simpa using ht
      have := hL.up (e01.trans e2)
      exact ⟨this.path, this.shows⟩
    rintro σ2 G2 ⟨S, items, rfl, e2, hS2, hit⟩
    have e02 := e01.trans e2
    refine ⟨_, rfl, S, rfl, ⟨_, sq_of hS2⟩, ?_⟩
    refine for_it (walk_list (K := K) (a := S) (xs := items)) (fun i σ' G => ∃ x6 x7, σ' = [some v, some r, some w, some lv, some d1, some (.ref S), x6, x7] ∧ Ex G2 G) ⟨none, none, rfl, Ex.refl G2⟩ (fun i σ' G _ h => ?_) ?_ ?_
    · obtain ⟨_, _, _, h⟩ := h
      exact sq_of (h _ _ hS2)
    · rintro i t σ' _ G hi ⟨x6, x7, rfl, eG⟩ ⟨rfl, ht⟩
      obtain ⟨hpt, z, hz⟩ := hit t (List.mem_of_getElem? ht)
      have e03 := e02.trans eG
      refine q_asg (v := .str z) (ev_cb (ea_cons (ev_var rfl) ea_nil) fun H1 e1 Q' q' => hz H1 (eG.trans e1) Q' (q' H1 (Ex.refl H1))) fun H3 e3 => ?_
      have e04 := e03.trans e3
      refine s_when (b := false) (et_is (et_or (a := false) (et_is (et_not (a := true) (et_B fun H4 e4 Q' k' => ?_)) rfl) (fun _ => et_test (ev_neS (ev_cb (ea_cons (ev_var rfl) ea_nil) fun H1 e1 Q' q' => hz H1 ((eG.trans e3).trans e1) Q' (q' H1 (Ex.refl H1))) (ev_var rfl)))) rfl) (fun hb => (by cases hb)) (fun _ H4 e4 => ⟨_, _, rfl, (eG.trans e3).trans e4⟩)
      have e05 := e04.trans e4
      refine ⟨_, rfl, _, rfl, _, rfl, r, w, t, k, n, ss, l, rfl, hR.ex e05, by omega, ok, hW.ex e05, hok, hs, hL.len, hpt.up ((eG.trans e3).trans e4), fun x H5 e5 hx => ?_⟩
      exact ⟨_, rfl, x, d1, _, 4, rfl, hx, hd1.ex ((((e2.trans eG).trans e3).trans e4).trans e5), nest_told hok hd l, by decide, fun H6 e6 => k' H6 (e5.trans e6)⟩
    · rintro σ' G ⟨x6, x7, rfl, eG⟩
      exact q _ (e02.trans eG)
end
end D1
end
section
set_option Elab.async false
set_option linter.all false
set_option maxRecDepth 100000
set_option maxHeartbeats 4000000
/-! LF2: the signs of what str shows -/
namespace D1
open PySem L2 Evl RZ ClX PySem.VX
def Cp (z : Str) : Prop := ∀ c ∈ z.cps.toList, c < 16 ^ 8
theorem Cp.app {x y : Str} (hx : Cp x) (hy : Cp y) : Cp (x ++ y) := fun c hc => by
  rw [Str.cps_append, Array.toList_append] at hc
  rcases List.mem_append.mp hc with h | h
  · exact hx c h
  · exact hy c h
theorem Cp.of (s : String) : Cp (Str.ofString s) := fun c hc => by
  rw [PyProof.Rows.signs_ofString] at hc
  obtain ⟨d, _, rfl⟩ := List.mem_map.mp hc
  exact d.val.toNat_lt
theorem Cp.from : ∀ (ts : List Str) (k : Nat) (acc : Str), Cp acc → (∀ t ∈ ts, Cp t) → Cp (textFrom k acc ts)
  | [], k, acc, h, _ => h
  | t :: r, k, acc, h, ht => by
    unfold textFrom
    refine Cp.from r _ _ ?_ fun x hx => ht x (List.mem_cons_of_mem _ hx)
    have := ht t List.mem_cons_self
    split
    · exact (h.app (Cp.of _)).app this
    · exact h.app this
theorem cp_ints : ∀ is : List Int, ∀ t ∈ PyData.shownAll (is.map PyData.int), Cp t
  | [], t, h => by cases h
  | i :: is, t, h => by
    have h : t ∈ (Str.ofString (toString i)) :: PyData.shownAll (is.map PyData.int) := h
    rcases List.mem_cons.mp h with rfl | h
    · exact Cp.of _
    · exact cp_ints is t h
theorem cp_list (is : List Int) : Cp (PyData.shown (.list (is.map PyData.int))) := by
  show Cp (listText (PyData.shownAll (is.map PyData.int)))
  unfold listText
  exact (Cp.from _ _ _ (Cp.of _) (cp_ints is)).app (Cp.of _)
end D1
end
section
set_option Elab.async false
set_option linter.all false
set_option maxRecDepth 100000
set_option maxHeartbeats 4000000
/-! LH2: odd things, lines of things -/
namespace D1
open PySem L2 Evl RZ ClX PySem.VX
inductive OddV (m pg : Addr) (H : Hp) : V → Option Int → PyData → Prop
  | int {i : Int} (h : i.natAbs < 2 ^ 140) : OddV m pg H (.int i) (some i) (.int i)
  | bl (b : Bool) : OddV m pg H (.bl b) none (.bool b)
  | non : OddV m pg H .non none .none
  | str : OddV m pg H (.str "0") none (.str "0")
  | tup {T : Addr} (h : H T = some (.tup [.int 0])) : OddV m pg H (.ref T) none (.tuple [.int 0])
  | lst {T : Addr} (h : H T = some (.lst [.int 0])) (n1 : T ≠ m) (n2 : T ≠ pg) : OddV m pg H (.ref T) none (.list [.int 0])
section
variable {K : PySem.W.Frag} {m pg : Addr} {H H' : Hp} {v : V} {o : Option Int} {d : PyData}
theorem DpAll.len' : ∀ {vs : List V} {ds : List PyData}, DpAll K H vs ds → vs.length = ds.length
  | [], _, h => by
    cases h
    rfl
  | _ :: vs, _, h => by
    cases h with
    | cons _ r => exact congrArg (· + 1) (DpAll.len' r)
theorem OddV.ex (h : OddV m pg H v o d) (e : Ex H H') : OddV m pg H' v o d := by
  cases h with
  | int h => exact .int h
  | bl b => exact .bl b
  | non => exact .non
  | str => exact .str
  | tup h => exact .tup (e _ _ h)
  | lst h n1 n2 => exact .lst (e _ _ h) n1 n2
theorem OddV.rd {pc : Addr} {cs : List Int} {i j : Nat} (h : OddV m pg H v o d) (hD : DS m pc pg cs i H) (r : RD m pc pg cs j H H') : OddV m pg H' v o d := by
  cases h with
  | int h => exact .int h
  | bl b => exact .bl b
  | non => exact .non
  | str => exact .str
  | tup h => exact .tup ((r.kp hD).tup h)
  | lst h n1 n2 => exact .lst (r.stay n1 n2 h) n1 n2
theorem OddV.num (h : OddV m pg H v o d) : Num K H v o := by
  cases h with
  | int h => exact (DtAt.int _).num
  | bl b => exact (DtAt.bl b).num
  | non => exact DtAt.non.num
  | str => exact (DtAt.str _).num
  | tup h => exact (DtAt.tup h (.cons (.int 0) .nil)).num
  | lst h n1 n2 => exact num_lst h
theorem OddV.dp (h : OddV m pg H v o d) : ∀ H1, Ex H H1 → Dp K H1 v d := fun H1 e => by
  cases h with
  | int h => exact .int _
  | bl b => exact .bl b
  | non => exact .non
  | str => exact .str _
  | tup h => exact .tup (st_of (e _ _ h)) (.cons (.int 0) .nil)
  | lst h n1 n2 => exact .lst (sq_of (e _ _ h)) (.cons (.int 0) .nil)
theorem OddV.shb (h : OddV m pg H v o d) : ShB d 2 200 ∧ d.hasDict = false := by
  have one : ShBA [PyData.int 0] 1 151 := .cons (.int (by decide)) (ShBA.nil (n := 0)) (by decide)
  cases h with
  | int h => exact ⟨(ShB.int (k := 2) (Nat.lt_of_lt_of_le h (by decide))).up (by omega) (by omega), rfl⟩
  | bl b => exact ⟨.bool, rfl⟩
  | non => exact ⟨.none, rfl⟩
  | str => exact ⟨.str (by decide +kernel) (by decide +kernel), rfl⟩
  | tup h => exact ⟨(ShB.tuple one).up (by omega) (by omega), rfl⟩
  | lst h n1 n2 => exact ⟨(ShB.list one).up (by omega) (by omega), rfl⟩
/-- things in a row -/
structure Items (K : PySem.W.Frag) (H : Hp) (vs : List V) (os : List (Option Int)) (ds : List PyData) : Prop where
  num : NumAll K H vs os
  dp : ∀ H1, Ex H H1 → DpAll K H1 vs ds
  sh : ∀ d ∈ ds, ShB d 7 4000
  nd : PyData.hasDictAll ds = false
theorem Items.nil : Items K H [] [] [] := ⟨True.intro, fun _ _ => .nil, fun _ h => (by cases h), rfl⟩
theorem Items.cons {vs : List V} {os : List (Option Int)} {ds : List PyData} (h1 : Num K H v o) (h2 : ∀ H1, Ex H H1 → Dp K H1 v d) (h3 : ShB d 7 4000) (h4 : d.hasDict = false) (r : Items K H vs os ds) : Items K H (v :: vs) (o :: os) (d :: ds) :=
  ⟨⟨h1, r.num⟩, fun H1 e => .cons (h2 H1 e) (r.dp H1 e), fun x hx => by
    rcases List.mem_cons.mp hx with rfl | hx
    · exact h3
    · exact r.sh x hx, by
    show (d.hasDict || PyData.hasDictAll ds) = false
    rw [h4, r.nd]
    rfl⟩
theorem Items.app {vs us : List V} {os ps : List (Option Int)} {ds es : List PyData} (h : Items K H vs os ds) (r : Items K H us ps es) : Items K H (vs ++ us) (os ++ ps) (ds ++ es) := by
  induction vs generalizing os ds with
  | nil =>
    cases os with
    | nil =>
      have hd := h.dp H (Ex.refl H)
      cases hd
      exact r
    | cons _ _ => exact h.num.elim
  | cons v vs ih =>
    cases os with
    | nil => exact h.num.elim
    | cons o os =>
      have hd := h.dp H (Ex.refl H)
      cases hd with
      | cons h1 r1 =>
        rename_i d ds
        have hnd := h.nd
        have hnd : (d.hasDict || PyData.hasDictAll ds) = false := hnd
        obtain ⟨a1, a2⟩ := or_no hnd
        exact Items.cons h.num.1 (fun H1 e => by cases h.dp H1 e with | cons x _ => exact x) (h.sh d List.mem_cons_self) a1 (ih ⟨h.num.2, fun H1 e => by cases h.dp H1 e with | cons _ x => exact x, fun x hx => h.sh x (List.mem_cons_of_mem _ hx), a2⟩)
theorem Items.int {i : Int} (h : i.natAbs < 2 ^ 140) : Items K H [.int i] [some i] [.int i] := .cons (DtAt.int i).num (fun _ _ => .int i) ((ShB.int (k := 7) (Nat.lt_of_lt_of_le h (by decide))).up (Nat.le_refl _) (by omega)) rfl .nil
theorem Items.ints : ∀ {ns : List Nat}, (∀ n ∈ ns, n < 1000) → Items K H (ns.map fun i : Nat => V.int (i : Int)) (lineOf ns) (ns.map fun i : Nat => PyData.int (i : Int))
  | [], _ => .nil
  | n :: ns, h => (Items.int (i := (n : Int)) (by rw [Int.natAbs_natCast]; exact Nat.lt_of_lt_of_le (h n List.mem_cons_self) (by decide))).app (vs := [.int (n : Int)]) (Items.ints fun x hx => h x (List.mem_cons_of_mem _ hx))
theorem OddV.items (h : OddV m pg H v o d) : Items K H [v] [o] [d] := .cons h.num h.dp (h.shb.1.up (by omega) (by omega)) h.shb.2 .nil
theorem Items.line {vs : List V} {os : List (Option Int)} {ds : List PyData} {p : Addr} {q : Bool} (h : Items K H vs os ds) (hp : H p = some (objQ q vs)) (hl : vs.length ≤ 28) : LineAt K H (.ref p) (some os) := by
  have l1 := h.num.len
  have l2 := DpAll.len' (K := K) (h.dp H (Ex.refl H))
  refine ⟨p, q, vs, ds, rfl, hp, h.num, by omega, h.dp, ?_, h.nd⟩
  have := ShBA.all (m := ds.length * 4001) h.sh (Nat.le_refl _)
  exact ⟨this.fs, Nat.le_trans this.fd (by decide), this.fl, Nat.le_trans this.fw (by omega)⟩
end
end D1
end
section
set_option Elab.async false
set_option linter.all false
set_option maxRecDepth 100000
set_option maxHeartbeats 4000000
/-! LI: a line changed -/
namespace D1
open PySem L2 Evl RZ ClX PySem.VX
section
variable {K : PySem.W.Frag} {σ : L2.St} {H : Hp} {ta tb tl : TE}
theorem el_cat2 {xs ys : List V} (h : EvL ta σ H xs) (h' : EvL tb σ H ys) (hz : xs.length + ys.length ≤ sizeLine) : EvL (tOp rCat ta tb) σ H (xs ++ ys) := fun H1 e Q q =>
  h H1 e _ fun p H2 _ e2 hp => h' H2 (e.trans e2) _ fun r H3 _ e3 hr => ⟨p, r, xs, ys, rfl, rfl, e3 _ _ hp, hr, hz, fun u hu => q u _ (fresh_back (e2.trans e3) hu) ((e2.trans e3).trans (Ex.new hu)) upd_same⟩
theorem lc_pairs {a : Addr} {ns : List Nat} {j : Nat} {vs : List Nat} {Q : VK} (h : Ev tl σ H (.ref a)) (hx : H a = some (.lst (ns.map fun i : Nat => V.int (i : Int)))) (hl : ns.length ≤ 40000) (hw : ∀ x, wipe ((wipe σ vs).set j (some x)) vs = wipe σ vs) (hv : ∀ x, ((wipe σ vs).set j (some x))[j]? = some (some x))
    (k : ∀ (Dl : Addr) (ps : List Addr) (G : Hp), Ex H G → G Dl = some (.lst (ps.map V.ref)) → Paired (fun (p : Addr) (kv : Key × V) => SqT K G p [kV kv.1, kv.2]) ps (dictK (ns.map fun i : Nat => ((i : Int), true))) → Q (.ref Dl) G) :
    tLc (iList K tl) (gName j) tYes (tTup (tCons (tVar j) (tCons (tC (.bl true)) tNil))) vs σ H Q := by
  refine h H (Ex.refl H) _ fun H1 e1 => ⟨a, rfl, ⟨_, sq_of (e1 _ _ hx)⟩, fun Dl hD => ?_⟩
  refine lc_it (walk_list (K := K) (a := a) (xs := ns.map fun i : Nat => V.int (i : Int))) (fun i G => Ex H1 G ∧ ∃ ps : List Addr, G Dl = some (.lst (ps.map V.ref)) ∧ Paired (fun (p : Addr) (kv : Key × V) => SqT K G p [kV kv.1, kv.2]) ps (dictK ((ns.take i).map fun i : Nat => ((i : Int), true)))) ⟨Ex.new hD, [], upd_same, .nil⟩ (fun i G _ p => sq_of (p.1 _ _ (e1 _ _ hx))) ?_ ?_
  · rintro i x _ G hi ⟨eG, ps, hG, hP⟩ ⟨rfl, hx2⟩
    have hx2 : (ns.map fun i : Nat => V.int (i : Int))[i]? = some x := hx2
    rw [List.getElem?_map] at hx2
    obtain ⟨n, hn, rfl⟩ := Option.map_eq_some_iff.mp hx2
    refine ⟨hw _, tyes_go (yes_of rfl ?_)⟩
    refine ⟨_, hv _, by show 2 ≤ sizeLine; decide, fun p hp => ?_⟩
    have hpD : p ≠ Dl := fun z => by rw [z, hG] at hp; cases hp
    have ep := Ex.new (o := .tup [.int (n : Int), .bl true]) hp
    have hlen : ps.length = (ns.take i).length := by
      have := Paired.length hP
      unfold dictK at this
      rw [List.length_map, List.length_map] at this
      exact this
    have keep : ∀ {q : Addr} {xs : List V}, SqT K G q xs → SqT K (upd (upd G p (.tup [.int (n : Int), .bl true])) Dl (.lst (ps.map V.ref ++ [V.ref p]))) q xs := fun {q xs} hq => by
      rcases hq with (hq | ⟨o, hq⟩) | hq
      · have h1 := ep _ _ hq
        have : q ≠ Dl := fun z => by rw [z, ep _ _ hG] at h1; cases h1
        exact .inl (.inl (by rw [upd_ne this]; exact h1))
      · have h1 := ep _ _ hq
        have : q ≠ Dl := fun z => by rw [z, ep _ _ hG] at h1; cases h1
        exact .inl (.inr ⟨o, by rw [upd_ne this]; exact h1⟩)
      · exact .inr hq
    refine ⟨_, ep _ _ hG, ?_, Ex.mut (eG.trans ep) hD, ps ++ [p], ?_, ?_⟩
    · rw [List.length_map, hlen, List.length_take]
      exact Nat.lt_of_le_of_lt (Nat.min_le_right _ _) (Nat.lt_of_le_of_lt hl (by decide))
    · rw [upd_same, List.map_append]
      rfl
    · rw [List.take_succ, hn, List.map_append]
      unfold dictK
      rw [List.map_append]
      refine paired_app (Paired.mono (fun q kv hq => keep hq) hP) (.cons ?_ .nil)
      exact .inl (.inl (by rw [upd_ne hpD]; exact upd_same))
  · rintro G ⟨eG, ps, hG, hP⟩
    refine k Dl ps G (e1.trans eG) hG ?_
    rw [List.take_of_length_le (by rw [List.length_map]; exact Nat.le_refl _)] at hP
    exact hP
theorem cut_map (ns : List Nat) (lo hi : Option Int) : ∃ ms : List Nat, cutV (ns.map fun i : Nat => V.int (i : Int)) lo hi = (ms.map fun i : Nat => V.int (i : Int)) ∧ ms.length ≤ ns.length ∧ ∀ i ∈ ms, i ∈ ns := by
  unfold cutV
  refine ⟨(ns.drop (HT.sIx (ns.map fun i : Nat => V.int (i : Int)).length 0 lo)).take (HT.sIx (ns.map fun i : Nat => V.int (i : Int)).length (ns.map fun i : Nat => V.int (i : Int)).length hi - HT.sIx (ns.map fun i : Nat => V.int (i : Int)).length 0 lo), ?_, ?_, fun i hi => List.mem_of_mem_drop (List.mem_of_mem_take hi)⟩
  · rw [List.map_take, List.map_drop]
  · rw [List.length_take, List.length_drop]
    omega
end
end D1
end
section
set_option Elab.async false
set_option linter.all false
set_option maxRecDepth 100000
set_option maxHeartbeats 4000000
/-! LI: a line changed -/
namespace D1
open PySem L2 Evl RZ ClX PySem.VX
theorem cons_step {te : TE} {t : TA} {σ : L2.St} {H : Hp} {Q : List V → Hp → Prop} (h : te σ H fun x H1 => t σ H1 fun vs H2 => Q (x :: vs) H2) : tCons te t σ H Q := h
theorem cb_step {r : List V → Hp → VK → Prop} {t : TA} {σ : L2.St} {H : Hp} {Q : VK} (h : t σ H fun vs H1 => r vs H1 Q) : tCB r t σ H Q := h
abbrev rDictP (K : PySem.W.Frag) : List V → Hp → VK → Prop := fun xs H Q => ∃ (a : Addr) (ps : List Addr) (kvs : List (Key × V)), xs = [.ref a] ∧ SqL K H a (ps.map V.ref) ∧ Paired (fun p kv => SqT K H p [kV kv.1, kv.2]) ps kvs ∧ ∀ p, H p = none → Q (.ref p) (upd H p (.dK (mergeK [] kvs)))
theorem dict_pairs {K : PySem.W.Frag} {σ : L2.St} {H : Hp} {tl : TE} {a : Addr} {ns : List Nat} {j : Nat} {vs : List Nat} {Q : VK} (h : Ev tl σ H (.ref a)) (hx : H a = some (.lst (ns.map fun i : Nat => V.int (i : Int)))) (hl : ns.length ≤ 40000) (hw : ∀ x, wipe ((wipe σ vs).set j (some x)) vs = wipe σ vs) (hv : ∀ x, ((wipe σ vs).set j (some x))[j]? = some (some x)) (hb : ∀ i ∈ ns, i < 1000)
    (k : ∀ (Dd : Addr) (kvs : List (Int × Bool)) (G : Hp), Ex H G → H Dd = none → G Dd = some (.dK (dictK kvs)) → kvs.length ≤ ns.length → (∀ p ∈ kvs, p.1.natAbs < 1000) → Q (.ref Dd) G) :
    tCB (rDictP K) (tCons (tLc (iList K tl) (gName j) tYes (tTup (tCons (tVar j) (tCons (tC (.bl true)) tNil))) vs) tNil) σ H Q :=
  cb_step (cons_step (lc_pairs h hx hl hw hv fun Dl ps G eG hG hP => show rDictP K [.ref Dl] G Q from ⟨Dl, ps, _, rfl, sq_of hG, hP, fun p hp => by
    obtain ⟨kvs, e, l, b⟩ := merge_dict 1000 (ns.map fun i : Nat => ((i : Int), true)) [] (fun _ h => by cases h) (fun q hq => by
      obtain ⟨i, hi, rfl⟩ := List.mem_map.mp hq
      show ((i : Nat) : Int).natAbs < 1000
      rw [Int.natAbs_natCast]
      exact hb i hi)
    rw [show mergeK [] (dictK (ns.map fun i : Nat => ((i : Int), true))) = dictK kvs from e]
    rw [List.length_map] at l
    exact k p kvs _ (eG.trans (Ex.new hp)) (fresh_back eG hp) upd_same (by simpa using l) b⟩))
structure ShBK (kvs : List (Int × Bool)) : Prop where
  fs : PyData.showableKv (kvs.map fun p => (PyData.int p.1, PyData.bool p.2)) = true
  fd : PyData.depthKv (kvs.map fun p => (PyData.int p.1, PyData.bool p.2)) ≤ 1
  fl : PyData.leavesShortKv 60 (kvs.map fun p => (PyData.int p.1, PyData.bool p.2)) = true
  fw : PyData.weightKv (kvs.map fun p => (PyData.int p.1, PyData.bool p.2)) ≤ kvs.length * 152
theorem shbk : ∀ {kvs : List (Int × Bool)}, (∀ p ∈ kvs, p.1.natAbs < 1000) → ShBK kvs
  | [], _ => ⟨rfl, by simp [PyData.depthKv], rfl, by simp [PyData.weightKv]⟩
  | p :: kvs, h => by
    have hi := ShB.int (k := 0) (Nat.lt_of_lt_of_le (h p List.mem_cons_self) (by decide : 1000 ≤ 2 ^ 145))
    have r := shbk fun x hx => h x (List.mem_cons_of_mem _ hx)
    refine ⟨?_, ?_, ?_, ?_⟩
    · show ((PyData.int p.1).showable && (PyData.bool p.2).showable && PyData.showableKv _) = true
      rw [hi.fs, r.fs]
      rfl
    · have := hi.fd
      have := r.fd
      simp only [List.map_cons, PyData.depthKv, PyData.depth] at *
      omega
    · show ((PyData.int p.1).leavesShort 60 && (PyData.bool p.2).leavesShort 60 && PyData.leavesShortKv 60 _) = true
      rw [hi.fl, r.fl]
      rfl
    · have := hi.fw
      have := r.fw
      simp only [List.map_cons, PyData.weightKv, List.length_cons, Nat.succ_mul] at *
      have : (PyData.bool p.2).weight = 0 := by simp [PyData.weight]
      omega
theorem dict_shb {kvs : List (Int × Bool)} (h : ∀ p ∈ kvs, p.1.natAbs < 1000) : ShB (dictD kvs) 2 (kvs.length * 152) := by
  have r := shbk h
  exact ⟨r.fs, Nat.succ_le_succ r.fd, r.fl, r.fw⟩
theorem odd_at {m pg : Addr} {H : Hp} {T L : Addr} {s : Nat} (hs : s ≤ 80) (hT : H T = some (.tup [.int 0])) (hL : H L = some (.lst [.int 0])) (n1 : L ≠ m) (n2 : L ≠ pg) {x : Int} (h0 : 0 ≤ x) (h1 : x < 9) :
    ∃ v o d, atI [V.int (s : Int), .int (-1), .bl true, .non, .str "0", .int ((10 : Int) ^ (20 : Int).toNat), .ref T, .ref L, .bl false] x = some v ∧ OddV m pg H v o d := by
  have h2 : x = 0 ∨ x = 1 ∨ x = 2 ∨ x = 3 ∨ x = 4 ∨ x = 5 ∨ x = 6 ∨ x = 7 ∨ x = 8 := by omega
  rcases h2 with rfl | rfl | rfl | rfl | rfl | rfl | rfl | rfl | rfl
  · exact ⟨_, _, _, rfl, .int (by rw [Int.natAbs_natCast]; exact Nat.lt_of_le_of_lt hs (by decide))⟩
  · exact ⟨_, _, _, rfl, .int (by decide)⟩
  · exact ⟨_, _, _, rfl, .bl true⟩
  · exact ⟨_, _, _, rfl, .non⟩
  · exact ⟨_, _, _, rfl, .str⟩
  · exact ⟨_, _, _, rfl, .int (by decide)⟩
  · exact ⟨_, _, _, rfl, .tup hT⟩
  · exact ⟨_, _, _, rfl, .lst hL n1 n2⟩
  · exact ⟨_, _, _, rfl, .bl false⟩
theorem OddV.line {K : PySem.W.Frag} {m pg : Addr} {H : Hp} {v : V} {o : Option Int} {d : PyData} (h : OddV m pg H v o d) : ∃ l, LineAt K H v l := by
  cases h with
  | int h => exact ⟨none, ⟨_, _, _, tl_int _⟩, _, fun H1 e Q q => .inr (.inr (.inr (.inr (.inr ⟨_, rfl, by
      have := ShB.int (k := 0) (Nat.lt_of_lt_of_le h (by decide))
      exact of_decide_eq_true this.fs, q⟩))))⟩
  | bl b => exact ⟨none, ⟨_, _, _, tl_bl b⟩, _, fun H1 e Q q => .inr (.inr (.inr (.inr (.inl ⟨b, rfl, q⟩))))⟩
  | non => exact ⟨none, ⟨_, _, _, tl_non⟩, _, fun H1 e Q q => .inr (.inr (.inr (.inl ⟨rfl, q⟩)))⟩
  | str => exact ⟨none, ⟨_, _, _, tl_str _⟩, _, fun H1 e Q q => .inr (.inl ⟨_, rfl, by decide +kernel, q⟩)⟩
  | tup h => exact ⟨some [some 0], Items.line (q := false) (Items.int (by decide)) h (by show 1 ≤ 28; decide)⟩
  | lst h n1 n2 => exact ⟨some [some 0], Items.line (q := true) (Items.int (by decide)) h (by show 1 ≤ 28; decide)⟩
def spChanged (K : PySem.W.Frag) : Sp := fun vs H Q _ => ∃ (m pc pg : Addr) (cs : List Int) (j : Nat) (w : V) (D : Addr) (way : Int) (n : Nat) (ss : List Step) (k : RK) (ns : List Nat), vs = [.ref m, w, .ref D, .int way] ∧ DS m pc pg cs j H ∧ j + 20 ≤ 100000 ∧ DtAt H w (webD n ss) ∧ WebOk k n ss ∧ H D = some (.lst (ns.map fun i : Nat => V.int (i : Int))) ∧ D ≠ m ∧ D ≠ pg ∧ ns.length ≤ 13 ∧ (∀ i ∈ ns, i < 1000) ∧
  ∀ (x : V) (l : Line) (H' : Hp), RD m pc pg cs (j + 20) H H' → LineAt K H' x l → Q x H'
section
variable {P : Program} {w : World} {K : PySem.W.Frag} {mg : Str → Option Value} {base : Heap}
abbrev s_changed : Stmt := top 97
theorem sc_changed : FnScope ["_law_draw_here", "_law_net", "_law_line", "_law_way", "_law_many", "_law_odd", "_law_at", "_law_other", "_law_number"] ["_law_draw_here", "_law_net", "_law_line", "_law_way"] (defScope s_changed) := ⟨rfl, rfl, rfl, by decide +kernel, rfl, by decide +kernel, by decide +kernel⟩
theorem ok_changed {f : Addr} {fd : FuncData} (F : FnP K "_law_changed" s_changed f fd) {f_next : Addr} {fd_next : FuncData} (F_next : FnP K "_law_next" s_next f_next fd_next) (g_next : mg "_law_next" = some (.ref f_next)) (G_next : FnOk P w K mg base (CX0) 2 f_next fd_next ["_law_draw_here", "_law_many"] (spNext)) (z_len : mg "len" = none) (z_str : mg "str" = none) (z_dict : mg "dict" = none) : FnG P w K mg base CX0 3 f fd ["_law_draw_here", "_law_net", "_law_line", "_law_way"] (spChanged K) := by
  have b_next : Binds K fd_next ["_law_draw_here", "_law_many"] [] := F_next.bindsN fun _ _ _ _ _ _ us hl => match us, hl with | [_, _], _ => rfl
  refine Fun.okG F.asFun sc_changed (fun vs H Q E h => ?_) (fun cdv A outer s H vs Q E hr hG h => ?_)
  · obtain ⟨m, pc, pg, cs, j, w, D, way, n, ss, k, ns, rfl, _⟩ := h
    rfl
  · obtain ⟨m, pc, pg, cs, j, w, D, way, n, ss, k, ns, rfl, hD, hj, hW, hok, hDl, d1, d2, hl, hns, q⟩ := h
    have hu := hu_of hr
    have hu64 := hr.units
    have hr_next := hr.mono (by decide : 2 ≤ 2)
    refine ⟨_, (pss_cons (ps_set (i := 4) sc_changed.nd rfl (Or.inl rfl) (pe_callB call_len_seq (by rfl) z_len PySem.boot_len (pa_cons (pe_ix ix_tup (pv 1) pe_int (fun _ _ => rfl)) pa_nil)))
      (pss_cons (ps_set (i := 5) sc_changed.nd rfl (Or.inl rfl) (pe_ix ix_list (pe_lst (pa_cons (pv 4) (pa_cons (pe_un un_neg pe_int) (pa_cons pe_bl (pa_cons pe_non (pa_cons pe_str (pa_cons (pe_op op_pow pe_int pe_int) (pa_cons (pe_tup (pa_cons pe_int pa_nil)) (pa_cons (pe_lst (pa_cons pe_int pa_nil)) (pa_cons pe_bl pa_nil)))))))))) (pe_call G_next hr_next rfl g_next F_next.kp b_next .nil pass0 (pa_cons (pv 0) (pa_cons pe_int pa_nil))) (fun _ _ => rfl)))
      (pss_cons (ps_par (i := 6) (j := 7) (by rfl) sc_changed.nd rfl rfl (by decide) rfl rfl (pa_cons (pe_call G_next hr_next rfl g_next F_next.kp b_next .nil pass0 (pa_cons (pv 0) (pa_cons (pe_op op_add (pe_callB call_len_seq (by rfl) z_len PySem.boot_len (pa_cons (pv 2) pa_nil)) pe_int) pa_nil))) (pa_cons (pe_call G_next hr_next rfl g_next F_next.kp b_next .nil pass0 (pa_cons (pv 0) (pa_cons (pe_op op_add (pv 4) pe_int) pa_nil))) pa_nil)) (by rfl))
      (pss_cons (ps_if (pt_cmpR op_eq (pv 3) pe_int (nomark _)) (pss_one (ps_ret (pe_op op_cat (pe_slice sl_list (pv 2) po_none (po_some (pv 6))) (pe_slice sl_list (pv 2) (po_some (pe_op op_add (pv 6) pe_int)) po_none)))) pss_nil)
      (pss_cons (ps_if (pt_cmpR op_eq (pv 3) pe_int (nomark _)) (pss_one (ps_ret (pe_op op_cat (pe_op op_cat (pe_slice sl_list (pv 2) po_none (po_some (pv 6))) (pe_lst (pa_cons (pv 7) pa_nil))) (pe_slice sl_list (pv 2) (po_some (pv 6)) po_none)))) pss_nil)
      (pss_cons (ps_if (pt_cmpR op_eq (pv 3) pe_int (nomark _)) (pss_one (ps_ret (pe_op op_cat (pe_op op_cat (pe_slice sl_list (pv 2) po_none (po_some (pv 6))) (pe_lst (pa_cons (pv 7) pa_nil))) (pe_slice sl_list (pv 2) (po_some (pe_op op_add (pv 6) pe_int)) po_none)))) pss_nil)
      (pss_cons (ps_if (pt_cmpR op_eq (pv 3) pe_int (nomark _)) (pss_one (ps_ret (pe_op op_cat (pe_op op_cat (pe_slice sl_list (pv 2) po_none (po_some (pv 6))) (pe_lst (pa_cons (pv 5) pa_nil))) (pe_slice sl_list (pv 2) (po_some (pe_op op_add (pv 6) pe_int)) po_none)))) pss_nil)
      (pss_cons (ps_if (pt_cmpR op_eq (pv 3) pe_int (nomark _)) (pss_one (ps_ret (pe_slice sl_list (pe_lst (pa_cons (pv 7) (pa_cons (pe_call G_next hr_next rfl g_next F_next.kp b_next .nil pass0 (pa_cons (pv 0) (pa_cons (pe_op op_add (pv 4) pe_int) pa_nil))) (pa_cons (pe_call G_next hr_next rfl g_next F_next.kp b_next .nil pass0 (pa_cons (pv 0) (pa_cons (pe_op op_add (pv 4) pe_int) pa_nil))) pa_nil)))) po_none (po_some (pv 6))))) pss_nil)
      (pss_one (ps_ret (pe_ix ix_list (pe_lst (pa_cons (pv 5) (pa_cons (pe_lst (pa_cons (pv 2) pa_nil)) (pa_cons (pe_callTy (call_dictP rfl) (by rfl) z_dict PyProof.Rows.boot_dict (pa_cons (pe_lc (own := [("_law_number", 8)]) (g := gName 8) (tt := tYes) (by rfl) sc_changed.nd (pi_list (pv 2)) (blkOk_by (own := [("_law_number", 8)]) (N := ["_law_draw_here", "_law_net", "_law_line", "_law_way", "_law_many", "_law_odd", "_law_at", "_law_other", "_law_number"]) (sc := defScope s_changed) (by decide +kernel)) (fun _ _ _ _ _ => pg_name (i := 8) sc_changed.nd rfl (Or.inl rfl)) (fun _ _ _ _ _ => pts_nil) (fun _ _ _ _ _ => pe_tup (pa_cons (pv 8) (pa_cons pe_bl pa_nil)))) pa_nil)) (pa_cons (pe_callTy (call_strD hG hu64) (by rfl) z_str PyProof.Rows.boot_str (pa_cons (pv 2) pa_nil)) (pa_cons (pe_lst pa_nil) (pa_cons (pe_tup pa_nil) pa_nil))))))) (pe_call G_next hr_next rfl g_next F_next.kp b_next .nil pass0 (pa_cons (pv 0) (pa_cons pe_int pa_nil))) (fun _ _ => rfl)))))))))))), ?_⟩
    obtain ⟨a, p1, us, rfl, ha, hp1, hus, hlen⟩ := web_at hW
    have l80 := hok.len
    refine q_asg (v := .int (ss.length : Int)) (ev_is (ev_lenT (ev_op (ev_var rfl) ev_c (rv_ixT (st_of ha) (v := .ref p1) rfl)) (st_of hp1)) (by rw [hlen])) fun H1 e1 => ?_
    have r1 : RD m pc pg cs j H H1 := .ofEx hD e1
    have hxl : (ns.map fun i : Nat => V.int (i : Int)).length = ns.length := List.length_map ..
    refine asg_step ⟨_, rfl, 1, rfl, 10, 20, rfl, rfl, ⟨by decide, by decide, by decide⟩, by show 1 ≤ sizeLine; decide, fun T hT => ⟨by show 1 ≤ sizeLine; decide, fun L0 hL0 => ⟨by show 9 ≤ sizeLine; decide, fun L hL => ?_⟩⟩⟩
    have eT := Ex.new (o := .tup [.int 0]) hT
    have eL0 := Ex.new (o := .lst [.int 0]) hL0
    have eL := Ex.new (o := .lst [.int (ss.length : Int), .int (-1), .bl true, .non, .str "0", .int ((10 : Int) ^ (20 : Int).toNat), .ref T, .ref L0, .bl false]) hL
    have eB := (eT.trans eL0).trans eL
    have inv0 := (RD.ofEx hD ((e1.trans eT).trans eL0)).inv
    obtain ⟨c1, c2⟩ := DS.fresh (RD.ofEx hD (e1.trans eT)).inv hL0
    obtain ⟨b1, b2⟩ := DS.fresh inv0 hL
    have rB : RD m pc pg cs j H _ := .ofEx hD (e1.trans eB)
    have oT := (eL0.trans eL) T (.tup [.int 0]) upd_same
    have oL0 := eL L0 (.lst [.int 0]) upd_same
    have oL : (upd (upd (upd H1 T (.tup [.int 0])) L0 (.lst [.int 0])) L (.lst [.int (ss.length : Int), .int (-1), .bl true, .non, .str "0", .int ((10 : Int) ^ (20 : Int).toNat), .ref T, .ref L0, .bl false])) L = _ := upd_same
    refine ⟨_, rfl, m, pc, pg, cs, j, 9, rfl, rB.inv, by omega, by decide, by decide, fun x H3 x0 x1 r3 => ?_⟩
    obtain ⟨v, o, d, hat, odd⟩ := odd_at (m := m) (pg := pg) (H := H3) l80 ((r3.kp rB.inv).tup oT) (r3.stay c1 c2 oL0) c1 c2 x0 x1
    refine ⟨L, _, x, v, rfl, rfl, sq_of (r3.stay b1 b2 oL), hat, ?_⟩
    have rC : RD m pc pg cs (j + 1) H H3 := rB.then r3
    have hD3 := rC.stay d1 d2 hDl
    refine par_step ⟨_, rfl, _, rfl, D, _, rfl, .inl (sq_of hD3), _, 1, rfl, rfl, m, pc, pg, cs, j + 1, (ns.length : Int) + 1, by rw [hxl]; rfl, rC.inv, by omega, by omega, small_log (by omega), fun t H4 t0 t1 r4 => ⟨_, rfl, _, rfl, _, 1, rfl, rfl, m, pc, pg, cs, j + 1 + 1, (ss.length : Int) + 1, rfl, r4.inv, by omega, by omega, small_log (by omega), fun u H5 u0 u1 r5 => ⟨_, _, rfl, ?_⟩⟩⟩
    obtain ⟨u, rfl⟩ : ∃ u' : Nat, u = (u' : Int) := ⟨u.toNat, by omega⟩
    have rr : RD m pc pg cs (j + 3) H H5 := (rC.then r4).then r5
    have odd5 : OddV m pg H5 v o d := (odd.rd rC.inv r4).rd r4.inv r5
    have hD5 := rr.stay d1 d2 hDl
    have cutI : ∀ lo hi, ∃ ms : List Nat, cutV (ns.map fun i : Nat => V.int (i : Int)) lo hi = (ms.map fun i : Nat => V.int (i : Int)) ∧ ms.length ≤ 13 ∧ ∀ i ∈ ms, i < 1000 := fun lo hi => by
      obtain ⟨ms, h1, h2, h3⟩ := cut_map ns lo hi
      exact ⟨ms, h1, by omega, fun i hi => hns i (h3 i hi)⟩
    have itU : ∀ {G : Hp}, Items K G [.int (u : Int)] [some (u : Int)] [.int (u : Int)] := fun {G} => Items.int (by rw [Int.natAbs_natCast]; exact Nat.lt_of_le_of_lt (by omega : u ≤ 80) (by decide))
    have fin : ∀ {p : Addr} {vs : List V} {os : List (Option Int)} {ds : List PyData} {G : Hp}, Ex H5 G → Items K G vs os ds → G p = some (.lst vs) → vs.length ≤ 28 → Q (.ref p) G := fun {p vs os ds G} eG hI hp hl => q _ (some os) G (RD.up (rr.then (.ofEx rr.inv eG)) (by omega)) (hI.line (q := true) hp hl)
    have slz : ∀ lo hi, (cutV (ns.map fun i : Nat => V.int (i : Int)) lo hi).length ≤ 13 := fun lo hi => Nat.le_trans (cutV_length _ _ _) (by rw [hxl]; exact hl)
    have sz3 : (16777216 : Nat) ≤ sizeLine := by decide
    refine q_when (b := way == 0) (et_test (ev_eqI (ev_var rfl) ev_c)) (fun _ H6 e6 => ?_) (fun _ H6 e6 => ?_)
    · obtain ⟨m1, a1, a2, a3⟩ := cutI none (some t)
      obtain ⟨m2, a4, a5, a6⟩ := cutI (some (t + 1)) none
      have s1 := slz none (some t)
      have s2 := slz (some (t + 1)) none
      refine s_retL (el_cat2 (el_sl (ev_var rfl) eo_none (eo_some (ev_var rfl)) (sq_of (e6 _ _ hD5))) (el_sl (ev_var rfl) (eo_some (ev_op (ev_var rfl) ev_c rv_I0)) eo_none (sq_of (e6 _ _ hD5))) (by omega)) fun p H7 hp e7 h7 => ?_
      rw [a1, a4] at h7
      exact fin (e6.trans e7) ((Items.ints a3).app (Items.ints a6)) h7 (by rw [List.length_append, List.length_map, List.length_map]; omega)
    refine q_when (b := way == 1) (et_test (ev_eqI (ev_var rfl) ev_c)) (fun _ H7 e7 => ?_) (fun _ H7 e7 => ?_)
    · obtain ⟨m1, a1, a2, a3⟩ := cutI none (some t)
      obtain ⟨m2, a4, a5, a6⟩ := cutI (some t) none
      have s1 := slz none (some t)
      have s2 := slz (some t) none
      have e67 := e6.trans e7
      refine s_retL (el_cat2 (el_cat2 (el_sl (ev_var rfl) eo_none (eo_some (ev_var rfl)) (sq_of (e67 _ _ hD5))) (el_lst (ea_cons (ev_var rfl) ea_nil) (by show 1 ≤ 100000; decide)) (by rw [List.length_singleton]; omega)) (el_sl (ev_var rfl) (eo_some (ev_var rfl)) eo_none (sq_of (e67 _ _ hD5))) (by rw [List.length_append, List.length_singleton]; omega)) fun p H8 hp e8 h8 => ?_
      rw [a1, a4] at h8
      exact fin (e67.trans e8) (((Items.ints a3).app itU).app (Items.ints a6)) h8 (by rw [List.length_append, List.length_append, List.length_map, List.length_map, List.length_singleton]; omega)
    refine q_when (b := way == 2) (et_test (ev_eqI (ev_var rfl) ev_c)) (fun _ H8 e8 => ?_) (fun _ H8 e8 => ?_)
    · obtain ⟨m1, a1, a2, a3⟩ := cutI none (some t)
      obtain ⟨m2, a4, a5, a6⟩ := cutI (some (t + 1)) none
      have s1 := slz none (some t)
      have s2 := slz (some (t + 1)) none
      have e68 := (e6.trans e7).trans e8
      refine s_retL (el_cat2 (el_cat2 (el_sl (ev_var rfl) eo_none (eo_some (ev_var rfl)) (sq_of (e68 _ _ hD5))) (el_lst (ea_cons (ev_var rfl) ea_nil) (by show 1 ≤ 100000; decide)) (by rw [List.length_singleton]; omega)) (el_sl (ev_var rfl) (eo_some (ev_op (ev_var rfl) ev_c rv_I0)) eo_none (sq_of (e68 _ _ hD5))) (by rw [List.length_append, List.length_singleton]; omega)) fun p H9 hp e9 h9 => ?_
      rw [a1, a4] at h9
      exact fin (e68.trans e9) (((Items.ints a3).app itU).app (Items.ints a6)) h9 (by rw [List.length_append, List.length_append, List.length_map, List.length_map, List.length_singleton]; omega)
    refine q_when (b := way == 3) (et_test (ev_eqI (ev_var rfl) ev_c)) (fun _ H9 e9 => ?_) (fun _ H9 e9 => ?_)
    · obtain ⟨m1, a1, a2, a3⟩ := cutI none (some t)
      obtain ⟨m2, a4, a5, a6⟩ := cutI (some (t + 1)) none
      have s1 := slz none (some t)
      have s2 := slz (some (t + 1)) none
      have e69 := ((e6.trans e7).trans e8).trans e9
      refine s_retL (el_cat2 (el_cat2 (el_sl (ev_var rfl) eo_none (eo_some (ev_var rfl)) (sq_of (e69 _ _ hD5))) (el_lst (ea_cons (ev_var rfl) ea_nil) (by show 1 ≤ 100000; decide)) (by rw [List.length_singleton]; omega)) (el_sl (ev_var rfl) (eo_some (ev_op (ev_var rfl) ev_c rv_I0)) eo_none (sq_of (e69 _ _ hD5))) (by rw [List.length_append, List.length_singleton]; omega)) fun p H10 hp e10 h10 => ?_
      rw [a1, a4] at h10
      exact fin (e69.trans e10) (((Items.ints a3).app (odd5.ex (e69.trans e10)).items).app (Items.ints a6)) h10 (by rw [List.length_append, List.length_append, List.length_map, List.length_map, List.length_singleton]; omega)
    have e69 := ((e6.trans e7).trans e8).trans e9
    have rD : RD m pc pg cs (j + 3) H H9 := rr.then (.ofEx rr.inv e69)
    refine q_when (b := way == 4) (et_test (ev_eqI (ev_var rfl) ev_c)) (fun _ H10 e10 => ?_) (fun _ H10 e10 => ?_)
    · have rE : RD m pc pg cs (j + 3) H H10 := rD.then (.ofEx rD.inv e10)
      refine ⟨_, rfl, _, rfl, _, rfl, _, 1, rfl, rfl, m, pc, pg, cs, j + 3, (ss.length : Int) + 1, rfl, rE.inv, by omega, by omega, small_log (by omega), fun y H11 y0 y1 r11 => ⟨_, rfl, _, rfl, _, 1, rfl, rfl, m, pc, pg, cs, j + 3 + 1, (ss.length : Int) + 1, rfl, r11.inv, by omega, by omega, small_log (by omega), fun z H12 z0 z1 r12 => ⟨by show 3 ≤ sizeLine; decide, fun Lq hLq => ⟨_, rfl, t, rfl, Lq, _, rfl, sq_of upd_same, fun p hp => ?_⟩⟩⟩⟩
      obtain ⟨y, rfl⟩ : ∃ y' : Nat, y = (y' : Int) := ⟨y.toNat, by omega⟩
      obtain ⟨z, rfl⟩ : ∃ z' : Nat, z = (z' : Int) := ⟨z.toNat, by omega⟩
      obtain ⟨ms, h1, h2, h3⟩ := cut_map [u, y, z] none (some t)
      have h1 : cutV [V.int (u : Int), .int (y : Int), .int (z : Int)] none (some t) = (ms.map fun i : Nat => V.int (i : Int)) := h1
      rw [h1]
      have rF := (rE.then r11).then r12
      refine q _ (some (lineOf ms)) _ (RD.up (rF.then (.ofEx rF.inv ((Ex.new hLq).trans (Ex.new hp)))) (by omega)) ((Items.ints fun i hi => ?_).line (q := true) upd_same (by rw [List.length_map]; exact Nat.le_trans h2 (by show 3 ≤ 28; decide)))
      have : i = u ∨ i = y ∨ i = z := by simpa using h3 i hi
      omega
    have rE : RD m pc pg cs (j + 3) H H10 := rD.then (.ofEx rD.inv e10)
    have hD10 := rE.stay d1 d2 hDl
    have itN : ∀ {G : Hp}, Items K G (ns.map fun i : Nat => V.int (i : Int)) (lineOf ns) (ns.map fun i : Nat => PyData.int (i : Int)) := fun {G} => Items.ints hns
    have shN : ShBA (ns.map fun i : Nat => PyData.int (i : Int)) 1 1963 := (ShBA.all (n := 150) (m := 13 * 151) (fun d hd => by
      obtain ⟨i, hi, rfl⟩ := List.mem_map.mp hd
      exact .int (by rw [Int.natAbs_natCast]; exact Nat.lt_of_lt_of_le (hns i hi) (by decide))) (by rw [List.length_map]; exact Nat.mul_le_mul_right _ hl))
    have shL := ShB.list shN
    have ndL : (PyData.list (ns.map fun i : Nat => PyData.int (i : Int))).hasDict = false := (itN (G := H)).nd
    have dpN : ∀ G : Hp, DpAll K G (ns.map fun i : Nat => V.int (i : Int)) (ns.map fun i : Nat => PyData.int (i : Int)) := fun G => (itN (G := G)).dp G (Ex.refl G)
    refine ⟨_, rfl, _, rfl, by show 1 ≤ sizeLine; decide, fun L1 hL1 => ?_⟩
    have eL1 := Ex.new (o := .lst [.ref D]) hL1
    obtain ⟨p1a, p1b⟩ := DS.fresh hD (RD.back (i := 0) rE hL1)
    refine cons_step (dict_pairs (ev_var rfl) (eL1 _ _ hD10) (by omega) (fun _ => rfl) (fun _ => rfl) hns fun Dd kvs G11 eG hDd0 hDd hkl hkb => ?_)
    have e11 := eL1.trans eG
    obtain ⟨p2a, p2b⟩ := DS.fresh hD (RD.back (i := 0) rE (fresh_back eL1 hDd0))
    refine ⟨_, rfl, D, _, rfl, .lst (sq_of (e11 _ _ hD10)) (dpN _), shL.fs, ndL, Nat.le_trans shL.fd (by decide), shL.fits (by decide), by show 0 ≤ sizeLine; decide, fun L2 hL2 => ⟨by show 0 ≤ sizeLine; decide, fun T2 hT2 => ⟨by show 6 ≤ sizeLine; decide, fun L3 hL3 => ?_⟩⟩⟩
    obtain ⟨zt, hzt⟩ : ∃ zt, zt = PyData.shown (.list (ns.map fun i : Nat => PyData.int (i : Int))) := ⟨_, rfl⟩
    rw [← hzt]
    have eL2 := Ex.new (o := .lst []) hL2
    have eT2 := Ex.new (o := .tup []) hT2
    have eL3 := Ex.new (o := .lst [v, .ref L1, .ref Dd, .str zt, .ref L2, .ref T2]) hL3
    have eF := ((e11.trans eL2).trans eT2).trans eL3
    have rF : RD m pc pg cs (j + 3) H _ := rE.then (.ofEx rE.inv eF)
    obtain ⟨p3a, p3b⟩ := DS.fresh hD (RD.back (i := 0) rE (fresh_back e11 hL2))
    obtain ⟨p4a, p4b⟩ := DS.fresh hD (RD.back (i := 0) rE (fresh_back ((e11.trans eL2).trans eT2) hL3))
    have oD := eF _ _ hD10
    have o1 := ((eG.trans eL2).trans (eT2.trans eL3)) L1 (.lst [.ref D]) upd_same
    have o2 := (eL2.trans (eT2.trans eL3)) Dd _ hDd
    have o3 := (eT2.trans eL3) L2 (.lst []) upd_same
    have o4 := eL3 T2 (.tup []) upd_same
    have o5 : (upd (upd (upd G11 L2 (.lst [])) T2 (.tup [])) L3 (.lst [v, .ref L1, .ref Dd, .str zt, .ref L2, .ref T2])) L3 = _ := upd_same
    have oO := odd5.ex ((e69.trans e10).trans eF)
    generalize (upd (upd (upd G11 L2 (.lst [])) T2 (.tup [])) L3 (.lst [v, .ref L1, .ref Dd, .str zt, .ref L2, .ref T2])) = GF at rF oD o1 o2 o3 o4 o5 oO ⊢
    refine ⟨_, rfl, m, pc, pg, cs, j + 3, 6, rfl, rF.inv, by omega, by decide, by decide, fun x H20 x0 x1 r20 => ?_⟩
    have rZ : RD m pc pg cs (j + 20) H H20 := RD.up (rF.then r20) (by omega)
    have hD20 := r20.stay d1 d2 oD
    have h6 : x = 0 ∨ x = 1 ∨ x = 2 ∨ x = 3 ∨ x = 4 ∨ x = 5 := by omega
    rcases h6 with rfl | rfl | rfl | rfl | rfl | rfl
    · obtain ⟨l, hl⟩ := (oO.rd rF.inv r20).line (K := K)
      exact ⟨L3, _, 0, _, rfl, rfl, sq_of (r20.stay p4a p4b o5), rfl, q _ l _ rZ hl⟩
    · refine ⟨L3, _, 1, _, rfl, rfl, sq_of (r20.stay p4a p4b o5), rfl, q _ (some [none]) _ rZ ((Items.cons (num_lst hD20) (fun H1 e => .lst (sq_of (e _ _ hD20)) (dpN _)) (shL.up (by omega) (by omega)) ndL .nil).line (q := true) (r20.stay p1a p1b o1) (by show 1 ≤ 28; decide))⟩
    · have hd20 := r20.stay p2a p2b o2
      have sd := dict_shb hkb
      exact ⟨L3, _, 2, _, rfl, rfl, sq_of (r20.stay p4a p4b o5), rfl, q _ none _ rZ ⟨⟨_, _, _, tl_dic hd20⟩, _, fun H1 e Q k => .inr (.inr (.inl ⟨Dd, kvs, rfl, e _ _ hd20, sd.fs, Nat.le_trans sd.fd (by decide), sd.fits (by omega), k⟩))⟩⟩
    · have hz : zt.length ≤ 130000 := by
        have a := PyData.shown_le 60 (by decide) _ shL.fl
        have b := shL.fw
        rw [hzt]
        omega
      have hcp : Cp zt := by
        rw [hzt]
        have := cp_list (ns.map fun i : Nat => (i : Int))
        rw [List.map_map] at this
        exact this
      have ss' : ShB (.str zt) 1 130000 := .str hcp hz
      exact ⟨L3, _, 3, _, rfl, rfl, sq_of (r20.stay p4a p4b o5), rfl, q _ none _ rZ ⟨⟨_, _, _, tl_str _⟩, _, fun H1 e Q k => .inr (.inl ⟨zt, rfl, ss'.fits (by decide), k⟩)⟩⟩
    · exact ⟨L3, _, 4, _, rfl, rfl, sq_of (r20.stay p4a p4b o5), rfl, q _ (some []) _ rZ (Items.nil.line (q := true) (r20.stay p3a p3b o3) (Nat.zero_le _))⟩
    · exact ⟨L3, _, 5, _, rfl, rfl, sq_of (r20.stay p4a p4b o5), rfl, q _ (some []) _ rZ (Items.nil.line (q := false) ((r20.kp rF.inv).tup o4) (Nat.zero_le _))⟩
end
end D1
end
section
set_option Elab.async false
set_option linter.all false
set_option maxRecDepth 100000
set_option maxHeartbeats 4000000
/-! LJ: the law -/
namespace D1
open PySem L2 Evl RZ ClX PySem.VX
def spLaw (K : PySem.W.Frag) : Sp := fun vs H Q _ => ∃ (a : Addr) (ns : List Int), vs = [.ref a] ∧ SqL K H a (ns.map V.int) ∧ ns.length ≤ 63 ∧ ∀ H', Q (.bl true) H'
theorem RD.exOf {m pc pg : Addr} {cs : List Int} {j : Nat} {H Hd G : Hp} (e : Ex H Hd) (r : RD m pc pg cs j Hd G) (hm : H m = none) (hg : H pg = none) : Ex H G := fun b o h => r.keep b o (fun hc => by
  rcases hc with rfl | rfl
  · rw [hm] at h
    cases h
  · rw [hg] at h
    cases h) (e b o h)
mutual
theorem dt_nodict' {H : Hp} : ∀ (d : PyData) (v : V), DtAt H v d → d.hasDict = false
  | .tuple ds, _, h => by
    cases h with
    | tup h r => exact dtA_nodict ds _ r
  | .none, _, _ => rfl
  | .bool _, _, _ => rfl
  | .int _, _, _ => rfl
  | .str _, _, _ => rfl
  | .list _, _, h => by cases h
  | .dict _, _, h => by cases h
theorem dtA_nodict {H : Hp} : ∀ (ds : List PyData) (vs : List V), DtAll H vs ds → PyData.hasDictAll ds = false
  | [], _, _ => rfl
  | d :: ds, _, h => by
    cases h with
    | cons h r =>
      show (d.hasDict || PyData.hasDictAll ds) = false
      rw [dt_nodict' d _ h, dtA_nodict ds _ r]
      rfl
end
theorem dt_nodict {H : Hp} {v : V} {d : PyData} (h : DtAt H v d) : d.hasDict = false := dt_nodict' d v h
def big : List Step := [(0, 0, .int (-7))]
theorem big_web : WebOk .least 1 big := ⟨by decide, by decide, by decide, fun s hs => by
  obtain rfl : s = (0, 0, .int (-7)) := by simpa [big] using hs
  exact ⟨by decide, by decide, rfl⟩⟩
theorem big_path : isPathB big (some (List.replicate 300 (some 0))) = true := by decide +kernel
theorem big_prod : prodD .least ((List.replicate 300 (some (0 : Int))).map fun o => (stepN big o).2.2) = .int (-2100) := by rfl
theorem rg9 : ∀ j : Fin 64, Builtin.Range.small 0 (j.val : Int) 9 = true ∧ Builtin.Range.rangeSize 0 (j.val : Int) 9 = (j.val + 8) / 9 := by decide +kernel
theorem num_rep {K : PySem.W.Frag} {H : Hp} : ∀ n : Nat, NumAll K H (List.replicate n (V.int 0)) (List.replicate n (some 0))
  | 0 => True.intro
  | n + 1 => ⟨(DtAt.int 0).num, num_rep n⟩
section
variable {P : Program} {w : World} {K : PySem.W.Frag} {mg : Str → Option Value} {base : Heap}
abbrev s_law : Stmt := top 103
theorem sc_law : FnScope ["_law_script", "_law_k", "_law_draw_here", "_law_way", "_law_size", "_law_made", "_law_base", "_law_net", "_law_kept", "_law_line", "_law_changed_here", "_law_at"] ["_law_script"] (defScope s_law) := ⟨rfl, rfl, rfl, by decide +kernel, rfl, by decide +kernel, by decide +kernel⟩
theorem ok_law {f : Addr} {fd : FuncData} (F : FnP K "law" s_law f fd) {C : KC} {CR cP : Addr} {f_draw : Addr} {fd_draw : FuncData} (F_draw : FnP K "_law_draw" s_draw f_draw fd_draw) (g_draw : mg "_law_draw" = some (.ref f_draw)) (G_draw : FnOk P w K mg base (CX0) 1 f_draw fd_draw ["_law_script", "_law_k"] (spDraw K)) {f_next : Addr} {fd_next : FuncData} (F_next : FnP K "_law_next" s_next f_next fd_next) (g_next : mg "_law_next" = some (.ref f_next)) (G_next : FnOk P w K mg base (CX0) 2 f_next fd_next ["_law_draw_here", "_law_many"] (spNext)) {f_ring : Addr} {fd_ring : FuncData} (F_ring : FnP K "_law_ring" s_ring f_ring fd_ring) (g_ring : mg "_law_ring" = some (.ref f_ring)) (G_ring : FnOk P w K mg base (CX0) 5 f_ring fd_ring ["_law_draw_here", "_law_deep"] (spLRing 3)) {f_ring_of : Addr} {fd_ring_of : FuncData} (F_ring_of : FnP K "ring_of" s_ring_of f_ring_of fd_ring_of) (g_ring_of : mg "ring_of" = some (.ref f_ring_of)) (G_ring_of : FnOk P w K mg base (CX0) 13 f_ring_of fd_ring_of ["made"] (spRingOf C CR)) {f_web : Addr} {fd_web : FuncData} (F_web : FnP K "_law_web" s_web f_web fd_web) (g_web : mg "_law_web" = some (.ref f_web)) (G_web : FnOk P w K mg base (CX0) 8 f_web fd_web ["_law_draw_here", "_law_made", "_law_most", "_law_many"] (spLWeb)) {f_walk : Addr} {fd_walk : FuncData} (F_walk : FnP K "_law_walk" s_walk f_walk fd_walk) (g_walk : mg "_law_walk" = some (.ref f_walk)) (G_walk : FnOk P w K mg base (CX0) 3 f_walk fd_walk ["_law_draw_here", "_law_net", "_law_many"] (spWalk)) {f_changed : Addr} {fd_changed : FuncData} (F_changed : FnP K "_law_changed" s_changed f_changed fd_changed) (g_changed : mg "_law_changed" = some (.ref f_changed)) (G_changed : FnG P w K mg base (CX0) 3 f_changed fd_changed ["_law_draw_here", "_law_net", "_law_line", "_law_way"] (spChanged K)) {f_right : Addr} {fd_right : FuncData} (F_right : FnP K "_law_right" s_right f_right fd_right) (g_right : mg "_law_right" = some (.ref f_right)) (G_right : FnG P w K mg base (CX0) 13 f_right fd_right ["_law_made", "_law_base", "_law_net", "_law_line"] (spRight K C CR)) {f_joined : Addr} {fd_joined : FuncData} (F_joined : FnP K "_law_joined" s_joined f_joined fd_joined) (g_joined : mg "_law_joined" = some (.ref f_joined)) (G_joined : FnOk P w K mg base (CX0) 12 f_joined fd_joined ["_law_made", "_law_base", "_law_net", "_law_line", "_law_at"] (spJoined C CR)) {f_path_weight : Addr} {fd_path_weight : FuncData} (F_path_weight : FnP K "path_weight" s_path_weight f_path_weight fd_path_weight) (g_path_weight : mg "path_weight" = some (.ref f_path_weight)) (G_path_weight : FnOk P w K mg base (L2.CX P w) 11 f_path_weight fd_path_weight ["ring", "web", "path"] (spPW K C CR cP)) (z_len : mg "len" = none) (z_range : mg "range" = none) (z_repr : mg "repr" = none) (z_max : mg "max" = none) (z_min : mg "min" = none) : FnG P w K mg base CX0 14 f fd ["_law_script"] (spLaw K) := by
  have b_draw : Binds K fd_draw ["_law_script", "_law_k"] [] := F_draw.bindsN fun _ _ _ _ _ _ us hl => match us, hl with | [_, _], _ => rfl
  have b_next : Binds K fd_next ["_law_draw_here", "_law_many"] [] := F_next.bindsN fun _ _ _ _ _ _ us hl => match us, hl with | [_, _], _ => rfl
  have b_ring : Binds K fd_ring ["_law_draw_here", "_law_deep"] [] := F_ring.bindsN fun _ _ _ _ _ _ us hl => match us, hl with | [_, _], _ => rfl
  have b_ring_of : Binds K fd_ring_of ["made"] [] := F_ring_of.bindsN fun _ _ _ _ _ _ us hl => match us, hl with | [_], _ => rfl
  have b_web : Binds K fd_web ["_law_draw_here", "_law_made", "_law_most", "_law_many"] [] := F_web.bindsN fun _ _ _ _ _ _ us hl => match us, hl with | [_, _, _, _], _ => rfl
  have b_walk : Binds K fd_walk ["_law_draw_here", "_law_net", "_law_many"] [] := F_walk.bindsN fun _ _ _ _ _ _ us hl => match us, hl with | [_, _, _], _ => rfl
  have b_changed : Binds K fd_changed ["_law_draw_here", "_law_net", "_law_line", "_law_way"] [] := F_changed.bindsN fun _ _ _ _ _ _ us hl => match us, hl with | [_, _, _, _], _ => rfl
  have b_right : Binds K fd_right ["_law_made", "_law_base", "_law_net", "_law_line"] [] := F_right.bindsN fun _ _ _ _ _ _ us hl => match us, hl with | [_, _, _, _], _ => rfl
  have b_joined : Binds K fd_joined ["_law_made", "_law_base", "_law_net", "_law_line", "_law_at"] [] := F_joined.bindsN fun _ _ _ _ _ _ us hl => match us, hl with | [_, _, _, _, _], _ => rfl
  have b_path_weight : Binds K fd_path_weight ["ring", "web", "path"] [] := F_path_weight.bindsN fun _ _ _ _ _ _ us hl => match us, hl with | [_, _, _], _ => rfl
  refine Fun.okG F.asFun sc_law (fun vs H Q E h => ?_) (fun cdv A outer s H vs Q E hr hG h => ?_)
  · obtain ⟨a, ns, rfl, _⟩ := h
    rfl
  · obtain ⟨a, ns, rfl, hS, hl, q⟩ := h
    have hu := hu_of hr
    have hu64 := hr.units
    have hr_draw := hr.mono (by decide : 1 ≤ 13)
    have hr_next := hr.mono (by decide : 2 ≤ 13)
    have hr_ring := hr.mono (by decide : 5 ≤ 13)
    have hr_ring_of := hr.mono (by decide : 13 ≤ 13)
    have hr_web := hr.mono (by decide : 8 ≤ 13)
    have hr_walk := hr.mono (by decide : 3 ≤ 13)
    have hr_changed := hr.mono (by decide : 3 ≤ 13)
    have hr_right := hr.mono (by decide : 13 ≤ 13)
    have hr_joined := hr.mono (by decide : 12 ≤ 13)
    have hr_path_weight := hr.mono (by decide : 11 ≤ 13)
    refine ⟨_, PSs.nox (pss_cons (ps_if (pt_cmpR op_ne (pe_call G_path_weight hr_path_weight rfl g_path_weight F_path_weight.kp b_path_weight .nil passNo (pa_cons (pe_call G_ring_of hr_ring_of rfl g_ring_of F_ring_of.kp b_ring_of .nil pass0 (pa_cons (pe_tup (pa_cons pe_str pa_nil)) pa_nil)) (pa_cons (pe_tup (pa_cons pe_int (pa_cons (pe_tup (pa_cons (pe_tup (pa_cons pe_int (pa_cons pe_int (pa_cons (pe_un un_neg pe_int) pa_nil)))) pa_nil)) pa_nil))) (pa_cons (pe_op op_rep (pe_lst (pa_cons pe_int pa_nil)) pe_int) pa_nil)))) (pe_un un_neg pe_int) (nomark _)) (pss_one (ps_ret pe_bl)) pss_nil)
      (pss_cons (ps_for PassesOwn.never rfl (pi_range3 rfl z_range (pa_cons pe_int (pa_cons (pe_callB (call_max2 rfl) (by rfl) z_max PyProof.Rows.boot_max (pa_cons pe_int (pa_cons (pe_callB (call_min2 rfl) (by rfl) z_min PyProof.Rows.boot_min (pa_cons pe_int (pa_cons (pe_callB call_len_seq (by rfl) z_len PySem.boot_len (pa_cons (pv 0) pa_nil)) pa_nil))) pa_nil))) (pa_cons pe_int pa_nil)))) (pg_name (i := 1) sc_law.nd rfl (Or.inl rfl)) (pss_cons (ps_set (i := 2) sc_law.nd rfl (Or.inl rfl) (pe_call G_draw hr_draw rfl g_draw F_draw.kp b_draw .nil pass0 (pa_cons (pv 0) (pa_cons (pv 1) pa_nil))))
      (pss_cons (ps_par (i := 3) (j := 4) (by rfl) sc_law.nd rfl rfl (by decide) rfl rfl (pa_cons (pe_call G_next hr_next rfl g_next F_next.kp b_next .nil pass0 (pa_cons (pv 2) (pa_cons pe_int pa_nil))) (pa_cons (pe_op op_fdiv (pe_call G_next hr_next rfl g_next F_next.kp b_next .nil pass0 (pa_cons (pv 2) (pa_cons pe_int pa_nil))) pe_int) pa_nil)) (by rfl))
      (pss_cons (ps_set (i := 5) sc_law.nd rfl (Or.inl rfl) (pe_call G_ring hr_ring rfl g_ring F_ring.kp b_ring .nil pass0 (pa_cons (pv 2) (pa_cons pe_int pa_nil))))
      (pss_cons (ps_par (i := 6) (j := 7) (by rfl) sc_law.nd rfl rfl (by decide) rfl rfl (pa_cons (pe_call G_ring_of hr_ring_of rfl g_ring_of F_ring_of.kp b_ring_of .nil pass0 (pa_cons (pv 5) pa_nil)) (pa_cons (pe_call G_web hr_web rfl g_web F_web.kp b_web .nil pass0 (pa_cons (pv 2) (pa_cons (pv 5) (pa_cons (pe_ix ix_list (pe_lst (pa_cons pe_int (pa_cons pe_int pa_nil))) (pv 4) (fun _ _ => rfl)) (pa_cons (pe_ix ix_list (pe_lst (pa_cons pe_int (pa_cons pe_int pa_nil))) (pv 4) (fun _ _ => rfl)) pa_nil))))) pa_nil)) (by rfl))
      (pss_cons (ps_set (i := 8) sc_law.nd rfl (Or.inl rfl) (pe_callB (call_reprB hG hu64) (by rfl) z_repr (by decide +kernel) (pa_cons (pv 7) pa_nil)))
      (pss_cons (ps_set (i := 9) sc_law.nd rfl (Or.inl rfl) (pe_call G_walk hr_walk rfl g_walk F_walk.kp b_walk .nil pass0 (pa_cons (pv 2) (pa_cons (pv 7) (pa_cons (pe_call G_next hr_next rfl g_next F_next.kp b_next .nil pass0 (pa_cons (pv 2) (pa_cons pe_int pa_nil))) pa_nil)))))
      (pss_cons (ps_set (i := 10) sc_law.nd rfl (Or.inl rfl) (pe_callG G_changed hr_changed hG rfl g_changed F_changed.kp b_changed .nil pass0 (pa_cons (pv 2) (pa_cons (pv 7) (pa_cons (pv 9) (pa_cons (pv 3) pa_nil))))))
      (pss_cons (ps_if (PW.pt (pw_or (pt_not (pt_val (pe_callG G_right hr_right hG rfl g_right F_right.kp b_right .nil pass0 (pa_cons (pv 5) (pa_cons (pv 6) (pa_cons (pv 7) (pa_cons (pv 9) pa_nil))))))) (pw_or1 (pt_not (pt_val (pe_callG G_right hr_right hG rfl g_right F_right.kp b_right .nil pass0 (pa_cons (pv 5) (pa_cons (pv 6) (pa_cons (pv 7) (pa_cons (pv 10) pa_nil)))))))))) (pss_one (ps_ret pe_bl)) pss_nil)
      (pss_cons (ps_set (i := 11) sc_law.nd rfl (Or.inl rfl) (pe_op op_add pe_int (pe_call G_next hr_next rfl g_next F_next.kp b_next .nil pass0 (pa_cons (pv 2) (pa_cons (pe_callB (call_max2 rfl) (by rfl) z_max PyProof.Rows.boot_max (pa_cons pe_int (pa_cons (pe_op op_sub (pe_callB call_len_seq (by rfl) z_len PySem.boot_len (pa_cons (pv 9) pa_nil)) pe_int) pa_nil))) pa_nil)))))
      (pss_one (ps_if (PW.pt (pw_or (PW.pt (pw_and (pt_cmpR op_gt (pe_callB call_len_seq (by rfl) z_len PySem.boot_len (pa_cons (pv 9) pa_nil)) pe_int (nomark _)) (pw_and1 (pt_not (pt_val (pe_call G_joined hr_joined rfl g_joined F_joined.kp b_joined .nil pass0 (pa_cons (pv 5) (pa_cons (pv 6) (pa_cons (pv 7) (pa_cons (pv 9) (pa_cons (pv 11) pa_nil))))))))))) (pw_or1 (pt_cmpR op_ne (pe_callB (call_reprB hG hu64) (by rfl) z_repr (by decide +kernel) (pa_cons (pv 7) pa_nil)) (pv 8) (nomark _))))) (pss_one (ps_ret pe_bl)) pss_nil))))))))))))
      (pss_one (ps_ret pe_bl)))), ?_⟩
    refine q_when (b := false) (et_is (et_test (b := false) (fun H0 e0 Q' k' => ?_)) rfl) (fun hb => (by cases hb)) (fun _ H1 e1 => ?_)
    · refine ⟨by show 1 ≤ sizeLine; decide, fun t ht => ⟨.ref t, .least, rfl, .new ht (.cons (.str _) .nil), True.intro, by decide, fun r H2 e2 hR => ⟨7, rfl, by show 3 ≤ sizeLine; decide, fun s1 hs1 => ⟨by show 1 ≤ sizeLine; decide, fun s2 hs2 => ⟨by show 2 ≤ sizeLine; decide, fun wv hwv => ⟨by show 1 ≤ sizeLine; decide, fun l0 hl0 => ⟨l0, 300, [.int 0], rfl, rfl, upd_same, by decide, by decide, by decide, fun pl hpl => ?_⟩⟩⟩⟩⟩⟩⟩
      have eA := Ex.new (o := .tup [.int 0, .int 0, .int (-7)]) hs1
      have eB := Ex.new (o := .tup [.ref s1]) hs2
      have eC := Ex.new (o := .tup [.int 1, .ref s2]) hwv
      have eD := Ex.new (o := .lst [.int 0]) hl0
      have eE := Ex.new (o := .lst (List.replicate (300 : Int).toNat [V.int 0]).flatten) hpl
      have d1 : DtAt _ (.ref s1) (stepD (0, 0, .int (-7))) := .new hs1 (.cons (.int 0) (.cons (.int 0) (.cons (.int (-7)) .nil)))
      have d2 : DtAt _ (.ref s2) (.tuple (big.map stepD)) := .new hs2 (.cons d1 .nil)
      have d3 : DtAt _ (.ref wv) (webD 1 big) := .new hwv (.cons (.int 1) (.cons d2 .nil))
      have hfl : (List.replicate (300 : Int).toNat [V.int 0]).flatten = List.replicate 300 (V.int 0) := by rfl
      refine ⟨r, .ref wv, .ref pl, .least, 1, big, some (List.replicate 300 (some 0)), 4, rfl, hR.ex ((((eA.trans eB).trans eC).trans eD).trans eE), by decide, True.intro, d3.ex (eD.trans eE), big_web, fun s hs => ?_, by decide, by decide, by show 12 + (List.replicate 300 (some (0 : Int))).length * 4 ≤ 4000; rw [List.length_replicate]; decide, ⟨pl, true, _, rfl, upd_same, by rw [hfl]; exact num_rep 300, by rw [List.length_replicate]; decide⟩, fun h => ?_, fun os ho _ _ x H3 e3 hx => ?_⟩
      · obtain rfl : s = (0, 0, .int (-7)) := by simpa [big] using hs
        show (-7 : Int).natAbs < 2 ^ 4
        decide
      · rcases h with h | h
        · rw [big_path] at h
          cases h
        · have h : (List.replicate 300 (some (0 : Int))).length = 0 := h
          rw [List.length_replicate] at h
          cases h
      · obtain rfl := Option.some.inj ho
        rw [big_prod] at hx
        obtain rfl := hx.int_inv
        exact ⟨2100, rfl, rfl, k' _ (((Ex.new ht).trans e2).trans (((((eA.trans eB).trans eC).trans eD).trans eE).trans e3))⟩
    have hS1 := ex_l e1 hS
    obtain ⟨u, hu1, hu2, hu3⟩ : ∃ u : Fin 64, (if (if ((ns.map V.int).length : Int) < 63 then ((ns.map V.int).length : Int) else 63) > 1 then (if ((ns.map V.int).length : Int) < 63 then ((ns.map V.int).length : Int) else 63) else 1) = (u.val : Int) ∧ 1 ≤ u.val ∧ (ns ≠ [] → u.val ≤ ns.length) := by
      rw [List.length_map]
      rcases Nat.eq_zero_or_pos ns.length with h0 | h0
      · refine ⟨1, ?_, by decide, fun h => absurd (List.length_eq_zero_iff.mp h0) h⟩
        rw [h0]
        rfl
      · refine ⟨⟨ns.length, by omega⟩, ?_, h0, fun _ => Nat.le_refl _⟩
        show _ = (ns.length : Int)
        split <;> split <;> omega
    refine ⟨_, rfl, a, _, rfl, .inl hS1, 63, _, rfl, 1, _, rfl, 0, _, 9, (u.val + 8) / 9, rfl, ?_, ?_⟩
    · rw [hu1]
      exact ⟨by decide, by decide, (rg9 u).1, (rg9 u).2⟩
    refine for_it (walk_rangeC (lo := 0) (c := 9) (n := (u.val + 8) / 9)) (fun i σ' G => ∃ s1 s2 s3 s4 s5 s6 s7 s8 s9 s10 s11, σ' = [some (.ref a), s1, s2, s3, s4, s5, s6, s7, s8, s9, s10, s11] ∧ Ex H1 G) ⟨_, _, _, _, _, _, _, _, _, _, _, rfl, Ex.refl H1⟩ (fun _ _ _ _ _ => True.intro) ?_ (fun σ' G _ => q G)
    rintro i x σ' _ G hi ⟨s1, s2, s3, s4, s5, s6, s7, s8, s9, s10, s11, rfl, eG⟩ ⟨rfl, rfl⟩
    have hk : 9 * i < u.val := by omega
    have u63 : u.val ≤ 63 := by omega
    have hkc : (0 : Int) + (i : Int) * 9 = ((9 * i : Nat) : Int) := by omega
    refine asg_step ⟨_, rfl, _, rfl, a, ns, 9 * i, congrArg (fun z => [V.ref a, V.int z]) hkc, ex_l eG hS1, hl, fun h => Nat.lt_of_lt_of_le hk (hu3 h), by omega, fun m pc pg cs H2 e2 hm hpc hpg hD => ?_⟩
    obtain ⟨j, hj⟩ : ∃ j, j = 64 * (9 * i) := ⟨_, rfl⟩
    rw [← hj] at hD
    have hj2 : j ≤ 4032 := by omega
    refine par_step ⟨_, rfl, m, pc, pg, cs, j, 6, rfl, hD, by omega, by decide, by decide, fun way H3 w0 w1 r3 => ⟨_, rfl, m, pc, pg, cs, j + 1, 8, rfl, r3.inv, by omega, by decide, by decide, fun sz H4 z0 z1 r4 => ⟨sz, 7, rfl, rfl, ⟨by decide, by decide⟩, _, _, rfl, ?_⟩⟩⟩
    have rA : RD m pc pg cs (j + 2) H2 H4 := r3.then r4
    refine asg_step ⟨_, rfl, m, pc, pg, cs, j + 2, 2, rfl, by decide, rA.inv, by show j + 2 + 15 ≤ 100000; omega, fun kd v H5 ok dk r5 hv => ?_⟩
    have rB : RD m pc pg cs (j + 17) H2 H5 := rA.then r5
    obtain ⟨mo, ma, at1, at2, mo1, mo2, ma2⟩ : ∃ mo ma : Nat, atI [V.int 4, .int 12] (sz / 7) = some (.int (mo : Int)) ∧ atI [V.int 8, .int 30] (sz / 7) = some (.int (ma : Int)) ∧ 1 ≤ mo ∧ mo ≤ 12 ∧ ma ≤ 80 := by
      have h7 : sz / 7 = 0 ∨ sz / 7 = 1 := by omega
      rcases h7 with h | h
      · rw [h]
        exact ⟨4, 8, rfl, rfl, by decide, by decide, by decide⟩
      · rw [h]
        exact ⟨12, 30, rfl, rfl, by decide, by decide, by decide⟩
    refine par_step ⟨_, rfl, v, kd, rfl, hv, ok, by omega, fun r H6 e6 hR => ⟨_, rfl, _, rfl, by show 2 ≤ sizeLine; decide, fun l1 hl1 => ⟨_, rfl, l1, _, sz / 7, .int (mo : Int), rfl, rfl, sq_of upd_same, at1, by show 2 ≤ sizeLine; decide, fun l2 hl2 => ⟨_, rfl, l2, _, sz / 7, .int (ma : Int), rfl, rfl, sq_of upd_same, at2, ?_⟩⟩⟩⟩
    have e67 := (e6.trans (Ex.new (o := .lst [.int 4, .int 12]) hl1)).trans (Ex.new (o := .lst [.int 8, .int 30]) hl2)
    have rC := rB.then (.ofEx rB.inv e67)
    refine ⟨m, pc, pg, cs, j + 17, v, kd, mo, ma, rfl, rC.inv, by omega, hv.ex e67, by omega, ok, mo1, mo2, ma2, fun nv n ss H7 r7 hW hok hsz hn hss => ⟨_, _, rfl, ?_⟩⟩
    have rD : RD m pc pg cs (j + 2017) H2 H7 := (rC.then r7).up (by omega)
    have kp57 : Kp H5 H7 := (Kp.ex e67).trans (r7.kp rC.inv)
    have hM7 := hv.kp kp57
    have hR7 := hR.kp ((Kp.ex ((Ex.new (o := .lst [.int 4, .int 12]) hl1).trans (Ex.new (o := .lst [.int 8, .int 30]) hl2))).trans (r7.kp rC.inv))
    obtain ⟨zw, hzw⟩ : ∃ zw, zw = PyData.shown (webD n ss) := ⟨_, rfl⟩
    have shw := web_shb (by omega) hok hsz
    obtain ⟨aw, pw1, us, hnv, _⟩ := web_at hW
    have rep : ∀ {G : Hp} {Q' : VK}, DtAt G nv (webD n ss) → Q' (.str zw) G → rReprB K [nv] G Q' := fun {G Q'} hg k => by
      subst hzw
      subst hnv
      exact .inl ⟨aw, _, rfl, hg.dp, shw.fs, dt_nodict hg, Nat.le_trans shw.fd (by decide), shw.fits (by decide), k⟩
    refine q_asg (v := .str zw) (ev_cb (ea_cons (ev_var rfl) ea_nil) fun H8 e8 Q' q' => rep (hW.ex e8) (q' H8 (Ex.refl H8))) fun H8 e8 => ?_
    have rE : RD m pc pg cs (j + 2017) H2 H8 := rD.then (.ofEx rD.inv e8)
    have hW8 := hW.ex e8
    refine asg_step ⟨_, rfl, _, rfl, _, rfl, m, pc, pg, cs, j + 2017, 13, rfl, rE.inv, by omega, by decide, by decide, fun mw H9 m0 m1 r9 => ?_⟩
    have rF : RD m pc pg cs (j + 2018) H2 H9 := rE.then r9
    have kp89 := r9.kp rE.inv
    refine ⟨m, pc, pg, cs, j + 2018, nv, n, ss, kd, mw.toNat, congrArg (fun z => [V.ref m, nv, V.int z]) (by omega : mw = (mw.toNat : Int)), rF.inv, by omega, hW8.kp kp89, hok, by omega, fun D ls here H10 hDn hDl hdl wk r10 => ?_⟩
    have rG : RD m pc pg cs (j + 2038) H2 H10 := rF.then r10
    obtain ⟨d1, d2⟩ := DS.fresh rF.inv hDn
    have kp8 : Kp H8 H10 := kp89.trans (r10.kp rF.inv)
    have l80 := hok.len
    have ls13 : ls.length ≤ 13 := by omega
    have lsb : ∀ i ∈ ls, i < 1000 := fun i hi => by
      have := wk.lt i hi
      omega
    have hlink : Linked ss ls := ⟨wk.lt, wk.link⟩
    refine asg_step ⟨_, rfl, _, rfl, _, rfl, _, rfl, m, pc, pg, cs, j + 2038, nv, D, way, n, ss, kd, ls, rfl, rG.inv, by omega, hW8.kp kp8, hok, hDl, d1, d2, ls13, lsb, fun x l H11 r11 hLx => ?_⟩
    have rH : RD m pc pg cs (j + 2058) H2 H11 := rG.then r11
    have kp11 : Kp H8 H11 := kp8.trans (r11.kp rG.inv)
    have hD11 := r11.stay d1 d2 hDl
    have hM11 := (hM7.ex e8).kp kp11
    have hR11 := (hR7.ex e8).kp kp11
    have hW11 := hW8.kp kp11
    have hL11 : LineAt K H11 (.ref D) (some (lineOf ls)) := (Items.ints lsb).line (q := true) hD11 (by rw [List.length_map]; omega)
    refine q_when (b := false) (et_is (et_or (a := false) (b := false) (et_is (et_not (et_B (ev_call (z := .bl true) (ea_cons (ev_var rfl) (ea_cons (ev_var rfl) (ea_cons (ev_var rfl) (ea_cons (ev_var rfl) ea_nil)))) fun H12 e12 Q' k' E' => ⟨v, r, nv, .ref D, kd, n, ss, _, rfl, hM11.ex e12, hR11.ex e12, by omega, ok, hW11.ex e12, hok, hsz, hL11.up e12, fun H' e' => k' H' e'⟩))) rfl) (fun _ => et_is (et_not (et_B (ev_call (z := .bl true) (ea_cons (ev_var rfl) (ea_cons (ev_var rfl) (ea_cons (ev_var rfl) (ea_cons (ev_var rfl) ea_nil)))) fun H12 e12 Q' k' E' => ⟨v, r, nv, x, kd, n, ss, l, rfl, hM11.ex e12, hR11.ex e12, by omega, ok, hW11.ex e12, hok, hsz, hLx.up e12, fun H' e' => k' H' e'⟩))) rfl)) rfl) (fun hb => (by cases hb)) (fun _ H12 e12 => ?_)
    have rI : RD m pc pg cs (j + 2058) H2 H12 := rH.then (.ofEx rH.inv e12)
    have hD12 := e12 _ _ hD11
    have hxl : (ls.map fun i : Nat => V.int (i : Int)).length = ls.length := List.length_map ..
    obtain ⟨mx, hmx, mx1, mx2⟩ : ∃ mx : Int, (if ((ls.map fun i : Nat => V.int (i : Int)).length : Int) - 1 > 1 then ((ls.map fun i : Nat => V.int (i : Int)).length : Int) - 1 else 1) = mx ∧ 0 < mx ∧ (1 < ls.length → mx ≤ (ls.length : Int) - 1) ∧ mx ≤ 100 := by
      rw [hxl]
      refine ⟨_, rfl, ?_, fun h => ?_, ?_⟩ <;> split <;> omega
    refine asg_step ⟨_, rfl, _, rfl, D, _, rfl, .inl (sq_of hD12), _, 1, rfl, rfl, 1, _, rfl, m, pc, pg, cs, j + 2058, mx, congrArg (fun z => [V.ref m, V.int z]) hmx, rI.inv, by omega, mx1, small_log (by omega), fun t H13 t0 t1 r13 => ⟨1, t, rfl, rfl, ?_⟩⟩
    have rJ : RD m pc pg cs (j + 2059) H2 H13 := rI.then r13
    have kp13 : Kp H11 H13 := (Kp.ex e12).trans (r13.kp rI.inv)
    have hD13 := r13.stay d1 d2 hD12
    have hM13 := hM11.kp kp13
    have hR13 := hR11.kp kp13
    have hW13 := hW11.kp kp13
    refine s_when (b := false) (et_is (et_or (a := false) (b := false) (et_is (et_and (b := false) (et_test (ev_gtI (ev_is (ev_lenQ (q := true) (ev_var rfl) (.inl ⟨rfl, sq_of hD13⟩)) (by rw [hxl])) ev_c)) fun hb => et_is (et_not (et_B (ev_call (z := .bl true) (ea_cons (ev_var rfl) (ea_cons (ev_var rfl) (ea_cons (ev_var rfl) (ea_cons (ev_var rfl) (ea_cons (ev_var rfl) ea_nil))))) fun H14 e14 Q' k' E' => ?_))) rfl) (Bool.and_false _)) (fun _ => et_test (ev_neS (ev_cb (ea_cons (ev_var rfl) ea_nil) fun H14 e14 Q' q' => rep (hW13.ex e14) (q' H14 (Ex.refl H14))) (ev_var rfl)))) rfl) (fun hb => (by cases hb)) (fun _ H14 e14 => ?_)
    · have hb1 : (1 : Int) < (ls.length : Int) := of_decide_eq_true hb
      have := mx2.1 (by omega)
      exact ⟨v, r, nv, D, (1 + t).toNat, kd, n, ss, ls, congrArg (fun z => [v, r, nv, V.ref D, V.int z]) (by omega : (1 : Int) + t = ((1 + t).toNat : Int)), hM13.ex e14, hR13.ex e14, by omega, ok, hW13.ex e14, hok, hsz, e14 _ _ hD13, hlink, by omega, by omega, by omega, fun H' e' => k' H' e'⟩
    · exact ⟨_, _, _, _, _, _, _, _, _, _, _, rfl, RD.exOf (eG.trans e2) (rJ.then (.ofEx rJ.inv e14)) (fresh_back eG hm) (fresh_back eG hpg)⟩
end
end D1
end
section
set_option Elab.async false
set_option linter.all false
set_option maxRecDepth 100000
set_option maxHeartbeats 4000000
/-! K16: what is asked of the written part, as one Bool -/
namespace D1
open PySem L2 PySem.VX Evl
theorem xbB_ok {K : PySem.W.Frag} {C : Addr} {bmB : List Value} {newId : String} {fn : List Str} (h : xbB K C bmB newId fn = true) : XB K bmB newId C fn := by
  unfold xbB at h
  obtain ⟨h1, h⟩ := Bool.and_eq_true_iff.mp h
  obtain ⟨h2, h⟩ := Bool.and_eq_true_iff.mp h
  obtain ⟨h3, h⟩ := Bool.and_eq_true_iff.mp h
  obtain ⟨h4, h⟩ := Bool.and_eq_true_iff.mp h
  obtain ⟨h5, h⟩ := Bool.and_eq_true_iff.mp h
  obtain ⟨h6, h⟩ := Bool.and_eq_true_iff.mp h
  obtain ⟨h7, h⟩ := Bool.and_eq_true_iff.mp h
  obtain ⟨h8, h⟩ := Bool.and_eq_true_iff.mp h
  obtain ⟨h9, h⟩ := Bool.and_eq_true_iff.mp h
  obtain ⟨h10, h⟩ := Bool.and_eq_true_iff.mp h
  obtain ⟨h11, h12⟩ := Bool.and_eq_true_iff.mp h
  exact ⟨h1, h2, h3, of_decide_eq_true h4, of_decide_eq_true h5, of_decide_eq_true h6, of_decide_eq_true h7, of_decide_eq_true h8, fun f hf => of_decide_eq_true (List.all_eq_true.mp h9 f hf), h10, of_decide_eq_true h11, of_decide_eq_true h12⟩
section
variable {prog : Program} {w : World} {K : PySem.W.Frag} {mg : Str → Option Value} {C fI : Addr} {bmB : List Value} {B newId initId : String} {qual nm : Str} {fd : FuncData}
theorem own_what (FB : ExcBaseFacts B newId initId bmB) (SF : StoreFacts B bmB "object.__setattr__" "object") (T : XB K bmB newId C [("what" : Str)]) (g : mg nm = some (.ref C)) (iC : PySem.W.findIn K (.ref C) "__init__" = some (some (.ref fI))) (tI : PySem.W.typeIn K (.ref fI) = some (.type "function"))
    (D : Ini1 K fI qual "what" fd) : OwnX prog w K mg nm C [("what" : Str)] := by
  have bp : ∀ (s : Shared) (x v : Value), BindsTo s fd ⟨[x, v], []⟩ [("self", x), ("what", v)] := fun s x v => by
    obtain ⟨oc, od, doc, pm, an, cdv, ct, osl, p1, p2, q1, q2, q3, q4, rfl, _⟩ := D.ex
    exact .of_eq (by first | rfl | with_unfolding_all rfl)
  have bk : ∀ (s : Shared) (x v : Value), BindsTo s fd ⟨[x], [("what", v)]⟩ [("self", x), ("what", v)] := fun s x v => by
    obtain ⟨oc, od, doc, pm, an, cdv, ct, osl, p1, p2, q1, q2, q3, q4, rfl, _⟩ := D.ex
    exact .of_eq (by first | rfl | with_unfolding_all rfl)
  refine ⟨g, ⟨bmB, B, newId, initId, fI, FB, T, iC, tI, fun us hl => ?_, fun us hl => ?_⟩, by decide⟩
  · match us, hl with
    | [v], _ => exact fun A R s x t0 X hlim hx hnx hroom hq => init_what SF T D X hlim hx hroom (bp s _ v) hq
  · match us, hl with
    | [v], _ => exact fun A R s x t0 X hlim hx hnx hroom hq => init_what SF T D X hlim hx hroom (bk s _ v) hq
theorem own_why (FB : ExcBaseFacts B newId initId bmB) (SF : StoreFacts B bmB "object.__setattr__" "object") (T : XB K bmB newId C [("why" : Str)]) (g : mg nm = some (.ref C)) (iC : PySem.W.findIn K (.ref C) "__init__" = some (some (.ref fI))) (tI : PySem.W.typeIn K (.ref fI) = some (.type "function"))
    (D : Ini1 K fI qual "why" fd) : OwnX prog w K mg nm C [("why" : Str)] := by
  have bp : ∀ (s : Shared) (x v : Value), BindsTo s fd ⟨[x, v], []⟩ [("self", x), ("why", v)] := fun s x v => by
    obtain ⟨oc, od, doc, pm, an, cdv, ct, osl, p1, p2, q1, q2, q3, q4, rfl, _⟩ := D.ex
    exact .of_eq (by first | rfl | with_unfolding_all rfl)
  have bk : ∀ (s : Shared) (x v : Value), BindsTo s fd ⟨[x], [("why", v)]⟩ [("self", x), ("why", v)] := fun s x v => by
    obtain ⟨oc, od, doc, pm, an, cdv, ct, osl, p1, p2, q1, q2, q3, q4, rfl, _⟩ := D.ex
    exact .of_eq (by first | rfl | with_unfolding_all rfl)
  refine ⟨g, ⟨bmB, B, newId, initId, fI, FB, T, iC, tI, fun us hl => ?_, fun us hl => ?_⟩, by decide⟩
  · match us, hl with
    | [v], _ => exact fun A R s x t0 X hlim hx hnx hroom hq => init_why SF T D X hlim hx hroom (bp s _ v) hq
  · match us, hl with
    | [v], _ => exact fun A R s x t0 X hlim hx hnx hroom hq => init_why SF T D X hlim hx hroom (bk s _ v) hq
theorem own_two (FB : ExcBaseFacts B newId initId bmB) (SF : StoreFacts B bmB "object.__setattr__" "object") (T : XB K bmB newId C [("rule" : Str), ("things" : Str)]) (g : mg nm = some (.ref C)) (iC : PySem.W.findIn K (.ref C) "__init__" = some (some (.ref fI))) (tI : PySem.W.typeIn K (.ref fI) = some (.type "function"))
    (D : Ini2 K fI qual fd) : OwnX prog w K mg nm C [("rule" : Str), ("things" : Str)] := by
  have bp : ∀ (s : Shared) (x v u : Value), BindsTo s fd ⟨[x, v, u], []⟩ [("self", x), ("rule", v), ("things", u)] := fun s x v u => by
    obtain ⟨oc, od, doc, pm, an, cdv, ct, osl, p1, p2, p3, q1, q2, q3, q4, r1, r2, r3, r4, rfl, _⟩ := D.ex
    exact .of_eq (by first | rfl | with_unfolding_all rfl)
  have bk : ∀ (s : Shared) (x v u : Value), BindsTo s fd ⟨[x], [("things", u), ("rule", v)]⟩ [("self", x), ("rule", v), ("things", u)] := fun s x v u => by
    obtain ⟨oc, od, doc, pm, an, cdv, ct, osl, p1, p2, p3, q1, q2, q3, q4, r1, r2, r3, r4, rfl, _⟩ := D.ex
    exact .of_eq (by first | rfl | with_unfolding_all rfl)
  refine ⟨g, ⟨bmB, B, newId, initId, fI, FB, T, iC, tI, fun us hl => ?_, fun us hl => ?_⟩, by decide⟩
  · match us, hl with
    | [v, u], _ => exact fun A R s x t0 X hlim hx hnx hroom hq => init_two SF T D X hlim hx hnx hroom (bp s _ v u) hq
  · match us, hl with
    | [u, v], _ => exact fun A R s x t0 X hlim hx hnx hroom hq => init_two SF T D X hlim hx hnx hroom (bk s _ v u) hq
end
open He
theorem kwN_ok {K : PySem.W.Frag} {p : Str × Option Str} {oc : Value} {od : Option Addr} {osl : Array (Option Value)} {x q : Str} {pa : Arguments} {b : List Stmt} {sc : Scope} {dV kV doc pm cd ct : Value} {an : Option Addr}
    (lk : K.lookup (fAd K p) = some ⟨oc, od, .func (PySem.W.fnOf x q pa b sc dV kV doc pm an cd ct), osl⟩) (h : kwN K p = true) : kV = .none := by
  unfold kwN at h
  rw [lk] at h
  cases kV with
  | none => rfl
  | _ => cases h
theorem exc_of {K : PySem.W.Frag} {C : Addr} {bm : List Value} {nw : String} {fn : List Str} (T : XB K bm nw C fn) (h : excB K = true) : ExcC K C := by
  obtain ⟨c1, c2⟩ := Bool.and_eq_true_iff.mp h
  exact ⟨T.ga, T.gg, T.exc, T.hd, T.ca, of_decide_eq_true c1, of_decide_eq_true c2, T.mo⟩
/-- the tuple at a -/
theorem tupK_ok {K : PySem.W.Frag} {a : Addr} {vs : List V} (h : tupK K a vs = true) (H : Hp) : SqT K H a vs := by
  unfold tupK at h
  cases q : K.lookup a with
  | none =>
    rw [q] at h
    cases h
  | some o =>
    obtain ⟨oc, od, dt, osl⟩ := o
    rw [q] at h
    cases oc with
    | type c =>
      cases dt with
      | seq its n =>
        obtain ⟨h1, h2⟩ := ba (show (decide (c = "tuple") && (decide (its.size ≤ sizeLine) && relAll vs its.toList)) = true from h)
        obtain ⟨h3, h4⟩ := ba h2
        exact .inr ⟨_, its, n, q, congrArg Value.type (of_decide_eq_true h1), rfl, of_decide_eq_true h3, relAll_ok h4⟩
      | _ => cases h
    | _ => cases dt <;> cases h
/-- what the written part says of the sizes: the first of five tuples' place is that of lot -/
theorem sizes_of {K : PySem.W.Frag} {w : World} {mg : Str → Option Value} {es : Array DictEntry} {n : Nat} (g : mg "_SIZES" = some (.ref (ga K "_SIZES"))) (D : KDict K w (ga K "_SIZES") es n) (h : sizesB K = true) : SizesC K w mg (ga K "_SIZES") es n (lotA K) := by
  obtain ⟨h1, h⟩ := ba h
  obtain ⟨h2, h3⟩ := ba h
  refine ⟨g, D, fun k hk => ?_, eqO_ok h2, tupK_ok h3⟩
  refine eqO_ok (List.all_eq_true.mp h1 _ ?_)
  cases k with
  | lot n => exact absurd rfl (hk n)
  | _ => simp [nameOf]
theorem okC_of {K : PySem.W.Frag} {x : Str} (c : (Fa.cls x).ok K = true) (h : noB K x = true) : OkC K (ga K x) := ⟨cls_ok c, fun f hf => eqO_ok (List.all_eq_true.mp h f hf)⟩
theorem meth_of {K : PySem.W.Frag} {x m : Str} {p : Str × Option Str} (h : methB K x m p = true) : Meth K (ga K x) m (fAd K p) := by
  obtain ⟨h1, h⟩ := ba h
  obtain ⟨h2, h3⟩ := ba h
  exact ⟨eqO_ok h1, h2, h3⟩
theorem mths_of {K : PySem.W.Frag} (h : mthsB K = true) (x m c : Str) (hm : (x, m, c) ∈ mths) : Meth K (ga K x) m (fAd K (c, some m)) := meth_of (List.all_eq_true.mp h _ hm)
theorem base_of {K : PySem.W.Frag} {mg : Str → Option Value} {x : Str} {p : Str × Option Str} (g : mg x = some (.ref (ga K x))) (h : baseB K x p = true) : BaseI K mg x (fAd K p) := by
  obtain ⟨h1, h⟩ := ba h
  obtain ⟨h2, h3⟩ := ba h
  refine ⟨_, _, g, ⟨h1, eqO_ok h2⟩, ?_⟩
  cases q : PySem.W.findCls K (.ref (ga K x)) (.type "type") "__init__" with
  | none =>
    rw [q] at h3
    cases h3
  | some r =>
    rw [q] at h3
    cases r with
    | val u =>
      cases u with
      | ref a =>
        have e : a = fAd K p := of_decide_eq_true h3
        subst e
        exact ⟨q, rfl⟩
      | _ => cases h3
    | _ => cases h3
theorem fams_of {K : PySem.W.Frag} {mg : Str → Option Value} {cP cW cB aF : Addr} (gP : mg "BadPath" = some (.ref cP)) (gW : mg "BadWeb" = some (.ref cW)) (gB : mg "BadRing" = some (.ref cB)) (gF : mg "Refused" = some (.ref aF)) {bm : List Value} {nw : String} {fn : List Str} (XP : XB K bm nw cP fn) (hx : excB K = true) (h : famB K cP cW cB aF = true) : FamP K mg cP cW cB aF := by
  unfold famB at h
  simp only [Bool.and_eq_true, decide_eq_true_eq] at h
  obtain ⟨hpf, hpp, hpw, hpb⟩ := h
  exact { gP := gP, gW := gW, gB := gB, gF := gF, eP := exc_of XP hx, pf := hpf, pp := hpp, pw := hpw, pb := hpb }
theorem ring_of16 {K : PySem.W.Frag} (ok : OkC K (ga K "Ring")) (hx : excB K = true) (h : ringB K = true) : RingF K (ga K "Ring") := by
  obtain ⟨c1, c2⟩ := Bool.and_eq_true_iff.mp hx
  obtain ⟨h1, h⟩ := ba h
  obtain ⟨h2, h3⟩ := ba h
  exact { ok := ok, hgn := of_decide_eq_true c1, htk := of_decide_eq_true c2, hcl := eqO_ok h1, hmo := of_decide_eq_true h2, rr := of_decide_eq_true h3 }
/-- the classes of kinds -/
theorem kc_of {K : PySem.W.Frag} (h : kcB K = true) (hc : ∀ x ∈ (["Truth", "Count", "Bounded", "Narrow", "Share", "Lot", "Pair"] : List Str), (Fa.cls x).ok K = true) : ClsK K (kcOf K) := by
  obtain ⟨h1, h2⟩ := ba h
  refine ⟨of_decide_eq_true h1, fun c hcm => ?_⟩
  have hm : ∃ x ∈ (["Truth", "Count", "Bounded", "Narrow", "Share", "Lot", "Pair"] : List Str), c = ga K x := by
    have : c = ga K "Truth" ∨ c = ga K "Count" ∨ c = ga K "Bounded" ∨ c = ga K "Narrow" ∨ c = ga K "Share" ∨ c = ga K "Lot" ∨ c = ga K "Pair" := by simpa [KC.all, kcOf] using hcm
    rcases this with h | h | h | h | h | h | h
    · exact ⟨_, by simp, h⟩
    · exact ⟨_, by simp, h⟩
    · exact ⟨_, by simp, h⟩
    · exact ⟨_, by simp, h⟩
    · exact ⟨_, by simp, h⟩
    · exact ⟨_, by simp, h⟩
    · exact ⟨_, by simp, h⟩
  obtain ⟨x, hx, rfl⟩ := hm
  exact okC_of (hc x hx) (List.all_eq_true.mp h2 x hx)
end D1
end
section
set_option Elab.async false
set_option linter.all false
set_option maxRecDepth 100000
set_option maxHeartbeats 4000000
/-! S16: the end -/
namespace D1
open PySem PySem.Spec PyProof.Rows L2 PySem.VX
theorem ini1_BadPath {K : PySem.W.Frag} {fd : FuncData} (F : FnM K "BadPath" "__init__" (meth 9 0) (He.fAd K ("BadPath", some "__init__")) fd) (h : kwN K ("BadPath", some "__init__") = true) : Ini1 K (He.fAd K ("BadPath", some "__init__")) ("BadPath" ++ "." ++ "__init__") "why" fd := by
  obtain ⟨oc, od, dV, kV, doc, pm, an, cdv, ct, osl, rfl, lk, hcd, hD, _⟩ := F.ex
  obtain rfl := kwN_ok lk h
  rcases hD with ⟨_, rfl⟩ | ⟨hn, _⟩
  · exact ⟨⟨oc, od, doc, pm, an, cdv, ct, osl, _, _, _, _, _, _, rfl, lk, hcd⟩⟩
  · exact absurd rfl hn
theorem facts {P : Program} {w : World} {K : PySem.W.Frag} {h : Heap} {mg : Str → Option Value} {f : Addr} (X : K.In h) (G : h.Ns mainGlobals mg) (hfa : mg ("law" : Str) = some (.ref f)) (cc : W16.SaysL w K) :
    ∃ fd : FuncData, (∀ (s : Shared) (v : Value), BindsTo s fd ⟨[v], []⟩ [("_law_script", v)]) ∧ ∀ base : Heap, K.In base → base.Ns mainGlobals mg → FnG P w K mg base CX0 14 f fd ["_law_script"] (spLaw K) := by
  have c : He.SaysD W16.fa W16.fn K := cc.d
  obtain ⟨fd__wall, F__wall⟩ := c.def_ 0 rfl
  obtain ⟨fd_product_of, F_product_of⟩ := c.def_ 1 rfl
  obtain ⟨fd_many_of, F_many_of⟩ := c.def_ 2 rfl
  obtain ⟨fd_power_of, F_power_of⟩ := c.def_ 3 rfl
  obtain ⟨fd_is_number, F_is_number⟩ := c.def_ 4 rfl
  obtain ⟨fd_is_whole, F_is_whole⟩ := c.def_ 5 rfl
  obtain ⟨fd__gathered, F__gathered⟩ := c.def_ 6 rfl
  obtain ⟨fd__summed, F__summed⟩ := c.def_ 7 rfl
  obtain ⟨fd_kind_of, F_kind_of⟩ := c.def_ 8 rfl
  obtain ⟨fd__sized_kind, F__sized_kind⟩ := c.def_ 9 rfl
  obtain ⟨fd__bare_kind, F__bare_kind⟩ := c.def_ 10 rfl
  obtain ⟨fd__need_count, F__need_count⟩ := c.def_ 11 rfl
  obtain ⟨fd_need_ring, F_need_ring⟩ := c.def_ 12 rfl
  obtain ⟨fd_need_web, F_need_web⟩ := c.def_ 13 rfl
  obtain ⟨fd__is_web, F__is_web⟩ := c.def_ 14 rfl
  obtain ⟨fd__is_step, F__is_step⟩ := c.def_ 15 rfl
  obtain ⟨fd_is_path, F_is_path⟩ := c.def_ 16 rfl
  obtain ⟨fd_path_weight, F_path_weight⟩ := c.def_ 17 rfl
  obtain ⟨fd__sum_turned, F__sum_turned⟩ := c.def_ 18 rfl
  obtain ⟨fd__sum_joined, F__sum_joined⟩ := c.def_ 19 rfl
  obtain ⟨fd__zero, F__zero⟩ := c.def_ 20 rfl
  obtain ⟨fd__product_turned, F__product_turned⟩ := c.def_ 21 rfl
  obtain ⟨fd__product_joined, F__product_joined⟩ := c.def_ 22 rfl
  obtain ⟨fd__one, F__one⟩ := c.def_ 23 rfl
  obtain ⟨fd__nought, F__nought⟩ := c.def_ 24 rfl
  obtain ⟨fd__spread, F__spread⟩ := c.def_ 25 rfl
  obtain ⟨fd__joined, F__joined⟩ := c.def_ 26 rfl
  obtain ⟨fd_first_broken, F_first_broken⟩ := c.def_ 27 rfl
  obtain ⟨fd__rows, F__rows⟩ := c.def_ 28 rfl
  obtain ⟨fd_ring_of, F_ring_of⟩ := c.def_ 29 rfl
  obtain ⟨fd__has_form, F__has_form⟩ := c.def_ 30 rfl
  obtain ⟨fd__are_tables, F__are_tables⟩ := c.def_ 31 rfl
  obtain ⟨fd__is_table, F__is_table⟩ := c.def_ 32 rfl
  obtain ⟨fd__is_row, F__is_row⟩ := c.def_ 33 rfl
  obtain ⟨fd__tables, F__tables⟩ := c.def_ 34 rfl
  obtain ⟨fd_mixed, F_mixed⟩ := c.def_ 35 rfl
  obtain ⟨fd_draw, F_draw⟩ := c.def_ 36 rfl
  obtain ⟨fd_next, F_next⟩ := c.def_ 37 rfl
  obtain ⟨fd_ring, F_ring⟩ := c.def_ 38 rfl
  obtain ⟨fd_zero, F_zero⟩ := c.def_ 39 rfl
  obtain ⟨fd_one, F_one⟩ := c.def_ 40 rfl
  obtain ⟨fd_lowest, F_lowest⟩ := c.def_ 41 rfl
  obtain ⟨fd_times, F_times⟩ := c.def_ 42 rfl
  obtain ⟨fd_weight, F_weight⟩ := c.def_ 43 rfl
  obtain ⟨fd_turned, F_turned⟩ := c.def_ 44 rfl
  obtain ⟨fd_web, F_web⟩ := c.def_ 45 rfl
  obtain ⟨fd_same, F_same⟩ := c.def_ 46 rfl
  obtain ⟨fd_walk, F_walk⟩ := c.def_ 47 rfl
  obtain ⟨fd_changed, F_changed⟩ := c.def_ 48 rfl
  obtain ⟨fd_lispath, F_lispath⟩ := c.def_ 49 rfl
  obtain ⟨fd_due, F_due⟩ := c.def_ 50 rfl
  obtain ⟨fd_told, F_told⟩ := c.def_ 51 rfl
  obtain ⟨fd_right, F_right⟩ := c.def_ 52 rfl
  obtain ⟨fd_joined, F_joined⟩ := c.def_ 53 rfl
  obtain ⟨fd_law, F_law⟩ := c.def_ 54 rfl
  obtain ⟨fd_Kind_init, F_Kind_init⟩ := c.def_ 55 rfl
  obtain ⟨fd_Counted_init, F_Counted_init⟩ := c.def_ 56 rfl
  obtain ⟨fd_Count_init, F_Count_init⟩ := c.def_ 57 rfl
  obtain ⟨fd_Narrow_init, F_Narrow_init⟩ := c.def_ 58 rfl
  obtain ⟨fd_Bounded_init, F_Bounded_init⟩ := c.def_ 59 rfl
  obtain ⟨fd_Truth_init, F_Truth_init⟩ := c.def_ 60 rfl
  obtain ⟨fd_Share_init, F_Share_init⟩ := c.def_ 61 rfl
  obtain ⟨fd_Lot_init, F_Lot_init⟩ := c.def_ 62 rfl
  obtain ⟨fd_Pair_init, F_Pair_init⟩ := c.def_ 63 rfl
  obtain ⟨fd_Ring_init, F_Ring_init⟩ := c.def_ 64 rfl
  obtain ⟨fd_Kind_text, F_Kind_text⟩ := c.def_ 65 rfl
  obtain ⟨fd_Kind_zero, F_Kind_zero⟩ := c.def_ 66 rfl
  obtain ⟨fd_Kind_one, F_Kind_one⟩ := c.def_ 67 rfl
  obtain ⟨fd_Endless_closed, F_Endless_closed⟩ := c.def_ 68 rfl
  obtain ⟨fd_Topped_closed, F_Topped_closed⟩ := c.def_ 69 rfl
  obtain ⟨fd_Pair_closed, F_Pair_closed⟩ := c.def_ 70 rfl
  obtain ⟨fd_Counted_fits, F_Counted_fits⟩ := c.def_ 71 rfl
  obtain ⟨fd_Bounded_fits, F_Bounded_fits⟩ := c.def_ 72 rfl
  obtain ⟨fd_Counted_good, F_Counted_good⟩ := c.def_ 73 rfl
  obtain ⟨fd_Truth_good, F_Truth_good⟩ := c.def_ 74 rfl
  obtain ⟨fd_Share_good, F_Share_good⟩ := c.def_ 75 rfl
  obtain ⟨fd_Lot_good, F_Lot_good⟩ := c.def_ 76 rfl
  obtain ⟨fd_Pair_good, F_Pair_good⟩ := c.def_ 77 rfl
  obtain ⟨fd_Truth_times, F_Truth_times⟩ := c.def_ 78 rfl
  obtain ⟨fd_Count_times, F_Count_times⟩ := c.def_ 79 rfl
  obtain ⟨fd_Bounded_times, F_Bounded_times⟩ := c.def_ 80 rfl
  obtain ⟨fd_Narrow_times, F_Narrow_times⟩ := c.def_ 81 rfl
  obtain ⟨fd_Share_times, F_Share_times⟩ := c.def_ 82 rfl
  obtain ⟨fd_Lot_times, F_Lot_times⟩ := c.def_ 83 rfl
  obtain ⟨fd_Pair_times, F_Pair_times⟩ := c.def_ 84 rfl
  obtain ⟨fd_Ring_kind, F_Ring_kind⟩ := c.def_ 85 rfl
  obtain ⟨fd_Ring_is_closed, F_Ring_is_closed⟩ := c.def_ 86 rfl
  obtain ⟨fd_Ring_good, F_Ring_good⟩ := c.def_ 87 rfl
  obtain ⟨fd_BadPath_init, F_BadPath_init⟩ := c.def_ 88 rfl
  have g__wall := He.glo_ok X G (c.fact 0 (f := .glo "_wall") rfl)
  have g_product_of := He.glo_ok X G (c.fact 1 (f := .glo "product_of") rfl)
  have g_many_of := He.glo_ok X G (c.fact 2 (f := .glo "many_of") rfl)
  have g_power_of := He.glo_ok X G (c.fact 3 (f := .glo "power_of") rfl)
  have g_is_number := He.glo_ok X G (c.fact 4 (f := .glo "is_number") rfl)
  have g_is_whole := He.glo_ok X G (c.fact 5 (f := .glo "is_whole") rfl)
  have g__gathered := He.glo_ok X G (c.fact 6 (f := .glo "_gathered") rfl)
  have g__summed := He.glo_ok X G (c.fact 7 (f := .glo "_summed") rfl)
  have g_kind_of := He.glo_ok X G (c.fact 8 (f := .glo "kind_of") rfl)
  have g__sized_kind := He.glo_ok X G (c.fact 9 (f := .glo "_sized_kind") rfl)
  have g__bare_kind := He.glo_ok X G (c.fact 10 (f := .glo "_bare_kind") rfl)
  have g__need_count := He.glo_ok X G (c.fact 11 (f := .glo "_need_count") rfl)
  have g_need_ring := He.glo_ok X G (c.fact 12 (f := .glo "need_ring") rfl)
  have g_need_web := He.glo_ok X G (c.fact 13 (f := .glo "need_web") rfl)
  have g__is_web := He.glo_ok X G (c.fact 14 (f := .glo "_is_web") rfl)
  have g__is_step := He.glo_ok X G (c.fact 15 (f := .glo "_is_step") rfl)
  have g_is_path := He.glo_ok X G (c.fact 16 (f := .glo "is_path") rfl)
  have g_path_weight := He.glo_ok X G (c.fact 17 (f := .glo "path_weight") rfl)
  have g__sum_turned := He.glo_ok X G (c.fact 18 (f := .glo "_sum_turned") rfl)
  have g__sum_joined := He.glo_ok X G (c.fact 19 (f := .glo "_sum_joined") rfl)
  have g__zero := He.glo_ok X G (c.fact 20 (f := .glo "_zero") rfl)
  have g__product_turned := He.glo_ok X G (c.fact 21 (f := .glo "_product_turned") rfl)
  have g__product_joined := He.glo_ok X G (c.fact 22 (f := .glo "_product_joined") rfl)
  have g__one := He.glo_ok X G (c.fact 23 (f := .glo "_one") rfl)
  have g__nought := He.glo_ok X G (c.fact 24 (f := .glo "_nought") rfl)
  have g__spread := He.glo_ok X G (c.fact 25 (f := .glo "_spread") rfl)
  have g__joined := He.glo_ok X G (c.fact 26 (f := .glo "_joined") rfl)
  have g_first_broken := He.glo_ok X G (c.fact 27 (f := .glo "first_broken") rfl)
  have g__rows := He.glo_ok X G (c.fact 28 (f := .glo "_rows") rfl)
  have g_ring_of := He.glo_ok X G (c.fact 29 (f := .glo "ring_of") rfl)
  have g__has_form := He.glo_ok X G (c.fact 30 (f := .glo "_has_form") rfl)
  have g__are_tables := He.glo_ok X G (c.fact 31 (f := .glo "_are_tables") rfl)
  have g__is_table := He.glo_ok X G (c.fact 32 (f := .glo "_is_table") rfl)
  have g__is_row := He.glo_ok X G (c.fact 33 (f := .glo "_is_row") rfl)
  have g__tables := He.glo_ok X G (c.fact 34 (f := .glo "_tables") rfl)
  have g_mixed := He.glo_ok X G (c.fact 35 (f := .glo "_law_mixed") rfl)
  have g_draw := He.glo_ok X G (c.fact 36 (f := .glo "_law_draw") rfl)
  have g_next := He.glo_ok X G (c.fact 37 (f := .glo "_law_next") rfl)
  have g_ring := He.glo_ok X G (c.fact 38 (f := .glo "_law_ring") rfl)
  have g_zero := He.glo_ok X G (c.fact 39 (f := .glo "_law_zero") rfl)
  have g_one := He.glo_ok X G (c.fact 40 (f := .glo "_law_one") rfl)
  have g_lowest := He.glo_ok X G (c.fact 41 (f := .glo "_law_lowest") rfl)
  have g_times := He.glo_ok X G (c.fact 42 (f := .glo "_law_times") rfl)
  have g_weight := He.glo_ok X G (c.fact 43 (f := .glo "_law_weight") rfl)
  have g_turned := He.glo_ok X G (c.fact 44 (f := .glo "_law_turned") rfl)
  have g_web := He.glo_ok X G (c.fact 45 (f := .glo "_law_web") rfl)
  have g_same := He.glo_ok X G (c.fact 46 (f := .glo "_law_same") rfl)
  have g_walk := He.glo_ok X G (c.fact 47 (f := .glo "_law_walk") rfl)
  have g_changed := He.glo_ok X G (c.fact 48 (f := .glo "_law_changed") rfl)
  have g_lispath := He.glo_ok X G (c.fact 49 (f := .glo "_law_is_path") rfl)
  have g_due := He.glo_ok X G (c.fact 50 (f := .glo "_law_due") rfl)
  have g_told := He.glo_ok X G (c.fact 51 (f := .glo "_law_told") rfl)
  have g_right := He.glo_ok X G (c.fact 52 (f := .glo "_law_right") rfl)
  have g_joined := He.glo_ok X G (c.fact 53 (f := .glo "_law_joined") rfl)
  have g_law := He.glo_ok X G (c.fact 54 (f := .glo "law") rfl)
  have g_Refused := He.glo_ok X G (c.fact 55 (f := .glo "Refused") rfl)
  have g_BadRing := He.glo_ok X G (c.fact 56 (f := .glo "BadRing") rfl)
  have g_BadTable := He.glo_ok X G (c.fact 57 (f := .glo "BadTable") rfl)
  have g_BadWeight := He.glo_ok X G (c.fact 58 (f := .glo "BadWeight") rfl)
  have g_BadNumber := He.glo_ok X G (c.fact 59 (f := .glo "BadNumber") rfl)
  have g_BadWeb := He.glo_ok X G (c.fact 60 (f := .glo "BadWeb") rfl)
  have g_BadPath := He.glo_ok X G (c.fact 61 (f := .glo "BadPath") rfl)
  have g_Unreckoned := He.glo_ok X G (c.fact 62 (f := .glo "Unreckoned") rfl)
  have g_NoStar := He.glo_ok X G (c.fact 63 (f := .glo "NoStar") rfl)
  have g_NotClosed := He.glo_ok X G (c.fact 64 (f := .glo "NotClosed") rfl)
  have g_Kind := He.glo_ok X G (c.fact 65 (f := .glo "Kind") rfl)
  have g_Counted := He.glo_ok X G (c.fact 66 (f := .glo "Counted") rfl)
  have g_Endless := He.glo_ok X G (c.fact 67 (f := .glo "Endless") rfl)
  have g_Count := He.glo_ok X G (c.fact 68 (f := .glo "Count") rfl)
  have g_Bounded := He.glo_ok X G (c.fact 69 (f := .glo "Bounded") rfl)
  have g_Narrow := He.glo_ok X G (c.fact 70 (f := .glo "Narrow") rfl)
  have g_Finite := He.glo_ok X G (c.fact 71 (f := .glo "Finite") rfl)
  have g_Rest := He.glo_ok X G (c.fact 72 (f := .glo "Rest") rfl)
  have g_Table := He.glo_ok X G (c.fact 73 (f := .glo "Table") rfl)
  have g_Pair := He.glo_ok X G (c.fact 74 (f := .glo "Pair") rfl)
  have g_Terms := He.glo_ok X G (c.fact 75 (f := .glo "Terms") rfl)
  have g_Topped := He.glo_ok X G (c.fact 76 (f := .glo "Topped") rfl)
  have g_Truth := He.glo_ok X G (c.fact 77 (f := .glo "Truth") rfl)
  have g_Share := He.glo_ok X G (c.fact 78 (f := .glo "Share") rfl)
  have g_Lot := He.glo_ok X G (c.fact 79 (f := .glo "Lot") rfl)
  have g_Ring := He.glo_ok X G (c.fact 80 (f := .glo "Ring") rfl)
  obtain ⟨t_LONG, g_LONG⟩ := He.int_ok X G (c.fact 81 (f := .int "LONG" 60) rfl)
  obtain ⟨t_STATES, g_STATES⟩ := He.int_ok X G (c.fact 82 (f := .int "_STATES" 12) rfl)
  obtain ⟨t_STEPS, g_STEPS⟩ := He.int_ok X G (c.fact 83 (f := .int "_STEPS" 80) rfl)
  obtain ⟨t_PAIRS, g_PAIRS⟩ := He.int_ok X G (c.fact 84 (f := .int "_PAIRS" 3) rfl)
  have z_ArithmeticError := He.free_ok X G (c.fact 85 (f := .free "ArithmeticError") rfl)
  have z_ValueError := He.free_ok X G (c.fact 86 (f := .free "ValueError") rfl)
  have z_all := He.free_ok X G (c.fact 87 (f := .free "all") rfl)
  have z_bool := He.free_ok X G (c.fact 88 (f := .free "bool") rfl)
  have z_dict := He.free_ok X G (c.fact 89 (f := .free "dict") rfl)
  have z_enumerate := He.free_ok X G (c.fact 90 (f := .free "enumerate") rfl)
  have z_int := He.free_ok X G (c.fact 91 (f := .free "int") rfl)
  have z_isinstance := He.free_ok X G (c.fact 92 (f := .free "isinstance") rfl)
  have z_len := He.free_ok X G (c.fact 93 (f := .free "len") rfl)
  have z_list := He.free_ok X G (c.fact 94 (f := .free "list") rfl)
  have z_max := He.free_ok X G (c.fact 95 (f := .free "max") rfl)
  have z_min := He.free_ok X G (c.fact 96 (f := .free "min") rfl)
  have z_range := He.free_ok X G (c.fact 97 (f := .free "range") rfl)
  have z_repr := He.free_ok X G (c.fact 98 (f := .free "repr") rfl)
  have z_sorted := He.free_ok X G (c.fact 99 (f := .free "sorted") rfl)
  have z_str := He.free_ok X G (c.fact 100 (f := .free "str") rfl)
  have z_tuple := He.free_ok X G (c.fact 101 (f := .free "tuple") rfl)
  have z_zip := He.free_ok X G (c.fact 102 (f := .free "zip") rfl)
  have g__BARE := He.glo_ok X G (c.fact 103 (f := .glo "_BARE") rfl)
  have g__SIZES := He.glo_ok X G (c.fact 104 (f := .glo "_SIZES") rfl)
  have c_Truth := c.fact 105 (f := .cls "Truth") rfl
  have c_Count := c.fact 106 (f := .cls "Count") rfl
  have c_Bounded := c.fact 107 (f := .cls "Bounded") rfl
  have c_Narrow := c.fact 108 (f := .cls "Narrow") rfl
  have c_Share := c.fact 109 (f := .cls "Share") rfl
  have c_Lot := c.fact 110 (f := .cls "Lot") rfl
  have c_Pair := c.fact 111 (f := .cls "Pair") rfl
  have c_Ring := c.fact 112 (f := .cls "Ring") rfl
  have M_Truth := He.mkr_ok (c.fact 113 (f := .mkr "Truth") rfl)
  have M_Count := He.mkr_ok (c.fact 114 (f := .mkr "Count") rfl)
  have M_Bounded := He.mkr_ok (c.fact 115 (f := .mkr "Bounded") rfl)
  have M_Narrow := He.mkr_ok (c.fact 116 (f := .mkr "Narrow") rfl)
  have M_Share := He.mkr_ok (c.fact 117 (f := .mkr "Share") rfl)
  have M_Lot := He.mkr_ok (c.fact 118 (f := .mkr "Lot") rfl)
  have M_Pair := He.mkr_ok (c.fact 119 (f := .mkr "Pair") rfl)
  have M_Ring := He.mkr_ok (c.fact 120 (f := .mkr "Ring") rfl)
  have hex := cc.more
  obtain ⟨x_BP, hex⟩ := Bool.and_eq_true_iff.mp hex
  obtain ⟨i_BP, hex⟩ := Bool.and_eq_true_iff.mp hex
  obtain ⟨x_E, hex⟩ := Bool.and_eq_true_iff.mp hex
  obtain ⟨x_F, hex⟩ := Bool.and_eq_true_iff.mp hex
  obtain ⟨x_G, hex⟩ := Bool.and_eq_true_iff.mp hex
  obtain ⟨n_R, hex⟩ := Bool.and_eq_true_iff.mp hex
  obtain ⟨x_K, hex⟩ := Bool.and_eq_true_iff.mp hex
  obtain ⟨x_S, hex⟩ := Bool.and_eq_true_iff.mp hex
  obtain ⟨x_B, hex⟩ := Bool.and_eq_true_iff.mp hex
  obtain ⟨x_M, hex⟩ := Bool.and_eq_true_iff.mp hex
  obtain ⟨x_gcd, hex⟩ := Bool.and_eq_true_iff.mp hex
  obtain ⟨b_K, hex⟩ := Bool.and_eq_true_iff.mp hex
  obtain ⟨b_To, b_En⟩ := Bool.and_eq_true_iff.mp hex
  have XP := xbB_ok x_BP
  obtain ⟨y1, i_BP⟩ := Bool.and_eq_true_iff.mp i_BP
  obtain ⟨y2, y3⟩ := Bool.and_eq_true_iff.mp i_BP
  have O_BadPath : OwnX P w K mg "BadPath" (He.ga K "BadPath") [("why" : Str)] := own_why F.excBase_ValueError F.store_ValueError XP g_BadPath (of_decide_eq_true y2) (of_decide_eq_true y3) (ini1_BadPath F_BadPath_init y1)
  have TF := fams_of g_BadPath g_BadWeb g_BadRing g_Refused XP x_E x_F
  have okR := okC_of c_Ring n_R
  have TR := ring_of16 okR x_E x_G
  have T := kc_of x_K (fun x hx => by
    have hx : x = "Truth" ∨ x = "Count" ∨ x = "Bounded" ∨ x = "Narrow" ∨ x = "Share" ∨ x = "Lot" ∨ x = "Pair" := by simpa using hx
    rcases hx with rfl | rfl | rfl | rfl | rfl | rfl | rfl <;> assumption)
  have BA : BareK K mg (He.ga K "_BARE") := ⟨g__BARE, tupK_ok x_B⟩
  obtain ⟨es, nS, KD⟩ := He.dicW_ok cc.tab
  have SZ := sizes_of g__SIZES KD x_S
  have MM := mths_of x_M
  have B_Kind := base_of g_Kind b_K
  have B_Topped := base_of g_Topped b_To
  have B_Endless := base_of g_Endless b_En
  have g_gcd : mg "gcd" = some (.builtin "math.gcd") := PySem.W.mg_of X G (He.eqO_ok x_gcd)
  have b_Kind_init : L2.Binds K fd_Kind_init ["self", "text", "zero", "one"] [] := F_Kind_init.bindsN fun _ _ _ _ _ _ us hl => match us, hl with | [_, _, _, _], _ => rfl
  have b_Counted_init : L2.Binds K fd_Counted_init ["self", "text", "zero", "one", "others"] [] := F_Counted_init.bindsN fun _ _ _ _ _ _ us hl => match us, hl with | [_, _, _, _, _], _ => rfl
  have b_Count_init : L2.Binds K fd_Count_init ["self"] [] := F_Count_init.bindsN fun _ _ _ _ _ _ us hl => match us, hl with | [_], _ => rfl
  have b_Narrow_init : L2.Binds K fd_Narrow_init ["self"] [] := F_Narrow_init.bindsN fun _ _ _ _ _ _ us hl => match us, hl with | [_], _ => rfl
  have b_Bounded_init : L2.Binds K fd_Bounded_init ["self", "text", "sign"] [] := F_Bounded_init.bindsN fun _ _ _ _ _ _ us hl => match us, hl with | [_, _, _], _ => rfl
  have b_Truth_init : L2.Binds K fd_Truth_init ["self"] [] := F_Truth_init.bindsN fun _ _ _ _ _ _ us hl => match us, hl with | [_], _ => rfl
  have b_Share_init : L2.Binds K fd_Share_init ["self"] [] := F_Share_init.bindsN fun _ _ _ _ _ _ us hl => match us, hl with | [_], _ => rfl
  have b_Lot_init : L2.Binds K fd_Lot_init ["self", "size"] [] := F_Lot_init.bindsN fun _ _ _ _ _ _ us hl => match us, hl with | [_, _], _ => rfl
  have b_Pair_init : L2.Binds K fd_Pair_init ["self", "left", "right"] [] := F_Pair_init.bindsN fun _ _ _ _ _ _ us hl => match us, hl with | [_, _, _], _ => rfl
  have b_Ring_init : L2.Binds K fd_Ring_init ["self", "made"] [] := F_Ring_init.bindsN fun _ _ _ _ _ _ us hl => match us, hl with | [_, _], _ => rfl
  have b_Kind_text : L2.Binds K fd_Kind_text ["self"] [] := F_Kind_text.bindsN fun _ _ _ _ _ _ us hl => match us, hl with | [_], _ => rfl
  have b_Kind_zero : L2.Binds K fd_Kind_zero ["self"] [] := F_Kind_zero.bindsN fun _ _ _ _ _ _ us hl => match us, hl with | [_], _ => rfl
  have b_Kind_one : L2.Binds K fd_Kind_one ["self"] [] := F_Kind_one.bindsN fun _ _ _ _ _ _ us hl => match us, hl with | [_], _ => rfl
  have b_Endless_closed : L2.Binds K fd_Endless_closed ["self"] [] := F_Endless_closed.bindsN fun _ _ _ _ _ _ us hl => match us, hl with | [_], _ => rfl
  have b_Topped_closed : L2.Binds K fd_Topped_closed ["self"] [] := F_Topped_closed.bindsN fun _ _ _ _ _ _ us hl => match us, hl with | [_], _ => rfl
  have b_Pair_closed : L2.Binds K fd_Pair_closed ["self"] [] := F_Pair_closed.bindsN fun _ _ _ _ _ _ us hl => match us, hl with | [_], _ => rfl
  have b_Counted_fits : L2.Binds K fd_Counted_fits ["self", "number"] [] := F_Counted_fits.bindsN fun _ _ _ _ _ _ us hl => match us, hl with | [_, _], _ => rfl
  have b_Bounded_fits : L2.Binds K fd_Bounded_fits ["self", "number"] [] := F_Bounded_fits.bindsN fun _ _ _ _ _ _ us hl => match us, hl with | [_, _], _ => rfl
  have b_Counted_good : L2.Binds K fd_Counted_good ["self", "thing"] [] := F_Counted_good.bindsN fun _ _ _ _ _ _ us hl => match us, hl with | [_, _], _ => rfl
  have b_Truth_good : L2.Binds K fd_Truth_good ["self", "thing"] [] := F_Truth_good.bindsN fun _ _ _ _ _ _ us hl => match us, hl with | [_, _], _ => rfl
  have b_Share_good : L2.Binds K fd_Share_good ["self", "thing"] [] := F_Share_good.bindsN fun _ _ _ _ _ _ us hl => match us, hl with | [_, _], _ => rfl
  have b_Lot_good : L2.Binds K fd_Lot_good ["self", "thing"] [] := F_Lot_good.bindsN fun _ _ _ _ _ _ us hl => match us, hl with | [_, _], _ => rfl
  have b_Pair_good : L2.Binds K fd_Pair_good ["self", "thing"] [] := F_Pair_good.bindsN fun _ _ _ _ _ _ us hl => match us, hl with | [_, _], _ => rfl
  have b_Truth_times : L2.Binds K fd_Truth_times ["self", "a", "b"] [] := F_Truth_times.bindsN fun _ _ _ _ _ _ us hl => match us, hl with | [_, _, _], _ => rfl
  have b_Count_times : L2.Binds K fd_Count_times ["self", "a", "b"] [] := F_Count_times.bindsN fun _ _ _ _ _ _ us hl => match us, hl with | [_, _, _], _ => rfl
  have b_Bounded_times : L2.Binds K fd_Bounded_times ["self", "a", "b"] [] := F_Bounded_times.bindsN fun _ _ _ _ _ _ us hl => match us, hl with | [_, _, _], _ => rfl
  have b_Narrow_times : L2.Binds K fd_Narrow_times ["self", "a", "b"] [] := F_Narrow_times.bindsN fun _ _ _ _ _ _ us hl => match us, hl with | [_, _, _], _ => rfl
  have b_Share_times : L2.Binds K fd_Share_times ["self", "a", "b"] [] := F_Share_times.bindsN fun _ _ _ _ _ _ us hl => match us, hl with | [_, _, _], _ => rfl
  have b_Lot_times : L2.Binds K fd_Lot_times ["self", "a", "b"] [] := F_Lot_times.bindsN fun _ _ _ _ _ _ us hl => match us, hl with | [_, _, _], _ => rfl
  have b_Pair_times : L2.Binds K fd_Pair_times ["self", "a", "b"] [] := F_Pair_times.bindsN fun _ _ _ _ _ _ us hl => match us, hl with | [_, _, _], _ => rfl
  have b_Ring_kind : L2.Binds K fd_Ring_kind ["self"] [] := F_Ring_kind.bindsN fun _ _ _ _ _ _ us hl => match us, hl with | [_], _ => rfl
  have b_Ring_is_closed : L2.Binds K fd_Ring_is_closed ["self"] [] := F_Ring_is_closed.bindsN fun _ _ _ _ _ _ us hl => match us, hl with | [_], _ => rfl
  have b_Ring_good : L2.Binds K fd_Ring_good ["self", "thing"] [] := F_Ring_good.bindsN fun _ _ _ _ _ _ us hl => match us, hl with | [_, _], _ => rfl
  have m_Truth_times : Meth K (He.ga K "Truth") "times" (He.fAd K ("Truth", some "times")) := MM "Truth" "times" "Truth" (by decide)
  have m_Count_times : Meth K (He.ga K "Count") "times" (He.fAd K ("Count", some "times")) := MM "Count" "times" "Count" (by decide)
  have m_Bounded_times : Meth K (He.ga K "Bounded") "times" (He.fAd K ("Bounded", some "times")) := MM "Bounded" "times" "Bounded" (by decide)
  have m_Narrow_times : Meth K (He.ga K "Narrow") "times" (He.fAd K ("Narrow", some "times")) := MM "Narrow" "times" "Narrow" (by decide)
  have m_Share_times : Meth K (He.ga K "Share") "times" (He.fAd K ("Share", some "times")) := MM "Share" "times" "Share" (by decide)
  have m_Lot_times : Meth K (He.ga K "Lot") "times" (He.fAd K ("Lot", some "times")) := MM "Lot" "times" "Lot" (by decide)
  have m_Pair_times : Meth K (He.ga K "Pair") "times" (He.fAd K ("Pair", some "times")) := MM "Pair" "times" "Pair" (by decide)
  have m_Truth_good : Meth K (He.ga K "Truth") "good" (He.fAd K ("Truth", some "good")) := MM "Truth" "good" "Truth" (by decide)
  have m_Count_good : Meth K (He.ga K "Count") "good" (He.fAd K ("Counted", some "good")) := MM "Count" "good" "Counted" (by decide)
  have m_Bounded_good : Meth K (He.ga K "Bounded") "good" (He.fAd K ("Counted", some "good")) := MM "Bounded" "good" "Counted" (by decide)
  have m_Narrow_good : Meth K (He.ga K "Narrow") "good" (He.fAd K ("Counted", some "good")) := MM "Narrow" "good" "Counted" (by decide)
  have m_Share_good : Meth K (He.ga K "Share") "good" (He.fAd K ("Share", some "good")) := MM "Share" "good" "Share" (by decide)
  have m_Lot_good : Meth K (He.ga K "Lot") "good" (He.fAd K ("Lot", some "good")) := MM "Lot" "good" "Lot" (by decide)
  have m_Pair_good : Meth K (He.ga K "Pair") "good" (He.fAd K ("Pair", some "good")) := MM "Pair" "good" "Pair" (by decide)
  have m_Truth_closed : Meth K (He.ga K "Truth") "closed" (He.fAd K ("Topped", some "closed")) := MM "Truth" "closed" "Topped" (by decide)
  have m_Count_closed : Meth K (He.ga K "Count") "closed" (He.fAd K ("Endless", some "closed")) := MM "Count" "closed" "Endless" (by decide)
  have m_Bounded_closed : Meth K (He.ga K "Bounded") "closed" (He.fAd K ("Endless", some "closed")) := MM "Bounded" "closed" "Endless" (by decide)
  have m_Narrow_closed : Meth K (He.ga K "Narrow") "closed" (He.fAd K ("Endless", some "closed")) := MM "Narrow" "closed" "Endless" (by decide)
  have m_Share_closed : Meth K (He.ga K "Share") "closed" (He.fAd K ("Topped", some "closed")) := MM "Share" "closed" "Topped" (by decide)
  have m_Lot_closed : Meth K (He.ga K "Lot") "closed" (He.fAd K ("Topped", some "closed")) := MM "Lot" "closed" "Topped" (by decide)
  have m_Pair_closed : Meth K (He.ga K "Pair") "closed" (He.fAd K ("Pair", some "closed")) := MM "Pair" "closed" "Pair" (by decide)
  have m_Truth_one : Meth K (He.ga K "Truth") "one" (He.fAd K ("Kind", some "one")) := MM "Truth" "one" "Kind" (by decide)
  have m_Count_one : Meth K (He.ga K "Count") "one" (He.fAd K ("Kind", some "one")) := MM "Count" "one" "Kind" (by decide)
  have m_Bounded_one : Meth K (He.ga K "Bounded") "one" (He.fAd K ("Kind", some "one")) := MM "Bounded" "one" "Kind" (by decide)
  have m_Narrow_one : Meth K (He.ga K "Narrow") "one" (He.fAd K ("Kind", some "one")) := MM "Narrow" "one" "Kind" (by decide)
  have m_Share_one : Meth K (He.ga K "Share") "one" (He.fAd K ("Kind", some "one")) := MM "Share" "one" "Kind" (by decide)
  have m_Lot_one : Meth K (He.ga K "Lot") "one" (He.fAd K ("Kind", some "one")) := MM "Lot" "one" "Kind" (by decide)
  have m_Pair_one : Meth K (He.ga K "Pair") "one" (He.fAd K ("Kind", some "one")) := MM "Pair" "one" "Kind" (by decide)
  have m_Truth_zero : Meth K (He.ga K "Truth") "zero" (He.fAd K ("Kind", some "zero")) := MM "Truth" "zero" "Kind" (by decide)
  have m_Count_zero : Meth K (He.ga K "Count") "zero" (He.fAd K ("Kind", some "zero")) := MM "Count" "zero" "Kind" (by decide)
  have m_Bounded_zero : Meth K (He.ga K "Bounded") "zero" (He.fAd K ("Kind", some "zero")) := MM "Bounded" "zero" "Kind" (by decide)
  have m_Narrow_zero : Meth K (He.ga K "Narrow") "zero" (He.fAd K ("Kind", some "zero")) := MM "Narrow" "zero" "Kind" (by decide)
  have m_Share_zero : Meth K (He.ga K "Share") "zero" (He.fAd K ("Kind", some "zero")) := MM "Share" "zero" "Kind" (by decide)
  have m_Lot_zero : Meth K (He.ga K "Lot") "zero" (He.fAd K ("Kind", some "zero")) := MM "Lot" "zero" "Kind" (by decide)
  have m_Pair_zero : Meth K (He.ga K "Pair") "zero" (He.fAd K ("Kind", some "zero")) := MM "Pair" "zero" "Kind" (by decide)
  have m_Truth_text : Meth K (He.ga K "Truth") "text" (He.fAd K ("Kind", some "text")) := MM "Truth" "text" "Kind" (by decide)
  have m_Count_text : Meth K (He.ga K "Count") "text" (He.fAd K ("Kind", some "text")) := MM "Count" "text" "Kind" (by decide)
  have m_Bounded_text : Meth K (He.ga K "Bounded") "text" (He.fAd K ("Kind", some "text")) := MM "Bounded" "text" "Kind" (by decide)
  have m_Narrow_text : Meth K (He.ga K "Narrow") "text" (He.fAd K ("Kind", some "text")) := MM "Narrow" "text" "Kind" (by decide)
  have m_Share_text : Meth K (He.ga K "Share") "text" (He.fAd K ("Kind", some "text")) := MM "Share" "text" "Kind" (by decide)
  have m_Lot_text : Meth K (He.ga K "Lot") "text" (He.fAd K ("Kind", some "text")) := MM "Lot" "text" "Kind" (by decide)
  have m_Pair_text : Meth K (He.ga K "Pair") "text" (He.fAd K ("Kind", some "text")) := MM "Pair" "text" "Kind" (by decide)
  have m_Ring_kind : Meth K (He.ga K "Ring") "kind" (He.fAd K ("Ring", some "kind")) := MM "Ring" "kind" "Ring" (by decide)
  have m_Ring_is_closed : Meth K (He.ga K "Ring") "is_closed" (He.fAd K ("Ring", some "is_closed")) := MM "Ring" "is_closed" "Ring" (by decide)
  have m_Ring_good : Meth K (He.ga K "Ring") "good" (He.fAd K ("Ring", some "good")) := MM "Ring" "good" "Ring" (by decide)
  have m_Count_fits : Meth K (He.ga K "Count") "fits" (He.fAd K ("Counted", some "fits")) := MM "Count" "fits" "Counted" (by decide)
  have m_Bounded_fits : Meth K (He.ga K "Bounded") "fits" (He.fAd K ("Bounded", some "fits")) := MM "Bounded" "fits" "Bounded" (by decide)
  have m_Narrow_fits : Meth K (He.ga K "Narrow") "fits" (He.fAd K ("Counted", some "fits")) := MM "Narrow" "fits" "Counted" (by decide)
  have e := hfa.symm.trans g_law
  cases e
  have b := FunD.bindsA (ps := ["_law_script"]) F_law fun _ _ _ _ _ _ us hl => match us, hl with | [_], _ => rfl
  refine ⟨fd_law, fun s v => b s [v] rfl, fun base _ _ => ?_⟩
  have G_is_number : FnOk P w K mg base (CX0) 1 _ _ ["thing"] (spNum K) := ok_is_number F_is_number z_isinstance z_int z_bool
  have G_is_whole : FnOk P w K mg base (CX0) 2 _ _ ["thing", "least", "most"] (spWhole K) := ok_is_whole F_is_whole F_is_number g_is_number G_is_number
  have G_Count_times : ∀ d : Nat, FnOk P w K mg base (CX0) 1 _ _ ["self", "a", "b"] (spTimes (kcOf K) d (kcOf K).co) := fun d => ok_Count_times F_Count_times T.nd d
  have G_Bounded_times : ∀ d : Nat, FnOk P w K mg base (CX0) 1 _ _ ["self", "a", "b"] (spTimes (kcOf K) d (kcOf K).bo) := fun d => ok_Bounded_times F_Bounded_times T.nd d
  have G_Narrow_times : ∀ d : Nat, FnOk P w K mg base (CX0) 1 _ _ ["self", "a", "b"] (spTimes (kcOf K) d (kcOf K).na) := fun d => ok_Narrow_times F_Narrow_times T.nd d
  have G_Truth_times : ∀ d : Nat, FnOk P w K mg base (CX0) 1 _ _ ["self", "a", "b"] (spTimes (kcOf K) d (kcOf K).tr) := fun d => ok_Truth_times F_Truth_times T.nd d
  have G_Lot_times : ∀ d : Nat, FnOk P w K mg base (CX0) 1 _ _ ["self", "a", "b"] (spTimes (kcOf K) d (kcOf K).lo) := fun d => ok_Lot_times F_Lot_times T.nd d
  have G_Share_times : ∀ d : Nat, FnOk P w K mg base (CX0) 1 _ _ ["self", "a", "b"] (spTimes (kcOf K) d (kcOf K).sh) := fun d => ok_Share_times F_Share_times T.nd d g_gcd
  have G_Kind_one : ∀ d : Nat, ∀ c : Addr, FnOk P w K mg base (CX0) 1 _ _ ["self"] (spOne (kcOf K) d c) := fun d => fun c => ok_Kind_one F_Kind_one T d
  have G_Kind_zero : ∀ d : Nat, ∀ c : Addr, FnOk P w K mg base (CX0) 1 _ _ ["self"] (spZero (kcOf K) d c) := fun d => fun c => ok_Kind_zero F_Kind_zero T d
  have G_Kind_text : ∀ d : Nat, ∀ c : Addr, FnOk P w K mg base (CX0) 1 _ _ ["self"] (spText (kcOf K) d c) := fun d => fun c => ok_Kind_text F_Kind_text T d
  have G_Endless_closed : ∀ d : Nat, ∀ c : Addr, FnOk P w K mg base (CX0) 1 _ _ ["self"] (spClosed (kcOf K) d c) := fun d => fun c => ok_Endless_closed F_Endless_closed d
  have G_Topped_closed : ∀ d : Nat, ∀ c : Addr, FnOk P w K mg base (CX0) 1 _ _ ["self"] (spClosed (kcOf K) d c) := fun d => fun c => ok_Topped_closed F_Topped_closed d
  have held1 : ∀ {k : Nat} {m : Str} {c : Addr} {s : Sp}, HeldM P w K mg base k m c s → ∀ e sp, (fun e => if e = c then some s else none) e = some sp → HeldM P w K mg base k m e sp := fun {k m c s} H e sp h => by
    have h : (if e = c then some s else none) = some sp := h
    by_cases he : e = c
    · rw [if_pos he] at h
      have hs : s = sp := Option.some.inj h
      rw [← hs, he]
      exact H
    · rw [if_neg he] at h
      cases h
  have mem7 : ∀ c ∈ (kcOf K).all, c = He.ga K "Truth" ∨ c = He.ga K "Count" ∨ c = He.ga K "Bounded" ∨ c = He.ga K "Narrow" ∨ c = He.ga K "Share" ∨ c = He.ga K "Lot" ∨ c = He.ga K "Pair" := fun c hc => by simpa [KC.all, kcOf] using hc
  have okc : ∀ k : RK, OkC K ((kcOf K).cls k) := fun k => T.cls (k := k) rfl
  have A_one : ∀ d e sp, SK (kcOf K) (spOne (kcOf K) d) e = some sp → HeldM P w K mg base 1 "one" e sp := fun d => all_one T b_Kind_one G_Kind_one (fun c hc => by rcases mem7 c hc with rfl | rfl | rfl | rfl | rfl | rfl | rfl <;> assumption) d
  have A_zero : ∀ d e sp, SK (kcOf K) (spZero (kcOf K) d) e = some sp → HeldM P w K mg base 1 "zero" e sp := fun d => all_zero T b_Kind_zero G_Kind_zero (fun c hc => by rcases mem7 c hc with rfl | rfl | rfl | rfl | rfl | rfl | rfl <;> assumption) d
  have A_text : ∀ d e sp, SK (kcOf K) (spText (kcOf K) d) e = some sp → HeldM P w K mg base 1 "text" e sp := fun d => all_text T b_Kind_text G_Kind_text (fun c hc => by rcases mem7 c hc with rfl | rfl | rfl | rfl | rfl | rfl | rfl <;> assumption) d
  have A_times : ∀ d e sp, SK (kcOf K) (spTimes (kcOf K) d) e = some sp → HeldM P w K mg base (d + 1) "times" e sp := all_times T m_Truth_times b_Truth_times m_Count_times b_Count_times m_Bounded_times b_Bounded_times m_Narrow_times b_Narrow_times m_Share_times b_Share_times m_Lot_times b_Lot_times m_Pair_times b_Pair_times G_Truth_times G_Count_times G_Bounded_times G_Narrow_times G_Share_times G_Lot_times (fun d HA => ok_Pair_times F_Pair_times T HA)
  have A_closed : ∀ d e sp, SK (kcOf K) (spClosed (kcOf K) d) e = some sp → HeldM P w K mg base (d + 1) "closed" e sp := all_closed T m_Truth_closed b_Topped_closed m_Count_closed b_Endless_closed m_Bounded_closed b_Endless_closed m_Narrow_closed b_Endless_closed m_Share_closed b_Topped_closed m_Lot_closed b_Topped_closed m_Pair_closed b_Pair_closed (fun d => G_Topped_closed d _) (fun d => G_Endless_closed d _) (fun d => G_Endless_closed d _) (fun d => G_Endless_closed d _) (fun d => G_Topped_closed d _) (fun d => G_Topped_closed d _) (fun d HA => ok_Pair_closed F_Pair_closed T HA)
  have G_Truth_good : ∀ d : Nat, FnOk P w K mg base (CX0) 1 _ _ ["self", "thing"] (spGood (kcOf K) d (kcOf K).tr) := fun d => ok_Truth_good F_Truth_good T.nd d z_isinstance z_bool
  have G_Share_good : ∀ d : Nat, FnOk P w K mg base (CX0) 2 _ _ ["self", "thing"] (spGood (kcOf K) d (kcOf K).sh) := fun d => ok_Share_good F_Share_good F_is_number g_is_number G_is_number T.nd d g_gcd z_isinstance z_tuple z_len
  have H_co : HeldM P w K mg base 1 "fits" (kcOf K).co (spFits (kcOf K) (kcOf K).co) := ⟨(okc .count).cls, _, fd_Counted_fits, _, m_Count_fits, ok_Counted_fits F_Counted_fits T.nd (.inl rfl), b_Counted_fits⟩
  have H_na : HeldM P w K mg base 1 "fits" (kcOf K).na (spFits (kcOf K) (kcOf K).na) := ⟨(okc .narrow).cls, _, fd_Counted_fits, _, m_Narrow_fits, ok_Counted_fits F_Counted_fits T.nd (.inr rfl), b_Counted_fits⟩
  have H_bo : HeldM P w K mg base 1 "fits" (kcOf K).bo (spFits (kcOf K) (kcOf K).bo) := ⟨(okc .least).cls, _, fd_Bounded_fits, _, m_Bounded_fits, ok_Bounded_fits F_Bounded_fits T.nd, b_Bounded_fits⟩
  have H_lo : ∀ d, HeldM P w K mg base 1 "one" (kcOf K).lo (spOne (kcOf K) d (kcOf K).lo) := fun d => ⟨(okc (.lot 1)).cls, _, fd_Kind_one, _, m_Lot_one, G_Kind_one d _, b_Kind_one⟩
  have A_good : ∀ d e sp, SK (kcOf K) (spGood (kcOf K) d) e = some sp → HeldM P w K mg base (d + 2) "good" e sp := all_good T m_Truth_good b_Truth_good m_Count_good b_Counted_good m_Bounded_good b_Counted_good m_Narrow_good b_Counted_good m_Share_good b_Share_good m_Lot_good b_Lot_good m_Pair_good b_Pair_good (fun d => (G_Truth_good d).mono (by decide : 1 ≤ 2)) (fun d => ok_Counted_good F_Counted_good F_is_number g_is_number G_is_number T d (.inl rfl) (held1 H_co) z_isinstance z_str) (fun d => ok_Counted_good F_Counted_good F_is_number g_is_number G_is_number T d (.inr (.inl rfl)) (held1 H_bo) z_isinstance z_str) (fun d => ok_Counted_good F_Counted_good F_is_number g_is_number G_is_number T d (.inr (.inr rfl)) (held1 H_na) z_isinstance z_str) G_Share_good (fun d => ok_Lot_good F_Lot_good F_is_number g_is_number G_is_number T.nd d (held1 (H_lo d)) ) (fun d HA => ok_Pair_good F_Pair_good T HA z_isinstance z_tuple z_len)
  have G_Kind_init : FnOk P w K mg base (CX0) 1 _ _ ["self", "text", "zero", "one"] (spKind K) := ok_Kind_init F_Kind_init
  have G_Counted_init : FnOk P w K mg base (CX0) 2 _ _ ["self", "text", "zero", "one", "others"] (spCounted K) := ok_Counted_init F_Counted_init F_Kind_init G_Kind_init B_Kind
  have G_Count_init : FnOk P w K mg base (CX0) 3 _ _ ["self"] (spMk (kcOf K) .count []) := ok_Count_init F_Count_init F_Counted_init G_Counted_init B_Endless T
  have G_Narrow_init : FnOk P w K mg base (CX0) 3 _ _ ["self"] (spMk (kcOf K) .narrow []) := ok_Narrow_init F_Narrow_init F_Counted_init G_Counted_init B_Endless T
  have G_Bounded_init : FnOk P w K mg base (CX0) 3 _ _ ["self", "text", "sign"] (spMkBound (kcOf K)) := ok_Bounded_init F_Bounded_init F_Counted_init G_Counted_init B_Endless T
  have G_Truth_init : FnOk P w K mg base (CX0) 2 _ _ ["self"] (spMk (kcOf K) .truth []) := ok_Truth_init F_Truth_init F_Kind_init G_Kind_init B_Topped T
  have G_Share_init : FnOk P w K mg base (CX0) 2 _ _ ["self"] (spMk (kcOf K) .share []) := ok_Share_init F_Share_init F_Kind_init G_Kind_init B_Topped T
  have G_Lot_init : FnOk P w K mg base (CX0) 2 _ _ ["self", "size"] (spMkLot (kcOf K)) := ok_Lot_init F_Lot_init F_Kind_init G_Kind_init B_Topped T
  have G_Pair_init : FnOk P w K mg base (CX0) 2 _ _ ["self", "left", "right"] (spMkPair (kcOf K)) := ok_Pair_init F_Pair_init F_Kind_init G_Kind_init B_Kind T (A_text 4) (A_zero 4) (A_one 4)
  have G__bare_kind : FnOk P w K mg base (CX0) 5 _ _ ["name"] (spBare (kcOf K)) := ok__bare_kind F__bare_kind b_Truth_init G_Truth_init M_Truth g_Truth b_Count_init G_Count_init M_Count g_Count b_Bounded_init G_Bounded_init M_Bounded g_Bounded b_Narrow_init G_Narrow_init M_Narrow g_Narrow b_Share_init G_Share_init M_Share g_Share
  have G__sized_kind : FnOk P w K mg base (CX0) 4 _ _ ["name", "size"] (spSized (kcOf K)) := ok__sized_kind F__sized_kind b_Lot_init G_Lot_init M_Lot g_Lot
  have G_kind_of : FnOk P w K mg base CX0 10 _ _ ["made"] (spKindOf (kcOf K) 4) := ok_kind_of F_kind_of g_kind_of b_Pair_init G_Pair_init M_Pair g_Pair F__bare_kind g__bare_kind G__bare_kind F__sized_kind g__sized_kind G__sized_kind z_len 4 (by decide)
  have G_Ring_init : FnOk P w K mg base (CX0) 11 _ _ ["self", "made"] (spRingI (kcOf K) (He.ga K "Ring")) := ok_Ring_init F_Ring_init okR F_kind_of g_kind_of G_kind_of
  have G__has_form : FnOk P w K mg base CX0 9 _ _ ["made", "deep"] (spForm 4) := ok__has_form F__has_form g__has_form F_is_whole g_is_whole G_is_whole SZ BA z_isinstance z_tuple z_len z_str 4
  have G__tables : FnOk P w K mg base CX0 4 _ _ ["made"] (spTabs 4) := ok__tables F__tables g__tables 4
  have G_ring_of : FnOk P w K mg base (CX0) 13 _ _ ["made"] (spRingOf (kcOf K) (He.ga K "Ring")) := ok_ring_of F_ring_of F__has_form g__has_form G__has_form F__tables g__tables G__tables b_Ring_init G_Ring_init M_Ring g_Ring g_PAIRS
  have G_Ring_kind : FnOk P w K mg base (CX0) 1 _ _ ["self"] (spRKind (kcOf K) (He.ga K "Ring")) := ok_Ring_kind F_Ring_kind TR
  have G_Ring_is_closed : FnOk P w K mg base (CX0) 6 _ _ ["self"] (spRClosed (kcOf K) (He.ga K "Ring")) := ok_Ring_is_closed F_Ring_is_closed TR (A_closed 4)
  have G_Ring_good : FnOk P w K mg base (CX0) 7 _ _ ["self", "thing"] (spRGood (kcOf K) (He.ga K "Ring")) := ok_Ring_good F_Ring_good TR (A_good 4)
  have G_need_ring : FnOk P w K mg base (CX0) 1 _ _ ["thing"] (spNeedRing (kcOf K) (He.ga K "Ring")) := ok_need_ring F_need_ring TR g_Ring z_isinstance
  have G__is_step : FnOk P w K mg base (CX0) 8 _ _ ["ring", "states", "step"] (spIsStep (kcOf K) (He.ga K "Ring")) := ok__is_step F__is_step TR F_is_whole g_is_whole G_is_whole m_Ring_good b_Ring_good G_Ring_good z_isinstance z_tuple z_len
  have G__is_web : FnOk P w K mg base (CX0) 9 _ _ ["ring", "web"] (spIsWeb (kcOf K) (He.ga K "Ring")) := ok__is_web F__is_web TR F_is_whole g_is_whole G_is_whole F__is_step g__is_step G__is_step g_STATES g_STEPS z_isinstance z_tuple z_len z_all
  have G_need_web : FnOk P w K mg base (CX0) 10 _ _ ["ring", "web"] (spNeedWeb (kcOf K) (He.ga K "Ring")) := ok_need_web F_need_web TR F_need_ring g_need_ring G_need_ring F__is_web g__is_web G__is_web m_Ring_is_closed b_Ring_is_closed G_Ring_is_closed
  have G_is_path : FnOk P w K mg base (CX0) 3 _ _ ["steps", "path"] (spIsPath K) := ok_is_path F_is_path F_is_whole g_is_whole G_is_whole z_isinstance z_tuple z_list z_len z_all z_zip
  have G_product_of : FnOk P w K mg base (CX0) 6 _ _ ["kind", "weights"] (spProd (kcOf K)) := ok_product_of F_product_of (A_times 4) (A_one 4)
  have G_path_weight : FnOk P w K mg base (L2.CX P w) 11 _ _ ["ring", "web", "path"] (spPW K (kcOf K) (He.ga K "Ring") (He.ga K "BadPath")) := ok_path_weight F_path_weight TR F_need_web g_need_web G_need_web F_is_path g_is_path G_is_path F_product_of g_product_of G_product_of m_Ring_kind b_Ring_kind G_Ring_kind O_BadPath z_len
  have G_mixed : FnOk P w K mg base (CX0) 1 _ _ ["_law_cell", "_law_k"] (spMixed) := ok_mixed F_mixed
  have G_draw : FnOk P w K mg base (CX0) 1 _ _ ["_law_script", "_law_k"] (spDraw K) := ok_draw F_draw
  have G_next : FnOk P w K mg base (CX0) 2 _ _ ["_law_draw_here", "_law_many"] (spNext) := ok_next F_next F_mixed g_mixed G_mixed z_len
  have G_zero : FnOk P w K mg base CX0 4 _ _ ["_law_made"] (spLZero 3) := ok_zero F_zero g_zero 3
  have G_one : FnOk P w K mg base CX0 4 _ _ ["_law_made"] (spLOne 3) := ok_one F_one g_one 3
  have G_ring : FnOk P w K mg base CX0 5 _ _ ["_law_draw_here", "_law_deep"] (spLRing 3) := ok_ring F_ring g_ring F_next g_next G_next 3
  have G_lowest : FnOk P w K mg base (CX0) 1 _ _ ["_law_top", "_law_bottom"] (spLowest) := ok_lowest F_lowest
  have G_times : FnOk P w K mg base CX0 5 _ _ ["_law_made", "_law_a", "_law_b"] (spLTimes 3) := ok_times F_times g_times F_lowest g_lowest G_lowest z_min 3
  have G_weight : FnOk P w K mg base CX0 7 _ _ ["_law_draw_here", "_law_made", "_law_mood", "_law_lift"] (spLWeight 3) := ok_weight F_weight g_weight F_next g_next G_next F_lowest g_lowest G_lowest F_zero g_zero G_zero z_min 3
  have G_turned : FnOk P w K mg base (CX0) 3 _ _ ["_law_draw_here", "_law_many"] (spTurned) := ok_turned F_turned F_next g_next G_next z_list z_range z_len
  have G_web : FnOk P w K mg base (CX0) 8 _ _ ["_law_draw_here", "_law_made", "_law_most", "_law_many"] (spLWeb) := ok_web F_web F_next g_next G_next F_turned g_turned G_turned F_weight g_weight G_weight z_list z_range z_len z_tuple z_min z_max
  have G_same : FnOk P w K mg base CX0 7 _ _ ["_law_told_here", "_law_due_here"] (spLSame 6) := ok_same F_same g_same z_isinstance z_tuple z_list z_bool z_int z_str z_len z_all z_zip 6
  have G_lispath : FnOk P w K mg base CX0 1 _ _ ["_law_net", "_law_line"] (spLIsPath K) := ok_lispath F_lispath z_isinstance z_tuple z_list z_int z_bool z_len
  have G_due : FnOk P w K mg base (CX0) 6 _ _ ["_law_made", "_law_net", "_law_line"] (spLDue K) := ok_due F_due F_one g_one G_one F_times g_times G_times
  have G_walk : FnOk P w K mg base (CX0) 3 _ _ ["_law_draw_here", "_law_net", "_law_many"] (spWalk) := ok_walk F_walk F_next g_next G_next z_range z_len z_enumerate
  have G_joined : FnOk P w K mg base (CX0) 12 _ _ ["_law_made", "_law_base", "_law_net", "_law_line", "_law_at"] (spJoined (kcOf K) (He.ga K "Ring")) := ok_joined F_joined F_path_weight g_path_weight G_path_weight F_same g_same G_same F_times g_times G_times
  have G_told : FnOk P w K mg base (CX0) 12 _ _ ["_law_base", "_law_net", "_law_line"] (spTold K (kcOf K) (He.ga K "Ring")) := ok_told F_told TF F_path_weight g_path_weight G_path_weight z_isinstance
  have G_right : FnG P w K mg base CX0 13 _ _ ["_law_made", "_law_base", "_law_net", "_law_line"] (spRight K (kcOf K) (He.ga K "Ring")) := ok_right F_right F_same g_same G_same F_lispath g_lispath G_lispath F_due g_due G_due F_told g_told G_told z_isinstance z_list z_tuple z_repr
  have G_changed : FnG P w K mg base CX0 3 _ _ ["_law_draw_here", "_law_net", "_law_line", "_law_way"] (spChanged K) := ok_changed F_changed F_next g_next G_next z_len z_str z_dict
  exact ok_law F_law F_draw g_draw G_draw F_next g_next G_next F_ring g_ring G_ring F_ring_of g_ring_of G_ring_of F_web g_web G_web F_walk g_walk G_walk F_changed g_changed G_changed F_right g_right G_right F_joined g_joined G_joined F_path_weight g_path_weight G_path_weight z_len z_range z_repr z_max z_min
theorem walk16 {l : PySem.W.OpenLaw} {q : Program} {loose : List Str} {XP : (Str → Option Value) → Heap → Prop} {YP : World → Heap → Prop} {d : DefRec} (hn : l.most = some 63) (hdf : d.params.defaults = [])
    (F : ∀ (w : World) (mg : Str → Option Value) (fa : Addr) (h : Heap), YP w h → h.Ns mainGlobals mg → mg d.name = some (.ref fa) →
      ∃ K : PySem.W.Frag, K.In h ∧ ∃ fd : FuncData, (∀ (s : Shared) (u : Value), BindsTo s fd ⟨[u], []⟩ [("_law_script", u)]) ∧ ∀ base : Heap, K.In base → base.Ns mainGlobals mg → FnG l.prog w K mg base CX0 14 fa fd ["_law_script"] (spLaw K)) :
    PySem.W.WalkO q loose XP YP l.row.toRowW d [] (fun f vs => PySem.call f vs) := by
  refine Att.attach_callB hn hdf fun w s₀ s₁ mg mb fa o pm cd doc a vs ns G Y ho hd hcd hmg hobj hints hlen hbits hg => ?_
  obtain ⟨K, KX, fd, hb, hF⟩ := F w mg fa _ Y G.T.g hmg
  exact law_callG KX G.T.g G.T.b G.T.builtins G.T.nolimit hg hobj hints (Nat.le_trans hlen (by decide)) ⟨rfl, by decide, by decide⟩ hF hb (fun H hH hS => ⟨a, ns, rfl, hS, hlen, fun _ => rfl⟩) fun H e s' z => z
end D1
open PySem PySem.W PySem.Calls PyProof.Rows
set_option maxHeartbeats 0
theorem PySem.Challenge.cw_semirail_k16_weights_along_paths_holds : PySem.Challenge.rw_semirail_k16_weights_along_paths.Holds := by
  w_on; o_law
  refine HandSHeadRun.head_imp (r := OpenLaw.row PySem.Challenge.rw_semirail_k16_weights_along_paths) (q := view (OpenLaw.row PySem.Challenge.rw_semirail_k16_weights_along_paths).prog [0, 103]) (H := W16.hk) (ob := W16.ob) (M := 20000) (loose := W16.names) (d := HandSHeadRun.topDef (OpenLaw.row PySem.Challenge.rw_semirail_k16_weights_along_paths).prog 103) (kwd := []) W16.ob_eq
    W16.run (by kernel_rfl) (by kernel_rfl) (by kernel_rfl) (by rfl) (by first | assumption | decide +kernel) (by decide +kernel) ⟨rfl, rfl, rfl, rfl, rfl, by decide +kernel⟩ ?hw ?hc
  case hw => w_witness2
  case hc =>
    refine D1.walk16 (l := PySem.Challenge.rw_semirail_k16_weights_along_paths) rfl (by kernel_rfl) ?F
    intro w mg fa h Y G hmg0
    obtain ⟨K, KX, c⟩ := Y
    have hmg : mg ("law" : PySem.Str) = some (.ref fa) := by
      have e : (HandSHeadRun.topDef (OpenLaw.row PySem.Challenge.rw_semirail_k16_weights_along_paths).prog 103).name = ("law" : PySem.Str) := by kernel_rfl
      rw [← e]
      exact hmg0
    exact ⟨K, KX, D1.facts (P := (PySem.Challenge.rw_semirail_k16_weights_along_paths).prog) (w := w) KX G hmg c⟩
end
