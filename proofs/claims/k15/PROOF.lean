import PyProof.Rows.All
import Wide.All
import OpenK.AllK
import Wide.FinOn
import HandS.Head0
import HandS.Head1
import HandS.Head2
import HandS.Head3
import HandS.HeadEnd
import HandS.HeadHook1
import HandS.HeadHook2
import HandS.HeadHook3
import HandS.HeadHook4
import HandS.ExcField
import HandS.ForMost
import HandS.ForExc
import HandS.Defaults
import KE.KExcInit
import Wide.Once
import KE.KStateDown
import PyProof.EqAt
import PyProof.EqKinds
import PyProof.TupleCall
import HandS.ExcInit
import HandS.ExcValue
import KE.KExcIs
import HandS.ExcIs
import PyProof.ReprRoads
import HandS.OwnEq
import HandS.SlotsOwn
import HandS.IsInst
import PyProof.InstNe
import HandS.HotCalls
import HandS.Walk
import HandS.Evl
import HandS.StrMore
import HandS.Wide
import HandS.SortInts
import HandS.Zip
import HandS.NoneIn
import HandS.Star
import HandS.CallLocal
import HandS.Style
import HandS.TupAny
import HandS.Conv
import HandS.RaiseMore
import HandS.Flow
import HandS.Gcd
import PyProof.P3Eq
import HandS.ClsMeth
import HandS.FStr
import KE.GoesMore
import KE.GoesZip
import KE.OsArith
import HandS.Text
import HandS.Dict
import KE.GoesEnum
import KE.KDictZip
import KE.KItemsList
import HandS.ListItems
import HandS.TupMul
import PyProof.ReprBulk
import HandS.EndBits
import HandS.HeadWalk
import HandS.SetFor
import HandS.ExcOwn
import PySem.Challenge.RW_semirail_k15_what_is_a_web
section
set_option Elab.async false
set_option linter.all false
set_option maxRecDepth 100000
set_option maxHeartbeats 4000000
/-! HH: what the head looks at -/
namespace D1
open PySem L2
abbrev theProg : Program := PySem.Challenge.pw_semirail_k15_what_is_a_web
def top (i : Nat) : Stmt := theProg.main.body.getD i (.Pass ⟨0, 0, 0, 0⟩)
abbrev FnP (K : PySem.W.Frag) (x : Str) (st : Stmt) (f : Addr) (fd : FuncData) : Prop := FunD K x x (defArgs st) (defBody st) (defScope st) [] [] f fd
def clsBody (s : Stmt) : List Stmt := match s with
  | .ClassDef _ _ _ b _ _ _ _ _ _ _ => b
  | _ => []
def meth (i j : Nat) : Stmt := (clsBody (top i)).getD j (.Pass ⟨0, 0, 0, 0⟩)
abbrev FnM (K : PySem.W.Frag) (c x : Str) (st : Stmt) (f : Addr) (fd : FuncData) : Prop := FunD K x (c ++ "." ++ x) (defArgs st) (defBody st) (defScope st) [] [] f fd
def fields : List Str := ["_text", "_zero", "_one", "_others", "_size", "_sums", "_products", "_left", "_right", "_made", "_kind", "_sign", "_unknowns"]
structure KC where
  tr : Addr
  co : Addr
  bo : Addr
  na : Addr
  sh : Addr
  lo : Addr
  pa : Addr
  re : Addr
  te : Addr
  ta : Addr
def KC.all (C : KC) : List Addr := [C.tr, C.co, C.bo, C.na, C.sh, C.lo, C.pa, C.re, C.te, C.ta]
open He
open PySem.W in
def xbB (K : Frag) (C : Addr) (bmB : List Value) (newId : String) (fn : List Str) : Bool :=
  excInitIn K C bmB newId && (excOver K C bmB && (hasDictIn K C && (decide (findIn K (.ref C) "__setattr__" = some (some (.builtin "object.__setattr__"))) && (decide (findIn K (.ref C) "__getattribute__" = some (some (.builtin "BaseException.__getattribute__"))) &&
    (decide (findIn K (.ref C) "__getattr__" = some none) && (decide (findIn K (.ref C) "__class__" = some (some (.builtin "object.__class__"))) && (decide (mroIn K C (.type "object") = some true) && (fn.all (fun f => decide (findIn K (.ref C) f = some none)) &&
      (keepIn K (.ref C) && (decide (subIn K (.ref C) (.type "BaseException") = some true) && decide (typeIn K (.ref C) = some (.type "type"))))))))))))
def bmA : List Value := [.type "ArithmeticError", .type "Exception", .type "BaseException", .type "object"]
def bmV : List Value := [.type "ValueError", .type "Exception", .type "BaseException", .type "object"]
def kwN (K : PySem.W.Frag) (p : Str × Option Str) : Bool := match K.lookup (fAd K p) with
  | some ⟨_, _, .func fd, _⟩ => (match fd.kwdefaults with
    | .none => true
    | _ => false)
  | _ => false
def iniB (K : PySem.W.Frag) (x : Str) : Bool := kwN K (x, some "__init__") && (decide (PySem.W.findIn K (.ref (ga K x)) "__init__" = some (some (.ref (fAd K (x, some "__init__"))))) && decide (PySem.W.typeIn K (.ref (fAd K (x, some "__init__"))) = some (.type "function")))
def excB (K : PySem.W.Frag) : Bool := decide (PySem.W.specialIn K (.builtin "object.__class__") "__get__" = some (some (.builtin "getset_descriptor.__get__"))) && decide (PySem.W.takesIn K (.builtin "object.__class__") = some true)
def tupK (K : PySem.W.Frag) (a : Addr) (vs : List V) : Bool := match K.lookup a with
  | some ⟨.type c, _, .seq its _, _⟩ => decide (c = "tuple") && (decide (its.size ≤ sizeLine) && relAll vs its.toList)
  | _ => false
def itemA (K : PySem.W.Frag) (a : Addr) (i : Nat) : Addr := match K.lookup a with
  | some ⟨_, _, .seq its _, _⟩ => (match its.toList[i]? with
    | some (.ref b) => b
    | _ => 0)
  | _ => 0
def szA (K : PySem.W.Frag) (x : Str) : Addr := match PySem.W.nsIn K (ga K "_SIZES") x with
  | some (some (.ref a)) => a
  | _ => 0
def sizesB (K : PySem.W.Frag) : Bool := (["truth", "count", "least", "most", "narrow", "share", "pair", "table"] : List Str).all (fun x => eqO (PySem.W.nsIn K (ga K "_SIZES") x) (some none)) && ((["lot", "rest", "terms"] : List Str).all (fun x => eqO (PySem.W.nsIn K (ga K "_SIZES") x) (some (some (.ref (szA K x))))) && (tupK K (szA K "lot") [.int 1, .int 12] && (tupK K (szA K "rest") [.int 2, .int 1000] && tupK K (szA K "terms") [.int 1, .int 4])))
def rnsK : List Str := ["_sum_turned", "_sum_joined", "_zero", "_product_turned", "_product_joined", "_one", "_nought", "_spread"]
def rnmK : List Str := ["sum turned", "sum joined", "zero", "product turned", "product joined", "one", "nought", "spread"]
def aryK : List Int := [2, 3, 1, 2, 3, 1, 1, 3]
def fR (K : PySem.W.Frag) (i : Nat) : Addr := ga K (rnsK.getD i "_zero")
def tR (K : PySem.W.Frag) (i : Nat) : Addr := itemA K (ga K "_RULES") i
def rulesB (K : PySem.W.Frag) : Bool := tupK K (ga K "_RULES") ((List.range 8).map fun i => V.ref (tR K i)) && ((List.range 8).all (fun i => tupK K (tR K i) [.str (rnmK.getD i ""), .int (aryK.getD i 0), .ref (fR K i)]) && (List.range 8).all fun i => (List.range 8).all fun j => decide (i = j) || !decide (fR K i = fR K j))
def thingsB (K : PySem.W.Frag) : Bool := tupK K (ga K "_THINGS") [.int 2, .int 6]
def notrB (K : PySem.W.Frag) : Bool := (["NoneType", "bool", "int", "str", "tuple", "list", "dict"] : List String).all fun x => decide (PySem.W.kitOne K (.type x) (.ref (ga K "Ring")) = some false)
def bareB (K : PySem.W.Frag) : Bool := tupK K (ga K "_BARE") [.str "truth", .str "count", .str "least", .str "most", .str "narrow", .str "share"]
def noB (K : PySem.W.Frag) (x : Str) : Bool := fields.all fun f => eqO (PySem.W.findIn K (.ref (ga K x)) f) (some none)
def methB (K : PySem.W.Frag) (x m : Str) (p : Str × Option Str) : Bool := eqO (PySem.W.findIn K (.ref (ga K x)) m) (some (some (.ref (fAd K p)))) && (PySem.W.isFn K (.ref (fAd K p)) && PySem.W.keepIn K (.ref (fAd K p)))
def mths0 : List (Str × Str × Str) := [("Truth", "good", "Truth"), ("Count", "good", "Counted"), ("Bounded", "good", "Counted"), ("Narrow", "good", "Counted"), ("Share", "good", "Share"), ("Lot", "good", "Lot"), ("Pair", "good", "Pair"), ("Rest", "good", "Counted"), ("Terms", "good", "Terms"), ("Table", "good", "Counted"), ("Truth", "closed", "Topped"), ("Count", "closed", "Endless"), ("Bounded", "closed", "Endless"), ("Narrow", "closed", "Endless"), ("Share", "closed", "Topped")]
def mths1 : List (Str × Str × Str) := [("Lot", "closed", "Topped"), ("Pair", "closed", "Pair"), ("Rest", "closed", "Kind"), ("Terms", "closed", "Kind"), ("Table", "closed", "Kind"), ("Truth", "one", "Kind"), ("Count", "one", "Kind"), ("Bounded", "one", "Kind"), ("Narrow", "one", "Kind"), ("Share", "one", "Kind"), ("Lot", "one", "Kind"), ("Pair", "one", "Kind"), ("Rest", "one", "Kind"), ("Terms", "one", "Kind"), ("Table", "one", "Kind")]
def mths2 : List (Str × Str × Str) := [("Truth", "zero", "Kind"), ("Count", "zero", "Kind"), ("Bounded", "zero", "Kind"), ("Narrow", "zero", "Kind"), ("Share", "zero", "Kind"), ("Lot", "zero", "Kind"), ("Pair", "zero", "Kind"), ("Rest", "zero", "Kind"), ("Terms", "zero", "Kind"), ("Table", "zero", "Kind"), ("Truth", "text", "Kind"), ("Count", "text", "Kind"), ("Bounded", "text", "Kind"), ("Narrow", "text", "Kind"), ("Share", "text", "Kind")]
def mths3 : List (Str × Str × Str) := [("Lot", "text", "Kind"), ("Pair", "text", "Kind"), ("Rest", "text", "Kind"), ("Terms", "text", "Kind"), ("Table", "text", "Kind"), ("Ring", "made", "Ring"), ("Ring", "is_closed", "Ring"), ("Ring", "good", "Ring"), ("Count", "fits", "Counted"), ("Bounded", "fits", "Bounded"), ("Narrow", "fits", "Counted"), ("Rest", "fits", "Finite"), ("Table", "fits", "Finite")]
def mths : List (Str × Str × Str) := mths0 ++ mths1 ++ mths2 ++ mths3
def mthsB (K : PySem.W.Frag) : Bool := mths.all fun t => methB K t.1 t.2.1 (t.2.2, some t.2.1)
def baseB (K : PySem.W.Frag) (x : Str) (p : Str × Option Str) : Bool := PySem.W.readsIn K (ga K x) (.type "type") && (eqO (PySem.W.specialIn K (.ref (ga K x)) "__getattribute__") (some (some (.builtin "type.__getattribute__"))) && (match PySem.W.findCls K (.ref (ga K x)) (.type "type") "__init__" with
  | some (.val (.ref a)) => decide (a = fAd K p)
  | _ => false))
def ringB (K : PySem.W.Frag) : Bool := eqO (PySem.W.findIn K (.ref (ga K "Ring")) "__class__") (some (some (.builtin "object.__class__"))) && (decide (PySem.W.mroIn K (ga K "Ring") (.type "object") = some true) && decide (PySem.W.kitOne K (.ref (ga K "Ring")) (.ref (ga K "Ring")) = some true))
def kcOf (K : PySem.W.Frag) : KC := ⟨ga K "Truth", ga K "Count", ga K "Bounded", ga K "Narrow", ga K "Share", ga K "Lot", ga K "Pair", ga K "Rest", ga K "Terms", ga K "Table"⟩
def kcB (K : PySem.W.Frag) : Bool := decide (kcOf K).all.Nodup && (["Truth", "Count", "Bounded", "Narrow", "Share", "Lot", "Pair", "Rest", "Terms", "Table"] : List Str).all (noB K)
def fam {α : Type} (d : α) : List (Addr × α) → Addr → α
  | [], _ => d
  | (a, x) :: r, c => if c = a then x else fam d r c
def nm6 : List Str := ["BadRing", "NotClosed", "BadWeb", "BadNumber", "BadPath", "NoOrder"]
def famWB (K : PySem.W.Frag) : Bool := (List.range 5).all (fun i => (List.range 6).all fun j => decide (PySem.W.kitOne K (.ref (ga K (nm6.getD i ""))) (.ref (ga K (nm6.getD j ""))) = some (decide (i = j)))) && ((List.range 5).all (fun i => decide (PySem.W.exmOne K (.ref (ga K (nm6.getD i ""))) (.ref (ga K "Refused")) = some (!decide (i = 1)))) && decide (PySem.W.exmOne K (.ref (ga K "NotClosed")) (.ref (ga K "Unreckoned")) = some true))
def exA (K : PySem.W.Frag) : Bool := xbB K (ga K "BadRing") bmV "ValueError.__new__" [("what" : Str)] && (iniB K "BadRing" && (xbB K (ga K "NotClosed") bmA "ArithmeticError.__new__" [("why" : Str)] && (iniB K "NotClosed" && (xbB K (ga K "BadWeb") bmV "ValueError.__new__" [("why" : Str)] && (iniB K "BadWeb" && (xbB K (ga K "BadNumber") bmV "ValueError.__new__" [("why" : Str)] && (iniB K "BadNumber" && (xbB K (ga K "BadPath") bmV "ValueError.__new__" [("why" : Str)] && (iniB K "BadPath" && (famWB K && ((K.lookup sysModules).isSome && (excB K && (ringB K)))))))))))))
def exB (K : PySem.W.Frag) : Bool := noB K "Ring" && (kcB K && (sizesB K && (bareB K && (mthsB K && (rulesB K && (thingsB K && (notrB K && (eqO (PySem.W.nsIn K mainGlobals "gcd") (some (some (.builtin "math.gcd"))) && (baseB K "Kind" ("Kind", some "__init__") && (baseB K "Topped" ("Kind", some "__init__") && (baseB K "Endless" ("Counted", some "__init__") && (baseB K "Counted" ("Counted", some "__init__") && (baseB K "Finite" ("Finite", some "__init__"))))))))))))))
def ex (K : PySem.W.Frag) : Bool := exA K && exB K
end D1
end
section
set_option Elab.async false
set_option linter.all false
set_option maxRecDepth 100000
set_option maxHeartbeats 0
/-! H15: the head -/
namespace W15
open PySem PySem.Spec PyProof.Rows L2
abbrev top (i : Nat) : Stmt := D1.top i
def dd (x : Str) (i : Nat) : He.DefD := ⟨(x, none), x, x, defArgs (top i), defBody (top i), defScope (top i), [], []⟩
def dm (c x : Str) (i j : Nat) : He.DefD := ⟨(c, some x), x, c ++ "." ++ x, defArgs (D1.meth i j), defBody (D1.meth i j), defScope (D1.meth i j), [], []⟩
def dmd (c x : Str) (i j : Nat) (ds : List He.Dv) : He.DefD := ⟨(c, some x), x, c ++ "." ++ x, defArgs (D1.meth i j), defBody (D1.meth i j), defScope (D1.meth i j), ds, []⟩
def names_0 : List PySem.Str := ["_wall", "Refused", "BadRing", "BadTable", "BadWeight", "BadNumber", "BadWeb", "BadPath", "Unreckoned", "NoStar", "NoOrder", "NotClosed", "product_of", "many_of", "power_of", "LONG", "is_number", "is_whole", "Kind", "Counted", "Endless", "Count", "Bounded", "Narrow", "Finite"]
def names_1 : List PySem.Str := ["Rest", "Table", "Pair", "Terms", "_gathered", "_summed", "Topped", "Truth", "Share", "Lot", "kind_of", "_sized_kind", "_bare_kind", "Ring", "_need_count", "need_ring", "_STATES", "_STEPS", "need_web", "_is_web", "_is_step", "need_state", "is_path", "path_weight", "by_states"]
def names_2 : List PySem.Str := ["_single_steps", "_with_ways_over", "_with_ways", "_ORDERED", "is_ordered", "by_best", "_need_no_bettering", "_best_of", "_sum_turned", "_sum_joined", "_zero", "_product_turned", "_product_joined", "_one", "_nought", "_spread", "_joined", "_RULES", "first_broken", "_rows", "_BARE", "_SIZES", "_THINGS", "_PAIRS", "ring_of"]
def names_3 : List PySem.Str := ["_has_form", "_are_tables", "_is_table", "_is_row", "_tables", "by_rounds", "_begun", "_next_round", "_GROWING", "_SIGNED", "why_endless", "_ways_from", "_lies_between", "_over_endless", "_round_at", "_best_ways", "paper", "check", "_is_shown", "_leads", "_is_at_rest", "_law_mixed", "_law_draw", "_law_next", "_law_ring"]
def names_4 : List PySem.Str := ["_law_zero", "_law_one", "_law_lowest", "_law_weight", "_law_turned", "_law_web", "_law_whole", "_law_good", "_law_is_web", "_law_spoilt", "_law_open", "_law_word", "_law_told", "_law_in_order"]
def names : List PySem.Str := names_0 ++ names_1 ++ names_2 ++ names_3 ++ names_4
def fn_0 : List He.DefD := [dd "is_number" 20, dd "is_whole" 21, dd "kind_of" 45, dd "_sized_kind" 46, dd "_bare_kind" 47, dd "need_ring" 51, dd "need_web" 55, dd "_is_web" 56, dd "_is_step" 57, dd "need_state" 58]
def fn_1 : List He.DefD := [dd "is_path" 59, dd "path_weight" 60, dd "by_states" 61, dd "by_best" 68, dd "_sum_turned" 72, dd "_sum_joined" 73, dd "_zero" 74, dd "_product_turned" 75, dd "_product_joined" 76, dd "_one" 77]
def fn_2 : List He.DefD := [dd "_nought" 78, dd "_spread" 79, dd "_joined" 80, dd "first_broken" 82, dd "_rows" 83, dd "ring_of" 89, dd "_has_form" 90, dd "_are_tables" 91, dd "_is_table" 92, dd "_is_row" 93]
def fn_3 : List He.DefD := [dd "_tables" 94, dd "by_rounds" 96, dd "why_endless" 102, dd "paper" 108, dd "check" 109, dd "_law_mixed" 114, dd "_law_draw" 115, dd "_law_next" 116, dd "_law_ring" 117, dd "_law_zero" 118]
def fn_4 : List He.DefD := [dd "_law_one" 119, dd "_law_lowest" 120, dd "_law_weight" 121, dd "_law_turned" 122, dd "_law_web" 123, dd "_law_whole" 124, dd "_law_good" 125, dd "_law_is_web" 126, dd "_law_spoilt" 127, dd "_law_open" 128]
def fn_5 : List He.DefD := [dd "_law_word" 129, dd "_law_told" 130, dd "_law_in_order" 131, dd "law" 132, dm "Kind" "__init__" 23 0, dm "Counted" "__init__" 24 0, dm "Finite" "__init__" 31 0, dm "Truth" "__init__" 41 0, dm "Count" "__init__" 27 0, dm "Bounded" "__init__" 28 0]
def fn_6 : List He.DefD := [dm "Narrow" "__init__" 29 0, dm "Share" "__init__" 42 0, dm "Lot" "__init__" 43 0, dm "Pair" "__init__" 35 0, dm "Rest" "__init__" 32 0, dm "Terms" "__init__" 36 0, dm "Table" "__init__" 33 0, dm "Ring" "__init__" 49 0, dm "BadRing" "__init__" 4 0, dm "NotClosed" "__init__" 13 0]
def fn_7 : List He.DefD := [dm "BadWeb" "__init__" 8 0, dm "BadNumber" "__init__" 7 0, dm "BadPath" "__init__" 9 0, dm "Kind" "text" 23 1, dm "Kind" "zero" 23 2, dm "Kind" "one" 23 3, dm "Kind" "closed" 23 4, dm "Endless" "closed" 26 0, dm "Topped" "closed" 40 0, dm "Pair" "closed" 35 1]
def fn_8 : List He.DefD := [dm "Counted" "fits" 24 2, dm "Bounded" "fits" 28 1, dm "Finite" "fits" 31 2, dm "Counted" "good" 24 1, dm "Truth" "good" 41 2, dm "Share" "good" 42 1, dm "Lot" "good" 43 2, dm "Pair" "good" 35 3, dm "Terms" "good" 36 1, dm "Ring" "made" 49 2]
def fn_9 : List He.DefD := [dm "Ring" "is_closed" 49 5, dm "Ring" "good" 49 7]
def fn0 : List He.DefD := fn_0
def fnA : List He.DefD := fn_1 ++ fn_2 ++ fn_3 ++ fn_4 ++ fn_5
def fnB : List He.DefD := fn_6 ++ fn_7 ++ fn_8 ++ fn_9
def fn : List He.DefD := (fn0 ++ fnA) ++ fnB
def fa_0 : List He.Fa := [.glo "is_number", .glo "is_whole", .glo "kind_of", .glo "_sized_kind", .glo "_bare_kind", .glo "need_ring", .glo "need_web", .glo "_is_web", .glo "_is_step", .glo "need_state", .glo "is_path", .glo "path_weight", .glo "by_states", .glo "by_best", .glo "_joined", .glo "first_broken", .glo "_rows", .glo "ring_of", .glo "_has_form", .glo "_are_tables"]
def fa_1 : List He.Fa := [.glo "_is_table", .glo "_is_row", .glo "_tables", .glo "by_rounds", .glo "why_endless", .glo "paper", .glo "check", .glo "_law_mixed", .glo "_law_draw", .glo "_law_next", .glo "_law_ring", .glo "_law_zero", .glo "_law_one", .glo "_law_lowest", .glo "_law_weight", .glo "_law_turned", .glo "_law_web", .glo "_law_whole", .glo "_law_good", .glo "_law_is_web"]
def fa_2 : List He.Fa := [.glo "_law_spoilt", .glo "_law_open", .glo "_law_word", .glo "_law_told", .glo "_law_in_order", .glo "law", .glo "Refused", .glo "BadRing", .glo "BadNumber", .glo "BadWeb", .glo "BadPath", .glo "Unreckoned", .glo "NoOrder", .glo "NotClosed", .glo "Kind", .glo "Counted", .glo "Endless", .glo "Count", .glo "Bounded", .glo "Narrow"]
def fa_3 : List He.Fa := [.glo "Finite", .glo "Rest", .glo "Table", .glo "Pair", .glo "Terms", .glo "Topped", .glo "Truth", .glo "Share", .glo "Lot", .glo "Ring", .int "_STATES" 12, .int "_STEPS" 80, .int "_PAIRS" 3, .free "all", .free "bool", .free "int", .free "isinstance", .free "len", .free "list", .free "max"]
def fa_4 : List He.Fa := [.free "min", .free "range", .free "repr", .free "str", .free "tuple", .free "zip", .glo "_BARE", .glo "_SIZES", .glo "_THINGS", .glo "_RULES", .cls "Truth", .cls "Count", .cls "Bounded", .cls "Narrow", .cls "Share", .cls "Lot", .cls "Pair", .cls "Rest", .cls "Terms", .cls "Table"]
def fa_5 : List He.Fa := [.cls "Ring", .mkr "Truth", .mkr "Count", .mkr "Bounded", .mkr "Narrow", .mkr "Share", .mkr "Lot", .mkr "Pair", .mkr "Rest", .mkr "Terms", .mkr "Table", .mkr "Ring"]
def fa : List He.Fa := fa_0 ++ fa_1 ++ fa_2 ++ fa_3 ++ fa_4 ++ fa_5
abbrev R : PySem.W.OpenRow := PySem.W.OpenLaw.row PySem.Challenge.rw_semirail_k15_what_is_a_web
/-! the addresses that the facts ask for, level by level, no class's bases -/
def outs (g : Addr → Option Obj) (a : Addr) : List Addr := match g a with
  | some o => (match o.data with
    | .func fd => He.refV fd.code ++ He.refV fd.defaults ++ He.refV fd.kwdefaults ++ fd.closure.map (·.2)
    | .cls cd => [cd.ns]
    | .seq its _ => its.toList.flatMap He.refV
    | .dict es _ => es.toList.flatMap fun e => He.refV e.val
    | .fields vs => vs.toList.flatMap He.refV
    | .cell (some v) => He.refV v
    | _ => [])
  | none => []
def levs (g : Addr → Option Obj) : Nat → List Addr → List Addr
  | 0, _ => []
  | n + 1, l => l ++ levs g n (l.flatMap (outs g))
def adrs (g : Addr → Option Obj) : List Addr := cStatics :: sysModules :: levs g 7 [mainGlobals]
def frK (g : Addr → Option Obj) : PySem.W.Frag := He.frG g (adrs g)
def keys : List Str := ["lot", "rest", "terms"]
structure SaysL (w : World) (K : PySem.W.Frag) : Prop where
  d : He.SaysD fa fn K
  more : D1.ex K = true
  tab : He.dicW K (He.ga K "_SIZES") = some (He.keysIn w.params keys)
abbrev AlL : Type := He.AlD × (Bool × Option (List (Option (Str × Int))))
def obsK (K : PySem.W.Frag) : AlL := (He.obsD fa fn K, (D1.ex K, He.dicW K (He.ga K "_SIZES")))
def obsL (g : Addr → Option Obj) : AlL := obsK (frK g)
def hk : PySem.W.Hook where
  α := AlL
  obs := fun s => obsL s.heap.get?
  val := fun w => (He.valD fn, (true, some (He.keysIn w.params keys)))
  says := fun w h => ∃ K : PySem.W.Frag, K.In h ∧ SaysL w K
  of := fun _ _ e => ⟨_, He.frG_in, congrArg (fun z : AlL => z.1) e, congrArg (fun z : AlL => z.2.1) e, congrArg (fun z : AlL => z.2.2) e⟩
  keeps := fun _ _ _ ⟨K, hK, c⟩ k => ⟨K, PySem.W.Frag.In.keeps hK k, c⟩
theorem obsL_eq {g : Addr → Option Obj} {s : Shared} (h : ∀ a, g a = s.heap.get? a) : obsL g = hk.obs s := by
  have e : g = s.heap.get? := funext h
  rw [e] <;> rfl
def ob (s : PySem.W.SharedT) : AlL := obsL (HandSHeadRun.getT s)
theorem ob_eq (s : PySem.W.SharedT) : ob s = hk.obs s.abs := obsL_eq (HandSHeadRun.getT_eq s)
/-- the run of the top, and one thing told of its end -/
noncomputable def told {α : Type} (w : World) (g : Shared × PySem.W.SharedT → α) : Option α := (HandSHeadRun.wholeF (fun p => HandSHeadRun.stepQ (HandSHeadRun.denQ HandSHeadRun.tabQ) p w) HandSHeadRun.fenceQ 20000 R.prog).map g
abbrev wf (w : World) (b : Bool) : World := w.withFollow "special-get-raises" b
end W15
end
section
set_option Elab.async false
set_option linter.all false
set_option maxRecDepth 100000
set_option maxHeartbeats 0
/-! H15b: what the run of the top tells, in three parts for each of the two worlds -/
namespace W15
open PySem PySem.Spec PyProof.Rows L2
abbrev q15 : Program := PySem.W.view R.prog [0, 132]
theorem join3 {α β γ δ ε : Type} {x : Option α} {f : α → β} {g : α → γ} {o : α → δ} {e : α → ε} {b : β} {c : γ} {d : δ} {k : ε} (h1 : x.map (fun a => (f a, g a)) = some (b, c)) (h2 : x.map o = some d) (h3 : x.map e = some k) : x.map (fun a => (f a, g a, o a, e a)) = some (b, c, d, k) := by
  cases x with
  | none => cases h2
  | some a =>
    have h1' := Option.some.inj h1
    obtain ⟨rfl, rfl⟩ := Prod.mk.inj h1'
    obtain rfl := Option.some.inj h2
    obtain rfl := Option.some.inj h3
    rfl
theorem splitD {α : Type} {x : Option α} {k : α → PySem.W.Frag} {fa : List He.Fa} {A B : List He.DefD} (h1 : x.map (fun a => He.obsD fa A (k a)) = some (He.valD A)) (h2 : x.map (fun a => He.obsD [] B (k a)) = some (He.valD B)) : x.map (fun a => He.obsD fa (A ++ B) (k a)) = some (He.valD (A ++ B)) := by
  cases x with
  | none => cases h2
  | some a =>
    have e1 := Option.some.inj h1
    have e2 := Option.some.inj h2
    have a1 := congrArg Prod.fst e1
    have a2 := congrArg Prod.fst e2
    have b1 := congrArg Prod.snd e1
    have b2 := congrArg Prod.snd e2
    simp only [He.obsD, He.valD] at a1 a2 b1 b2
    show some _ = some _
    congr 1
    simp only [He.obsD, He.valD, List.all_append, List.map_append, b1, b2, Prod.mk.injEq, and_true]
    simp only [Bool.and_eq_true, List.all_nil, Bool.true_and] at a1 a2 ⊢
    exact ⟨a1.1, a1.2, a2⟩
theorem splitL {α β γ : Type} {x : Option α} {f : α → β} {g : α → γ} {b : β} {c : γ} (h1 : x.map f = some b) (h2 : x.map g = some c) : x.map (fun a => (f a, g a)) = some (b, c) := by
  cases x with
  | none => cases h1
  | some a =>
    have e1 := Option.some.inj h1
    have e2 := Option.some.inj h2
    show some (f a, g a) = some (b, c)
    rw [e1, e2]
theorem joinA {α : Type} {x : Option α} {a e : α → Bool} (h : x.map (fun z => (a z, e z)) = some (true, true)) : x.map a = some true ∧ x.map e = some true := by
  cases x with
  | none => cases h
  | some z =>
    have h1 := Prod.mk.inj (Option.some.inj h)
    exact ⟨congrArg some h1.1, congrArg some h1.2⟩
theorem andL {α : Type} {x : Option α} {a r f : α → Bool} (hf : ∀ z, f z = (a z && r z)) (h1 : x.map a = some true) (h2 : x.map r = some true) : x.map f = some true := by
  cases x with
  | none => cases h1
  | some z =>
    have e1 : a z = true := Option.some.inj h1
    have e2 : r z = true := Option.some.inj h2
    show some (f z) = some true
    rw [hf, e1, e2]
    rfl
theorem andE {α γ : Type} {x : Option α} {a r f : α → Bool} {g : α → γ} {c : γ} (hf : ∀ z, f z = (a z && r z)) (h1 : x.map a = some true) (h2 : x.map (fun z => (r z, g z)) = some (true, c)) : x.map (fun z => (f z, g z)) = some (true, c) := by
  cases x with
  | none => cases h1
  | some z =>
    have e1 : a z = true := Option.some.inj h1
    have e2 := Prod.mk.inj (Option.some.inj h2)
    show some (f z, g z) = some (true, c)
    rw [hf, e1, e2.1, e2.2]
    rfl
theorem la_f (w : World) : told (wf w false) (fun x => (PySem.W.staticsOk (importedModules R.prog.main.body) x.1.heap x.2.abs.heap, D1.exA (frK (HandSHeadRun.getT x.2)))) = some (true, true) := by
  unfold told
  kernel_rfl
theorem lc_f (w : World) : told (wf w false) (fun x => PySem.W.namesBound R.prog x.2.abs.heap && (PySem.W.gensDone x.2.abs && PySem.W.laidKept x.1.heap x.2.abs.heap)) = some (true) := by
  unfold told
  kernel_rfl
theorem l1_f (w : World) : told (wf w false) (fun x => HandSHeadRun.looksF R.prog x.1.heap x.2.abs) = some true := by
  have h1 := la_f w
  have h2 := lc_f w
  unfold told at h1 h2 ⊢
  exact andL (fun z => by unfold HandSHeadRun.looksF; rw [Bool.and_assoc, Bool.and_assoc]) (joinA h1).1 h2
theorem l2_f (w : World) : told (wf w false) (fun x => HandSHeadRun.seenQ q15 names (importedModules R.prog.main.body) (fun s => PySem.W.xlAt q15 [] s && PySem.W.recOk R.toRowW.records s) x.2.abs) = some (PySem.W.openGood q15 names) := by
  unfold told
  kernel_rfl
theorem l_f (w : World) : told (wf w false) (fun x => (HandSHeadRun.looksF R.prog x.1.heap x.2.abs, HandSHeadRun.seenQ q15 names (importedModules R.prog.main.body) (fun s => PySem.W.xlAt q15 [] s && PySem.W.recOk R.toRowW.records s) x.2.abs)) = some (true, PySem.W.openGood q15 names) := by
  have h1 := l1_f w
  have h2 := l2_f w
  unfold told at h1 h2 ⊢
  exact splitL h1 h2
theorem o0_f (w : World) : told (wf w false) (fun x => He.obsD fa fn0 (frK (HandSHeadRun.getT x.2))) = some (He.valD fn0) := by
  unfold told
  kernel_rfl
theorem o3_f (w : World) : told (wf w false) (fun x => He.obsD [] fnA (frK (HandSHeadRun.getT x.2))) = some (He.valD fnA) := by
  unfold told
  kernel_rfl
theorem o1_f (w : World) : told (wf w false) (fun x => He.obsD fa (fn0 ++ fnA) (frK (HandSHeadRun.getT x.2))) = some (He.valD (fn0 ++ fnA)) := by
  have h1 := o0_f w
  have h2 := o3_f w
  unfold told at h1 h2 ⊢
  exact splitD h1 h2
theorem o2_f (w : World) : told (wf w false) (fun x => He.obsD [] fnB (frK (HandSHeadRun.getT x.2))) = some (He.valD fnB) := by
  unfold told
  kernel_rfl
theorem o_f (w : World) : told (wf w false) (fun x => He.obsD fa fn (frK (HandSHeadRun.getT x.2))) = some (He.valD fn) := by
  have h1 := o1_f w
  have h2 := o2_f w
  unfold told at h1 h2 ⊢
  exact splitD h1 h2
theorem e2_f (w : World) : told (wf w false) (fun x => (D1.exB (frK (HandSHeadRun.getT x.2)), He.dicW (frK (HandSHeadRun.getT x.2)) (He.ga (frK (HandSHeadRun.getT x.2)) "_SIZES"))) = some (true, some (He.keysIn (wf w false).params keys)) := by
  unfold told
  kernel_rfl
theorem e_f (w : World) : told (wf w false) (fun x => (D1.ex (frK (HandSHeadRun.getT x.2)), He.dicW (frK (HandSHeadRun.getT x.2)) (He.ga (frK (HandSHeadRun.getT x.2)) "_SIZES"))) = some (true, some (He.keysIn (wf w false).params keys)) := by
  have h1 := la_f w
  have h2 := e2_f w
  unfold told at h1 h2 ⊢
  exact andE (fun _ => rfl) (joinA h1).2 h2
theorem run_f (w : World) : HandSHeadRun.RunEqI R (PySem.W.view R.prog [0, 132]) hk ob 20000 names (wf w false) := by
  unfold HandSHeadRun.RunEqI
  exact join3 (l_f w) (o_f w) (e_f w)
theorem la_t (w : World) : told (wf w true) (fun x => (PySem.W.staticsOk (importedModules R.prog.main.body) x.1.heap x.2.abs.heap, D1.exA (frK (HandSHeadRun.getT x.2)))) = some (true, true) := by
  unfold told
  kernel_rfl
theorem lc_t (w : World) : told (wf w true) (fun x => PySem.W.namesBound R.prog x.2.abs.heap && (PySem.W.gensDone x.2.abs && PySem.W.laidKept x.1.heap x.2.abs.heap)) = some (true) := by
  unfold told
  kernel_rfl
theorem l1_t (w : World) : told (wf w true) (fun x => HandSHeadRun.looksF R.prog x.1.heap x.2.abs) = some true := by
  have h1 := la_t w
  have h2 := lc_t w
  unfold told at h1 h2 ⊢
  exact andL (fun z => by unfold HandSHeadRun.looksF; rw [Bool.and_assoc, Bool.and_assoc]) (joinA h1).1 h2
theorem l2_t (w : World) : told (wf w true) (fun x => HandSHeadRun.seenQ q15 names (importedModules R.prog.main.body) (fun s => PySem.W.xlAt q15 [] s && PySem.W.recOk R.toRowW.records s) x.2.abs) = some (PySem.W.openGood q15 names) := by
  unfold told
  kernel_rfl
theorem l_t (w : World) : told (wf w true) (fun x => (HandSHeadRun.looksF R.prog x.1.heap x.2.abs, HandSHeadRun.seenQ q15 names (importedModules R.prog.main.body) (fun s => PySem.W.xlAt q15 [] s && PySem.W.recOk R.toRowW.records s) x.2.abs)) = some (true, PySem.W.openGood q15 names) := by
  have h1 := l1_t w
  have h2 := l2_t w
  unfold told at h1 h2 ⊢
  exact splitL h1 h2
theorem o0_t (w : World) : told (wf w true) (fun x => He.obsD fa fn0 (frK (HandSHeadRun.getT x.2))) = some (He.valD fn0) := by
  unfold told
  kernel_rfl
theorem o3_t (w : World) : told (wf w true) (fun x => He.obsD [] fnA (frK (HandSHeadRun.getT x.2))) = some (He.valD fnA) := by
  unfold told
  kernel_rfl
theorem o1_t (w : World) : told (wf w true) (fun x => He.obsD fa (fn0 ++ fnA) (frK (HandSHeadRun.getT x.2))) = some (He.valD (fn0 ++ fnA)) := by
  have h1 := o0_t w
  have h2 := o3_t w
  unfold told at h1 h2 ⊢
  exact splitD h1 h2
theorem o2_t (w : World) : told (wf w true) (fun x => He.obsD [] fnB (frK (HandSHeadRun.getT x.2))) = some (He.valD fnB) := by
  unfold told
  kernel_rfl
theorem o_t (w : World) : told (wf w true) (fun x => He.obsD fa fn (frK (HandSHeadRun.getT x.2))) = some (He.valD fn) := by
  have h1 := o1_t w
  have h2 := o2_t w
  unfold told at h1 h2 ⊢
  exact splitD h1 h2
theorem e2_t (w : World) : told (wf w true) (fun x => (D1.exB (frK (HandSHeadRun.getT x.2)), He.dicW (frK (HandSHeadRun.getT x.2)) (He.ga (frK (HandSHeadRun.getT x.2)) "_SIZES"))) = some (true, some (He.keysIn (wf w true).params keys)) := by
  unfold told
  kernel_rfl
theorem e_t (w : World) : told (wf w true) (fun x => (D1.ex (frK (HandSHeadRun.getT x.2)), He.dicW (frK (HandSHeadRun.getT x.2)) (He.ga (frK (HandSHeadRun.getT x.2)) "_SIZES"))) = some (true, some (He.keysIn (wf w true).params keys)) := by
  have h1 := la_t w
  have h2 := e2_t w
  unfold told at h1 h2 ⊢
  exact andE (fun _ => rfl) (joinA h1).2 h2
theorem run_t (w : World) : HandSHeadRun.RunEqI R (PySem.W.view R.prog [0, 132]) hk ob 20000 names (wf w true) := by
  unfold HandSHeadRun.RunEqI
  exact join3 (l_t w) (o_t w) (e_t w)
theorem run (w : World) : HandSHeadRun.RunEqI R (PySem.W.view R.prog [0, 132]) hk ob 20000 names w := PySem.W.byRow2 "special-get-raises" (P := fun w => HandSHeadRun.RunEqI R (PySem.W.view R.prog [0, 132]) hk ob 20000 names w) run_f run_t w
end W15
end
section
set_option Elab.async false
set_option linter.all false
set_option maxRecDepth 100000
set_option maxHeartbeats 4000000
/-! X1: own exceptions of any of the eleven bases, made with positional arguments and keywords -/
namespace PySem
namespace VX
open PySem.W PySem.Calls PyProof.Rows PySem.HandSPX
section
variable {M : Model} {A : Around} {E : Value → Shared → Prop} {h : Heap} {g : Array GenState} {d : Drawn} {t : Nat} {os : OsState}
variable {nm q : Str} {C N : Addr} {bs bm bmB : List Value} {hdct : Bool} {sn : List Str} {sub : List Value} {ab : Bool} {col : Option Bool} {dd : Option Addr} {k0 k1 k2 k3 k5 : Option Value} {B newId initId : String}
theorem newGuardK (F : ExcBaseFacts B newId initId bmB) (hT : ∀ X : String, bm.contains (.type X) = bmB.contains (.type X)) {rest : List Value} {kw : List (Str × Value)} {Q : Unit → Shared → Prop}
    (hC : h.get? C = some (excClassObj nm q C N bs bm hdct sn sub ab col dd k0 k1 k2 k3 k5 newId)) (hq : Q () ⟨h, g, d, t, os⟩) :
    wpAny M A (checkBuiltinCall newId ⟨.ref C :: rest, kw⟩) Q E ⟨h, g, d, t, os⟩ := by
  have inB : (Value.ref C :: bm).contains (.type B) = true := by rw [List.contains_cons, hT, F.hasB]; exact Bool.or_true _
  have star := F.noStar
  simp only [checkBuiltinCall, F.newKind, F.newSplit, F.newRow]
  repeat (first
    | refine wpAny_loadPart_at hC ?_
    | (refine wpAny_isSubtype_exc hC ?_; rw [inB])
    | refine wpAny_staticBase_exc hC ?_
    | refine wpAny_madeBy_exc hC ?_
    | simp only [bne_self_eq_false, Bool.false_eq_true, if_false]
    | wp_step)
  exact hq
end
section
variable {prog : Program} {w : World} {A : Around} {E : Value → Shared → Prop} {R : Result → Shared → Prop} {h : Heap} {g : Array GenState} {d : Drawn} {t : Nat} {os : OsState}
variable {nm q : Str} {C N : Addr} {bs bm bmB : List Value} {hdct : Bool} {sn : List Str} {sub : List Value} {ab : Bool} {col : Option Bool} {dd : Option Addr} {k0 k1 k2 k3 k5 : Option Value} {B newId initId : String}
theorem newK (F : ExcBaseFacts B newId initId bmB) (hT : ∀ X : String, bm.contains (.type X) = bmB.contains (.type X)) {rest : List Value} {kw : List (Str × Value)}
    (hC : h.get? C = some (excClassObj nm q C N bs bm hdct sn sub ab col dd k0 k1 k2 k3 k5 newId))
    (hq : R (.ok (.ret (.ref (h.objs.size + 1)))) ⟨(h.push (kdv_tup rest)).push (excO C h.objs.size), g, d, t, os⟩) (hrest : rest.length ≤ sizeLine) :
    codeAny (model prog w) A (.builtin newId ⟨.ref C :: rest, kw⟩) R ⟨h, g, d, t, os⟩ := by
  have ends := F.ends
  have inB : (Value.ref C :: bm).contains (.type B) = true := by rw [List.contains_cons, hT, F.hasB]; exact Bool.or_true _
  have inA : (Value.ref C :: bm).contains (.type "AttributeError") = false := by rw [List.contains_cons, hT, F.noAttr] <;> rfl
  have inN : (Value.ref C :: bm).contains (.type "NameError") = false := by rw [List.contains_cons, hT, F.noName] <;> rfl
  refine codeAny_builtinAt F.entry ?_
  unfold Builtin.«BaseException.__new__»
  refine wpAt_bind ?_
  show wpAt _ _ _ (stack >>= _) _ _ _
  refine wpAt_bind (wpAt_stack fun p below => wpAt_of_wpAny ?_)
  wp_walk
  refine wpAt_of_wpAny ?_
  rw [F.owner]
  repeat (first
    | with_reducible refine wpAny_madeHere_exc F.canon hC ?_
    | with_reducible refine wpAny_loadPart_at hC ?_
    | (with_reducible refine wpAny_isSubtype_exc hC ?_; first | rw [inB] | rw [inA] | rw [inN])
    | wp_step)
  show R _ _
  rw [Heap.size_push]
  exact hq
theorem typeCallK (F : ExcBaseFacts B newId initId bmB) (hT : ∀ X : String, bm.contains (.type X) = bmB.contains (.type X)) {rest : List Value} {kw : List (Str × Value)} {fI : Addr} {Q : Fin → Shared → Prop}
    (hC : h.get? C = some (excClassObj nm q C N bs bm hdct sn sub ab col dd k0 k1 k2 k3 k5 newId))
    (hi : W.Looks (model prog w) h (typeLookup (.ref C) "__init__") (some (.ref fI))) (hb : ∀ self, W.Looks (model prog w) h (bindSpecial (.ref fI) self) (.ref fI, [self])) (hrest : rest.length ≤ sizeLine)
    (hq : codeAny (model prog w) A (.call (.ref fI) ⟨.ref (h.objs.size + 1) :: rest, kw⟩)
      (fun r s' => match r with | .ok (.ret v) => v = .none ∧ Q (.done (.ret (.ref (h.objs.size + 1)))) s' | .ok _ => False | .error e => E e s')
      ⟨(h.push (kdv_tup rest)).push (excO C h.objs.size), g, d, t, os⟩) :
    wpAny (model prog w) A (Builtin.«type.__call__» ⟨.ref C :: rest, kw⟩) Q E ⟨h, g, d, t, os⟩ := by
  repeat (first
    | with_reducible refine wpAny_loadPart_at hC ?_
    | with_reducible refine wpAny_madeBy_exc hC ?_
    | wp_step)
  refine codeAny_call_builtin_code (Code.quiet_builtin _ F.quiet) (newGuardK F hT hC ?_)
  refine newK F hT hC ?_ hrest
  show wpAny _ _ _ _ _ _
  have up : ∀ b o, h.get? b = some o → ((h.push (kdv_tup rest)).push (excO C h.objs.size)).get? b = some o := fun b o e => Heap.get?_push_of_some _ (Heap.get?_push_of_some _ e)
  have hC2 := up _ _ hC
  have here : ((h.push (kdv_tup rest)).push (excO C h.objs.size)).get? (h.objs.size + 1) = some (excO C h.objs.size) := by heap_get
  have inC : (Value.ref C :: bm).contains (.ref C) = true := by simp
  have i2 := hi.keeps up
  have b2 := (hb (.ref (h.objs.size + 1))).keeps up
  unfold isInstance
  repeat (first
    | with_reducible refine wpAny_loadPart_at here ?_
    | (with_reducible refine wpAny_isSubtype_exc hC2 ?_; rw [inC])
    | wp_step)
  show wpAny _ _ (typeLookup (.ref C) _) _ _ _
  refine i2.at ?_
  refine wpAny_holding (wpAny_bind (b2.at ?_))
  refine wpAny_bind (wpAny_call (codeAny_mono hq fun r s' z => ?_))
  rcases r with e | (v | _ | _ | _) <;> first | exact z | exact z.elim | skip
  obtain ⟨rfl, z⟩ := z
  first
    | exact wpAny_pure (wpAny_pure z)
    | (wp_walk; exact z)
end
section
variable {prog : Program} {w : World} {A : Around} {E : Value → Shared → Prop} {R : Result → Shared → Prop} {s : Shared} {K : Frag} {C fI : Addr} {bmB : List Value} {B newId initId : String}
/-- C(.., k = v): the object and its args are laid, then the class's own __init__ runs -/
theorem callK (F : ExcBaseFacts B newId initId bmB) (X : K.In s.heap) (q : excInitIn K C bmB newId = true) {rest : List Value} {kw : List (Str × Value)}
    (iC : findIn K (.ref C) "__init__" = some (some (.ref fI))) (tI : typeIn K (.ref fI) = some (.type "function")) (hrest : rest.length ≤ sizeLine)
    (hq : codeAny (model prog w) (A.under (.builtin "type.__call__" ⟨.ref C :: rest, kw⟩)) (.call (.ref fI) ⟨.ref (s.heap.objs.size + 1) :: rest, kw⟩) (W.InitBack (s.heap.objs.size + 1) R)
      { s with heap := (s.heap.push (kdv_tup rest)).push (excO C s.heap.objs.size) }) :
    codeAny (model prog w) A (.call (.ref C) ⟨rest, kw⟩) R s := by
  obtain ⟨nm, N', qn, bs, bm, hdct, sn, sub, ab, col, dd, k0, k1, k2, k3, k5, hC, hT⟩ := excInit_of X q
  have hi : W.Looks (model prog w) s.heap (typeLookup (.ref C) "__init__") (some (.ref fI)) := looks_findIn X iC
  have hb : ∀ self, W.Looks (model prog w) s.heap (bindSpecial (.ref fI) self) (.ref fI, [self]) := fun self => bind_fn X self tI
  obtain ⟨h, g, d, t, os⟩ := s
  have f1 := tc_lookup
  have f2 := tc_bind (.ref C)
  have hTy : (⟨h, g, d, t, os⟩ : Shared).TypeIs (.ref C) "type" := ⟨_, hC, rfl⟩
  refine codeAny_of_tree ?_
  show wpAny _ _ (callAny (.ref C) _) _ _ _
  repeat (any_goals (first | assumption | with_reducible refine wpAny_loadPart_at hC ?_ | wp_step))
  refine ⟨rfl, ?_⟩
  refine codeAny_call_builtin_at (Code.quiet_builtin _ (by decide +kernel)) entry_typeCall (wpAny_check_type_call_sub hC (typeCallK F hT hC hi hb hrest ?_))
  refine codeAny_mono hq fun r s' z => ?_
  rcases r with e | (v | _ | _ | _) <;> exact z
end
end VX
end PySem
end
section
set_option Elab.async false
set_option linter.all false
set_option maxRecDepth 100000
set_option maxHeartbeats 4000000
/-! X2: fields stored into such an exception -/
namespace PySem
namespace VX
open PySem.W PySem.Calls PyProof.Rows PySem.HandSPX
section
open Builtin Builtin.ObjectAttr
variable {prog : Program} {w : World} {A : Around} {R : Result → Shared → Prop} {K : Frag} {hp : Heap} {g : Array GenState} {d : Drawn} {t : Nat} {os : OsState} {C x dx : Addr} {bmB : List Value} {B : String} {name : Str} {tk : Tok} {v : Value} {fv : Array Value} {m0 : Str → Option Value} {nl : List Str}
/-- the first field: the dict is made -/
theorem storeFirst (SF : StoreFacts B bmB "object.__setattr__" "object") (X : K.In hp) (hx : hp.get? x = some { cls := .ref C, data := .fields fv }) (q : excOver K C bmB = true) (hh : hasDictIn K C = true) (ta : takerIn K C name = some none)
    (hq : ∀ h' tk' dx, (∀ b o, b ≠ x → hp.get? b = some o → h'.get? b = some o) → hp.objs.size ≤ dx → dx ≠ x → h'.get? x = some { cls := .ref C, dict := some dx, data := .fields fv } →
      h'.Ns1 dx (fun y => if y = name then some v else none) → R (.ok (.ret .none)) ⟨h', g, d, tk', os⟩) :
    codeAny (model prog w) A (.call (.builtin "object.__setattr__") ⟨[.ref x, .str name tk, v], []⟩) R ⟨hp, g, d, t, os⟩ := by
  obtain ⟨cd, hcd, hd'⟩ := any_some hh
  have lk : W.Looks (model prog w) hp (classData C) cd := looks_clsIn X hcd
  have nx : x ≠ hp.objs.size := Nat.ne_of_lt (Heap.lt_size hx)
  refine osa_openX (od := none) (ox := { cls := .ref C, data := .fields fv }) SF X ⟨hx, rfl, rfl, trivial⟩ q ta fun b => ?_
  show wpAny _ _ (storeInOwnDict (.ref x) (.ref C) (.str name tk) name v b) _ _ _
  obtain ⟨nm, bs, mro, ns, qn, hd, sn, sb, ab, col, del⟩ := cd
  dsimp only at hd'
  subst hd'
  unfold storeInOwnDict ownDictForStores
  repeat (first
    | with_reducible refine store_in_new ?_ ?_
    | with_reducible refine wpAny_loadPart_at hx ?_
    | with_reducible refine lk.at ?_
    | wp_step)
  · exact ⟨_, #[], _, (Heap.get?_update_ne _ _ _ _ nx.symm).trans (Heap.get?_push_at rfl rfl), rfl, fun e he => absurd he (by simp), fun _ => rfl⟩
  · intro h' tk' hn' hs
    have hx1 : (hp.push { cls := .type "dict", data := .dict #[] }).get? x = some { cls := .ref C, data := .fields fv } := Heap.get?_push_of_some _ hx
    refine hq h' tk' hp.objs.size (fun b o hb ho => ?_) (Nat.le_refl _) nx.symm ?_ hn'
    · exact (hs.2 b (Nat.ne_of_lt (Heap.lt_size ho))).trans ((Heap.get?_update_ne _ _ _ _ hb).trans (Heap.get?_push_of_some _ ho))
    · exact (hs.2 x nx).trans (Heap.get?_update_self _ hx1 rfl)
/-- a further field -/
theorem storeNext (SF : StoreFacts B bmB "object.__setattr__" "object") (X : K.In hp) (hx : hp.get? x = some { cls := .ref C, dict := some dx, data := .fields fv }) (hns : hp.Ns1 dx m0) (hw : Within m0 nl) (hz : nl.length ≤ 1000)
    (q : excOver K C bmB = true) (hh : hasDictIn K C = true) (ta : takerIn K C name = some none)
    (hq : ∀ h' tk', (∀ b o, b ≠ dx → hp.get? b = some o → h'.get? b = some o) → h'.Ns1 dx (fun y => if y = name then some v else m0 y) → R (.ok (.ret .none)) ⟨h', g, d, tk', os⟩) :
    codeAny (model prog w) A (.call (.builtin "object.__setattr__") ⟨[.ref x, .str name tk, v], []⟩) R ⟨hp, g, d, t, os⟩ := by
  obtain ⟨oD, esD, epD, hoD, hdD, _⟩ := hns.count hw
  obtain ⟨cd, hcd, hd'⟩ := any_some hh
  have lk : W.Looks (model prog w) hp (classData C) cd := looks_clsIn X hcd
  refine osa_openX (od := some oD) (ox := { cls := .ref C, dict := some dx, data := .fields fv }) SF X ⟨hx, rfl, rfl, hoD⟩ q ta fun b => ?_
  show wpAny _ _ (storeInOwnDict (.ref x) (.ref C) (.str name tk) name v b) _ _ _
  obtain ⟨nm, bs, mro, ns, qn, hd, sn, sb, ab, col, del⟩ := cd
  dsimp only at hd'
  subst hd'
  unfold storeInOwnDict ownDictForStores
  repeat (first
    | with_reducible refine OEX.store_in_old hns hw hz ?_
    | with_reducible refine wpAny_loadPart_at hx ?_
    | with_reducible refine lk.at ?_
    | wp_step)
  intro h' tk' hn' hs
  exact hq h' tk' (fun b o hb ho => (hs.2 b hb).trans ho) hn'
end
end VX
end PySem
end
section
set_option Elab.async false
set_option linter.all false
set_option maxRecDepth 100000
set_option maxHeartbeats 4000000
/-! X3: the program's own __init__s, each a store of its arguments -/
namespace PySem
namespace VX
open PySem.W PySem.Calls PyProof.Rows PySem.HandSPX
/-- what the written part says of an own exception class at C, fields fn, over the built-in base B -/
structure XB (K : Frag) (bmB : List Value) (newId : String) (C : Addr) (fn : List Str) : Prop where
  ini : excInitIn K C bmB newId = true
  over : excOver K C bmB = true
  hd : hasDictIn K C = true
  sa : findIn K (.ref C) "__setattr__" = some (some (.builtin "object.__setattr__"))
  ga : findIn K (.ref C) "__getattribute__" = some (some (.builtin "BaseException.__getattribute__"))
  gg : findIn K (.ref C) "__getattr__" = some none
  ca : findIn K (.ref C) "__class__" = some (some (.builtin "object.__class__"))
  mo : mroIn K C (.type "object") = some true
  no : ∀ f ∈ fn, findIn K (.ref C) f = some none
  keep : keepIn K (.ref C) = true
  exc : subIn K (.ref C) (.type "BaseException") = some true
  ty : typeIn K (.ref C) = some (.type "type")
theorem taker_of {K : Frag} {C : Addr} {f : Str} (h : findIn K (.ref C) f = some none) : takerIn K C f = some none := by
  unfold takerIn
  rw [h]
  rfl
def fS (f : Str) : Scope := { kind := .function, names := [(PySem.Str.ofString "self", .local), (f, .local)], isGenerator := false, isCoroutine := false, more := [] }
def fA (f : Str) (p1 p2 : Pos) : Arguments := { posonlyargs := [], args := [{ arg := "self", annotation := none, pos := p1 }, { arg := f, annotation := none, pos := p2 }], vararg := none, kwonlyargs := [], kw_defaults := [], kwarg := none, defaults := [] }
def fB (f : Str) (q1 q2 q3 q4 : Pos) : List Stmt := [.Assign [.Attribute (.Name "self" q1) f q2] (.Name f q3) q4]
/-- what __init__ leaves of the object at x -/
structure InitLeft (h h' : Heap) (x C dx t1 : Addr) (kvs : List (Str × Value)) : Prop where
  keep : ∀ b o, b ≠ x → h.get? b = some o → h'.get? b = some o
  obj : h'.get? x = some { cls := .ref C, dict := some dx, data := .fields #[.ref t1, .none, .none, .none, .bool false, .none] }
  dbig : h.objs.size ≤ dx
  dne : dx ≠ x
  ns : h'.Ns1 dx (fun y => kvs.lookup y)
theorem look1 (f : Str) (v : Value) : (fun y => if y = f then some v else none) = fun y => ([(f, v)] : List (Str × Value)).lookup y := by
  funext y
  by_cases e : y = f
  · subst e
    simp [List.lookup]
  · have q : (y == f) = false := by simpa using e
    rw [if_neg e]
    simp [List.lookup, q]
theorem look2 (f g : Str) (v u : Value) : (fun y => if y = g then some u else if y = f then some v else none) = fun y => ([(g, u), (f, v)] : List (Str × Value)).lookup y := by
  funext y
  by_cases e : y = g
  · subst e
    simp [List.lookup]
  · have q : (y == g) = false := by simpa using e
    rw [if_neg e]
    have l := congrFun (look1 f v) y
    rw [show (if y = f then some v else none) = _ from l]
    simp [List.lookup, q]
theorem localAt {M : Model} {s : Shared} {name : Str} {scope : Scope} {L a : Addr} {cd : Value} {m : Str → Option Value} {x : Str} {pos : Pos} {v : Value} {Q : Value → Shared → Prop} {A : Around} {E : Value → Shared → Prop}
    (hn : s.heap.Ns L m) (hv : m x = some v) (h : Q v s) (hk : scope.kind = .function := by rfl) (hl : (envOfC name scope L a cd).kindOf x = some .local := by rfl) (hd : (x == ("__debug__" : Str)) = false := by decide) :
    wpAny M A (eval (.Name x pos) (envOfC name scope L a cd)) Q E s := by
  refine wpAny_Name ?_ hd
  exact wpAny_loadName_local hk hl hn hv h
/-- the def of an __init__ with one field -/
structure Ini1 (K : Frag) (fI : Addr) (qual f : Str) (fd : FuncData) : Prop where
  ex : ∃ (oc : Value) (od : Option Addr) (doc pm : Value) (an : Option Addr) (cdv ct : Value) (osl : Array (Option Value)) (p1 p2 q1 q2 q3 q4 : Pos),
    fd = fnOf "__init__" qual (fA f p1 p2) (fB f q1 q2 q3 q4) (fS f) .none .none doc pm an cdv ct ∧ K.lookup fI = some ⟨oc, od, .func fd, osl⟩ ∧ codeIn K cdv qual = true
section
variable {prog : Program} {w : World} {A : Around} {E : Value → Shared → Prop} {R : Result → Shared → Prop} {s : Shared} {K : Frag} {C fI : Addr} {bmB : List Value} {B newId : String} {qual : Str} {fd : FuncData} {args : Args}
theorem init_what (SF : StoreFacts B bmB "object.__setattr__" "object") (T : XB K bmB newId C [("what" : Str)]) (D : Ini1 K fI qual "what" fd) {x t0 : Addr} {v : Value} (X : K.In s.heap) (hlim : s.heap.NoLimit)
    (hx : s.heap.get? x = some (excO C t0)) (hroom : A.depth < recursionLimit) (hb : BindsTo s fd args [("self", .ref x), ("what", v)])
    (hq : ∀ h' tk dx, InitLeft s.heap h' x C dx t0 [("what", v)] → R (.ok (.ret .none)) { s with heap := h', toks := tk }) :
    codeAny (model prog w) A (.call (.ref fI) args) R s := by
  obtain ⟨oc, od, doc, pm, an, cdv, ct, osl, p1, p2, q1, q2, q3, q4, rfl, ho, hcd⟩ := D.ex
  refine Att.call_fn (binds := [("self", .ref x), ("what", v)]) X hlim ho hcd hroom hb (by first | rfl | decide | with_unfolding_all rfl) (fun s1 IC => ?_) rfl rfl rfl
  obtain ⟨h1, tk1, rfl⟩ := IC.toInCall.same
  have up : ∀ b o, s.heap.get? b = some o → h1.get? b = some o := IC.toInCall.keep
  have hn := IC.toInCall.ns
  have X1 : K.In h1 := X.keeps up
  have hx1 := up _ _ hx
  show wpAny _ _ (execs _ _) _ _ _
  refine wpAny_execs_cons (plainObj_wpAny_Assign_Attribute ?_)
  refine localAt (v := v) hn (by first | rfl | with_unfolding_all rfl | kernel_rfl) (localAt (v := .ref x) hn (by first | rfl | with_unfolding_all rfl | kernel_rfl) ?_)
  refine set_plain X1 (ox := excO C t0) (od := none) ⟨hx1, rfl, rfl, trivial⟩ T.sa ?_
  refine storeFirst SF X1 hx1 T.over T.hd (taker_of (T.no _ (List.mem_cons_self ..))) (fun h3 tk3 dx k3 dn dne hx3 hn3 => ?_)
  show wpAny _ _ (execs _ _) _ _ _
  have z : s.heap.objs.size < h1.objs.size := hn.lt
  refine wpAny_execs_nil (hq h3 tk3 dx ⟨fun b o hb e => k3 b o hb (up b o e), hx3, Nat.le_of_lt (Nat.lt_of_lt_of_le z dn), dne, ?_⟩)
  rw [← look1]
  exact hn3
theorem init_why (SF : StoreFacts B bmB "object.__setattr__" "object") (T : XB K bmB newId C [("why" : Str)]) (D : Ini1 K fI qual "why" fd) {x t0 : Addr} {v : Value} (X : K.In s.heap) (hlim : s.heap.NoLimit)
    (hx : s.heap.get? x = some (excO C t0)) (hroom : A.depth < recursionLimit) (hb : BindsTo s fd args [("self", .ref x), ("why", v)])
    (hq : ∀ h' tk dx, InitLeft s.heap h' x C dx t0 [("why", v)] → R (.ok (.ret .none)) { s with heap := h', toks := tk }) :
    codeAny (model prog w) A (.call (.ref fI) args) R s := by
  obtain ⟨oc, od, doc, pm, an, cdv, ct, osl, p1, p2, q1, q2, q3, q4, rfl, ho, hcd⟩ := D.ex
  refine Att.call_fn (binds := [("self", .ref x), ("why", v)]) X hlim ho hcd hroom hb (by first | rfl | decide | with_unfolding_all rfl) (fun s1 IC => ?_) rfl rfl rfl
  obtain ⟨h1, tk1, rfl⟩ := IC.toInCall.same
  have up : ∀ b o, s.heap.get? b = some o → h1.get? b = some o := IC.toInCall.keep
  have hn := IC.toInCall.ns
  have X1 : K.In h1 := X.keeps up
  have hx1 := up _ _ hx
  show wpAny _ _ (execs _ _) _ _ _
  refine wpAny_execs_cons (plainObj_wpAny_Assign_Attribute ?_)
  refine localAt (v := v) hn (by first | rfl | with_unfolding_all rfl | kernel_rfl) (localAt (v := .ref x) hn (by first | rfl | with_unfolding_all rfl | kernel_rfl) ?_)
  refine set_plain X1 (ox := excO C t0) (od := none) ⟨hx1, rfl, rfl, trivial⟩ T.sa ?_
  refine storeFirst SF X1 hx1 T.over T.hd (taker_of (T.no _ (List.mem_cons_self ..))) (fun h3 tk3 dx k3 dn dne hx3 hn3 => ?_)
  show wpAny _ _ (execs _ _) _ _ _
  have z : s.heap.objs.size < h1.objs.size := hn.lt
  refine wpAny_execs_nil (hq h3 tk3 dx ⟨fun b o hb e => k3 b o hb (up b o e), hx3, Nat.le_of_lt (Nat.lt_of_lt_of_le z dn), dne, ?_⟩)
  rw [← look1]
  exact hn3
theorem init_line (SF : StoreFacts B bmB "object.__setattr__" "object") (T : XB K bmB newId C [("line" : Str)]) (D : Ini1 K fI qual "line" fd) {x t0 : Addr} {v : Value} (X : K.In s.heap) (hlim : s.heap.NoLimit)
    (hx : s.heap.get? x = some (excO C t0)) (hroom : A.depth < recursionLimit) (hb : BindsTo s fd args [("self", .ref x), ("line", v)])
    (hq : ∀ h' tk dx, InitLeft s.heap h' x C dx t0 [("line", v)] → R (.ok (.ret .none)) { s with heap := h', toks := tk }) :
    codeAny (model prog w) A (.call (.ref fI) args) R s := by
  obtain ⟨oc, od, doc, pm, an, cdv, ct, osl, p1, p2, q1, q2, q3, q4, rfl, ho, hcd⟩ := D.ex
  refine Att.call_fn (binds := [("self", .ref x), ("line", v)]) X hlim ho hcd hroom hb (by first | rfl | decide | with_unfolding_all rfl) (fun s1 IC => ?_) rfl rfl rfl
  obtain ⟨h1, tk1, rfl⟩ := IC.toInCall.same
  have up : ∀ b o, s.heap.get? b = some o → h1.get? b = some o := IC.toInCall.keep
  have hn := IC.toInCall.ns
  have X1 : K.In h1 := X.keeps up
  have hx1 := up _ _ hx
  show wpAny _ _ (execs _ _) _ _ _
  refine wpAny_execs_cons (plainObj_wpAny_Assign_Attribute ?_)
  refine localAt (v := v) hn (by first | rfl | with_unfolding_all rfl | kernel_rfl) (localAt (v := .ref x) hn (by first | rfl | with_unfolding_all rfl | kernel_rfl) ?_)
  refine set_plain X1 (ox := excO C t0) (od := none) ⟨hx1, rfl, rfl, trivial⟩ T.sa ?_
  refine storeFirst SF X1 hx1 T.over T.hd (taker_of (T.no _ (List.mem_cons_self ..))) (fun h3 tk3 dx k3 dn dne hx3 hn3 => ?_)
  show wpAny _ _ (execs _ _) _ _ _
  have z : s.heap.objs.size < h1.objs.size := hn.lt
  refine wpAny_execs_nil (hq h3 tk3 dx ⟨fun b o hb e => k3 b o hb (up b o e), hx3, Nat.le_of_lt (Nat.lt_of_lt_of_le z dn), dne, ?_⟩)
  rw [← look1]
  exact hn3
theorem init_step (SF : StoreFacts B bmB "object.__setattr__" "object") (T : XB K bmB newId C [("step" : Str)]) (D : Ini1 K fI qual "step" fd) {x t0 : Addr} {v : Value} (X : K.In s.heap) (hlim : s.heap.NoLimit)
    (hx : s.heap.get? x = some (excO C t0)) (hroom : A.depth < recursionLimit) (hb : BindsTo s fd args [("self", .ref x), ("step", v)])
    (hq : ∀ h' tk dx, InitLeft s.heap h' x C dx t0 [("step", v)] → R (.ok (.ret .none)) { s with heap := h', toks := tk }) :
    codeAny (model prog w) A (.call (.ref fI) args) R s := by
  obtain ⟨oc, od, doc, pm, an, cdv, ct, osl, p1, p2, q1, q2, q3, q4, rfl, ho, hcd⟩ := D.ex
  refine Att.call_fn (binds := [("self", .ref x), ("step", v)]) X hlim ho hcd hroom hb (by first | rfl | decide | with_unfolding_all rfl) (fun s1 IC => ?_) rfl rfl rfl
  obtain ⟨h1, tk1, rfl⟩ := IC.toInCall.same
  have up : ∀ b o, s.heap.get? b = some o → h1.get? b = some o := IC.toInCall.keep
  have hn := IC.toInCall.ns
  have X1 : K.In h1 := X.keeps up
  have hx1 := up _ _ hx
  show wpAny _ _ (execs _ _) _ _ _
  refine wpAny_execs_cons (plainObj_wpAny_Assign_Attribute ?_)
  refine localAt (v := v) hn (by first | rfl | with_unfolding_all rfl | kernel_rfl) (localAt (v := .ref x) hn (by first | rfl | with_unfolding_all rfl | kernel_rfl) ?_)
  refine set_plain X1 (ox := excO C t0) (od := none) ⟨hx1, rfl, rfl, trivial⟩ T.sa ?_
  refine storeFirst SF X1 hx1 T.over T.hd (taker_of (T.no _ (List.mem_cons_self ..))) (fun h3 tk3 dx k3 dn dne hx3 hn3 => ?_)
  show wpAny _ _ (execs _ _) _ _ _
  have z : s.heap.objs.size < h1.objs.size := hn.lt
  refine wpAny_execs_nil (hq h3 tk3 dx ⟨fun b o hb e => k3 b o hb (up b o e), hx3, Nat.le_of_lt (Nat.lt_of_lt_of_le z dn), dne, ?_⟩)
  rw [← look1]
  exact hn3
theorem init_most (SF : StoreFacts B bmB "object.__setattr__" "object") (T : XB K bmB newId C [("most" : Str)]) (D : Ini1 K fI qual "most" fd) {x t0 : Addr} {v : Value} (X : K.In s.heap) (hlim : s.heap.NoLimit)
    (hx : s.heap.get? x = some (excO C t0)) (hroom : A.depth < recursionLimit) (hb : BindsTo s fd args [("self", .ref x), ("most", v)])
    (hq : ∀ h' tk dx, InitLeft s.heap h' x C dx t0 [("most", v)] → R (.ok (.ret .none)) { s with heap := h', toks := tk }) :
    codeAny (model prog w) A (.call (.ref fI) args) R s := by
  obtain ⟨oc, od, doc, pm, an, cdv, ct, osl, p1, p2, q1, q2, q3, q4, rfl, ho, hcd⟩ := D.ex
  refine Att.call_fn (binds := [("self", .ref x), ("most", v)]) X hlim ho hcd hroom hb (by first | rfl | decide | with_unfolding_all rfl) (fun s1 IC => ?_) rfl rfl rfl
  obtain ⟨h1, tk1, rfl⟩ := IC.toInCall.same
  have up : ∀ b o, s.heap.get? b = some o → h1.get? b = some o := IC.toInCall.keep
  have hn := IC.toInCall.ns
  have X1 : K.In h1 := X.keeps up
  have hx1 := up _ _ hx
  show wpAny _ _ (execs _ _) _ _ _
  refine wpAny_execs_cons (plainObj_wpAny_Assign_Attribute ?_)
  refine localAt (v := v) hn (by first | rfl | with_unfolding_all rfl | kernel_rfl) (localAt (v := .ref x) hn (by first | rfl | with_unfolding_all rfl | kernel_rfl) ?_)
  refine set_plain X1 (ox := excO C t0) (od := none) ⟨hx1, rfl, rfl, trivial⟩ T.sa ?_
  refine storeFirst SF X1 hx1 T.over T.hd (taker_of (T.no _ (List.mem_cons_self ..))) (fun h3 tk3 dx k3 dn dne hx3 hn3 => ?_)
  show wpAny _ _ (execs _ _) _ _ _
  have z : s.heap.objs.size < h1.objs.size := hn.lt
  refine wpAny_execs_nil (hq h3 tk3 dx ⟨fun b o hb e => k3 b o hb (up b o e), hx3, Nat.le_of_lt (Nat.lt_of_lt_of_le z dn), dne, ?_⟩)
  rw [← look1]
  exact hn3
theorem init_name (SF : StoreFacts B bmB "object.__setattr__" "object") (T : XB K bmB newId C [("name" : Str)]) (D : Ini1 K fI qual "name" fd) {x t0 : Addr} {v : Value} (X : K.In s.heap) (hlim : s.heap.NoLimit)
    (hx : s.heap.get? x = some (excO C t0)) (hroom : A.depth < recursionLimit) (hb : BindsTo s fd args [("self", .ref x), ("name", v)])
    (hq : ∀ h' tk dx, InitLeft s.heap h' x C dx t0 [("name", v)] → R (.ok (.ret .none)) { s with heap := h', toks := tk }) :
    codeAny (model prog w) A (.call (.ref fI) args) R s := by
  obtain ⟨oc, od, doc, pm, an, cdv, ct, osl, p1, p2, q1, q2, q3, q4, rfl, ho, hcd⟩ := D.ex
  refine Att.call_fn (binds := [("self", .ref x), ("name", v)]) X hlim ho hcd hroom hb (by first | rfl | decide | with_unfolding_all rfl) (fun s1 IC => ?_) rfl rfl rfl
  obtain ⟨h1, tk1, rfl⟩ := IC.toInCall.same
  have up : ∀ b o, s.heap.get? b = some o → h1.get? b = some o := IC.toInCall.keep
  have hn := IC.toInCall.ns
  have X1 : K.In h1 := X.keeps up
  have hx1 := up _ _ hx
  show wpAny _ _ (execs _ _) _ _ _
  refine wpAny_execs_cons (plainObj_wpAny_Assign_Attribute ?_)
  refine localAt (v := v) hn (by first | rfl | with_unfolding_all rfl | kernel_rfl) (localAt (v := .ref x) hn (by first | rfl | with_unfolding_all rfl | kernel_rfl) ?_)
  refine set_plain X1 (ox := excO C t0) (od := none) ⟨hx1, rfl, rfl, trivial⟩ T.sa ?_
  refine storeFirst SF X1 hx1 T.over T.hd (taker_of (T.no _ (List.mem_cons_self ..))) (fun h3 tk3 dx k3 dn dne hx3 hn3 => ?_)
  show wpAny _ _ (execs _ _) _ _ _
  have z : s.heap.objs.size < h1.objs.size := hn.lt
  refine wpAny_execs_nil (hq h3 tk3 dx ⟨fun b o hb e => k3 b o hb (up b o e), hx3, Nat.le_of_lt (Nat.lt_of_lt_of_le z dn), dne, ?_⟩)
  rw [← look1]
  exact hn3
theorem init_users (SF : StoreFacts B bmB "object.__setattr__" "object") (T : XB K bmB newId C [("users" : Str)]) (D : Ini1 K fI qual "users" fd) {x t0 : Addr} {v : Value} (X : K.In s.heap) (hlim : s.heap.NoLimit)
    (hx : s.heap.get? x = some (excO C t0)) (hroom : A.depth < recursionLimit) (hb : BindsTo s fd args [("self", .ref x), ("users", v)])
    (hq : ∀ h' tk dx, InitLeft s.heap h' x C dx t0 [("users", v)] → R (.ok (.ret .none)) { s with heap := h', toks := tk }) :
    codeAny (model prog w) A (.call (.ref fI) args) R s := by
  obtain ⟨oc, od, doc, pm, an, cdv, ct, osl, p1, p2, q1, q2, q3, q4, rfl, ho, hcd⟩ := D.ex
  refine Att.call_fn (binds := [("self", .ref x), ("users", v)]) X hlim ho hcd hroom hb (by first | rfl | decide | with_unfolding_all rfl) (fun s1 IC => ?_) rfl rfl rfl
  obtain ⟨h1, tk1, rfl⟩ := IC.toInCall.same
  have up : ∀ b o, s.heap.get? b = some o → h1.get? b = some o := IC.toInCall.keep
  have hn := IC.toInCall.ns
  have X1 : K.In h1 := X.keeps up
  have hx1 := up _ _ hx
  show wpAny _ _ (execs _ _) _ _ _
  refine wpAny_execs_cons (plainObj_wpAny_Assign_Attribute ?_)
  refine localAt (v := v) hn (by first | rfl | with_unfolding_all rfl | kernel_rfl) (localAt (v := .ref x) hn (by first | rfl | with_unfolding_all rfl | kernel_rfl) ?_)
  refine set_plain X1 (ox := excO C t0) (od := none) ⟨hx1, rfl, rfl, trivial⟩ T.sa ?_
  refine storeFirst SF X1 hx1 T.over T.hd (taker_of (T.no _ (List.mem_cons_self ..))) (fun h3 tk3 dx k3 dn dne hx3 hn3 => ?_)
  show wpAny _ _ (execs _ _) _ _ _
  have z : s.heap.objs.size < h1.objs.size := hn.lt
  refine wpAny_execs_nil (hq h3 tk3 dx ⟨fun b o hb e => k3 b o hb (up b o e), hx3, Nat.le_of_lt (Nat.lt_of_lt_of_le z dn), dne, ?_⟩)
  rw [← look1]
  exact hn3
theorem init_circle (SF : StoreFacts B bmB "object.__setattr__" "object") (T : XB K bmB newId C [("circle" : Str)]) (D : Ini1 K fI qual "circle" fd) {x t0 : Addr} {v : Value} (X : K.In s.heap) (hlim : s.heap.NoLimit)
    (hx : s.heap.get? x = some (excO C t0)) (hroom : A.depth < recursionLimit) (hb : BindsTo s fd args [("self", .ref x), ("circle", v)])
    (hq : ∀ h' tk dx, InitLeft s.heap h' x C dx t0 [("circle", v)] → R (.ok (.ret .none)) { s with heap := h', toks := tk }) :
    codeAny (model prog w) A (.call (.ref fI) args) R s := by
  obtain ⟨oc, od, doc, pm, an, cdv, ct, osl, p1, p2, q1, q2, q3, q4, rfl, ho, hcd⟩ := D.ex
  refine Att.call_fn (binds := [("self", .ref x), ("circle", v)]) X hlim ho hcd hroom hb (by first | rfl | decide | with_unfolding_all rfl) (fun s1 IC => ?_) rfl rfl rfl
  obtain ⟨h1, tk1, rfl⟩ := IC.toInCall.same
  have up : ∀ b o, s.heap.get? b = some o → h1.get? b = some o := IC.toInCall.keep
  have hn := IC.toInCall.ns
  have X1 : K.In h1 := X.keeps up
  have hx1 := up _ _ hx
  show wpAny _ _ (execs _ _) _ _ _
  refine wpAny_execs_cons (plainObj_wpAny_Assign_Attribute ?_)
  refine localAt (v := v) hn (by first | rfl | with_unfolding_all rfl | kernel_rfl) (localAt (v := .ref x) hn (by first | rfl | with_unfolding_all rfl | kernel_rfl) ?_)
  refine set_plain X1 (ox := excO C t0) (od := none) ⟨hx1, rfl, rfl, trivial⟩ T.sa ?_
  refine storeFirst SF X1 hx1 T.over T.hd (taker_of (T.no _ (List.mem_cons_self ..))) (fun h3 tk3 dx k3 dn dne hx3 hn3 => ?_)
  show wpAny _ _ (execs _ _) _ _ _
  have z : s.heap.objs.size < h1.objs.size := hn.lt
  refine wpAny_execs_nil (hq h3 tk3 dx ⟨fun b o hb e => k3 b o hb (up b o e), hx3, Nat.le_of_lt (Nat.lt_of_lt_of_le z dn), dne, ?_⟩)
  rw [← look1]
  exact hn3
end
end VX
end PySem
end
section
set_option Elab.async false
set_option linter.all false
set_option maxRecDepth 100000
set_option maxHeartbeats 4000000
/-! X4: two fields; a made exception; raised, or held as a value -/
namespace PySem
namespace VX
open PySem.W PySem.Calls PyProof.Rows PySem.HandSPX
def gS : Scope := { kind := .function, names := [(PySem.Str.ofString "self", .local), (PySem.Str.ofString "rule", .local), (PySem.Str.ofString "things", .local)], isGenerator := false, isCoroutine := false, more := [] }
def gA (p1 p2 p3 : Pos) : Arguments := { posonlyargs := [], args := [{ arg := "self", annotation := none, pos := p1 }, { arg := "rule", annotation := none, pos := p2 }, { arg := "things", annotation := none, pos := p3 }], vararg := none, kwonlyargs := [], kw_defaults := [], kwarg := none, defaults := [] }
def gB (q1 q2 q3 q4 r1 r2 r3 r4 : Pos) : List Stmt := [.Assign [.Attribute (.Name "self" q1) "rule" q2] (.Name "rule" q3) q4, .Assign [.Attribute (.Name "self" r1) "things" r2] (.Name "things" r3) r4]
structure Ini2 (K : Frag) (fI : Addr) (qual : Str) (fd : FuncData) : Prop where
  ex : ∃ (oc : Value) (od : Option Addr) (doc pm : Value) (an : Option Addr) (cdv ct : Value) (osl : Array (Option Value)) (p1 p2 p3 q1 q2 q3 q4 r1 r2 r3 r4 : Pos),
    fd = fnOf "__init__" qual (gA p1 p2 p3) (gB q1 q2 q3 q4 r1 r2 r3 r4) gS .none .none doc pm an cdv ct ∧ K.lookup fI = some ⟨oc, od, .func fd, osl⟩ ∧ codeIn K cdv qual = true
section
variable {prog : Program} {w : World} {A : Around} {E : Value → Shared → Prop} {R : Result → Shared → Prop} {s : Shared} {K : Frag} {C fI : Addr} {bmB : List Value} {B newId initId : String} {fn : List Str} {qual : Str} {fd : FuncData} {args : Args}
theorem keptBut {h h' : Heap} {x : Addr} (X : K.In h) (hx : K.lookup x = none) (k : ∀ b o, b ≠ x → h.get? b = some o → h'.get? b = some o) : K.In h' := fun a o e => by
  refine k a o (fun z => ?_) (X a o e)
  rw [z, hx] at e
  cases e
theorem init_two (SF : StoreFacts B bmB "object.__setattr__" "object") (T : XB K bmB newId C [("rule" : Str), ("things" : Str)]) (D : Ini2 K fI qual fd) {x t0 : Addr} {v u : Value} (X : K.In s.heap) (hlim : s.heap.NoLimit)
    (hx : s.heap.get? x = some (excO C t0)) (hnx : K.lookup x = none) (hroom : A.depth < recursionLimit) (hb : BindsTo s fd args [("self", .ref x), ("rule", v), ("things", u)])
    (hq : ∀ h' tk dx, InitLeft s.heap h' x C dx t0 [("things", u), ("rule", v)] → R (.ok (.ret .none)) { s with heap := h', toks := tk }) :
    codeAny (model prog w) A (.call (.ref fI) args) R s := by
  obtain ⟨oc, od, doc, pm, an, cdv, ct, osl, p1, p2, p3, q1, q2, q3, q4, r1, r2, r3, r4, rfl, ho, hcd⟩ := D.ex
  refine Att.call_fn (binds := [("self", .ref x), ("rule", v), ("things", u)]) X hlim ho hcd hroom hb (by first | rfl | decide | with_unfolding_all rfl) (fun s1 IC => ?_) rfl rfl rfl
  obtain ⟨h1, tk1, rfl⟩ := IC.toInCall.same
  have up : ∀ b o, s.heap.get? b = some o → h1.get? b = some o := IC.toInCall.keep
  have hn := IC.toInCall.ns
  have nL : s.heap.objs.size ≠ x := Nat.ne_of_gt (Heap.lt_size hx)
  have X1 : K.In h1 := X.keeps up
  have hx1 := up _ _ hx
  show wpAny _ _ (execs _ _) _ _ _
  refine wpAny_execs_cons (plainObj_wpAny_Assign_Attribute ?_)
  refine localAt (v := v) hn (by first | rfl | with_unfolding_all rfl | kernel_rfl) (localAt (v := .ref x) hn (by first | rfl | with_unfolding_all rfl | kernel_rfl) ?_)
  refine set_plain X1 (ox := excO C t0) (od := none) ⟨hx1, rfl, rfl, trivial⟩ T.sa ?_
  refine storeFirst SF X1 hx1 T.over T.hd (taker_of (T.no _ (List.mem_cons_self ..))) (fun h3 tk3 dx k3 dn dne hx3 hn3 => ?_)
  have hnL : h3.Ns s.heap.objs.size _ := hn.at' fun o e => k3 _ o nL e
  have X3 : K.In h3 := keptBut X1 hnx k3
  have hw3 : Within (fun y => if y = ("rule" : Str) then some v else none) ["rule"] := Within.cons "rule" v Within.nil
  obtain ⟨oD, _, _, hoD, _, _⟩ := hn3.count hw3
  have z : s.heap.objs.size < h1.objs.size := hn.lt
  show wpAny _ _ (execs _ _) _ _ _
  refine wpAny_execs_cons (plainObj_wpAny_Assign_Attribute ?_)
  refine localAt (v := u) hnL (by first | rfl | with_unfolding_all rfl | kernel_rfl) (localAt (v := .ref x) hnL (by first | rfl | with_unfolding_all rfl | kernel_rfl) ?_)
  refine set_plain X3 (ox := { cls := .ref C, dict := some dx, data := .fields #[.ref t0, .none, .none, .none, .bool false, .none] }) (od := some oD) ⟨hx3, rfl, rfl, hoD⟩ T.sa ?_
  refine storeNext SF X3 hx3 hn3 hw3 (by decide) T.over T.hd (taker_of (T.no _ (List.mem_cons_of_mem _ (List.mem_cons_self ..)))) (fun h4 tk4 k4 hn4 => ?_)
  show wpAny _ _ (execs _ _) _ _ _
  have big : s.heap.objs.size ≤ dx := Nat.le_of_lt (Nat.lt_of_lt_of_le z dn)
  refine wpAny_execs_nil (hq h4 tk4 dx ⟨fun b o hb e => ?_, k4 _ _ (Ne.symm dne) hx3, big, dne, ?_⟩)
  · exact k4 b o (Nat.ne_of_lt (Nat.lt_of_lt_of_le (Heap.lt_size (up b o e)) dn)) (k3 b o hb (up b o e))
  · rw [← look2]
    exact hn4
/-- what the __init__ at fI makes of an exception at x: its fields -/
def InitDoes (prog : Program) (w : World) (K : Frag) (C fI : Addr) (rest : List Value) (kw : List (Str × Value)) (kvs : List (Str × Value)) : Prop :=
  ∀ (A : Around) (R : Result → Shared → Prop) (s : Shared) (x t0 : Addr), K.In s.heap → s.heap.NoLimit → s.heap.get? x = some (excO C t0) → K.lookup x = none → A.depth < recursionLimit →
    (∀ h' tk dx, InitLeft s.heap h' x C dx t0 kvs → R (.ok (.ret .none)) { s with heap := h', toks := tk }) → codeAny (model prog w) A (.call (.ref fI) ⟨.ref x :: rest, kw⟩) R s
/-- a made one -/
structure Made (h h' : Heap) (e C d : Addr) (kvs : List (Str × Value)) : Prop where
  keep : ∀ b o, h.get? b = some o → h'.get? b = some o
  new : h.objs.size ≤ e
  obj : ∃ t, h'.get? e = some { cls := .ref C, dict := some d, data := .fields #[.ref t, .none, .none, .none, .bool false, .none] }
  dbig : h.objs.size ≤ d
  dne : d ≠ e
  ns : h'.Ns1 d (fun y => kvs.lookup y)
theorem made (FB : ExcBaseFacts B newId initId bmB) (T : XB K bmB newId C fn) (iC : findIn K (.ref C) "__init__" = some (some (.ref fI))) (tI : typeIn K (.ref fI) = some (.type "function"))
    {rest : List Value} {kw kvs : List (Str × Value)} (D : InitDoes prog w K C fI rest kw kvs) (hrest : rest.length ≤ sizeLine) (X : K.In s.heap) (hlim : s.heap.NoLimit) (hroom : A.depth + 1 < recursionLimit)
    (hq : ∀ h' tk e d, Made s.heap h' e C d kvs → R (.ok (.ret (.ref e))) { s with heap := h', toks := tk }) : codeAny (model prog w) A (.call (.ref C) ⟨rest, kw⟩) R s := by
  have up : ∀ b o, s.heap.get? b = some o → ((s.heap.push (kdv_tup rest)).push (excO C s.heap.objs.size)).get? b = some o := fun b o e => Heap.get?_push_of_some _ (Heap.get?_push_of_some _ e)
  have here : ((s.heap.push (kdv_tup rest)).push (excO C s.heap.objs.size)).get? (s.heap.objs.size + 1) = some (excO C s.heap.objs.size) := by heap_get
  have nK : K.lookup (s.heap.objs.size + 1) = none := by
    cases e : K.lookup (s.heap.objs.size + 1) with
    | none => rfl
    | some o => exact absurd (Nat.lt_of_succ_lt (Heap.lt_size (X _ _ e))) (Nat.lt_irrefl _)
  refine callK FB X T.ini iC tI hrest ?_
  refine D _ _ _ _ s.heap.objs.size (X.keeps up) (hlim.keeps up) here nK hroom fun h' tk dx L => ⟨rfl, ?_⟩
  have old : ∀ b o, s.heap.get? b = some o → h'.get? b = some o := fun b o e => L.keep b o (Nat.ne_of_lt (Nat.lt_succ_of_lt (Heap.lt_size e))) (up b o e)
  have big : s.heap.objs.size + 1 + 1 ≤ dx := by
    have q := L.dbig
    first
      | (simpa only [Heap.size_push] using q)
      | exact q
      | (rw [Heap.size_push, Heap.size_push] at q; exact q)
  exact hq h' tk (s.heap.objs.size + 1) dx ⟨old, Nat.le_succ _, ⟨_, L.obj⟩, Nat.le_trans (Nat.le_trans (Nat.le_succ _) (Nat.le_succ _)) big, L.dne, L.ns⟩
end
end VX
end PySem
namespace L2
open PySem PySem.Spec PyProof.Rows PySem.VX
/-- an exception of the class at C, its fields in the dict at d -/
def exV (e C d : Addr) : HO := .ext fun h => ∃ (oe : Obj) (vs : Array Value), h.get? e = some oe ∧ oe.cls = .ref C ∧ oe.dict = some d ∧ oe.data = .fields vs
theorem exV_ok {P : Program} {w : World} {H : Hp} {h : Heap} {e C d : Addr} {oe : Obj} {vs : Array Value} (he : h.get? e = some oe) (hc : oe.cls = .ref C) (hd : oe.dict = some d) (hv : oe.data = .fields vs) : ObjOk P w H h e (exV e C d) :=
  ⟨⟨oe, vs, he, hc, hd, hv⟩, ⟨oe, he⟩, fun h1 h2 ⟨o, v, a, b⟩ k => ⟨o, v, k _ a, b⟩⟩
theorem exV_at {P : Program} {w : World} {H : Hp} {h : Heap} {e C d : Addr} (hok : HOk P w H h) (he : H e = some (exV e C d)) : ∃ (oe : Obj) (vs : Array Value), h.get? e = some oe ∧ oe.cls = .ref C ∧ oe.dict = some d ∧ oe.data = .fields vs := by
  have x : ObjOk P w H h e (.ext fun h => ∃ (oe : Obj) (vs : Array Value), h.get? e = some oe ∧ oe.cls = .ref C ∧ oe.dict = some d ∧ oe.data = .fields vs) := hok e _ he
  exact x.1
theorem relO_pairs : ∀ {fs : List (Str × V)} {kvs : List (Str × Value)}, KV fs kvs → ∀ f, RelO (fs.lookup f) (kvs.lookup f)
  | _, _, .nil, _ => True.intro
  | (a, x) :: fs, (b, u) :: kvs, .cons h t, f => by
    obtain ⟨e, r⟩ := h
    have e' : a = b := e
    subst e'
    cases q : (f == a) with
    | true => simp only [List.lookup, q]; exact r
    | false => simp only [List.lookup, q]; exact relO_pairs t f
/-- an own exception class of the text: fn its fields in order -/
structure OwnX (prog : Program) (w : World) (K : PySem.W.Frag) (mg : Str → Option Value) (nm : Str) (C : Addr) (fn : List Str) : Prop where
  g : mg nm = some (.ref C)
  some : ∃ (bmB : List Value) (B newId initId : String) (fI : Addr), ExcBaseFacts B newId initId bmB ∧ XB K bmB newId C fn ∧ PySem.W.findIn K (.ref C) "__init__" = some (some (.ref fI)) ∧ PySem.W.typeIn K (.ref fI) = some (.type "function") ∧
    (∀ us : List Value, us.length = fn.length → InitDoes prog w K C fI us [] (fn.zip us).reverse) ∧ (∀ ws : List Value, ws.length = fn.length → InitDoes prog w K C fI [] (fn.reverse.zip ws) (fn.zip ws.reverse).reverse)
  few : fn.length ≤ 3
theorem kv_zip : ∀ (fn : List Str) {vs : List V} {us : List Value}, Vals vs us → KV (fn.zip vs) (fn.zip us)
  | [], _, _, _ => .nil
  | _ :: _, _, _, .nil => .nil
  | f :: fn, _, _, .cons r t => .cons ⟨rfl, r⟩ (kv_zip fn t)
theorem paired_app {α β : Type} {F : α → β → Prop} : ∀ {a : List α} {b : List β} {c : List α} {d : List β}, Paired F a b → Paired F c d → Paired F (a ++ c) (b ++ d)
  | _, _, _, _, .nil, q => q
  | _, _, _, _, .cons h t, q => .cons h (paired_app t q)
theorem paired_rev {α β : Type} {F : α → β → Prop} : ∀ {a : List α} {b : List β}, Paired F a b → Paired F a.reverse b.reverse
  | _, _, .nil => .nil
  | _, _, .cons h t => by
    rw [List.reverse_cons, List.reverse_cons]
    exact paired_app (paired_rev t) (.cons h .nil)
section
variable {X : Cx} {C : Addr} {nm : Str} {fn : List Str} {ta tk : TA} {p pos : Pos} {k : Nat} {e : Expr} {es : List Expr} {kws : List Keyword}
/-- what was made, as the layer sees it: all old stands, the dict is new and told -/
theorem made_inv {pins : List (Addr × Obj)} {σ : St} {H : Hp} {hp h' : Heap} {g : Array GenState} {dr : Drawn} {tk tk' : Nat} {os : OsState} {a d : Addr} {fs : List (Str × V)} {kvs : List (Str × Value)} (I : Inv X pins σ H ⟨hp, g, dr, tk, os⟩) (M : Made hp h' a C d kvs) (r : KV fs kvs) :
    ∃ G : Heap, Inv X pins σ (upd H d (.xd fs)) ⟨G, g, dr, tk', os⟩ ∧ (∀ b o, G.get? b = some o → h'.get? b = some o) ∧ G.get? a = none ∧ (upd H d (.xd fs)) a = none ∧ H d = none := by
  obtain ⟨G, g1, g2⟩ := restrict h' fun b => decide (b ≠ a)
  have gk : ∀ b, b ≠ a → G.get? b = h'.get? b := fun b hb => g1 b (decide_eq_true hb)
  have ge : G.get? a = none := g2 a (by simp)
  have old : ∀ b o, hp.get? b = some o → G.get? b = some o := fun b o q => (gk b (Nat.ne_of_lt (Nat.lt_of_lt_of_le (Heap.lt_size q) M.new))).trans (M.keep b o q)
  have ob : ObjOk X.prog X.w (upd H d (.xd fs)) G d (.xd fs) := ⟨_, M.ns.at fun o q => (gk d M.dne).trans q, relO_pairs r⟩
  refine ⟨G, I.laid (t' := tk') old M.dbig ob, fun b o q => ?_, ge, ?_, I.hok.fresh M.dbig⟩
  · by_cases hb : b = a
    · rw [hb, ge] at q
      cases q
    · exact (gk b hb).symm.trans q
  · rw [upd_ne (Ne.symm M.dne)]
    exact I.hok.fresh M.new
/-- raise C(e, ..): what is made -/
def tMkX (C : Addr) (fn : List Str) (ta : TA) : St → Hp → XK → Prop := fun σ H Q => ta σ H fun vs H1 => vs.length = fn.length ∧ ∀ d, H1 d = none → Q (.ref C) (some d) (upd H1 d (.xd (fn.zip vs).reverse))
theorem pmk_own1 (O : OwnX X.prog X.w X.K X.mg nm C fn) (hr : Room k X.A) (ha : PA X (e :: es) ta) (hg : Gl X nm) (hdb : (nm == ("__debug__" : Str)) = false := by decide)
    (he : starEach (e :: es) X.env = (false, eval e X.env) :: starEach es X.env := by rfl) (hpl : (backTo pos (starEach es X.env)).any (·.1) = false := by rfl) :
    PMk X (.Call (.Name nm p) (e :: es) [] pos) (tMkX C fn ta) := by
  intro pins s σ H Q I h
  obtain ⟨bmB, B, newId, initId, fI, FB, T, iC, tI, D, _⟩ := O.some
  refine wpAny_Call_Name_kw (ld_glob I hg O.g ?_ hdb)
  refine PySem.W.callWith_K (h₀ := X.base) I.ok.mod.kin T.keep (thn (ha.run pos pins s σ H _ I h) fun us s1 hh => ?_) he hpl
  obtain ⟨vs, H1, I1, r1, hz, q1⟩ := hh
  refine ⟨I1.kIn, ?_⟩
  have hlim := I1.nolimit
  have hl : us.length = fn.length := r1.length.symm.trans hz
  obtain ⟨hp, g, dr, tk, os⟩ := s1
  show wpAny _ _ (call (.ref C) us) _ _ _
  refine wpAny_call (made FB T iC tI (D us hl) (by rw [hl, sizeLine_eq]; have := O.few; omega) I1.kIn hlim (by have := hr.dp; omega) fun h' tk' a d M => ?_)
  obtain ⟨G, J, kG, ge, na, nd⟩ := made_inv (tk' := tk') I1 M (paired_rev (kv_zip fn r1))
  obtain ⟨t, ho⟩ := M.obj
  exact ⟨a, _, _, ⟨G, g, dr, tk', os⟩, _, .ref C, some d, rfl, J, kG, ge, ho, ⟨rfl, rfl⟩, rfl, rfl, na, rfl, I1.bare, raises_own T.exc T.ty, q1 d nd⟩
/-- C(k = v, ..) as a value; the keywords stand in the fields' order turned about -/
def tNewKw (C : Addr) (fn : List Str) (tk : TA) : TE := fun σ H Q => tk σ H fun zs H1 => zs.length = fn.length ∧ ∀ a d, H1 a = none → H1 d = none → d ≠ a → Q (.ref a) (upd (upd H1 d (.xd (fn.zip zs.reverse).reverse)) a (exV a C d))
theorem pe_newKw (O : OwnX X.prog X.w X.K X.mg nm C fn) (hr : Room k X.A) (hkw : PK X kws tk) (hg : Gl X nm) (hdb : (nm == ("__debug__" : Str)) = false := by decide)
    (hall : (backToKw pos (keywordEach kws X.env)).all (·.1.isSome) = true := by rfl) (hks : (backToKw pos (keywordEach kws X.env)).filterMap (·.1) = fn.reverse := by rfl)
    (hpl : ((backTo pos (starEach [] X.env)).any (·.1) || (backToKw pos (keywordEach kws X.env)).any (·.1.isNone)) = false := by rfl) :
    PE X (.Call (.Name nm p) [] kws pos) (tNewKw C fn tk) := by
  refine ⟨fun pins s σ H Q I h => ?_⟩
  obtain ⟨bmB, B, newId, initId, fI, FB, T, iC, tI, _, D⟩ := O.some
  refine wpAny_Call_Name_kw (ld_glob I hg O.g ?_ hdb)
  refine PySem.W.callWith_KW0 (h₀ := X.base) I.ok.mod.kin T.keep hall ?_ hpl
  refine thn (hkw.run pos pins s σ H _ I h) fun ws s1 ⟨zs, H1, I1, rz, hz, q1⟩ => ⟨I1.kIn, ?_⟩
  rw [hks]
  have hlim := I1.nolimit
  have hl : ws.length = fn.length := rz.length.symm.trans hz
  obtain ⟨hp, g, dr, tk', os⟩ := s1
  show wpAny _ _ (call (.ref C) [] (fn.reverse.zip ws)) _ _ _
  refine wpAny_call (made FB T iC tI (D ws hl) (Nat.zero_le _) I1.kIn hlim (by have := hr.dp; omega) fun h' tk2 a d M => ?_)
  obtain ⟨G, J, kG, ge, na, nd⟩ := made_inv (tk' := tk2) I1 M (paired_rev (kv_zip fn (paired_rev rz)))
  obtain ⟨t, ho⟩ := M.obj
  have J2 := J.laidN (h' := h') (t' := tk2) (o := exV a C d) kG ge na (exV_ok ho rfl rfl rfl)
  have na1 : H1 a = none := by rw [upd_ne (Ne.symm M.dne)] at na; exact na
  exact ⟨.ref a, _, J2, rfl, q1 a d na1 nd M.dne⟩
end
end L2
end
section
set_option Elab.async false
set_option linter.all false
set_option maxRecDepth 100000
set_option maxHeartbeats 4000000
/-! X5: try with several clauses «except C as n», behind which the caught exception is told -/
namespace L2
open PySem PySem.Spec PyProof.Rows PySem.VX
section
variable {X : Cx} {pins : List (Addr × Obj)} {σ : St} {H : Hp} {s : Shared}
/-- an object that nobody tells of, new since the def's entry, is told from now on -/
theorem Inv.track {a C d : Addr} {oe : Obj} {vs : Array Value} (I : Inv X pins σ H s) (ho : s.heap.get? a = some oe) (hc : oe.cls = .ref C) (hd : oe.dict = some d) (hv : oe.data = .fields vs) (na : H a = none)
    (n0 : X.s_0.heap.get? a = none) (nL : a ≠ X.env.locals) (np : ∀ p ∈ X.pn ++ pins, p.1 ≠ a) : Inv X pins σ (upd H a (exV a C d)) s := by
  have ne0 : ∀ b o, X.s_0.heap.get? b = some o → b ≠ a := fun b o e z => by
    rw [z, n0] at e
    cases e
  have neS : ∀ b u, H b = some u → b ≠ a := fun b u e => ne_of_none e na
  refine ⟨I.ok, I.os, I.bare, ⟨I.base.keep, I.base.slot, fun b o e n hx => ?_, I.base.there, fun b xs e => ?_, fun b o u e => ?_, fun b ps e => ?_⟩, I.loc, I.cell, ?_, fun x c e => ?_, fun p hp => ?_, fun b u e => ?_, I.len⟩
  · rw [upd_ne (ne0 b o e)]
    exact I.base.free b o e n hx
  · have q := I.base.tups b xs e
    rw [upd_ne (neS b _ q)]
    exact q
  · have q := I.base.frzs b o u e
    rw [upd_ne (neS b _ q)]
    exact q
  · obtain ⟨m, q⟩ := I.base.tbls b ps e
    exact ⟨m, by rw [upd_ne (neS b _ q)]; exact q⟩
  · rw [upd_ne (Ne.symm nL)]
    exact I.free
  · have nc : c ≠ a := fun z => by
      obtain ⟨v, o, e1, e2⟩ := I.cell x c e
      rw [z, ho] at e1
      cases e1
      rw [hv] at e2
      cases e2
    rw [upd_ne nc]
    exact I.freeC x c e
  · obtain ⟨e1, e2, r⟩ := I.pin p hp
    exact ⟨e1, by rw [upd_ne (np p hp)]; exact e2, r⟩
  · by_cases hb : b = a
    · subst hb
      rw [upd_same] at e
      cases e
      exact exV_ok ho hc hd hv
    · rw [upd_ne hb] at e
      refine (I.hok b u e).stay (fun _ _ _ q => q) (fun c q => ?_) fun c xs q => ?_
      · rw [upd_ne (neS c _ q)]
        exact q
      · rw [upd_ne (neS c _ q)]
        exact q
end
/-- the clauses' wishes, one behind the other; n's slot is i -/
def wManyV (K : PySem.W.Frag) (i : Nat) (Wout : WX) (D : Ends) : List (Value × (Addr → Value → Option Addr → TS)) → WX
  | [] => Wout
  | (c, ts) :: r => fun cls d σ H => ∃ b, PySem.W.exmOne K cls c = some b ∧
      (b = true → ∃ C d', cls = .ref C ∧ d = some d' ∧ ∀ a, H a = none → ts a cls d { nx := fun σ' H' => D.nx (σ'.set i none) (upd H' a (exV a C d')), rt := fun v H' => D.rt v H', bk := fun σ' H' => D.bk (σ'.set i none) H', ct := fun σ' H' => D.ct (σ'.set i none) H' } (σ.set i (some (.ref a))) H) ∧
      (b = false → wManyV K i Wout D r cls d σ H)
inductive HdsV (X : Cx) (n : Str) : List ExceptHandler → List (Value × (Addr → Value → Option Addr → TS)) → Prop
  | nil : HdsV X n [] []
  | cons {x : Str} {c : Value} {ts : Addr → Value → Option Addr → TS} {b₀ : Stmt} {suite : List Stmt} {np pos' : Pos} {hds : List ExceptHandler} {l : List (Value × (Addr → Value → Option Addr → TS))} (hc : Names X x c)
      (hsu : ∀ (a : Addr) (oe : Obj) (cls : Value) (d : Option Addr) (pn : List (Addr × Obj)), Zc cls d oe → (∃ vs, oe.data = .fields vs) → PSs (X.suite a ((a, oe) :: pn)) (b₀ :: suite) (ts a cls d)) (r : HdsV X n hds l) :
      HdsV X n (.ExceptHandler (some (.Name x np)) (some n) (b₀ :: suite) pos' :: hds) ((c, ts) :: l)
section
variable {X : Cx} {n : Str} {i : Nat} {body : List Stmt} {h₀ : ExceptHandler} {hds : List ExceptHandler} {l : List (Value × (Addr → Value → Option Addr → TS))} {pos : Pos} {tb : WX → TS} {Wout : WX}
theorem ps_try_manyV (hs : X.stack = X.env :: X.outer) (hf : X.env.frame = some X.env.locals) (hex : X.ex = []) (hN : X.N.Nodup) (hi : X.N[i]? = some n) (hln : X.env.kindOf n = some .local) (tk : Takes X Wout)
    (hb : ∀ (W : WX) (pn : List (Addr × Obj)) (xe : Value → Shared → Prop), Takes (X.tr pn xe) W → PassesOwn (model X.prog X.w) X.A X.env xe → PSs (X.tr pn xe) body (tb W))
    (hh : HdsV X n (h₀ :: hds) l) : PS X (.Try body (h₀ :: hds) [] [] pos) (fun D σ H => tb (wManyV X.K i Wout D l) D σ H) := by
  refine ⟨fun pins s σ H D I h => ?_⟩
  have ok := I.ok
  have frm : X.A.frames = some (X.env :: X.outer) := ok.frames.trans (congrArg some hs)
  have hloc : Loc X.env.scope n := .inl hln
  refine wpAny_Try_except ?_
  refine wpAny_mono ((hb (wManyV X.K i Wout D l) (X.pn ++ pins) (fun e s₁ => wpAny (model X.prog X.w) X.A (noteFrame e X.env) (fun _ s₂ => wpAny (model X.prog X.w) X.A (setFlight e none) (fun _ s₃ =>
    wpAny (model X.prog X.w) X.A (handleBy e X.env (h₀ :: hds)) (SP X pins D) X.xe s₃) X.xe s₂) X.xe s₁) (fun u s' xx => ?_) PassesOwn.looking).run [] s σ H D (I.toTry _) h) (fun f s1 hsp => ?_) (fun _ _ he => he)
  · obtain ⟨a, B, sI, pins', σ', H', cls, d, rfl, J', nb, up, sky, na, os, ag, w⟩ := xx
    have J : Inv X pins σ' H' sI := J'.ofTry ok
    have sky' : Sky B (X.env :: X.outer) a (Zc cls d) X.env.locals s'.heap := by rw [← hs]; exact sky
    show wpAny (model X.prog X.w) X.A (noteFrame (.ref a) X.env) _ _ _
    refine Sky.land Zc.steady frm hf sky' fun h3 fl3 up3 => ?_
    have J3 : Inv X pins σ' H' { s' with heap := h3 } := J.landed nb fl3.1 (up.trans up3) os ag
    obtain ⟨oe3, vs3, he3, hz3, hd3⟩ := fl3.there
    have noFrame : a ∉ frs (X.env :: X.outer) := fun hm => by
      obtain ⟨_, o', e', hnf⟩ := fl3.2.2.1.mem hm
      rw [he3] at e'
      cases e'
      exact hnf _ hd3
    have noStack : a ∉ frs X.stack := by rw [hs]; exact noFrame
    have nL : a ≠ X.env.locals := fun z => noFrame (List.mem_filterMap.mpr ⟨X.env, List.mem_cons_self, by rw [hf, z]⟩)
    have nF : a ∉ X.fs := fun hm => by
      obtain ⟨e, he, q⟩ := List.mem_filterMap.mp hm
      exact noFrame (List.mem_filterMap.mpr ⟨e, List.mem_cons_of_mem _ he, q⟩)
    -- it wasn't there ahead
    have nB : B.get? a = none := fl3.2.1
    have nI : sI.heap.get? a = none := by
      cases e : sI.heap.get? a with
      | none => rfl
      | some o =>
        have z := nb a o e noStack
        rw [nB] at z
        cases z
    have n0 : X.s_0.heap.get? a = none := by
      cases e : X.s_0.heap.get? a with
      | none => rfl
      | some o =>
        obtain ⟨o', z⟩ := J.base.there a o e (by rw [hex]; exact fun z => nomatch z)
        rw [nI] at z
        cases z
    have np : ∀ p ∈ X.pn ++ pins, p.1 ≠ a := fun p hp z => by
      have q := (J.pin p hp).1
      rw [z, nI] at q
      cases q
    have S3 := J3.suite he3 hd3 na nL nF
    have go : ∀ {hds' : List ExceptHandler} {l' : List (Value × (Addr → Value → Option Addr → TS))}, HdsV X n hds' l' → wManyV X.K i Wout D l' cls d σ' H' →
        wpAny (model X.prog X.w) X.A (handleBy (.ref a) X.env hds') (SP X pins D) X.xe { s' with heap := h3 } := by
      intro hds' l' hk
      induction hk with
      | nil =>
        intro w
        refine wpAny_handleBy_nil ?_
        obtain ⟨k1, k2, k3, oe, vs, T, oT, ts', he, hz, hd, h1, hr⟩ := id fl3
        unfold PySem.passOn
        refine wpAny_bind (wpAny_field he hd h1 ?_)
        rw [if_neg (show ¬ ((Value.ref T == Value.none) = true) from by simp)]
        have away : wpAny (model X.prog X.w) X.A (setFlight (.ref a) X.env.frame) (fun _ s4 => wpAny (model X.prog X.w) X.A (throw (.ref a) : Sem Flow) (SP X pins D) X.xe s4) X.xe { s' with heap := h3 } := by
          rw [hf]
          refine HandSPX.setFlight_upZ fl3 fun h4 hh4 up4 => wpAny_throw (tk _ _ ?_)
          exact ⟨a, B, sI, pins, σ', H', cls, d, rfl, J, nb, (up.trans up3).trans up4, .inr (.inr (by rw [hs]; exact hh4)), na, os, ag, w⟩
        first
          | exact wpAny_bind (wpAny_pure (wpAny_bind away))
          | exact wpAny_bind away
      | @cons x c ts b₀ suite np' pos' hds2 l2 hc hsu r ih =>
        intro w
        obtain ⟨b, hb1, hyes, hno⟩ := w
        refine wpAny_handleBy_cons (codeAny_handlers_test ?_) (by intro q; cases q)
        have LT : PySem.W.Looks (model X.prog X.w) h3 (typeOf (.ref a)) cls := fun A Q E s k q => wpAny_typeOf_ref (k _ _ he3) (by rw [hz3.1]; exact q)
        have LM := PySem.W.exm_one (M := model X.prog X.w) (J3.kIn) LT hb1
        have test : ∀ {Q : Value → Shared → Prop} {E : Value → Shared → Prop}, Q c { s' with heap := h3 } → wpAny (model X.prog X.w) (X.A.mark (some (.ref a))) (eval (.Name x np') X.env) Q E { s' with heap := h3 } := fun {Q E} q => by
          obtain ⟨hg, hdbg, hm | ⟨hm, hv, hnn⟩⟩ := hc
          · exact ld_glob (X := X.suite a ((a, oe3) :: (X.pn ++ pins))) S3 hg hm q hdbg
          · exact ld_blt (X := X.suite a ((a, oe3) :: (X.pn ++ pins))) S3 hg hm hv q hnn hdbg
        refine test (LM.here ?_)
        cases b with
        | true =>
          obtain ⟨C, d', rfl, rfl, hyes'⟩ := hyes rfl
          refine codeAny_handlers_suite_as ?_
          refine HandSPX.lands_againZ fl3 fun h4 fl4 up4 => ?_
          have J4 : Inv X pins σ' H' { s' with heap := h4 } := J.landed nb fl4.1 ((up.trans up3).trans up4) os ag
          obtain ⟨oe4, vs4, he4, hz4, hd4⟩ := fl4.there
          have S4 := J4.suite he4 hd4 na nL nF
          refine store_ok (X := X.suite a ((a, oe4) :: (X.pn ++ pins))) (v := .ref a) S4 hN hi hloc rfl (fun s5 S5 => ?_) (.inr hln)
          refine wpAny_mono ((hsu a oe4 (.ref C) (some d') (X.pn ++ pins) hz4 ⟨_, hd4⟩).run [] s5 _ H' _ S5 (hyes' a na)) (fun f s6 hsp => ?_) (fun _ _ z => False.elim z)
          have plain : ∀ {τ : St} {G : Hp} {Q : Shared → Prop}, Inv (X.suite a ((a, oe4) :: (X.pn ++ pins))) [] τ G s6 → (∀ s7, Inv X pins (τ.set i none) G s7 → Q s7) →
              wpAny (model X.prog X.w) X.A (do bindName X.env n .none; unbindBehindTheSuite X.env n pos') (fun _ s7 => Q s7) X.xe s6 := fun {τ G Q} S6 hq => gone_ok (S6.unsuite ok) hN hi hln hq
          cases f with
          | next =>
            obtain ⟨τ, G, S6, q6⟩ := hsp
            obtain ⟨hoa, hna, _⟩ := S6.pin (a, oe4) (List.mem_append_left _ List.mem_cons_self)
            have T6 : Inv X pins τ (upd G a (exV a C d')) s6 := (S6.unsuite ok).track hoa hz4.1 hz4.2 hd4 hna n0 nL np
            exact gone_ok T6 hN hi hln fun s7 J7 => ⟨_, _, J7, q6⟩
          | brk =>
            obtain ⟨τ, G, S6, q6⟩ := hsp
            exact plain S6 fun s7 J7 => ⟨_, _, J7, q6⟩
          | cont =>
            obtain ⟨τ, G, S6, q6⟩ := hsp
            exact plain S6 fun s7 J7 => ⟨_, _, J7, q6⟩
          | ret u =>
            obtain ⟨v6, τ, G, S6, r6, q6⟩ := hsp
            exact plain S6 fun s7 J7 => ⟨_, _, _, J7, r6, q6⟩
        | false =>
          show wpAny _ X.A (handleBy (.ref a) X.env hds2) _ _ _
          exact ih (hno rfl)
    exact go hh w
  · cases f with
    | next =>
      obtain ⟨τ, G, J', q⟩ := hsp
      exact wpAny_execs_nil ⟨τ, G, J'.ofTry ok, q⟩
    | brk =>
      obtain ⟨τ, G, J', q⟩ := hsp
      exact ⟨τ, G, J'.ofTry ok, q⟩
    | cont =>
      obtain ⟨τ, G, J', q⟩ := hsp
      exact ⟨τ, G, J'.ofTry ok, q⟩
    | ret u =>
      obtain ⟨v, τ, G, J', r, q⟩ := hsp
      exact ⟨v, τ, G, J'.ofTry ok, r, q⟩
end
end L2
end
section
set_option Elab.async false
set_option linter.all false
set_option maxRecDepth 100000
set_option maxHeartbeats 4000000
/-! X6: an exception held as a value: its fields, isinstance -/
namespace L2
open PySem PySem.Spec PyProof.Rows PySem.VX
section
variable {X : Cx} {pins : List (Addr × Obj)} {σ : St} {H : Hp} {s : Shared}
theorem exV_inst (I : Inv X pins σ H s) {a C d : Addr} {fs : List (Str × V)} (ea : H a = some (exV a C d)) (ed : H d = some (.xd fs)) :
    ∃ (oe od : Obj) (mA : Str → Option Value), PySem.W.InstAt s.heap a oe C (some od) ∧ (∀ f, RelO (fs.lookup f) (mA f)) ∧ ∀ name, PySem.W.lookIn name od = some (mA name) := by
  obtain ⟨oe, vs, ho, hc, hd, hv⟩ := exV_at I.hok ea
  have hx : ObjOk X.prog X.w H s.heap d (.xd fs) := I.hok d _ ed
  obtain ⟨mA, hns, hr⟩ := hx
  obtain ⟨od, hod, hl⟩ := lookIn_ns hns
  exact ⟨oe, od, mA, ⟨ho, hc, by unfold PySem.W.notCls; rw [hv] <;> rfl, by rw [hd]; exact hod⟩, hr, hl⟩
/-- e.f, e such an exception -/
def tFldV (K : PySem.W.Frag) (f : Str) (te : TE) : TE := fun σ H Q => te σ H fun x H1 => ∃ (a C d : Addr) (fs : List (Str × V)) (v : V), x = .ref a ∧ H1 a = some (exV a C d) ∧ H1 d = some (.xd fs) ∧ XfC K C ∧ PySem.W.findIn K (.ref C) f = some none ∧ fs.lookup f = some v ∧ Q v H1
theorem pe_fldV {e : Expr} {te : TE} {pos : Pos} {n : Str} (he : PE X e te) (hb : attributeBase e n X.env (eval e X.env) = eval e X.env := by rfl) : PE X (.Attribute e n pos) (tFldV X.K n te) := by
  refine ⟨fun pins s σ H Q I h => ?_⟩
  refine attr_of hb (thn (he.run pins s σ H _ I h) fun u s1 hh => ?_)
  obtain ⟨x, H1, I1, rx, a, C, d, fs, v, ex, ea, ed, T, hno, l, q⟩ := hh
  subst ex
  obtain rfl : u = Value.ref a := rx
  obtain ⟨oe, od, mA, J, hr, hl⟩ := exV_inst I1 ea ed
  obtain ⟨u, hu, ru⟩ := RelO.some_of (v := v) (o := mA n) (by rw [← l]; exact hr n)
  exact HandSPX.exc_get I1.kIn J T.ga T.gg T.exC (PySem.W.findObj_own T.hdC hno rfl (by rw [hl, hu])) (handed_of ru) ⟨v, H1, I1.tok _, ru, q⟩
/-- isinstance(e, c), e such an exception -/
def rIsV (K : PySem.W.Frag) : List V → Hp → VK → Prop := fun xs H Q => ∃ (a C d : Addr) (fs : List (Str × V)) (c : V) (cv : Value) (b : Bool), xs = [.ref a, c] ∧ H a = some (exV a C d) ∧ H d = some (.xd fs) ∧ ExcC K C ∧ (∀ u, RelV c u → u = cv) ∧ PySem.W.kitOne K (.ref C) cv = some b ∧ Q (.bl b) H
theorem call_isV : CallR X (.builtin "isinstance") (rIsV X.K) := by
  intro pins s σ H xs us Q I r h
  obtain ⟨a, C, d, fs, c, cv, b, rfl, ea, ed, T, hcv, e, q⟩ := h
  obtain ⟨u, u2, rfl, ru, r2⟩ := vals2 r
  obtain rfl : u = Value.ref a := ru
  have ec := hcv _ r2
  subst ec
  obtain ⟨oe, od, mA, J, _, _⟩ := exV_inst I ea ed
  have hcl : (PySem.W.clsIn X.K C).isSome = true := by
    obtain ⟨cd, hc, _⟩ := PySem.W.any_some T.hd
    rw [hc]
    rfl
  exact PySem.W.kia_one (PySem.W.kitx_exc hcl T.hg T.hk T.hs T.ha T.hn T.ht T.hm) I.kIn J e (fun z => nomatch z) fun tk => ⟨.bl b, H, I.kept (t' := tk) fun _ _ z => z, rfl, q⟩
end
end L2
end
section
set_option Elab.async false
set_option linter.all false
set_option maxRecDepth 100000
set_option maxHeartbeats 4000000
/-! X7: repr of data, in defs that run while no repr does -/
namespace L2
open PySem PySem.Spec PyProof.Rows PySem.VX
theorem guards_deeper {A : Around} {env : Env} : (A.deeper env).guards = A.guards := by
  first
    | rfl
    | (obtain ⟨a, b, c, d, e⟩ := A; rfl)
    | (obtain ⟨a, b, c, d, e⟩ := A; cases d <;> rfl)
/-- a def's promise, where no repr runs around -/
structure FnG (P : Program) (w : World) (K : PySem.W.Frag) (mg : Str → Option Value) (base : Heap) (CX : CXT) (k : Nat) (f : Addr) (fd : FuncData) (ps : List Str) (sp : Sp) : Prop where
  len : ∀ vs H Q E, sp vs H Q E → vs.length = ps.length
  run : ∀ (A : Around) (outer : List Env) (s : Shared) (H : Hp) (args : Args) (us : List Value) (vs : List V) (Q : VK) (E : XK), Room k A → A.guards = some [] → Env0 P w K mg base A outer s H → BindsTo s fd args (ps.zip us) → Vals vs us → sp vs H Q E →
    codeAny (model P w) A (.call (.ref f) args) (CR CX outer P w H s Q E) s
section
variable {P : Program} {w : World} {K : PySem.W.Frag} {mg : Str → Option Value} {base : Heap}
theorem Fun.okG {x qual : Str} {st : Stmt} {f : Addr} {fd : FuncData} {N ps : List Str} {k : Nat} {sp : Sp} (F : Fun K x qual st f fd) (S : FnScope N ps (defScope st)) (len : ∀ vs H Q E, sp vs H Q E → vs.length = ps.length)
    (hbody : ∀ (cdv : Value) (A : Around) (outer : List Env) (s : Shared) (H : Hp) (vs : List V) (Q : VK) (E : XK), Room k (A.deeper (envOfC qual (defScope st) s.heap.objs.size f cdv)) → (A.deeper (envOfC qual (defScope st) s.heap.objs.size f cdv)).guards = some [] → sp vs H Q E →
      ∃ t, PSs (cxOf CX0 P w K mg base N qual (defScope st) f cdv A outer s H E).nox (defBody st) t ∧ t { nx := fun _ H' => Q .non H', rt := Q } (start N vs) H) : FnG P w K mg base CX0 (k + 1) f fd ps sp := by
  obtain ⟨oc, od, kV, doc, pm, an, cdv, ct, osl, rfl, lk, hcd⟩ := F.ex
  refine ⟨len, fun A outer s H args us vs Q E hr hG e0 hb r hsp => ?_⟩
  have hG2 : (A.deeper (envOfC qual (defScope st) s.heap.objs.size f cdv)).guards = some [] := guards_deeper.trans hG
  have hl := len _ _ _ _ hsp
  have KX : K.In s.heap := e0.mod.kin.keeps fun b o e => (e0.bs b o e).1
  have lim : s.heap.NoLimit := e0.mod.nolimit.keeps fun b o e => (e0.bs b o e).1
  have kinds : ∀ y ∈ ps.zip us, (defScope st).names.lookup y.1 = some .local ∨ ((defScope st).names.lookup y.1 = some .cell ∧ ((cellsFrom (s.heap.objs.size + 1) (defScope st).names []).lookup y.1).isSome = true) := by
    rintro ⟨n, v⟩ hy
    rcases S.par n (List.of_mem_zip hy).1 with q | q
    · exact .inl q
    · exact .inr ⟨q, PySem.W.cellsFrom_some _ _ _ (.inl q)⟩
  refine codeAny_call_function hr.depth (KX _ _ lk) rfl S.co S.gen rfl (PySem.W.codeRec_of KX hcd) (hb _ _ _ _ ?_)
  refine wpAny_newFunctionEnv_cells S.kind kinds fun env he s1 x => ?_
  subst he
  refine ⟨lim.keeps x.toInCall.keep, codeAny_func ?_⟩
  obtain ⟨t, ht, hq⟩ := hbody cdv A outer s H vs Q E (hr.deeper _) hG2 hsp
  have I : Inv (cxOf CX0 P w K mg base N qual (defScope st) f cdv A outer s H E) [] (start N vs) H s1 := inv_start S hr.hd e0 hl r x
  refine wpAny_mono (ht.nox.run [] s1 (start N vs) H _ I hq) (fun fl s' hs => ?_) fun _ _ z => z
  have done : ∀ {σ' : St} {H' : Hp} {v : V} {u : Value}, Inv (cxOf CX0 P w K mg base N qual (defScope st) f cdv A outer s H E) [] σ' H' s' → RelV v u → Q v H' → CE outer P w H s Q u s' :=
    fun {σ' H' v u} J rv q => ⟨v, H', J.os, J.bare, J.base, J.hok, rv, q⟩
  cases fl with
  | ret u =>
    obtain ⟨v, σ', H', J, rv, q⟩ := hs
    exact done J rv q
  | next =>
    obtain ⟨σ', H', J, q⟩ := hs
    exact done (v := V.non) (u := Value.none) J rfl q
  | brk => exact False.elim hs.choose_spec.choose_spec.2
  | cont => exact False.elim hs.choose_spec.choose_spec.2
end
section
variable {X : Cx} {CX : CXT} {k : Nat} {f : Addr} {fd : FuncData} {ps : List Str} {sp : Sp} {E : XK} {x : Str} {p pos : Pos} {e : Expr} {es : List Expr} {t : TA} {ds : List Value} {dvs : List V}
/-- f(e, ..), f a def of such a promise -/
theorem pe_callG (F : FnG X.prog X.w X.K X.mg X.base CX k f fd ps sp) (hr : Room k X.A) (hG : X.A.guards = some []) (hg : Gl X x) (hm : X.mg x = some (.ref f)) (hk : PySem.W.keepIn X.K (.ref f) = true) (hb : Binds X.K fd ps ds) (hd : Vals dvs ds) (hx : Passes CX X E)
    (ha : PA X (e :: es) t) (hdb : (x == ("__debug__" : Str)) = false := by decide) (he : starEach (e :: es) X.env = (false, eval e X.env) :: starEach es X.env := by rfl) (hpl : (backTo pos (starEach es X.env)).any (·.1) = false := by rfl) :
    PE X (.Call (.Name x p) (e :: es) [] pos) (tCall sp dvs E t) := by
  refine ⟨fun pins s σ H Q I h => ?_⟩
  refine wpAny_Call_Name_kw (ld_glob I hg hm ?_ hdb)
  refine PySem.W.callWith_K (h₀ := X.base) I.ok.mod.kin hk (thn (ha.run pos pins s σ H _ I h) fun us s1 ⟨vs, H1, I1, r, q⟩ => ⟨I1.kIn, ?_⟩) he hpl
  have r2 : Vals (vs ++ dvs) (us ++ ds) := r.append hd
  have hl : (us ++ ds).length = ps.length := by
    rw [← r2.length]
    exact F.len _ _ _ _ q
  refine wpAny_call (codeAny_mono (F.run X.A X.stack s1 H1 ⟨us, []⟩ (us ++ ds) (vs ++ dvs) Q E hr hG I1.env0 (hb s1 us I1.kIn hl) r2 q) fun r s' hq => ?_)
  cases r with
  | error er => exact hx pins σ H1 s1 er s' I1 hq
  | ok fl =>
    cases fl with
    | ret u => exact I1.after hq
    | next => exact False.elim hq
    | brk => exact False.elim hq
    | cont => exact False.elim hq
/-- repr(x), x a list or tuple of data -/
def rReprD (K : PySem.W.Frag) : List V → Hp → VK → Prop := fun xs H Q => ∃ (a : Addr) (d : PyData), xs = [.ref a] ∧ Dp K H (.ref a) d ∧ d.showable = true ∧ d.hasDict = false ∧ d.depth ≤ 60 ∧ d.shown.length ≤ sizeLine ∧ Q (.str d.shown) H
theorem call_reprD (hG : X.A.guards = some []) (hu : X.A.units + 64 < cLine) : CallR X (.builtin "repr") (rReprD X.K) := by
  intro pins s σ H xs us Q I r h
  obtain ⟨a, d, rfl, hd, hs, hnd, hdp, hz, q⟩ := h
  obtain ⟨u, rfl, ru⟩ := vals1 r
  obtain rfl : u = Value.ref a := ru
  obtain ⟨as, rd⟩ := Dp.reads I d _ _ hd (show RelV (.ref a) (.ref a) from rfl)
  refine repr_of_reads' rd hs (fun z => absurd z (by rw [hnd]; decide)) hG (by omega) (fun _ _ e => e) (fun h' u tk k => ?_) hz
  exact ⟨.str d.shown, H, I.kept (t' := tk) k, ⟨_, rfl⟩, q⟩
end
/-- the law's call, for such a promise of the law -/
theorem law_callG {P : Program} {w : World} {K : PySem.W.Frag} {mg mb : Str → Option Value} {CX : CXT} {k : Nat} {fa a : Addr} {fd : FuncData} {x : Str} {sp : Sp} {s1 : Shared} {vs : List Value} {ns : List Int}
    (KX : K.In s1.heap) (hns : s1.heap.Ns mainGlobals mg) (hb : s1.heap.Ns builtinsNs mb) (hbb : ∀ x : Str, x ≠ "__name__" → mb x = bootBuiltins x) (hlim : s1.heap.NoLimit) (hg : s1.gens = #[])
    (ha : s1.heap.get? a = some { cls := .type "list", data := .seq vs.toArray }) (hi : IntsAre vs ns) (hl : ns.length ≤ sizeLine) (hr : Room k callerA)
    (F : ∀ base : Heap, K.In base → base.Ns mainGlobals mg → FnG P w K mg base CX k fa fd [x] sp) (hbind : ∀ (s : Shared) (u : Value), BindsTo s fd ⟨[u], []⟩ [(x, u)])
    (hsp : ∀ H : Hp, Only H → SqL K H a (ns.map V.int) → sp [.ref a] H (fun v _ => v = .bl true) fun _ _ _ => False)
    (hCX : ∀ H e s', CX [] H s1 (fun _ _ _ => False) e s' → False) :
    codeAny (model P w) callerA (.call (.ref fa) ⟨[.ref a], []⟩) (fun r s' => r = .ok (.ret (.bool true)) ∧ OldK s1.heap s'.heap ∧ s'.os = s1.os ∧ AllBare s'.gens) s1 := by
  have rv := vals_ints hi
  have lenV := hi.length
  have core : ∀ H : Hp, Only H → SqL K H a (ns.map V.int) → HOk P w H s1.heap → (∀ b, H b ≠ none → b = a) → (H a ≠ none → K.lookup a = none) →
      codeAny (model P w) callerA (.call (.ref fa) ⟨[.ref a], []⟩) (fun r s' => r = .ok (.ret (.bool true)) ∧ OldK s1.heap s'.heap ∧ s'.os = s1.os ∧ AllBare s'.gens) s1 := by
    intro H hO hS hok hA hK
    have only : ∀ {b : Addr} {u : HO}, H b = some u → b = a := fun {b u} q => hA b (by rw [q]; exact Option.some_ne_none u)
    have free : ∀ {b : Addr} {o : Obj} {es : Array DictEntry} {ep : Nat}, s1.heap.get? b = some o → o.data = .dict es ep → H b = none := by
      intro b o es ep e d
      cases q : H b with
      | none => rfl
      | some u =>
        have e' := only q
        subst e'
        rw [ha] at e
        cases e
        cases (show Data.seq vs.toArray _ = Data.dict es ep from d)
    have nsK : ∀ {b : Addr} {m : Str → Option Value}, s1.heap.Ns b m → (hidT s1.heap H).Ns b m := fun {b m} ⟨o, es, ep, e, d, r⟩ => ⟨o, es, ep, hidT_get e (free e d), d, r⟩
    have hKb : K.In (hidT s1.heap H) := fun b o e => hidT_get (KX b o e) (by
      cases q : H b with
      | none => rfl
      | some u =>
        have e' := only q
        subst e'
        rw [hK (by rw [q]; exact Option.some_ne_none u)] at e
        cases e)
    have hM : Mod K mg (hidT s1.heap H) := ⟨hKb, nsK hns, ⟨mb, nsK hb, hbb⟩, let ⟨mc, h1, h2⟩ := hlim; ⟨mc, nsK h1, h2⟩⟩
    have none1 : ∀ b : Addr, b ∉ ([] : List Addr) := fun b z => nomatch z
    have e0 : Env0 P w K mg (hidT s1.heap H) callerA [] s1 H := ⟨rfl, hM, fun b o e => of_hidT e, Nat.le_of_eq (hidT_size _ _), trivial, fun b hb => absurd hb (none1 b), hok, .of_eq hg⟩
    refine codeAny_mono ((F _ hKb (nsK hns)).run callerA [] s1 H ⟨[.ref a], []⟩ [.ref a] [.ref a] _ _ hr rfl e0 (hbind s1 (.ref a)) (.cons rfl .nil) (hsp H hO hS)) fun r s' h => ?_
    cases r with
    | error e => exact (hCX H e s' h).elim
    | ok fl =>
      cases fl with
      | next => exact False.elim h
      | brk => exact False.elim h
      | cont => exact False.elim h
      | ret u =>
        obtain ⟨v, H', os, bare, un, hok', r', q⟩ := h
        obtain rfl : v = .bl true := q
        obtain rfl : u = Value.bool true := r'
        refine ⟨rfl, OldK.of_keep fun b o e => ?_, os, bare⟩
        cases q : H b with
        | none => exact un.keep b o e q (none1 b) (none1 b)
        | some u =>
          rcases hO b with z | ⟨ob, xs, z⟩
          · rw [q] at z
            cases z
          · obtain ⟨e1, _⟩ := hok b _ z
            obtain ⟨e2, _⟩ := hok' b _ (un.frzs b ob _ z)
            rw [e] at e1
            cases e1
            exact e2
  cases hk : K.lookup a with
  | some o =>
    have e := KX a o hk
    rw [ha] at e
    cases e
    refine core (fun _ => none) (fun _ => .inl rfl) (.inr ⟨_, vs.toArray, _, hk, rfl, rfl, rfl, by rw [List.size_toArray, lenV]; exact hl, by simpa using rv⟩) (fun b u z => by cases (show (none : Option HO) = some u from z)) (fun b z => absurd rfl z) fun z => absurd rfl z
  | none =>
    refine core (fun b => if b = a then some (.frz { cls := .type "list", data := .seq vs.toArray } (.lst (ns.map V.int))) else none) (fun b => ?_) (.inl (.inr ⟨{ cls := .type "list", data := .seq vs.toArray }, if_pos rfl⟩)) (fun b u z => ?_) (fun b z => ?_) fun _ => hk
    · by_cases hb : b = a
      · exact .inr ⟨_, _, if_pos hb⟩
      · exact .inl (if_neg hb)
    · by_cases hb : b = a
      · cases (if_pos hb).symm.trans z
        subst hb
        exact ⟨ha, by rw [List.length_map]; exact hl, vs, _, rv, ha⟩
      · cases (if_neg hb).symm.trans z
    · by_cases hb : b = a
      · exact hb
      · exact absurd (if_neg hb) z
theorem walk_ofG {l : PySem.W.OpenLaw} {n k : Nat} {q : Program} {loose : List Str} {XP : (Str → Option Value) → Heap → Prop} {YP : World → Heap → Prop} {d : DefRec} {K : Params → PySem.W.Frag} {sp : PySem.W.Frag → Sp} {x : Str}
    (hn : l.most = some n) (hn2 : n ≤ sizeLine) (hdf : d.params.defaults = []) (hr : Room k callerA)
    (hY : ∀ (w : World) (h : Heap), YP w h → (K w.params).In h)
    (F : ∀ (w : World) (mg : Str → Option Value) (fa : Addr) (h : Heap), (K w.params).In h → h.Ns mainGlobals mg → mg d.name = some (.ref fa) →
      ∃ fd : FuncData, (∀ (s : Shared) (u : Value), BindsTo s fd ⟨[u], []⟩ [(x, u)]) ∧ ∀ base : Heap, (K w.params).In base → base.Ns mainGlobals mg → FnG l.prog w (K w.params) mg base CX0 k fa fd [x] (sp (K w.params)))
    (hsp : ∀ (K : PySem.W.Frag) (H : Hp) (a : Addr) (ns : List Int), ns.length ≤ n → Only H → SqL K H a (ns.map V.int) → sp K [.ref a] H (fun v _ => v = .bl true) fun _ _ _ => False) :
    PySem.W.WalkO q loose XP YP l.row.toRowW d [] (fun f vs => PySem.call f vs) := by
  refine Att.attach_call hn hdf fun w s₀ s1 mg mb fa o pm cd doc a vs ns G Y ho hd hcd hmg hobj hints hlen hg => ?_
  have KX := hY w _ Y
  obtain ⟨fd, hb, hF⟩ := F w mg fa _ KX G.T.g hmg
  exact law_callG KX G.T.g G.T.b G.T.builtins G.T.nolimit hg hobj hints (Nat.le_trans hlen hn2) hr hF hb (fun H hO hS => hsp (K w.params) H a ns hlen hO hS) fun H e s' z => z
end L2
end
section
set_option Elab.async false
set_option linter.all false
set_option maxRecDepth 100000
set_option maxHeartbeats 4000000
/-! X8: try with several clauses .. as n, the exceptions let go behind each suite -/
namespace L2
open PySem PySem.Spec PyProof.Rows PySem.VX
/-- the clauses' wishes, one behind the other; n's slot is i -/
def wManyN (K : PySem.W.Frag) (i : Nat) (Wout : WX) (D : Ends) : List (Value × (Addr → Value → Option Addr → TS)) → WX
  | [] => Wout
  | (c, ts) :: r => fun cls d σ H => ∃ b, PySem.W.exmOne K cls c = some b ∧
      (b = true → ∃ C d', cls = .ref C ∧ d = some d' ∧ ∀ a, H a = none → ts a cls d { nx := fun σ' H' => D.nx (σ'.set i none) H', rt := fun v H' => D.rt v H', bk := fun σ' H' => D.bk (σ'.set i none) H', ct := fun σ' H' => D.ct (σ'.set i none) H' } (σ.set i (some (.ref a))) H) ∧
      (b = false → wManyN K i Wout D r cls d σ H)
inductive HdsN (X : Cx) (n : Str) : List ExceptHandler → List (Value × (Addr → Value → Option Addr → TS)) → Prop
  | nil : HdsN X n [] []
  | cons {x : Str} {c : Value} {ts : Addr → Value → Option Addr → TS} {b₀ : Stmt} {suite : List Stmt} {np pos' : Pos} {hds : List ExceptHandler} {l : List (Value × (Addr → Value → Option Addr → TS))} (hc : Names X x c)
      (hsu : ∀ (a : Addr) (oe : Obj) (cls : Value) (d : Option Addr) (pn : List (Addr × Obj)), Zc cls d oe → (∃ vs, oe.data = .fields vs) → PSs (X.suite a ((a, oe) :: pn)) (b₀ :: suite) (ts a cls d)) (r : HdsN X n hds l) :
      HdsN X n (.ExceptHandler (some (.Name x np)) (some n) (b₀ :: suite) pos' :: hds) ((c, ts) :: l)
section
variable {X : Cx} {n : Str} {i : Nat} {body : List Stmt} {h₀ : ExceptHandler} {hds : List ExceptHandler} {l : List (Value × (Addr → Value → Option Addr → TS))} {pos : Pos} {tb : WX → TS} {Wout : WX}
theorem ps_try_manyN (hs : X.stack = X.env :: X.outer) (hf : X.env.frame = some X.env.locals) (hex : X.ex = []) (hN : X.N.Nodup) (hi : X.N[i]? = some n) (hln : X.env.kindOf n = some .local) (tk : Takes X Wout)
    (hb : ∀ (W : WX) (pn : List (Addr × Obj)) (xe : Value → Shared → Prop), Takes (X.tr pn xe) W → PassesOwn (model X.prog X.w) X.A X.env xe → PSs (X.tr pn xe) body (tb W))
    (hh : HdsN X n (h₀ :: hds) l) : PS X (.Try body (h₀ :: hds) [] [] pos) (fun D σ H => tb (wManyN X.K i Wout D l) D σ H) := by
  refine ⟨fun pins s σ H D I h => ?_⟩
  have ok := I.ok
  have frm : X.A.frames = some (X.env :: X.outer) := ok.frames.trans (congrArg some hs)
  have hloc : Loc X.env.scope n := .inl hln
  refine wpAny_Try_except ?_
  refine wpAny_mono ((hb (wManyN X.K i Wout D l) (X.pn ++ pins) (fun e s₁ => wpAny (model X.prog X.w) X.A (noteFrame e X.env) (fun _ s₂ => wpAny (model X.prog X.w) X.A (setFlight e none) (fun _ s₃ =>
    wpAny (model X.prog X.w) X.A (handleBy e X.env (h₀ :: hds)) (SP X pins D) X.xe s₃) X.xe s₂) X.xe s₁) (fun u s' xx => ?_) PassesOwn.looking).run [] s σ H D (I.toTry _) h) (fun f s1 hsp => ?_) (fun _ _ he => he)
  · obtain ⟨a, B, sI, pins', σ', H', cls, d, rfl, J', nb, up, sky, na, os, ag, w⟩ := xx
    have J : Inv X pins σ' H' sI := J'.ofTry ok
    have sky' : Sky B (X.env :: X.outer) a (Zc cls d) X.env.locals s'.heap := by rw [← hs]; exact sky
    show wpAny (model X.prog X.w) X.A (noteFrame (.ref a) X.env) _ _ _
    refine Sky.land Zc.steady frm hf sky' fun h3 fl3 up3 => ?_
    have J3 : Inv X pins σ' H' { s' with heap := h3 } := J.landed nb fl3.1 (up.trans up3) os ag
    obtain ⟨oe3, vs3, he3, hz3, hd3⟩ := fl3.there
    have noFrame : a ∉ frs (X.env :: X.outer) := fun hm => by
      obtain ⟨_, o', e', hnf⟩ := fl3.2.2.1.mem hm
      rw [he3] at e'
      cases e'
      exact hnf _ hd3
    have noStack : a ∉ frs X.stack := by rw [hs]; exact noFrame
    have nL : a ≠ X.env.locals := fun z => noFrame (List.mem_filterMap.mpr ⟨X.env, List.mem_cons_self, by rw [hf, z]⟩)
    have nF : a ∉ X.fs := fun hm => by
      obtain ⟨e, he, q⟩ := List.mem_filterMap.mp hm
      exact noFrame (List.mem_filterMap.mpr ⟨e, List.mem_cons_of_mem _ he, q⟩)
    -- it wasn't there ahead
    have nB : B.get? a = none := fl3.2.1
    have nI : sI.heap.get? a = none := by
      cases e : sI.heap.get? a with
      | none => rfl
      | some o =>
        have z := nb a o e noStack
        rw [nB] at z
        cases z
    have n0 : X.s_0.heap.get? a = none := by
      cases e : X.s_0.heap.get? a with
      | none => rfl
      | some o =>
        obtain ⟨o', z⟩ := J.base.there a o e (by rw [hex]; exact fun z => nomatch z)
        rw [nI] at z
        cases z
    have np : ∀ p ∈ X.pn ++ pins, p.1 ≠ a := fun p hp z => by
      have q := (J.pin p hp).1
      rw [z, nI] at q
      cases q
    have S3 := J3.suite he3 hd3 na nL nF
    have go : ∀ {hds' : List ExceptHandler} {l' : List (Value × (Addr → Value → Option Addr → TS))}, HdsN X n hds' l' → wManyN X.K i Wout D l' cls d σ' H' →
        wpAny (model X.prog X.w) X.A (handleBy (.ref a) X.env hds') (SP X pins D) X.xe { s' with heap := h3 } := by
      intro hds' l' hk
      induction hk with
      | nil =>
        intro w
        refine wpAny_handleBy_nil ?_
        obtain ⟨k1, k2, k3, oe, vs, T, oT, ts', he, hz, hd, h1, hr⟩ := id fl3
        unfold PySem.passOn
        refine wpAny_bind (wpAny_field he hd h1 ?_)
        rw [if_neg (show ¬ ((Value.ref T == Value.none) = true) from by simp)]
        have away : wpAny (model X.prog X.w) X.A (setFlight (.ref a) X.env.frame) (fun _ s4 => wpAny (model X.prog X.w) X.A (throw (.ref a) : Sem Flow) (SP X pins D) X.xe s4) X.xe { s' with heap := h3 } := by
          rw [hf]
          refine HandSPX.setFlight_upZ fl3 fun h4 hh4 up4 => wpAny_throw (tk _ _ ?_)
          exact ⟨a, B, sI, pins, σ', H', cls, d, rfl, J, nb, (up.trans up3).trans up4, .inr (.inr (by rw [hs]; exact hh4)), na, os, ag, w⟩
        first
          | exact wpAny_bind (wpAny_pure (wpAny_bind away))
          | exact wpAny_bind away
      | @cons x c ts b₀ suite np' pos' hds2 l2 hc hsu r ih =>
        intro w
        obtain ⟨b, hb1, hyes, hno⟩ := w
        refine wpAny_handleBy_cons (codeAny_handlers_test ?_) (by intro q; cases q)
        have LT : PySem.W.Looks (model X.prog X.w) h3 (typeOf (.ref a)) cls := fun A Q E s k q => wpAny_typeOf_ref (k _ _ he3) (by rw [hz3.1]; exact q)
        have LM := PySem.W.exm_one (M := model X.prog X.w) (J3.kIn) LT hb1
        have test : ∀ {Q : Value → Shared → Prop} {E : Value → Shared → Prop}, Q c { s' with heap := h3 } → wpAny (model X.prog X.w) (X.A.mark (some (.ref a))) (eval (.Name x np') X.env) Q E { s' with heap := h3 } := fun {Q E} q => by
          obtain ⟨hg, hdbg, hm | ⟨hm, hv, hnn⟩⟩ := hc
          · exact ld_glob (X := X.suite a ((a, oe3) :: (X.pn ++ pins))) S3 hg hm q hdbg
          · exact ld_blt (X := X.suite a ((a, oe3) :: (X.pn ++ pins))) S3 hg hm hv q hnn hdbg
        refine test (LM.here ?_)
        cases b with
        | true =>
          obtain ⟨C, d', rfl, rfl, hyes'⟩ := hyes rfl
          refine codeAny_handlers_suite_as ?_
          refine HandSPX.lands_againZ fl3 fun h4 fl4 up4 => ?_
          have J4 : Inv X pins σ' H' { s' with heap := h4 } := J.landed nb fl4.1 ((up.trans up3).trans up4) os ag
          obtain ⟨oe4, vs4, he4, hz4, hd4⟩ := fl4.there
          have S4 := J4.suite he4 hd4 na nL nF
          refine store_ok (X := X.suite a ((a, oe4) :: (X.pn ++ pins))) (v := .ref a) S4 hN hi hloc rfl (fun s5 S5 => ?_) (.inr hln)
          refine wpAny_mono ((hsu a oe4 (.ref C) (some d') (X.pn ++ pins) hz4 ⟨_, hd4⟩).run [] s5 _ H' _ S5 (hyes' a na)) (fun f s6 hsp => ?_) (fun _ _ z => False.elim z)
          have plain : ∀ {τ : St} {G : Hp} {Q : Shared → Prop}, Inv (X.suite a ((a, oe4) :: (X.pn ++ pins))) [] τ G s6 → (∀ s7, Inv X pins (τ.set i none) G s7 → Q s7) →
              wpAny (model X.prog X.w) X.A (do bindName X.env n .none; unbindBehindTheSuite X.env n pos') (fun _ s7 => Q s7) X.xe s6 := fun {τ G Q} S6 hq => gone_ok (S6.unsuite ok) hN hi hln hq
          cases f with
          | next =>
            obtain ⟨τ, G, S6, q6⟩ := hsp
            exact plain S6 fun s7 J7 => ⟨_, _, J7, q6⟩
          | brk =>
            obtain ⟨τ, G, S6, q6⟩ := hsp
            exact plain S6 fun s7 J7 => ⟨_, _, J7, q6⟩
          | cont =>
            obtain ⟨τ, G, S6, q6⟩ := hsp
            exact plain S6 fun s7 J7 => ⟨_, _, J7, q6⟩
          | ret u =>
            obtain ⟨v6, τ, G, S6, r6, q6⟩ := hsp
            exact plain S6 fun s7 J7 => ⟨_, _, _, J7, r6, q6⟩
        | false =>
          show wpAny _ X.A (handleBy (.ref a) X.env hds2) _ _ _
          exact ih (hno rfl)
    exact go hh w
  · cases f with
    | next =>
      obtain ⟨τ, G, J', q⟩ := hsp
      exact wpAny_execs_nil ⟨τ, G, J'.ofTry ok, q⟩
    | brk =>
      obtain ⟨τ, G, J', q⟩ := hsp
      exact ⟨τ, G, J'.ofTry ok, q⟩
    | cont =>
      obtain ⟨τ, G, J', q⟩ := hsp
      exact ⟨τ, G, J'.ofTry ok, q⟩
    | ret u =>
      obtain ⟨v, τ, G, J', r, q⟩ := hsp
      exact ⟨v, τ, G, J'.ofTry ok, r, q⟩
end
end L2
end
section
set_option Elab.async false
set_option linter.all false
set_option maxRecDepth 100000
set_option maxHeartbeats 4000000
/-! Q1: == and != of instances by an own __eq__, whatever it answers -/
namespace L2
open PySem PySem.Spec PyProof.Rows PySem.VX Builtin
/-- x == y, x an instance of the class at C -/
def rEqO (K : PySem.W.Frag) (C : Addr) (sp : Sp) (E : XK) : R2 := fun x y H Q => ∃ a dx fs t, x = .ref a ∧ H a = some (.ins C dx fs) ∧ TyX K H y t ∧ PySem.W.notFirst K C t = true ∧ sp [x, y] H Q E
/-- x != y, where the class has no __ne__ -/
def rNeO (K : PySem.W.Frag) (C : Addr) (sp : Sp) (E : XK) : R2 := fun x y H Q => ∃ a dx fs t, x = .ref a ∧ H a = some (.ins C dx fs) ∧ TyX K H y t ∧ PySem.W.notFirst K C t = true ∧ sp [x, y] H (fun z H' => ∃ b, z = .bl b ∧ Q (.bl (!b)) H') E
section
variable {X : Cx} {CX : CXT} {n : Nat} {C f : Addr} {fd : FuncData} {ps : List Str} {sp : Sp} {E : XK}
theorem run_eq {A : Around} {pins : List (Addr × Obj)} {σ : L2.St} {H : Hp} {s : Shared} {Q : VK} {x y : V} {v u : Value} (F : FnOk X.prog X.w X.K X.mg X.base CX n f fd ps sp) (hb : Binds X.K fd ps []) (hx : Passes CX X E) (hr : Room n A) (fr : A.frames = X.A.frames)
    (I : Inv X pins σ H s) (rx : RelV x v) (ry : RelV y u) (h : sp [x, y] H Q E) : wpAny (model X.prog X.w) A (call (.ref f) [v, u]) (EP X pins σ Q) X.xe s := by
  have e0 : Env0 X.prog X.w X.K X.mg X.base A X.stack s H := by
    have e := I.env0
    exact ⟨by rw [fr]; exact e.frames, e.mod, e.bs, e.bsz, e.funs, e.frf, e.hok, e.bare⟩
  have hl := F.len _ _ _ _ h
  refine wpAny_call (codeAny_mono (F.run A X.stack s H ⟨[v, u], []⟩ [v, u] [x, y] Q E hr e0 (by
    have := hb s [v, u] I.kIn (by simpa using hl)
    simpa using this) (.cons rx (.cons ry .nil)) h) fun r s' hq => ?_)
  cases r with
  | error e => exact hx pins σ H s e s' I hq
  | ok fl =>
    cases fl with
    | ret w => exact I.after hq
    | next => exact False.elim hq
    | brk => exact False.elim hq
    | cont => exact False.elim hq
theorem op_eqO (F : FnOk X.prog X.w X.K X.mg X.base CX n f fd ps sp) (hs : PySem.W.findIn X.K (.ref C) "__eq__" = some (some (.ref f))) (hf : PySem.W.isFn X.K (.ref f) = true) (hb : Binds X.K fd ps []) (hx : Passes CX X E) (hr : Room n X.A) : OpR X (compareOp .Eq) (rEqO X.K C sp E) := by
  intro pins s σ H x y v u Q I rx ry h
  obtain ⟨a, dx, fs, t, rfl, ha, ty, hn, q⟩ := h
  cases (show v = Value.ref a from rx)
  obtain ⟨mA, J, _⟩ := ins_get I.hok ha
  obtain ⟨od, J, _⟩ := J.look
  obtain ⟨P, Z, p, _⟩ := kit_of I ry ty
  obtain ⟨m, hF⟩ := I.fr
  show wpAny (model X.prog X.w) X.A (richCompare .Eq (.ref a) u) (EP X pins σ Q) X.xe s
  refine PySem.W.cmp_K (op := .Eq) (tb := t) hr.units0 hF I.ok.mod.kin J (Z.ty _ _ I.kIn p) hn hs hf ?_
  refine wpAny_mono (run_eq F hb hx hr rfl I rx ry q) (fun w s' z => ?_) fun _ _ x => x
  obtain ⟨z', H', I', rz, qz⟩ := z
  exact SlX.cmpback rz ⟨z', H', I', rz, qz⟩
end
section
variable {prog : Program} {w : World} {A A₀ : Around} {E : Value → Shared → Prop} {s : Shared} {K : PySem.W.Frag} {x C L f : Addr} {h₀ : Heap} {m : Str → Option Value} {ox : Obj} {od : Option Obj} {name : Str} {b tb : Value}
theorem bind_ne (self : Value) : bindSpecial (.builtin "object.__ne__") self = pure (.builtin "object.__ne__", [self]) :=
  (Slot.of (T := "object") (name := "__ne__") (owner := "object") (n := "__ne__") (by rw [typeLookup_type, builtinLookup_eq_fast]; kernel_rfl) (by decide +kernel) (by decide +kernel) (by decide +kernel)
    (.inl (by decide +kernel)) (by rw [isSubtype_type]; kernel_rfl)).bind self
theorem ifBoundNe {M : Model} {args : List Value} {Q : Option Value → Shared → Prop} (X : K.In s.heap) (I : PySem.W.InstAt s.heap x ox C od) (hs : PySem.W.findIn K (.ref C) name = some (some (.builtin "object.__ne__")))
    (h : wpAny M A (call (.builtin "object.__ne__") (.ref x :: args)) (fun v => Q (some v)) E s) : wpAny M A (callSpecialIfBound? (.ref x) name args) Q E s := by
  simp only [callSpecialIfBound?, bindSpecialIfBound?]
  refine wpAny_holding (wpAny_bind (wpAny_bind (wpAny_bind (I.type.here ((PySem.W.looks_findIn X hs).here ?_)))))
  simp only [bind_ne]
  refine wpAny_bind (wpAny_askSetting (wpAny_ite ?_))
  have fin : wpAny M A (call (.builtin "object.__ne__") ([.ref x] ++ args) >>= fun v => pure (some v)) Q E s := wpAny_bind (wpAny_mono h (fun v s' h' => wpAny_pure h') fun _ _ h' => h')
  split
  · exact wpAny_bind (wpAny_pure (wpAny_pure fin))
  · exact wpAny_tryCatch (wpAny_bind (wpAny_pure (wpAny_pure fin)))
theorem ne_entry (X : K.In s.heap) (I : PySem.W.InstAt s.heap x ox C od) (hs : PySem.W.findIn K (.ref C) "__eq__" = some (some (.ref f))) (hf : PySem.W.isFn K (.ref f) = true) (hu : A.units < cLine) {Q : Fin → Shared → Prop}
    (hcall : wpAny (model prog w) A (call (.ref f) [.ref x, b]) (fun v s' => ∃ c, v = .bool c ∧ Q (.done (.ret (.bool (!c)))) s') E s) :
    wpAny (model prog w) A (Builtin.«object.__ne__» ⟨[.ref x, b], []⟩) Q E s := by
  unfold Builtin.«object.__ne__»
  repeat (first
    | with_reducible refine wpAny_cRoomFor hu ?_
    | (refine wpAny_bind (m := callSpecialIfBound? (.ref x) (Str.ofString "__eq__") [b])
        (PySem.W.ifBound_K X I hs hf (wpAny_mono hcall (fun r s' hr => by
          obtain ⟨c, rfl, hq⟩ := hr
          repeat (first | exact hq | exact wpAny_pure hq | exact wpAny_truthy_bool hq | (refine wpAny_bind (m := truthy (.bool _)) (wpAny_truthy_bool ?_)) | wp_step)) fun _ _ e => e)))
    | wp_step)
theorem ne_K {Q : Value → Shared → Prop} (hu : A.units + 1 < cLine) (F0 : Fr h₀ L s.heap m) (X₀ : K.In h₀) (I : PySem.W.InstAt s.heap x ox C od) (hb : PySem.W.Looks (model prog w) s.heap (typeOf b) tb) (hn : PySem.W.notFirst K C tb = true)
    (hs : PySem.W.findIn K (.ref C) "__eq__" = some (some (.ref f))) (hf : PySem.W.isFn K (.ref f) = true) (hne : PySem.W.findIn K (.ref C) "__ne__" = some (some (.builtin "object.__ne__"))) (hm : PySem.W.mroIn K C (.type "object") = some true)
    (h : wpAny (model prog w) A.in1 (call (.ref f) [.ref x, b]) (fun v s' => ∃ c, v = .bool c ∧ Q (.bool (!c)) s') E s) : wpAny (model prog w) A (richCompare .NotEq (.ref x) b) Q E s := by
  have X := X₀.keeps F0.keep
  have one : wpAny (model prog w) A (tryCompare (.ref x) (cmpInfo .NotEq).2.1 b) (fun r s' => ∃ v, r = some v ∧ Q v s') E s := by
    unfold tryCompare
    refine wpAny_bind (ifBoundNe X I hne (wpAny_call (codeAny_call_builtin (by decide +kernel) PySem.F.cmpEntry_ne
      (PySem.W.check_slot PySem.F.cmpKind_ne PySem.F.cmpSplit_ne (I.type.andThen (PySem.W.looks_mroIn X hm)) (PySem.F.cmpArgs_ne _ _)
        (ne_entry (A := A.in1) X I hs hf (by exact hu) (wpAny_mono h (fun v s' hv => ?_) fun _ _ e => e))))))
    obtain ⟨c, rfl, hq⟩ := hv
    first | exact ⟨c, rfl, wpAny_pure ⟨_, rfl, hq⟩⟩ | exact ⟨c, rfl, wpAny_pure (wpAny_pure ⟨_, rfl, hq⟩)⟩
  unfold richCompare
  simp only [oneThing_ref]
  refine wpAny_holding (wpAny_bind (wpAny_cRoomFor (Nat.lt_of_succ_lt hu) ?_))
  refine wpAny_bind (I.type.here (wpAny_bind (hb.here ?_)))
  split
  · rename_i q
    have e : PySem.W.subIn K tb (.ref C) = some false := by
      rcases Bool.or_eq_true_iff.mp hn with e | e
      · rw [beq_iff_eq.mp e] at q; simp at q
      · exact beq_iff_eq.mp e
    refine wpAny_bind ((PySem.W.looks_subIn X e).here ?_)
    simp only [Bool.false_eq_true, if_false]
    refine wpAny_bind (wpAny_mono one (fun r s' z => ?_) fun _ _ e => e)
    obtain ⟨v, rfl, hq⟩ := z
    exact wpAny_pure hq
  · refine wpAny_bind (wpAny_pure ?_)
    simp only [Bool.false_eq_true, if_false]
    refine wpAny_bind (wpAny_mono one (fun r s' z => ?_) fun _ _ e => e)
    obtain ⟨v, rfl, hq⟩ := z
    exact wpAny_pure hq
end
section
variable {X : Cx} {CX : CXT} {n : Nat} {C f : Addr} {fd : FuncData} {ps : List Str} {sp : Sp} {E : XK}
theorem op_neO (F : FnOk X.prog X.w X.K X.mg X.base CX n f fd ps sp) (hs : PySem.W.findIn X.K (.ref C) "__eq__" = some (some (.ref f))) (hf : PySem.W.isFn X.K (.ref f) = true) (hne : PySem.W.findIn X.K (.ref C) "__ne__" = some (some (.builtin "object.__ne__"))) (hm : PySem.W.mroIn X.K C (.type "object") = some true)
    (hb : Binds X.K fd ps []) (hx : Passes CX X E) (hr : Room (n + 1) X.A) : OpR X (compareOp .NotEq) (rNeO X.K C sp E) := by
  intro pins s σ H x y v u Q I rx ry h
  obtain ⟨a, dx, fs, t, rfl, ha, ty, hn, q⟩ := h
  cases (show v = Value.ref a from rx)
  obtain ⟨mA, J, _⟩ := ins_get I.hok ha
  obtain ⟨od, J, _⟩ := J.look
  obtain ⟨P, Z, p, _⟩ := kit_of I ry ty
  obtain ⟨m, hF⟩ := I.fr
  show wpAny (model X.prog X.w) X.A (richCompare .NotEq (.ref a) u) (EP X pins σ Q) X.xe s
  refine ne_K (tb := t) (by exact hr.in1.units0) hF I.ok.mod.kin J (Z.ty _ _ I.kIn p) hn hs hf hne hm ?_
  refine wpAny_mono (run_eq F hb hx hr.in1 rfl I rx ry q) (fun w s' z => ?_) fun _ _ x => x
  obtain ⟨z', H', I', rz, c, rfl, qz⟩ := z
  exact ⟨c, rz, ⟨.bl (!c), H', I', rfl, qz⟩⟩
end
end L2
end
section
set_option Elab.async false
set_option linter.all false
set_option maxRecDepth 100000
set_option maxHeartbeats 4000000
/-! T0: the toolbox -/
namespace D1
open PySem L2 Evl
/-- addresses that may change, and what is always true of them -/
structure Fr where
  chg : Addr → Prop
  inv : Hp → Prop
  mono : ∀ H H', Ex H H' → inv H → inv H'
  live : ∀ H b, inv H → chg b → H b ≠ none
/-- from H to H': the invariant holds behind, all else stays -/
structure Fr.R (F : Fr) (H H' : Hp) : Prop where
  inv : F.inv H'
  keep : ∀ b o, ¬F.chg b → H b = some o → H' b = some o
theorem Fr.R.trans {F : Fr} {H H1 H2 : Hp} (a : F.R H H1) (b : F.R H1 H2) : F.R H H2 := ⟨b.inv, fun c o n e => b.keep c o n (a.keep c o n e)⟩
theorem Fr.R.refl {F : Fr} {H : Hp} (h : F.inv H) : F.R H H := ⟨h, fun _ _ _ e => e⟩
theorem Fr.R.ex {F : Fr} {H H' : Hp} (h : F.inv H) (e : Ex H H') : F.R H H' := ⟨F.mono H H' e h, fun b o _ x => e b o x⟩
theorem Fr.R.new {F : Fr} {H : Hp} {p : Addr} {o : HO} (h : F.inv H) (hp : H p = none) : F.R H (upd H p o) := .ex h (.new hp)
theorem Fr.fresh {F : Fr} {H : Hp} {p : Addr} (h : F.inv H) (hp : H p = none) : ¬F.chg p := fun m => F.live H p h m hp
/-- an object of one's own changes -/
theorem Fr.R.set {F : Fr} {H H1 : Hp} {p : Addr} {o : HO} (hinv : F.inv (upd H1 p o)) (r : F.R H H1) (hp : H p = none) : F.R H (upd H1 p o) := ⟨hinv, fun b u n e => by
  rw [upd_ne (ne_of_none e hp)]
  exact r.keep b u n e⟩
theorem yes_of {c : Bool} {A B : Prop} (hc : c = true) (h : A) : if c = true then A else B := by
  rw [if_pos hc]
  exact h
theorem no_of {c : Bool} {A B : Prop} (hc : c = false) (h : B) : if c = true then A else B := by
  rw [hc, if_neg Bool.false_ne_true]
  exact h
theorem atI_of {xs : List V} {i : Int} {v : V} (h0 : 0 ≤ i) (h : xs[i.toNat]? = some v) : atI xs i = some v := by
  have e1 : i = (i.toNat : Int) := by omega
  generalize i.toNat = j at e1 h
  subst e1
  exact atI_nat h
theorem seq0 {n : Nat} (h : 0 < n) : seqIndex? 0 n = some 0 := by
  unfold seqIndex?
  first
    | rfl
    | simp [h]
/-! ### // by a divisor of any size up to 2 ^ 64 -/
def CDivL (i j : Int) : Prop := 0 < j ∧ j < 2 ^ 64
theorem op_fdivL {X : Cx} : OpR X (binaryOp .FloorDiv) (rI CDivL fun i j => .int (i / j)) := opI fun i j _ _ _ _ _ hc q => by
  have h1 : (0 : Int) < j := hc.1
  have h2 : j < 2 ^ 64 := hc.2
  refine PyProof.Rows.floordiv_int (by omega) (by rw [Int.fdiv_eq_ediv_of_nonneg i (by omega)]; exact q) (.inl (PyProof.noPylong_of_log2 ?_))
  have h0 : j.natAbs ≠ 0 := by omega
  have h3 : j.natAbs < 2 ^ 64 := by omega
  have := (Nat.log2_lt h0).mpr h3
  omega
end D1
namespace D1
open PySem PySem.Spec PyProof.Rows L2 Evl ClX
section
variable {X : Cx} {CX : CXT} {k : Nat} {C g : Addr} {fd : FuncData} {ps : List Str} {sp : Sp} {dvs : List V} {ds : List Value} {E : XK} {m : Str} {o e : Expr} {es : List Expr} {ta : TE} {t : TA} {apos pos : Pos} {mc : Value}
/-- Base.m(self, ..) -/
def tCfn (C : Addr) (sp : Sp) (dvs : List V) (E : XK) (ta : TE) (t : TA) : TE := fun σ H Q => ta σ H fun x H1 => x = .ref C ∧ t σ H1 fun vs H2 => sp (vs ++ dvs) H2 Q E
theorem pe_cfn {pl : Sem Bool} (he : PE X o ta) (r : CRead X.K C mc) (c : CVal X.K C mc m (.ref g) (.ref g)) (F : FnOk X.prog X.w X.K X.mg X.base CX k g fd ps sp) (hr : Room k X.A) (hk : PySem.W.keepIn X.K (.ref g) = true) (hb : Binds X.K fd ps ds) (hd : Vals dvs ds) (hx : Passes CX X E) (ha : PA X (e :: es) t)
    (hst : starEach (e :: es) X.env = (false, eval e X.env) :: starEach es X.env := by rfl) (hpl : (backTo pos (starEach es X.env)).any (·.1) = false := by rfl)
    (ht : eval (.Call (.Attribute o m apos) (e :: es) [] pos) X.env = (do
      let ov ← eval o X.env
      standAt apos.atName
      let (f, first) ← holding [ov] (getMethod ov m pl)
      callWith pos f first (backTo pos (starEach (e :: es) X.env)) (backToKw pos (keywordEach [] X.env))) := by rfl) :
    PE X (.Call (.Attribute o m apos) (e :: es) [] pos) (tCfn C sp dvs E ta t) := by
  refine ⟨fun pins s σ H Q I h => ?_⟩
  refine PySem.W.methodCall_KW (pl := pl) (thn (he.run pins s σ H _ I h) fun u s1 ⟨x, H1, I1, rx, ex, q⟩ => ?_) ht
  subst ex
  obtain rfl : u = Value.ref C := rx
  refine PySem.W.method_cls I1.kIn r.ga (getcval_ok I1 r c fun s2 I2 => ?_)
  refine PySem.W.callWith_K (first := []) (h₀ := X.base) I2.ok.mod.kin hk (thn (ha.run pos pins s2 σ H1 _ I2 q) fun us s3 ⟨vs, H3, I3, r3, q3⟩ => ⟨I3.kIn, ?_⟩) hst hpl
  exact run_fn F hr hb hd hx I3 r3 q3
/-- a class of several, and the promise of its method -/
structure HeldM (P : Program) (w : World) (K : PySem.W.Frag) (mg : Str → Option Value) (base : Heap) (k : Nat) (m : Str) (C : Addr) (sp : Sp) : Prop where
  cls : Cls K C
  ex : ∃ (g : Addr) (fd : FuncData) (ps : List Str), Meth K C m g ∧ FnOk P w K mg base CX0 k g fd ps sp ∧ Binds K fd ps []
def tMethA (m : Str) (S : Addr → Option Sp) (ta : TE) (t : TA) : TE := fun σ H Q => ta σ H fun x H1 => ∃ a C dx fs sp, x = .ref a ∧ S C = some sp ∧ H1 a = some (.ins C dx fs) ∧ fs.lookup m = none ∧ t σ H1 fun vs H2 => sp (x :: vs) H2 Q E0
theorem pe_methA {pl : Sem Bool} {S : Addr → Option Sp} (A : ∀ C sp, S C = some sp → HeldM X.prog X.w X.K X.mg X.base k m C sp) (he : PE X o ta) (hr : Room k X.A) (ha : PA X (e :: es) t)
    (hst : starEach (e :: es) X.env = (false, eval e X.env) :: starEach es X.env := by rfl) (hpl : (backTo pos (starEach es X.env)).any (·.1) = false := by rfl)
    (ht : eval (.Call (.Attribute o m apos) (e :: es) [] pos) X.env = (do
      let ov ← eval o X.env
      standAt apos.atName
      let (f, first) ← holding [ov] (getMethod ov m pl)
      callWith pos f first (backTo pos (starEach (e :: es) X.env)) (backToKw pos (keywordEach [] X.env))) := by rfl) :
    PE X (.Call (.Attribute o m apos) (e :: es) [] pos) (tMethA m S ta t) := by
  refine ⟨fun pins s σ H Q I h => ?_⟩
  refine PySem.W.methodCall_KW (pl := pl) (thn (he.run pins s σ H _ I h) fun u s1 ⟨x, H1, I1, rx, a, C, dx, fs, sp, ex, hS, ea, l, q⟩ => ?_) ht
  subst ex
  obtain rfl : u = Value.ref a := rx
  have HM := A C sp hS
  obtain ⟨g, fd, ps, hm, F, hb⟩ := HM.ex
  refine getmeth_ok I1 ea HM.cls hm l ?_
  refine PySem.W.callWith_K (first := [.ref a]) (h₀ := X.base) I.ok.mod.kin hm.kp (thn (ha.run pos pins s1 σ H1 _ I1 q) fun us s2 ⟨vs, H2, I2, r, q2⟩ => ⟨I2.kIn, ?_⟩) hst hpl
  exact run_fn (dvs := []) (ds := []) (E := E0) (us := .ref a :: us) (vs := .ref a :: vs) F hr hb .nil pass0 I2 (.cons rfl r) (by rw [List.append_nil]; exact q2)
theorem pe_methA0 {pl : Sem Bool} {S : Addr → Option Sp} (A : ∀ C sp, S C = some sp → HeldM X.prog X.w X.K X.mg X.base k m C sp) (he : PE X o ta) (hr : Room k X.A)
    (ht : eval (.Call (.Attribute o m apos) [] [] pos) X.env = (do
      let ov ← eval o X.env
      standAt apos.atName
      let (f, first) ← holding [ov] (getMethod ov m pl)
      callWith pos f first (backTo pos (starEach [] X.env)) (backToKw pos (keywordEach [] X.env))) := by rfl) :
    PE X (.Call (.Attribute o m apos) [] [] pos) (tMethA m S ta tNil) := by
  refine ⟨fun pins s σ H Q I h => ?_⟩
  refine PySem.W.methodCall_KW (pl := pl) (thn (he.run pins s σ H _ I h) fun u s1 ⟨x, H1, I1, rx, a, C, dx, fs, sp, ex, hS, ea, l, q⟩ => ?_) ht
  subst ex
  obtain rfl : u = Value.ref a := rx
  have HM := A C sp hS
  obtain ⟨g, fd, ps, hm, F, hb⟩ := HM.ex
  refine getmeth_ok I1 ea HM.cls hm l ?_
  exact PySem.W.callWith_K0 (first := [.ref a]) I1.kIn hm.kp (run_fn (dvs := []) (ds := []) (E := E0) (us := [.ref a]) (vs := [.ref a]) F hr hb .nil pass0 I1 (.cons rfl .nil) (by rw [List.append_nil]; exact q))
end
end D1
namespace L2
open PySem PySem.Spec PyProof.Rows PySem.VX
theorem FunD.asFun {K : PySem.W.Frag} {x qual : Str} {st : Stmt} {f : Addr} {fd : FuncData} (F : FunD K x qual (defArgs st) (defBody st) (defScope st) [] [] f fd) : Fun K x qual st f fd := by
  obtain ⟨oc, od, dV, kV, doc, pm, an, cdv, ct, osl, e, lk, hcd, hD, _⟩ := F.ex
  rcases hD with ⟨_, rfl⟩ | ⟨hn, _⟩
  · exact ⟨⟨oc, od, kV, doc, pm, an, cdv, ct, osl, e, lk, hcd⟩, F.kp⟩
  · exact absurd rfl hn
def shN : V → Str
  | .non => "None"
  | .int i => toString i
  | _ => ""
/-- repr(x), x None or a number -/
def rReprN : List V → Hp → VK → Prop := fun xs H Q => ∃ v, xs = [v] ∧ (v = .non ∨ ∃ i, v = .int i ∧ i.natAbs.log2 < 1920) ∧ Q (.str (shN v)) H
theorem call_reprN {X : Cx} : CallR X (.builtin "repr") rReprN := by
  intro pins s σ H xs us Q I r h
  obtain ⟨v, rfl, hv, q⟩ := h
  obtain ⟨u, rfl, ru⟩ := vals1 r
  rcases hv with rfl | ⟨i, rfl, hi⟩
  · obtain rfl : u = Value.none := ru
    exact PySem.P.repr_of_none ⟨.str "None", H, I.tok _, ⟨_, rfl⟩, q⟩
  · obtain ⟨t, rfl⟩ := ru
    exact PySem.P.repr_of_int hi ⟨.str _, H, I.tok _, ⟨_, rfl⟩, q⟩
end L2
namespace D1
open PySem L2
def Low (z : Str) : Prop := ∀ c ∈ z.cps.toList, c < 128
structure Shp (d : PyData) (k n : Nat) : Prop where
  fs : d.showable = true
  fn : d.hasDict = false
  fd : d.depth ≤ k
  fl : d.leavesShort 8 = true
  fw : d.weight ≤ n
structure ShpA (ds : List PyData) (k n : Nat) : Prop where
  fs : PyData.showableAll ds = true
  fn : PyData.hasDictAll ds = false
  fd : PyData.depthAll ds ≤ k
  fl : PyData.leavesShortAll 8 ds = true
  fw : PyData.weightAll ds ≤ n
theorem ShpA.nil {k n : Nat} : ShpA [] k n := ⟨rfl, rfl, by simp [PyData.depthAll], rfl, by simp [PyData.weightAll]⟩
theorem ShpA.cons {d : PyData} {ds : List PyData} {k n m p : Nat} (h : Shp d k n) (r : ShpA ds k m) (hp : n + 1 + m ≤ p) : ShpA (d :: ds) k p := by
  refine ⟨?_, ?_, ?_, ?_, ?_⟩
  · simp only [PyData.showableAll, h.fs, r.fs, Bool.and_self]
  · simp only [PyData.hasDictAll, h.fn, r.fn, Bool.or_self]
  · simp only [PyData.depthAll]
    exact Nat.max_le.mpr ⟨h.fd, r.fd⟩
  · simp only [PyData.leavesShortAll, h.fl, r.fl, Bool.and_self]
  · simp only [PyData.weightAll]
    have a := h.fw
    have b := r.fw
    omega
theorem Shp.list {ds : List PyData} {k n : Nat} (h : ShpA ds k n) : Shp (.list ds) (k + 1) n := ⟨h.fs, h.fn, Nat.succ_le_succ h.fd, h.fl, h.fw⟩
theorem Shp.tuple {ds : List PyData} {k n : Nat} (h : ShpA ds k n) : Shp (.tuple ds) (k + 1) n := ⟨h.fs, h.fn, Nat.succ_le_succ h.fd, h.fl, h.fw⟩
theorem Shp.none {k n : Nat} : Shp .none k n := ⟨rfl, rfl, by simp [PyData.depth], rfl, by simp [PyData.weight]⟩
theorem Shp.bool {b : Bool} {k n : Nat} : Shp (.bool b) k n := ⟨rfl, rfl, by simp [PyData.depth], rfl, by simp [PyData.weight]⟩
theorem Shp.str {z : Str} {k n : Nat} (h : Low z) (hn : z.length ≤ n) : Shp (.str z) k n := by
  refine ⟨rfl, rfl, by simp [PyData.depth], ?_, ?_⟩
  · simp only [PyData.leavesShort, List.all_eq_true, decide_eq_true_eq]
    exact fun c hc => Nat.lt_of_lt_of_le (h c hc) (by decide)
  · simp only [PyData.weight]
    exact hn
theorem ShpA.strs {k n m : Nat} : ∀ {zs : List Str}, (∀ z ∈ zs, Low z ∧ z.length ≤ n) → zs.length * (n + 1) ≤ m → ShpA (zs.map .str) k m
  | [], _, _ => .nil
  | z :: r, h, hm => by
    rw [List.length_cons, Nat.succ_mul] at hm
    exact ShpA.cons (.str (h z List.mem_cons_self).1 (h z List.mem_cons_self).2) (ShpA.strs (n := n) (m := r.length * (n + 1)) (fun y hy => h y (List.mem_cons_of_mem _ hy)) (Nat.le_refl _)) (by omega)
theorem Shp.fits {d : PyData} {k n : Nat} (h : Shp d k n) (hn : n ≤ 1600000) : d.shown.length ≤ sizeLine := by
  have a := PyData.shown_le 8 (by decide) d h.fl
  have b := h.fw
  rw [sizeLine_eq]
  omega
section
variable {K : PySem.W.Frag} {σ : L2.St} {H : Hp} {te ta : TE} {Q : VK}
/-- repr of data, as a reading -/
theorem rep_of {p : Addr} {d : PyData} {k n : Nat} (h : Dp K H (.ref p) d) (s : Shp d k n) (hk : k ≤ 60) (hn : n ≤ 1600000) (q : Q (.str d.shown) H) : rReprD K [.ref p] H Q :=
  ⟨p, d, rfl, h, s.fs, s.fn, Nat.le_trans s.fd hk, s.fits hn, q⟩
end
end D1
namespace L2
open PySem PySem.Spec PyProof.Rows
theorem ps_dead {X : Cx} {st : Stmt} : PS X st (fun _ _ _ => False) := ⟨fun _ _ _ _ _ _ h => h.elim⟩
end L2
namespace D1
open PySem L2 Evl RZ ClX PySem.VX
theorem turns_it {J : It} {n : Nat} {G : Hp → Prop} {Y : Nat → Hp → V → Hp → Prop} (w : Walk J n G Y) {Qd : Hp → Prop} {H1 : Hp} {B : V → Hp → (Hp → Prop) → Prop} (Pv : Nat → Hp → Prop) (h0 : Pv 0 H1) (hG : ∀ i H, i ≤ n → Pv i H → G H)
    (hs : ∀ i x H H', i < n → Pv i H → Y i H x H' → B x H' (Pv (i + 1))) (hd : ∀ H, Pv n H → Qd H) :
    ∃ W : Nat → Nat → Hp → Prop, (∃ m, W 0 m H1) ∧ ∀ i m H, W i m H → (J.stop i H ∧ Qd H) ∨ (J.go i H ∧ ∃ Nx : Hp → Prop, (∀ H', Nx H' → ∃ m', m' < m ∧ W (i + 1) m' H') ∧ ∀ x H', J.yld i H x H' → B x H' Nx) := by
  refine ⟨fun i m H => m = n - i ∧ i ≤ n ∧ Pv i H, ⟨n, by simp, Nat.zero_le _, h0⟩, ?_⟩
  rintro i m H ⟨rfl, hi, p⟩
  have q := hG i H hi p
  by_cases hlt : i < n
  · refine .inr ⟨w.goes i H hlt q, Pv (i + 1), fun H' p' => ⟨n - (i + 1), by omega, rfl, hlt, p'⟩, fun x H' y => hs i x H H' hlt p (w.yields i H x H' hlt q y)⟩
  · have e : i = n := by omega
    subst e
    exact .inl ⟨w.stops H q, hd H p⟩
theorem tyes_go {σ : L2.St} {H : Hp} {P : Bool → Hp → Prop} (h : P true H) : tYes σ H P := h
section
variable {K : PySem.W.Frag} {σ : L2.St} {H : Hp} {te ta tb tl tx : TE}
theorem ev_all {bs : List Bool} (h : EvL ta σ H (bs.map V.bl)) : Ev (tCB (rAll K) (tCons ta tNil)) σ H (.bl (bs.all id)) := fun H1 e Q q =>
  h H1 e _ fun p H2 _ e2 hp => ⟨p, bs, rfl, sq_of hp, q H2 e2⟩
theorem given_map (n : Nat) (g : Nat → Bool) : given n (fun _ => true) (fun i => V.bl (g i)) = (((List.range n).map g).map V.bl) := by
  unfold given
  rw [List.filter_eq_self.mpr (fun _ _ => rfl), List.map_map]
  rfl
theorem all_range (n : Nat) (g : Nat → Bool) : ((List.range n).map g).all id = (List.range n).all g := by
  rw [List.all_map]
  rfl
theorem ev_eqI {σ : L2.St} {H : Hp} {ta tb : TE} {x y : Int} (ha : Ev ta σ H (.int x)) (hb : Ev tb σ H (.int y)) : Ev (tOp rEq ta tb) σ H (.bl (x == y)) := by
  have h := ev_op ha hb (rv_eq (x := .int x) (y := .int y) rfl)
  rw [dec_int] at h
  exact h
theorem ev_isi {T U : String} {b : Bool} (hx : Ev tx σ H x) (ty : ∀ H1, Ex H H1 → TyX K H1 x (.type T)) (k : PySem.W.kitOne K (.type T) (.type U) = some b) (c : ClsV (.ty U) (.type U)) : Ev (tCB (rIsi K) (tCons tx (tCons (tC (.ty U)) tNil))) σ H (.bl b) := fun H1 e Q q =>
  hx H1 e _ fun H2 e2 => ⟨x, .ty U, .type T, .type U, b, rfl, c, ty H2 (e.trans e2), k, q H2 e2⟩
theorem ev_lenT {p : Addr} {ys : List V} (hx : Ev tx σ H (.ref p)) (h : SqT K H p ys) : Ev (tCB (fun xs H Q => ∃ p ys, xs = [V.ref p] ∧ (SqL K H p ys ∨ SqT K H p ys) ∧ Q (.int ys.length) H) (tCons tx tNil)) σ H (.int ys.length) := fun H1 e Q q =>
  hx H1 e _ fun H2 e2 => ⟨p, ys, rfl, .inr (ex_t (e.trans e2) h), q H2 e2⟩
theorem ev_neI {ta tb : TE} {a b : Int} (ha : Ev ta σ H (.int a)) (hb : Ev tb σ H (.int b)) : Ev (tOp rNe ta tb) σ H (.bl (!(a == b))) := by
  have h := ev_op ha hb (show RV rNe (.int a) (.int b) H (.bl (!decide (V.int a = V.int b))) from fun H1 _ _ q => ⟨rfl, q H1 (Ex.refl H1)⟩)
  rw [dec_int] at h
  exact h
theorem tup_ty {H : Hp} {a : Addr} {xs : List V} (h : H a = some (.tup xs)) : ∀ H1, Ex H H1 → TyX K H1 (.ref a) (.type "tuple") := fun H1 e => .base (.tup (e _ _ h))
theorem kit_tt : PySem.W.kitOne K (.type "tuple") (.type "tuple") = some true := kit_ty (show kitB _ _ = some true by decide +kernel)
theorem kit_ii : PySem.W.kitOne K (.type "int") (.type "int") = some true := kit_ty (show kitB _ _ = some true by decide +kernel)
theorem kit_ib : PySem.W.kitOne K (.type "int") (.type "bool") = some false := kit_ty (show kitB _ _ = some false by decide +kernel)
theorem kit_ss : PySem.W.kitOne K (.type "str") (.type "str") = some true := kit_ty (show kitB _ _ = some true by decide +kernel)
/-- [e for x in t], t a tuple -/
theorem el_lcT {a : Addr} {xs : List V} {j : Nat} {vs : List Nat} (v : Nat → V) (h : Ev tl σ H (.ref a)) (hx : SqT K H a xs) (hz : xs.length ≤ 40000) (hw : ∀ x, wipe ((wipe σ vs).set j (some x)) vs = wipe σ vs)
    (he : ∀ (i : Nat) (x : V) H1, Ex H H1 → xs[i]? = some x → Ev te ((wipe σ vs).set j (some x)) H1 (v i)) :
    EvL (tLc (iTup K tl) (gName j) tYes te vs) σ H (given xs.length (fun _ => true) v) := fun H0 e Q q => h H0 e _ fun H1 e1 => ⟨a, rfl, ⟨xs, ex_t (e.trans e1) hx⟩, fun Dl hD =>
  lc_it (walk_tup (xs := xs)) (Cw H1 (fun _ => true) v Dl) ⟨hD, Ex.new hD, upd_same⟩ (fun i H' _ p => ex_t ((e.trans e1).trans p.2.1) hx) (fun i x H5 H6 hi p y => by
    obtain ⟨rfl, hx⟩ := y
    exact ⟨hw _, cw_turn (f := fun _ => true) p (by omega) (fun H4 _ Q' q => q H4 (Ex.refl H4)) (fun _ => he i x H1 (e.trans e1) hx)⟩) (fun H' p => q Dl H' (fresh_back e1 p.1) (e1.trans p.2.1) p.2.2)⟩
def within (a b i : Int) : Bool := decide (a ≤ i) && decide (i ≤ b)
theorem ev_chainLe {ta tb tc : TE} {a b c : Int} (ha : Ev ta σ H (.int a)) (hb : Ev tb σ H (.int b)) (hc : Ev tc σ H (.int c)) : Ev (tChain (rI0 fun i j => .bl (decide (i ≤ j))) (rI0 fun i j => .bl (decide (i ≤ j))) ta tb tc) σ H (.bl (within a c b)) := fun H1 e Q q =>
  ha H1 e _ fun H2 e2 => hb H2 (e.trans e2) _ fun H3 e3 => ⟨a, b, rfl, rfl, _, rfl, by
    unfold within at q
    cases hk : decide (a ≤ b) with
    | true =>
      rw [hk, Bool.true_and] at q
      refine yes_of rfl (hc H3 ((e.trans e2).trans e3) _ fun H4 e4 => ⟨b, c, rfl, rfl, q H4 ((e2.trans e3).trans e4)⟩)
    | false =>
      rw [hk, Bool.false_and] at q
      exact no_of rfl (q H3 (e2.trans e3))⟩
/-- all([e for x in t]) -/
theorem ev_allT {a : Addr} {xs : List V} {j : Nat} {vs : List Nat} (g : Nat → Bool) (h : Ev tl σ H (.ref a)) (hx : SqT K H a xs) (hz : xs.length ≤ 40000) (hw : ∀ x, wipe ((wipe σ vs).set j (some x)) vs = wipe σ vs)
    (he : ∀ (i : Nat) (x : V) H1, Ex H H1 → xs[i]? = some x → Ev te ((wipe σ vs).set j (some x)) H1 (.bl (g i))) :
    Ev (tCB (rAll K) (tCons (tLc (iTup K tl) (gName j) tYes te vs) tNil)) σ H (.bl ((List.range xs.length).all g)) := by
  have h1 := el_lcT (fun i => V.bl (g i)) h hx hz hw he
  rw [given_map] at h1
  have h2 := ev_all (K := K) h1
  rw [all_range] at h2
  exact h2
theorem all_rangeD {α : Type} {f : α → Bool} {d : α} (l : List α) : ((List.range l.length).all fun i => f (l.getD i d)) = l.all f := by
  rw [Bool.eq_iff_iff, List.all_eq_true, List.all_eq_true]
  constructor
  · intro h x hx
    obtain ⟨i, hi, rfl⟩ := List.mem_iff_getElem.mp hx
    have := h i (List.mem_range.mpr hi)
    rw [List.getD_eq_getElem?_getD, List.getElem?_eq_getElem hi] at this
    exact this
  · intro h i hi
    have hi2 := List.mem_range.mp hi
    rw [List.getD_eq_getElem?_getD, List.getElem?_eq_getElem hi2]
    exact h _ (List.getElem_mem hi2)
end
section
variable {K : PySem.W.Frag} {σ : L2.St} {H : Hp} {te ta tb tl tx : TE}
theorem ev_eqS {σ : L2.St} {H : Hp} {ta tb : TE} {x y : Str} (ha : Ev ta σ H (.str x)) (hb : Ev tb σ H (.str y)) : Ev (tOp rEq ta tb) σ H (.bl (x == y)) := by
  have h := ev_op ha hb (rv_eq (x := .str x) (y := .str y) rfl)
  rw [dec_str] at h
  exact h
theorem ev_gtI {σ : L2.St} {H : Hp} {ta tb : TE} {x y : Int} (ha : Ev ta σ H (.int x)) (hb : Ev tb σ H (.int y)) : Ev (tOp (rI0 fun i j => .bl (decide (j < i))) ta tb) σ H (.bl (decide (y < x))) := ev_op ha hb rv_I0
theorem ev_rep {K : PySem.W.Frag} {σ : L2.St} {H : Hp} {te : TE} {p : Addr} {d : PyData} {k n : Nat} (h : Ev te σ H (.ref p)) (dp : ∀ H1, Ex H H1 → Dp K H1 (.ref p) d) (s : Shp d k n) (hk : k ≤ 60) (hn : n ≤ 1600000) : Ev (tCB (rReprD K) (tCons te tNil)) σ H (.str d.shown) := fun H1 e Q q =>
  h H1 e _ fun H2 e2 => rep_of (dp H2 (e.trans e2)) s hk hn (q H2 e2)
theorem ev_isi0 {K : PySem.W.Frag} {σ : L2.St} {H : Hp} {tx : TE} {x : V} {t u : Value} {U : String} {b : Bool} (hx : Ev tx σ H x) (ty : ∀ H1, Ex H H1 → TyX K H1 x t) (k : PySem.W.kitOne K t u = some b) (c : ClsV (.ty U) u) : Ev (tCB (rIsi K) (tCons tx (tCons (tC (.ty U)) tNil))) σ H (.bl b) := fun H1 e Q q =>
  hx H1 e _ fun H2 e2 => ⟨x, .ty U, t, u, b, rfl, c, ty H2 (e.trans e2), k, q H2 e2⟩
theorem ev_neS {σ : L2.St} {H : Hp} {ta tb : TE} {x : Str} (ha : Ev ta σ H (.str x)) (hb : Ev tb σ H (.str x)) : Ev (tOp rNe ta tb) σ H (.bl false) := ev_op ha hb fun H1 _ Q q => ⟨rfl, by rw [decide_eq_true rfl]; exact q H1 (Ex.refl H1)⟩
theorem ev_isiC {x c : V} {t u : Value} {b : Bool} (hx : Ev tx σ H x) (ty : ∀ H1, Ex H H1 → TyX K H1 x t) (k : PySem.W.kitOne K t u = some b) (cc : ClsV c u) : Ev (tCB (rIsi K) (tCons tx (tCons (tC c) tNil))) σ H (.bl b) := fun H1 e Q q =>
  hx H1 e _ fun H2 e2 => ⟨x, c, t, u, b, rfl, cc, ty H2 (e.trans e2), k, q H2 e2⟩
end
def EvD (K : PySem.W.Frag) (te : TE) (σ : L2.St) (H : Hp) (d : PyData) : Prop := ∀ H1, Ex H H1 → ∀ Q : VK, (∀ p H2, Ex H1 H2 → Dp K H2 (.ref p) d → Q (.ref p) H2) → te σ H1 Q
theorem Dp.exD {K : PySem.W.Frag} {H : Hp} {p : Addr} {vs : List V} {ds : List PyData} (h : H p = some (.lst vs)) (hd : DpAll K H vs ds) : Dp K H (.ref p) (.list ds) := .lst (.inl (.inl h)) hd
section
variable {K : PySem.W.Frag} {σ : L2.St} {H : Hp} {te ta tb : TE} {tt : TT} {d : PyData}
theorem evd_L {vs : List V} {ds : List PyData} (h : EvL te σ H vs) (hd : ∀ H1, DpAll K H1 vs ds) : EvD K te σ H (.list ds) := fun H1 e Q q => h H1 e Q fun p H2 _ e2 h2 => q p H2 e2 (.lst (.inl (.inl h2)) (hd H2))
theorem evd_U {vs : List V} {ds : List PyData} (h : EvU te σ H vs) (hd : ∀ H1, DpAll K H1 vs ds) : EvD K te σ H (.tuple ds) := fun H1 e Q q => h H1 e Q fun p H2 _ e2 h2 => q p H2 e2 (.tup (.inl (.inl h2)) (hd H2))
theorem evd_var {i : Nat} {p : Addr} (hi : σ[i]? = some (some (.ref p))) (hd : ∀ H1, Ex H H1 → Dp K H1 (.ref p) d) : EvD K (tVar i) σ H d := fun H1 e Q q => ⟨_, hi, q p H1 (Ex.refl H1) (hd H1 e)⟩
theorem evd_if {b : Bool} (h : EvT tt σ H b) (h1 : b = true → EvD K ta σ H d) (h2 : b = false → EvD K tb σ H d) : EvD K (tIf tt ta tb) σ H d := fun H1 e Q q => h H1 e _ fun H2 e2 => by
  cases b with
  | true =>
    show ta σ H2 Q
    exact h1 rfl H2 (e.trans e2) Q fun p H3 e3 => q p H3 (e2.trans e3)
  | false =>
    show tb σ H2 Q
    exact h2 rfl H2 (e.trans e2) Q fun p H3 e3 => q p H3 (e2.trans e3)
theorem ev_repD {k n : Nat} (h : EvD K te σ H d) (s : Shp d k n) (hk : k ≤ 60) (hn : n ≤ 1600000) : Ev (tCB (rReprD K) (tCons te tNil)) σ H (.str d.shown) := fun H1 e Q q =>
  h H1 e _ fun p H2 e2 hd => rep_of hd s hk hn (q H2 e2)
/-- what is told, and what is due: alike -/
theorem ev_neRep {k n : Nat} (h : EvD K ta σ H d) (h' : EvD K tb σ H d) (s : Shp d k n) (hk : k ≤ 60) (hn : n ≤ 1600000) : Ev (tOp rNe (tCB (rReprD K) (tCons ta tNil)) (tCB (rReprD K) (tCons tb tNil))) σ H (.bl false) := ev_neS (ev_repD h s hk hn) (ev_repD h' s hk hn)
theorem ev_eqRep {k n : Nat} (h : EvD K ta σ H d) (h' : EvD K tb σ H d) (s : Shp d k n) (hk : k ≤ 60) (hn : n ≤ 1600000) : Ev (tOp rEq (tCB (rReprD K) (tCons ta tNil)) (tCB (rReprD K) (tCons tb tNil))) σ H (.bl true) := by
  have x := ev_eqS (ev_repD h s hk hn) (ev_repD h' s hk hn)
  rw [beq_self_eq_true] at x
  exact x
end
theorem low_of_dec {z : Str} (h : z.cps.toList.all (fun c => decide (c < 128)) = true) : Low z := fun c hc => of_decide_eq_true (List.all_eq_true.mp h c hc)
theorem Shp.up {d : PyData} {k k' n n' : Nat} (h : Shp d k n) (hk : k ≤ k') (hn : n ≤ n') : Shp d k' n' := ⟨h.fs, h.fn, Nat.le_trans h.fd hk, h.fl, Nat.le_trans h.fw hn⟩
section
variable {K : PySem.W.Frag} {H : Hp}
theorem dp_ints2 : ∀ row : List Int, DpAll K H (row.map V.int) (row.map PyData.int)
  | [] => .nil
  | _ :: r => .cons (.int _) (dp_ints2 r)
end
theorem asg_step {i : Nat} {te : TE} {z : TS} {D : Ends} {σ : L2.St} {H : Hp} (h : te σ H fun x H1 => z D (σ.set i (some x)) H1) : tSeq (tAsg te (gName i)) z D σ H := h
theorem ret_ix {r : R2} {te ti : TE} {t : TA} {D : Ends} {σ : L2.St} {H : Hp} (h : te σ H fun x H1 => t σ H1 fun xs H2 => (x :: xs).length ≤ sizeLine ∧ ∀ p, H2 p = none → ti σ (upd H2 p (.lst (x :: xs))) fun y H3 => r (.ref p) y H3 D.rt) : tRet (tOp r (tLst (tCons te t)) ti) D σ H := h
theorem asg_to {i : Nat} {te : TE} {z : TS} {D : Ends} {σ : L2.St} {H : Hp} (h : te σ H fun x H1 => ∃ σ', σ.set i (some x) = σ' ∧ z D σ' H1) : tSeq (tAsg te (gName i)) z D σ H := by
  have e : (fun x H1 => ∃ σ', σ.set i (some x) = σ' ∧ z D σ' H1) = fun x H1 => z D (σ.set i (some x)) H1 := by
    funext x H1
    exact propext ⟨fun ⟨_, e, h⟩ => e ▸ h, fun h => ⟨_, rfl, h⟩⟩
  rw [e] at h
  exact h
structure OkC (K : PySem.W.Frag) (C : Addr) : Prop where
  cls : Cls K C
  no : ∀ f ∈ fields, NoAttr K C f
/-- all but a stays -/
def Only (a : Addr) (H H' : Hp) : Prop := ∀ b o, b ≠ a → H b = some o → H' b = some o
theorem Only.upd {a : Addr} {H H1 : Hp} {o : HO} (h : Only a H H1) : Only a H (upd H1 a o) := fun b u n e => by
  rw [upd_ne n]
  exact h b u n e
theorem Only.refl {a : Addr} {H : Hp} : Only a H H := fun _ _ _ e => e
theorem Only.ex {a : Addr} {H H1 H2 : Hp} (h : Only a H H1) (e : Ex H1 H2) : Only a H H2 := fun b u n k => e _ _ (h b u n k)
theorem Only.trans {a : Addr} {H H1 H2 : Hp} (h : Only a H H1) (k : Only a H1 H2) : Only a H H2 := fun b u n e => k b u n (h b u n e)
/-- Base.__init__ read off the class -/
structure BaseI (K : PySem.W.Frag) (mg : Str → Option Value) (x : Str) (g : Addr) : Prop where
  ex : ∃ (C : Addr) (mc : Value), mg x = some (.ref C) ∧ CRead K C mc ∧ CVal K C mc "__init__" (.ref g) (.ref g)
theorem put_len (f : Str) (v : V) : ∀ fs : List (Str × V), (putF f v fs).length ≤ fs.length + 1
  | [] => Nat.le_refl _
  | (g, x) :: r => by
    unfold putF
    split
    · simp
    · have := put_len f v r
      simp only [List.length_cons]
      omega
theorem made_ex {H H' : Hp} {x dx C : Addr} (nx : H x = none) (ndx : H dx = none) (o : Only x (upd (upd H dx (.own x)) x (.ins C dx [])) H') : Ex H H' := fun b u e => o b u (ne_of_none e nx) (by rw [upd_ne (ne_of_none e nx), upd_ne (ne_of_none e ndx)]; exact e)
theorem new_ex {H : Hp} {x dx C : Addr} (nx : H x = none) (ndx : H dx = none) : Ex H (upd (upd H dx (.own x)) x (.ins C dx [])) := made_ex nx ndx Only.refl
theorem rv_notB {a b : Bool} : RV rNotB (.bl a) (.bl b) H (.bl (!decide (a = b))) := fun H1 _ Q q => ⟨a, b, rfl, rfl, q H1 (Ex.refl H1)⟩
theorem rv_isB {a b : Bool} : RV rIsB (.bl a) (.bl b) H (.bl (decide (a = b))) := fun H1 _ Q q => ⟨a, b, rfl, rfl, q H1 (Ex.refl H1)⟩
def rRepI : List V → Hp → VK → Prop := fun xs H Q => ∃ i : Int, xs = [.int i] ∧ i.natAbs.log2 < 1920 ∧ Q (.str (toString i)) H
section
variable {K : PySem.W.Frag} {σ : L2.St} {H : Hp} {te ta tb tl tx : TE}
theorem ev_repI {i : Int} (h : Ev te σ H (.int i)) (hs : i.natAbs.log2 < 1920) : Ev (tCB rRepI (tCons te tNil)) σ H (.str (toString i)) := fun H1 e Q q => h H1 e _ fun H2 e2 => ⟨i, rfl, hs, q H2 e2⟩
/-- two new tuples of flat data: unlike, or not -/
theorem ev_neU {vs us : List V} {ds es : List PyData} (h : EvU ta σ H vs) (h' : EvU tb σ H us) (hd : ∀ H1, DpAll K H1 vs ds) (he : ∀ H1, DpAll K H1 us es) (sd : SeqAt.shaped (.tuple ds) = true) (se : SeqAt.shaped (.tuple es) = true) :
    Ev (tOp (rNeD K) ta tb) σ H (.bl (!PyData.eqv (.tuple ds) (.tuple es))) := ev_opUU h h' fun p q H1 hp hq _ H2 e2 Q k => ⟨.tuple ds, .tuple es, .tup (.inl (.inl (e2 _ _ hp))) (hd H2), .tup (.inl (.inl (e2 _ _ hq))) (he H2), sd, se, k H2 (Ex.refl H2)⟩
end
end D1
namespace D1
open PySem L2 Evl RZ ClX PySem.VX
/-- isinstance(e, c) within the suite that holds e -/
def rIsX (K : PySem.W.Frag) (cls : Value) (d : Option Addr) (a : Addr) : List V → Hp → VK → Prop := fun xs H Q => ∃ (C dd : Addr) (fs : List (Str × V)) (c : V) (cv : Value) (b : Bool), xs = [.ref a, c] ∧ cls = .ref C ∧ d = some dd ∧ H dd = some (.xd fs) ∧ ExcC K C ∧ (∀ u, RelV c u → u = cv) ∧ PySem.W.kitOne K (.ref C) cv = some b ∧ Q (.bl b) H
theorem call_isX {X : Cx} {a : Addr} {oe : Obj} {cls : Value} {d : Option Addr} {pn : List (Addr × Obj)} (hz : Zc cls d oe) (hf : ∃ vs, oe.data = .fields vs) : CallR (X.suite a ((a, oe) :: pn)) (.builtin "isinstance") (rIsX X.K cls d a) := by
  intro pins s σ H xs us Q I r h
  obtain ⟨C, dd, fs, c, cv, b, rfl, ec, ed, hdd, T, hcv, e, q⟩ := h
  subst ec
  subst ed
  obtain ⟨u, u2, rfl, ru, r2⟩ := vals2 r
  obtain rfl : u = Value.ref a := ru
  have ec := hcv _ r2
  subst ec
  obtain ⟨ha, _⟩ := I.pin (a, oe) (List.mem_append_left _ List.mem_cons_self)
  obtain ⟨vs, hd⟩ := hf
  have hx : ObjOk X.prog X.w H s.heap dd (.xd fs) := I.hok dd _ hdd
  obtain ⟨mA, hns, hr⟩ := hx
  obtain ⟨od, ho, hl⟩ := lookIn_ns hns
  have J : PySem.W.InstAt s.heap a oe C (some od) := ⟨ha, hz.1, by unfold PySem.W.notCls; rw [hd] <;> rfl, by rw [hz.2]; exact ho⟩
  have hcl : (PySem.W.clsIn X.K C).isSome = true := by
    obtain ⟨cd, hc, _⟩ := PySem.W.any_some T.hd
    rw [hc]
    rfl
  exact PySem.W.kia_one (PySem.W.kitx_exc hcl T.hg T.hk T.hs T.ha T.hn T.ht T.hm) I.kIn J e (fun z => nomatch z) fun tk => ⟨.bl b, H, I.kept (t' := tk) fun _ _ z => z, rfl, q⟩
end D1
end
section
set_option Elab.async false
set_option linter.all false
set_option maxRecDepth 100000
set_option maxHeartbeats 4000000
/-! LH: the law's top -/
namespace D1
open PySem L2
end D1
end
section
set_option Elab.async false
set_option linter.all false
set_option maxRecDepth 100000
set_option maxHeartbeats 4000000
/-! D3: tables, and the eight rules of the program -/
namespace D1
open PySem L2 Evl
abbrev Tb := List (List Int)
/-- the thing at a row and a place -/
def cell (t : Tb) (a b : Int) : Int := (t.getD a.toNat []).getD b.toNat 0
structure Sq (n : Nat) (t : Tb) : Prop where
  len : t.length = n
  row : ∀ r ∈ t, r.length = n ∧ ∀ x ∈ r, 0 ≤ x ∧ x < (n : Int)
theorem Sq.at {n : Nat} {t : Tb} (s : Sq n t) {a : Int} (h0 : 0 ≤ a) (h1 : a < n) : ∃ r, t[a.toNat]? = some r ∧ r.length = n ∧ ∀ x ∈ r, 0 ≤ x ∧ x < (n : Int) := by
  have hi : a.toNat < t.length := by have := s.len; omega
  exact ⟨t[a.toNat], List.getElem?_eq_getElem hi, s.row _ (List.getElem_mem hi)⟩
theorem Sq.cell {n : Nat} {t : Tb} (s : Sq n t) {a b : Int} (a0 : 0 ≤ a) (a1 : a < n) (b0 : 0 ≤ b) (b1 : b < n) : 0 ≤ cell t a b ∧ cell t a b < n := by
  obtain ⟨r, hr, hl, hx⟩ := s.at a0 a1
  have hg : t.getD a.toNat [] = r := by rw [List.getD_eq_getElem?_getD, hr]; rfl
  unfold D1.cell
  rw [hg, List.getD_eq_getElem?_getD]
  have hj : b.toNat < r.length := by omega
  rw [List.getElem?_eq_getElem hj, Option.getD_some]
  exact hx _ (List.getElem_mem hj)
/-- a table of rows as it lies -/
def TabAt (H : Hp) (p : Addr) (t : Tb) : Prop := ∃ rs : List Addr, H p = some (.tup (rs.map V.ref)) ∧ rs.length = t.length ∧ ∀ (i : Nat) r row, rs[i]? = some r → t[i]? = some row → H r = some (.tup (row.map V.int))
theorem TabAt.ex {H H' : Hp} {p : Addr} {t : Tb} (h : TabAt H p t) (e : Ex H H') : TabAt H' p t := by
  obtain ⟨rs, h1, h2, h3⟩ := h
  exact ⟨rs, e _ _ h1, h2, fun i r row a b => e _ _ (h3 i r row a b)⟩
section
variable {K : PySem.W.Frag} {σ : L2.St} {H : Hp} {tp ta tb : TE}
theorem ev_cell {p : Addr} {t : Tb} {n : Nat} {a b : Int} (hp : Ev tp σ H (.ref p)) (ha : Ev ta σ H (.int a)) (hb : Ev tb σ H (.int b)) (ht : TabAt H p t) (s : Sq n t) (a0 : 0 ≤ a) (a1 : a < n) (b0 : 0 ≤ b) (b1 : b < n) :
    Ev (tOp (rIxT K) (tOp (rIxT K) tp ta) tb) σ H (.int (cell t a b)) := by
  obtain ⟨rs, h1, h2, h3⟩ := ht
  obtain ⟨r, hr, hl, hx⟩ := s.at a0 a1
  have hi : a.toNat < rs.length := by have := s.len; omega
  have hR : rs[a.toNat]? = some rs[a.toNat] := List.getElem?_eq_getElem hi
  have hj : b.toNat < r.length := by omega
  have hc : cell t a b = r[b.toNat] := by
    have hg : t.getD a.toNat [] = r := by rw [List.getD_eq_getElem?_getD, hr]; rfl
    unfold cell
    rw [hg, List.getD_eq_getElem?_getD, List.getElem?_eq_getElem hj, Option.getD_some]
  rw [hc]
  exact ev_op (ev_op hp ha (rv_ixT (.inl (.inl h1)) (atI_of a0 (by rw [List.getElem?_map, hR]; rfl)))) hb (rv_ixT (.inl (.inl (h3 _ _ _ hR hr))) (atI_of b0 (by rw [List.getElem?_map, List.getElem?_eq_getElem hj]; rfl)))
end
/-! ### the rules -/
def g0 (row : List Int) : Int := row.getD 0 0
def g1 (row : List Int) : Int := row.getD 1 0
def g2 (row : List Int) : Int := row.getD 2 0
def turned (t : Tb) (row : List Int) : Bool := cell t (g0 row) (g1 row) == cell t (g1 row) (g0 row)
def joined (t : Tb) (row : List Int) : Bool := cell t (cell t (g0 row) (g1 row)) (g2 row) == cell t (g0 row) (cell t (g1 row) (g2 row))
def spread (S P : Tb) (row : List Int) : Bool := cell P (g0 row) (cell S (g1 row) (g2 row)) == cell S (cell P (g0 row) (g1 row)) (cell P (g0 row) (g2 row))
def holdsB : Nat → Tb → Tb → List Int → Bool
  | 0, S, _, row => turned S row
  | 1, S, _, row => joined S row
  | 2, S, _, row => cell S 0 (g0 row) == g0 row
  | 3, _, P, row => turned P row
  | 4, _, P, row => joined P row
  | 5, _, P, row => cell P 1 (g0 row) == g0 row
  | 6, _, P, row => cell P 0 (g0 row) == 0
  | _, S, P, row => spread S P row
def arity : Nat → Nat
  | 0 => 2 | 1 => 3 | 2 => 1 | 3 => 2 | 4 => 3 | 5 => 1 | 6 => 1 | _ => 3
/-- a row of so many things -/
def RowN (n k : Nat) (row : List Int) : Prop := row.length = k ∧ ∀ x ∈ row, 0 ≤ x ∧ x < (n : Int)
structure Two (n : Nat) (H : Hp) (p q : Addr) (S P : Tb) : Prop where
  two : 2 ≤ n
  s : TabAt H p S
  p : TabAt H q P
  sq : Sq n S
  pq : Sq n P
theorem Two.ex {n : Nat} {H H' : Hp} {p q : Addr} {S P : Tb} (h : Two n H p q S P) (e : Ex H H') : Two n H' p q S P := ⟨h.two, h.s.ex e, h.p.ex e, h.sq, h.pq⟩
/-- what a rule's function promises -/
def spHold (i : Nat) : Sp := fun vs H Q _ => ∃ (p q r : Addr) (n : Nat) (S P : Tb) (row : List Int), vs = [.ref p, .ref q, .ref r] ∧ Two n H p q S P ∧ H r = some (.tup (row.map V.int)) ∧ RowN n (arity i) row ∧ ∀ H', Ex H H' → Q (.bl (holdsB i S P row)) H'
def spJoin : Sp := fun vs H Q _ => ∃ (p r : Addr) (n : Nat) (S : Tb) (row : List Int), vs = [.ref p, .ref r] ∧ TabAt H p S ∧ Sq n S ∧ H r = some (.tup (row.map V.int)) ∧ RowN n 3 row ∧ ∀ H', Ex H H' → Q (.bl (joined S row)) H'
theorem row1 {n : Nat} {row : List Int} (h : RowN n 1 row) : ∃ a, row = [a] ∧ 0 ≤ a ∧ a < (n : Int) := by
  obtain ⟨hl, hx⟩ := h
  match row, hl with
  | [a], _ => exact ⟨a, rfl, hx a (by simp)⟩
theorem row2 {n : Nat} {row : List Int} (h : RowN n 2 row) : ∃ a b, row = [a, b] ∧ (0 ≤ a ∧ a < (n : Int)) ∧ (0 ≤ b ∧ b < (n : Int)) := by
  obtain ⟨hl, hx⟩ := h
  match row, hl with
  | [a, b], _ => exact ⟨a, b, rfl, hx a (by simp), hx b (by simp)⟩
theorem row3 {n : Nat} {row : List Int} (h : RowN n 3 row) : ∃ a b c, row = [a, b, c] ∧ (0 ≤ a ∧ a < (n : Int)) ∧ (0 ≤ b ∧ b < (n : Int)) ∧ (0 ≤ c ∧ c < (n : Int)) := by
  obtain ⟨hl, hx⟩ := h
  match row, hl with
  | [a, b, c], _ => exact ⟨a, b, c, rfl, hx a (by simp), hx b (by simp), hx c (by simp)⟩
section
variable {P : Program} {w : World} {K : PySem.W.Frag} {mg : Str → Option Value} {base : Heap}
abbrev s__joined : Stmt := top 80
theorem sc__joined : FnScope ["table", "things", "a", "b", "c"] ["table", "things"] (defScope s__joined) := ⟨rfl, rfl, rfl, by decide +kernel, rfl, by decide +kernel, by decide +kernel⟩
theorem ok__joined {f : Addr} {fd : FuncData} (F : FnP K "_joined" s__joined f fd) : FnOk P w K mg base CX0 1 f fd ["table", "things"] spJoin := by
  refine F.ok sc__joined (fun vs H Q E h => ?_) (fun cdv A outer s H vs Q E hr h => ?_)
  · obtain ⟨p, r, n, S, row, rfl, _⟩ := h
    rfl
  · obtain ⟨p, r, n, S, row, rfl, hS, sS, hr', hrow, q⟩ := h
    refine ⟨_, PSs.nox (pss_cons (ps_asg (pv 1) (pg_tup rfl (pgs_cons (pg_name (i := 2) sc__joined.nd rfl (Or.inl rfl)) (pgs_cons (pg_name (i := 3) sc__joined.nd rfl (Or.inl rfl)) (pgs_cons (pg_name (i := 4) sc__joined.nd rfl (Or.inl rfl)) pgs_nil)))))
      (pss_one (ps_ret (pe_cmpR op_eq (pe_ix ix_tup (pe_ix ix_tup (pv 0) (pe_ix ix_tup (pe_ix ix_tup (pv 0) (pv 2) (fun _ _ => rfl)) (pv 3) (fun _ _ => rfl)) (fun _ _ => rfl)) (pv 4) (fun _ _ => rfl)) (pe_ix ix_tup (pe_ix ix_tup (pv 0) (pv 2) (fun _ _ => rfl)) (pe_ix ix_tup (pe_ix ix_tup (pv 0) (pv 3) (fun _ _ => rfl)) (pv 4) (fun _ _ => rfl)) (fun _ _ => rfl)) (nomark _))))), ?_⟩
    obtain ⟨a, b, c, rfl, ⟨a0, a1⟩, ⟨b0, b1⟩, ⟨c0, c1⟩⟩ := row3 hrow
    refine ⟨_, rfl, r, _, rfl, .inl (.inl hr'), rfl, _, _, rfl, _, _, rfl, _, _, rfl, rfl, ?_⟩
    have ab := sS.cell a0 a1 b0 b1
    have bc := sS.cell b0 b1 c0 c1
    exact ev_eqI (ev_cell (ev_var rfl) (ev_cell (ev_var rfl) (ev_var rfl) (ev_var rfl) hS sS a0 a1 b0 b1) (ev_var rfl) hS sS ab.1 ab.2 c0 c1) (ev_cell (ev_var rfl) (ev_var rfl) (ev_cell (ev_var rfl) (ev_var rfl) (ev_var rfl) hS sS b0 b1 c0 c1) hS sS a0 a1 bc.1 bc.2) H (Ex.refl H) _ fun H' e => q H' e
abbrev s__sum_turned : Stmt := top 72
theorem sc__sum_turned : FnScope ["sums", "products", "things", "a", "b"] ["sums", "products", "things"] (defScope s__sum_turned) := ⟨rfl, rfl, rfl, by decide +kernel, rfl, by decide +kernel, by decide +kernel⟩
theorem ok__sum_turned {f : Addr} {fd : FuncData} (F : FnP K "_sum_turned" s__sum_turned f fd) : FnOk P w K mg base CX0 1 f fd ["sums", "products", "things"] (spHold 0) := by
  refine F.ok sc__sum_turned (fun vs H Q E h => ?_) (fun cdv A outer s H vs Q E hr h => ?_)
  · obtain ⟨p, q, r, n, S, P, row, rfl, _⟩ := h
    rfl
  · obtain ⟨p, q', r, n, S, P, row, rfl, T, hr', hrow, q⟩ := h
    refine ⟨_, PSs.nox (pss_cons (ps_asg (pv 2) (pg_tup rfl (pgs_cons (pg_name (i := 3) sc__sum_turned.nd rfl (Or.inl rfl)) (pgs_cons (pg_name (i := 4) sc__sum_turned.nd rfl (Or.inl rfl)) pgs_nil))))
      (pss_one (ps_ret (pe_cmpR op_eq (pe_ix ix_tup (pe_ix ix_tup (pv 0) (pv 3) (fun _ _ => rfl)) (pv 4) (fun _ _ => rfl)) (pe_ix ix_tup (pe_ix ix_tup (pv 0) (pv 4) (fun _ _ => rfl)) (pv 3) (fun _ _ => rfl)) (nomark _))))), ?_⟩
    have n2 := T.two
    obtain ⟨a, b, rfl, ⟨a0, a1⟩, ⟨b0, b1⟩⟩ := row2 hrow
    refine ⟨_, rfl, r, _, rfl, .inl (.inl hr'), rfl, _, _, rfl, _, _, rfl, rfl, ?_⟩
    exact ev_eqI (ev_cell (ev_var rfl) (ev_var rfl) (ev_var rfl) T.s T.sq a0 a1 b0 b1) (ev_cell (ev_var rfl) (ev_var rfl) (ev_var rfl) T.s T.sq b0 b1 a0 a1) H (Ex.refl H) _ fun H' e => q H' e
abbrev s__product_turned : Stmt := top 75
theorem sc__product_turned : FnScope ["sums", "products", "things", "a", "b"] ["sums", "products", "things"] (defScope s__product_turned) := ⟨rfl, rfl, rfl, by decide +kernel, rfl, by decide +kernel, by decide +kernel⟩
theorem ok__product_turned {f : Addr} {fd : FuncData} (F : FnP K "_product_turned" s__product_turned f fd) : FnOk P w K mg base CX0 1 f fd ["sums", "products", "things"] (spHold 3) := by
  refine F.ok sc__product_turned (fun vs H Q E h => ?_) (fun cdv A outer s H vs Q E hr h => ?_)
  · obtain ⟨p, q, r, n, S, P, row, rfl, _⟩ := h
    rfl
  · obtain ⟨p, q', r, n, S, P, row, rfl, T, hr', hrow, q⟩ := h
    refine ⟨_, PSs.nox (pss_cons (ps_asg (pv 2) (pg_tup rfl (pgs_cons (pg_name (i := 3) sc__product_turned.nd rfl (Or.inl rfl)) (pgs_cons (pg_name (i := 4) sc__product_turned.nd rfl (Or.inl rfl)) pgs_nil))))
      (pss_one (ps_ret (pe_cmpR op_eq (pe_ix ix_tup (pe_ix ix_tup (pv 1) (pv 3) (fun _ _ => rfl)) (pv 4) (fun _ _ => rfl)) (pe_ix ix_tup (pe_ix ix_tup (pv 1) (pv 4) (fun _ _ => rfl)) (pv 3) (fun _ _ => rfl)) (nomark _))))), ?_⟩
    have n2 := T.two
    obtain ⟨a, b, rfl, ⟨a0, a1⟩, ⟨b0, b1⟩⟩ := row2 hrow
    refine ⟨_, rfl, r, _, rfl, .inl (.inl hr'), rfl, _, _, rfl, _, _, rfl, rfl, ?_⟩
    exact ev_eqI (ev_cell (ev_var rfl) (ev_var rfl) (ev_var rfl) T.p T.pq a0 a1 b0 b1) (ev_cell (ev_var rfl) (ev_var rfl) (ev_var rfl) T.p T.pq b0 b1 a0 a1) H (Ex.refl H) _ fun H' e => q H' e
abbrev s__sum_joined : Stmt := top 73
theorem sc__sum_joined : FnScope ["sums", "products", "things"] ["sums", "products", "things"] (defScope s__sum_joined) := ⟨rfl, rfl, rfl, by decide +kernel, rfl, by decide +kernel, by decide +kernel⟩
theorem ok__sum_joined {f f__joined : Addr} {fd fd__joined : FuncData} (F : FnP K "_sum_joined" s__sum_joined f fd) (F__joined : FnP K "_joined" s__joined f__joined fd__joined) (g__joined : mg "_joined" = some (.ref f__joined)) : FnOk P w K mg base CX0 2 f fd ["sums", "products", "things"] (spHold 1) := by
  have G__joined : FnOk P w K mg base CX0 1 f__joined fd__joined ["table", "things"] spJoin := ok__joined F__joined
  have b__joined : Binds K fd__joined ["table", "things"] [] := F__joined.bindsN fun _ _ _ _ _ _ us hl => match us, hl with | [_, _], _ => rfl
  refine F.ok sc__sum_joined (fun vs H Q E h => ?_) (fun cdv A outer s H vs Q E hr h => ?_)
  · obtain ⟨p, q, r, n, S, P, row, rfl, _⟩ := h
    rfl
  · obtain ⟨p, q', r, n, S, P, row, rfl, T, hr', hrow, q⟩ := h
    have hr__joined := hr
    refine ⟨_, PSs.nox (pss_one (ps_ret (pe_call G__joined hr__joined rfl g__joined F__joined.kp b__joined .nil pass0 (pa_cons (pv 0) (pa_cons (pv 2) pa_nil))))), ?_⟩
    have n2 := T.two
    exact ⟨_, rfl, _, rfl, p, r, n, _, row, rfl, T.s, T.sq, hr', hrow, fun H' e => q H' e⟩
abbrev s__product_joined : Stmt := top 76
theorem sc__product_joined : FnScope ["sums", "products", "things"] ["sums", "products", "things"] (defScope s__product_joined) := ⟨rfl, rfl, rfl, by decide +kernel, rfl, by decide +kernel, by decide +kernel⟩
theorem ok__product_joined {f f__joined : Addr} {fd fd__joined : FuncData} (F : FnP K "_product_joined" s__product_joined f fd) (F__joined : FnP K "_joined" s__joined f__joined fd__joined) (g__joined : mg "_joined" = some (.ref f__joined)) : FnOk P w K mg base CX0 2 f fd ["sums", "products", "things"] (spHold 4) := by
  have G__joined : FnOk P w K mg base CX0 1 f__joined fd__joined ["table", "things"] spJoin := ok__joined F__joined
  have b__joined : Binds K fd__joined ["table", "things"] [] := F__joined.bindsN fun _ _ _ _ _ _ us hl => match us, hl with | [_, _], _ => rfl
  refine F.ok sc__product_joined (fun vs H Q E h => ?_) (fun cdv A outer s H vs Q E hr h => ?_)
  · obtain ⟨p, q, r, n, S, P, row, rfl, _⟩ := h
    rfl
  · obtain ⟨p, q', r, n, S, P, row, rfl, T, hr', hrow, q⟩ := h
    have hr__joined := hr
    refine ⟨_, PSs.nox (pss_one (ps_ret (pe_call G__joined hr__joined rfl g__joined F__joined.kp b__joined .nil pass0 (pa_cons (pv 1) (pa_cons (pv 2) pa_nil))))), ?_⟩
    have n2 := T.two
    exact ⟨_, rfl, _, rfl, q', r, n, _, row, rfl, T.p, T.pq, hr', hrow, fun H' e => q H' e⟩
abbrev s__zero : Stmt := top 74
theorem sc__zero : FnScope ["sums", "products", "things"] ["sums", "products", "things"] (defScope s__zero) := ⟨rfl, rfl, rfl, by decide +kernel, rfl, by decide +kernel, by decide +kernel⟩
theorem ok__zero {f : Addr} {fd : FuncData} (F : FnP K "_zero" s__zero f fd) : FnOk P w K mg base CX0 1 f fd ["sums", "products", "things"] (spHold 2) := by
  refine F.ok sc__zero (fun vs H Q E h => ?_) (fun cdv A outer s H vs Q E hr h => ?_)
  · obtain ⟨p, q, r, n, S, P, row, rfl, _⟩ := h
    rfl
  · obtain ⟨p, q', r, n, S, P, row, rfl, T, hr', hrow, q⟩ := h
    refine ⟨_, PSs.nox (pss_one (ps_ret (pe_cmpR op_eq (pe_ix ix_tup (pe_ix ix_tup (pv 0) pe_int (fun _ _ => rfl)) (pe_ix ix_tup (pv 2) pe_int (fun _ _ => rfl)) (fun _ _ => rfl)) (pe_ix ix_tup (pv 2) pe_int (fun _ _ => rfl)) (nomark _)))), ?_⟩
    have n2 := T.two
    obtain ⟨a, rfl, a0, a1⟩ := row1 hrow
    exact ev_eqI (ev_cell (ev_var rfl) ev_c (ev_op (ev_var rfl) ev_c (rv_ixT (.inl (.inl hr')) (atI_of (by decide) rfl))) T.s T.sq (by omega) (by omega) a0 a1) (ev_op (ev_var rfl) ev_c (rv_ixT (.inl (.inl hr')) (atI_of (by decide) rfl))) H (Ex.refl H) _ fun H' e => q H' e
abbrev s__one : Stmt := top 77
theorem sc__one : FnScope ["sums", "products", "things"] ["sums", "products", "things"] (defScope s__one) := ⟨rfl, rfl, rfl, by decide +kernel, rfl, by decide +kernel, by decide +kernel⟩
theorem ok__one {f : Addr} {fd : FuncData} (F : FnP K "_one" s__one f fd) : FnOk P w K mg base CX0 1 f fd ["sums", "products", "things"] (spHold 5) := by
  refine F.ok sc__one (fun vs H Q E h => ?_) (fun cdv A outer s H vs Q E hr h => ?_)
  · obtain ⟨p, q, r, n, S, P, row, rfl, _⟩ := h
    rfl
  · obtain ⟨p, q', r, n, S, P, row, rfl, T, hr', hrow, q⟩ := h
    refine ⟨_, PSs.nox (pss_one (ps_ret (pe_cmpR op_eq (pe_ix ix_tup (pe_ix ix_tup (pv 1) pe_int (fun _ _ => rfl)) (pe_ix ix_tup (pv 2) pe_int (fun _ _ => rfl)) (fun _ _ => rfl)) (pe_ix ix_tup (pv 2) pe_int (fun _ _ => rfl)) (nomark _)))), ?_⟩
    have n2 := T.two
    obtain ⟨a, rfl, a0, a1⟩ := row1 hrow
    exact ev_eqI (ev_cell (ev_var rfl) ev_c (ev_op (ev_var rfl) ev_c (rv_ixT (.inl (.inl hr')) (atI_of (by decide) rfl))) T.p T.pq (by omega) (by omega) a0 a1) (ev_op (ev_var rfl) ev_c (rv_ixT (.inl (.inl hr')) (atI_of (by decide) rfl))) H (Ex.refl H) _ fun H' e => q H' e
abbrev s__nought : Stmt := top 78
theorem sc__nought : FnScope ["sums", "products", "things"] ["sums", "products", "things"] (defScope s__nought) := ⟨rfl, rfl, rfl, by decide +kernel, rfl, by decide +kernel, by decide +kernel⟩
theorem ok__nought {f : Addr} {fd : FuncData} (F : FnP K "_nought" s__nought f fd) : FnOk P w K mg base CX0 1 f fd ["sums", "products", "things"] (spHold 6) := by
  refine F.ok sc__nought (fun vs H Q E h => ?_) (fun cdv A outer s H vs Q E hr h => ?_)
  · obtain ⟨p, q, r, n, S, P, row, rfl, _⟩ := h
    rfl
  · obtain ⟨p, q', r, n, S, P, row, rfl, T, hr', hrow, q⟩ := h
    refine ⟨_, PSs.nox (pss_one (ps_ret (pe_cmpR op_eq (pe_ix ix_tup (pe_ix ix_tup (pv 1) pe_int (fun _ _ => rfl)) (pe_ix ix_tup (pv 2) pe_int (fun _ _ => rfl)) (fun _ _ => rfl)) pe_int (nomark _)))), ?_⟩
    have n2 := T.two
    obtain ⟨a, rfl, a0, a1⟩ := row1 hrow
    exact ev_eqI (ev_cell (ev_var rfl) ev_c (ev_op (ev_var rfl) ev_c (rv_ixT (.inl (.inl hr')) (atI_of (by decide) rfl))) T.p T.pq (by omega) (by omega) a0 a1) ev_c H (Ex.refl H) _ fun H' e => q H' e
abbrev s__spread : Stmt := top 79
theorem sc__spread : FnScope ["sums", "products", "things", "a", "b", "c"] ["sums", "products", "things"] (defScope s__spread) := ⟨rfl, rfl, rfl, by decide +kernel, rfl, by decide +kernel, by decide +kernel⟩
theorem ok__spread {f : Addr} {fd : FuncData} (F : FnP K "_spread" s__spread f fd) : FnOk P w K mg base CX0 1 f fd ["sums", "products", "things"] (spHold 7) := by
  refine F.ok sc__spread (fun vs H Q E h => ?_) (fun cdv A outer s H vs Q E hr h => ?_)
  · obtain ⟨p, q, r, n, S, P, row, rfl, _⟩ := h
    rfl
  · obtain ⟨p, q', r, n, S, P, row, rfl, T, hr', hrow, q⟩ := h
    refine ⟨_, PSs.nox (pss_cons (ps_asg (pv 2) (pg_tup rfl (pgs_cons (pg_name (i := 3) sc__spread.nd rfl (Or.inl rfl)) (pgs_cons (pg_name (i := 4) sc__spread.nd rfl (Or.inl rfl)) (pgs_cons (pg_name (i := 5) sc__spread.nd rfl (Or.inl rfl)) pgs_nil)))))
      (pss_one (ps_ret (pe_cmpR op_eq (pe_ix ix_tup (pe_ix ix_tup (pv 1) (pv 3) (fun _ _ => rfl)) (pe_ix ix_tup (pe_ix ix_tup (pv 0) (pv 4) (fun _ _ => rfl)) (pv 5) (fun _ _ => rfl)) (fun _ _ => rfl)) (pe_ix ix_tup (pe_ix ix_tup (pv 0) (pe_ix ix_tup (pe_ix ix_tup (pv 1) (pv 3) (fun _ _ => rfl)) (pv 4) (fun _ _ => rfl)) (fun _ _ => rfl)) (pe_ix ix_tup (pe_ix ix_tup (pv 1) (pv 3) (fun _ _ => rfl)) (pv 5) (fun _ _ => rfl)) (fun _ _ => rfl)) (nomark _))))), ?_⟩
    have n2 := T.two
    obtain ⟨a, b, c, rfl, ⟨a0, a1⟩, ⟨b0, b1⟩, ⟨c0, c1⟩⟩ := row3 hrow
    refine ⟨_, rfl, r, _, rfl, .inl (.inl hr'), rfl, _, _, rfl, _, _, rfl, _, _, rfl, rfl, ?_⟩
    have ab := T.pq.cell a0 a1 b0 b1
    have ac := T.pq.cell a0 a1 c0 c1
    have bc := T.sq.cell b0 b1 c0 c1
    exact ev_eqI (ev_cell (ev_var rfl) (ev_var rfl) (ev_cell (ev_var rfl) (ev_var rfl) (ev_var rfl) T.s T.sq b0 b1 c0 c1) T.p T.pq a0 a1 bc.1 bc.2) (ev_cell (ev_var rfl) (ev_cell (ev_var rfl) (ev_var rfl) (ev_var rfl) T.p T.pq a0 a1 b0 b1) (ev_cell (ev_var rfl) (ev_var rfl) (ev_var rfl) T.p T.pq a0 a1 c0 c1) T.s T.sq ab.1 ab.2 ac.1 ac.2) H (Ex.refl H) _ fun H' e => q H' e
end
end D1
end
section
set_option Elab.async false
set_option linter.all false
set_option maxRecDepth 100000
set_option maxHeartbeats 4000000
/-! D4: all rows of so many things -/
namespace D1
open PySem L2 Evl
def RowsAt (H : Hp) (rs : List Addr) (t : Tb) : Prop := rs.length = t.length ∧ ∀ (i : Nat) r row, rs[i]? = some r → t[i]? = some row → H r = some (.tup (row.map V.int))
theorem RowsAt.ex {H H' : Hp} {rs : List Addr} {t : Tb} (h : RowsAt H rs t) (e : Ex H H') : RowsAt H' rs t := ⟨h.1, fun i r row a b => e _ _ (h.2 i r row a b)⟩
theorem RowsAt.nil {H : Hp} : RowsAt H [] [] := ⟨rfl, fun i r row a _ => by simp at a⟩
theorem RowsAt.push {H : Hp} {rs : List Addr} {t : Tb} {r : Addr} {row : List Int} (h : RowsAt H rs t) (hr : H r = some (.tup (row.map V.int))) : RowsAt H (rs ++ [r]) (t ++ [row]) := by
  obtain ⟨h1, h2⟩ := h
  refine ⟨by simp [h1], fun i r' row' a b => ?_⟩
  by_cases hi : i < rs.length
  · rw [List.getElem?_append_left hi] at a
    rw [List.getElem?_append_left (by omega)] at b
    exact h2 i r' row' a b
  · rw [List.getElem?_append_right (by omega)] at a
    rw [List.getElem?_append_right (by omega)] at b
    have h3 : i - rs.length = 0 := by
      by_cases h4 : i - rs.length = 0
      · exact h4
      · rw [List.getElem?_eq_none (by simp; omega)] at a
        cases a
    rw [h3] at a
    have h5 : i - t.length = 0 := by omega
    rw [h5] at b
    have e1 : r = r' := by simpa using a
    have e2 : row = row' := by simpa using b
    rw [← e1, ← e2]
    exact hr
theorem RowsAt.upd {H : Hp} {rs : List Addr} {t : Tb} {D : Addr} {acc : List V} {o : HO} (h : RowsAt H rs t) (hD : H D = some (.lst acc)) : RowsAt (upd H D o) rs t := ⟨h.1, fun i r row a b => by
  have e := h.2 i r row a b
  rw [upd_ne (fun z => by rw [z, hD] at e; cases e)]
  exact e⟩
/-- each row, with each thing behind -/
def ext (rows : Tb) (n : Nat) : Tb := rows.flatMap fun row => (List.range n).map fun (x : Nat) => row ++ [(x : Int)]
def rowsN (n : Nat) : Nat → Tb
  | 0 => [[]]
  | k + 1 => ext (rowsN n k) n
theorem ext_len (rows : Tb) (n : Nat) : (ext rows n).length = rows.length * n := by
  unfold ext
  induction rows with
  | nil => simp
  | cons r rows ih => rw [List.flatMap_cons, List.length_append, ih, List.length_map, List.length_range, List.length_cons, Nat.succ_mul]; omega
theorem rowsN_len (n k : Nat) : (rowsN n k).length = n ^ k := by
  induction k with
  | zero => rfl
  | succ k ih => rw [rowsN, ext_len, ih, Nat.pow_succ]
theorem rowsN_in {n k : Nat} {row : List Int} (h : row ∈ rowsN n k) : RowN n k row := by
  induction k generalizing row with
  | zero =>
    simp [rowsN] at h
    subst h
    exact ⟨rfl, fun x hx => by simp at hx⟩
  | succ k ih =>
    rw [rowsN] at h
    unfold ext at h
    obtain ⟨r, hr, h2⟩ := List.mem_flatMap.mp h
    obtain ⟨x, hx, rfl⟩ := List.mem_map.mp h2
    obtain ⟨l1, l2⟩ := ih hr
    have hx2 := List.mem_range.mp hx
    refine ⟨by simp [l1], fun y hy => ?_⟩
    rcases List.mem_append.mp hy with h3 | h3
    · exact l2 y h3
    · simp at h3
      subst h3
      omega
theorem ext_take {rows : Tb} {n i : Nat} {row : List Int} (h : rows[i]? = some row) : ext (rows.take (i + 1)) n = ext (rows.take i) n ++ (List.range n).map fun (x : Nat) => row ++ [(x : Int)] := by
  unfold ext
  rw [List.take_succ, h, List.flatMap_append]
  simp
theorem ext_full {rows : Tb} {n : Nat} : ext (rows.take rows.length) n = ext rows n := by rw [List.take_length]
theorem small_pow {n k : Nat} (hn : n ≤ 6) (hk : k ≤ 3) : n ^ k ≤ 216 := by
  have h1 : n ^ k ≤ 6 ^ k := Nat.pow_le_pow_left hn k
  have h2 : 6 ^ k ≤ 6 ^ 3 := Nat.pow_le_pow_right (by decide) hk
  have : (6 : Nat) ^ 3 = 216 := by decide
  omega
section
variable {P : Program} {w : World} {K : PySem.W.Frag} {mg : Str → Option Value} {base : Heap}
def spRows : Sp := fun vs H Q _ => ∃ (n k : Nat), vs = [.int n, .int k] ∧ n ≤ 6 ∧ k ≤ 3 ∧ ∀ (D : Addr) (rs : List Addr) H', Ex H H' → H D = none → H' D = some (.lst (rs.map V.ref)) → RowsAt H' rs (rowsN n k) → Q (.ref D) H'
abbrev s__rows : Stmt := top 83
theorem sc__rows : FnScope ["size", "many", "rows", "_", "row", "thing"] ["size", "many"] (defScope s__rows) := ⟨rfl, rfl, rfl, by decide +kernel, rfl, by decide +kernel, by decide +kernel⟩
theorem ok__rows {f : Addr} {fd : FuncData} (F : FnP K "_rows" s__rows f fd) (z_range : mg "range" = none) : FnOk P w K mg base CX0 1 f fd ["size", "many"] spRows := by
  refine F.ok sc__rows (fun vs H Q E h => ?_) (fun cdv A outer s H vs Q E hr h => ?_)
  · obtain ⟨n, k, rfl, _⟩ := h
    rfl
  · obtain ⟨n, k, rfl, hn, hk, q⟩ := h
    refine ⟨_, PSs.nox (pss_cons (ps_set (i := 2) sc__rows.nd rfl (Or.inl rfl) (pe_lst (pa_cons (pe_tup pa_nil) pa_nil)))
      (pss_cons (ps_for PassesOwn.never rfl (pi_range1 rfl z_range (pa_cons (pv 1) pa_nil)) (pg_name (i := 3) sc__rows.nd rfl (Or.inl rfl)) (pss_one (ps_setLc2 (i := 2) (own := [("row", 4), ("thing", 5)]) (vs1 := [5]) (g := gName 4) (g1 := gName 5) (tt := tYes) (tt1 := tYes) (te := tTup (StX.tStar K (tVar 4) (tCons (tVar 5) tNil))) (by rfl) sc__rows.nd rfl rfl (sw_true rfl rfl rfl (by decide +kernel)) (pi_list (pv 2)) (blkOk_by (own := [("row", 4), ("thing", 5)]) (N := ["size", "many", "rows", "_", "row", "thing"]) (sc := defScope s__rows) (by decide +kernel)) (by decide) (fun _ _ _ _ _ => pg_name (i := 4) sc__rows.nd rfl (Or.inl rfl)) (fun _ _ _ _ _ => pts_nil) (fun _ _ _ _ _ => pi_range1 rfl z_range (pa_cons (pv 0) pa_nil)) (fun _ _ _ _ _ => pg_name (i := 5) sc__rows.nd rfl (Or.inl rfl)) (fun _ _ _ _ _ => pts_nil) (fun _ _ _ _ _ => pe_tup (StX.pa_star (pv 4) (pa_cons (pv 5) pa_nil))))))
      (pss_one (ps_ret (pv 2))))), ?_⟩
    refine ⟨Nat.zero_le _, fun p0 hp0 => ⟨by show 1 ≤ sizeLine; decide, fun D hD => ?_⟩⟩
    have e0 := (Ex.new (o := .tup []) hp0).trans (Ex.new (o := .lst [.ref p0]) hD)
    have hD0 := fresh_back (Ex.new (o := .tup []) hp0) hD
    refine ⟨_, rfl, k, rfl, by omega, by omega, for_it (walk_range (lo := 0) (n := ((k : Nat) : Int).toNat)) (fun i σ' H' => ∃ x D rs, σ' = [some (.int n), some (.int k), some (.ref D), x, none, none] ∧ Ex H H' ∧ H D = none ∧ H' D = some (.lst (rs.map V.ref)) ∧ RowsAt H' rs (rowsN n i)) ⟨none, D, [p0], rfl, e0, hD0, upd_same, ?_⟩ (fun _ _ _ _ _ => True.intro) ?_ ?_⟩
    · refine RowsAt.push (rs := []) (t := []) RowsAt.nil ?_
      rw [upd_ne (fun z => by rw [← z, upd_same] at hD; cases hD)]
      exact upd_same
    · rintro i x σ' _ H1 hi ⟨x3, D1, rs, rfl, e1, hD1, hL, hR⟩ ⟨rfl, rfl⟩
      have hrl : rs.length = n ^ i := by rw [hR.1, rowsN_len]
      have sp : n ^ (i + 1) ≤ 216 := small_pow hn (by omega)
      refine ⟨_, rfl, D1, rfl, ⟨_, SqL.of hL⟩, fun D2 hD2 => ?_⟩
      refine turns_it (walk_list (K := K) (a := D1) (xs := rs.map V.ref)) (fun m G => Ex H1 G ∧ ∃ rs2, G D2 = some (.lst (rs2.map V.ref)) ∧ RowsAt G rs2 (ext ((rowsN n i).take m) n)) ⟨Ex.new hD2, [], upd_same, RowsAt.nil⟩ (fun m G _ h => ex_l h.1 (SqL.of hL)) ?_ ?_
      · rintro m x _ G hm ⟨eG, rs2, hG, hR2⟩ ⟨rfl, hx⟩
        have hx2 : (rs.map V.ref)[m]? = some x := hx
        rw [List.getElem?_map] at hx2
        obtain ⟨r, hr1, rfl⟩ := Option.map_eq_some_iff.mp hx2
        have hm2 : m < (rowsN n i).length := by
          have := (List.getElem?_eq_some_iff.mp hr1).1
          rw [← hR.1]
          exact this
        have hrow := List.getElem?_eq_getElem hm2
        generalize (rowsN n i)[m] = row at hrow
        have hr2 : ∀ {G'}, Ex H1 G' → G' r = some (.tup (row.map V.int)) := fun e => e _ _ (hR.2 m r row hr1 hrow)
        refine ⟨rfl, tyes_go (yes_of rfl ?_)⟩
        refine ⟨_, rfl, n, rfl, by omega, by omega, ?_⟩
        refine turns_it (walk_range (lo := 0) (n := ((n : Nat) : Int).toNat)) (fun j G' => Ex H1 G' ∧ ∃ rs3, G' D2 = some (.lst (rs3.map V.ref)) ∧ RowsAt G' rs3 (ext ((rowsN n i).take m) n ++ (List.range j).map fun (x : Nat) => row ++ [(x : Int)])) ⟨eG, rs2, hG, by simpa using hR2⟩ (fun _ _ _ _ => True.intro) ?_ ?_
        · rintro j x _ G' hj ⟨eG', rs3, hG', hR3⟩ ⟨rfl, rfl⟩
          refine ⟨rfl, tyes_go (yes_of rfl ?_)⟩
          refine ⟨_, rfl, r, _, rfl, .inl (.inl (.inl (hr2 eG'))), _, rfl, ?_, fun p hp => ?_⟩
          · have hrl2 := (rowsN_in (List.mem_of_getElem? hrow)).1
            refine Nat.le_trans ?_ (by decide : 4 ≤ sizeLine)
            show (row.map V.int ++ [_]).length ≤ 4
            rw [List.length_append, List.length_map, hrl2]
            show i + 1 ≤ 4
            omega
          · have hl3 : rs3.length < sizeLine := by
              refine Nat.lt_of_le_of_lt ?_ (by decide : 216 < sizeLine)
              rw [hR3.1, List.length_append, ext_len, List.length_map, List.length_range, List.length_take, Nat.min_eq_left (by omega)]
              have h1 : (m + 1) * n ≤ n ^ i * n := Nat.mul_le_mul_right n (by rw [rowsN_len] at hm2; omega)
              rw [← Nat.pow_succ, Nat.succ_mul] at h1
              have hj2 : j < n := by omega
              have sp2 : n ^ i.succ ≤ 216 := sp
              omega
            refine ⟨_, by rw [upd_ne (ne_of_none hG' hp)]; exact hG', by rw [List.length_map]; exact hl3, Ex.mut (eG'.trans (Ex.new hp)) hD2, rs3 ++ [p], by rw [upd_same, List.map_append]; rfl, ?_⟩
            rw [List.range_succ, List.map_append, ← List.append_assoc]
            refine RowsAt.upd (acc := rs3.map V.ref) (RowsAt.push (hR3.ex (Ex.new hp)) ?_) (by rw [upd_ne (ne_of_none hG' hp)]; exact hG')
            rw [upd_same, List.map_append]
            simp
        · rintro G' ⟨eG', rs3, hG', hR3⟩
          refine ⟨eG', rs3, hG', ?_⟩
          rw [ext_take hrow]
          exact hR3
      · rintro G ⟨eG, rs2, hG, hR2⟩
        refine ⟨_, D2, rs2, rfl, e1.trans eG, fresh_back e1 hD2, hG, ?_⟩
        rw [List.length_map, hR.1, ext_full] at hR2
        exact hR2
    · rintro σ' G ⟨x3, D1, rs, rfl, e1, hD1, hL, hR⟩
      exact ⟨_, rfl, q D1 rs G e1 hD1 hL hR⟩
end
end D1
end
section
set_option Elab.async false
set_option linter.all false
set_option maxRecDepth 100000
set_option maxHeartbeats 4000000
/-! D8: the first rule that is broken, by the program -/
namespace D1
open PySem L2 Evl RZ
def rname : Nat → Str
  | 0 => "sum turned" | 1 => "sum joined" | 2 => "zero" | 3 => "product turned" | 4 => "product joined" | 5 => "one" | 6 => "nought" | _ => "spread"
def Fb (n : Nat) (S P : Tb) : Option (Nat × List Int) → Prop
  | none => ∀ i, i < 8 → ∀ row ∈ rowsN n (arity i), holdsB i S P row = true
  | some (i, row) => i < 8 ∧ (∀ j, j < i → ∀ row' ∈ rowsN n (arity j), holdsB j S P row' = true) ∧ ∃ m : Nat, (rowsN n (arity i))[m]? = some row ∧ (∀ m' : Nat, m' < m → ∀ row', (rowsN n (arity i))[m']? = some row' → holdsB i S P row' = true) ∧ holdsB i S P row = false
theorem Fb.unique {n : Nat} {S P : Tb} {o o' : Option (Nat × List Int)} (h : Fb n S P o) (h' : Fb n S P o') : o = o' := by
  have non : ∀ {i : Nat} {row : List Int}, Fb n S P none → Fb n S P (some (i, row)) → False := fun {i row} a b => by
    obtain ⟨hi, _, m, hm, _, hf⟩ := b
    have := a i hi row (List.mem_of_getElem? hm)
    rw [hf] at this
    cases this
  cases o with
  | none =>
    cases o' with
    | none => rfl
    | some x => exact (non h h').elim
  | some x =>
    cases o' with
    | none => exact (non h' h).elim
    | some y =>
      obtain ⟨i, row⟩ := x
      obtain ⟨j, row'⟩ := y
      obtain ⟨hi, ai, m, hm, bm, hf⟩ := h
      obtain ⟨hj, aj, m', hm', bm', hf'⟩ := h'
      have e1 : i = j := by
        rcases Nat.lt_trichotomy i j with c | c | c
        · have := aj i c row (List.mem_of_getElem? hm)
          rw [hf] at this
          cases this
        · exact c
        · have := ai j c row' (List.mem_of_getElem? hm')
          rw [hf'] at this
          cases this
      subst e1
      have e2 : m = m' := by
        rcases Nat.lt_trichotomy m m' with c | c | c
        · have := bm' m c row hm
          rw [hf] at this
          cases this
        · exact c
        · have := bm m' c row' hm'
          rw [hf'] at this
          cases this
      subst e2
      rw [hm] at hm'
      cases hm'
      rfl
theorem arity_le (i : Nat) : arity i ≤ 3 := by
  unfold arity
  split <;> decide
structure RulesAt (K : PySem.W.Frag) (mg : Str → Option Value) (aR : Addr) (ts fs : Nat → Addr) : Prop where
  g : mg "_RULES" = some (.ref aR)
  all : ∀ H, SqT K H aR ((List.range 8).map fun i => V.ref (ts i))
  row : ∀ i, i < 8 → ∀ H, SqT K H (ts i) [.str (rname i), .int (arity i), .ref (fs i)]
  inj : ∀ i j, i < 8 → j < 8 → fs i = fs j → i = j
/-- the promise that goes with a def's address -/
def spOf8 (fs : Nat → Addr) (f : Addr) : Option Sp := ((List.range 8).find? fun i => decide (fs i = f)).map spHold
theorem spOf8_is {K : PySem.W.Frag} {mg : Str → Option Value} {aR : Addr} {ts fs : Nat → Addr} (R : RulesAt K mg aR ts fs) {i : Nat} (hi : i < 8) : spOf8 fs (fs i) = some (spHold i) := by
  unfold spOf8
  cases h : (List.range 8).find? fun j => decide (fs j = fs i) with
  | none =>
    have := List.find?_eq_none.mp h i (List.mem_range.mpr hi)
    simp at this
  | some j =>
    have h0 : decide (fs j = fs i) = true := List.find?_some (p := fun j => decide (fs j = fs i)) h
    have h1 := of_decide_eq_true h0
    have h2 := List.mem_range.mp (List.mem_of_find?_eq_some h)
    rw [R.inj j i h2 hi h1]
    rfl
theorem spOf8_in {fs : Nat → Addr} {f : Addr} {sp : Sp} (h : spOf8 fs f = some sp) : ∃ i, i < 8 ∧ f = fs i ∧ sp = spHold i := by
  unfold spOf8 at h
  obtain ⟨j, h1, h2⟩ := Option.map_eq_some_iff.mp h
  have h0 : decide (fs j = f) = true := List.find?_some (p := fun j => decide (fs j = f)) h1
  have h3 := of_decide_eq_true h0
  have h4 := List.mem_range.mp (List.mem_of_find?_eq_some h1)
  exact ⟨j, h4, h3.symm, h2.symm⟩
/-- what the program tells: None or (rule, things) -/
def FirstAt (H : Hp) (v : V) : Option (Nat × List Int) → Prop
  | none => v = .non
  | some (i, row) => ∃ D r, v = .ref D ∧ H D = some (.tup [.str (rname i), .ref r]) ∧ H r = some (.tup (row.map V.int))
def spFirst : Sp := fun vs H Q _ => ∃ (p q : Addr) (n : Nat) (S P : Tb), vs = [.ref p, .ref q] ∧ Two n H p q S P ∧ n ≤ 6 ∧ ∀ (v : V) (o : Option (Nat × List Int)) H', Ex H H' → Fb n S P o → FirstAt H' v o → Q v H'
section
variable {P : Program} {w : World} {K : PySem.W.Frag} {mg : Str → Option Value} {base : Heap}
abbrev s_first_broken : Stmt := top 82
theorem sc_first_broken : FnScope ["sums", "products", "rule", "many", "holds", "things"] ["sums", "products"] (defScope s_first_broken) := ⟨rfl, rfl, rfl, by decide +kernel, rfl, by decide +kernel, by decide +kernel⟩
theorem ok_first_broken {f : Addr} {fd : FuncData} (F : FnP K "first_broken" s_first_broken f fd) {f__rows : Addr} {fd__rows : FuncData} (F__rows : FnP K "_rows" s__rows f__rows fd__rows) (g__rows : mg "_rows" = some (.ref f__rows)) (G__rows : FnOk P w K mg base CX0 1 f__rows fd__rows ["size", "many"] spRows) {aR : Addr} {ts fs : Nat → Addr} (R : RulesAt K mg aR ts fs) (hA : ∀ f sp, spOf8 fs f = some sp → Held P w K mg base 2 f sp) (z_len : mg "len" = none) : FnOk P w K mg base CX0 3 f fd ["sums", "products"] spFirst := by
  have b__rows : Binds K fd__rows ["size", "many"] [] := F__rows.bindsN fun _ _ _ _ _ _ us hl => match us, hl with | [_, _], _ => rfl
  refine F.ok sc_first_broken (fun vs H Q E h => ?_) (fun cdv A outer s H vs Q E hr h => ?_)
  · obtain ⟨p, q, n, S, P, rfl, _⟩ := h
    rfl
  · obtain ⟨p, q', n, S, M, rfl, T, hn, q⟩ := h
    have hr__rows := hr.mono (by decide : 1 ≤ 2)
    have hr_holds := hr
    refine ⟨_, PSs.nox (pss_cons (ps_for PassesOwn.never rfl (pi_tup (pe_glob (v := .ref aR) rfl R.g rfl)) (pg_tup rfl (pgs_cons (pg_name (i := 2) sc_first_broken.nd rfl (Or.inl rfl)) (pgs_cons (pg_name (i := 3) sc_first_broken.nd rfl (Or.inl rfl)) (pgs_cons (pg_name (i := 4) sc_first_broken.nd rfl (Or.inl rfl)) pgs_nil)))) (pss_one (ps_for PassesOwn.never rfl (pi_list (pe_call G__rows hr__rows rfl g__rows F__rows.kp b__rows .nil pass0 (pa_cons (pe_callB call_len_seq (by rfl) z_len PySem.boot_len (pa_cons (pv 0) pa_nil)) (pa_cons (pv 3) pa_nil)))) (pg_name (i := 5) sc_first_broken.nd rfl (Or.inl rfl)) (pss_one (ps_if (pt_not (pt_val (pe_callA (i := 4) (S := spOf8 fs) hA hr_holds rfl (by first | exact .inl rfl | exact .inr (.inl rfl) | decide) (pa_cons (pv 0) (pa_cons (pv 1) (pa_cons (pv 5) pa_nil)))))) (pss_one (ps_ret (pe_tup (pa_cons (pv 2) (pa_cons (pv 5) pa_nil))))) pss_nil)))))
      (pss_one (ps_ret pe_non))), ?_⟩
    refine ⟨aR, rfl, ⟨_, R.all H⟩, ?_⟩
    refine for_it (walk_tup (K := K) (a := aR) (xs := (List.range 8).map fun i => V.ref (ts i))) (fun i σ' H' => ∃ x2 x3 x4 x5, σ' = [some (.ref p), some (.ref q'), x2, x3, x4, x5] ∧ Ex H H' ∧ ∀ j, j < i → ∀ row ∈ rowsN n (arity j), holdsB j S M row = true) ⟨none, none, none, none, rfl, Ex.refl H, fun j hj => by omega⟩ (fun i σ' H' _ h => R.all H') ?_ ?_
    · rintro i x σ' _ H2 hi ⟨x2, x3, x4, x5, rfl, e4, hall⟩ ⟨rfl, hx⟩
      have i8 : i < 8 := hi
      obtain rfl : x = V.ref (ts i) := by
        have hx2 : ((List.range 8).map fun i => V.ref (ts i))[i]? = some x := hx
        rw [List.getElem?_map, List.getElem?_range i8] at hx2
        exact (Option.some.inj hx2).symm
      refine ⟨ts i, _, rfl, R.row i i8 H2, rfl, _, _, rfl, _, _, rfl, _, _, rfl, rfl, ?_⟩
      have T2 := T.ex e4
      obtain ⟨rsS, hrsS, hrsl, hrsr⟩ := T2.s
      refine ⟨_, rfl, p, _, rfl, .inr (.inl (.inl hrsS)), _, rfl, n, arity i, ?_, hn, arity_le i, fun D2 rs H3 e5 hD2 hL hR => ?_⟩
      · rw [List.length_map, hrsl, T2.sq.len]
        rfl
      refine ⟨D2, rfl, ⟨_, SqL.of hL⟩, ?_⟩
      refine for_it (walk_list (K := K) (a := D2) (xs := rs.map V.ref)) (fun m σ' G => ∃ x5, σ' = [some (.ref p), some (.ref q'), some (.str (rname i)), some (.int (arity i)), some (.ref (fs i)), x5] ∧ Ex H3 G ∧ ∀ m' : Nat, m' < m → ∀ row', (rowsN n (arity i))[m']? = some row' → holdsB i S M row' = true) ⟨x5, rfl, Ex.refl H3, fun m' h => by omega⟩ (fun m σ' G _ h => ?_) ?_ ?_
      · obtain ⟨_, _, h, _⟩ := h
        exact ex_l h (SqL.of hL)
      · rintro m x σ' _ G hm ⟨x5, rfl, eG, hm'⟩ ⟨rfl, hx⟩
        have hx2 : (rs.map V.ref)[m]? = some x := hx
        rw [List.getElem?_map] at hx2
        obtain ⟨r, hr1, rfl⟩ := Option.map_eq_some_iff.mp hx2
        have hm2 : m < (rowsN n (arity i)).length := by
          have := (List.getElem?_eq_some_iff.mp hr1).1
          rw [← hR.1]
          exact this
        have hrow := List.getElem?_eq_getElem hm2
        generalize (rowsN n (arity i))[m] = row at hrow
        have hr2 : G r = some (.tup (row.map V.int)) := eG _ _ (hR.2 m r row hr1 hrow)
        have TG := T2.ex (e5.trans eG)
        refine ⟨fs i, _, rfl, spOf8_is R i8, _, rfl, _, rfl, _, rfl, p, q', r, n, S, M, row, rfl, TG, hr2, rowsN_in (List.mem_of_getElem? hrow), fun G2 eG2 => ⟨_, rfl, ?_⟩⟩
        have eA := (e4.trans e5).trans (eG.trans eG2)
        cases hb : holdsB i S M row with
        | false =>
          refine yes_of rfl ?_
          refine ⟨_, rfl, _, rfl, by show 2 ≤ sizeLine; decide, fun Dl hDl => ?_⟩
          refine q (.ref Dl) (some (i, row)) _ (eA.trans (Ex.new hDl)) ⟨i8, hall, m, hrow, hm', hb⟩ ⟨Dl, r, rfl, upd_same, ?_⟩
          rw [upd_ne (ne_of_none (eG2 _ _ hr2) hDl)]
          exact eG2 _ _ hr2
        | true =>
          refine no_of rfl ?_
          refine ⟨_, rfl, eG.trans eG2, fun m' h1 row' h2 => ?_⟩
          by_cases hmm : m' < m
          · exact hm' m' hmm row' h2
          · obtain rfl : m' = m := by omega
            rw [hrow] at h2
            cases h2
            exact hb
      · rintro σ' G ⟨x5, rfl, eG, hm'⟩
        refine ⟨_, _, _, _, rfl, (e4.trans e5).trans eG, fun j hj row hrow => ?_⟩
        by_cases hji : j < i
        · exact hall j hji row hrow
        · obtain rfl : j = i := by omega
          obtain ⟨m, hm1, hm2⟩ := List.mem_iff_getElem.mp hrow
          refine hm' m ?_ row (by rw [List.getElem?_eq_getElem hm1, hm2])
          rw [List.length_map, hR.1]
          exact hm1
    · rintro σ' G ⟨x2, x3, x4, x5, rfl, e4, hall⟩
      exact q .non none _ e4 (fun i hi => hall i hi) rfl
end
end D1
end
section
set_option Elab.async false
set_option linter.all false
set_option maxRecDepth 100000
set_option maxHeartbeats 4000000
/-! R0: data as it lies; kinds of rings -/
namespace D1
open PySem L2 Evl RZ ClX PySem.VX
mutual
inductive DtAt (H : Hp) : V → PyData → Prop
  | non : DtAt H .non .none
  | bl (b : Bool) : DtAt H (.bl b) (.bool b)
  | int (i : Int) : DtAt H (.int i) (.int i)
  | str (z : Str) : DtAt H (.str z) (.str z)
  | tup {a : Addr} {us : List V} {ds : List PyData} (h : H a = some (.tup us)) (r : DtAll H us ds) : DtAt H (.ref a) (.tuple ds)
inductive DtAll (H : Hp) : List V → List PyData → Prop
  | nil : DtAll H [] []
  | cons {v : V} {us : List V} {d : PyData} {ds : List PyData} (h : DtAt H v d) (r : DtAll H us ds) : DtAll H (v :: us) (d :: ds)
end
/-- tuples and instances stay -/
def stays : HO → Bool
  | .tup _ => true
  | .ins _ _ _ => true
  | _ => false
def Kp (H H' : Hp) : Prop := ∀ a o, stays o = true → H a = some o → H' a = some o
theorem Kp.ex {H H' : Hp} (e : Ex H H') : Kp H H' := fun a o _ h => e a o h
theorem Kp.refl (H : Hp) : Kp H H := fun _ _ _ h => h
theorem Kp.trans {H H1 H2 : Hp} (a : Kp H H1) (b : Kp H1 H2) : Kp H H2 := fun x o s h => b x o s (a x o s h)
theorem Kp.tup {H H' : Hp} (k : Kp H H') {a : Addr} {us : List V} (h : H a = some (.tup us)) : H' a = some (.tup us) := k a _ rfl h
theorem Kp.ins {H H' : Hp} (k : Kp H H') {a C dx : Addr} {fs : List (Str × V)} (h : H a = some (.ins C dx fs)) : H' a = some (.ins C dx fs) := k a _ rfl h
mutual
theorem DtAt.kp' {H H' : Hp} (k : Kp H H') : ∀ (d : PyData) (v : V), DtAt H v d → DtAt H' v d
  | .tuple ds, _, h => by
    cases h with
    | tup h r => exact .tup (k.tup h) (DtAll.kp' k ds _ r)
  | .none, _, h => by
    cases h
    exact .non
  | .bool _, _, h => by
    cases h
    exact .bl _
  | .int _, _, h => by
    cases h
    exact .int _
  | .str _, _, h => by
    cases h
    exact .str _
  | .list _, _, h => by cases h
  | .dict _, _, h => by cases h
theorem DtAll.kp' {H H' : Hp} (k : Kp H H') : ∀ (ds : List PyData) (us : List V), DtAll H us ds → DtAll H' us ds
  | [], _, h => by
    cases h
    exact .nil
  | d :: ds, _, h => by
    cases h with
    | cons h r => exact .cons (DtAt.kp' k d _ h) (DtAll.kp' k ds _ r)
end
theorem DtAt.kp {H H' : Hp} {v : V} {d : PyData} (h : DtAt H v d) (k : Kp H H') : DtAt H' v d := DtAt.kp' k d v h
theorem DtAll.kp {H H' : Hp} {v : List V} {d : List PyData} (h : DtAll H v d) (k : Kp H H') : DtAll H' v d := DtAll.kp' k d v h
theorem DtAt.ex {H H' : Hp} {v : V} {d : PyData} (h : DtAt H v d) (e : Ex H H') : DtAt H' v d := h.kp (.ex e)
theorem DtAll.ex {H H' : Hp} {v : List V} {d : List PyData} (h : DtAll H v d) (e : Ex H H') : DtAll H' v d := h.kp (.ex e)
mutual
theorem DtAt.dp' {K : PySem.W.Frag} {H : Hp} : ∀ (d : PyData) (v : V), DtAt H v d → Dp K H v d
  | .tuple ds, _, h => by
    cases h with
    | tup h r => exact .tup (.inl (.inl h)) (DtAll.dp' ds _ r)
  | .none, _, h => by
    cases h
    exact .non
  | .bool _, _, h => by
    cases h
    exact .bl _
  | .int _, _, h => by
    cases h
    exact .int _
  | .str _, _, h => by
    cases h
    exact .str _
  | .list _, _, h => by cases h
  | .dict _, _, h => by cases h
theorem DtAll.dp' {K : PySem.W.Frag} {H : Hp} : ∀ (ds : List PyData) (us : List V), DtAll H us ds → DpAll K H us ds
  | [], _, h => by
    cases h
    exact .nil
  | d :: ds, _, h => by
    cases h with
    | cons h r => exact .cons (DtAt.dp' d _ h) (DtAll.dp' ds _ r)
end
theorem DtAt.dp {K : PySem.W.Frag} {H : Hp} {v : V} {d : PyData} (h : DtAt H v d) : Dp K H v d := DtAt.dp' d v h
theorem DtAll.dp {K : PySem.W.Frag} {H : Hp} {v : List V} {d : List PyData} (h : DtAll H v d) : DpAll K H v d := DtAll.dp' d v h
theorem DtAll.len {H : Hp} : ∀ {us : List V} {ds : List PyData}, DtAll H us ds → us.length = ds.length
  | _, [], h => by
    cases h
    rfl
  | _, _ :: _, h => by
    cases h with
    | cons h r => rw [List.length_cons, List.length_cons, DtAll.len r]
theorem DtAll.get {H : Hp} : ∀ {us : List V} {ds : List PyData}, DtAll H us ds → ∀ {i : Nat} {v : V}, us[i]? = some v → ∃ d, ds[i]? = some d ∧ DtAt H v d
  | _, [], h, i, v, hv => by
    cases h
    simp at hv
  | _, d :: ds, h, i, v, hv => by
    cases h with
    | cons h r =>
      cases i with
      | zero =>
        simp at hv
        subst hv
        exact ⟨d, rfl, h⟩
      | succ i => exact DtAll.get r (i := i) (by simpa using hv)
theorem DtAll.get' {H : Hp} : ∀ {us : List V} {ds : List PyData}, DtAll H us ds → ∀ {i : Nat} {d : PyData}, ds[i]? = some d → ∃ v, us[i]? = some v ∧ DtAt H v d
  | _, [], h, i, v, hv => by simp at hv
  | _, d :: ds, h, i, v, hv => by
    cases h with
    | cons h r =>
      cases i with
      | zero =>
        simp at hv
        subst hv
        exact ⟨_, rfl, h⟩
      | succ i => exact DtAll.get' r (i := i) (by simpa using hv)
theorem DtAll.append {H : Hp} : ∀ {us vs : List V} {ds es : List PyData}, DtAll H us ds → DtAll H vs es → DtAll H (us ++ vs) (ds ++ es)
  | _, _, [], _, h, h' => by
    cases h
    exact h'
  | _, _, _ :: _, _, h, h' => by
    cases h with
    | cons h r => exact .cons h (DtAll.append r h')
theorem DtAt.two {H : Hp} {v : V} {x y : PyData} (h : DtAt H v (.tuple [x, y])) : ∃ a u w, v = .ref a ∧ H a = some (.tup [u, w]) ∧ DtAt H u x ∧ DtAt H w y := by
  cases h with
  | tup h r =>
    cases r with
    | cons h1 r =>
      cases r with
      | cons h2 r =>
        cases r
        exact ⟨_, _, _, rfl, h, h1, h2⟩
theorem DtAt.three {H : Hp} {v : V} {x y z : PyData} (h : DtAt H v (.tuple [x, y, z])) : ∃ a u w t, v = .ref a ∧ H a = some (.tup [u, w, t]) ∧ DtAt H u x ∧ DtAt H w y ∧ DtAt H t z := by
  cases h with
  | tup h r =>
    cases r with
    | cons h1 r =>
      cases r with
      | cons h2 r =>
        cases r with
        | cons h3 r =>
          cases r
          exact ⟨_, _, _, _, rfl, h, h1, h2, h3⟩
theorem DtAt.one {H : Hp} {v : V} {x : PyData} (h : DtAt H v (.tuple [x])) : ∃ a u, v = .ref a ∧ H a = some (.tup [u]) ∧ DtAt H u x := by
  cases h with
  | tup h r =>
    cases r with
    | cons h1 r =>
      cases r
      exact ⟨_, _, rfl, h, h1⟩
theorem DtAt.int_inv {H : Hp} {v : V} {i : Int} (h : DtAt H v (.int i)) : v = .int i := by
  cases h
  rfl
theorem DtAt.str_inv {H : Hp} {v : V} {i : Str} (h : DtAt H v (.str i)) : v = .str i := by
  cases h
  rfl
theorem DtAt.bl_inv {H : Hp} {v : V} {i : Bool} (h : DtAt H v (.bool i)) : v = .bl i := by
  cases h
  rfl
/-- a new tuple of data -/
theorem DtAt.new {H : Hp} {p : Addr} {us : List V} {ds : List PyData} (hp : H p = none) (r : DtAll H us ds) : DtAt (upd H p (.tup us)) (.ref p) (.tuple ds) := .tup upd_same (r.ex (Ex.new hp))
/-! ### what isinstance tells of data -/
def dInt : PyData → Bool
  | .int _ => true
  | _ => false
def dIB : PyData → Bool
  | .int _ => true
  | .bool _ => true
  | _ => false
def dBl : PyData → Bool
  | .bool _ => true
  | _ => false
def dTx : PyData → Bool
  | .str _ => true
  | _ => false
def dTu : PyData → Bool
  | .tuple _ => true
  | _ => false
theorem kk {K : PySem.W.Frag} (T U : String) {b : Bool} (h : kitB T U = some b) : PySem.W.kitOne K (.type T) (.type U) = some b := kit_ty h
/-- of a known kind -/
structure Tells (K : PySem.W.Frag) (H : Hp) (v : V) (int bool str tup lst : Bool) : Prop where
  ex : ∃ t : Value, (∀ H1, Ex H H1 → TyX K H1 v t) ∧ PySem.W.kitOne K t (.type "int") = some int ∧ PySem.W.kitOne K t (.type "bool") = some bool ∧ PySem.W.kitOne K t (.type "str") = some str ∧ PySem.W.kitOne K t (.type "tuple") = some tup ∧ PySem.W.kitOne K t (.type "list") = some lst
section
variable {K : PySem.W.Frag} {H H' : Hp}
theorem Tells.up {v : V} {a b c d e : Bool} (h : Tells K H v a b c d e) (x : Ex H H') : Tells K H' v a b c d e := by
  obtain ⟨t, h1, h2⟩ := h
  exact ⟨t, fun H1 e1 => h1 H1 (x.trans e1), h2⟩
theorem tl_int (i : Int) : Tells K H (.int i) true false false false false := ⟨.type "int", fun _ _ => .base (.int i), kk (b := true) "int" "int" (by decide +kernel), kk (b := false) "int" "bool" (by decide +kernel), kk (b := false) "int" "str" (by decide +kernel), kk (b := false) "int" "tuple" (by decide +kernel), kk (b := false) "int" "list" (by decide +kernel)⟩
theorem tl_bl (i : Bool) : Tells K H (.bl i) true true false false false := ⟨.type "bool", fun _ _ => .base (.bl i), kk (b := true) "bool" "int" (by decide +kernel), kk (b := true) "bool" "bool" (by decide +kernel), kk (b := false) "bool" "str" (by decide +kernel), kk (b := false) "bool" "tuple" (by decide +kernel), kk (b := false) "bool" "list" (by decide +kernel)⟩
theorem tl_non : Tells K H .non false false false false false := ⟨.type "NoneType", fun _ _ => .base .non, kk (b := false) "NoneType" "int" (by decide +kernel), kk (b := false) "NoneType" "bool" (by decide +kernel), kk (b := false) "NoneType" "str" (by decide +kernel), kk (b := false) "NoneType" "tuple" (by decide +kernel), kk (b := false) "NoneType" "list" (by decide +kernel)⟩
theorem tl_str (z : Str) : Tells K H (.str z) false false true false false := ⟨.type "str", fun _ _ => .base (.str z), kk (b := false) "str" "int" (by decide +kernel), kk (b := false) "str" "bool" (by decide +kernel), kk (b := true) "str" "str" (by decide +kernel), kk (b := false) "str" "tuple" (by decide +kernel), kk (b := false) "str" "list" (by decide +kernel)⟩
theorem tl_tup {a : Addr} {xs : List V} (h : H a = some (.tup xs)) : Tells K H (.ref a) false false false true false := ⟨.type "tuple", fun _ e => .base (.tup (e _ _ h)), kk (b := false) "tuple" "int" (by decide +kernel), kk (b := false) "tuple" "bool" (by decide +kernel), kk (b := false) "tuple" "str" (by decide +kernel), kk (b := true) "tuple" "tuple" (by decide +kernel), kk (b := false) "tuple" "list" (by decide +kernel)⟩
theorem tl_lst {a : Addr} {xs : List V} (h : H a = some (.lst xs)) : Tells K H (.ref a) false false false false true := ⟨.type "list", fun _ e => .base (.lst (e _ _ h)), kk (b := false) "list" "int" (by decide +kernel), kk (b := false) "list" "bool" (by decide +kernel), kk (b := false) "list" "str" (by decide +kernel), kk (b := false) "list" "tuple" (by decide +kernel), kk (b := true) "list" "list" (by decide +kernel)⟩
theorem tl_dic {a : Addr} {xs : List (Key × V)} (h : H a = some (.dK xs)) : Tells K H (.ref a) false false false false false := ⟨.type "dict", fun _ e => .base (.dK (e _ _ h)), kk (b := false) "dict" "int" (by decide +kernel), kk (b := false) "dict" "bool" (by decide +kernel), kk (b := false) "dict" "str" (by decide +kernel), kk (b := false) "dict" "tuple" (by decide +kernel), kk (b := false) "dict" "list" (by decide +kernel)⟩
theorem DtAt.tells {v : V} {d : PyData} (h : DtAt H v d) : Tells K H v (dIB d) (dBl d) (dTx d) (dTu d) false := by
  cases h with
  | non => exact tl_non
  | bl b => exact tl_bl b
  | int i => exact tl_int i
  | str z => exact tl_str z
  | tup h r => exact tl_tup h
variable {σ : L2.St} {te : TE} {v : V} {a b c d e : Bool}
theorem ev_tInt (h : Ev te σ H v) (t : Tells K H v a b c d e) : Ev (tCB (rIsi K) (tCons te (tCons (tC (.ty "int")) tNil))) σ H (.bl a) := by
  obtain ⟨t, h1, h2, h3, h4, h5, h6⟩ := t
  exact ev_isi0 h h1 h2 (.ty "int")
theorem ev_tBool (h : Ev te σ H v) (t : Tells K H v a b c d e) : Ev (tCB (rIsi K) (tCons te (tCons (tC (.ty "bool")) tNil))) σ H (.bl b) := by
  obtain ⟨t, h1, h2, h3, h4, h5, h6⟩ := t
  exact ev_isi0 h h1 h3 (.ty "bool")
theorem ev_tStr (h : Ev te σ H v) (t : Tells K H v a b c d e) : Ev (tCB (rIsi K) (tCons te (tCons (tC (.ty "str")) tNil))) σ H (.bl c) := by
  obtain ⟨t, h1, h2, h3, h4, h5, h6⟩ := t
  exact ev_isi0 h h1 h4 (.ty "str")
theorem ev_tTup (h : Ev te σ H v) (t : Tells K H v a b c d e) : Ev (tCB (rIsi K) (tCons te (tCons (tC (.ty "tuple")) tNil))) σ H (.bl d) := by
  obtain ⟨t, h1, h2, h3, h4, h5, h6⟩ := t
  exact ev_isi0 h h1 h5 (.ty "tuple")
theorem ev_tLst (h : Ev te σ H v) (t : Tells K H v a b c d e) : Ev (tCB (rIsi K) (tCons te (tCons (tC (.ty "list")) tNil))) σ H (.bl e) := by
  obtain ⟨t, h1, h2, h3, h4, h5, h6⟩ := t
  exact ev_isi0 h h1 h6 (.ty "list")
end
/-! ### kinds of rings -/
inductive RK where
  | truth | count | least | most | narrow | share
  | lot (n : Nat)
  | pair (a b : RK)
  | rest (n : Nat)
  | terms (n : Nat)
  | tab (S M : Tb)
def RK.depth : RK → Nat
  | .pair a b => max a.depth b.depth + 1
  | _ => 0
def E : PyData := .str "endless"
def N : PyData := .str "none"
def nameOf : RK → Str
  | .truth => "truth"
  | .count => "count"
  | .least => "least"
  | .most => "most"
  | .narrow => "narrow"
  | .share => "share"
  | .lot _ => "lot"
  | .pair _ _ => "pair"
  | .rest _ => "rest"
  | .terms _ => "terms"
  | .tab _ _ => "table"
def rowD (r : List Int) : PyData := .tuple (r.map .int)
def tabD (t : Tb) : PyData := .tuple (t.map rowD)
def madeD : RK → PyData
  | .lot n => .tuple [.str "lot", .int n]
  | .rest n => .tuple [.str "rest", .int n]
  | .terms n => .tuple [.str "terms", .int n]
  | .tab S M => .tuple [.str "table", tabD S, tabD M]
  | .pair a b => .tuple [.str "pair", madeD a, madeD b]
  | k => .tuple [.str (nameOf k)]
/-- a good table of n things -/
structure GoodTab (n : Nat) (S M : Tb) : Prop where
  two : 2 ≤ n
  six : n ≤ 6
  sq : Sq n S
  pq : Sq n M
  fb : Fb n S M none
def RK.ok : RK → Prop
  | .lot n => 1 ≤ n ∧ n ≤ 12
  | .rest n => 2 ≤ n ∧ n ≤ 1000
  | .terms n => 1 ≤ n ∧ n ≤ 4
  | .tab S M => GoodTab S.length S M
  | .pair a b => a.ok ∧ b.ok
  | _ => True
/-- whether endlessly many have a sum -/
def RK.clsd : RK → Bool
  | .pair a b => a.clsd && b.clsd
  | .rest _ => false
  | .terms _ => false
  | .tab _ _ => false
  | _ => true
/-- no terms in it -/
def RK.free : RK → Bool
  | .pair a b => a.free && b.free
  | .terms _ => false
  | _ => true
theorem RK.free_of : ∀ {k : RK}, k.clsd = true → k.free = true
  | .pair a b, h => by
    have h : (a.clsd && b.clsd) = true := h
    rw [Bool.and_eq_true] at h
    show (a.free && b.free) = true
    rw [RK.free_of h.1, RK.free_of h.2]
    rfl
  | .truth, _ => rfl
  | .count, _ => rfl
  | .least, _ => rfl
  | .most, _ => rfl
  | .narrow, _ => rfl
  | .share, _ => rfl
  | .lot _, _ => rfl
  | .tab _ _, _ => rfl
  | .rest _, _ => rfl
  | .terms _, h => by cases h
/-! ### tables as they lie -/
theorem rows_at {H : Hp} : ∀ {us : List V} {t : Tb}, DtAll H us (t.map rowD) → ∃ rs : List Addr, us = rs.map V.ref ∧ rs.length = t.length ∧ ∀ (i : Nat) r row, rs[i]? = some r → t[i]? = some row → H r = some (.tup (row.map V.int))
  | _, [], h => by
    cases h
    exact ⟨[], rfl, rfl, fun i r row a _ => by simp at a⟩
  | _, row :: t, h => by
    cases h with
    | cons h r =>
      obtain ⟨rs, rfl, h2, h3⟩ := rows_at r
      have rowU : ∀ {us : List V} {row : List Int}, DtAll H us (row.map .int) → us = row.map V.int := by
        intro us row h
        induction row generalizing us with
        | nil =>
          cases h
          rfl
        | cons x xs ih =>
          cases h with
          | cons h r =>
            obtain rfl := h.int_inv
            rw [ih r]
            rfl
      cases h with
      | tup ha hr =>
        obtain rfl := rowU hr
        refine ⟨_ :: rs, rfl, by rw [List.length_cons, List.length_cons, h2], fun i r' row' x y => ?_⟩
        cases i with
        | zero =>
          simp at x y
          subst x
          subst y
          exact ha
        | succ i => exact h3 i r' row' (by simpa using x) (by simpa using y)
theorem tab_at {H : Hp} {v : V} {t : Tb} (h : DtAt H v (tabD t)) : ∃ p, v = .ref p ∧ TabAt H p t := by
  cases h with
  | tup ha r =>
    obtain ⟨rs, rfl, h2, h3⟩ := rows_at r
    exact ⟨_, rfl, rs, ha, h2, h3⟩
end D1
end
section
set_option Elab.async false
set_option linter.all false
set_option maxRecDepth 100000
set_option maxHeartbeats 4000000
/-! RG: data of any kind as it lies: lists and the empty dict too -/
namespace D1
open PySem L2 Evl RZ ClX PySem.VX
mutual
/-- data as it lies; its lists and dicts at addresses of S -/
inductive OdAt (S : Addr → Prop) (H : Hp) : V → PyData → Prop
  | non : OdAt S H .non .none
  | bl (b : Bool) : OdAt S H (.bl b) (.bool b)
  | int (i : Int) : OdAt S H (.int i) (.int i)
  | str (z : Str) : OdAt S H (.str z) (.str z)
  | tup {a : Addr} {us : List V} {ds : List PyData} (h : H a = some (.tup us)) (r : OdAll S H us ds) : OdAt S H (.ref a) (.tuple ds)
  | lst {a : Addr} {us : List V} {ds : List PyData} (h : H a = some (.lst us)) (s : S a) (r : OdAll S H us ds) : OdAt S H (.ref a) (.list ds)
  | dic {a : Addr} (h : H a = some (.dK [])) (s : S a) : OdAt S H (.ref a) (.dict [])
inductive OdAll (S : Addr → Prop) (H : Hp) : List V → List PyData → Prop
  | nil : OdAll S H [] []
  | cons {v : V} {us : List V} {d : PyData} {ds : List PyData} (h : OdAt S H v d) (r : OdAll S H us ds) : OdAll S H (v :: us) (d :: ds)
end
/-- tuples, and what lies at S, stay -/
def KpS (S : Addr → Prop) (H H' : Hp) : Prop := ∀ a o, (S a ∨ stays o = true) → H a = some o → H' a = some o
mutual
theorem OdAt.mv' {S T : Addr → Prop} {H H' : Hp} (k : KpS S H H') (st : ∀ a, S a → T a) : ∀ (d : PyData) (v : V), OdAt S H v d → OdAt T H' v d
  | .tuple ds, _, h => by
    cases h with
    | tup h r => exact .tup (k _ _ (.inr rfl) h) (OdAll.mv' k st ds _ r)
  | .list ds, _, h => by
    cases h with
    | lst h s r => exact .lst (k _ _ (.inl s) h) (st _ s) (OdAll.mv' k st ds _ r)
  | .none, _, h => by
    cases h
    exact .non
  | .bool _, _, h => by
    cases h
    exact .bl _
  | .int _, _, h => by
    cases h
    exact .int _
  | .str _, _, h => by
    cases h
    exact .str _
  | .dict _, _, h => by
    cases h with
    | dic h s => exact .dic (k _ _ (.inl s) h) (st _ s)
theorem OdAll.mv' {S T : Addr → Prop} {H H' : Hp} (k : KpS S H H') (st : ∀ a, S a → T a) : ∀ (ds : List PyData) (us : List V), OdAll S H us ds → OdAll T H' us ds
  | [], _, h => by
    cases h
    exact .nil
  | d :: ds, _, h => by
    cases h with
    | cons h r => exact .cons (OdAt.mv' k st d _ h) (OdAll.mv' k st ds _ r)
end
abbrev Any : Addr → Prop := fun _ => True
section
variable {S T : Addr → Prop} {H H' : Hp} {v : V} {d : PyData}
theorem OdAt.mv (h : OdAt S H v d) (k : KpS S H H') : OdAt S H' v d := OdAt.mv' k (fun _ h => h) d v h
theorem OdAt.ex (h : OdAt S H v d) (e : Ex H H') : OdAt S H' v d := h.mv fun a o _ x => e a o x
theorem OdAt.to (h : OdAt S H v d) (st : ∀ a, S a → T a) : OdAt T H v d := OdAt.mv' (fun _ _ _ x => x) st d v h
theorem OdAt.any (h : OdAt S H v d) : OdAt Any H v d := h.to fun _ _ => True.intro
theorem OdAll.mv {us : List V} {ds : List PyData} (h : OdAll S H us ds) (k : KpS S H H') : OdAll S H' us ds := OdAll.mv' k (fun _ h => h) ds us h
theorem OdAll.ex {us : List V} {ds : List PyData} (h : OdAll S H us ds) (e : Ex H H') : OdAll S H' us ds := h.mv fun a o _ x => e a o x
theorem OdAll.to {us : List V} {ds : List PyData} (h : OdAll S H us ds) (st : ∀ a, S a → T a) : OdAll T H us ds := OdAll.mv' (fun _ _ _ x => x) st ds us h
theorem OdAt.int_inv {i : Int} (h : OdAt S H v (.int i)) : v = .int i := by
  cases h
  rfl
theorem OdAt.bl_inv {i : Bool} (h : OdAt S H v (.bool i)) : v = .bl i := by
  cases h
  rfl
theorem OdAt.str_inv {i : Str} (h : OdAt S H v (.str i)) : v = .str i := by
  cases h
  rfl
theorem OdAt.non_inv (h : OdAt S H v .none) : v = .non := by
  cases h
  rfl
theorem OdAt.none_iff (h : OdAt S H v d) : v = .non ↔ d = .none := by
  cases h with
  | non => exact ⟨fun _ => rfl, fun _ => rfl⟩
  | _ => exact ⟨fun z => (by cases z), fun z => (by cases z)⟩
def dLs : PyData → Bool
  | .list _ => true
  | _ => false
theorem OdAt.tells {K : PySem.W.Frag} (h : OdAt S H v d) : Tells K H v (dIB d) (dBl d) (dTx d) (dTu d) (dLs d) := by
  cases h with
  | non => exact tl_non
  | bl b => exact tl_bl b
  | int i => exact tl_int i
  | str z => exact tl_str z
  | tup h r => exact tl_tup h
  | lst h s r => exact tl_lst h
  | dic h s => exact tl_dic h
theorem OdAt.two {x y : PyData} (h : OdAt S H v (.tuple [x, y])) : ∃ a u w, v = .ref a ∧ H a = some (.tup [u, w]) ∧ OdAt S H u x ∧ OdAt S H w y := by
  cases h with
  | tup h r =>
    cases r with
    | cons h1 r =>
      cases r with
      | cons h2 r =>
        cases r
        exact ⟨_, _, _, rfl, h, h1, h2⟩
end
theorem OdAll.len {S : Addr → Prop} {H : Hp} : ∀ {us : List V} {ds : List PyData}, OdAll S H us ds → us.length = ds.length
  | _, [], h => by
    cases h
    rfl
  | _, _ :: _, h => by
    cases h with
    | cons h r => rw [List.length_cons, List.length_cons, OdAll.len r]
theorem OdAll.get {S : Addr → Prop} {H : Hp} : ∀ {us : List V} {ds : List PyData}, OdAll S H us ds → ∀ {i : Nat} {v : V}, us[i]? = some v → ∃ d, ds[i]? = some d ∧ OdAt S H v d
  | _, [], h, i, v, hv => by
    cases h
    simp at hv
  | _, d :: ds, h, i, v, hv => by
    cases h with
    | cons h r =>
      cases i with
      | zero =>
        simp at hv
        subst hv
        exact ⟨d, rfl, h⟩
      | succ i => exact OdAll.get r (i := i) (by simpa using hv)
theorem OdAll.get' {S : Addr → Prop} {H : Hp} : ∀ {us : List V} {ds : List PyData}, OdAll S H us ds → ∀ {i : Nat} {d : PyData}, ds[i]? = some d → ∃ v, us[i]? = some v ∧ OdAt S H v d
  | _, [], h, i, v, hv => by simp at hv
  | _, d :: ds, h, i, v, hv => by
    cases h with
    | cons h r =>
      cases i with
      | zero =>
        simp at hv
        subst hv
        exact ⟨_, rfl, h⟩
      | succ i => exact OdAll.get' r (i := i) (by simpa using hv)
theorem OdAll.app {S : Addr → Prop} {H : Hp} : ∀ {us vs : List V} {ds es : List PyData}, OdAll S H us ds → OdAll S H vs es → OdAll S H (us ++ vs) (ds ++ es)
  | _, _, [], _, h, h' => by
    cases h
    exact h'
  | _, _, _ :: _, _, h, h' => by
    cases h with
    | cons h r => exact .cons h (OdAll.app r h')
theorem OdAll.take {S : Addr → Prop} {H : Hp} : ∀ {us : List V} {ds : List PyData} (k : Nat), OdAll S H us ds → OdAll S H (us.take k) (ds.take k)
  | _, [], k, h => by
    cases h
    rw [List.take_nil, List.take_nil]
    exact .nil
  | _, d :: ds, 0, h => .nil
  | _, d :: ds, k + 1, h => by
    cases h with
    | cons h r => exact .cons h (OdAll.take k r)
theorem OdAll.set {S : Addr → Prop} {H : Hp} {v : V} {d : PyData} (hv : OdAt S H v d) : ∀ {us : List V} {ds : List PyData} (k : Nat), OdAll S H us ds → OdAll S H (us.set k v) (ds.set k d)
  | _, [], k, h => by
    cases h
    exact .nil
  | _, e :: ds, 0, h => by
    cases h with
    | cons h r => exact .cons hv r
  | _, e :: ds, k + 1, h => by
    cases h with
    | cons h r => exact .cons h (OdAll.set hv k r)
mutual
theorem DtAt.od' {S : Addr → Prop} {H : Hp} : ∀ (d : PyData) (v : V), DtAt H v d → OdAt S H v d
  | .tuple ds, _, h => by
    cases h with
    | tup h r => exact .tup h (DtAll.od' ds _ r)
  | .none, _, h => by
    cases h
    exact .non
  | .bool _, _, h => by
    cases h
    exact .bl _
  | .int _, _, h => by
    cases h
    exact .int _
  | .str _, _, h => by
    cases h
    exact .str _
  | .list _, _, h => by cases h
  | .dict _, _, h => by cases h
theorem DtAll.od' {S : Addr → Prop} {H : Hp} : ∀ (ds : List PyData) (us : List V), DtAll H us ds → OdAll S H us ds
  | [], _, h => by
    cases h
    exact .nil
  | d :: ds, _, h => by
    cases h with
    | cons h r => exact .cons (DtAt.od' d _ h) (DtAll.od' ds _ r)
end
theorem DtAt.od {S : Addr → Prop} {H : Hp} {v : V} {d : PyData} (h : DtAt H v d) : OdAt S H v d := DtAt.od' d v h
theorem DtAll.od {S : Addr → Prop} {H : Hp} {v : List V} {d : List PyData} (h : DtAll H v d) : OdAll S H v d := DtAll.od' d v h
mutual
/-- no list and no dict in it -/
def bareD : PyData → Bool
  | .list _ => false
  | .dict _ => false
  | .tuple ds => bareA ds
  | _ => true
def bareA : List PyData → Bool
  | [] => true
  | d :: ds => bareD d && bareA ds
end
mutual
theorem OdAt.dt' {S : Addr → Prop} {H : Hp} : ∀ (d : PyData) (v : V), bareD d = true → OdAt S H v d → DtAt H v d
  | .tuple ds, _, b, h => by
    cases h with
    | tup h r => exact .tup h (OdAll.dt' ds _ b r)
  | .none, _, _, h => by
    cases h
    exact .non
  | .bool _, _, _, h => by
    cases h
    exact .bl _
  | .int _, _, _, h => by
    cases h
    exact .int _
  | .str _, _, _, h => by
    cases h
    exact .str _
  | .list _, _, b, _ => by cases b
  | .dict _, _, b, _ => by cases b
theorem OdAll.dt' {S : Addr → Prop} {H : Hp} : ∀ (ds : List PyData) (us : List V), bareA ds = true → OdAll S H us ds → DtAll H us ds
  | [], _, _, h => by
    cases h
    exact .nil
  | d :: ds, _, b, h => by
    cases h with
    | cons h r =>
      have b : (bareD d && bareA ds) = true := b
      rw [Bool.and_eq_true] at b
      exact .cons (OdAt.dt' d _ b.1 h) (OdAll.dt' ds _ b.2 r)
end
theorem OdAt.dt {S : Addr → Prop} {H : Hp} {v : V} {d : PyData} (h : OdAt S H v d) (b : bareD d = true) : DtAt H v d := OdAt.dt' d v b h
theorem OdAll.dt {S : Addr → Prop} {H : Hp} {v : List V} {d : List PyData} (h : OdAll S H v d) (b : bareA d = true) : DtAll H v d := OdAll.dt' d v b h
end D1
end
section
set_option Elab.async false
set_option linter.all false
set_option maxRecDepth 100000
set_option maxHeartbeats 4000000
/-! M0: products of weights -/
namespace D1
open PySem L2
def isN : PyData → Bool
  | .str z => z == "none"
  | _ => false
def isE : PyData → Bool
  | .str z => z == "endless"
  | _ => false
def i0 : PyData → Bool
  | .int i => i == 0
  | _ => false
def gI (a b : Int) : Int := ((Nat.gcd a.natAbs b.natAbs : Nat) : Int)
def low (p q : Int) : PyData := .tuple [.int (p / gI p q), .int (q / gI p q)]
def oneD : RK → PyData
  | .truth => .bool true
  | .count => .int 1
  | .least => .int 0
  | .most => .int 0
  | .narrow => E
  | .share => .tuple [.int 1, .int 1]
  | .lot n => .int (2 ^ n - 1)
  | .pair k l => .tuple [oneD k, oneD l]
  | .rest _ => .int 1
  | .terms n => .tuple [.tuple [.tuple (List.replicate n (.int 0)), .int 1]]
  | .tab _ _ => .int 1
def zeroD : RK → PyData
  | .truth => .bool false
  | .count => .int 0
  | .least => N
  | .most => N
  | .narrow => .int 0
  | .share => .tuple [.int 0, .int 1]
  | .lot _ => .int 0
  | .pair k l => .tuple [zeroD k, zeroD l]
  | .rest _ => .int 0
  | .terms _ => .tuple []
  | .tab _ _ => .int 0
def cnGood : PyData → Bool
  | .str z => z == "endless"
  | .int i => decide (0 ≤ i)
  | _ => false
def bGood : PyData → Bool
  | .str z => z == "none" || z == "endless"
  | .int _ => true
  | _ => false
def shGood : PyData → Bool
  | .tuple [.int p, .int q] => (decide (0 ≤ p) && decide (p ≤ q)) && (gI p q == 1)
  | _ => false
def lotGood (n : Nat) : PyData → Bool
  | .int i => decide (0 ≤ i) && decide (i ≤ 2 ^ n - 1)
  | _ => false
def prGood (f g : PyData → Bool) : PyData → Bool
  | .tuple [x, y] => f x && g y
  | _ => false
def finGood (n : Nat) : PyData → Bool
  | .int i => decide (0 ≤ i) && decide (i < n)
  | _ => false
/-! ### terms: their parts, the powers rising -/
def powGood (n : Nat) : PyData → Bool
  | .tuple ds => decide (ds.length = n) && ds.all fun d => match d with
    | .int i => decide (0 ≤ i)
    | _ => false
  | _ => false
def partGood (n : Nat) : PyData → Bool
  | .tuple [p, .int c] => powGood n p && decide (1 ≤ c)
  | _ => false
def intsOf : PyData → List Int
  | .tuple ds => ds.map fun d => match d with
    | .int i => i
    | _ => 0
  | _ => []
def powOf : PyData → List Int
  | .tuple [p, _] => intsOf p
  | _ => []
def risesB : List (List Int) → Bool
  | x :: y :: r => decide (x < y) && risesB (y :: r)
  | _ => true
def termGood (n : Nat) : PyData → Bool
  | .tuple ds => ds.all (partGood n) && risesB (ds.map powOf)
  | _ => false
def goodB : RK → PyData → Bool
  | .truth => dBl
  | .count => cnGood
  | .narrow => cnGood
  | .least => bGood
  | .most => bGood
  | .share => shGood
  | .lot n => lotGood n
  | .pair k l => prGood (goodB k) (goodB l)
  | .rest n => finGood n
  | .terms n => termGood n
  | .tab S _ => finGood S.length
/-! ### what good weights look like -/
theorem good_truth {d : PyData} (h : goodB .truth d = true) : ∃ b, d = .bool b := by
  cases d <;> first | exact ⟨_, rfl⟩ | cases h
theorem good_cn {d : PyData} (h : cnGood d = true) : d = E ∨ ∃ i, d = .int i ∧ 0 ≤ i := by
  cases d with
  | int i => exact .inr ⟨i, rfl, of_decide_eq_true h⟩
  | str z =>
    have h : (z == "endless") = true := h
    exact .inl (by rw [eq_of_beq h]; rfl)
  | _ => cases h
theorem good_b {d : PyData} (h : bGood d = true) : d = E ∨ d = N ∨ ∃ i, d = .int i := by
  cases d with
  | int i => exact .inr (.inr ⟨i, rfl⟩)
  | str z =>
    have h : (z == "none" || z == "endless") = true := h
    rcases Bool.or_eq_true_iff.mp h with h | h
    · exact .inr (.inl (by rw [eq_of_beq h]; rfl))
    · exact .inl (by rw [eq_of_beq h]; rfl)
  | _ => cases h
theorem good_share {d : PyData} (h : shGood d = true) : ∃ p q : Int, d = .tuple [.int p, .int q] ∧ 0 ≤ p ∧ p ≤ q ∧ gI p q = 1 := by
  unfold shGood at h
  split at h
  · simp only [Bool.and_eq_true, decide_eq_true_eq, beq_iff_eq] at h
    exact ⟨_, _, rfl, h.1.1, h.1.2, h.2⟩
  · cases h
theorem good_lot {n : Nat} {d : PyData} (h : lotGood n d = true) : ∃ i, d = .int i ∧ 0 ≤ i ∧ i ≤ 2 ^ n - 1 := by
  cases d with
  | int i =>
    have h : (decide (0 ≤ i) && decide (i ≤ 2 ^ n - 1)) = true := h
    simp only [Bool.and_eq_true, decide_eq_true_eq] at h
    exact ⟨i, rfl, h⟩
  | _ => cases h
theorem good_pair {f g : PyData → Bool} {d : PyData} (h : prGood f g d = true) : ∃ x y, d = .tuple [x, y] ∧ f x = true ∧ g y = true := by
  unfold prGood at h
  split at h
  · exact ⟨_, _, rfl, (Bool.and_eq_true_iff.mp h).1, (Bool.and_eq_true_iff.mp h).2⟩
  · cases h
/-! ### fractions in lowest terms, by natural numbers -/
def lowN (p q : Nat) : Nat × Nat := (p / Nat.gcd p q, q / Nat.gcd p q)
theorem low_nat (p q : Nat) : low (p : Int) (q : Int) = .tuple [.int ((lowN p q).1 : Nat), .int ((lowN p q).2 : Nat)] := by
  unfold low gI lowN
  rw [Int.natAbs_natCast, Int.natAbs_natCast, Int.natCast_ediv, Int.natCast_ediv]
theorem lowN_mul {p q k : Nat} (hk : 0 < k) : lowN (k * p) (k * q) = lowN p q := by
  unfold lowN
  rw [Nat.gcd_mul_left]
  rw [Nat.mul_div_mul_left _ _ hk, Nat.mul_div_mul_left _ _ hk]
/-- a product behind a product put in lowest terms -/
theorem lowN_low {p q r s : Nat} (hq : 0 < q) : lowN ((lowN p q).1 * r) ((lowN p q).2 * s) = lowN (p * r) (q * s) := by
  have hg : 0 < Nat.gcd p q := Nat.gcd_pos_of_pos_right p hq
  have h1 : Nat.gcd p q * (p / Nat.gcd p q) = p := Nat.mul_div_cancel' (Nat.gcd_dvd_left p q)
  have h2 : Nat.gcd p q * (q / Nat.gcd p q) = q := Nat.mul_div_cancel' (Nat.gcd_dvd_right p q)
  have h := lowN_mul (p := p / Nat.gcd p q * r) (q := q / Nat.gcd p q * s) hg
  rw [← Nat.mul_assoc, ← Nat.mul_assoc, h1, h2] at h
  exact h.symm
theorem lowN_pos {p q : Nat} (hq : 0 < q) : 0 < (lowN p q).2 := Nat.div_pos (Nat.le_of_dvd hq (Nat.gcd_dvd_right p q)) (Nat.gcd_pos_of_pos_right p hq)
theorem lowN_gcd {p q : Nat} (hq : 0 < q) : Nat.gcd (lowN p q).1 (lowN p q).2 = 1 := Nat.gcd_div_gcd_div_gcd_of_pos_right hq
theorem lowN_le {p q : Nat} (h : p ≤ q) : (lowN p q).1 ≤ (lowN p q).2 := Nat.div_le_div_right h
theorem lowN_self {p q : Nat} (h : Nat.gcd p q = 1) : lowN p q = (p, q) := by
  unfold lowN
  rw [h, Nat.div_one, Nat.div_one]
def shN (p q : Nat) : PyData := .tuple [.int (p : Nat), .int (q : Nat)]
/-- a good share, by natural numbers -/
theorem share_nat {d : PyData} (h : shGood d = true) : ∃ p q : Nat, d = shN p q ∧ p ≤ q ∧ 0 < q ∧ Nat.gcd p q = 1 := by
  obtain ⟨p, q, rfl, h1, h2, h3⟩ := good_share h
  obtain ⟨p, rfl⟩ := Int.eq_ofNat_of_zero_le h1
  obtain ⟨q, rfl⟩ := Int.eq_ofNat_of_zero_le (Int.le_trans h1 h2)
  have h3 : Nat.gcd p q = 1 := by
    unfold gI at h3
    rw [Int.natAbs_natCast, Int.natAbs_natCast] at h3
    exact Int.ofNat.inj h3
  refine ⟨p, q, rfl, by omega, ?_, h3⟩
  rcases Nat.eq_zero_or_pos q with rfl | hq
  · have : p = 0 := by omega
    subst this
    cases h3
  · exact hq
theorem nat_share {p q : Nat} (h : p ≤ q) (hg : Nat.gcd p q = 1) : shGood (shN p q) = true := by
  have e : gI (p : Int) (q : Int) = 1 := by
    unfold gI
    rw [Int.natAbs_natCast, Int.natAbs_natCast, hg]
    rfl
  show ((decide ((0 : Int) ≤ (p : Int)) && decide ((p : Int) ≤ (q : Int))) && (gI p q == 1)) = true
  rw [e, decide_eq_true (by omega : (0 : Int) ≤ (p : Int)), decide_eq_true (by omega : (p : Int) ≤ (q : Int))]
  rfl
theorem lot_nat {n : Nat} {d : PyData} (h : lotGood n d = true) : ∃ i : Nat, d = .int (i : Int) ∧ i < 2 ^ n := by
  obtain ⟨i, rfl, h1, h2⟩ := good_lot h
  obtain ⟨i, rfl⟩ := Int.eq_ofNat_of_zero_le h1
  refine ⟨i, rfl, ?_⟩
  have h3 : ((2 : Int) ^ n) = ((2 ^ n : Nat) : Int) := by simp
  rw [h3] at h2
  omega
theorem nat_lot {n i : Nat} (h : i < 2 ^ n) : lotGood n (.int (i : Int)) = true := by
  have h3 : ((2 : Int) ^ n) = ((2 ^ n : Nat) : Int) := by simp
  show (decide ((0 : Int) ≤ (i : Int)) && decide ((i : Int) ≤ 2 ^ n - 1)) = true
  rw [h3, decide_eq_true (by omega : (0 : Int) ≤ (i : Int)), decide_eq_true (by omega : (i : Int) ≤ ((2 ^ n : Nat) : Int) - 1)]
  rfl
theorem one_lot (n : Nat) : (2 : Int) ^ n - 1 = ((2 ^ n - 1 : Nat) : Int) := by
  have h3 : ((2 : Int) ^ n) = ((2 ^ n : Nat) : Int) := by simp
  have := Nat.one_le_two_pow (n := n)
  rw [h3]
  omega
end D1
end
section
set_option Elab.async false
set_option linter.all false
set_option maxRecDepth 100000
set_option maxHeartbeats 4000000
/-! R1: kinds as they lie -/
namespace D1
open PySem L2 Evl RZ ClX PySem.VX
mutual
/-- all numbers in it are below 2 ^ B -/
def Sz (B : Nat) : PyData → Prop
  | .int i => i.natAbs < 2 ^ B
  | .tuple ds => SzA B ds
  | _ => True
def SzA (B : Nat) : List PyData → Prop
  | [] => True
  | d :: ds => Sz B d ∧ SzA B ds
end
mutual
theorem Sz.up' {B C : Nat} (h : B ≤ C) : ∀ d : PyData, Sz B d → Sz C d
  | .int i, s => Nat.lt_of_lt_of_le s (Nat.pow_le_pow_right (by decide) h)
  | .tuple ds, s => SzA.up' h ds s
  | .none, _ => True.intro
  | .bool _, _ => True.intro
  | .str _, _ => True.intro
  | .list _, _ => True.intro
  | .dict _, _ => True.intro
theorem SzA.up' {B C : Nat} (h : B ≤ C) : ∀ ds : List PyData, SzA B ds → SzA C ds
  | [], _ => True.intro
  | d :: ds, ⟨s, r⟩ => ⟨Sz.up' h d s, SzA.up' h ds r⟩
end
theorem Sz.up {B C : Nat} {d : PyData} (s : Sz B d) (h : B ≤ C) : Sz C d := Sz.up' h d s
/-! ### kinds as they lie -/
def idx : RK → Nat
  | .truth => 0
  | .count => 1
  | .least => 2
  | .most => 2
  | .narrow => 3
  | .share => 4
  | .lot _ => 5
  | .pair _ _ => 6
  | .rest _ => 7
  | .terms _ => 8
  | .tab _ _ => 9
def KC.cls (C : KC) : RK → Addr
  | .truth => C.tr
  | .count => C.co
  | .least => C.bo
  | .most => C.bo
  | .narrow => C.na
  | .share => C.sh
  | .lot _ => C.lo
  | .pair _ _ => C.pa
  | .rest _ => C.re
  | .terms _ => C.te
  | .tab _ _ => C.ta
theorem KC.cls_at (C : KC) (k : RK) : C.all[idx k]? = some (C.cls k) := by cases k <;> rfl
theorem KC.idx_of {C : KC} (nd : C.all.Nodup) {k : RK} {i : Nat} {c : Addr} (hi : C.all[i]? = some c) (h : C.cls k = c) : idx k = i := by
  subst h
  have h2 := C.cls_at k
  obtain ⟨l2, _⟩ := List.getElem?_eq_some_iff.mp h2
  exact (List.getElem?_inj l2 nd).mp (h2.trans hi.symm)
theorem KC.mem (C : KC) (k : RK) : C.cls k ∈ C.all := List.mem_of_getElem? (C.cls_at k)
/-- the fields that all kinds have -/
structure Com (H : Hp) (k : RK) (fs : List (Str × V)) : Prop where
  text : ∃ t : Str, fs.lookup ("_text" : Str) = some (.str t) ∧ t.length + 6 ≤ 500 * 2 ^ k.depth
  zero : ∃ z, fs.lookup ("_zero" : Str) = some z ∧ DtAt H z (zeroD k)
  one : ∃ z, fs.lookup ("_one" : Str) = some z ∧ DtAt H z (oneD k)
  no : ∀ f, f ∉ fields → fs.lookup f = none
theorem Com.kp {H H' : Hp} {k : RK} {fs : List (Str × V)} (h : Com H k fs) (x : Kp H H') : Com H' k fs := by
  obtain ⟨h1, ⟨z, h2, h3⟩, ⟨o, h4, h5⟩, h6⟩ := h
  exact ⟨h1, ⟨z, h2, h3.kp x⟩, ⟨o, h4, h5.kp x⟩, h6⟩
/-- the fields of a kind alone -/
def Own (H : Hp) (fs : List (Str × V)) : RK → Prop
  | .count => ∃ p, fs.lookup ("_others" : Str) = some (.ref p) ∧ H p = some (.tup [.str "endless"])
  | .narrow => ∃ p, fs.lookup ("_others" : Str) = some (.ref p) ∧ H p = some (.tup [.str "endless"])
  | .least => (∃ p, fs.lookup ("_others" : Str) = some (.ref p) ∧ H p = some (.tup [.str "none", .str "endless"])) ∧ fs.lookup ("_sign" : Str) = some (.int 1)
  | .most => (∃ p, fs.lookup ("_others" : Str) = some (.ref p) ∧ H p = some (.tup [.str "none", .str "endless"])) ∧ fs.lookup ("_sign" : Str) = some (.int (-1))
  | .lot n => fs.lookup ("_size" : Str) = some (.int n)
  | .rest n => (∃ p, fs.lookup ("_others" : Str) = some (.ref p) ∧ H p = some (.tup [])) ∧ fs.lookup ("_size" : Str) = some (.int n)
  | .terms n => fs.lookup ("_unknowns" : Str) = some (.int n)
  | .tab S M => (∃ p, fs.lookup ("_others" : Str) = some (.ref p) ∧ H p = some (.tup [])) ∧ fs.lookup ("_size" : Str) = some (.int S.length) ∧ (∃ x, fs.lookup ("_sums" : Str) = some x ∧ DtAt H x (tabD S)) ∧ ∃ x, fs.lookup ("_products" : Str) = some x ∧ DtAt H x (tabD M)
  | _ => True
theorem Own.kp {H H' : Hp} {fs : List (Str × V)} (x : Kp H H') : ∀ {k : RK}, Own H fs k → Own H' fs k
  | .count, ⟨p, a, b⟩ => ⟨p, a, x.tup b⟩
  | .narrow, ⟨p, a, b⟩ => ⟨p, a, x.tup b⟩
  | .least, ⟨⟨p, a, b⟩, c⟩ => ⟨⟨p, a, x.tup b⟩, c⟩
  | .most, ⟨⟨p, a, b⟩, c⟩ => ⟨⟨p, a, x.tup b⟩, c⟩
  | .lot _, h => h
  | .rest _, ⟨⟨p, a, b⟩, c⟩ => ⟨⟨p, a, x.tup b⟩, c⟩
  | .terms _, h => h
  | .tab _ _, ⟨⟨p, a, b⟩, c, ⟨u, d, e⟩, ⟨v, f, g⟩⟩ => ⟨⟨p, a, x.tup b⟩, c, ⟨u, d, e.kp x⟩, ⟨v, f, g.kp x⟩⟩
  | .truth, _ => True.intro
  | .share, _ => True.intro
  | .pair _ _, _ => True.intro
/-- a kind at v -/
def KindAt (C : KC) (H : Hp) : RK → V → Prop
  | .pair k l, v => ∃ (a dx : Addr) (fs : List (Str × V)) (x y : V), v = .ref a ∧ H a = some (.ins C.pa dx fs) ∧ Com H (.pair k l) fs ∧ fs.lookup ("_left" : Str) = some x ∧ fs.lookup ("_right" : Str) = some y ∧ KindAt C H k x ∧ KindAt C H l y
  | k, v => ∃ (a dx : Addr) (fs : List (Str × V)), v = .ref a ∧ H a = some (.ins (C.cls k) dx fs) ∧ Com H k fs ∧ Own H fs k
theorem KindAt.kp {C : KC} {H H' : Hp} (x : Kp H H') : ∀ {k : RK} {v : V}, KindAt C H k v → KindAt C H' k v
  | .pair k l, v, ⟨a, dx, fs, u, w, h1, h2, h3, h4, h5, h6, h7⟩ => ⟨a, dx, fs, u, w, h1, x.ins h2, h3.kp x, h4, h5, KindAt.kp x h6, KindAt.kp x h7⟩
  | .truth, v, ⟨a, dx, fs, h1, h2, h3, h4⟩ => ⟨a, dx, fs, h1, x.ins h2, h3.kp x, h4⟩
  | .count, v, ⟨a, dx, fs, h1, h2, h3, h4⟩ => ⟨a, dx, fs, h1, x.ins h2, h3.kp x, Own.kp x (k := .count) h4⟩
  | .least, v, ⟨a, dx, fs, h1, h2, h3, h4⟩ => ⟨a, dx, fs, h1, x.ins h2, h3.kp x, Own.kp x (k := .least) h4⟩
  | .most, v, ⟨a, dx, fs, h1, h2, h3, h4⟩ => ⟨a, dx, fs, h1, x.ins h2, h3.kp x, Own.kp x (k := .most) h4⟩
  | .narrow, v, ⟨a, dx, fs, h1, h2, h3, h4⟩ => ⟨a, dx, fs, h1, x.ins h2, h3.kp x, Own.kp x (k := .narrow) h4⟩
  | .share, v, ⟨a, dx, fs, h1, h2, h3, h4⟩ => ⟨a, dx, fs, h1, x.ins h2, h3.kp x, h4⟩
  | .lot n, v, ⟨a, dx, fs, h1, h2, h3, h4⟩ => ⟨a, dx, fs, h1, x.ins h2, h3.kp x, h4⟩
  | .rest n, v, ⟨a, dx, fs, h1, h2, h3, h4⟩ => ⟨a, dx, fs, h1, x.ins h2, h3.kp x, Own.kp x (k := .rest n) h4⟩
  | .terms n, v, ⟨a, dx, fs, h1, h2, h3, h4⟩ => ⟨a, dx, fs, h1, x.ins h2, h3.kp x, h4⟩
  | .tab S M, v, ⟨a, dx, fs, h1, h2, h3, h4⟩ => ⟨a, dx, fs, h1, x.ins h2, h3.kp x, Own.kp x (k := .tab S M) h4⟩
theorem KindAt.ex {C : KC} {H H' : Hp} {k : RK} {v : V} (h : KindAt C H k v) (e : Ex H H') : KindAt C H' k v := h.kp (.ex e)
/-- what all have -/
theorem KindAt.com {C : KC} {H : Hp} : ∀ {k : RK} {v : V}, KindAt C H k v → ∃ (a dx : Addr) (fs : List (Str × V)), v = .ref a ∧ H a = some (.ins (C.cls k) dx fs) ∧ Com H k fs
  | .pair k l, v, ⟨a, dx, fs, u, w, h1, h2, h3, _⟩ => ⟨a, dx, fs, h1, h2, h3⟩
  | .truth, v, ⟨a, dx, fs, h1, h2, h3, _⟩ => ⟨a, dx, fs, h1, h2, h3⟩
  | .count, v, ⟨a, dx, fs, h1, h2, h3, _⟩ => ⟨a, dx, fs, h1, h2, h3⟩
  | .least, v, ⟨a, dx, fs, h1, h2, h3, _⟩ => ⟨a, dx, fs, h1, h2, h3⟩
  | .most, v, ⟨a, dx, fs, h1, h2, h3, _⟩ => ⟨a, dx, fs, h1, h2, h3⟩
  | .narrow, v, ⟨a, dx, fs, h1, h2, h3, _⟩ => ⟨a, dx, fs, h1, h2, h3⟩
  | .share, v, ⟨a, dx, fs, h1, h2, h3, _⟩ => ⟨a, dx, fs, h1, h2, h3⟩
  | .lot n, v, ⟨a, dx, fs, h1, h2, h3, _⟩ => ⟨a, dx, fs, h1, h2, h3⟩
  | .rest n, v, ⟨a, dx, fs, h1, h2, h3, _⟩ => ⟨a, dx, fs, h1, h2, h3⟩
  | .terms n, v, ⟨a, dx, fs, h1, h2, h3, _⟩ => ⟨a, dx, fs, h1, h2, h3⟩
  | .tab S M, v, ⟨a, dx, fs, h1, h2, h3, _⟩ => ⟨a, dx, fs, h1, h2, h3⟩
/-- the promises of a method for each class -/
def SK (C : KC) (sp : Addr → Sp) : Addr → Option Sp := fun c => if c ∈ C.all then some (sp c) else none
theorem SK.at {C : KC} {sp : Addr → Sp} (k : RK) : SK C sp (C.cls k) = some (sp (C.cls k)) := if_pos (C.mem k)
theorem SK.inv {C : KC} {sp : Addr → Sp} {c : Addr} {s : Sp} (h : SK C sp c = some s) : s = sp c ∧ ∃ i : Nat, C.all[i]? = some c := by
  unfold SK at h
  split at h
  · rename_i hm
    obtain ⟨i, hi⟩ := List.mem_iff_getElem?.mp hm
    exact ⟨(Option.some.inj h).symm, i, hi⟩
  · cases h
end D1
end
section
set_option Elab.async false
set_option linter.all false
set_option maxRecDepth 100000
set_option maxHeartbeats 4000000
/-! R2: products, ONE, ZERO, .. of the kinds that have no parts -/
namespace D1
open PySem L2 Evl RZ ClX PySem.VX
/-- a number, or none -/
structure Num (K : PySem.W.Frag) (H : Hp) (v : V) (o : Option Int) : Prop where
  ex : ∃ a b c d e, Tells K H v a b c d e ∧ (a && !b) = o.isSome ∧ ∀ i, o = some i → v = .int i
theorem Num.up {K : PySem.W.Frag} {H H' : Hp} {v : V} {o : Option Int} (h : Num K H v o) (e : Ex H H') : Num K H' v o := by
  obtain ⟨a, b, c, d, f, t, h1, h2⟩ := h
  exact ⟨a, b, c, d, f, t.up e, h1, h2⟩
def dNum : PyData → Option Int
  | .int i => some i
  | _ => none
theorem DtAt.num {K : PySem.W.Frag} {H : Hp} {v : V} {d : PyData} (h : DtAt H v d) : Num K H v (dNum d) := by
  refine ⟨_, _, _, _, _, h.tells, ?_, fun i hi => ?_⟩
  · cases d <;> rfl
  · cases d <;> cases hi
    exact h.int_inv
theorem OdAt.num {K : PySem.W.Frag} {S : Addr → Prop} {H : Hp} {v : V} {d : PyData} (h : OdAt S H v d) : Num K H v (dNum d) := by
  refine ⟨_, _, _, _, _, h.tells, ?_, fun i hi => ?_⟩
  · cases d <;> rfl
  · cases d <;> cases hi
    exact h.int_inv
theorem num_lst {K : PySem.W.Frag} {H : Hp} {a : Addr} {xs : List V} (h : H a = some (.lst xs)) : Num K H (.ref a) none := ⟨_, _, _, _, _, tl_lst h, rfl, fun i hi => by cases hi⟩
theorem num_dic {K : PySem.W.Frag} {H : Hp} {a : Addr} {xs : List (Key × V)} (h : H a = some (.dK xs)) : Num K H (.ref a) none := ⟨_, _, _, _, _, tl_dic h, rfl, fun i hi => by cases hi⟩
def whO (lo hi : Int) : Option Int → Bool
  | some i => within lo hi i
  | none => false
/-! ### flat weights -/
def Fl (d : PyData) : Prop := (∃ z : Str, d = .str z ∧ PyData.strOk z = true) ∨ ∃ i, d = .int i
theorem fl_int (i : Int) : Fl (.int i) := .inr ⟨i, rfl⟩
theorem fl_E : Fl E := .inl ⟨_, rfl, by decide +kernel⟩
theorem fl_N : Fl N := .inl ⟨_, rfl, by decide +kernel⟩
theorem fl_cn {d : PyData} (h : cnGood d = true) : Fl d := by
  rcases good_cn h with rfl | ⟨i, rfl, _⟩
  · exact fl_E
  · exact fl_int i
theorem fl_b {d : PyData} (h : bGood d = true) : Fl d := by
  rcases good_b h with rfl | rfl | ⟨i, rfl⟩
  · exact fl_E
  · exact fl_N
  · exact fl_int i
theorem Fl.shaped {d : PyData} (h : Fl d) : SeqAt.shaped d = true := by
  rcases h with ⟨z, rfl, hz⟩ | ⟨i, rfl⟩
  · show (PyData.strOk z && decide (PyData.depth (.str z) ≤ 64)) = true
    rw [hz, Bool.true_and, decide_eq_true_eq]
    simp [PyData.depth]
  · rfl
theorem eqv_0 {d : PyData} (h : Fl d) : PyData.eqv d (.int 0) = i0 d := by
  rcases h with ⟨z, rfl, hz⟩ | ⟨i, rfl⟩ <;> rfl
theorem eqv_E {d : PyData} (h : Fl d) : PyData.eqv d E = isE d := by
  rcases h with ⟨z, rfl, hz⟩ | ⟨i, rfl⟩ <;> rfl
theorem eqv_N {d : PyData} (h : Fl d) : PyData.eqv d N = isN d := by
  rcases h with ⟨z, rfl, hz⟩ | ⟨i, rfl⟩ <;> rfl
section
variable {K : PySem.W.Frag} {σ : L2.St} {H : Hp} {ta tb : TE} {x y : V} {d e : PyData}
theorem ev_eqDt (h : Ev ta σ H x) (h' : Ev tb σ H y) (hx : DtAt H x d) (hy : DtAt H y e) (sd : SeqAt.shaped d = true) (se : SeqAt.shaped e = true) : Ev (tOp (rEqD K) ta tb) σ H (.bl (PyData.eqv d e)) :=
  ev_op h h' fun H1 e1 Q q => ⟨d, e, (hx.ex e1).dp, (hy.ex e1).dp, sd, se, q H1 (Ex.refl H1)⟩
theorem ev_neDt (h : Ev ta σ H x) (h' : Ev tb σ H y) (hx : DtAt H x d) (hy : DtAt H y e) (sd : SeqAt.shaped d = true) (se : SeqAt.shaped e = true) : Ev (tOp (rNeD K) ta tb) σ H (.bl (!PyData.eqv d e)) :=
  ev_op h h' fun H1 e1 Q q => ⟨d, e, (hx.ex e1).dp, (hy.ex e1).dp, sd, se, q H1 (Ex.refl H1)⟩
theorem ev_eq0 (h : Ev ta σ H x) (hx : DtAt H x d) (f : Fl d) : Ev (tOp (rEqD K) ta (tC (.int 0))) σ H (.bl (i0 d)) := ev_is (ev_eqDt h ev_c hx (.int 0) f.shaped rfl) (by rw [eqv_0 f])
theorem ev_eqE (h : Ev ta σ H x) (hx : DtAt H x d) (f : Fl d) : Ev (tOp (rEqD K) ta (tC (.str "endless"))) σ H (.bl (isE d)) := ev_is (ev_eqDt h ev_c hx (.str "endless") f.shaped (by decide +kernel)) (by rw [← eqv_E f]; rfl)
theorem ev_eqN (h : Ev ta σ H x) (hx : DtAt H x d) (f : Fl d) : Ev (tOp (rEqD K) ta (tC (.str "none"))) σ H (.bl (isN d)) := ev_is (ev_eqDt h ev_c hx (.str "none") f.shaped (by decide +kernel)) (by rw [← eqv_N f]; rfl)
end
theorem cn_int {a : PyData} (h : cnGood a = true) (h2 : isE a = false) : ∃ i, a = .int i ∧ 0 ≤ i := by
  rcases good_cn h with rfl | ⟨i, rfl, hi⟩
  · cases h2
  · exact ⟨i, rfl, hi⟩
theorem b_int {a : PyData} (h : bGood a = true) (h2 : isE a = false) (h3 : isN a = false) : ∃ i, a = .int i := by
  rcases good_b h with rfl | rfl | ⟨i, rfl⟩
  · cases h2
  · cases h3
  · exact ⟨i, rfl⟩
theorem r_if {t : TT} {ta tb : TE} {D : Ends} {σ : L2.St} {H : Hp} {b : Bool} (h : EvT t σ H b) (h1 : b = true → ∀ H1, Ex H H1 → tRet ta D σ H1) (h2 : b = false → ∀ H1, Ex H H1 → tRet tb D σ H1) : tRet (tIf t ta tb) D σ H := h H (Ex.refl H) _ fun H1 e => by
  cases b with
  | true => exact h1 rfl H1 e
  | false => exact h2 rfl H1 e
theorem or_no {a b : Bool} (h : (a || b) = false) : a = false ∧ b = false := by
  cases a <;> cases b <;> first | exact ⟨rfl, rfl⟩ | cases h
/-! ### the promises -/
def spGood (C : KC) (d : Nat) (c : Addr) : Sp := fun vs H Q _ => ∃ (s : V) (k : RK) (x : V) (dx : PyData), vs = [s, x] ∧ KindAt C H k s ∧ C.cls k = c ∧ k.depth < d ∧ k.free = true ∧ OdAt Any H x dx ∧ ∀ H', Ex H H' → Q (.bl (goodB k dx)) H'
def spClosed (C : KC) (d : Nat) (c : Addr) : Sp := fun vs H Q _ => ∃ (s : V) (k : RK), vs = [s] ∧ KindAt C H k s ∧ C.cls k = c ∧ k.depth < d ∧ ∀ H', Ex H H' → Q (.bl k.clsd) H'
def spOne (C : KC) (d : Nat) (c : Addr) : Sp := fun vs H Q _ => ∃ (s : V) (k : RK), vs = [s] ∧ KindAt C H k s ∧ C.cls k = c ∧ k.depth < d ∧ ∀ r H', Ex H H' → DtAt H' r (oneD k) → Q r H'
def spZero (C : KC) (d : Nat) (c : Addr) : Sp := fun vs H Q _ => ∃ (s : V) (k : RK), vs = [s] ∧ KindAt C H k s ∧ C.cls k = c ∧ k.depth < d ∧ ∀ r H', Ex H H' → DtAt H' r (zeroD k) → Q r H'
def spText (C : KC) (d : Nat) (c : Addr) : Sp := fun vs H Q _ => ∃ (s : V) (k : RK), vs = [s] ∧ KindAt C H k s ∧ C.cls k = c ∧ k.depth < d ∧ ∀ (t : Str) H', Ex H H' → t.length + 6 ≤ 500 * 2 ^ k.depth → Q (.str t) H'
def spNum (K : PySem.W.Frag) : Sp := fun vs H Q _ => ∃ (v : V) (o : Option Int), vs = [v] ∧ Num K H v o ∧ ∀ H', Ex H H' → Q (.bl o.isSome) H'
def spWhole (K : PySem.W.Frag) : Sp := fun vs H Q _ => ∃ (v : V) (o : Option Int) (lo hi : Int), vs = [v, .int lo, .int hi] ∧ Num K H v o ∧ ∀ H', Ex H H' → Q (.bl (whO lo hi o)) H'
section
variable {P : Program} {w : World} {K : PySem.W.Frag} {mg : Str → Option Value} {base : Heap}
abbrev s_is_number : Stmt := top 20
theorem sc_is_number : FnScope ["thing"] ["thing"] (defScope s_is_number) := ⟨rfl, rfl, rfl, by decide +kernel, rfl, by decide +kernel, by decide +kernel⟩
theorem ok_is_number {f : Addr} {fd : FuncData} (F : FnP K "is_number" s_is_number f fd) (z_isinstance : mg "isinstance" = none) (z_int : mg "int" = none) (z_bool : mg "bool" = none) : FnOk P w K mg base (CX0) 1 f fd ["thing"] (spNum K) := by
  refine F.ok (CX := CX0) sc_is_number (fun vs H Q E h => ?_) (fun cdv A outer s H vs Q E hr h => ?_)
  · obtain ⟨v, o, rfl, _⟩ := h
    rfl
  · obtain ⟨v, o, rfl, hv, q⟩ := h
    have hu := hu_of hr
    have hu64 := hr.units
    refine ⟨_, PSs.nox (pss_one (ps_ret (pe_and (pe_callB call_isi (by rfl) z_isinstance PyProof.Rows.boot_isinstance (pa_cons (pv 0) (pa_cons (pe_bltn (v := .ty "int") rfl z_int (by decide +kernel) rfl) pa_nil))) (pe_one (pe_not (pe_callB call_isi (by rfl) z_isinstance PyProof.Rows.boot_isinstance (pa_cons (pv 0) (pa_cons (pe_bltn (v := .ty "bool") rfl z_bool (by decide +kernel) rfl) pa_nil)))))))), ?_⟩
    obtain ⟨a, b, c, d, e, t, h1, h2⟩ := id hv
    refine s_ret (D := { nx := fun _ H' => Q .non H', rt := Q }) (v := .bl o.isSome) ?_ fun H' e => q H' e
    rw [← h1]
    exact ev_andV (ev_tInt (ev_var rfl) t) fun _ => ev_notV (ev_tBool (ev_var rfl) t)
abbrev s_is_whole : Stmt := top 21
theorem sc_is_whole : FnScope ["thing", "least", "most"] ["thing", "least", "most"] (defScope s_is_whole) := ⟨rfl, rfl, rfl, by decide +kernel, rfl, by decide +kernel, by decide +kernel⟩
theorem ok_is_whole {f : Addr} {fd : FuncData} (F : FnP K "is_whole" s_is_whole f fd) {f_is_number : Addr} {fd_is_number : FuncData} (F_is_number : FnP K "is_number" s_is_number f_is_number fd_is_number) (g_is_number : mg "is_number" = some (.ref f_is_number)) (G_is_number : FnOk P w K mg base (CX0) 1 f_is_number fd_is_number ["thing"] (spNum K)) : FnOk P w K mg base (CX0) 2 f fd ["thing", "least", "most"] (spWhole K) := by
  have b_is_number : Binds K fd_is_number ["thing"] [] := F_is_number.bindsN fun _ _ _ _ _ _ us hl => match us, hl with | [_], _ => rfl
  refine F.ok (CX := CX0) sc_is_whole (fun vs H Q E h => ?_) (fun cdv A outer s H vs Q E hr h => ?_)
  · obtain ⟨v, o, lo, hi, rfl, _⟩ := h
    rfl
  · obtain ⟨v, o, lo, hi, rfl, hv, q⟩ := h
    have hu := hu_of hr
    have hu64 := hr.units
    have hr_is_number := hr.mono (by decide : 1 ≤ 1)
    refine ⟨_, PSs.nox (pss_one (ps_ret (pe_and (pe_call G_is_number hr_is_number rfl g_is_number F_is_number.kp b_is_number .nil pass0 (pa_cons (pv 0) pa_nil)) (pe_one (pe_chain op_le op_le (pv 1) (pv 0) (pv 2)))))), ?_⟩
    refine s_ret (D := { nx := fun _ H' => Q .non H', rt := Q }) (v := .bl (whO lo hi o)) ?_ fun H' e => q H' e
    have hq : whO lo hi o = (o.isSome && whO lo hi o) := by cases o <;> rfl
    rw [hq]
    refine ev_andV (ev_call (z := .bl o.isSome) (ea_cons (ev_var rfl) ea_nil) fun H1 e1 Q' k' E' => ⟨v, o, rfl, hv.up e1, fun H2 e2 => k' H2 e2⟩) fun hi' => ?_
    obtain ⟨a, b, c, d, e, t, h1, h2⟩ := id hv
    cases o with
    | some i =>
      obtain rfl := h2 i rfl
      exact ev_chainLe (ev_var rfl) (ev_var rfl) (ev_var rfl)
    | none => cases hi'
end
end D1
end
section
set_option Elab.async false
set_option linter.all false
set_option maxRecDepth 100000
set_option maxHeartbeats 4000000
/-! R3: ONE, ZERO, whether closed, whether good: the kinds that have no parts -/
namespace D1
open PySem L2 Evl RZ ClX PySem.VX
structure ClsK (K : PySem.W.Frag) (C : KC) : Prop where
  nd : C.all.Nodup
  ok : ∀ c ∈ C.all, OkC K c
theorem ClsK.cls {K : PySem.W.Frag} {C : KC} (T : ClsK K C) {k : RK} {c : Addr} (h : C.cls k = c) : OkC K c := h ▸ T.ok _ (C.mem k)
section
variable {K : PySem.W.Frag} {σ : L2.St} {H : Hp} {ta tb te : TE}
theorem ev_fldK {a Cc dx : Addr} {fs : List (Str × V)} {f : Str} {v : V} (h : Ev ta σ H (.ref a)) (ha : H a = some (.ins Cc dx fs)) (ok : OkC K Cc) (hf : f ∈ fields) (hl : fs.lookup f = some v) : Ev (tFld K ta f) σ H v := fun H1 e Q q =>
  h H1 e _ fun H2 e2 => ⟨a, Cc, dx, fs, v, rfl, (e.trans e2) _ _ ha, ok.cls, ok.no f hf, hl, q H2 e2⟩
end
/-- the class at c is one of three -/
def ThreeC (C : KC) (c : Addr) : Prop := c = C.co ∨ c = C.bo ∨ c = C.na ∨ c = C.re ∨ c = C.ta
/-- kinds whose weights are numbers, and words beside -/
def RK.cntB : RK → Bool
  | .count => true
  | .narrow => true
  | .least => true
  | .most => true
  | .rest _ => true
  | .tab _ _ => true
  | _ => false
def ThreeT (C : KC) (c : Addr) : Prop := c = C.tr ∨ c = C.sh ∨ c = C.lo
theorem three_kind {C : KC} (nd : C.all.Nodup) {c : Addr} (h3 : ThreeC C c) {k : RK} (h : C.cls k = c) : k.cntB = true := by
  have hi : idx k = 1 ∨ idx k = 2 ∨ idx k = 3 ∨ idx k = 7 ∨ idx k = 9 := by
    rcases h3 with rfl | rfl | rfl | rfl | rfl
    · exact .inl (KC.idx_of nd (i := 1) rfl h)
    · exact .inr (.inl (KC.idx_of nd (i := 2) rfl h))
    · exact .inr (.inr (.inl (KC.idx_of nd (i := 3) rfl h)))
    · exact .inr (.inr (.inr (.inl (KC.idx_of nd (i := 7) rfl h))))
    · exact .inr (.inr (.inr (.inr (KC.idx_of nd (i := 9) rfl h))))
  cases k <;> first | rfl | (rcases hi with h | h | h | h | h <;> cases h)
/-- what the three have: words beside numbers -/
def wordsOf : RK → List V
  | .least => [.str "none", .str "endless"]
  | .most => [.str "none", .str "endless"]
  | .rest _ => []
  | .tab _ _ => []
  | _ => [.str "endless"]
theorem KindAt.three {C : KC} {H : Hp} {k : RK} {v : V} (h : KindAt C H k v) (h3 : k.cntB = true) : ∃ (a dx : Addr) (fs : List (Str × V)) (p : Addr), v = .ref a ∧ H a = some (.ins (C.cls k) dx fs) ∧ Com H k fs ∧ fs.lookup ("_others" : Str) = some (.ref p) ∧ H p = some (.tup (wordsOf k)) := by
  cases k with
  | count =>
    obtain ⟨a, dx, fs, h1, h2, h3, p, h4, h5⟩ := h
    exact ⟨a, dx, fs, p, h1, h2, h3, h4, h5⟩
  | narrow =>
    obtain ⟨a, dx, fs, h1, h2, h3, p, h4, h5⟩ := h
    exact ⟨a, dx, fs, p, h1, h2, h3, h4, h5⟩
  | least =>
    obtain ⟨a, dx, fs, h1, h2, h3, ⟨p, h4, h5⟩, _⟩ := h
    exact ⟨a, dx, fs, p, h1, h2, h3, h4, h5⟩
  | most =>
    obtain ⟨a, dx, fs, h1, h2, h3, ⟨p, h4, h5⟩, _⟩ := h
    exact ⟨a, dx, fs, p, h1, h2, h3, h4, h5⟩
  | rest n =>
    obtain ⟨a, dx, fs, h1, h2, h3, ⟨p, h4, h5⟩, _⟩ := h
    exact ⟨a, dx, fs, p, h1, h2, h3, h4, h5⟩
  | tab S M =>
    obtain ⟨a, dx, fs, h1, h2, h3, ⟨p, h4, h5⟩, _⟩ := h
    exact ⟨a, dx, fs, p, h1, h2, h3, h4, h5⟩
  | _ => cases h3
theorem KindAt.fin {C : KC} {H : Hp} {k : RK} {v : V} (h : KindAt C H k v) (h3 : (∃ n, k = .rest n) ∨ ∃ S M, k = .tab S M) : ∃ (a dx : Addr) (fs : List (Str × V)), v = .ref a ∧ H a = some (.ins (C.cls k) dx fs) ∧ fs.lookup ("_size" : Str) = some (.int (match k with | .rest n => n | .tab S _ => S.length | _ => 0)) := by
  rcases h3 with ⟨n, rfl⟩ | ⟨S, M, rfl⟩
  · obtain ⟨a, dx, fs, h1, h2, h3, _, h4⟩ := h
    exact ⟨a, dx, fs, h1, h2, h4⟩
  · obtain ⟨a, dx, fs, h1, h2, h3, _, h4, _⟩ := h
    exact ⟨a, dx, fs, h1, h2, h4⟩
theorem inV_str (z y : Str) : inV (.str z) [.str y] = (z == y) := by
  show (eqV (.str y) (.str z) || false) = _
  rw [Bool.or_false]
  show (y == z) = _
  rw [Bool.eq_iff_iff, beq_iff_eq, beq_iff_eq]
  exact eq_comm
theorem words_good {k : RK} (h3 : k.cntB = true) (z : Str) : inV (.str z) (wordsOf k) = goodB k (.str z) := by
  have two : inV (.str z) [.str "none", .str "endless"] = (z == "none" || z == "endless") := by
    show (eqV (.str "none") (.str z) || (eqV (.str "endless") (.str z) || false)) = _
    rw [Bool.or_false]
    show (("none" : Str) == z || ("endless" : Str) == z) = _
    congr 1
    · rw [Bool.eq_iff_iff, beq_iff_eq, beq_iff_eq]
      exact eq_comm
    · rw [Bool.eq_iff_iff, beq_iff_eq, beq_iff_eq]
      exact eq_comm
  cases k with
  | count => exact inV_str z _
  | narrow => exact inV_str z _
  | least => exact two
  | most => exact two
  | rest n => rfl
  | tab S M => rfl
  | _ => cases h3
/-- whether a number fits -/
def fitB : RK → Int → Bool
  | .least, _ => true
  | .most, _ => true
  | .rest n, i => decide (0 ≤ i) && decide (i < n)
  | .tab S _, i => decide (0 ≤ i) && decide (i < S.length)
  | _, i => decide (0 ≤ i)
def spFits (C : KC) (c : Addr) : Sp := fun vs H Q _ => ∃ (s : V) (k : RK) (i : Int), vs = [s, .int i] ∧ KindAt C H k s ∧ C.cls k = c ∧ ∀ H', Ex H H' → Q (.bl (fitB k i)) H'
section
variable {P : Program} {w : World} {K : PySem.W.Frag} {mg : Str → Option Value} {base : Heap}
abbrev s_Kind_one : Stmt := meth 23 3
theorem sc_Kind_one : FnScope ["self"] ["self"] (defScope s_Kind_one) := ⟨rfl, rfl, rfl, by decide +kernel, rfl, by decide +kernel, by decide +kernel⟩
theorem ok_Kind_one {f : Addr} {fd : FuncData} (F : FnM K "Kind" "one" s_Kind_one f fd) {C : KC} (T : ClsK K C) (d : Nat) {c : Addr} : FnOk P w K mg base (CX0) 1 f fd ["self"] (spOne C d c) := by
  refine F.ok (CX := CX0) sc_Kind_one (fun vs H Q E h => ?_) (fun cdv A outer s H vs Q E hr h => ?_)
  · obtain ⟨s, k, rfl, _⟩ := h
    rfl
  · obtain ⟨s, k, rfl, hK, hc, hd, q⟩ := h
    have hu := hu_of hr
    have hu64 := hr.units
    refine ⟨_, PSs.nox (pss_one (ps_ret (pe_fld (pv 0) rfl))), ?_⟩
    have ok := T.cls hc
    obtain ⟨a, dx, fs, rfl, ha, com⟩ := hK.com
    rw [hc] at ha
    obtain ⟨z, hl, hz⟩ := com.one
    exact s_ret (D := { nx := fun _ H' => Q .non H', rt := Q }) (ev_fldK (ev_var rfl) ha ok (by decide) hl) fun H1 e1 => q z H1 e1 (hz.ex e1)
abbrev s_Kind_zero : Stmt := meth 23 2
theorem sc_Kind_zero : FnScope ["self"] ["self"] (defScope s_Kind_zero) := ⟨rfl, rfl, rfl, by decide +kernel, rfl, by decide +kernel, by decide +kernel⟩
theorem ok_Kind_zero {f : Addr} {fd : FuncData} (F : FnM K "Kind" "zero" s_Kind_zero f fd) {C : KC} (T : ClsK K C) (d : Nat) {c : Addr} : FnOk P w K mg base (CX0) 1 f fd ["self"] (spZero C d c) := by
  refine F.ok (CX := CX0) sc_Kind_zero (fun vs H Q E h => ?_) (fun cdv A outer s H vs Q E hr h => ?_)
  · obtain ⟨s, k, rfl, _⟩ := h
    rfl
  · obtain ⟨s, k, rfl, hK, hc, hd, q⟩ := h
    have hu := hu_of hr
    have hu64 := hr.units
    refine ⟨_, PSs.nox (pss_one (ps_ret (pe_fld (pv 0) rfl))), ?_⟩
    have ok := T.cls hc
    obtain ⟨a, dx, fs, rfl, ha, com⟩ := hK.com
    rw [hc] at ha
    obtain ⟨z, hl, hz⟩ := com.zero
    exact s_ret (D := { nx := fun _ H' => Q .non H', rt := Q }) (ev_fldK (ev_var rfl) ha ok (by decide) hl) fun H1 e1 => q z H1 e1 (hz.ex e1)
abbrev s_Kind_text : Stmt := meth 23 1
theorem sc_Kind_text : FnScope ["self"] ["self"] (defScope s_Kind_text) := ⟨rfl, rfl, rfl, by decide +kernel, rfl, by decide +kernel, by decide +kernel⟩
theorem ok_Kind_text {f : Addr} {fd : FuncData} (F : FnM K "Kind" "text" s_Kind_text f fd) {C : KC} (T : ClsK K C) (d : Nat) {c : Addr} : FnOk P w K mg base (CX0) 1 f fd ["self"] (spText C d c) := by
  refine F.ok (CX := CX0) sc_Kind_text (fun vs H Q E h => ?_) (fun cdv A outer s H vs Q E hr h => ?_)
  · obtain ⟨s, k, rfl, _⟩ := h
    rfl
  · obtain ⟨s, k, rfl, hK, hc, hd, q⟩ := h
    have hu := hu_of hr
    have hu64 := hr.units
    refine ⟨_, PSs.nox (pss_one (ps_ret (pe_fld (pv 0) rfl))), ?_⟩
    have ok := T.cls hc
    obtain ⟨a, dx, fs, rfl, ha, com⟩ := hK.com
    rw [hc] at ha
    obtain ⟨z, hl, hz⟩ := com.text
    exact s_ret (D := { nx := fun _ H' => Q .non H', rt := Q }) (ev_fldK (ev_var rfl) ha ok (by decide) hl) fun H1 e1 => q z H1 e1 hz
abbrev s_Endless_closed : Stmt := meth 26 0
theorem sc_Endless_closed : FnScope ["self"] ["self"] (defScope s_Endless_closed) := ⟨rfl, rfl, rfl, by decide +kernel, rfl, by decide +kernel, by decide +kernel⟩
theorem ok_Endless_closed {f : Addr} {fd : FuncData} (F : FnM K "Endless" "closed" s_Endless_closed f fd) {C : KC} (d : Nat) {c : Addr} (h3 : ∀ k : RK, C.cls k = c → k.clsd = true) : FnOk P w K mg base (CX0) 1 f fd ["self"] (spClosed C d c) := by
  refine F.ok (CX := CX0) sc_Endless_closed (fun vs H Q E h => ?_) (fun cdv A outer s H vs Q E hr h => ?_)
  · obtain ⟨s, k, rfl, _⟩ := h
    rfl
  · obtain ⟨s, k, rfl, hK, hc, hd, q⟩ := h
    have hu := hu_of hr
    have hu64 := hr.units
    refine ⟨_, PSs.nox (pss_one (ps_ret pe_bl)), ?_⟩
    rw [h3 k hc] at q
    exact q H (Ex.refl H)
abbrev s_Topped_closed : Stmt := meth 40 0
theorem sc_Topped_closed : FnScope ["self"] ["self"] (defScope s_Topped_closed) := ⟨rfl, rfl, rfl, by decide +kernel, rfl, by decide +kernel, by decide +kernel⟩
theorem ok_Topped_closed {f : Addr} {fd : FuncData} (F : FnM K "Topped" "closed" s_Topped_closed f fd) {C : KC} (d : Nat) {c : Addr} (h3 : ∀ k : RK, C.cls k = c → k.clsd = true) : FnOk P w K mg base (CX0) 1 f fd ["self"] (spClosed C d c) := by
  refine F.ok (CX := CX0) sc_Topped_closed (fun vs H Q E h => ?_) (fun cdv A outer s H vs Q E hr h => ?_)
  · obtain ⟨s, k, rfl, _⟩ := h
    rfl
  · obtain ⟨s, k, rfl, hK, hc, hd, q⟩ := h
    have hu := hu_of hr
    have hu64 := hr.units
    refine ⟨_, PSs.nox (pss_one (ps_ret pe_bl)), ?_⟩
    rw [h3 k hc] at q
    exact q H (Ex.refl H)
abbrev s_Counted_fits : Stmt := meth 24 2
theorem sc_Counted_fits : FnScope ["self", "number"] ["self", "number"] (defScope s_Counted_fits) := ⟨rfl, rfl, rfl, by decide +kernel, rfl, by decide +kernel, by decide +kernel⟩
theorem ok_Counted_fits {f : Addr} {fd : FuncData} (F : FnM K "Counted" "fits" s_Counted_fits f fd) {C : KC} (nd : C.all.Nodup) {c : Addr} (h3 : c = C.co ∨ c = C.na) : FnOk P w K mg base (CX0) 1 f fd ["self", "number"] (spFits C c) := by
  refine F.ok (CX := CX0) sc_Counted_fits (fun vs H Q E h => ?_) (fun cdv A outer s H vs Q E hr h => ?_)
  · obtain ⟨s, k, i, rfl, _⟩ := h
    rfl
  · obtain ⟨s, k, i, rfl, hK, hc, q⟩ := h
    have hu := hu_of hr
    have hu64 := hr.units
    refine ⟨_, PSs.nox (pss_one (ps_ret (pe_cmpR op_ge (pv 1) pe_int (nomark _)))), ?_⟩
    have hk : fitB k i = decide (0 ≤ i) := by
      have hi : idx k = 1 ∨ idx k = 3 := by
        rcases h3 with rfl | rfl
        · exact .inl (KC.idx_of nd (i := 1) rfl hc)
        · exact .inr (KC.idx_of nd (i := 3) rfl hc)
      cases k <;> first | rfl | (rcases hi with h | h <;> cases h)
    rw [hk] at q
    exact s_ret (D := { nx := fun _ H' => Q .non H', rt := Q }) (ev_op (ev_var rfl) ev_c rv_I0) fun H1 e1 => q H1 e1
abbrev s_Bounded_fits : Stmt := meth 28 1
theorem sc_Bounded_fits : FnScope ["self", "number"] ["self", "number"] (defScope s_Bounded_fits) := ⟨rfl, rfl, rfl, by decide +kernel, rfl, by decide +kernel, by decide +kernel⟩
theorem ok_Bounded_fits {f : Addr} {fd : FuncData} (F : FnM K "Bounded" "fits" s_Bounded_fits f fd) {C : KC} (nd : C.all.Nodup) : FnOk P w K mg base (CX0) 1 f fd ["self", "number"] (spFits C C.bo) := by
  refine F.ok (CX := CX0) sc_Bounded_fits (fun vs H Q E h => ?_) (fun cdv A outer s H vs Q E hr h => ?_)
  · obtain ⟨s, k, i, rfl, _⟩ := h
    rfl
  · obtain ⟨s, k, i, rfl, hK, hc, q⟩ := h
    have hu := hu_of hr
    have hu64 := hr.units
    refine ⟨_, PSs.nox (pss_one (ps_ret pe_bl)), ?_⟩
    have hk : fitB k i = true := by
      have hi := KC.idx_of nd (i := 2) rfl hc
      cases k <;> first | rfl | cases hi
    rw [hk] at q
    exact q H (Ex.refl H)
abbrev s_Counted_good : Stmt := meth 24 1
theorem sc_Counted_good : FnScope ["self", "thing"] ["self", "thing"] (defScope s_Counted_good) := ⟨rfl, rfl, rfl, by decide +kernel, rfl, by decide +kernel, by decide +kernel⟩
theorem ok_Counted_good {f : Addr} {fd : FuncData} (F : FnM K "Counted" "good" s_Counted_good f fd) {f_is_number : Addr} {fd_is_number : FuncData} (F_is_number : FnP K "is_number" s_is_number f_is_number fd_is_number) (g_is_number : mg "is_number" = some (.ref f_is_number)) (G_is_number : FnOk P w K mg base (CX0) 1 f_is_number fd_is_number ["thing"] (spNum K)) {C : KC} (T : ClsK K C) (d : Nat) {c : Addr} (h3 : ThreeC C c) (HA : ∀ e sp, (fun e => if e = c then some (spFits C c) else none) e = some sp → HeldM P w K mg base 1 "fits" e sp) (z_isinstance : mg "isinstance" = none) (z_str : mg "str" = none) : FnOk P w K mg base (CX0) 2 f fd ["self", "thing"] (spGood C d c) := by
  have b_is_number : Binds K fd_is_number ["thing"] [] := F_is_number.bindsN fun _ _ _ _ _ _ us hl => match us, hl with | [_], _ => rfl
  refine F.ok (CX := CX0) sc_Counted_good (fun vs H Q E h => ?_) (fun cdv A outer s H vs Q E hr h => ?_)
  · obtain ⟨s, k, x, dx, rfl, _⟩ := h
    rfl
  · obtain ⟨s, k, x, dx, rfl, hK, hc, hd, hf, hx, q⟩ := h
    have hu := hu_of hr
    have hu64 := hr.units
    have hr_is_number := hr.mono (by decide : 1 ≤ 1)
    have hr_fits := hr.mono (by decide : 1 ≤ 1)
    refine ⟨_, PSs.nox (pss_cons (ps_if (pt_val (pe_callB call_isi (by rfl) z_isinstance PyProof.Rows.boot_isinstance (pa_cons (pv 1) (pa_cons (pe_bltn (v := .ty "str") rfl z_str (by decide +kernel) rfl) pa_nil)))) (pss_one (ps_ret (pe_cmpR op_in_seq (pv 1) (pe_fld (pv 0) rfl) (by rfl)))) pss_nil)
      (pss_one (ps_ret (pe_and (pe_call G_is_number hr_is_number rfl g_is_number F_is_number.kp b_is_number .nil pass0 (pa_cons (pv 1) pa_nil)) (pe_one (pe_methA (S := fun e => if e = c then some (spFits C c) else none) HA (pv 0) hr_fits (pa_cons (pv 1) pa_nil))))))), ?_⟩
    have ok := T.cls hc
    have hk := three_kind T.nd h3 hc
    obtain ⟨a, da, fs, p, rfl, ha, com, ho, hp⟩ := hK.three hk
    rw [hc] at ha
    have hG : dTx dx = false → goodB k dx = ((dNum dx).isSome && match dNum dx with | some i => fitB k i | none => false) := fun h => by
      cases k <;> first | exact Bool.noConfusion (show false = true from hk) | (cases dx <;> first | rfl | cases h)
    refine q_when (b := dTx dx) (et_B (ev_tStr (ev_var rfl) hx.tells)) (fun hb H1 e1 => ?_) (fun hb H1 e1 => ?_)
    · cases hx with
      | str z =>
        have fl : (wordsOf k).all flatV = true := by cases k <;> first | rfl | cases hk
        refine s_ret (ev_op (ev_var rfl) (ev_fldK (ev_var rfl) (e1 _ _ ha) ok (by decide) ho) (rv_isT (.inl (.inl (e1 _ _ hp))) rfl fl)) fun H2 e2 => ?_
        rw [words_good hk]
        exact q H2 (e1.trans e2)
      | _ => cases hb
    · rw [hG hb] at q
      refine s_ret (v := .bl ((dNum dx).isSome && match dNum dx with | some i => fitB k i | none => false)) (ev_andV (ev_call (ea_cons (ev_var rfl) ea_nil) fun H2 e2 Q' q' E' => ⟨x, _, rfl, (hx.ex (e1.trans e2)).num, fun H3 e3 => q' H3 e3⟩) fun hs => ?_) fun H2 e2 => q H2 (e1.trans e2)
      cases dx with
      | int i =>
        obtain rfl := hx.int_inv
        intro H2 e2 Q' q'
        have e12 := e1.trans e2
        exact ⟨_, rfl, a, c, da, fs, spFits C c, rfl, if_pos rfl, e12 _ _ ha, com.no _ (by decide), _, rfl, .ref a, k, i, rfl, hK.ex e12, hc, fun H3 e3 => q' H3 e3⟩
      | _ => cases hs
abbrev s_Truth_good : Stmt := meth 41 2
theorem sc_Truth_good : FnScope ["self", "thing"] ["self", "thing"] (defScope s_Truth_good) := ⟨rfl, rfl, rfl, by decide +kernel, rfl, by decide +kernel, by decide +kernel⟩
theorem ok_Truth_good {f : Addr} {fd : FuncData} (F : FnM K "Truth" "good" s_Truth_good f fd) {C : KC} (nd : C.all.Nodup) (d : Nat) (z_isinstance : mg "isinstance" = none) (z_bool : mg "bool" = none) : FnOk P w K mg base (CX0) 1 f fd ["self", "thing"] (spGood C d C.tr) := by
  refine F.ok (CX := CX0) sc_Truth_good (fun vs H Q E h => ?_) (fun cdv A outer s H vs Q E hr h => ?_)
  · obtain ⟨s, k, x, dx, rfl, _⟩ := h
    rfl
  · obtain ⟨s, k, x, dx, rfl, hK, hc, hd, hf, hx, q⟩ := h
    have hu := hu_of hr
    have hu64 := hr.units
    refine ⟨_, PSs.nox (pss_one (ps_ret (pe_callB call_isi (by rfl) z_isinstance PyProof.Rows.boot_isinstance (pa_cons (pv 1) (pa_cons (pe_bltn (v := .ty "bool") rfl z_bool (by decide +kernel) rfl) pa_nil))))), ?_⟩
    have hi := KC.idx_of nd (i := 0) rfl hc
    have e : k = .truth := by cases k <;> first | rfl | cases hi
    subst e
    exact s_ret (D := { nx := fun _ H' => Q .non H', rt := Q }) (ev_tBool (ev_var rfl) hx.tells) fun H1 e1 => q H1 e1
def lenD : PyData → Nat
  | .tuple ds => ds.length
  | _ => 0
theorem ev_lenD {K : PySem.W.Frag} {σ : L2.St} {H : Hp} {te : TE} {v : V} {d : PyData} (h : Ev te σ H v) (hv : OdAt Any H v d) (ht : dTu d = true) : Ev (tCB (fun xs H Q => ∃ p ys, xs = [V.ref p] ∧ (SqL K H p ys ∨ SqT K H p ys) ∧ Q (.int ys.length) H) (tCons te tNil)) σ H (.int (lenD d)) := by
  cases hv with
  | tup ha r =>
    rw [show lenD (.tuple _) = _ from r.len.symm]
    exact ev_lenT h (.inl (.inl ha))
  | _ => cases ht
theorem two_of {d : PyData} (h : dTu d = true) (h2 : lenD d = 2) : ∃ x y, d = .tuple [x, y] := by
  cases d with
  | tuple ds =>
    match ds, h2 with
    | [x, y], _ => exact ⟨x, y, rfl⟩
  | _ => cases h
theorem ne_2 (n : Nat) : (!((n : Int) == (2 : Int))) = !decide (n = 2) := by
  by_cases h : n = 2
  · subst h
    rfl
  · rw [decide_eq_false h]
    have : ((n : Int) == (2 : Int)) = false := by
      rw [beq_eq_false_iff_ne]
      omega
    rw [this]
theorem shGood_tu {d : PyData} (h : (!dTu d || !decide (lenD d = 2)) = true) : shGood d = false := by
  unfold shGood
  split
  · cases h
  · rfl
theorem prGood_tu {f g : PyData → Bool} {d : PyData} (h : (!dTu d || !decide (lenD d = 2)) = true) : prGood f g d = false := by
  unfold prGood
  split
  · cases h
  · rfl
theorem shGood_two (x y : PyData) : shGood (.tuple [x, y]) = match dNum x, dNum y with | some p, some q => (decide (0 ≤ p) && decide (p ≤ q)) && (gI p q == 1) | _, _ => false := by
  cases x <;> cases y <;> rfl
abbrev s_Share_good : Stmt := meth 42 1
theorem sc_Share_good : FnScope ["self", "thing", "top", "bottom"] ["self", "thing"] (defScope s_Share_good) := ⟨rfl, rfl, rfl, by decide +kernel, rfl, by decide +kernel, by decide +kernel⟩
theorem ok_Share_good {f : Addr} {fd : FuncData} (F : FnM K "Share" "good" s_Share_good f fd) {f_is_number : Addr} {fd_is_number : FuncData} (F_is_number : FnP K "is_number" s_is_number f_is_number fd_is_number) (g_is_number : mg "is_number" = some (.ref f_is_number)) (G_is_number : FnOk P w K mg base (CX0) 1 f_is_number fd_is_number ["thing"] (spNum K)) {C : KC} (nd : C.all.Nodup) (d : Nat) (g_gcd : mg "gcd" = some (.builtin "math.gcd")) (z_isinstance : mg "isinstance" = none) (z_tuple : mg "tuple" = none) (z_len : mg "len" = none) : FnOk P w K mg base (CX0) 2 f fd ["self", "thing"] (spGood C d C.sh) := by
  have b_is_number : Binds K fd_is_number ["thing"] [] := F_is_number.bindsN fun _ _ _ _ _ _ us hl => match us, hl with | [_], _ => rfl
  refine F.ok (CX := CX0) sc_Share_good (fun vs H Q E h => ?_) (fun cdv A outer s H vs Q E hr h => ?_)
  · obtain ⟨s, k, x, dx, rfl, _⟩ := h
    rfl
  · obtain ⟨s, k, x, dx, rfl, hK, hc, hd, hf, hx, q⟩ := h
    have hu := hu_of hr
    have hu64 := hr.units
    have hr_is_number := hr.mono (by decide : 1 ≤ 1)
    refine ⟨_, PSs.nox (pss_cons (ps_if (PW.pt (pw_or (pt_not (pt_val (pe_callB call_isi (by rfl) z_isinstance PyProof.Rows.boot_isinstance (pa_cons (pv 1) (pa_cons (pe_bltn (v := .ty "tuple") rfl z_tuple (by decide +kernel) rfl) pa_nil))))) (pw_or1 (pt_cmpR op_ne (pe_callB call_len_seq (by rfl) z_len PySem.boot_len (pa_cons (pv 1) pa_nil)) pe_int (nomark _))))) (pss_one (ps_ret pe_bl)) pss_nil)
      (pss_cons (ps_asg (pv 1) (pg_tup rfl (pgs_cons (pg_name (i := 2) sc_Share_good.nd rfl (Or.inl rfl)) (pgs_cons (pg_name (i := 3) sc_Share_good.nd rfl (Or.inl rfl)) pgs_nil))))
      (pss_cons (ps_if (PW.pt (pw_or (pt_not (pt_val (pe_call G_is_number hr_is_number rfl g_is_number F_is_number.kp b_is_number .nil pass0 (pa_cons (pv 2) pa_nil)))) (pw_or1 (pt_not (pt_val (pe_call G_is_number hr_is_number rfl g_is_number F_is_number.kp b_is_number .nil pass0 (pa_cons (pv 3) pa_nil))))))) (pss_one (ps_ret pe_bl)) pss_nil)
      (pss_one (ps_ret (pe_and (pe_chain op_le op_le pe_int (pv 2) (pv 3)) (pe_one (pe_cmpR op_eq (pe_callBfun cr_gcd (by rfl) g_gcd (pa_cons (pv 2) (pa_cons (pv 3) pa_nil))) pe_int (nomark _))))))))), ?_⟩
    have hi := KC.idx_of nd (i := 4) rfl hc
    have e : k = .share := by cases k <;> first | rfl | cases hi
    subst e
    have q : ∀ H', Ex H H' → Q (.bl (shGood dx)) H' := q
    refine q_when (b := !dTu dx || !decide (lenD dx = 2)) (et_or (et_not (et_B (ev_tTup (ev_var rfl) hx.tells))) (fun ht => et_is (et_test (ev_neI (ev_lenD (ev_var rfl) hx (by simpa using ht)) ev_c)) (ne_2 _))) (fun hb H1 e1 => ?_) (fun hb H1 e1 => ?_)
    · exact s_ret ev_c fun H2 e2 => by
        have := q H2 (e1.trans e2)
        rw [shGood_tu hb] at this
        exact this
    obtain ⟨h1, h2⟩ := or_no hb
    obtain ⟨dp, dq, rfl⟩ := two_of (by simpa using h1) (by simpa using h2)
    obtain ⟨ax, up, uq, rfl, hax, hp, hq⟩ := id hx.two
    rw [shGood_two] at q
    refine ⟨_, rfl, ax, [up, uq], rfl, .inl (.inl (e1 _ _ hax)), rfl, _, _, rfl, _, _, rfl, rfl, ?_⟩
    refine q_when (b := !(dNum dp).isSome || !(dNum dq).isSome) (et_or (et_not (et_B (ev_call (ea_cons (ev_var rfl) ea_nil) fun H2 e2 Q' q' E' => ⟨_, _, rfl, (hp.ex (e1.trans e2)).num, fun H3 e3 => q' H3 e3⟩))) (fun _ => et_not (et_B (ev_call (ea_cons (ev_var rfl) ea_nil) fun H2 e2 Q' q' E' => ⟨_, _, rfl, (hq.ex (e1.trans e2)).num, fun H3 e3 => q' H3 e3⟩)))) (fun hb2 H2 e2 => ?_) (fun hb2 H2 e2 => ?_)
    · exact s_ret ev_c fun H3 e3 => by
        have := q H3 ((e1.trans e2).trans e3)
        cases hdp : dNum dp with
        | none =>
          rw [hdp] at this
          exact this
        | some i =>
          cases hdq : dNum dq with
          | none =>
            rw [hdp, hdq] at this
            exact this
          | some j =>
            rw [hdp, hdq] at hb2
            cases hb2
    · obtain ⟨h3, h4⟩ := or_no hb2
      cases dp with
      | int p =>
        cases dq with
        | int r =>
          obtain rfl := hp.int_inv
          obtain rfl := hq.int_inv
          exact s_ret (v := .bl ((decide (0 ≤ p) && decide (p ≤ r)) && (gI p r == 1))) (ev_andV (ev_chainLe ev_c (ev_var rfl) (ev_var rfl)) fun _ => ev_eqI (ev_cb (ea_cons (ev_var rfl) (ea_cons (ev_var rfl) ea_nil)) fun H3 e3 Q' q' => ⟨_, _, rfl, q' H3 (Ex.refl H3)⟩) ev_c) fun H3 e3 => q H3 ((e1.trans e2).trans e3)
        | _ => cases h4
      | _ => cases h3
abbrev s_Lot_good : Stmt := meth 43 2
theorem sc_Lot_good : FnScope ["self", "thing"] ["self", "thing"] (defScope s_Lot_good) := ⟨rfl, rfl, rfl, by decide +kernel, rfl, by decide +kernel, by decide +kernel⟩
theorem ok_Lot_good {f : Addr} {fd : FuncData} (F : FnM K "Lot" "good" s_Lot_good f fd) {f_is_number : Addr} {fd_is_number : FuncData} (F_is_number : FnP K "is_number" s_is_number f_is_number fd_is_number) (g_is_number : mg "is_number" = some (.ref f_is_number)) (G_is_number : FnOk P w K mg base (CX0) 1 f_is_number fd_is_number ["thing"] (spNum K)) {C : KC} (nd : C.all.Nodup) (d : Nat) (HA : ∀ e sp, (fun e => if e = C.lo then some (spOne C d C.lo) else none) e = some sp → HeldM P w K mg base 1 "one" e sp) : FnOk P w K mg base (CX0) 2 f fd ["self", "thing"] (spGood C d C.lo) := by
  have b_is_number : Binds K fd_is_number ["thing"] [] := F_is_number.bindsN fun _ _ _ _ _ _ us hl => match us, hl with | [_], _ => rfl
  refine F.ok (CX := CX0) sc_Lot_good (fun vs H Q E h => ?_) (fun cdv A outer s H vs Q E hr h => ?_)
  · obtain ⟨s, k, x, dx, rfl, _⟩ := h
    rfl
  · obtain ⟨s, k, x, dx, rfl, hK, hc, hd, hf, hx, q⟩ := h
    have hu := hu_of hr
    have hu64 := hr.units
    have hr_is_number := hr.mono (by decide : 1 ≤ 1)
    have hr_one := hr.mono (by decide : 1 ≤ 1)
    refine ⟨_, PSs.nox (pss_one (ps_ret (pe_and (pe_call G_is_number hr_is_number rfl g_is_number F_is_number.kp b_is_number .nil pass0 (pa_cons (pv 1) pa_nil)) (pe_one (pe_chain op_le op_le pe_int (pv 1) (pe_methA0 (S := fun e => if e = C.lo then some (spOne C d C.lo) else none) HA (pv 0) hr_one)))))), ?_⟩
    have hi := KC.idx_of nd (i := 5) rfl hc
    obtain ⟨n, rfl⟩ : ∃ n, k = .lot n := by cases k <;> first | exact ⟨_, rfl⟩ | cases hi
    obtain ⟨a, da, fs, rfl, ha, com⟩ := hK.com
    have q : ∀ H', Ex H H' → Q (.bl (lotGood n dx)) H' := q
    have hG : lotGood n dx = ((dNum dx).isSome && lotGood n dx) := by cases dx <;> rfl
    rw [hG] at q
    refine s_ret (D := { nx := fun _ H' => Q .non H', rt := Q }) (ev_andV (ev_call (z := .bl (dNum dx).isSome) (ea_cons (ev_var rfl) ea_nil) fun H2 e2 Q' q' E' => ⟨x, _, rfl, (hx.ex e2).num, fun H3 e3 => q' H3 e3⟩) fun hs => ?_) fun H2 e2 => q H2 e2
    cases dx with
    | int i =>
      obtain rfl := hx.int_inv
      refine ev_is (ev_chainLe ev_c (ev_var rfl) (c := 2 ^ n - 1) fun H2 e2 Q' q' => ⟨_, rfl, a, C.lo, da, fs, spOne C d C.lo, rfl, if_pos rfl, e2 _ _ ha, com.no _ (by decide), .ref a, .lot n, rfl, hK.ex e2, rfl, hd, fun r H3 e3 hr => ?_⟩) rfl
      obtain rfl := hr.int_inv
      exact q' H3 e3
    | _ => cases hs
end
end D1
end
section
set_option Elab.async false
set_option linter.all false
set_option maxRecDepth 100000
set_option maxHeartbeats 4000000
/-! R4: pairs, and so all kinds -/
namespace D1
open PySem L2 Evl RZ ClX PySem.VX
section
variable {P : Program} {w : World} {K : PySem.W.Frag} {mg : Str → Option Value} {base : Heap}
theorem fn_never {CX : CXT} {k : Nat} {f : Addr} {fd : FuncData} {ps : List Str} {sp : Sp} (h : ∀ vs H Q E, ¬sp vs H Q E) : FnOk P w K mg base CX k f fd ps sp := ⟨fun vs H Q E z => (h vs H Q E z).elim, fun _ _ _ _ _ _ vs Q E _ _ _ _ z => (h vs _ Q E z).elim⟩
theorem pair_kind {C : KC} (nd : C.all.Nodup) {k : RK} (h : C.cls k = C.pa) : ∃ l r, k = .pair l r := by
  have hi := KC.idx_of nd (i := 6) rfl h
  cases k <;> first | exact ⟨_, _, rfl⟩ | cases hi
theorem depth_l {l r : RK} {d : Nat} (h : (RK.pair l r).depth < d + 1) : l.depth < d := by
  have h : max l.depth r.depth + 1 < d + 1 := h
  have := Nat.le_max_left l.depth r.depth
  omega
theorem depth_r {l r : RK} {d : Nat} (h : (RK.pair l r).depth < d + 1) : r.depth < d := by
  have h : max l.depth r.depth + 1 < d + 1 := h
  have := Nat.le_max_right l.depth r.depth
  omega
abbrev s_Pair_closed : Stmt := meth 35 1
theorem sc_Pair_closed : FnScope ["self"] ["self"] (defScope s_Pair_closed) := ⟨rfl, rfl, rfl, by decide +kernel, rfl, by decide +kernel, by decide +kernel⟩
theorem ok_Pair_closed {f : Addr} {fd : FuncData} (F : FnM K "Pair" "closed" s_Pair_closed f fd) {C : KC} (T : ClsK K C) {d : Nat} (HA : ∀ e sp, SK C (spClosed C d) e = some sp → HeldM P w K mg base (d + 1) "closed" e sp) : FnOk P w K mg base (CX0) (d + 2) f fd ["self"] (spClosed C (d + 1) C.pa) := by
  refine F.ok (CX := CX0) sc_Pair_closed (fun vs H Q E h => ?_) (fun cdv A outer s H vs Q E hr h => ?_)
  · obtain ⟨s, k, rfl, _⟩ := h
    rfl
  · obtain ⟨s, k, rfl, hK, hc, hd, q⟩ := h
    have hu := hu_of hr
    have hu64 := hr.units
    have hr_in := hr.mono (Nat.le_refl _)
    refine ⟨_, PSs.nox (pss_one (ps_ret (pe_and (pe_methA0 (S := SK C (spClosed C d)) HA (pe_fld (pv 0) rfl) hr_in) (pe_one (pe_methA0 (S := SK C (spClosed C d)) HA (pe_fld (pv 0) rfl) hr_in))))), ?_⟩
    obtain ⟨kl, kr, rfl⟩ := pair_kind T.nd hc
    have ok := T.cls (k := .pair kl kr) rfl
    obtain ⟨a, da, fs, fl, fr, rfl, ha, com, l1, l2, k1, k2⟩ := id hK
    obtain ⟨la, ld, lf, rfl, hla, lcom⟩ := id k1.com
    obtain ⟨ra, rd, rf, rfl, hra, rcom⟩ := id k2.com
    refine s_ret (D := { nx := fun _ H' => Q .non H', rt := Q }) (v := .bl (kl.clsd && kr.clsd)) (ev_andV (a := kl.clsd) (b := kr.clsd) (fun H1 e1 Q' q' => ?_) (fun _ H1 e1 Q' q' => ?_)) fun H1 e1 => q H1 e1
    · exact ⟨_, rfl, a, _, da, fs, _, rfl, e1 _ _ ha, ok.cls, ok.no _ (by decide), l1, la, _, ld, lf, _, rfl, SK.at kl, e1 _ _ hla, lcom.no _ (by decide), .ref la, kl, rfl, k1.ex e1, rfl, depth_l hd, fun H2 e2 => q' H2 e2⟩
    · exact ⟨_, rfl, a, _, da, fs, _, rfl, e1 _ _ ha, ok.cls, ok.no _ (by decide), l2, ra, _, rd, rf, _, rfl, SK.at kr, e1 _ _ hra, rcom.no _ (by decide), .ref ra, kr, rfl, k2.ex e1, rfl, depth_r hd, fun H2 e2 => q' H2 e2⟩
abbrev s_Pair_good : Stmt := meth 35 3
theorem sc_Pair_good : FnScope ["self", "thing"] ["self", "thing"] (defScope s_Pair_good) := ⟨rfl, rfl, rfl, by decide +kernel, rfl, by decide +kernel, by decide +kernel⟩
theorem ok_Pair_good {f : Addr} {fd : FuncData} (F : FnM K "Pair" "good" s_Pair_good f fd) {C : KC} (T : ClsK K C) {d : Nat} (HA : ∀ e sp, SK C (spGood C d) e = some sp → HeldM P w K mg base (d + 2) "good" e sp) (z_isinstance : mg "isinstance" = none) (z_tuple : mg "tuple" = none) (z_len : mg "len" = none) : FnOk P w K mg base (CX0) (d + 3) f fd ["self", "thing"] (spGood C (d + 1) C.pa) := by
  refine F.ok (CX := CX0) sc_Pair_good (fun vs H Q E h => ?_) (fun cdv A outer s H vs Q E hr h => ?_)
  · obtain ⟨s, k, x, dx, rfl, _⟩ := h
    rfl
  · obtain ⟨s, k, x, dx, rfl, hK, hc, hd, hf, hx, q⟩ := h
    have hu := hu_of hr
    have hu64 := hr.units
    have hr_in := hr.mono (Nat.le_refl _)
    refine ⟨_, PSs.nox (pss_cons (ps_if (PW.pt (pw_or (pt_not (pt_val (pe_callB call_isi (by rfl) z_isinstance PyProof.Rows.boot_isinstance (pa_cons (pv 1) (pa_cons (pe_bltn (v := .ty "tuple") rfl z_tuple (by decide +kernel) rfl) pa_nil))))) (pw_or1 (pt_cmpR op_ne (pe_callB call_len_seq (by rfl) z_len PySem.boot_len (pa_cons (pv 1) pa_nil)) pe_int (nomark _))))) (pss_one (ps_ret pe_bl)) pss_nil)
      (pss_one (ps_ret (pe_and (pe_methA (S := SK C (spGood C d)) HA (pe_fld (pv 0) rfl) hr_in (pa_cons (pe_ix ix_tup (pv 1) pe_int (fun _ _ => rfl)) pa_nil)) (pe_one (pe_methA (S := SK C (spGood C d)) HA (pe_fld (pv 0) rfl) hr_in (pa_cons (pe_ix ix_tup (pv 1) pe_int (fun _ _ => rfl)) pa_nil))))))), ?_⟩
    obtain ⟨kl, kr, rfl⟩ := pair_kind T.nd hc
    have ok := T.cls (k := .pair kl kr) rfl
    obtain ⟨a, da, fs, fl, fr, rfl, ha, com, l1, l2, k1, k2⟩ := id hK
    obtain ⟨la, ld, lf, rfl, hla, lcom⟩ := id k1.com
    obtain ⟨ra, rd, rf, rfl, hra, rcom⟩ := id k2.com
    have q : ∀ H', Ex H H' → Q (.bl (prGood (goodB kl) (goodB kr) dx)) H' := q
    obtain ⟨hfl, hfr⟩ : kl.free = true ∧ kr.free = true := by
      have hf : (kl.free && kr.free) = true := hf
      rwa [Bool.and_eq_true] at hf
    refine q_when (b := !dTu dx || !decide (lenD dx = 2)) (et_or (et_not (et_B (ev_tTup (ev_var rfl) hx.tells))) (fun ht => et_is (et_test (ev_neI (ev_lenD (ev_var rfl) hx (by simpa using ht)) ev_c)) (ne_2 _))) (fun hb H1 e1 => ?_) (fun hb H1 e1 => ?_)
    · exact s_ret ev_c fun H2 e2 => by
        have := q H2 (e1.trans e2)
        rw [prGood_tu hb] at this
        exact this
    obtain ⟨h1, h2⟩ := or_no hb
    obtain ⟨dp, dq, rfl⟩ := two_of (by simpa using h1) (by simpa using h2)
    obtain ⟨ax, up, uq, rfl, hax, hp, hq⟩ := id hx.two
    refine s_ret (v := .bl (goodB kl dp && goodB kr dq)) (ev_andV (fun H2 e2 Q' q' => ?_) (fun _ H2 e2 Q' q' => ?_)) fun H2 e2 => q H2 (e1.trans e2)
    · have e := e1.trans e2
      exact ⟨_, rfl, a, _, da, fs, _, rfl, e _ _ ha, ok.cls, ok.no _ (by decide), l1, la, _, ld, lf, _, rfl, SK.at kl, e _ _ hla, lcom.no _ (by decide), _, rfl, ax, _, _, _, rfl, rfl, .inl (.inl (e _ _ hax)), rfl, .ref la, kl, _, _, rfl, k1.ex e, rfl, depth_l hd, hfl, hp.ex e, fun H3 e3 => q' H3 e3⟩
    · have e := e1.trans e2
      exact ⟨_, rfl, a, _, da, fs, _, rfl, e _ _ ha, ok.cls, ok.no _ (by decide), l2, ra, _, rd, rf, _, rfl, SK.at kr, e _ _ hra, rcom.no _ (by decide), _, rfl, ax, _, _, _, rfl, rfl, .inl (.inl (e _ _ hax)), rfl, .ref ra, kr, _, _, rfl, k2.ex e, rfl, depth_r hd, hfr, hq.ex e, fun H3 e3 => q' H3 e3⟩
/-- good of all kinds, pairs by depth -/
theorem all_good {C : KC} (T : ClsK K C) {f : Addr → Addr} {fd : Addr → FuncData} (m_ : ∀ c ∈ C.all, Meth K c "good" (f c)) (b_ : ∀ c ∈ C.all, Binds K (fd c) ["self", "thing"] []) (G_ : ∀ d, ∀ c ∈ C.all, c ≠ C.pa → FnOk P w K mg base CX0 2 (f c) (fd c) ["self", "thing"] (spGood C d c))
    (G_pa : ∀ d, (∀ e sp, SK C (spGood C d) e = some sp → HeldM P w K mg base (d + 2) "good" e sp) → FnOk P w K mg base CX0 (d + 3) (f C.pa) (fd C.pa) ["self", "thing"] (spGood C (d + 1) C.pa)) : ∀ d : Nat, ∀ e sp, SK C (spGood C d) e = some sp → HeldM P w K mg base (d + 2) "good" e sp
  | 0, e, sp, h => by
    obtain ⟨rfl, i, hi⟩ := SK.inv h
    have hm := List.mem_of_getElem? hi
    refine ⟨(T.ok _ hm).cls, f e, fd e, _, m_ e hm, ?_, b_ e hm⟩
    by_cases hp : e = C.pa
    · subst hp
      refine fn_never fun vs H Q E hv => ?_
      obtain ⟨s, k, x, dx, rfl, hK, hc, hd, _⟩ := hv
      exact absurd hd (by omega)
    · exact (G_ 0 e hm hp).mono (by omega)
  | d + 1, e, sp, h => by
    have ih := all_good T m_ b_ G_ G_pa d
    obtain ⟨rfl, i, hi⟩ := SK.inv h
    have hm := List.mem_of_getElem? hi
    refine ⟨(T.ok _ hm).cls, f e, fd e, _, m_ e hm, ?_, b_ e hm⟩
    by_cases hp : e = C.pa
    · subst hp
      have := G_pa d ih
      rw [show d + 3 = d + 1 + 2 by omega] at this
      exact this
    · exact (G_ (d + 1) e hm hp).mono (by omega)
/-- closed of all kinds, pairs by depth -/
theorem all_closed {C : KC} (T : ClsK K C) {f : Addr → Addr} {fd : Addr → FuncData} (m_ : ∀ c ∈ C.all, Meth K c "closed" (f c)) (b_ : ∀ c ∈ C.all, Binds K (fd c) ["self"] []) (G_ : ∀ d, ∀ c ∈ C.all, c ≠ C.pa → FnOk P w K mg base CX0 1 (f c) (fd c) ["self"] (spClosed C d c))
    (G_pa : ∀ d, (∀ e sp, SK C (spClosed C d) e = some sp → HeldM P w K mg base (d + 1) "closed" e sp) → FnOk P w K mg base CX0 (d + 2) (f C.pa) (fd C.pa) ["self"] (spClosed C (d + 1) C.pa)) : ∀ d : Nat, ∀ e sp, SK C (spClosed C d) e = some sp → HeldM P w K mg base (d + 1) "closed" e sp
  | 0, e, sp, h => by
    obtain ⟨rfl, i, hi⟩ := SK.inv h
    have hm := List.mem_of_getElem? hi
    refine ⟨(T.ok _ hm).cls, f e, fd e, _, m_ e hm, ?_, b_ e hm⟩
    by_cases hp : e = C.pa
    · subst hp
      refine fn_never fun vs H Q E hv => ?_
      obtain ⟨s, k, rfl, hK, hc, hd, _⟩ := hv
      exact absurd hd (by omega)
    · exact (G_ 0 e hm hp).mono (by omega)
  | d + 1, e, sp, h => by
    have ih := all_closed T m_ b_ G_ G_pa d
    obtain ⟨rfl, i, hi⟩ := SK.inv h
    have hm := List.mem_of_getElem? hi
    refine ⟨(T.ok _ hm).cls, f e, fd e, _, m_ e hm, ?_, b_ e hm⟩
    by_cases hp : e = C.pa
    · subst hp
      have := G_pa d ih
      rw [show d + 2 = d + 1 + 1 by omega] at this
      exact this
    · exact (G_ (d + 1) e hm hp).mono (by omega)
theorem all_one {C : KC} (T : ClsK K C) {f : Addr} {fd : FuncData} (b : Binds K fd ["self"] []) (G : ∀ (d : Nat) (c : Addr), FnOk P w K mg base CX0 1 f fd ["self"] (spOne C d c)) (M : ∀ c ∈ C.all, Meth K c "one" f) (d : Nat) : ∀ e sp, SK C (spOne C d) e = some sp → HeldM P w K mg base 1 "one" e sp := fun e sp h => by
  obtain ⟨rfl, i, hi⟩ := SK.inv h
  have hm := List.mem_of_getElem? hi
  exact ⟨(T.ok _ hm).cls, f, fd, _, M _ hm, G d e, b⟩
theorem all_zero {C : KC} (T : ClsK K C) {f : Addr} {fd : FuncData} (b : Binds K fd ["self"] []) (G : ∀ (d : Nat) (c : Addr), FnOk P w K mg base CX0 1 f fd ["self"] (spZero C d c)) (M : ∀ c ∈ C.all, Meth K c "zero" f) (d : Nat) : ∀ e sp, SK C (spZero C d) e = some sp → HeldM P w K mg base 1 "zero" e sp := fun e sp h => by
  obtain ⟨rfl, i, hi⟩ := SK.inv h
  have hm := List.mem_of_getElem? hi
  exact ⟨(T.ok _ hm).cls, f, fd, _, M _ hm, G d e, b⟩
theorem all_text {C : KC} (T : ClsK K C) {f : Addr} {fd : FuncData} (b : Binds K fd ["self"] []) (G : ∀ (d : Nat) (c : Addr), FnOk P w K mg base CX0 1 f fd ["self"] (spText C d c)) (M : ∀ c ∈ C.all, Meth K c "text" f) (d : Nat) : ∀ e sp, SK C (spText C d) e = some sp → HeldM P w K mg base 1 "text" e sp := fun e sp h => by
  obtain ⟨rfl, i, hi⟩ := SK.inv h
  have hm := List.mem_of_getElem? hi
  exact ⟨(T.ok _ hm).cls, f, fd, _, M _ hm, G d e, b⟩
end
end D1
end
section
set_option Elab.async false
set_option linter.all false
set_option maxRecDepth 100000
set_option maxHeartbeats 4000000
/-! R5: how kinds are made -/
namespace D1
open PySem L2 Evl RZ ClX PySem.VX
def spKind (K : PySem.W.Frag) : Sp := fun vs H Q _ => ∃ (a C dx : Addr) (fs : List (Str × V)) (t z n : V), vs = [.ref a, t, z, n] ∧ H a = some (.ins C dx fs) ∧ OkC K C ∧ fs.length < 100 ∧ ∀ H', Only a H H' → H' a = some (.ins C dx (putF "_one" n (putF "_zero" z (putF "_text" t fs)))) → Q .non H'
def fsCounted (t z n o : V) (fs : List (Str × V)) : List (Str × V) := putF "_others" o (putF "_one" n (putF "_zero" z (putF "_text" t fs)))
def spCounted (K : PySem.W.Frag) : Sp := fun vs H Q _ => ∃ (a C dx : Addr) (fs : List (Str × V)) (t z n o : V), vs = [.ref a, t, z, n, o] ∧ H a = some (.ins C dx fs) ∧ OkC K C ∧ fs.length < 50 ∧ ∀ H', Only a H H' → H' a = some (.ins C dx (fsCounted t z n o fs)) → Q .non H'
/-- a new kind: only itself changes, and it lies as it ought -/
def spMk (C : KC) (k : RK) (args : List V) : Sp := fun vs H Q _ => ∃ (a dx : Addr), vs = .ref a :: args ∧ H a = some (.ins (C.cls k) dx []) ∧ ∀ H', Only a H H' → KindAt C H' k (.ref a) → Q .non H'
def spMkLot (C : KC) : Sp := fun vs H Q _ => ∃ (n : Nat) (a dx : Addr), vs = [.ref a, .int n] ∧ 1 ≤ n ∧ n ≤ 12 ∧ H a = some (.ins C.lo dx []) ∧ ∀ H', Only a H H' → KindAt C H' (.lot n) (.ref a) → Q .non H'
def spMkBound (C : KC) : Sp := fun vs H Q _ => ∃ (k : RK) (z : Str) (i : Int) (a dx : Addr), vs = [.ref a, .str z, .int i] ∧ ((k = .least ∧ z = "least" ∧ i = 1) ∨ (k = .most ∧ z = "most" ∧ i = -1)) ∧ H a = some (.ins C.bo dx []) ∧ ∀ H', Only a H H' → KindAt C H' k (.ref a) → Q .non H'
def spMkPair (C : KC) : Sp := fun vs H Q _ => ∃ (k l : RK) (x y : V) (a dx : Addr), vs = [.ref a, x, y] ∧ KindAt C H k x ∧ KindAt C H l y ∧ k.depth < 4 ∧ l.depth < 4 ∧ H a = some (.ins C.pa dx []) ∧ ∀ H', Only a H H' → KindAt C H' (.pair k l) (.ref a) → Q .non H'
theorem no_fs {fs : List (Str × V)} (hb : (fs.map (·.1)).all (fun x => fields.contains x) = true) : ∀ f, f ∉ fields → fs.lookup f = none := by
  have h : ∀ p ∈ fs, p.1 ∈ fields := fun p hp => List.contains_iff_mem.mp (List.all_eq_true.mp hb _ (List.mem_map.mpr ⟨p, hp, rfl⟩))
  clear hb
  intro f hf
  induction fs with
  | nil => rfl
  | cons p r ih =>
    obtain ⟨g, x⟩ := p
    have hg := h (g, x) List.mem_cons_self
    have hb : (f == g) = false := beq_eq_false_iff_ne.mpr fun z => hf (z ▸ hg)
    simp only [List.lookup, hb]
    exact ih fun p hp => h p (List.mem_cons_of_mem _ hp)
theorem Only.kp {a : Addr} {H H' : Hp} (h : Only a H H') {v : V} {d : PyData} (hv : DtAt H v d) (ha : ∃ C dx fs, H a = some (.ins C dx fs)) : DtAt H' v d := by
  obtain ⟨C, dx, fs, ha⟩ := ha
  have main : (∀ d : PyData, ∀ v, DtAt H v d → DtAt H' v d) := by
    intro d v hv
    exact DtAt.rec (motive_1 := fun v d _ => DtAt H' v d) (motive_2 := fun us ds _ => DtAll H' us ds) .non (fun b => .bl b) (fun i => .int i) (fun z => .str z) (fun {b us ds} hb _ r => .tup (h b _ (fun z => by rw [z, ha] at hb; cases hb) hb) r) .nil (fun _ _ h r => .cons h r) hv
  exact main d v hv
theorem Com.only {a Cc dx : Addr} {fs0 : List (Str × V)} {H H' : Hp} {k : RK} {fs : List (Str × V)} (h : Com H k fs) (o : Only a H H') (ha : H a = some (.ins Cc dx fs0)) : Com H' k fs := by
  obtain ⟨h1, ⟨z, h2, h3⟩, ⟨y, h4, h5⟩, h6⟩ := h
  exact ⟨h1, ⟨z, h2, o.kp h3 ⟨_, _, _, ha⟩⟩, ⟨y, h4, o.kp h5 ⟨_, _, _, ha⟩⟩, h6⟩
theorem Com.off {a b Cc dx Cb db : Addr} {fs0 fs : List (Str × V)} {H : Hp} {k : RK} (h : Com H k fs) (hb : H b = some (.ins Cb db fs)) (ha : H a = some (.ins Cc dx fs0)) (hn : fs0.lookup ("_text" : Str) = none) : b ≠ a := fun z => by
  obtain ⟨t, h1, _⟩ := h.text
  rw [z, ha] at hb
  have e : fs0 = fs := by injection (Option.some.inj hb)
  rw [← e, hn] at h1
  cases h1
theorem Own.only {a Cc dx : Addr} {fs0 fs : List (Str × V)} {H H' : Hp} (o : Only a H H') (ha : H a = some (.ins Cc dx fs0)) : ∀ {k : RK}, Own H fs k → Own H' fs k := by
  have f : ∀ {p : Addr} {us : List V}, H p = some (.tup us) → H' p = some (.tup us) := fun {p us} hp => o _ _ (fun z => by rw [z, ha] at hp; cases hp) hp
  intro k h
  cases k with
  | count => obtain ⟨p, x, y⟩ := h; exact ⟨p, x, f y⟩
  | narrow => obtain ⟨p, x, y⟩ := h; exact ⟨p, x, f y⟩
  | least => obtain ⟨⟨p, x, y⟩, z⟩ := h; exact ⟨⟨p, x, f y⟩, z⟩
  | most => obtain ⟨⟨p, x, y⟩, z⟩ := h; exact ⟨⟨p, x, f y⟩, z⟩
  | lot _ => exact h
  | rest _ => obtain ⟨⟨p, x, y⟩, z⟩ := h; exact ⟨⟨p, x, f y⟩, z⟩
  | terms _ => exact h
  | tab S M => obtain ⟨⟨p, x, y⟩, z, ⟨u, u1, u2⟩, ⟨v, v1, v2⟩⟩ := h; exact ⟨⟨p, x, f y⟩, z, ⟨u, u1, o.kp u2 ⟨_, _, _, ha⟩⟩, ⟨v, v1, o.kp v2 ⟨_, _, _, ha⟩⟩⟩
  | _ => exact True.intro
theorem KindAt.only {C : KC} {a Cc dx : Addr} {fs0 : List (Str × V)} {H H' : Hp} {k : RK} {v : V} (h : KindAt C H k v) (o : Only a H H') (ha : H a = some (.ins Cc dx fs0)) (hn : fs0.lookup ("_text" : Str) = none) : KindAt C H' k v := by
  induction k generalizing v with
  | pair k l ik il =>
    obtain ⟨b, db, fs, u, w, h1, h2, h3, h4, h5, h6, h7⟩ := h
    exact ⟨b, db, fs, u, w, h1, o _ _ (h3.off h2 ha hn) h2, h3.only o ha, h4, h5, ik h6, il h7⟩
  | _ =>
    obtain ⟨b, db, fs, h1, h2, h3, h4⟩ := h
    exact ⟨b, db, fs, h1, o _ _ (h3.off h2 ha hn) h2, h3.only o ha, Own.only o ha h4⟩
theorem lot_len : ∀ k : Fin 13, ((toString ((k.val : Nat) : Int) : String) : Str).length ≤ 40 := by decide +kernel
theorem str_len (a b : Str) : (a ++ b).length = a.length + b.length := by
  show (a ++ b).cps.size = a.cps.size + b.cps.size
  show (a.cps ++ b.cps).size = _
  exact Array.size_append
section
variable {P : Program} {w : World} {K : PySem.W.Frag} {mg : Str → Option Value} {base : Heap}
abbrev s_Kind_init : Stmt := meth 23 0
theorem sc_Kind_init : FnScope ["self", "text", "zero", "one"] ["self", "text", "zero", "one"] (defScope s_Kind_init) := ⟨rfl, rfl, rfl, by decide +kernel, rfl, by decide +kernel, by decide +kernel⟩
theorem ok_Kind_init {f : Addr} {fd : FuncData} (F : FnM K "Kind" "__init__" s_Kind_init f fd) : FnOk P w K mg base (CX0) 1 f fd ["self", "text", "zero", "one"] (spKind K) := by
  refine F.ok (CX := CX0) sc_Kind_init (fun vs H Q E h => ?_) (fun cdv A outer s H vs Q E hr h => ?_)
  · obtain ⟨a, C, dx, fs, t, z, n, rfl, _⟩ := h
    rfl
  · obtain ⟨a, C, dx, fs, t, z, n, rfl, ha, ok, hl, q⟩ := h
    have hu := hu_of hr
    have hu64 := hr.units
    refine ⟨_, PSs.nox (pss_cons (ps_fld (pv 0) (pv 1) rfl)
      (pss_cons (ps_fld (pv 0) (pv 2) rfl)
      (pss_one (ps_fld (pv 0) (pv 3) rfl)))), ?_⟩
    have l1 := put_len "_text" t fs
    have l2 := put_len "_zero" z (putF "_text" t fs)
    refine ⟨_, rfl, _, rfl, a, C, dx, fs, rfl, ha, ok.cls, ok.no _ (by decide), by omega, ?_⟩
    refine ⟨_, rfl, _, rfl, a, C, dx, _, rfl, upd_same, ok.cls, ok.no _ (by decide), by omega, ?_⟩
    refine ⟨_, rfl, _, rfl, a, C, dx, _, rfl, upd_same, ok.cls, ok.no _ (by decide), by omega, ?_⟩
    exact q _ (((Only.refl.upd).upd).upd) upd_same
abbrev s_Counted_init : Stmt := meth 24 0
theorem sc_Counted_init : FnScope ["self", "text", "zero", "one", "others"] ["self", "text", "zero", "one", "others"] (defScope s_Counted_init) := ⟨rfl, rfl, rfl, by decide +kernel, rfl, by decide +kernel, by decide +kernel⟩
theorem ok_Counted_init {f : Addr} {fd : FuncData} (F : FnM K "Counted" "__init__" s_Counted_init f fd) {f_Kind_init : Addr} {fd_Kind_init : FuncData} (F_Kind_init : FnM K "Kind" "__init__" s_Kind_init f_Kind_init fd_Kind_init) (G_Kind_init : FnOk P w K mg base CX0 1 f_Kind_init fd_Kind_init ["self", "text", "zero", "one"] (spKind K)) (B_Kind : BaseI K mg "Kind" f_Kind_init) : FnOk P w K mg base (CX0) 2 f fd ["self", "text", "zero", "one", "others"] (spCounted K) := by
  obtain ⟨C_Kind, mc_Kind, g_Kind, r_Kind, c_Kind⟩ := B_Kind.ex
  have b_Kind_init : Binds K fd_Kind_init ["self", "text", "zero", "one"] [] := F_Kind_init.bindsN fun _ _ _ _ _ _ us hl => match us, hl with | [_, _, _, _], _ => rfl
  refine F.ok (CX := CX0) sc_Counted_init (fun vs H Q E h => ?_) (fun cdv A outer s H vs Q E hr h => ?_)
  · obtain ⟨a, C, dx, fs, t, z, n, o, rfl, _⟩ := h
    rfl
  · obtain ⟨a, C, dx, fs, t, z, n, o, rfl, ha, ok, hl, q⟩ := h
    have hu := hu_of hr
    have hu64 := hr.units
    have hr_Kind_init := hr.mono (by decide : 1 ≤ 1)
    refine ⟨_, PSs.nox (pss_cons (ps_expr (pe_cfn (C := C_Kind) (mc := mc_Kind) (pe_glob (v := .ref C_Kind) rfl g_Kind rfl) r_Kind c_Kind G_Kind_init hr_Kind_init F_Kind_init.kp b_Kind_init .nil pass0 (pa_cons (pv 0) (pa_cons (pv 1) (pa_cons (pv 2) (pa_cons (pv 3) pa_nil))))))
      (pss_one (ps_fld (pv 0) (pv 4) rfl))), ?_⟩
    have l1 := put_len "_text" t fs
    have l2 := put_len "_zero" z (putF "_text" t fs)
    have l3 := put_len "_one" n (putF "_zero" z (putF "_text" t fs))
    refine ⟨rfl, _, rfl, _, rfl, _, rfl, _, rfl, a, C, dx, fs, t, z, n, rfl, ha, ok, by omega, fun H1 o1 h1 => ?_⟩
    refine ⟨_, rfl, _, rfl, a, C, dx, _, rfl, h1, ok.cls, ok.no _ (by decide), by omega, ?_⟩
    exact q _ o1.upd upd_same
abbrev s_Count_init : Stmt := meth 27 0
theorem sc_Count_init : FnScope ["self"] ["self"] (defScope s_Count_init) := ⟨rfl, rfl, rfl, by decide +kernel, rfl, by decide +kernel, by decide +kernel⟩
theorem ok_Count_init {f : Addr} {fd : FuncData} (F : FnM K "Count" "__init__" s_Count_init f fd) {f_Counted_init : Addr} {fd_Counted_init : FuncData} (F_Counted_init : FnM K "Counted" "__init__" s_Counted_init f_Counted_init fd_Counted_init) (G_Counted_init : FnOk P w K mg base CX0 2 f_Counted_init fd_Counted_init ["self", "text", "zero", "one", "others"] (spCounted K)) (B_Endless : BaseI K mg "Endless" f_Counted_init) {C : KC} (T : ClsK K C) : FnOk P w K mg base (CX0) 3 f fd ["self"] (spMk C .count []) := by
  obtain ⟨C_Endless, mc_Endless, g_Endless, r_Endless, c_Endless⟩ := B_Endless.ex
  have b_Counted_init : Binds K fd_Counted_init ["self", "text", "zero", "one", "others"] [] := F_Counted_init.bindsN fun _ _ _ _ _ _ us hl => match us, hl with | [_, _, _, _, _], _ => rfl
  refine F.ok (CX := CX0) sc_Count_init (fun vs H Q E h => ?_) (fun cdv A outer s H vs Q E hr h => ?_)
  · obtain ⟨a, dx, rfl, _⟩ := h
    rfl
  · obtain ⟨a, dx, rfl, ha, q⟩ := h
    have hu := hu_of hr
    have hu64 := hr.units
    have hr_Counted_init := hr.mono (by decide : 2 ≤ 2)
    refine ⟨_, PSs.nox (pss_one (ps_expr (pe_cfn (C := C_Endless) (mc := mc_Endless) (pe_glob (v := .ref C_Endless) rfl g_Endless rfl) r_Endless c_Endless G_Counted_init hr_Counted_init F_Counted_init.kp b_Counted_init .nil pass0 (pa_cons (pv 0) (pa_cons pe_str (pa_cons pe_int (pa_cons pe_int (pa_cons (pe_tup (pa_cons pe_str pa_nil)) pa_nil)))))))), ?_⟩
    have ok := T.cls (k := .count) rfl
    refine ⟨rfl, _, rfl, by show 1 ≤ sizeLine; decide, fun p hp => ?_⟩
    have e1 := Ex.new (o := .tup [.str "endless"]) hp
    have hpa : a ≠ p := ne_of_none ha hp
    refine ⟨a, _, dx, [], .str "count", .int 0, .int 1, .ref p, rfl, e1 _ _ ha, ok, by decide, fun H1 o1 h1 => ?_⟩
    have o2 : Only a H H1 := Only.trans (fun b o _ e => e1 b o e) o1
    refine q H1 o2 ⟨a, dx, _, rfl, h1, ⟨⟨_, rfl, by decide⟩, ⟨_, rfl, .int 0⟩, ⟨_, rfl, .int 1⟩, no_fs (by rfl)⟩, ⟨p, rfl, o1 _ _ (Ne.symm hpa) upd_same⟩⟩
abbrev s_Narrow_init : Stmt := meth 29 0
theorem sc_Narrow_init : FnScope ["self"] ["self"] (defScope s_Narrow_init) := ⟨rfl, rfl, rfl, by decide +kernel, rfl, by decide +kernel, by decide +kernel⟩
theorem ok_Narrow_init {f : Addr} {fd : FuncData} (F : FnM K "Narrow" "__init__" s_Narrow_init f fd) {f_Counted_init : Addr} {fd_Counted_init : FuncData} (F_Counted_init : FnM K "Counted" "__init__" s_Counted_init f_Counted_init fd_Counted_init) (G_Counted_init : FnOk P w K mg base CX0 2 f_Counted_init fd_Counted_init ["self", "text", "zero", "one", "others"] (spCounted K)) (B_Endless : BaseI K mg "Endless" f_Counted_init) {C : KC} (T : ClsK K C) : FnOk P w K mg base (CX0) 3 f fd ["self"] (spMk C .narrow []) := by
  obtain ⟨C_Endless, mc_Endless, g_Endless, r_Endless, c_Endless⟩ := B_Endless.ex
  have b_Counted_init : Binds K fd_Counted_init ["self", "text", "zero", "one", "others"] [] := F_Counted_init.bindsN fun _ _ _ _ _ _ us hl => match us, hl with | [_, _, _, _, _], _ => rfl
  refine F.ok (CX := CX0) sc_Narrow_init (fun vs H Q E h => ?_) (fun cdv A outer s H vs Q E hr h => ?_)
  · obtain ⟨a, dx, rfl, _⟩ := h
    rfl
  · obtain ⟨a, dx, rfl, ha, q⟩ := h
    have hu := hu_of hr
    have hu64 := hr.units
    have hr_Counted_init := hr.mono (by decide : 2 ≤ 2)
    refine ⟨_, PSs.nox (pss_one (ps_expr (pe_cfn (C := C_Endless) (mc := mc_Endless) (pe_glob (v := .ref C_Endless) rfl g_Endless rfl) r_Endless c_Endless G_Counted_init hr_Counted_init F_Counted_init.kp b_Counted_init .nil pass0 (pa_cons (pv 0) (pa_cons pe_str (pa_cons pe_int (pa_cons pe_str (pa_cons (pe_tup (pa_cons pe_str pa_nil)) pa_nil)))))))), ?_⟩
    have ok := T.cls (k := .narrow) rfl
    refine ⟨rfl, _, rfl, by show 1 ≤ sizeLine; decide, fun p hp => ?_⟩
    have e1 := Ex.new (o := .tup [.str "endless"]) hp
    have hpa : a ≠ p := ne_of_none ha hp
    refine ⟨a, _, dx, [], .str "narrow", .int 0, .str "endless", .ref p, rfl, e1 _ _ ha, ok, by decide, fun H1 o1 h1 => ?_⟩
    have o2 : Only a H H1 := Only.trans (fun b o _ e => e1 b o e) o1
    refine q H1 o2 ⟨a, dx, _, rfl, h1, ⟨⟨_, rfl, by decide⟩, ⟨_, rfl, .int 0⟩, ⟨_, rfl, .str _⟩, no_fs (by rfl)⟩, ⟨p, rfl, o1 _ _ (Ne.symm hpa) upd_same⟩⟩
abbrev s_Bounded_init : Stmt := meth 28 0
theorem sc_Bounded_init : FnScope ["self", "text", "sign"] ["self", "text", "sign"] (defScope s_Bounded_init) := ⟨rfl, rfl, rfl, by decide +kernel, rfl, by decide +kernel, by decide +kernel⟩
theorem ok_Bounded_init {f : Addr} {fd : FuncData} (F : FnM K "Bounded" "__init__" s_Bounded_init f fd) {f_Counted_init : Addr} {fd_Counted_init : FuncData} (F_Counted_init : FnM K "Counted" "__init__" s_Counted_init f_Counted_init fd_Counted_init) (G_Counted_init : FnOk P w K mg base CX0 2 f_Counted_init fd_Counted_init ["self", "text", "zero", "one", "others"] (spCounted K)) (B_Endless : BaseI K mg "Endless" f_Counted_init) {C : KC} (T : ClsK K C) : FnOk P w K mg base (CX0) 3 f fd ["self", "text", "sign"] (spMkBound C) := by
  obtain ⟨C_Endless, mc_Endless, g_Endless, r_Endless, c_Endless⟩ := B_Endless.ex
  have b_Counted_init : Binds K fd_Counted_init ["self", "text", "zero", "one", "others"] [] := F_Counted_init.bindsN fun _ _ _ _ _ _ us hl => match us, hl with | [_, _, _, _, _], _ => rfl
  refine F.ok (CX := CX0) sc_Bounded_init (fun vs H Q E h => ?_) (fun cdv A outer s H vs Q E hr h => ?_)
  · obtain ⟨k, z, i, a, dx, rfl, _⟩ := h
    rfl
  · obtain ⟨k, z, i, a, dx, rfl, hk, ha, q⟩ := h
    have hu := hu_of hr
    have hu64 := hr.units
    have hr_Counted_init := hr.mono (by decide : 2 ≤ 2)
    refine ⟨_, PSs.nox (pss_cons (ps_expr (pe_cfn (C := C_Endless) (mc := mc_Endless) (pe_glob (v := .ref C_Endless) rfl g_Endless rfl) r_Endless c_Endless G_Counted_init hr_Counted_init F_Counted_init.kp b_Counted_init .nil pass0 (pa_cons (pv 0) (pa_cons (pv 1) (pa_cons pe_str (pa_cons pe_int (pa_cons (pe_tup (pa_cons pe_str (pa_cons pe_str pa_nil))) pa_nil)))))))
      (pss_one (ps_fld (pv 0) (pv 2) rfl))), ?_⟩
    have ok := T.cls (k := .least) rfl
    refine ⟨rfl, _, rfl, _, rfl, by show 2 ≤ sizeLine; decide, fun p hp => ?_⟩
    have e1 := Ex.new (o := .tup [.str "none", .str "endless"]) hp
    have hpa : a ≠ p := ne_of_none ha hp
    refine ⟨a, _, dx, [], .str z, .str "none", .int 0, .ref p, rfl, e1 _ _ ha, ok, by decide, fun H1 o1 h1 => ?_⟩
    have o2 : Only a H H1 := Only.trans (fun b o _ e => e1 b o e) o1
    refine ⟨_, rfl, _, rfl, a, _, dx, _, rfl, h1, ok.cls, ok.no _ (by decide), by (show 4 < 1000; decide), ?_⟩
    have hp1 := o1 _ _ (Ne.symm hpa) upd_same
    have hp2 : (upd H1 a (.ins C.bo dx (putF "_sign" (.int i) (fsCounted (.str z) (.str "none") (.int 0) (.ref p) [])))) p = some (.tup [.str "none", .str "endless"]) := by rw [upd_ne (Ne.symm hpa)]; exact hp1
    rcases hk with ⟨rfl, rfl, rfl⟩ | ⟨rfl, rfl, rfl⟩
    · exact q _ o2.upd ⟨a, dx, _, rfl, upd_same, ⟨⟨_, rfl, by decide⟩, ⟨_, rfl, .str _⟩, ⟨_, rfl, .int 0⟩, no_fs (by rfl)⟩, ⟨p, rfl, hp2⟩, rfl⟩
    · exact q _ o2.upd ⟨a, dx, _, rfl, upd_same, ⟨⟨_, rfl, by decide⟩, ⟨_, rfl, .str _⟩, ⟨_, rfl, .int 0⟩, no_fs (by rfl)⟩, ⟨p, rfl, hp2⟩, rfl⟩
abbrev s_Truth_init : Stmt := meth 41 0
theorem sc_Truth_init : FnScope ["self"] ["self"] (defScope s_Truth_init) := ⟨rfl, rfl, rfl, by decide +kernel, rfl, by decide +kernel, by decide +kernel⟩
theorem ok_Truth_init {f : Addr} {fd : FuncData} (F : FnM K "Truth" "__init__" s_Truth_init f fd) {f_Kind_init : Addr} {fd_Kind_init : FuncData} (F_Kind_init : FnM K "Kind" "__init__" s_Kind_init f_Kind_init fd_Kind_init) (G_Kind_init : FnOk P w K mg base CX0 1 f_Kind_init fd_Kind_init ["self", "text", "zero", "one"] (spKind K)) (B_Topped : BaseI K mg "Topped" f_Kind_init) {C : KC} (T : ClsK K C) : FnOk P w K mg base (CX0) 2 f fd ["self"] (spMk C .truth []) := by
  obtain ⟨C_Topped, mc_Topped, g_Topped, r_Topped, c_Topped⟩ := B_Topped.ex
  have b_Kind_init : Binds K fd_Kind_init ["self", "text", "zero", "one"] [] := F_Kind_init.bindsN fun _ _ _ _ _ _ us hl => match us, hl with | [_, _, _, _], _ => rfl
  refine F.ok (CX := CX0) sc_Truth_init (fun vs H Q E h => ?_) (fun cdv A outer s H vs Q E hr h => ?_)
  · obtain ⟨a, dx, rfl, _⟩ := h
    rfl
  · obtain ⟨a, dx, rfl, ha, q⟩ := h
    have hu := hu_of hr
    have hu64 := hr.units
    have hr_Kind_init := hr.mono (by decide : 1 ≤ 1)
    refine ⟨_, PSs.nox (pss_one (ps_expr (pe_cfn (C := C_Topped) (mc := mc_Topped) (pe_glob (v := .ref C_Topped) rfl g_Topped rfl) r_Topped c_Topped G_Kind_init hr_Kind_init F_Kind_init.kp b_Kind_init .nil pass0 (pa_cons (pv 0) (pa_cons pe_str (pa_cons pe_bl (pa_cons pe_bl pa_nil))))))), ?_⟩
    have ok := T.cls (k := .truth) rfl
    refine ⟨rfl, _, rfl, a, _, dx, [], .str "truth", .bl false, .bl true, rfl, ha, ok, by decide, fun H1 o1 h1 => ?_⟩
    exact q H1 o1 ⟨a, dx, _, rfl, h1, ⟨⟨_, rfl, by decide⟩, ⟨_, rfl, .bl _⟩, ⟨_, rfl, .bl _⟩, no_fs (by rfl)⟩, True.intro⟩
abbrev s_Share_init : Stmt := meth 42 0
theorem sc_Share_init : FnScope ["self"] ["self"] (defScope s_Share_init) := ⟨rfl, rfl, rfl, by decide +kernel, rfl, by decide +kernel, by decide +kernel⟩
theorem ok_Share_init {f : Addr} {fd : FuncData} (F : FnM K "Share" "__init__" s_Share_init f fd) {f_Kind_init : Addr} {fd_Kind_init : FuncData} (F_Kind_init : FnM K "Kind" "__init__" s_Kind_init f_Kind_init fd_Kind_init) (G_Kind_init : FnOk P w K mg base CX0 1 f_Kind_init fd_Kind_init ["self", "text", "zero", "one"] (spKind K)) (B_Topped : BaseI K mg "Topped" f_Kind_init) {C : KC} (T : ClsK K C) : FnOk P w K mg base (CX0) 2 f fd ["self"] (spMk C .share []) := by
  obtain ⟨C_Topped, mc_Topped, g_Topped, r_Topped, c_Topped⟩ := B_Topped.ex
  have b_Kind_init : Binds K fd_Kind_init ["self", "text", "zero", "one"] [] := F_Kind_init.bindsN fun _ _ _ _ _ _ us hl => match us, hl with | [_, _, _, _], _ => rfl
  refine F.ok (CX := CX0) sc_Share_init (fun vs H Q E h => ?_) (fun cdv A outer s H vs Q E hr h => ?_)
  · obtain ⟨a, dx, rfl, _⟩ := h
    rfl
  · obtain ⟨a, dx, rfl, ha, q⟩ := h
    have hu := hu_of hr
    have hu64 := hr.units
    have hr_Kind_init := hr.mono (by decide : 1 ≤ 1)
    refine ⟨_, PSs.nox (pss_one (ps_expr (pe_cfn (C := C_Topped) (mc := mc_Topped) (pe_glob (v := .ref C_Topped) rfl g_Topped rfl) r_Topped c_Topped G_Kind_init hr_Kind_init F_Kind_init.kp b_Kind_init .nil pass0 (pa_cons (pv 0) (pa_cons pe_str (pa_cons (pe_tup (pa_cons pe_int (pa_cons pe_int pa_nil))) (pa_cons (pe_tup (pa_cons pe_int (pa_cons pe_int pa_nil))) pa_nil))))))), ?_⟩
    have ok := T.cls (k := .share) rfl
    refine ⟨rfl, _, rfl, by show 2 ≤ sizeLine; decide, fun p hp => ⟨by show 2 ≤ sizeLine; decide, fun r hr' => ?_⟩⟩
    have e1 := Ex.new (o := .tup [.int 0, .int 1]) hp
    have e2 := Ex.new (o := .tup [.int 1, .int 1]) hr'
    have i1 : upd (upd H p (.tup [.int 0, .int 1])) r (.tup [.int 1, .int 1]) p = some (.tup [.int 0, .int 1]) := e2 _ _ upd_same
    have hpa : p ≠ a := fun z => by rw [z, ha] at hp; cases hp
    have hra : r ≠ a := fun z => by
      have h := e1 _ _ ha
      rw [← z, hr'] at h
      cases h
    refine ⟨a, _, dx, [], .str "share", .ref p, .ref r, rfl, (e1.trans e2) _ _ ha, ok, by decide, fun H1 o1 h1 => ?_⟩
    exact q H1 (Only.trans (fun b o _ e => (e1.trans e2) b o e) o1) ⟨a, dx, _, rfl, h1, ⟨⟨_, rfl, by decide⟩, ⟨_, rfl, .tup (o1 _ _ hpa i1) (.cons (.int _) (.cons (.int _) .nil))⟩, ⟨_, rfl, .tup (o1 _ _ hra upd_same) (.cons (.int _) (.cons (.int _) .nil))⟩, no_fs (by rfl)⟩, True.intro⟩
abbrev s_Lot_init : Stmt := meth 43 0
theorem sc_Lot_init : FnScope ["self", "size"] ["self", "size"] (defScope s_Lot_init) := ⟨rfl, rfl, rfl, by decide +kernel, rfl, by decide +kernel, by decide +kernel⟩
theorem ok_Lot_init {f : Addr} {fd : FuncData} (F : FnM K "Lot" "__init__" s_Lot_init f fd) {f_Kind_init : Addr} {fd_Kind_init : FuncData} (F_Kind_init : FnM K "Kind" "__init__" s_Kind_init f_Kind_init fd_Kind_init) (G_Kind_init : FnOk P w K mg base CX0 1 f_Kind_init fd_Kind_init ["self", "text", "zero", "one"] (spKind K)) (B_Topped : BaseI K mg "Topped" f_Kind_init) {C : KC} (T : ClsK K C) : FnOk P w K mg base (CX0) 2 f fd ["self", "size"] (spMkLot C) := by
  obtain ⟨C_Topped, mc_Topped, g_Topped, r_Topped, c_Topped⟩ := B_Topped.ex
  have b_Kind_init : Binds K fd_Kind_init ["self", "text", "zero", "one"] [] := F_Kind_init.bindsN fun _ _ _ _ _ _ us hl => match us, hl with | [_, _, _, _], _ => rfl
  refine F.ok (CX := CX0) sc_Lot_init (fun vs H Q E h => ?_) (fun cdv A outer s H vs Q E hr h => ?_)
  · obtain ⟨n, a, dx, rfl, _⟩ := h
    rfl
  · obtain ⟨n, a, dx, rfl, n1, n2, ha, q⟩ := h
    have hu := hu_of hr
    have hu64 := hr.units
    have hr_Kind_init := hr.mono (by decide : 1 ≤ 1)
    refine ⟨_, PSs.nox (pss_cons (ps_expr (pe_cfn (C := C_Topped) (mc := mc_Topped) (pe_glob (v := .ref C_Topped) rfl g_Topped rfl) r_Topped c_Topped G_Kind_init hr_Kind_init F_Kind_init.kp b_Kind_init .nil pass0 (pa_cons (pv 0) (pa_cons (pe_joined (PJ.cons pe_str (PJ.cons (pe_fmt (pv 1)) PJ.nil))) (pa_cons pe_int (pa_cons (pe_op op_sub (pe_op op_shl pe_int (pv 1)) pe_int) pa_nil))))))
      (pss_one (ps_fld (pv 0) (pv 1) rfl))), ?_⟩
    have ok := T.cls (k := .lot n) rfl
    have big : (300000 : Nat) ≤ sizeLine := by decide
    have hl : ((toString ((n : Nat) : Int) : String) : Str).length ≤ 40 := lot_len ⟨n, by omega⟩
    have h0 : (Str.empty ++ ("lot " : Str)).length = 4 := by decide
    have hs : (n : Int).natAbs.log2 < 1920 := by
      have h : ∀ k : Fin 13, Nat.log2 k.val < 1920 := by decide
      rw [Int.natAbs_natCast]
      exact h ⟨n, by omega⟩
    refine ⟨rfl, _, rfl, _, rfl, by rw [h0]; omega, _, rfl, .inr ⟨_, rfl, hs, _, rfl, by rw [str_len, h0]; omega, _, rfl, 1, _, rfl, rfl, ⟨by omega, by omega, by first | decide | omega⟩, _, _, rfl, rfl, ?_⟩⟩
    have tl : ((Str.empty ++ ("lot " : Str)) ++ ((toString ((n : Nat) : Int) : String) : Str)).length + 6 ≤ 500 * 2 ^ (RK.lot n).depth := by
      rw [str_len, h0]
      show _ ≤ 500 * 2 ^ 0
      omega
    generalize (Str.empty ++ ("lot " : Str)) ++ ((toString ((n : Nat) : Int) : String) : Str) = z at tl ⊢
    have hone : (1 : Int) * 2 ^ (n : Int).toNat - 1 = 2 ^ n - 1 := by rw [Int.one_mul, Int.toNat_natCast]
    refine ⟨a, _, dx, [], .str z, .int 0, .int ((1 : Int) * 2 ^ (n : Int).toNat - 1), rfl, ha, ok, by decide, fun H1 o1 h1 => ?_⟩
    refine ⟨_, rfl, _, rfl, a, _, dx, _, rfl, h1, ok.cls, ok.no _ (by decide), by (show 3 < 1000; decide), ?_⟩
    exact q _ o1.upd ⟨a, dx, _, rfl, upd_same, ⟨⟨_, rfl, tl⟩, ⟨_, rfl, .int _⟩, ⟨_, rfl, by rw [hone]; exact .int _⟩, no_fs (by rfl)⟩, rfl⟩
abbrev s_Pair_init : Stmt := meth 35 0
theorem sc_Pair_init : FnScope ["self", "left", "right", "text"] ["self", "left", "right"] (defScope s_Pair_init) := ⟨rfl, rfl, rfl, by decide +kernel, rfl, by decide +kernel, by decide +kernel⟩
theorem ok_Pair_init {f : Addr} {fd : FuncData} (F : FnM K "Pair" "__init__" s_Pair_init f fd) {f_Kind_init : Addr} {fd_Kind_init : FuncData} (F_Kind_init : FnM K "Kind" "__init__" s_Kind_init f_Kind_init fd_Kind_init) (G_Kind_init : FnOk P w K mg base CX0 1 f_Kind_init fd_Kind_init ["self", "text", "zero", "one"] (spKind K)) (B_Kind : BaseI K mg "Kind" f_Kind_init) {C : KC} (T : ClsK K C) (A_text : ∀ e sp, SK C (spText C 4) e = some sp → HeldM P w K mg base 1 "text" e sp) (A_zero : ∀ e sp, SK C (spZero C 4) e = some sp → HeldM P w K mg base 1 "zero" e sp) (A_one : ∀ e sp, SK C (spOne C 4) e = some sp → HeldM P w K mg base 1 "one" e sp) : FnOk P w K mg base (CX0) 2 f fd ["self", "left", "right"] (spMkPair C) := by
  obtain ⟨C_Kind, mc_Kind, g_Kind, r_Kind, c_Kind⟩ := B_Kind.ex
  have b_Kind_init : Binds K fd_Kind_init ["self", "text", "zero", "one"] [] := F_Kind_init.bindsN fun _ _ _ _ _ _ us hl => match us, hl with | [_, _, _, _], _ => rfl
  refine F.ok (CX := CX0) sc_Pair_init (fun vs H Q E h => ?_) (fun cdv A outer s H vs Q E hr h => ?_)
  · obtain ⟨k, l, x, y, a, dx, rfl, _⟩ := h
    rfl
  · obtain ⟨k, l, x, y, a, dx, rfl, hk, hl, dk, dl, ha, q⟩ := h
    have hu := hu_of hr
    have hu64 := hr.units
    have hr_Kind_init := hr.mono (by decide : 1 ≤ 1)
    have hr_in := hr.mono (by decide : 1 ≤ 1)
    refine ⟨_, PSs.nox (pss_cons (ps_set (i := 3) sc_Pair_init.nd rfl (Or.inl rfl) (pe_joined (PJ.cons pe_str (PJ.cons (pe_fmt (pe_methA0 (S := SK C (spText C 4)) A_text (pv 1) hr_in)) (PJ.cons pe_str (PJ.cons (pe_fmt (pe_methA0 (S := SK C (spText C 4)) A_text (pv 2) hr_in)) PJ.nil))))))
      (pss_cons (ps_expr (pe_cfn (C := C_Kind) (mc := mc_Kind) (pe_glob (v := .ref C_Kind) rfl g_Kind rfl) r_Kind c_Kind G_Kind_init hr_Kind_init F_Kind_init.kp b_Kind_init .nil pass0 (pa_cons (pv 0) (pa_cons (pv 3) (pa_cons (pe_tup (pa_cons (pe_methA0 (S := SK C (spZero C 4)) A_zero (pv 1) hr_in) (pa_cons (pe_methA0 (S := SK C (spZero C 4)) A_zero (pv 2) hr_in) pa_nil))) (pa_cons (pe_tup (pa_cons (pe_methA0 (S := SK C (spOne C 4)) A_one (pv 1) hr_in) (pa_cons (pe_methA0 (S := SK C (spOne C 4)) A_one (pv 2) hr_in) pa_nil))) pa_nil))))))
      (pss_cons (ps_fld (pv 0) (pv 1) rfl)
      (pss_one (ps_fld (pv 0) (pv 2) rfl))))), ?_⟩
    have ok := T.cls (k := .pair k l) rfl
    obtain ⟨la, ld, lf, rfl, l1, l2⟩ := id hk.com
    obtain ⟨ra, rd, rf, rfl, r1, r2⟩ := id hl.com
    have big : (300000 : Nat) ≤ sizeLine := by decide
    have h5 : ("pair " : Str).length = 5 := by decide
    have h1 : (" " : Str).length = 1 := by decide
    have h0 : (Str.empty ++ ("pair " : Str)).length = 5 := by decide
    have pk : 2 ^ k.depth ≤ 2 ^ max k.depth l.depth := Nat.pow_le_pow_right (by decide) (Nat.le_max_left _ _)
    have pl : 2 ^ l.depth ≤ 2 ^ max k.depth l.depth := Nat.pow_le_pow_right (by decide) (Nat.le_max_right _ _)
    have pm : 2 ^ max k.depth l.depth ≤ 2 ^ 3 := Nat.pow_le_pow_right (by decide) (by omega)
    have p1 : 1 ≤ 2 ^ max k.depth l.depth := Nat.one_le_two_pow
    have KA : ∀ {G : Hp}, Ex H G → KindAt C G k (.ref la) ∧ KindAt C G l (.ref ra) ∧ G la = some (.ins (C.cls k) ld lf) ∧ G ra = some (.ins (C.cls l) rd rf) := fun e => ⟨hk.ex e, hl.ex e, e _ _ l1, e _ _ r1⟩
    refine ⟨_, rfl, by rw [h0]; omega, _, rfl, la, _, ld, lf, _, rfl, SK.at k, l1, l2.no _ (by decide), .ref la, k, rfl, hk, rfl, dk, fun lz G1 g1 lt => .inl ⟨lz, rfl, by omega, _, rfl, by rw [str_len, h0]; omega, ?_⟩⟩
    obtain ⟨kk1, kk2, kk3, kk4⟩ := KA g1
    refine ⟨_, rfl, by rw [str_len, str_len, h0, h1]; omega, _, rfl, ra, _, rd, rf, _, rfl, SK.at l, kk4, r2.no _ (by decide), .ref ra, l, rfl, kk2, rfl, dl, fun rz G2 g2 rt => .inl ⟨rz, rfl, by omega, _, rfl, by rw [str_len, str_len, str_len, h0, h1]; omega, ?_⟩⟩
    have tl : (((Str.empty ++ ("pair " : Str)) ++ lz) ++ (" " : Str) ++ rz).length + 6 ≤ 500 * 2 ^ (RK.pair k l).depth := by
      rw [str_len, str_len, str_len, h0, h1]
      show _ ≤ 500 * 2 ^ (max k.depth l.depth + 1)
      rw [Nat.pow_succ]
      omega
    generalize hz : ((Str.empty ++ ("pair " : Str)) ++ lz) ++ (" " : Str) ++ rz = z at tl
    have g12 := g1.trans g2
    obtain ⟨kk1, kk2, kk3, kk4⟩ := KA g12
    refine ⟨rfl, _, rfl, _, rfl, ?_⟩
    refine ⟨_, rfl, la, _, ld, lf, _, rfl, SK.at k, kk3, l2.no _ (by decide), .ref la, k, rfl, kk1, rfl, dk, fun v1 G3 g3 d1 => ?_⟩
    obtain ⟨kk1, kk2, kk3, kk4⟩ := KA (g12.trans g3)
    refine ⟨_, rfl, ra, _, rd, rf, _, rfl, SK.at l, kk4, r2.no _ (by decide), .ref ra, l, rfl, kk2, rfl, dl, fun v2 G4 g4 d2 => ⟨by show 2 ≤ sizeLine; decide, fun T0 hT0 => ?_⟩⟩
    have e0 := Ex.new (o := .tup [v1, v2]) hT0
    have D0 : DtAt (upd G4 T0 (.tup [v1, v2])) (.ref T0) (zeroD (.pair k l)) := .new hT0 (.cons (d1.ex g4) (.cons d2 .nil))
    have e5 := ((g12.trans g3).trans g4).trans e0
    generalize upd G4 T0 (.tup [v1, v2]) = G5 at e0 D0 e5 ⊢
    obtain ⟨kk1, kk2, kk3, kk4⟩ := KA e5
    refine ⟨_, rfl, la, _, ld, lf, _, rfl, SK.at k, kk3, l2.no _ (by decide), .ref la, k, rfl, kk1, rfl, dk, fun v3 G6 g6 d3 => ?_⟩
    obtain ⟨kk1, kk2, kk3, kk4⟩ := KA (e5.trans g6)
    refine ⟨_, rfl, ra, _, rd, rf, _, rfl, SK.at l, kk4, r2.no _ (by decide), .ref ra, l, rfl, kk2, rfl, dl, fun v4 G7 g7 d4 => ⟨by show 2 ≤ sizeLine; decide, fun T1 hT1 => ?_⟩⟩
    have e1 := Ex.new (o := .tup [v3, v4]) hT1
    have DT1 : DtAt (upd G7 T1 (.tup [v3, v4])) (.ref T1) (oneD (.pair k l)) := .new hT1 (.cons (d3.ex g7) (.cons d4 .nil))
    have D0' := D0.ex ((g6.trans g7).trans e1)
    have e8 := ((e5.trans g6).trans g7).trans e1
    generalize upd G7 T1 (.tup [v3, v4]) = G8 at DT1 D0' e8 ⊢
    have ha8 := e8 _ _ ha
    refine ⟨a, _, dx, [], .str z, .ref T0, .ref T1, rfl, ha8, ok, by decide, fun H1 o1 h1 => ?_⟩
    refine ⟨_, rfl, _, rfl, a, _, dx, _, rfl, h1, ok.cls, ok.no _ (by decide), by (show 3 < 1000; decide), ?_⟩
    refine ⟨_, rfl, _, rfl, a, _, dx, _, rfl, upd_same, ok.cls, ok.no _ (by decide), by (show 4 < 1000; decide), ?_⟩
    have o2 := (o1.upd (o := .ins C.pa dx (putF "_left" (.ref la) (putF "_one" (.ref T1) (putF "_zero" (.ref T0) (putF "_text" (.str z) [])))))).upd (o := .ins C.pa dx (putF "_right" (.ref ra) (putF "_left" (.ref la) (putF "_one" (.ref T1) (putF "_zero" (.ref T0) (putF "_text" (.str z) []))))))
    have hal : ∃ Cc dd ff, G8 a = some (.ins Cc dd ff) := ⟨_, _, _, ha8⟩
    refine q _ (Only.trans (fun b o _ e => e8 b o e) o2) ⟨a, dx, _, .ref la, .ref ra, rfl, upd_same, ⟨⟨_, rfl, tl⟩, ⟨_, rfl, o2.kp D0' hal⟩, ⟨_, rfl, o2.kp DT1 hal⟩, no_fs (by rfl)⟩, rfl, rfl, (KA e8).1.only o2 ha8 rfl, (KA e8).2.1.only o2 ha8 rfl⟩
end
end D1
end
section
set_option Elab.async false
set_option linter.all false
set_option maxRecDepth 100000
set_option maxHeartbeats 4000000
/-! R5t: tables' kinds made -/
namespace D1
open PySem L2 Evl RZ ClX PySem.VX
theorem app_len (a b : Str) : (a ++ b).length = a.length + b.length := by
  show (a.cps ++ b.cps).size = a.cps.size + b.cps.size
  rw [Array.size_append]
theorem join_len (y : Str) (n k : Nat) (hy : y.length ≤ k) : ∀ (ps : List Str), (∀ p ∈ ps, p.length ≤ n) → (Str.join y ps).length ≤ ps.length * (n + k)
  | [], _ => Nat.zero_le _
  | [p], h => by
    have := h p List.mem_cons_self
    show p.length ≤ 1 * (n + k)
    omega
  | p :: q :: r, h => by
    have h1 := h p List.mem_cons_self
    have h2 := join_len y n k hy (q :: r) fun z hz => h z (List.mem_cons_of_mem _ hz)
    show ((p ++ y) ++ Str.join y (q :: r)).length ≤ ((q :: r).length + 1) * (n + k)
    rw [app_len, app_len, Nat.succ_mul]
    omega
theorem sum_len (n : Nat) : ∀ (ps : List Str), (∀ p ∈ ps, p.length ≤ n) → (ps.map (·.length)).sum ≤ ps.length * n
  | [], _ => Nat.zero_le _
  | p :: r, h => by
    have h1 := h p List.mem_cons_self
    have h2 := sum_len n r fun z hz => h z (List.mem_cons_of_mem _ hz)
    rw [List.map_cons, List.sum_cons, List.length_cons, Nat.succ_mul]
    omega
theorem dig_len0 : ∀ i : Fin 7, (toString (i.val : Int) : Str).length = 1 := by decide +kernel
theorem dig_len {i : Int} (h0 : 0 ≤ i) (h1 : i < 7) : (toString i : Str).length = 1 := by
  have := dig_len0 ⟨i.toNat, by omega⟩
  have e : ((i.toNat : Nat) : Int) = i := by omega
  simp only [e] at this
  exact this
theorem dig_log {i : Int} (h0 : 0 ≤ i) (h1 : i < 7) : i.natAbs.log2 < 1920 := by
  have : i.natAbs.log2 ≤ i.natAbs := Nat.log2_le_self _
  omega
section
variable {P : Program} {w : World} {K : PySem.W.Frag} {mg : Str → Option Value} {base : Heap}
def spFinite (K : PySem.W.Frag) : Sp := fun vs H Q _ => ∃ (a C dx : Addr) (fs : List (Str × V)) (t s : V), vs = [.ref a, t, s] ∧ H a = some (.ins C dx fs) ∧ OkC K C ∧ fs.length < 40 ∧ ∀ (p : Addr) H', Only a H H' → H p = none → H' p = some (.tup []) → H' a = some (.ins C dx (putF "_size" s (fsCounted t (.int 0) (.int 1) (.ref p) fs))) → Q .non H'
abbrev s_Finite_init : Stmt := meth 31 0
theorem sc_Finite_init : FnScope ["self", "text", "size"] ["self", "text", "size"] (defScope s_Finite_init) := ⟨rfl, rfl, rfl, by decide +kernel, rfl, by decide +kernel, by decide +kernel⟩
theorem ok_Finite_init {f : Addr} {fd : FuncData} (F : FnM K "Finite" "__init__" s_Finite_init f fd) {f_Counted_init : Addr} {fd_Counted_init : FuncData} (F_Counted_init : FnM K "Counted" "__init__" s_Counted_init f_Counted_init fd_Counted_init) (G_Counted_init : FnOk P w K mg base CX0 2 f_Counted_init fd_Counted_init ["self", "text", "zero", "one", "others"] (spCounted K)) (B_Counted : BaseI K mg "Counted" f_Counted_init) : FnOk P w K mg base CX0 3 f fd ["self", "text", "size"] (spFinite K) := by
  obtain ⟨C_Counted, mc_Counted, g_Counted, r_Counted, c_Counted⟩ := B_Counted.ex
  have b_Counted_init : Binds K fd_Counted_init ["self", "text", "zero", "one", "others"] [] := F_Counted_init.bindsN fun _ _ _ _ _ _ us hl => match us, hl with | [_, _, _, _, _], _ => rfl
  refine F.ok sc_Finite_init (fun vs H Q E h => ?_) (fun cdv A outer s H vs Q E hr h => ?_)
  · obtain ⟨a, C, dx, fs, t, s, rfl, _⟩ := h
    rfl
  · obtain ⟨a, C, dx, fs, t, sz, rfl, ha, ok, hl, q⟩ := h
    have hu := hu_of hr
    have hu64 := hr.units
    have hr_Counted_init := hr.mono (by decide : 2 ≤ 2)
    refine ⟨_, PSs.nox (pss_cons (ps_expr (pe_cfn (C := C_Counted) (mc := mc_Counted) (pe_glob (v := .ref C_Counted) rfl g_Counted rfl) r_Counted c_Counted G_Counted_init hr_Counted_init F_Counted_init.kp b_Counted_init .nil pass0 (pa_cons (pv 0) (pa_cons (pv 1) (pa_cons pe_int (pa_cons pe_int (pa_cons (pe_tup pa_nil) pa_nil)))))))
      (pss_one (ps_fld (pv 0) (pv 2) rfl))), ?_⟩
    refine ⟨rfl, _, rfl, _, rfl, Nat.zero_le _, fun p hp => ?_⟩
    have hpa : a ≠ p := ne_of_none ha hp
    have ha1 : (upd H p (.tup [])) a = some (.ins C dx fs) := by rw [upd_ne hpa]; exact ha
    refine ⟨a, C, dx, fs, t, .int 0, .int 1, .ref p, rfl, ha1, ok, by omega, fun H1 o1 h1 => ?_⟩
    have l1 := put_len "_text" t fs
    have l2 := put_len "_zero" (.int 0) (putF "_text" t fs)
    have l3 := put_len "_one" (.int 1) (putF "_zero" (.int 0) (putF "_text" t fs))
    have l4 : (fsCounted t (.int 0) (.int 1) (.ref p) fs).length ≤ _ := put_len "_others" (.ref p) (putF "_one" (.int 1) (putF "_zero" (.int 0) (putF "_text" t fs)))
    refine ⟨_, rfl, _, rfl, a, C, dx, _, rfl, h1, ok.cls, ok.no _ (by decide), by omega, ?_⟩
    refine q p _ ?_ hp ?_ upd_same
    · exact (Only.trans (fun b o _ e => (Ex.new hp) b o e) o1).upd
    · rw [upd_ne (Ne.symm hpa)]
      exact o1 _ _ (Ne.symm hpa) upd_same
/-- what a table's kind has in it -/
structure TabF (H : Hp) (fs : List (Str × V)) (n : Nat) (p q : Addr) : Prop where
  text : ∃ z : Str, fs.lookup ("_text" : Str) = some (.str z) ∧ z.length ≤ 444
  zero : fs.lookup ("_zero" : Str) = some (.int 0)
  one : fs.lookup ("_one" : Str) = some (.int 1)
  oth : ∃ e : Addr, fs.lookup ("_others" : Str) = some (.ref e) ∧ H e = some (.tup [])
  size : fs.lookup ("_size" : Str) = some (.int n)
  sums : fs.lookup ("_sums" : Str) = some (.ref p)
  prods : fs.lookup ("_products" : Str) = some (.ref q)
  no : ∀ f, f ∉ fields → fs.lookup f = none
def spTabI (K : PySem.W.Frag) : Sp := fun vs H Q _ => ∃ (a C dx p q : Addr) (n : Nat) (S M : Tb), vs = [.ref a, .ref p, .ref q] ∧ H a = some (.ins C dx []) ∧ OkC K C ∧ Two n H p q S M ∧ n ≤ 6 ∧ ∀ (fs : List (Str × V)) H', Only a H H' → H' a = some (.ins C dx fs) → TabF H' fs n p q → Q .non H'
abbrev s_Table_init : Stmt := meth 33 0
theorem sc_Table_init : FnScope ["self", "sums", "products", "rows", "row", "number"] ["self", "sums", "products"] (defScope s_Table_init) := ⟨rfl, rfl, rfl, by decide +kernel, rfl, by decide +kernel, by decide +kernel⟩
theorem ok_Table_init {f : Addr} {fd : FuncData} (F : FnM K "Table" "__init__" s_Table_init f fd) {f_Finite_init : Addr} {fd_Finite_init : FuncData} (F_Finite_init : FnM K "Finite" "__init__" s_Finite_init f_Finite_init fd_Finite_init) (G_Finite_init : FnOk P w K mg base CX0 3 f_Finite_init fd_Finite_init ["self", "text", "size"] (spFinite K)) (B_Finite : BaseI K mg "Finite" f_Finite_init) (z_str : mg "str" = none) (z_len : mg "len" = none) : FnOk P w K mg base CX0 4 f fd ["self", "sums", "products"] (spTabI K) := by
  obtain ⟨C_Finite, mc_Finite, g_Finite, r_Finite, c_Finite⟩ := B_Finite.ex
  have b_Finite_init : Binds K fd_Finite_init ["self", "text", "size"] [] := F_Finite_init.bindsN fun _ _ _ _ _ _ us hl => match us, hl with | [_, _, _], _ => rfl
  refine F.ok sc_Table_init (fun vs H Q E h => ?_) (fun cdv A outer s H vs Q E hr h => ?_)
  · obtain ⟨a, C, dx, p, q, n, S, M, rfl, _⟩ := h
    rfl
  · obtain ⟨a, C, dx, p, q', n, S, M, rfl, ha, ok, T, hn, q⟩ := h
    have hu := hu_of hr
    have hu64 := hr.units
    have hr_Finite_init := hr.mono (by decide : 3 ≤ 3)
    refine ⟨_, PSs.nox (pss_cons (ps_setLc2 (i := 3) (own := [("row", 4), ("number", 5)]) (vs1 := [5]) (g := gName 4) (g1 := gName 5) (tt := tYes) (tt1 := tYes) (wi1 := iTup K (tVar 4)) (by rfl) sc_Table_init.nd rfl rfl (sw_true rfl rfl rfl (by decide +kernel)) (pi_list (pe_lst (StX.pa_star (pv 1) (StX.pa_star (pv 2) pa_nil)))) (blkOk_by (own := [("row", 4), ("number", 5)]) (N := ["self", "sums", "products", "rows", "row", "number"]) (sc := defScope s_Table_init) (by decide +kernel)) (by decide) (fun _ _ _ _ _ => pg_name (i := 4) sc_Table_init.nd rfl (Or.inl rfl)) (fun _ _ _ _ _ => pts_nil) (fun _ _ _ _ _ => pi_tup (pv 4)) (fun _ _ _ _ _ => pg_name (i := 5) sc_Table_init.nd rfl (Or.inl rfl)) (fun _ _ _ _ _ => pts_nil) (fun _ _ _ _ _ => pe_callTy call_str_int (by rfl) z_str PyProof.Rows.boot_str (pa_cons (pv 5) pa_nil)))
      (pss_cons (ps_expr (pe_cfn (C := C_Finite) (mc := mc_Finite) (pe_glob (v := .ref C_Finite) rfl g_Finite rfl) r_Finite c_Finite G_Finite_init hr_Finite_init F_Finite_init.kp b_Finite_init .nil pass0 (pa_cons (pv 0) (pa_cons (pe_join pe_str (pe_lst (pa_cons pe_str (pa_cons (pe_callTy call_str_int (by rfl) z_str PyProof.Rows.boot_str (pa_cons (pe_callB call_len_seq (by rfl) z_len PySem.boot_len (pa_cons (pv 1) pa_nil)) pa_nil)) (StX.pa_star (pv 3) pa_nil))))) (pa_cons (pe_callB call_len_seq (by rfl) z_len PySem.boot_len (pa_cons (pv 1) pa_nil)) pa_nil)))))
      (pss_cons (ps_fld (pv 0) (pv 1) rfl)
      (pss_one (ps_fld (pv 0) (pv 2) rfl))))), ?_⟩
    obtain ⟨rsS, hp, hrl, hrr⟩ := id T.s
    obtain ⟨rsM, hq, hql, hqr⟩ := id T.p
    have n2 := T.two
    refine ⟨_, rfl, p, _, rfl, .inl (.inl (.inl hp)), _, rfl, q', _, rfl, .inl (.inl (.inl hq)), ?_⟩
    have rows_ok : ∀ (x : V), x ∈ rsS.map V.ref ++ (rsM.map V.ref ++ []) → ∃ (r : Addr) (row : List Int), x = .ref r ∧ H r = some (.tup (row.map V.int)) ∧ RowN n n row := by
      intro x hx
      have look : ∀ (rs : List Addr) (t : Tb), rs.length = t.length → (∀ (i : Nat) r row, rs[i]? = some r → t[i]? = some row → H r = some (.tup (row.map V.int))) → Sq n t → x ∈ rs.map V.ref → ∃ (r : Addr) (row : List Int), x = .ref r ∧ H r = some (.tup (row.map V.int)) ∧ RowN n n row := fun rs t hl hh s hx => by
        obtain ⟨r, hr, rfl⟩ := List.mem_map.mp hx
        obtain ⟨i, hi, rfl⟩ := List.mem_iff_getElem.mp hr
        have hit : i < t.length := by omega
        exact ⟨rs[i], t[i], rfl, hh i _ _ (List.getElem?_eq_getElem hi) (List.getElem?_eq_getElem hit), s.row _ (List.getElem_mem hit)⟩
      rcases List.mem_append.mp hx with h | h
      · exact look rsS S hrl hrr T.sq h
      · rw [List.append_nil] at h
        exact look rsM M hql hqr T.pq h
    have all_len : (rsS.map V.ref ++ (rsM.map V.ref ++ [])).length = n + n := by
      have h1 := T.sq.len
      have h2 := T.pq.len
      rw [List.append_nil, List.length_append, List.length_map, List.length_map]
      omega
    have nn : (n + n) * n ≤ 72 := by
      have : (n + n) * n ≤ 12 * 6 := Nat.mul_le_mul (by omega) hn
      omega
    refine ⟨?_, fun Lp hLp => ⟨Lp, rfl, ⟨_, SqL.of upd_same⟩, fun D hD => ?_⟩⟩
    · rw [all_len]
      exact Nat.le_trans (by omega : n + n ≤ 12) (by decide)
    have eL := Ex.new (o := .lst (rsS.map V.ref ++ (rsM.map V.ref ++ []))) hLp
    have hLL : (upd H Lp (.lst (rsS.map V.ref ++ (rsM.map V.ref ++ [])))) Lp = some (.lst (rsS.map V.ref ++ (rsM.map V.ref ++ []))) := upd_same
    have hlen2 : ∀ x ∈ rsS.map V.ref ++ (rsM.map V.ref ++ []), True := fun _ _ => trivial
    generalize hXS : rsS.map V.ref ++ (rsM.map V.ref ++ []) = XS at rows_ok all_len eL hLL hD ⊢
    generalize upd H Lp (.lst XS) = H1 at eL hLL hD ⊢
    have hDH : H D = none := fresh_back eL hD
    refine turns_it (walk_list (K := K) (a := Lp) (xs := XS)) (fun i G => Ex H1 G ∧ ∃ ys : List Str, G D = some (.lst (ys.map V.str)) ∧ ys.length = i * n ∧ ∀ y ∈ ys, y.length = 1) ⟨Ex.new hD, [], upd_same, by simp, fun y hy => by simp at hy⟩ (fun i G _ k => SqL.of (k.1 _ _ hLL)) ?_ ?_
    · rintro i x _ G hi ⟨eG, ys, hG, hyl, hys⟩ ⟨rfl, hx⟩
      have hx2 : XS[i]? = some x := hx
      obtain ⟨r, row, rfl, hr1, hrow⟩ := rows_ok x (List.mem_of_getElem? hx2)
      have hrG : ∀ {G'}, Ex H1 G' → G' r = some (.tup (row.map V.int)) := fun e => e _ _ (eL _ _ hr1)
      refine ⟨rfl, tyes_go (yes_of rfl ?_)⟩
      refine ⟨_, rfl, r, rfl, ⟨_, .inl (.inl (hrG eG))⟩, ?_⟩
      refine turns_it (walk_tup (K := K) (a := r) (xs := row.map V.int)) (fun m G' => Ex H1 G' ∧ ∃ ys : List Str, G' D = some (.lst (ys.map V.str)) ∧ ys.length = i * n + m ∧ ∀ y ∈ ys, y.length = 1) ⟨eG, ys, hG, by omega, hys⟩ (fun m G' _ k => .inl (.inl (hrG k.1))) ?_ ?_
      · rintro m x _ G' hm ⟨eG', ys', hG', hyl', hys'⟩ ⟨rfl, hx⟩
        have hx3 : (row.map V.int)[m]? = some x := hx
        rw [List.getElem?_map] at hx3
        obtain ⟨c, hc, rfl⟩ := Option.map_eq_some_iff.mp hx3
        have hcr := hrow.2 c (List.mem_of_getElem? hc)
        refine ⟨rfl, tyes_go (yes_of rfl ?_)⟩
        have hmn : m < n := by
          have h1 : m < (row.map V.int).length := hm
          rw [List.length_map, hrow.1] at h1
          exact h1
        have hin : i * n + n ≤ (n + n) * n := by
          have h1 : i < XS.length := hi
          have h2 : (i + 1) * n ≤ (n + n) * n := Nat.mul_le_mul_right n (by omega)
          rw [Nat.succ_mul] at h2
          exact h2
        refine ⟨_, rfl, c, rfl, dig_log hcr.1 (by omega), _, hG', ?_, Ex.mut eG' hD, ys' ++ [Str.ofString (toString c)], by rw [upd_same, List.map_append]; rfl, by rw [List.length_append, hyl']; rfl, fun y hy => ?_⟩
        · rw [List.length_map, hyl']
          exact Nat.lt_of_le_of_lt (by omega : i * n + m ≤ 72) (by decide)
        · rcases List.mem_append.mp hy with h | h
          · exact hys' y h
          · simp at h
            rw [h]
            exact dig_len hcr.1 (by omega)
      · rintro G' ⟨eG', ys', hG', hyl', hys'⟩
        refine ⟨eG', ys', hG', ?_, hys'⟩
        rw [hyl', List.length_map, hrow.1, Nat.succ_mul]
    · rintro G ⟨eG, ys, hG, hyl, hys⟩
      rw [all_len] at hyl
      have eHG := eL.trans eG
      have haG : G a = some (.ins C dx []) := eHG _ _ ha
      have hpG : G p = some (.tup (rsS.map V.ref)) := eHG _ _ hp
      have hSl : (rsS.map V.ref).length = n := by
        have := T.sq.len
        rw [List.length_map]
        omega
      refine ⟨rfl, _, rfl, ⟨_, rfl⟩, ?_⟩
      refine ⟨_, rfl, p, _, rfl, .inr (.inl (.inl hpG)), n, by rw [hSl], dig_log (by omega) (by omega), _, rfl, D, _, rfl, .inr (SqL.of hG), ?_, fun Lq hLq => ?_⟩
      · show (ys.map V.str ++ []).length + 1 + 1 ≤ sizeLine
        rw [List.append_nil, List.length_map, hyl]
        exact Nat.le_trans (by omega : (n + n) * n + 1 + 1 ≤ 74) (by decide)
      have hq2 : (upd G Lq (.lst (V.str "table" :: V.str (Str.ofString (toString (n : Int))) :: (ys.map V.str ++ [])))) Lq = some (.lst ((("table" : Str) :: Str.ofString (toString (n : Int)) :: ys).map V.str)) := by
        rw [upd_same, List.append_nil]
        rfl
      have eQ := Ex.new (o := .lst (V.str "table" :: V.str (Str.ofString (toString (n : Int))) :: (ys.map V.str ++ []))) hLq
      have ylen : ∀ y ∈ (("table" : Str) :: Str.ofString (toString (n : Int)) :: ys), y.length ≤ 5 := fun y hy => by
        rcases List.mem_cons.mp hy with h | h
        · rw [h]
          decide
        · rcases List.mem_cons.mp h with h | h
          · rw [h, dig_len (by omega) (by omega)]
            decide
          · rw [hys y h]
            decide
      have ycount : (("table" : Str) :: Str.ofString (toString (n : Int)) :: ys).length ≤ 74 := by
        show ys.length + 1 + 1 ≤ 74
        omega
      have zlen : (Str.join (" " : Str) (("table" : Str) :: Str.ofString (toString (n : Int)) :: ys)).length ≤ 444 := by
        have h1 := join_len (" " : Str) 5 1 (by decide) _ ylen
        have h2 : (("table" : Str) :: Str.ofString (toString (n : Int)) :: ys).length * (5 + 1) ≤ 74 * (5 + 1) := Nat.mul_le_mul_right _ ycount
        omega
      show ∃ b p' ys', _
      refine ⟨_, Lq, _, rfl, rfl, .inl (SqL.of hq2), ?_, ?_⟩
      · have h1 := sum_len 5 _ ylen
        have h2 : (("table" : Str) :: Str.ofString (toString (n : Int)) :: ys).length * 5 ≤ 74 * 5 := Nat.mul_le_mul_right _ ycount
        show _ + _ * 1 ≤ 16777216
        omega
      refine ⟨_, rfl, p, _, rfl, .inr (.inl (.inl (eQ _ _ hpG))), ?_⟩
      rw [hSl]
      refine ⟨a, C, dx, [], _, _, rfl, eQ _ _ haG, ok, by decide, fun e H5 o5 he he5 h5 => ?_⟩
      have oAll : Only a H H5 := fun b o nb hb => o5 b o nb (eQ _ _ (eHG _ _ hb))
      have ea : e ≠ a := fun z => by
        rw [z, eQ _ _ haG] at he
        cases he
      generalize hz0 : Str.join (" " : Str) (("table" : Str) :: Str.ofString (toString (n : Int)) :: ys) = z0 at zlen
      have h5' : H5 a = some (.ins C dx (putF "_size" (.int n) (fsCounted (.str z0) (.int 0) (.int 1) (.ref e) []))) := by
        rw [← hz0]
        have hj : Txt.join (Str.ofString " ") (Str.ofString "table" :: Str.ofString (toString (n : Int)) :: ys) = Str.join (Str.ofString " ") (Str.ofString "table" :: Str.ofString (toString (n : Int)) :: ys) := by
          first
            | exact glued_eq_join _ _
            | exact StrLaws.glued_eq_join _ _
            | exact PySem.StrLaws.glued_eq_join _ _
        rw [hj] at h5
        exact h5
      refine ⟨_, rfl, _, rfl, a, C, dx, _, rfl, h5', ok.cls, ok.no _ (by decide), by (show 5 < 1000; decide), ?_⟩
      refine ⟨_, rfl, _, rfl, a, C, dx, _, rfl, upd_same, ok.cls, ok.no _ (by decide), by (show 6 < 1000; decide), ?_⟩
      refine q _ _ oAll.upd.upd upd_same ⟨⟨z0, rfl, zlen⟩, rfl, rfl, ⟨e, rfl, ?_⟩, rfl, rfl, rfl, fun f hf => ?_⟩
      · rw [upd_ne ea, upd_ne ea]
        exact he5
      · have nf : ∀ g ∈ fields, ¬(f = g) := fun g hg z => hf (z ▸ hg)
        unfold fsCounted
        simp only [lookup_putF]
        rw [if_neg (nf _ (by decide)), if_neg (nf _ (by decide)), if_neg (nf _ (by decide)), if_neg (nf _ (by decide)), if_neg (nf _ (by decide)), if_neg (nf _ (by decide)), if_neg (nf _ (by decide))]
        rfl
end
end D1
end
section
set_option Elab.async false
set_option linter.all false
set_option maxRecDepth 100000
set_option maxHeartbeats 4000000
/-! OM: a tuple so many times, once too -/
namespace L2
open PySem PySem.Spec PyProof.Rows
theorem tuple_mul1 (l : Addr) (items : Array Value) (n : Nat) (dd : Option Addr) (sl : Array (Option Value)) (u : Tok) :
    Meets (Builtin.«tuple.__mul__» ⟨[.ref l, .int 1 u], []⟩) (fun _ R s => s.heap.get? l = some { cls := .type "tuple", dict := dd, data := .seq items n, slots := sl } ∧
      R (.ok (.ret (Value.ref l))) s) :=
  .of_wp fun prog w A R s h => by
    obtain ⟨hp, g, d, tk, os⟩ := s
    obtain ⟨hl, h⟩ := h
    have f1 := AutoSeq1.idx_int
    wp_walk using wpAny_loadPart' hl
    exact ⟨_, rfl, h⟩
section
variable {X : Cx}
def rRep1 (K : PySem.W.Frag) : R2 := fun x y H Q => ∃ l xs, x = .ref l ∧ y = .int 1 ∧ SqT K H l xs ∧ Q (.ref l) H
theorem op_rep1 : OpR X (binaryOp .Mult) (rRep1 X.K) := by
  intro pins s σ H x y v u Q I rx ry h
  obtain ⟨l, xs, rfl, rfl, hT, q⟩ := h
  cases rx
  obtain ⟨t, rfl⟩ := ry
  obtain ⟨its, r, ⟨⟨cls, dd, data, sl⟩, ho, hc, n, hd⟩, hs⟩ := I.tuple hT
  simp only at hc hd
  subst hc hd
  refine wpAny_binaryOp_repeat_ref (T := "tuple") (U := "int") (by decide) ⟨_, ho, rfl⟩ (fun s' => typeIs_int s' 1 t) noFill_tuple_mul F.fills_int_mul F.slot_int_rmul repeat_tuple F.slot_int_index.lookup
    (call_meets F.slot_int_rmul (typeIs_int s 1 t) F.entry_int_rmul (F.args_int_rmul_2 _ _) (int_rmul_tuple 1 t l its.toArray n dd sl)
      ⟨ho, rfl, ⟨_, ho, rfl⟩, call_meets F.slot_tuple_mul ⟨_, ho, rfl⟩ F.entry_tuple_mul (F.args_tuple_mul_2 _ _) (tuple_mul1 l its.toArray n dd sl t) ⟨ho, ?_⟩⟩)
  exact ⟨.ref l, H, I, rfl, q⟩
/-- a tuple so many times, once too -/
def rRepN (K : PySem.W.Frag) : R2 := fun x y H Q => rRep1 K x y H Q ∨ rRepT K x y H Q
theorem op_repN : OpR X (binaryOp .Mult) (rRepN X.K) := by
  intro pins s σ H x y v u Q I rx ry h
  rcases h with h | h
  · exact op_rep1 pins s σ H x y v u Q I rx ry h
  · exact op_repT pins s σ H x y v u Q I rx ry h
end
end L2
end
section
set_option Elab.async false
set_option linter.all false
set_option maxRecDepth 100000
set_option maxHeartbeats 4000000
/-! R5h: whether closed, whether it fits, Rest and Terms made -/
namespace D1
open PySem L2 Evl RZ ClX PySem.VX
theorem FnOk.weak {P : Program} {w : World} {K : PySem.W.Frag} {mg : Str → Option Value} {base : Heap} {CX : CXT} {k : Nat} {f : Addr} {fd : FuncData} {ps : List Str} {sp sp' : Sp} (h : FnOk P w K mg base CX k f fd ps sp) (w' : ∀ vs H Q E, sp' vs H Q E → sp vs H Q E) : FnOk P w K mg base CX k f fd ps sp' := ⟨fun vs H Q E z => h.1 vs H Q E (w' _ _ _ _ z), fun a b c d e g vs Q E i j l m z => h.2 a b c d e g vs Q E i j l m (w' _ _ _ _ z)⟩
def spMkRest (C : KC) : Sp := fun vs H Q _ => ∃ (n : Nat) (a dx : Addr), vs = [.ref a, .int n] ∧ 2 ≤ n ∧ n ≤ 1000 ∧ H a = some (.ins C.re dx []) ∧ ∀ H', Only a H H' → KindAt C H' (.rest n) (.ref a) → Q .non H'
def spMkTerms (C : KC) : Sp := fun vs H Q _ => ∃ (n : Nat) (a dx : Addr), vs = [.ref a, .int n] ∧ 1 ≤ n ∧ n ≤ 4 ∧ H a = some (.ins C.te dx []) ∧ ∀ H', Only a H H' → KindAt C H' (.terms n) (.ref a) → Q .non H'
def spMkTab (C : KC) : Sp := fun vs H Q _ => ∃ (S M : Tb) (a dx : Addr) (x y : V), vs = [.ref a, x, y] ∧ DtAt H x (tabD S) ∧ DtAt H y (tabD M) ∧ GoodTab S.length S M ∧ H a = some (.ins C.ta dx []) ∧ ∀ H', Only a H H' → KindAt C H' (.tab S M) (.ref a) → Q .non H'
theorem rest_len : ∀ k : Fin 1001, ((toString ((k.val : Nat) : Int) : String) : Str).length ≤ 40 := by decide +kernel
theorem mk_tab {P : Program} {w : World} {K : PySem.W.Frag} {mg : Str → Option Value} {base : Heap} {C : KC} (T : ClsK K C) {f : Addr} {fd : FuncData} (h : FnOk P w K mg base CX0 4 f fd ["self", "sums", "products"] (spTabI K)) : FnOk P w K mg base CX0 4 f fd ["self", "sums", "products"] (spMkTab C) := by
  refine FnOk.weak h fun vs H Q E z => ?_
  obtain ⟨S, M, a, dx, x, y, rfl, hx, hy, gt, ha, q⟩ := z
  obtain ⟨p, rfl, hp⟩ := tab_at hx
  obtain ⟨p', rfl, hp'⟩ := tab_at hy
  refine ⟨a, C.ta, dx, p, p', S.length, S, M, rfl, ha, T.cls (k := .tab S M) rfl, ⟨gt.two, hp, hp', gt.sq, gt.pq⟩, gt.six, fun fs H' o1 h1 tf => ?_⟩
  have ha' : ∃ Cc dd ff, H a = some (.ins Cc dd ff) := ⟨_, _, _, ha⟩
  obtain ⟨z, hz, hl⟩ := tf.text
  obtain ⟨e, he, he2⟩ := tf.oth
  exact q H' o1 ⟨a, dx, fs, rfl, h1, ⟨⟨z, hz, by show z.length + 6 ≤ 500 * 2 ^ 0; omega⟩, ⟨_, tf.zero, .int 0⟩, ⟨_, tf.one, .int 1⟩, tf.no⟩, ⟨e, he, he2⟩, tf.size, ⟨_, tf.sums, o1.kp hx ha'⟩, ⟨_, tf.prods, o1.kp hy ha'⟩⟩
theorem rep_n {K : PySem.W.Frag} {H : Hp} {l : Addr} {x : V} {n : Nat} {Q : VK} (h : H l = some (.tup [x])) (n1 : 1 ≤ n) (n2 : n ≤ 1000) (q : ∀ p H', Ex H H' → H' p = some (.tup (List.replicate n x)) → Q (.ref p) H') : rRepN K (.ref l) (.int n) H Q := by
  by_cases h1 : n = 1
  · subst h1
    exact .inl ⟨l, [x], rfl, rfl, .inl (.inl h), q l H (Ex.refl H) h⟩
  · refine .inr ⟨l, n, [x], rfl, rfl, .inl (.inl h), by simp, by omega, by omega, by simp, fun p hp => q p _ (Ex.new hp) ?_⟩
    rw [upd_same, Int.toNat_natCast, List.flatten_replicate_singleton]
theorem ev_chainLL {σ : L2.St} {H : Hp} {ta tb tc : TE} {a b c : Int} (ha : Ev ta σ H (.int a)) (hb : Ev tb σ H (.int b)) (hc : Ev tc σ H (.int c)) : Ev (tChain (rI0 fun i j => .bl (decide (i ≤ j))) (rI0 fun i j => .bl (decide (i < j))) ta tb tc) σ H (.bl (decide (a ≤ b) && decide (b < c))) := fun H1 e Q q =>
  ha H1 e _ fun H2 e2 => hb H2 (e.trans e2) _ fun H3 e3 => ⟨a, b, rfl, rfl, _, rfl, by
    cases hk : decide (a ≤ b) with
    | true =>
      rw [hk, Bool.true_and] at q
      refine yes_of rfl (hc H3 ((e.trans e2).trans e3) _ fun H4 e4 => ⟨b, c, rfl, rfl, q H4 ((e2.trans e3).trans e4)⟩)
    | false =>
      rw [hk, Bool.false_and] at q
      refine no_of rfl (q H3 (e2.trans e3))⟩
section
variable {P : Program} {w : World} {K : PySem.W.Frag} {mg : Str → Option Value} {base : Heap}
abbrev s_Kind_closed : Stmt := meth 23 4
theorem sc_Kind_closed : FnScope ["self"] ["self"] (defScope s_Kind_closed) := ⟨rfl, rfl, rfl, by decide +kernel, rfl, by decide +kernel, by decide +kernel⟩
theorem ok_Kind_closed {f : Addr} {fd : FuncData} (F : FnM K "Kind" "closed" s_Kind_closed f fd) {C : KC} (d : Nat) {c : Addr} (h3 : ∀ k : RK, C.cls k = c → k.clsd = false) : FnOk P w K mg base (CX0) 1 f fd ["self"] (spClosed C d c) := by
  refine F.ok (CX := CX0) sc_Kind_closed (fun vs H Q E h => ?_) (fun cdv A outer s H vs Q E hr h => ?_)
  · obtain ⟨s, k, rfl, _⟩ := h
    rfl
  · obtain ⟨s, k, rfl, hK, hc, hd, q⟩ := h
    have hu := hu_of hr
    have hu64 := hr.units
    refine ⟨_, PSs.nox (pss_one (ps_ret pe_bl)), ?_⟩
    rw [h3 k hc] at q
    exact q H (Ex.refl H)
abbrev s_Finite_fits : Stmt := meth 31 2
theorem sc_Finite_fits : FnScope ["self", "number"] ["self", "number"] (defScope s_Finite_fits) := ⟨rfl, rfl, rfl, by decide +kernel, rfl, by decide +kernel, by decide +kernel⟩
theorem ok_Finite_fits {f : Addr} {fd : FuncData} (F : FnM K "Finite" "fits" s_Finite_fits f fd) {C : KC} (T : ClsK K C) {c : Addr} (h3 : c = C.re ∨ c = C.ta) : FnOk P w K mg base (CX0) 1 f fd ["self", "number"] (spFits C c) := by
  refine F.ok (CX := CX0) sc_Finite_fits (fun vs H Q E h => ?_) (fun cdv A outer s H vs Q E hr h => ?_)
  · obtain ⟨s, k, i, rfl, _⟩ := h
    rfl
  · obtain ⟨s, k, i, rfl, hK, hc, q⟩ := h
    have hu := hu_of hr
    have hu64 := hr.units
    refine ⟨_, PSs.nox (pss_one (ps_ret (pe_chain op_le op_lt pe_int (pv 1) (pe_fld (pv 0) rfl)))), ?_⟩
    have ok := T.cls hc
    have hk : (∃ n, k = .rest n) ∨ ∃ S M, k = .tab S M := by
      have hi : idx k = 7 ∨ idx k = 9 := by
        rcases h3 with rfl | rfl
        · exact .inl (KC.idx_of T.nd (i := 7) rfl hc)
        · exact .inr (KC.idx_of T.nd (i := 9) rfl hc)
      cases k <;> first | exact .inl ⟨_, rfl⟩ | exact .inr ⟨_, _, rfl⟩ | (rcases hi with h | h <;> cases h)
    obtain ⟨a, dx, fs, rfl, ha, hs⟩ := hK.fin hk
    rw [hc] at ha
    have hf : ∃ m : Nat, fs.lookup ("_size" : Str) = some (.int m) ∧ fitB k i = (decide (0 ≤ i) && decide (i < m)) := by
      rcases hk with ⟨n, rfl⟩ | ⟨S, M, rfl⟩
      · exact ⟨n, hs, rfl⟩
      · exact ⟨S.length, hs, rfl⟩
    obtain ⟨m, hs, hf⟩ := hf
    rw [hf] at q
    exact s_ret (D := { nx := fun _ H' => Q .non H', rt := Q }) (ev_chainLL ev_c (ev_var rfl) (ev_fldK (ev_var rfl) ha ok (by decide) hs)) fun H1 e1 => q H1 e1
abbrev s_Rest_init : Stmt := meth 32 0
theorem sc_Rest_init : FnScope ["self", "divisor"] ["self", "divisor"] (defScope s_Rest_init) := ⟨rfl, rfl, rfl, by decide +kernel, rfl, by decide +kernel, by decide +kernel⟩
theorem ok_Rest_init {f : Addr} {fd : FuncData} (F : FnM K "Rest" "__init__" s_Rest_init f fd) {f_Finite_init : Addr} {fd_Finite_init : FuncData} (F_Finite_init : FnM K "Finite" "__init__" s_Finite_init f_Finite_init fd_Finite_init) (G_Finite_init : FnOk P w K mg base CX0 3 f_Finite_init fd_Finite_init ["self", "text", "size"] (spFinite K)) (B_Finite : BaseI K mg "Finite" f_Finite_init) {C : KC} (T : ClsK K C) : FnOk P w K mg base (CX0) 4 f fd ["self", "divisor"] (spMkRest C) := by
  obtain ⟨C_Finite, mc_Finite, g_Finite, r_Finite, c_Finite⟩ := B_Finite.ex
  have b_Finite_init : Binds K fd_Finite_init ["self", "text", "size"] [] := F_Finite_init.bindsN fun _ _ _ _ _ _ us hl => match us, hl with | [_, _, _], _ => rfl
  refine F.ok (CX := CX0) sc_Rest_init (fun vs H Q E h => ?_) (fun cdv A outer s H vs Q E hr h => ?_)
  · obtain ⟨n, a, dx, rfl, _⟩ := h
    rfl
  · obtain ⟨n, a, dx, rfl, n1, n2, ha, q⟩ := h
    have hu := hu_of hr
    have hu64 := hr.units
    have hr_Finite_init := hr.mono (by decide : 3 ≤ 3)
    refine ⟨_, PSs.nox (pss_one (ps_expr (pe_cfn (C := C_Finite) (mc := mc_Finite) (pe_glob (v := .ref C_Finite) rfl g_Finite rfl) r_Finite c_Finite G_Finite_init hr_Finite_init F_Finite_init.kp b_Finite_init .nil pass0 (pa_cons (pv 0) (pa_cons (pe_joined (PJ.cons pe_str (PJ.cons (pe_fmt (pv 1)) PJ.nil))) (pa_cons (pv 1) pa_nil)))))), ?_⟩
    have ok := T.cls (k := .rest n) rfl
    have big : (300000 : Nat) ≤ sizeLine := by decide
    have hl : ((toString ((n : Nat) : Int) : String) : Str).length ≤ 40 := rest_len ⟨n, by omega⟩
    have h0 : (Str.empty ++ ("rest " : Str)).length = 5 := by decide
    have hs : (n : Int).natAbs.log2 < 1920 := by
      have h : (n : Int).natAbs.log2 ≤ (n : Int).natAbs := Nat.log2_le_self _
      omega
    refine ⟨rfl, _, rfl, _, rfl, by rw [h0]; omega, _, rfl, .inr ⟨_, rfl, hs, _, rfl, by rw [str_len, h0]; omega, _, rfl, ?_⟩⟩
    have tl : ((Str.empty ++ ("rest " : Str)) ++ ((toString ((n : Nat) : Int) : String) : Str)).length + 6 ≤ 500 * 2 ^ (RK.rest n).depth := by
      rw [str_len, h0]
      show _ ≤ 500 * 2 ^ 0
      omega
    generalize (Str.empty ++ ("rest " : Str)) ++ ((toString ((n : Nat) : Int) : String) : Str) = z at tl ⊢
    refine ⟨a, _, dx, [], .str z, .int n, rfl, ha, ok, by decide, fun p H1 o1 hp0 hp h1 => ?_⟩
    exact q _ o1 ⟨a, dx, _, rfl, h1, ⟨⟨_, rfl, tl⟩, ⟨_, rfl, .int _⟩, ⟨_, rfl, .int _⟩, no_fs (by rfl)⟩, ⟨p, rfl, hp⟩, rfl⟩
abbrev s_Terms_init : Stmt := meth 36 0
theorem sc_Terms_init : FnScope ["self", "unknowns"] ["self", "unknowns"] (defScope s_Terms_init) := ⟨rfl, rfl, rfl, by decide +kernel, rfl, by decide +kernel, by decide +kernel⟩
theorem ok_Terms_init {f : Addr} {fd : FuncData} (F : FnM K "Terms" "__init__" s_Terms_init f fd) {f_Kind_init : Addr} {fd_Kind_init : FuncData} (F_Kind_init : FnM K "Kind" "__init__" s_Kind_init f_Kind_init fd_Kind_init) (G_Kind_init : FnOk P w K mg base CX0 1 f_Kind_init fd_Kind_init ["self", "text", "zero", "one"] (spKind K)) (B_Kind : BaseI K mg "Kind" f_Kind_init) {C : KC} (T : ClsK K C) : FnOk P w K mg base (CX0) 2 f fd ["self", "unknowns"] (spMkTerms C) := by
  obtain ⟨C_Kind, mc_Kind, g_Kind, r_Kind, c_Kind⟩ := B_Kind.ex
  have b_Kind_init : Binds K fd_Kind_init ["self", "text", "zero", "one"] [] := F_Kind_init.bindsN fun _ _ _ _ _ _ us hl => match us, hl with | [_, _, _, _], _ => rfl
  refine F.ok (CX := CX0) sc_Terms_init (fun vs H Q E h => ?_) (fun cdv A outer s H vs Q E hr h => ?_)
  · obtain ⟨n, a, dx, rfl, _⟩ := h
    rfl
  · obtain ⟨n, a, dx, rfl, n1, n2, ha, q⟩ := h
    have hu := hu_of hr
    have hu64 := hr.units
    have hr_Kind_init := hr.mono (by decide : 1 ≤ 1)
    refine ⟨_, PSs.nox (pss_cons (ps_expr (pe_cfn (C := C_Kind) (mc := mc_Kind) (pe_glob (v := .ref C_Kind) rfl g_Kind rfl) r_Kind c_Kind G_Kind_init hr_Kind_init F_Kind_init.kp b_Kind_init .nil pass0 (pa_cons (pv 0) (pa_cons (pe_joined (PJ.cons pe_str (PJ.cons (pe_fmt (pv 1)) PJ.nil))) (pa_cons (pe_tup pa_nil) (pa_cons (pe_tup (pa_cons (pe_tup (pa_cons (pe_op op_repN (pe_tup (pa_cons pe_int pa_nil)) (pv 1)) (pa_cons pe_int pa_nil))) pa_nil)) pa_nil))))))
      (pss_one (ps_fld (pv 0) (pv 1) rfl))), ?_⟩
    have ok := T.cls (k := .terms n) rfl
    have big : (300000 : Nat) ≤ sizeLine := by decide
    have hl : ((toString ((n : Nat) : Int) : String) : Str).length ≤ 40 := rest_len ⟨n, by omega⟩
    have h0 : (Str.empty ++ ("terms " : Str)).length = 6 := by decide
    have hs : (n : Int).natAbs.log2 < 1920 := by
      have h : (n : Int).natAbs.log2 ≤ (n : Int).natAbs := Nat.log2_le_self _
      omega
    refine ⟨rfl, _, rfl, _, rfl, by rw [h0]; omega, _, rfl, .inr ⟨_, rfl, hs, _, rfl, by rw [str_len, h0]; omega, by show 0 ≤ sizeLine; omega, fun T0 hT0 => ?_⟩⟩
    have tl : ((Str.empty ++ ("terms " : Str)) ++ ((toString ((n : Nat) : Int) : String) : Str)).length + 6 ≤ 500 * 2 ^ (RK.terms n).depth := by
      rw [str_len, h0]
      show _ ≤ 500 * 2 ^ 0
      omega
    generalize (Str.empty ++ ("terms " : Str)) ++ ((toString ((n : Nat) : Int) : String) : Str) = z at tl ⊢
    have e0 := Ex.new (o := .tup []) hT0
    have i0 : (upd H T0 (.tup [])) T0 = some (.tup []) := upd_same
    generalize upd H T0 (.tup []) = G0 at e0 i0 ⊢
    refine ⟨by show 1 ≤ sizeLine; omega, fun T1 hT1 => ?_⟩
    have e1 := Ex.new (o := .tup [.int 0]) hT1
    have i1 : (upd G0 T1 (.tup [.int 0])) T1 = some (.tup [.int 0]) := upd_same
    generalize upd G0 T1 (.tup [.int 0]) = G1 at e1 i1 ⊢
    refine ⟨_, rfl, rep_n i1 n1 (by omega) fun p G2 e2 hp => ⟨by show 2 ≤ sizeLine; omega, fun T2 hT2 => ?_⟩⟩
    have e3 := Ex.new (o := .tup [.ref p, .int 1]) hT2
    have i3 : (upd G2 T2 (.tup [.ref p, .int 1])) T2 = some (.tup [.ref p, .int 1]) := upd_same
    generalize upd G2 T2 (.tup [.ref p, .int 1]) = G3 at e3 i3 ⊢
    refine ⟨by show 1 ≤ sizeLine; omega, fun T3 hT3 => ?_⟩
    have e4 := Ex.new (o := .tup [.ref T2]) hT3
    have i4 : (upd G3 T3 (.tup [.ref T2])) T3 = some (.tup [.ref T2]) := upd_same
    generalize upd G3 T3 (.tup [.ref T2]) = G4 at e4 i4 ⊢
    have eA := ((((e0.trans e1).trans e2).trans e3).trans e4)
    have ha4 := eA _ _ ha
    have hz : DtAt G4 (.ref T0) (zeroD (.terms n)) := .tup ((((e1.trans e2).trans e3).trans e4) _ _ i0) .nil
    have rep : ∀ m : Nat, DtAll G4 (List.replicate m (.int 0)) (List.replicate m (.int 0)) := by
      intro m
      induction m with
      | zero => exact .nil
      | succ m ih =>
        rw [List.replicate_succ, List.replicate_succ]
        exact .cons (.int 0) ih
    have hone : DtAt G4 (.ref T3) (oneD (.terms n)) := .tup i4 (.cons (.tup (e4 _ _ i3) (.cons (.tup ((e3.trans e4) _ _ hp) (rep n)) (.cons (.int 1) .nil))) .nil)
    refine ⟨a, _, dx, [], .str z, .ref T0, .ref T3, rfl, ha4, ok, by decide, fun H1 o1 h1 => ?_⟩
    refine ⟨_, rfl, _, rfl, a, _, dx, _, rfl, h1, ok.cls, ok.no _ (by decide), by (show 3 < 1000; decide), ?_⟩
    have o2 := o1.upd (o := .ins C.te dx (putF "_unknowns" (.int n) (putF "_one" (.ref T3) (putF "_zero" (.ref T0) (putF "_text" (.str z) [])))))
    have hal : ∃ Cc dd ff, G4 a = some (.ins Cc dd ff) := ⟨_, _, _, ha4⟩
    exact q _ (Only.trans (fun b o _ e => eA b o e) o2) ⟨a, dx, _, rfl, upd_same, ⟨⟨_, rfl, tl⟩, ⟨_, rfl, o2.kp hz hal⟩, ⟨_, rfl, o2.kp hone hal⟩, no_fs (by rfl)⟩, rfl⟩
end
end D1
end
section
set_option Elab.async false
set_option linter.all false
set_option maxRecDepth 100000
set_option maxHeartbeats 4000000
/-! TC: the form of tables -/
namespace D1
open PySem L2 Evl RZ ClX PySem.VX
section
variable {K : PySem.W.Frag} {σ : L2.St} {H : Hp} {tx tl te : TE} {x : V}
end
section
variable {P : Program} {w : World} {K : PySem.W.Frag} {mg : Str → Option Value} {base : Heap}
theorem int_at {ns : List Int} {i : Nat} {x : V} (h : (ns.map V.int)[i]? = some x) : x = V.int (ns.getD i 0) := by
  rw [List.getElem?_map] at h
  obtain ⟨c, e1, e⟩ := Option.map_eq_some_iff.mp h
  rw [← e, List.getD_eq_getElem?_getD, e1]
  rfl
def rowOk (n : Nat) (row : List Int) : Bool := decide (row.length = n) && row.all fun i => within 0 ((n : Int) - 1) i
def tabOk (n : Nat) (t : Tb) : Bool := decide (t.length = n) && t.all (rowOk n)
def twoOk (S M : Tb) : Bool := (decide (2 ≤ S.length) && decide (S.length ≤ 6)) && (tabOk S.length S && tabOk S.length M)
def spRowOk : Sp := fun vs H Q _ => ∃ (r : Addr) (n : Nat) (row : List Int), vs = [.ref r, .int n] ∧ H r = some (.tup (row.map V.int)) ∧ row.length ≤ 40000 ∧ ∀ H', Ex H H' → Q (.bl (rowOk n row)) H'
def spTabOk : Sp := fun vs H Q _ => ∃ (p : Addr) (n : Nat) (t : Tb), vs = [.ref p, .int n] ∧ TabAt H p t ∧ t.length ≤ 40000 ∧ (∀ row ∈ t, row.length ≤ 40000) ∧ ∀ H', Ex H H' → Q (.bl (tabOk n t)) H'
def spTwoOk : Sp := fun vs H Q _ => ∃ (p q : Addr) (S M : Tb), vs = [.ref p, .ref q] ∧ TabAt H p S ∧ TabAt H q M ∧ (∀ t, t = S ∨ t = M → t.length ≤ 40000 ∧ ∀ row ∈ t, row.length ≤ 40000) ∧ ∀ H', Ex H H' → Q (.bl (twoOk S M)) H'
abbrev s__is_row : Stmt := top 93
theorem sc__is_row : FnScope ["thing", "size", "place"] ["thing", "size"] (defScope s__is_row) := ⟨rfl, rfl, rfl, by decide +kernel, rfl, by decide +kernel, by decide +kernel⟩
theorem ok__is_row {f : Addr} {fd : FuncData} (F : FnP K "_is_row" s__is_row f fd) {f_is_whole : Addr} {fd_is_whole : FuncData} (F_is_whole : FnP K "is_whole" s_is_whole f_is_whole fd_is_whole) (g_is_whole : mg "is_whole" = some (.ref f_is_whole)) (G_is_whole : FnOk P w K mg base CX0 2 f_is_whole fd_is_whole ["thing", "least", "most"] (spWhole K)) (z_isinstance : mg "isinstance" = none) (z_tuple : mg "tuple" = none) (z_len : mg "len" = none) (z_all : mg "all" = none) : FnOk P w K mg base CX0 3 f fd ["thing", "size"] spRowOk := by
  have b_is_whole : Binds K fd_is_whole ["thing", "least", "most"] [] := F_is_whole.bindsN fun _ _ _ _ _ _ us hl => match us, hl with | [_, _, _], _ => rfl
  refine F.ok sc__is_row (fun vs H Q E h => ?_) (fun cdv A outer s H vs Q E hr h => ?_)
  · obtain ⟨r, n, row, rfl, _⟩ := h
    rfl
  · obtain ⟨r, n, row, rfl, hr0, hl, q⟩ := h
    have hu := hu_of hr
    have hu64 := hr.units
    have hr_is_whole := hr.mono (by decide : 2 ≤ 2)
    refine ⟨_, PSs.nox (pss_cons (ps_if (PW.pt (pw_or (pt_not (pt_val (pe_callB call_isi (by rfl) z_isinstance PyProof.Rows.boot_isinstance (pa_cons (pv 0) (pa_cons (pe_bltn (v := .ty "tuple") rfl z_tuple (by decide +kernel) rfl) pa_nil))))) (pw_or1 (pt_cmpR op_ne (pe_callB call_len_seq (by rfl) z_len PySem.boot_len (pa_cons (pv 0) pa_nil)) (pv 1) (nomark _))))) (pss_one (ps_ret pe_bl)) pss_nil)
      (pss_one (ps_ret (pe_callB (cr_all rfl) (by rfl) z_all PyProof.Rows.boot_all (pa_cons (pe_lc (own := [("place", 2)]) (g := gName 2) (tt := tYes) (by rfl) sc__is_row.nd (pi_tup (pv 0)) (blkOk_by (own := [("place", 2)]) (N := ["thing", "size", "place"]) (sc := defScope s__is_row) (by decide +kernel)) (fun _ _ _ _ _ => pg_name (i := 2) sc__is_row.nd rfl (Or.inl rfl)) (fun _ _ _ _ _ => pts_nil) (fun _ _ _ _ _ => pe_call G_is_whole hr_is_whole rfl g_is_whole F_is_whole.kp b_is_whole .nil pass0 (pa_cons (pv 2) (pa_cons pe_int (pa_cons (pe_op op_sub (pv 1) pe_int) pa_nil))))) pa_nil))))), ?_⟩
    have hS : SqT K H r (row.map V.int) := .inl (.inl hr0)
    refine q_when (b := !decide (row.length = n)) (et_is (et_or (et_not (et_B (ev_isi (T := "tuple") (ev_var rfl) (tup_ty hr0) kit_tt (.ty "tuple")))) (fun _ => et_test (ev_neI (ev_lenT (ev_var rfl) hS) (ev_var rfl)))) ?_) (fun hb H1 e1 => ?_) (fun hb H1 e1 => ?_)
    · rw [List.length_map]
      show (false || !((row.length : Int) == (n : Int))) = _
      by_cases h : row.length = n
      · rw [decide_eq_true h, h]
        simp
      · rw [decide_eq_false h]
        have : ((row.length : Int) == (n : Int)) = false := by
          rw [beq_eq_false_iff_ne]
          omega
        rw [this]
        rfl
    · refine s_ret ev_c fun H2 e2 => ?_
      have e : rowOk n row = false := by
        unfold rowOk
        have : decide (row.length = n) = false := by simpa using hb
        rw [this, Bool.false_and]
      rw [e] at q
      exact q H2 (e1.trans e2)
    · refine s_ret (ev_allT (j := 2) (vs := [2]) (fun i => within 0 ((n : Int) - 1) (row.getD i 0)) (ev_var rfl) (ex_t e1 hS) (by rw [List.length_map]; omega) (fun x => rfl) ?_) ?_
      · intro i x H2 _ hx
        obtain rfl := int_at hx
        exact ev_call (ea_cons (ev_var rfl) (ea_cons ev_c (ea_cons (ev_op (ev_var rfl) ev_c rv_I0) ea_nil))) fun H3 e3 Q' q' E' => ⟨_, some (row.getD i 0), _, _, rfl, (DtAt.int _).num, fun H4 e4 => q' H4 e4⟩
      · intro H2 e2
        have e : rowOk n row = (List.range (row.map V.int).length).all fun i => within 0 ((n : Int) - 1) (row.getD i 0) := by
          unfold rowOk
          have : decide (row.length = n) = true := by simpa using hb
          rw [this, Bool.true_and, List.length_map, all_rangeD]
        rw [← e]
        exact q H2 (e1.trans e2)
abbrev s__is_table : Stmt := top 92
theorem sc__is_table : FnScope ["thing", "size", "row"] ["thing", "size"] (defScope s__is_table) := ⟨rfl, rfl, rfl, by decide +kernel, rfl, by decide +kernel, by decide +kernel⟩
theorem ok__is_table {f : Addr} {fd : FuncData} (F : FnP K "_is_table" s__is_table f fd) {f__is_row : Addr} {fd__is_row : FuncData} (F__is_row : FnP K "_is_row" s__is_row f__is_row fd__is_row) (g__is_row : mg "_is_row" = some (.ref f__is_row)) (G__is_row : FnOk P w K mg base CX0 3 f__is_row fd__is_row ["thing", "size"] spRowOk) (z_isinstance : mg "isinstance" = none) (z_tuple : mg "tuple" = none) (z_len : mg "len" = none) (z_all : mg "all" = none) : FnOk P w K mg base CX0 4 f fd ["thing", "size"] spTabOk := by
  have b__is_row : Binds K fd__is_row ["thing", "size"] [] := F__is_row.bindsN fun _ _ _ _ _ _ us hl => match us, hl with | [_, _], _ => rfl
  refine F.ok sc__is_table (fun vs H Q E h => ?_) (fun cdv A outer s H vs Q E hr h => ?_)
  · obtain ⟨p, n, t, rfl, _⟩ := h
    rfl
  · obtain ⟨p, n, t, rfl, hT, hl, hll, q⟩ := h
    have hu := hu_of hr
    have hu64 := hr.units
    have hr__is_row := hr.mono (by decide : 3 ≤ 3)
    refine ⟨_, PSs.nox (pss_cons (ps_if (PW.pt (pw_or (pt_not (pt_val (pe_callB call_isi (by rfl) z_isinstance PyProof.Rows.boot_isinstance (pa_cons (pv 0) (pa_cons (pe_bltn (v := .ty "tuple") rfl z_tuple (by decide +kernel) rfl) pa_nil))))) (pw_or1 (pt_cmpR op_ne (pe_callB call_len_seq (by rfl) z_len PySem.boot_len (pa_cons (pv 0) pa_nil)) (pv 1) (nomark _))))) (pss_one (ps_ret pe_bl)) pss_nil)
      (pss_one (ps_ret (pe_callB (cr_all rfl) (by rfl) z_all PyProof.Rows.boot_all (pa_cons (pe_lc (own := [("row", 2)]) (g := gName 2) (tt := tYes) (by rfl) sc__is_table.nd (pi_tup (pv 0)) (blkOk_by (own := [("row", 2)]) (N := ["thing", "size", "row"]) (sc := defScope s__is_table) (by decide +kernel)) (fun _ _ _ _ _ => pg_name (i := 2) sc__is_table.nd rfl (Or.inl rfl)) (fun _ _ _ _ _ => pts_nil) (fun _ _ _ _ _ => pe_call G__is_row hr__is_row rfl g__is_row F__is_row.kp b__is_row .nil pass0 (pa_cons (pv 2) (pa_cons (pv 1) pa_nil)))) pa_nil))))), ?_⟩
    obtain ⟨rs, hp, hrl, hrr⟩ := id hT
    have hS : SqT K H p (rs.map V.ref) := .inl (.inl hp)
    refine q_when (b := !decide (t.length = n)) (et_is (et_or (et_not (et_B (ev_isi (T := "tuple") (ev_var rfl) (tup_ty hp) kit_tt (.ty "tuple")))) (fun _ => et_test (ev_neI (ev_lenT (ev_var rfl) hS) (ev_var rfl)))) ?_) (fun hb H1 e1 => ?_) (fun hb H1 e1 => ?_)
    · rw [List.length_map, hrl]
      show (false || !((t.length : Int) == (n : Int))) = _
      by_cases h : t.length = n
      · rw [decide_eq_true h, h]
        simp
      · rw [decide_eq_false h]
        have : ((t.length : Int) == (n : Int)) = false := by
          rw [beq_eq_false_iff_ne]
          omega
        rw [this]
        rfl
    · refine s_ret ev_c fun H2 e2 => ?_
      have e : tabOk n t = false := by
        unfold tabOk
        have : decide (t.length = n) = false := by simpa using hb
        rw [this, Bool.false_and]
      rw [e] at q
      exact q H2 (e1.trans e2)
    · refine s_ret (ev_allT (j := 2) (vs := [2]) (fun i => rowOk n (t.getD i [])) (ev_var rfl) (ex_t e1 hS) (by rw [List.length_map]; omega) (fun x => rfl) ?_) ?_
      · intro i x H2 e2 hx
        rw [List.getElem?_map] at hx
        obtain ⟨r, hr1, rfl⟩ := Option.map_eq_some_iff.mp hx
        have hi : i < t.length := by
          have := (List.getElem?_eq_some_iff.mp hr1).1
          omega
        have hrow := List.getElem?_eq_getElem hi
        have hg : t.getD i [] = t[i] := by
          rw [List.getD_eq_getElem?_getD, hrow]
          rfl
        rw [hg]
        have hm := hll t[i] (List.getElem_mem hi)
        have hat := hrr i r t[i] hr1 hrow
        exact ev_call (ea_cons (ev_var rfl) (ea_cons (ev_var rfl) ea_nil)) fun H3 e3 Q' q' E' => ⟨r, n, t[i], rfl, (e1.trans (e2.trans e3)) _ _ hat, hm, fun H4 e4 => q' H4 e4⟩
      · intro H2 e2
        have e : tabOk n t = (List.range (rs.map V.ref).length).all fun i => rowOk n (t.getD i []) := by
          unfold tabOk
          have : decide (t.length = n) = true := by simpa using hb
          rw [this, Bool.true_and, List.length_map, hrl, all_rangeD]
        rw [← e]
        exact q H2 (e1.trans e2)
structure ThingsK (K : PySem.W.Frag) (mg : Str → Option Value) (aT : Addr) : Prop where
  g : mg "_THINGS" = some (.ref aT)
  at_ : ∀ H, SqT K H aT [.int 2, .int 6]
abbrev s__are_tables : Stmt := top 91
theorem sc__are_tables : FnScope ["sums", "products"] ["sums", "products"] (defScope s__are_tables) := ⟨rfl, rfl, rfl, by decide +kernel, rfl, by decide +kernel, by decide +kernel⟩
theorem ok__are_tables {f : Addr} {fd : FuncData} (F : FnP K "_are_tables" s__are_tables f fd) {f_is_whole : Addr} {fd_is_whole : FuncData} (F_is_whole : FnP K "is_whole" s_is_whole f_is_whole fd_is_whole) (g_is_whole : mg "is_whole" = some (.ref f_is_whole)) (G_is_whole : FnOk P w K mg base CX0 2 f_is_whole fd_is_whole ["thing", "least", "most"] (spWhole K)) {f__is_table : Addr} {fd__is_table : FuncData} (F__is_table : FnP K "_is_table" s__is_table f__is_table fd__is_table) (g__is_table : mg "_is_table" = some (.ref f__is_table)) (G__is_table : FnOk P w K mg base CX0 4 f__is_table fd__is_table ["thing", "size"] spTabOk) {aT : Addr} (TH : ThingsK K mg aT) (z_isinstance : mg "isinstance" = none) (z_tuple : mg "tuple" = none) (z_len : mg "len" = none) : FnOk P w K mg base CX0 5 f fd ["sums", "products"] spTwoOk := by
  have b_is_whole : Binds K fd_is_whole ["thing", "least", "most"] [] := F_is_whole.bindsN fun _ _ _ _ _ _ us hl => match us, hl with | [_, _, _], _ => rfl
  have b__is_table : Binds K fd__is_table ["thing", "size"] [] := F__is_table.bindsN fun _ _ _ _ _ _ us hl => match us, hl with | [_, _], _ => rfl
  refine F.ok sc__are_tables (fun vs H Q E h => ?_) (fun cdv A outer s H vs Q E hr h => ?_)
  · obtain ⟨p, q, S, M, rfl, _⟩ := h
    rfl
  · obtain ⟨p, q', S, M, rfl, hS, hM, hl, q⟩ := h
    have hu := hu_of hr
    have hu64 := hr.units
    have hr_is_whole := hr.mono (by decide : 2 ≤ 4)
    have hr__is_table := hr.mono (by decide : 4 ≤ 4)
    refine ⟨_, PSs.nox (pss_cons (ps_if (PW.pt (pw_or (pt_not (pt_val (pe_callB call_isi (by rfl) z_isinstance PyProof.Rows.boot_isinstance (pa_cons (pv 0) (pa_cons (pe_bltn (v := .ty "tuple") rfl z_tuple (by decide +kernel) rfl) pa_nil))))) (pw_or1 (pt_not (pt_val (pe_call G_is_whole hr_is_whole rfl g_is_whole F_is_whole.kp b_is_whole .nil pass0 (pa_cons (pe_callB call_len_seq (by rfl) z_len PySem.boot_len (pa_cons (pv 0) pa_nil)) (pa_cons (pe_ix ix_tup (pe_glob (v := .ref aT) rfl TH.g rfl) pe_int (fun _ _ => rfl)) (pa_cons (pe_ix ix_tup (pe_glob (v := .ref aT) rfl TH.g rfl) pe_int (fun _ _ => rfl)) pa_nil))))))))) (pss_one (ps_ret pe_bl)) pss_nil)
      (pss_one (ps_ret (pe_and (pe_call G__is_table hr__is_table rfl g__is_table F__is_table.kp b__is_table .nil pass0 (pa_cons (pv 0) (pa_cons (pe_callB call_len_seq (by rfl) z_len PySem.boot_len (pa_cons (pv 0) pa_nil)) pa_nil))) (pe_one (pe_call G__is_table hr__is_table rfl g__is_table F__is_table.kp b__is_table .nil pass0 (pa_cons (pv 1) (pa_cons (pe_callB call_len_seq (by rfl) z_len PySem.boot_len (pa_cons (pv 0) pa_nil)) pa_nil)))))))), ?_⟩
    obtain ⟨rs, hp, hrl, hrr⟩ := id hS
    have hSq : SqT K H p (rs.map V.ref) := .inl (.inl hp)
    have hlen : ((rs.map V.ref).length : Int) = (S.length : Int) := by rw [List.length_map, hrl]
    refine q_when (b := !(decide (2 ≤ S.length) && decide (S.length ≤ 6))) (et_is (et_or (et_not (et_B (ev_isi (T := "tuple") (ev_var rfl) (tup_ty hp) kit_tt (.ty "tuple")))) (fun _ => et_not (et_B (ev_call (z := .bl (within 2 6 (S.length : Int))) (ea_cons (ev_lenT (ev_var rfl) hSq) (ea_cons (ev_op ev_c ev_c (rv_ixT (TH.at_ H) (v := .int 2) rfl)) (ea_cons (ev_op ev_c ev_c (rv_ixT (TH.at_ H) (v := .int 6) rfl)) ea_nil))) fun H1 e1 Q' q' E' => ⟨_, some (S.length : Int), _, _, by rw [hlen]; rfl, (DtAt.int _).num, fun H2 e2 => q' H2 e2⟩)))) ?_) (fun hb H1 e1 => ?_) (fun hb H1 e1 => ?_)
    · show (false || !within 2 6 (S.length : Int)) = _
      unfold within
      have h1 : decide ((2 : Int) ≤ (S.length : Int)) = decide (2 ≤ S.length) := by rw [decide_eq_decide]; omega
      have h2 : decide ((S.length : Int) ≤ 6) = decide (S.length ≤ 6) := by rw [decide_eq_decide]; omega
      rw [h1, h2, Bool.false_or]
    · refine s_ret ev_c fun H2 e2 => ?_
      have e : twoOk S M = false := by
        unfold twoOk
        have h1 : (decide (2 ≤ S.length) && decide (S.length ≤ 6)) = false := by rw [Bool.not_eq_true'] at hb; exact hb
        rw [h1, Bool.false_and]
      rw [e] at q
      exact q H2 (e1.trans e2)
    · have h1 : (decide (2 ≤ S.length) && decide (S.length ≤ 6)) = true := by rw [Bool.not_eq_false'] at hb; exact hb
      have e : twoOk S M = (tabOk S.length S && tabOk S.length M) := by
        unfold twoOk
        rw [h1, Bool.true_and]
      rw [e] at q
      have lS := hl S (.inl rfl)
      have lM := hl M (.inr rfl)
      refine s_ret (ev_andV (a := tabOk S.length S) (b := tabOk S.length M) (ev_call (ea_cons (ev_var rfl) (ea_cons (ev_lenT (ev_var rfl) (ex_t e1 hSq)) ea_nil)) fun H2 e2 Q' q' E' => ⟨p, S.length, S, by rw [hlen]; rfl, hS.ex (e1.trans e2), lS.1, lS.2, fun H3 e3 => q' H3 e3⟩) (fun _ => ev_call (ea_cons (ev_var rfl) (ea_cons (ev_lenT (ev_var rfl) (ex_t e1 hSq)) ea_nil)) fun H2 e2 Q' k' E' => ⟨q', S.length, M, by rw [hlen]; rfl, hM.ex (e1.trans e2), lM.1, lM.2, fun H3 e3 => k' H3 e3⟩)) fun H2 e2 => q H2 (e1.trans e2)
end
end D1
end
section
set_option Elab.async false
set_option linter.all false
set_option maxRecDepth 100000
set_option maxHeartbeats 4000000
/-! R6: kinds of tuples; Rings; the form -/
namespace D1
open PySem L2 Evl RZ ClX PySem.VX
def bare : RK → Bool
  | .lot _ => false
  | .pair _ _ => false
  | .rest _ => false
  | .terms _ => false
  | .tab _ _ => false
  | _ => true
/-- what the sized ones have behind their names -/
def sized : RK → Option Nat
  | .lot n => some n
  | .rest n => some n
  | .terms n => some n
  | _ => none
theorem bare_made {k : RK} (h : bare k = true) : madeD k = .tuple [.str (nameOf k)] := by cases k <;> first | rfl | cases h
def RingAt (C : KC) (CR : Addr) (H : Hp) (v : V) (k : RK) : Prop := ∃ (r dr : Addr) (fr : List (Str × V)) (m x : V), v = .ref r ∧ H r = some (.ins CR dr fr) ∧ fr.lookup ("_made" : Str) = some m ∧ DtAt H m (madeD k) ∧ fr.lookup ("_kind" : Str) = some x ∧ KindAt C H k x ∧ ∀ f, f ∉ fields → fr.lookup f = none
theorem RingAt.kp {C : KC} {CR : Addr} {H H' : Hp} {v : V} {k : RK} (h : RingAt C CR H v k) (x : Kp H H') : RingAt C CR H' v k := by
  obtain ⟨r, dr, fr, m, y, h1, h2, h3, h4, h5, h6, h7⟩ := h
  exact ⟨r, dr, fr, m, y, h1, x.ins h2, h3, h4.kp x, h5, h6.kp x, h7⟩
theorem RingAt.ex {C : KC} {CR : Addr} {H H' : Hp} {v : V} {k : RK} (h : RingAt C CR H v k) (e : Ex H H') : RingAt C CR H' v k := h.kp (.ex e)
structure SizesC (K : PySem.W.Frag) (w : World) (mg : Str → Option Value) (d : Addr) (es : Array DictEntry) (n : Nat) (a2 a3 a4 : Addr) : Prop where
  g : mg "_SIZES" = some (.ref d)
  D : KDict K w d es n
  no : ∀ k : RK, sized k = none → PySem.W.nsIn K d (nameOf k) = some none
  lot : PySem.W.nsIn K d "lot" = some (some (.ref a2))
  rest : PySem.W.nsIn K d "rest" = some (some (.ref a3))
  terms : PySem.W.nsIn K d "terms" = some (some (.ref a4))
  two : ∀ H, SqT K H a2 [.int 1, .int 12]
  three : ∀ H, SqT K H a3 [.int 2, .int 1000]
  four : ∀ H, SqT K H a4 [.int 1, .int 4]
structure BareK (K : PySem.W.Frag) (mg : Str → Option Value) (aB : Addr) : Prop where
  g : mg "_BARE" = some (.ref aB)
  at_ : ∀ H, SqT K H aB [.str "truth", .str "count", .str "least", .str "most", .str "narrow", .str "share"]
/-- the tables in it -/
def RK.tabs : RK → List (Tb × Tb)
  | .tab S M => [(S, M)]
  | .pair a b => a.tabs ++ b.tabs
  | _ => []
theorem RK.tabs_ok : ∀ {k : RK}, k.ok → ∀ t ∈ k.tabs, GoodTab t.1.length t.1 t.2
  | .tab S M, h, t, ht => by
    have ht : t ∈ [(S, M)] := ht
    rw [List.mem_singleton] at ht
    subst ht
    exact h
  | .pair a b, h, t, ht => by
    obtain ⟨h1, h2⟩ : a.ok ∧ b.ok := h
    have ht : t ∈ a.tabs ++ b.tabs := ht
    rcases List.mem_append.mp ht with ht | ht
    · exact RK.tabs_ok h1 t ht
    · exact RK.tabs_ok h2 t ht
  | .truth, _, t, ht => by cases ht
  | .count, _, t, ht => by cases ht
  | .least, _, t, ht => by cases ht
  | .most, _, t, ht => by cases ht
  | .narrow, _, t, ht => by cases ht
  | .share, _, t, ht => by cases ht
  | .lot _, _, t, ht => by cases ht
  | .rest _, _, t, ht => by cases ht
  | .terms _, _, t, ht => by cases ht
/-- a list of pairs of tables as it lies -/
def PrsAt (H : Hp) (rs : List Addr) (ts : List (Tb × Tb)) : Prop := rs.length = ts.length ∧ ∀ (i : Nat) r t, rs[i]? = some r → ts[i]? = some t → ∃ p q, H r = some (.tup [.ref p, .ref q]) ∧ TabAt H p t.1 ∧ TabAt H q t.2
theorem PrsAt.ex {H H' : Hp} {rs : List Addr} {ts : List (Tb × Tb)} (h : PrsAt H rs ts) (e : Ex H H') : PrsAt H' rs ts := ⟨h.1, fun i r t a b => by
  obtain ⟨p, q, h1, h2, h3⟩ := h.2 i r t a b
  exact ⟨p, q, e _ _ h1, h2.ex e, h3.ex e⟩⟩
theorem PrsAt.append {H : Hp} {rs rs' : List Addr} {t t' : List (Tb × Tb)} (h : PrsAt H rs t) (h' : PrsAt H rs' t') : PrsAt H (rs ++ rs') (t ++ t') := by
  obtain ⟨h1, h2⟩ := h
  obtain ⟨h3, h4⟩ := h'
  refine ⟨by simp [h1, h3], fun i r row a b => ?_⟩
  by_cases hi : i < rs.length
  · rw [List.getElem?_append_left hi] at a
    rw [List.getElem?_append_left (by omega)] at b
    exact h2 i r row a b
  · rw [List.getElem?_append_right (by omega)] at a
    rw [List.getElem?_append_right (by omega), ← h1] at b
    exact h4 _ r row a b
theorem tabs_len : ∀ m : RK, m.tabs.length ≤ 2 ^ m.depth
  | .tab S M => Nat.le_refl _
  | .pair a b => by
    have h1 := tabs_len a
    have h2 := tabs_len b
    show (a.tabs ++ b.tabs).length ≤ 2 ^ (max a.depth b.depth + 1)
    have h3 : 2 ^ a.depth ≤ 2 ^ max a.depth b.depth := Nat.pow_le_pow_right (by decide) (Nat.le_max_left _ _)
    have h4 : 2 ^ b.depth ≤ 2 ^ max a.depth b.depth := Nat.pow_le_pow_right (by decide) (Nat.le_max_right _ _)
    rw [List.length_append, Nat.pow_succ]
    omega
  | .truth => Nat.zero_le _
  | .count => Nat.zero_le _
  | .least => Nat.zero_le _
  | .most => Nat.zero_le _
  | .narrow => Nat.zero_le _
  | .share => Nat.zero_le _
  | .lot _ => Nat.zero_le _
  | .rest _ => Nat.zero_le _
  | .terms _ => Nat.zero_le _
def spBare (C : KC) : Sp := fun vs H Q _ => ∃ k : RK, vs = [.str (nameOf k)] ∧ bare k = true ∧ ∀ (r : V) H', Ex H H' → KindAt C H' k r → Q r H'
def spSized (C : KC) : Sp := fun vs H Q _ => ∃ (k : RK) (n : Nat), vs = [.str (nameOf k), .int n] ∧ sized k = some n ∧ k.ok ∧ ∀ (r : V) H', Ex H H' → KindAt C H' k r → Q r H'
def spKindOf (C : KC) (d : Nat) : Sp := fun vs H Q _ => ∃ (v : V) (k : RK), vs = [v] ∧ DtAt H v (madeD k) ∧ k.depth < d ∧ k.ok ∧ ∀ (r : V) H', Ex H H' → KindAt C H' k r → Q r H'
def spRingI (C : KC) (CR : Addr) : Sp := fun vs H Q _ => ∃ (a dx : Addr) (v : V) (k : RK), vs = [.ref a, v] ∧ H a = some (.ins CR dx []) ∧ DtAt H v (madeD k) ∧ k.depth < 4 ∧ k.ok ∧ ∀ H', Only a H H' → RingAt C CR H' (.ref a) k → Q .non H'
def spForm (d : Nat) : Sp := fun vs H Q _ => ∃ (v : V) (k : RK) (n : Int), vs = [v, .int n] ∧ DtAt H v (madeD k) ∧ k.ok ∧ k.depth < d ∧ (k.depth : Int) ≤ n ∧ ∀ H', Ex H H' → Q (.bl true) H'
def spTabs (d : Nat) : Sp := fun vs H Q _ => ∃ (v : V) (k : RK), vs = [v] ∧ DtAt H v (madeD k) ∧ k.depth < d ∧ ∀ (D : Addr) (rs : List Addr) H', Ex H H' → H D = none → H' D = some (.lst (rs.map V.ref)) → PrsAt H' rs k.tabs → Q (.ref D) H'
def spRingOf (C : KC) (CR : Addr) : Sp := fun vs H Q _ => ∃ (v : V) (k : RK), vs = [v] ∧ DtAt H v (madeD k) ∧ k.ok ∧ k.depth < 4 ∧ ∀ (r : V) H', Ex H H' → RingAt C CR H' r k → Q r H'
theorem sized_is {k : RK} {n : Nat} (h : sized k = some n) : k = .lot n ∨ k = .rest n ∨ k = .terms n := by
  cases k <;> first | exact .inl (congrArg _ (Option.some.inj h)) | exact .inr (.inl (congrArg _ (Option.some.inj h))) | exact .inr (.inr (congrArg _ (Option.some.inj h))) | cases h
/-- what a kind is -/
theorem sort_of (k : RK) : bare k = true ∨ (∃ n, sized k = some n) ∨ (∃ S M, k = .tab S M) ∨ ∃ y z, k = .pair y z := by
  cases k <;> first | exact .inl rfl | exact .inr (.inl ⟨_, rfl⟩) | exact .inr (.inr (.inl ⟨_, _, rfl⟩)) | exact .inr (.inr (.inr ⟨_, _, rfl⟩))
theorem tab_named {k : RK} (h : nameOf k = "table") : ∃ S M, k = .tab S M := by
  cases k with
  | truth => exact absurd (show ("truth" : Str) = "table" from h) (by decide)
  | count => exact absurd (show ("count" : Str) = "table" from h) (by decide)
  | least => exact absurd (show ("least" : Str) = "table" from h) (by decide)
  | most => exact absurd (show ("most" : Str) = "table" from h) (by decide)
  | narrow => exact absurd (show ("narrow" : Str) = "table" from h) (by decide)
  | share => exact absurd (show ("share" : Str) = "table" from h) (by decide)
  | lot _ => exact absurd (show ("lot" : Str) = "table" from h) (by decide)
  | pair _ _ => exact absurd (show ("pair" : Str) = "table" from h) (by decide)
  | rest _ => exact absurd (show ("rest" : Str) = "table" from h) (by decide)
  | terms _ => exact absurd (show ("terms" : Str) = "table" from h) (by decide)
  | tab _ _ => exact ⟨_, _, rfl⟩
theorem pair_named {k : RK} (h : nameOf k = "pair") : ∃ y z, k = .pair y z := by
  cases k with
  | truth => exact absurd (show ("truth" : Str) = "pair" from h) (by decide)
  | count => exact absurd (show ("count" : Str) = "pair" from h) (by decide)
  | least => exact absurd (show ("least" : Str) = "pair" from h) (by decide)
  | most => exact absurd (show ("most" : Str) = "pair" from h) (by decide)
  | narrow => exact absurd (show ("narrow" : Str) = "pair" from h) (by decide)
  | share => exact absurd (show ("share" : Str) = "pair" from h) (by decide)
  | lot _ => exact absurd (show ("lot" : Str) = "pair" from h) (by decide)
  | pair _ _ => exact ⟨_, _, rfl⟩
  | rest _ => exact absurd (show ("rest" : Str) = "pair" from h) (by decide)
  | terms _ => exact absurd (show ("terms" : Str) = "pair" from h) (by decide)
  | tab _ _ => exact absurd (show ("table" : Str) = "pair" from h) (by decide)
/-- the tuple of which a ring is made -/
theorem made_at {H : Hp} {v : V} {k : RK} (h : DtAt H v (madeD k)) : ∃ (a : Addr) (xs : List V), v = .ref a ∧ H a = some (.tup (.str (nameOf k) :: xs)) ∧ (bare k = true → xs = []) ∧ (∀ n, sized k = some n → xs = [.int n]) ∧ (∀ S M, k = .tab S M → ∃ u w, xs = [u, w] ∧ DtAt H u (tabD S) ∧ DtAt H w (tabD M)) ∧ ∀ x y, k = .pair x y → ∃ u w, xs = [u, w] ∧ DtAt H u (madeD x) ∧ DtAt H w (madeD y) := by
  have two : ∀ (z : Str) (n : Nat), DtAt H v (.tuple [.str z, .int n]) → ∃ a : Addr, v = .ref a ∧ H a = some (.tup [.str z, .int n]) := fun z n h => by
    obtain ⟨a, u, w, rfl, ha, h1, h2⟩ := h.two
    obtain rfl := h1.str_inv
    obtain rfl := h2.int_inv
    exact ⟨a, rfl, ha⟩
  cases k with
  | lot n =>
    obtain ⟨a, rfl, ha⟩ := two _ _ h
    exact ⟨a, _, rfl, ha, fun h => (by cases h), fun m e => (by cases e; rfl), fun x y e => (by cases e), fun x y e => (by cases e)⟩
  | rest n =>
    obtain ⟨a, rfl, ha⟩ := two _ _ h
    exact ⟨a, _, rfl, ha, fun h => (by cases h), fun m e => (by cases e; rfl), fun x y e => (by cases e), fun x y e => (by cases e)⟩
  | terms n =>
    obtain ⟨a, rfl, ha⟩ := two _ _ h
    exact ⟨a, _, rfl, ha, fun h => (by cases h), fun m e => (by cases e; rfl), fun x y e => (by cases e), fun x y e => (by cases e)⟩
  | tab S M =>
    obtain ⟨a, u, w, t, rfl, ha, h1, h2, h3⟩ := h.three
    obtain rfl := h1.str_inv
    exact ⟨a, _, rfl, ha, fun h => (by cases h), fun m e => (by cases e), fun x' y' e => (by cases e; exact ⟨w, t, rfl, h2, h3⟩), fun x y e => (by cases e)⟩
  | pair x y =>
    obtain ⟨a, u, w, t, rfl, ha, h1, h2, h3⟩ := h.three
    obtain rfl := h1.str_inv
    exact ⟨a, _, rfl, ha, fun h => (by cases h), fun m e => (by cases e), fun x y e => (by cases e), fun x' y' e => (by cases e; exact ⟨w, t, rfl, h2, h3⟩)⟩
  | _ =>
    obtain ⟨a, u, rfl, ha, h1⟩ := h.one
    obtain rfl := h1.str_inv
    exact ⟨a, _, rfl, ha, fun _ => rfl, fun m e => (by cases e), fun x y e => (by cases e), fun x y e => (by cases e)⟩
section
variable {P : Program} {w : World} {K : PySem.W.Frag} {mg : Str → Option Value} {base : Heap}
abbrev s__bare_kind : Stmt := top 47
theorem sc__bare_kind : FnScope ["name"] ["name"] (defScope s__bare_kind) := ⟨rfl, rfl, rfl, by decide +kernel, rfl, by decide +kernel, by decide +kernel⟩
theorem ok__bare_kind {f : Addr} {fd : FuncData} (F : FnP K "_bare_kind" s__bare_kind f fd) {C : KC} {f_Truth_init : Addr} {fd_Truth_init : FuncData} (b_Truth_init : Binds K fd_Truth_init ["self"] []) (G_Truth_init : FnOk P w K mg base CX0 2 f_Truth_init fd_Truth_init ["self"] (spMk C .truth [])) (M_Truth : L2.Mk K C.tr f_Truth_init) (g_Truth : mg "Truth" = some (.ref C.tr)) {f_Count_init : Addr} {fd_Count_init : FuncData} (b_Count_init : Binds K fd_Count_init ["self"] []) (G_Count_init : FnOk P w K mg base CX0 3 f_Count_init fd_Count_init ["self"] (spMk C .count [])) (M_Count : L2.Mk K C.co f_Count_init) (g_Count : mg "Count" = some (.ref C.co)) {f_Bounded_init : Addr} {fd_Bounded_init : FuncData} (b_Bounded_init : Binds K fd_Bounded_init ["self", "text", "sign"] []) (G_Bounded_init : FnOk P w K mg base CX0 3 f_Bounded_init fd_Bounded_init ["self", "text", "sign"] (spMkBound C)) (M_Bounded : L2.Mk K C.bo f_Bounded_init) (g_Bounded : mg "Bounded" = some (.ref C.bo)) {f_Narrow_init : Addr} {fd_Narrow_init : FuncData} (b_Narrow_init : Binds K fd_Narrow_init ["self"] []) (G_Narrow_init : FnOk P w K mg base CX0 3 f_Narrow_init fd_Narrow_init ["self"] (spMk C .narrow [])) (M_Narrow : L2.Mk K C.na f_Narrow_init) (g_Narrow : mg "Narrow" = some (.ref C.na)) {f_Share_init : Addr} {fd_Share_init : FuncData} (b_Share_init : Binds K fd_Share_init ["self"] []) (G_Share_init : FnOk P w K mg base CX0 2 f_Share_init fd_Share_init ["self"] (spMk C .share [])) (M_Share : L2.Mk K C.sh f_Share_init) (g_Share : mg "Share" = some (.ref C.sh)) : FnOk P w K mg base (CX0) 5 f fd ["name"] (spBare C) := by
  refine F.ok (CX := CX0) sc__bare_kind (fun vs H Q E h => ?_) (fun cdv A outer s H vs Q E hr h => ?_)
  · obtain ⟨k, rfl, _⟩ := h
    rfl
  · obtain ⟨k, rfl, hb, q⟩ := h
    have hu := hu_of hr
    have hu64 := hr.units
    have hr_Truth := hr.mono (by decide : 2 + 1 ≤ 4)
    have hr_Share := hr.mono (by decide : 2 + 1 ≤ 4)
    have hr_Count := hr.mono (by decide : 3 + 1 ≤ 4)
    have hr_Bounded := hr.mono (by decide : 3 + 1 ≤ 4)
    have hr_Narrow := hr.mono (by decide : 3 + 1 ≤ 4)
    refine ⟨_, PSs.nox (pss_cons (ps_if (pt_cmpR op_eq (pv 0) pe_str (nomark _)) (pss_one (ps_ret (pe_make0 M_Truth G_Truth_init hr_Truth rfl g_Truth b_Truth_init .nil pass0))) pss_nil)
      (pss_cons (ps_if (pt_cmpR op_eq (pv 0) pe_str (nomark _)) (pss_one (ps_ret (pe_make0 M_Count G_Count_init hr_Count rfl g_Count b_Count_init .nil pass0))) pss_nil)
      (pss_cons (ps_if (pt_cmpR op_eq (pv 0) pe_str (nomark _)) (pss_one (ps_ret (pe_make M_Bounded G_Bounded_init hr_Bounded rfl g_Bounded b_Bounded_init .nil pass0 (pa_cons pe_str (pa_cons pe_int pa_nil))))) pss_nil)
      (pss_cons (ps_if (pt_cmpR op_eq (pv 0) pe_str (nomark _)) (pss_one (ps_ret (pe_make M_Bounded G_Bounded_init hr_Bounded rfl g_Bounded b_Bounded_init .nil pass0 (pa_cons pe_str (pa_cons (pe_un un_neg pe_int) pa_nil))))) pss_nil)
      (pss_cons (ps_if (pt_cmpR op_eq (pv 0) pe_str (nomark _)) (pss_one (ps_ret (pe_make0 M_Narrow G_Narrow_init hr_Narrow rfl g_Narrow b_Narrow_init .nil pass0))) pss_nil)
      (pss_one (ps_ret (pe_make0 M_Share G_Share_init hr_Share rfl g_Share b_Share_init .nil pass0)))))))), ?_⟩
    cases k with
    | truth =>
      refine ⟨_, rfl, rfl, _, rfl, yes_of (by first | rfl | (rw [dec_str]; rfl)) ?_⟩
      intro x dx nx ndx nex
      exact ⟨x, dx, rfl, upd_same, fun H' o1 hk => ⟨rfl, q (.ref x) H' (made_ex nx ndx o1) hk⟩⟩
    | count =>
      refine ⟨_, rfl, rfl, _, rfl, no_of (by first | rfl | (rw [dec_str]; rfl)) ?_⟩
      refine ⟨_, rfl, rfl, _, rfl, yes_of (by first | rfl | (rw [dec_str]; rfl)) ?_⟩
      intro x dx nx ndx nex
      exact ⟨x, dx, rfl, upd_same, fun H' o1 hk => ⟨rfl, q (.ref x) H' (made_ex nx ndx o1) hk⟩⟩
    | least =>
      refine ⟨_, rfl, rfl, _, rfl, no_of (by first | rfl | (rw [dec_str]; rfl)) ?_⟩
      refine ⟨_, rfl, rfl, _, rfl, no_of (by first | rfl | (rw [dec_str]; rfl)) ?_⟩
      refine ⟨_, rfl, rfl, _, rfl, yes_of (by first | rfl | (rw [dec_str]; rfl)) ?_⟩
      intro x dx nx ndx nex
      exact ⟨.least, _, _, x, dx, rfl, .inl ⟨rfl, rfl, rfl⟩, upd_same, fun H' o1 hk => ⟨rfl, q (.ref x) H' (made_ex nx ndx o1) hk⟩⟩
    | most =>
      refine ⟨_, rfl, rfl, _, rfl, no_of (by first | rfl | (rw [dec_str]; rfl)) ?_⟩
      refine ⟨_, rfl, rfl, _, rfl, no_of (by first | rfl | (rw [dec_str]; rfl)) ?_⟩
      refine ⟨_, rfl, rfl, _, rfl, no_of (by first | rfl | (rw [dec_str]; rfl)) ?_⟩
      refine ⟨_, rfl, rfl, _, rfl, yes_of (by first | rfl | (rw [dec_str]; rfl)) ?_⟩
      refine ⟨1, rfl, ?_⟩
      intro x dx nx ndx nex
      exact ⟨.most, _, _, x, dx, rfl, .inr ⟨rfl, rfl, rfl⟩, upd_same, fun H' o1 hk => ⟨rfl, q (.ref x) H' (made_ex nx ndx o1) hk⟩⟩
    | narrow =>
      refine ⟨_, rfl, rfl, _, rfl, no_of (by first | rfl | (rw [dec_str]; rfl)) ?_⟩
      refine ⟨_, rfl, rfl, _, rfl, no_of (by first | rfl | (rw [dec_str]; rfl)) ?_⟩
      refine ⟨_, rfl, rfl, _, rfl, no_of (by first | rfl | (rw [dec_str]; rfl)) ?_⟩
      refine ⟨_, rfl, rfl, _, rfl, no_of (by first | rfl | (rw [dec_str]; rfl)) ?_⟩
      refine ⟨_, rfl, rfl, _, rfl, yes_of (by first | rfl | (rw [dec_str]; rfl)) ?_⟩
      intro x dx nx ndx nex
      exact ⟨x, dx, rfl, upd_same, fun H' o1 hk => ⟨rfl, q (.ref x) H' (made_ex nx ndx o1) hk⟩⟩
    | share =>
      refine ⟨_, rfl, rfl, _, rfl, no_of (by first | rfl | (rw [dec_str]; rfl)) ?_⟩
      refine ⟨_, rfl, rfl, _, rfl, no_of (by first | rfl | (rw [dec_str]; rfl)) ?_⟩
      refine ⟨_, rfl, rfl, _, rfl, no_of (by first | rfl | (rw [dec_str]; rfl)) ?_⟩
      refine ⟨_, rfl, rfl, _, rfl, no_of (by first | rfl | (rw [dec_str]; rfl)) ?_⟩
      refine ⟨_, rfl, rfl, _, rfl, no_of (by first | rfl | (rw [dec_str]; rfl)) ?_⟩
      intro x dx nx ndx nex
      exact ⟨x, dx, rfl, upd_same, fun H' o1 hk => ⟨rfl, q (.ref x) H' (made_ex nx ndx o1) hk⟩⟩
    | _ => cases hb
abbrev s__sized_kind : Stmt := top 46
theorem sc__sized_kind : FnScope ["name", "size"] ["name", "size"] (defScope s__sized_kind) := ⟨rfl, rfl, rfl, by decide +kernel, rfl, by decide +kernel, by decide +kernel⟩
theorem ok__sized_kind {f : Addr} {fd : FuncData} (F : FnP K "_sized_kind" s__sized_kind f fd) {C : KC} {f_Lot_init : Addr} {fd_Lot_init : FuncData} (b_Lot_init : Binds K fd_Lot_init ["self", "size"] []) (G_Lot_init : FnOk P w K mg base CX0 2 f_Lot_init fd_Lot_init ["self", "size"] (spMkLot C)) (M_Lot : L2.Mk K C.lo f_Lot_init) (g_Lot : mg "Lot" = some (.ref C.lo)) {f_Rest_init : Addr} {fd_Rest_init : FuncData} (b_Rest_init : Binds K fd_Rest_init ["self", "divisor"] []) (G_Rest_init : FnOk P w K mg base CX0 4 f_Rest_init fd_Rest_init ["self", "divisor"] (spMkRest C)) (M_Rest : L2.Mk K C.re f_Rest_init) (g_Rest : mg "Rest" = some (.ref C.re)) {f_Terms_init : Addr} {fd_Terms_init : FuncData} (b_Terms_init : Binds K fd_Terms_init ["self", "unknowns"] []) (G_Terms_init : FnOk P w K mg base CX0 2 f_Terms_init fd_Terms_init ["self", "unknowns"] (spMkTerms C)) (M_Terms : L2.Mk K C.te f_Terms_init) (g_Terms : mg "Terms" = some (.ref C.te)) : FnOk P w K mg base (CX0) 6 f fd ["name", "size"] (spSized C) := by
  refine F.ok (CX := CX0) sc__sized_kind (fun vs H Q E h => ?_) (fun cdv A outer s H vs Q E hr h => ?_)
  · obtain ⟨k, n, rfl, _⟩ := h
    rfl
  · obtain ⟨k, n, rfl, hs, hok, q⟩ := h
    have hu := hu_of hr
    have hu64 := hr.units
    have hr_Lot := hr.mono (by decide : 2 + 1 ≤ 5)
    have hr_Rest := hr.mono (by decide : 4 + 1 ≤ 5)
    have hr_Terms := hr.mono (by decide : 2 + 1 ≤ 5)
    refine ⟨_, PSs.nox (pss_cons (ps_if (pt_cmpR op_eq (pv 0) pe_str (nomark _)) (pss_one (ps_ret (pe_make M_Lot G_Lot_init hr_Lot rfl g_Lot b_Lot_init .nil pass0 (pa_cons (pv 1) pa_nil)))) pss_nil)
      (pss_cons (ps_if (pt_cmpR op_eq (pv 0) pe_str (nomark _)) (pss_one (ps_ret (pe_make M_Rest G_Rest_init hr_Rest rfl g_Rest b_Rest_init .nil pass0 (pa_cons (pv 1) pa_nil)))) pss_nil)
      (pss_one (ps_ret (pe_make M_Terms G_Terms_init hr_Terms rfl g_Terms b_Terms_init .nil pass0 (pa_cons (pv 1) pa_nil)))))), ?_⟩
    rcases sized_is hs with rfl | rfl | rfl
    · obtain ⟨n1, n2⟩ : 1 ≤ n ∧ n ≤ 12 := hok
      refine ⟨_, rfl, rfl, _, rfl, yes_of (by first | rfl | (rw [dec_str]; rfl)) ⟨_, rfl, ?_⟩⟩
      intro x dx nx ndx nex
      exact ⟨n, x, dx, rfl, n1, n2, upd_same, fun H' o1 hk => ⟨rfl, q (.ref x) H' (made_ex nx ndx o1) hk⟩⟩
    · obtain ⟨n1, n2⟩ : 2 ≤ n ∧ n ≤ 1000 := hok
      refine ⟨_, rfl, rfl, _, rfl, no_of (by first | rfl | (rw [dec_str]; rfl)) ?_⟩
      refine ⟨_, rfl, rfl, _, rfl, yes_of (by first | rfl | (rw [dec_str]; rfl)) ⟨_, rfl, ?_⟩⟩
      intro x dx nx ndx nex
      exact ⟨n, x, dx, rfl, n1, n2, upd_same, fun H' o1 hk => ⟨rfl, q (.ref x) H' (made_ex nx ndx o1) hk⟩⟩
    · obtain ⟨n1, n2⟩ : 1 ≤ n ∧ n ≤ 4 := hok
      refine ⟨_, rfl, rfl, _, rfl, no_of (by first | rfl | (rw [dec_str]; rfl)) ?_⟩
      refine ⟨_, rfl, rfl, _, rfl, no_of (by first | rfl | (rw [dec_str]; rfl)) ⟨_, rfl, ?_⟩⟩
      intro x dx nx ndx nex
      exact ⟨n, x, dx, rfl, n1, n2, upd_same, fun H' o1 hk => ⟨rfl, q (.ref x) H' (made_ex nx ndx o1) hk⟩⟩
abbrev s_kind_of : Stmt := top 45
theorem sc_kind_of : FnScope ["made", "name"] ["made"] (defScope s_kind_of) := ⟨rfl, rfl, rfl, by decide +kernel, rfl, by decide +kernel, by decide +kernel⟩
theorem ok_kind_of {f : Addr} {fd : FuncData} (F : FnP K "kind_of" s_kind_of f fd) (g_kind_of : mg "kind_of" = some (.ref f)) {C : KC} {f_Pair_init : Addr} {fd_Pair_init : FuncData} (b_Pair_init : Binds K fd_Pair_init ["self", "left", "right"] []) (G_Pair_init : FnOk P w K mg base CX0 2 f_Pair_init fd_Pair_init ["self", "left", "right"] (spMkPair C)) (M_Pair : L2.Mk K C.pa f_Pair_init) (g_Pair : mg "Pair" = some (.ref C.pa)) {f_Table_init : Addr} {fd_Table_init : FuncData} (b_Table_init : Binds K fd_Table_init ["self", "sums", "products"] []) (G_Table_init : FnOk P w K mg base CX0 4 f_Table_init fd_Table_init ["self", "sums", "products"] (spMkTab C)) (M_Table : L2.Mk K C.ta f_Table_init) (g_Table : mg "Table" = some (.ref C.ta)) {f__bare_kind : Addr} {fd__bare_kind : FuncData} (F__bare_kind : FnP K "_bare_kind" s__bare_kind f__bare_kind fd__bare_kind) (g__bare_kind : mg "_bare_kind" = some (.ref f__bare_kind)) (G__bare_kind : FnOk P w K mg base (CX0) 5 f__bare_kind fd__bare_kind ["name"] (spBare C)) {f__sized_kind : Addr} {fd__sized_kind : FuncData} (F__sized_kind : FnP K "_sized_kind" s__sized_kind f__sized_kind fd__sized_kind) (g__sized_kind : mg "_sized_kind" = some (.ref f__sized_kind)) (G__sized_kind : FnOk P w K mg base (CX0) 6 f__sized_kind fd__sized_kind ["name", "size"] (spSized C)) (z_len : mg "len" = none) : ∀ d : Nat, d ≤ 4 → FnOk P w K mg base CX0 (d + 6) f fd ["made"] (spKindOf C d) := by
  have F_kind_of := F
  have b_kind_of : Binds K fd ["made"] [] := F.bindsN fun _ _ _ _ _ _ us hl => match us, hl with | [_], _ => rfl
  have b__bare_kind : Binds K fd__bare_kind ["name"] [] := F__bare_kind.bindsN fun _ _ _ _ _ _ us hl => match us, hl with | [_], _ => rfl
  have b__sized_kind : Binds K fd__sized_kind ["name", "size"] [] := F__sized_kind.bindsN fun _ _ _ _ _ _ us hl => match us, hl with | [_, _], _ => rfl
  intro d
  induction d with
  | zero =>
    intro _
    exact fn_never fun vs H Q E ⟨v, k, _, _, h, _⟩ => Nat.not_lt_zero _ h
  | succ d ih =>
    intro hd
    have G_kind_of := ih (by omega)
    refine F.ok sc_kind_of (fun vs H Q E h => ?_) (fun cdv A outer s H vs Q E hr h => ?_)
    · obtain ⟨v, k, rfl, _⟩ := h
      rfl
    · obtain ⟨v, k, rfl, hM, hdep, hok, q⟩ := h
      have hr_kind_of := hr
      have hr_Pair := hr.mono (by omega : 2 + 1 ≤ d + 6)
      have hr_Table := hr.mono (by omega : 4 + 1 ≤ d + 6)
      have hr__bare_kind := hr.mono (by omega : 5 ≤ d + 6)
      have hr__sized_kind := hr.mono (by omega : 6 ≤ d + 6)
      refine ⟨_, PSs.nox (pss_cons (ps_set (i := 1) sc_kind_of.nd rfl (Or.inl rfl) (pe_ix ix_tup (pv 0) pe_int (fun _ _ => rfl)))
      (pss_cons (ps_if (pt_cmpR op_eq (pv 1) pe_str (nomark _)) (pss_one (ps_ret (pe_make M_Pair G_Pair_init hr_Pair rfl g_Pair b_Pair_init .nil pass0 (pa_cons (pe_call G_kind_of hr_kind_of rfl g_kind_of F_kind_of.kp b_kind_of .nil pass0 (pa_cons (pe_ix ix_tup (pv 0) pe_int (fun _ _ => rfl)) pa_nil)) (pa_cons (pe_call G_kind_of hr_kind_of rfl g_kind_of F_kind_of.kp b_kind_of .nil pass0 (pa_cons (pe_ix ix_tup (pv 0) pe_int (fun _ _ => rfl)) pa_nil)) pa_nil))))) pss_nil)
      (pss_cons (ps_if (pt_cmpR op_eq (pv 1) pe_str (nomark _)) (pss_one (ps_ret (pe_make M_Table G_Table_init hr_Table rfl g_Table b_Table_init .nil pass0 (pa_cons (pe_ix ix_tup (pv 0) pe_int (fun _ _ => rfl)) (pa_cons (pe_ix ix_tup (pv 0) pe_int (fun _ _ => rfl)) pa_nil))))) pss_nil)
      (pss_cons (ps_if (pt_cmpR op_eq (pe_callB call_len_seq (by rfl) z_len PySem.boot_len (pa_cons (pv 0) pa_nil)) pe_int (nomark _)) (pss_one (ps_ret (pe_call G__sized_kind hr__sized_kind rfl g__sized_kind F__sized_kind.kp b__sized_kind .nil pass0 (pa_cons (pv 1) (pa_cons (pe_ix ix_tup (pv 0) pe_int (fun _ _ => rfl)) pa_nil))))) pss_nil)
      (pss_one (ps_ret (pe_call G__bare_kind hr__bare_kind rfl g__bare_kind F__bare_kind.kp b__bare_kind .nil pass0 (pa_cons (pv 1) pa_nil)))))))), ?_⟩
      obtain ⟨a, xs, rfl, ha, h1, h2, h4, h3⟩ := made_at hM
      refine ⟨_, rfl, a, _, _, .str (nameOf k), rfl, rfl, .inl (.inl ha), atI_of (Int.le_refl 0) rfl, ?_⟩
      rcases sort_of k with hb | ⟨n, hs⟩ | ⟨S, M, rfl⟩ | ⟨y, z, rfl⟩
      · obtain rfl := h1 hb
        have n1 : nameOf k ≠ "pair" := (fun h => by obtain ⟨_, _, rfl⟩ := pair_named h; cases hb)
        have n2 : nameOf k ≠ "table" := fun h => by obtain ⟨_, _, rfl⟩ := tab_named h; cases hb
        refine ⟨_, rfl, rfl, _, rfl, no_of (by rw [dec_str]; exact beq_eq_false_iff_ne.mpr n1) ?_⟩
        refine ⟨_, rfl, rfl, _, rfl, no_of (by rw [dec_str]; exact beq_eq_false_iff_ne.mpr n2) ?_⟩
        refine ⟨_, rfl, a, _, rfl, .inr (.inl (.inl ha)), rfl, _, rfl, no_of (by first | rfl | (rw [dec_int]; rfl)) ?_⟩
        exact ⟨_, rfl, k, rfl, hb, fun r H' e hk => q r H' e hk⟩
      · obtain rfl := h2 n hs
        have n1 : nameOf k ≠ "pair" := fun h => by obtain ⟨_, _, rfl⟩ := pair_named h; cases hs
        have n2 : nameOf k ≠ "table" := fun h => by obtain ⟨_, _, rfl⟩ := tab_named h; cases hs
        refine ⟨_, rfl, rfl, _, rfl, no_of (by rw [dec_str]; exact beq_eq_false_iff_ne.mpr n1) ?_⟩
        refine ⟨_, rfl, rfl, _, rfl, no_of (by rw [dec_str]; exact beq_eq_false_iff_ne.mpr n2) ?_⟩
        refine ⟨_, rfl, a, _, rfl, .inr (.inl (.inl ha)), rfl, _, rfl, yes_of (by first | rfl | (rw [dec_int]; rfl)) ?_⟩
        exact ⟨_, rfl, _, rfl, a, _, _, _, rfl, rfl, .inl (.inl ha), rfl, k, n, rfl, hs, hok, fun r H' e hk => q r H' e hk⟩
      · obtain ⟨u, u', rfl, hy, hz⟩ := h4 S M rfl
        refine ⟨_, rfl, rfl, _, rfl, no_of (by first | rfl | (rw [dec_str]; rfl)) ?_⟩
        refine ⟨_, rfl, rfl, _, rfl, yes_of (by first | rfl | (rw [dec_str]; rfl)) ?_⟩
        refine ⟨_, rfl, a, _, _, _, rfl, rfl, .inl (.inl ha), rfl, _, rfl, a, _, _, _, rfl, rfl, .inl (.inl ha), rfl, ?_⟩
        intro x dx nx ndx nex
        have eN := new_ex (C := C.ta) nx ndx
        exact ⟨S, M, x, dx, u, u', rfl, hy.ex eN, hz.ex eN, hok, upd_same, fun H' o1 hk => ⟨rfl, q (.ref x) H' (made_ex nx ndx o1) hk⟩⟩
      · obtain ⟨u, u', rfl, hy, hz⟩ := h3 y z rfl
        obtain ⟨ok1, ok2⟩ : y.ok ∧ z.ok := hok
        have d1 := depth_l hdep
        have d2 := depth_r hdep
        refine ⟨_, rfl, rfl, _, rfl, yes_of (by first | rfl | (rw [dec_str]; rfl)) ?_⟩
        refine ⟨_, rfl, a, _, _, _, rfl, rfl, .inl (.inl ha), rfl, u, y, rfl, hy, d1, ok1, fun k1 H1 e1 hk1 => ?_⟩
        refine ⟨_, rfl, a, _, _, _, rfl, rfl, .inl (.inl (e1 _ _ ha)), rfl, u', z, rfl, hz.ex e1, d2, ok2, fun k2 H2 e2 hk2 => ?_⟩
        intro x dx nx ndx nex
        have eN := new_ex (C := C.pa) nx ndx
        exact ⟨y, z, k1, k2, x, dx, rfl, (hk1.ex e2).ex eN, hk2.ex eN, by omega, by omega, upd_same, fun H' o1 hk => ⟨rfl, q (.ref x) H' ((e1.trans e2).trans (made_ex nx ndx o1)) hk⟩⟩
abbrev s_Ring_init : Stmt := meth 49 0
theorem sc_Ring_init : FnScope ["self", "made"] ["self", "made"] (defScope s_Ring_init) := ⟨rfl, rfl, rfl, by decide +kernel, rfl, by decide +kernel, by decide +kernel⟩
theorem ok_Ring_init {f : Addr} {fd : FuncData} (F : FnM K "Ring" "__init__" s_Ring_init f fd) {C : KC} {CR : Addr} (okR : OkC K CR) {f_kind_of : Addr} {fd_kind_of : FuncData} (F_kind_of : FnP K "kind_of" s_kind_of f_kind_of fd_kind_of) (g_kind_of : mg "kind_of" = some (.ref f_kind_of)) (G_kind_of : FnOk P w K mg base (CX0) 10 f_kind_of fd_kind_of ["made"] (spKindOf C 4)) : FnOk P w K mg base (CX0) 11 f fd ["self", "made"] (spRingI C CR) := by
  have b_kind_of : Binds K fd_kind_of ["made"] [] := F_kind_of.bindsN fun _ _ _ _ _ _ us hl => match us, hl with | [_], _ => rfl
  refine F.ok (CX := CX0) sc_Ring_init (fun vs H Q E h => ?_) (fun cdv A outer s H vs Q E hr h => ?_)
  · obtain ⟨a, dx, v, k, rfl, _⟩ := h
    rfl
  · obtain ⟨a, dx, v, k, rfl, ha, hM, hd, hok, q⟩ := h
    have hu := hu_of hr
    have hu64 := hr.units
    have hr_kind_of := hr.mono (by decide : 10 ≤ 10)
    refine ⟨_, PSs.nox (pss_cons (ps_fld (pv 0) (pv 1) rfl)
      (pss_one (ps_fld (pv 0) (pe_call G_kind_of hr_kind_of rfl g_kind_of F_kind_of.kp b_kind_of .nil pass0 (pa_cons (pv 1) pa_nil)) rfl))), ?_⟩
    refine ⟨_, rfl, _, rfl, a, CR, dx, [], rfl, ha, okR.cls, okR.no _ (by decide), by decide, ?_⟩
    have o1 : Only a H (upd H a (.ins CR dx (putF "_made" v []))) := Only.refl.upd
    refine ⟨_, rfl, v, k, rfl, o1.kp hM ⟨_, _, _, ha⟩, hd, hok, fun x H2 e hk => ?_⟩
    have ha2 : H2 a = some (.ins CR dx (putF "_made" v [])) := e _ _ upd_same
    refine ⟨_, rfl, a, CR, dx, _, rfl, ha2, okR.cls, okR.no _ (by decide), by (show 1 < 1000; decide), ?_⟩
    have o2 : Only a H2 (upd H2 a (.ins CR dx (putF "_kind" x (putF "_made" v [])))) := Only.refl.upd
    have hM2 := (o1.kp hM ⟨_, _, _, ha⟩).ex e
    exact q _ ((o1.ex e).trans o2) ⟨a, dx, _, v, x, rfl, upd_same, rfl, o2.kp hM2 ⟨_, _, _, ha2⟩, rfl, hk.only o2 ha2 rfl, no_fs (by rfl)⟩
abbrev s__has_form : Stmt := top 90
theorem sc__has_form : FnScope ["made", "deep", "name", "least", "most"] ["made", "deep"] (defScope s__has_form) := ⟨rfl, rfl, rfl, by decide +kernel, rfl, by decide +kernel, by decide +kernel⟩
theorem ok__has_form {f : Addr} {fd : FuncData} (F : FnP K "_has_form" s__has_form f fd) (g__has_form : mg "_has_form" = some (.ref f)) {f_is_whole : Addr} {fd_is_whole : FuncData} (F_is_whole : FnP K "is_whole" s_is_whole f_is_whole fd_is_whole) (g_is_whole : mg "is_whole" = some (.ref f_is_whole)) (G_is_whole : FnOk P w K mg base (CX0) 2 f_is_whole fd_is_whole ["thing", "least", "most"] (spWhole K)) {f__are_tables : Addr} {fd__are_tables : FuncData} (F__are_tables : FnP K "_are_tables" s__are_tables f__are_tables fd__are_tables) (g__are_tables : mg "_are_tables" = some (.ref f__are_tables)) (G__are_tables : FnOk P w K mg base (CX0) 5 f__are_tables fd__are_tables ["sums", "products"] (spTwoOk)) {dS aS2 aS3 aS4 aB : Addr} {es : Array DictEntry} {nS : Nat} (SZ : SizesC K w mg dS es nS aS2 aS3 aS4) (BA : BareK K mg aB) (z_isinstance : mg "isinstance" = none) (z_tuple : mg "tuple" = none) (z_len : mg "len" = none) (z_str : mg "str" = none) : ∀ d : Nat, FnOk P w K mg base CX0 (d + 5) f fd ["made", "deep"] (spForm d) := by
  have F__has_form := F
  have b__has_form : Binds K fd ["made", "deep"] [] := F__has_form.bindsN fun _ _ _ _ _ _ us hl => match us, hl with | [_, _], _ => rfl
  have b_is_whole : Binds K fd_is_whole ["thing", "least", "most"] [] := F_is_whole.bindsN fun _ _ _ _ _ _ us hl => match us, hl with | [_, _, _], _ => rfl
  have b__are_tables : Binds K fd__are_tables ["sums", "products"] [] := F__are_tables.bindsN fun _ _ _ _ _ _ us hl => match us, hl with | [_, _], _ => rfl
  intro d
  induction d with
  | zero => exact fn_never fun vs H Q E ⟨v, k, n, _, _, _, h, _⟩ => Nat.not_lt_zero _ h
  | succ d ih =>
    have G__has_form := ih
    refine F.ok sc__has_form (fun vs H Q E h => ?_) (fun cdv A outer s H vs Q E hr h => ?_)
    · obtain ⟨v, k, n, rfl, _⟩ := h
      rfl
    · obtain ⟨v, k, n, rfl, hM, hok, hdep, hn, q⟩ := h
      have hu := hu_of hr
      have hr__has_form := hr
      have hr_is_whole := hr.mono (by omega : 2 ≤ d + 5)
      have hr__are_tables := hr.mono (by omega : 5 ≤ d + 5)
      refine ⟨_, PSs.nox (pss_cons (ps_if (PW.pt (pw_or (pt_not (pt_val (pe_callB call_isi (by rfl) z_isinstance PyProof.Rows.boot_isinstance (pa_cons (pv 0) (pa_cons (pe_bltn (v := .ty "tuple") rfl z_tuple (by decide +kernel) rfl) pa_nil))))) (pw_or (pt_cmpR op_eq (pe_callB call_len_seq (by rfl) z_len PySem.boot_len (pa_cons (pv 0) pa_nil)) pe_int (nomark _)) (pw_or1 (pt_not (pt_val (pe_callB call_isi (by rfl) z_isinstance PyProof.Rows.boot_isinstance (pa_cons (pe_ix ix_tup (pv 0) pe_int (fun _ _ => rfl)) (pa_cons (pe_bltn (v := .ty "str") rfl z_str (by decide +kernel) rfl) pa_nil))))))))) (pss_one (ps_ret pe_bl)) pss_nil)
      (pss_cons (ps_set (i := 2) sc__has_form.nd rfl (Or.inl rfl) (pe_ix ix_tup (pv 0) pe_int (fun _ _ => rfl)))
      (pss_cons (ps_if (pt_cmpR (op_in_kd SZ.D) (pv 2) (pe_glob (v := .ref dS) rfl SZ.g rfl) (by rfl)) (pss_cons (ps_asg (pe_ix ix_kdict (pe_glob (v := .ref dS) rfl SZ.g rfl) (pv 2) (fun _ _ => rfl)) (pg_tup rfl (pgs_cons (pg_name (i := 3) sc__has_form.nd rfl (Or.inl rfl)) (pgs_cons (pg_name (i := 4) sc__has_form.nd rfl (Or.inl rfl)) pgs_nil))))
      (pss_one (ps_ret (pe_and (pe_cmpR op_eq (pe_callB call_len_seq (by rfl) z_len PySem.boot_len (pa_cons (pv 0) pa_nil)) pe_int (nomark _)) (pe_one (pe_call G_is_whole hr_is_whole rfl g_is_whole F_is_whole.kp b_is_whole .nil pass0 (pa_cons (pe_ix ix_tup (pv 0) pe_int (fun _ _ => rfl)) (pa_cons (pv 3) (pa_cons (pv 4) pa_nil))))))))) pss_nil)
      (pss_cons (ps_if (PW.pt (pw_and (pt_cmpR op_eq (pe_callB call_len_seq (by rfl) z_len PySem.boot_len (pa_cons (pv 0) pa_nil)) pe_int (nomark _)) (pw_and1 (pt_cmpR op_eq (pv 2) pe_str (nomark _))))) (pss_one (ps_ret (pe_call G__are_tables hr__are_tables rfl g__are_tables F__are_tables.kp b__are_tables .nil pass0 (pa_cons (pe_ix ix_tup (pv 0) pe_int (fun _ _ => rfl)) (pa_cons (pe_ix ix_tup (pv 0) pe_int (fun _ _ => rfl)) pa_nil))))) pss_nil)
      (pss_cons (ps_if (PW.pt (pw_and (pt_cmpR op_eq (pe_callB call_len_seq (by rfl) z_len PySem.boot_len (pa_cons (pv 0) pa_nil)) pe_int (nomark _)) (pw_and1 (pt_cmpR op_eq (pv 2) pe_str (nomark _))))) (pss_one (ps_ret (pe_and (pe_cmpR op_gt (pv 1) pe_int (nomark _)) (pe_and (pe_call G__has_form hr__has_form rfl g__has_form F__has_form.kp b__has_form .nil pass0 (pa_cons (pe_ix ix_tup (pv 0) pe_int (fun _ _ => rfl)) (pa_cons (pe_op op_sub (pv 1) pe_int) pa_nil))) (pe_one (pe_call G__has_form hr__has_form rfl g__has_form F__has_form.kp b__has_form .nil pass0 (pa_cons (pe_ix ix_tup (pv 0) pe_int (fun _ _ => rfl)) (pa_cons (pe_op op_sub (pv 1) pe_int) pa_nil)))))))) pss_nil)
      (pss_one (ps_ret (pe_and (pe_cmpR op_eq (pe_callB call_len_seq (by rfl) z_len PySem.boot_len (pa_cons (pv 0) pa_nil)) pe_int (nomark _)) (pe_one (pe_cmpR op_in_seq (pv 2) (pe_glob (v := .ref aB) rfl BA.g rfl) (by rfl))))))))))), ?_⟩
      obtain ⟨a, xs, rfl, ha, h1, h2, h4, h3⟩ := made_at hM
      have hS : SqT K H a (.str (nameOf k) :: xs) := .inl (.inl ha)
      refine q_when (b := false) (et_is (et_or (et_not (et_B (ev_tTup (ev_var rfl) (tl_tup ha)))) (fun _ => et_or (a := false) (et_is (et_test (ev_eqI (ev_lenT (ev_var rfl) hS) ev_c)) ?_) (fun _ => et_not (et_B (ev_tStr (ev_op (ev_var rfl) ev_c (rv_ixT hS (v := .str (nameOf k)) (atI_of (Int.le_refl 0) rfl))) (tl_str _)))))) rfl) (fun hb => (by cases hb)) (fun _ H1 e1 => ?_)
      · rw [beq_eq_false_iff_ne]
        show ((xs.length + 1 : Nat) : Int) ≠ 0
        omega
      refine q_asg (ev_op (ev_var rfl) ev_c (rv_ixT (ex_t e1 hS) (v := .str (nameOf k)) (atI_of (Int.le_refl 0) rfl))) fun H2 e2 => ?_
      have e3 := e1.trans e2
      have hS2 := ex_t e3 hS
      cases hsz : sized k with
      | none =>
        refine q_when (b := false) (et_test (ev_op (ev_var rfl) ev_c fun H3 _ Q' k' => ⟨_, none, rfl, rfl, SZ.no k hsz, k' H3 (Ex.refl H3)⟩)) (fun hb => (by cases hb)) (fun _ H3 e4 => ?_)
        rcases sort_of k with hb | ⟨n, hs⟩ | ⟨S, M, rfl⟩ | ⟨y, z, rfl⟩
        · obtain rfl := h1 hb
          refine q_when (b := false) (et_is (et_and (a := false) (b := false) (et_is (et_test (ev_eqI (ev_lenT (ev_var rfl) (ex_t (e3.trans e4) hS)) ev_c)) rfl) (fun hb => (by cases hb))) rfl) (fun hb => (by cases hb)) (fun _ H4 e5 => ?_)
          refine q_when (b := false) (et_is (et_and (a := false) (b := false) (et_is (et_test (ev_eqI (ev_lenT (ev_var rfl) (ex_t ((e3.trans e4).trans e5) hS)) ev_c)) rfl) (fun hb => (by cases hb))) rfl) (fun hb => (by cases hb)) (fun _ H5 e6 => ?_)
          have e7 := ((e3.trans e4).trans e5).trans e6
          refine s_ret (ev_andV (a := true) (b := true) (ev_is (ev_eqI (ev_lenT (ev_var rfl) (ex_t e7 hS)) ev_c) rfl) (fun _ => ev_is (ev_op (ev_var rfl) ev_c (rv_inT (BA.at_ H5) rfl rfl)) (by cases k <;> first | (exact congrArg V.bl (by decide)) | cases hb))) fun H6 e8 => q H6 (e7.trans e8)
        · rw [hsz] at hs
          cases hs
        · obtain ⟨u, u', rfl, hy, hz⟩ := h4 S M rfl
          have gt : GoodTab S.length S M := hok
          obtain ⟨p, rfl, hp⟩ := tab_at hy
          obtain ⟨p', rfl, hp'⟩ := tab_at hz
          have two := gt.two
          have six := gt.six
          have sml : ∀ t, t = S ∨ t = M → t.length ≤ 40000 ∧ ∀ row ∈ t, row.length ≤ 40000 := fun t ht => by
            rcases ht with rfl | rfl
            · refine ⟨by omega, fun row hr => ?_⟩
              have := (gt.sq.row row hr).1
              omega
            · have h := gt.pq.len
              refine ⟨by omega, fun row hr => ?_⟩
              have := (gt.pq.row row hr).1
              omega
          have ok2 : twoOk S M = true := by
            have tb : ∀ t : Tb, Sq S.length t → tabOk S.length t = true := fun t s => by
              unfold tabOk
              rw [decide_eq_true s.len, Bool.true_and, List.all_eq_true]
              intro row hr
              obtain ⟨r1, r2⟩ := s.row row hr
              unfold rowOk
              rw [decide_eq_true r1, Bool.true_and, List.all_eq_true]
              intro x hx
              obtain ⟨x1, x2⟩ := r2 x hx
              unfold within
              rw [decide_eq_true x1, decide_eq_true (by omega : x ≤ (S.length : Int) - 1)]
              rfl
            unfold twoOk
            rw [decide_eq_true two, decide_eq_true six, tb S gt.sq, tb M gt.pq]
            rfl
          refine q_when (b := true) (et_is (et_and (a := true) (b := true) (et_is (et_test (ev_eqI (ev_lenT (ev_var rfl) (ex_t (e3.trans e4) hS)) ev_c)) rfl) (fun _ => et_is (et_test (ev_eqS (ev_var rfl) ev_c)) (by show (("table" : Str) == "table") = true; decide +kernel))) rfl) (fun _ H4 e5 => ?_) (fun hb => (by cases hb))
          have e7 := (e3.trans e4).trans e5
          refine s_ret (v := .bl true) (ev_is (ev_call (z := .bl (twoOk S M)) (ea_cons (ev_op (ev_var rfl) ev_c (rv_ixT (ex_t e7 hS) (v := .ref p) rfl)) (ea_cons (ev_op (ev_var rfl) ev_c (rv_ixT (ex_t e7 hS) (v := .ref p') rfl)) ea_nil)) fun H6 e8 Q' k' E' => ⟨p, p', S, M, rfl, hp.ex (e7.trans e8), hp'.ex (e7.trans e8), sml, fun H7 e9 => k' H7 e9⟩) (by rw [ok2])) fun H6 e8 => q H6 (e7.trans e8)
        · obtain ⟨u, u', rfl, hy, hz⟩ := h3 y z rfl
          obtain ⟨ok1, ok2⟩ : y.ok ∧ z.ok := hok
          have d1 := depth_l hdep
          have d2 := depth_r hdep
          have hn2 : ((max y.depth z.depth + 1 : Nat) : Int) ≤ n := hn
          have m1 := Nat.le_max_left y.depth z.depth
          have m2 := Nat.le_max_right y.depth z.depth
          refine q_when (b := false) (et_is (et_and (a := true) (b := false) (et_is (et_test (ev_eqI (ev_lenT (ev_var rfl) (ex_t (e3.trans e4) hS)) ev_c)) rfl) (fun _ => et_is (et_test (ev_eqS (ev_var rfl) ev_c)) (by show (("pair" : Str) == "table") = false; decide +kernel))) rfl) (fun hb => (by cases hb)) (fun _ H4 e5 => ?_)
          refine q_when (b := true) (et_is (et_and (a := true) (b := true) (et_is (et_test (ev_eqI (ev_lenT (ev_var rfl) (ex_t ((e3.trans e4).trans e5) hS)) ev_c)) rfl) (fun _ => et_is (et_test (ev_eqS (ev_var rfl) ev_c)) (by show (("pair" : Str) == "pair") = true; decide +kernel))) rfl) (fun _ H5 e6 => ?_) (fun hb => (by cases hb))
          have e7 := ((e3.trans e4).trans e5).trans e6
          refine s_ret (v := .bl true) (ev_is (ev_andV (a := true) (b := true) (ev_is (ev_gtI (ev_var rfl) ev_c) (by rw [decide_eq_true (by omega : (0 : Int) < n)])) fun _ => ev_is (ev_andV (a := true) (b := true) (ev_call (ea_cons (ev_op (ev_var rfl) ev_c (rv_ixT (ex_t e7 hS) (v := u) rfl)) (ea_cons (ev_op (ev_var rfl) ev_c rv_I0) ea_nil)) fun H6 e8 Q' k' E' => ⟨u, y, n - 1, rfl, hy.ex (e7.trans e8), ok1, d1, by omega, fun H7 e9 => k' H7 e9⟩) fun _ => ev_call (ea_cons (ev_op (ev_var rfl) ev_c (rv_ixT (ex_t e7 hS) (v := u') rfl)) (ea_cons (ev_op (ev_var rfl) ev_c rv_I0) ea_nil)) fun H6 e8 Q' k' E' => ⟨u', z, n - 1, rfl, hz.ex (e7.trans e8), ok2, d2, by omega, fun H7 e9 => k' H7 e9⟩) rfl) rfl) fun H6 e8 => q H6 (e7.trans e8)
      | some n0 =>
        obtain rfl := h2 n0 hsz
        rcases sized_is hsz with rfl | rfl | rfl
        · obtain ⟨n1, n2⟩ : 1 ≤ n0 ∧ n0 ≤ 12 := hok
          refine q_when (b := true) (et_test (ev_op (ev_var rfl) ev_c fun H3 _ Q' k => ⟨_, some (.ref aS2), rfl, rfl, SZ.lot, k H3 (Ex.refl H3)⟩)) (fun _ H3 e4 => ?_) (fun hb => (by cases hb))
          refine ⟨_, rfl, dS, _, .ref aS2, rfl, rfl, ⟨es, nS, .ref aS2, SZ.D.at_, SZ.D.lit, SZ.lot, rfl⟩, aS2, _, rfl, SZ.two _, rfl, _, _, rfl, _, _, rfl, rfl, ?_⟩
          have e7 := e3.trans e4
          refine s_ret (v := .bl true) (ev_is (ev_andV (a := true) (b := true) (ev_is (ev_eqI (ev_lenT (ev_var rfl) (ex_t e7 hS)) ev_c) rfl) (fun _ => ev_is (ev_call (ea_cons (ev_op (ev_var rfl) ev_c (rv_ixT (ex_t e7 hS) (v := .int n0) rfl)) (ea_cons (ev_var rfl) (ea_cons (ev_var rfl) ea_nil))) fun H5 e8 Q' k' E' => ⟨_, some (n0 : Int), _, _, rfl, (DtAt.int (n0 : Int)).num, fun H6 e9 => k' H6 e9⟩) (by show V.bl (within 1 12 (n0 : Int)) = _; unfold within; rw [decide_eq_true (by omega : (1 : Int) ≤ (n0 : Int)), decide_eq_true (by omega : (n0 : Int) ≤ 12)]; rfl))) rfl) fun H6 e8 => q H6 (e7.trans e8)
        · obtain ⟨n1, n2⟩ : 2 ≤ n0 ∧ n0 ≤ 1000 := hok
          refine q_when (b := true) (et_test (ev_op (ev_var rfl) ev_c fun H3 _ Q' k => ⟨_, some (.ref aS3), rfl, rfl, SZ.rest, k H3 (Ex.refl H3)⟩)) (fun _ H3 e4 => ?_) (fun hb => (by cases hb))
          refine ⟨_, rfl, dS, _, .ref aS3, rfl, rfl, ⟨es, nS, .ref aS3, SZ.D.at_, SZ.D.lit, SZ.rest, rfl⟩, aS3, _, rfl, SZ.three _, rfl, _, _, rfl, _, _, rfl, rfl, ?_⟩
          have e7 := e3.trans e4
          refine s_ret (v := .bl true) (ev_is (ev_andV (a := true) (b := true) (ev_is (ev_eqI (ev_lenT (ev_var rfl) (ex_t e7 hS)) ev_c) rfl) (fun _ => ev_is (ev_call (ea_cons (ev_op (ev_var rfl) ev_c (rv_ixT (ex_t e7 hS) (v := .int n0) rfl)) (ea_cons (ev_var rfl) (ea_cons (ev_var rfl) ea_nil))) fun H5 e8 Q' k' E' => ⟨_, some (n0 : Int), _, _, rfl, (DtAt.int (n0 : Int)).num, fun H6 e9 => k' H6 e9⟩) (by show V.bl (within 2 1000 (n0 : Int)) = _; unfold within; rw [decide_eq_true (by omega : (2 : Int) ≤ (n0 : Int)), decide_eq_true (by omega : (n0 : Int) ≤ 1000)]; rfl))) rfl) fun H6 e8 => q H6 (e7.trans e8)
        · obtain ⟨n1, n2⟩ : 1 ≤ n0 ∧ n0 ≤ 4 := hok
          refine q_when (b := true) (et_test (ev_op (ev_var rfl) ev_c fun H3 _ Q' k => ⟨_, some (.ref aS4), rfl, rfl, SZ.terms, k H3 (Ex.refl H3)⟩)) (fun _ H3 e4 => ?_) (fun hb => (by cases hb))
          refine ⟨_, rfl, dS, _, .ref aS4, rfl, rfl, ⟨es, nS, .ref aS4, SZ.D.at_, SZ.D.lit, SZ.terms, rfl⟩, aS4, _, rfl, SZ.four _, rfl, _, _, rfl, _, _, rfl, rfl, ?_⟩
          have e7 := e3.trans e4
          refine s_ret (v := .bl true) (ev_is (ev_andV (a := true) (b := true) (ev_is (ev_eqI (ev_lenT (ev_var rfl) (ex_t e7 hS)) ev_c) rfl) (fun _ => ev_is (ev_call (ea_cons (ev_op (ev_var rfl) ev_c (rv_ixT (ex_t e7 hS) (v := .int n0) rfl)) (ea_cons (ev_var rfl) (ea_cons (ev_var rfl) ea_nil))) fun H5 e8 Q' k' E' => ⟨_, some (n0 : Int), _, _, rfl, (DtAt.int (n0 : Int)).num, fun H6 e9 => k' H6 e9⟩) (by show V.bl (within 1 4 (n0 : Int)) = _; unfold within; rw [decide_eq_true (by omega : (1 : Int) ≤ (n0 : Int)), decide_eq_true (by omega : (n0 : Int) ≤ 4)]; rfl))) rfl) fun H6 e8 => q H6 (e7.trans e8)
abbrev s__tables : Stmt := top 94
theorem sc__tables : FnScope ["made"] ["made"] (defScope s__tables) := ⟨rfl, rfl, rfl, by decide +kernel, rfl, by decide +kernel, by decide +kernel⟩
theorem ok__tables {f : Addr} {fd : FuncData} (F : FnP K "_tables" s__tables f fd) (g__tables : mg "_tables" = some (.ref f)) : ∀ d : Nat, d ≤ 10 → FnOk P w K mg base CX0 d f fd ["made"] (spTabs d) := by
  have F__tables := F
  have b__tables : Binds K fd ["made"] [] := F__tables.bindsN fun _ _ _ _ _ _ us hl => match us, hl with | [_], _ => rfl
  intro d
  induction d with
  | zero =>
    intro _
    exact fn_never fun vs H Q E ⟨v, k, _, _, h, _⟩ => Nat.not_lt_zero _ h
  | succ d ih =>
    intro hd10
    have G__tables := ih (by omega)
    refine F.ok sc__tables (fun vs H Q E h => ?_) (fun cdv A outer s H vs Q E hr h => ?_)
    · obtain ⟨v, k, rfl, _⟩ := h
      rfl
    · obtain ⟨v, k, rfl, hM, hdep, q⟩ := h
      have hr__tables := hr
      refine ⟨_, PSs.nox (pss_cons (ps_if (pt_cmpR op_eq (pe_ix ix_tup (pv 0) pe_int (fun _ _ => rfl)) pe_str (nomark _)) (pss_one (ps_ret (pe_lst (pa_cons (pe_tup (pa_cons (pe_ix ix_tup (pv 0) pe_int (fun _ _ => rfl)) (pa_cons (pe_ix ix_tup (pv 0) pe_int (fun _ _ => rfl)) pa_nil))) pa_nil)))) pss_nil)
      (pss_cons (ps_if (pt_cmpR op_eq (pe_ix ix_tup (pv 0) pe_int (fun _ _ => rfl)) pe_str (nomark _)) (pss_one (ps_ret (pe_lst (StX.pa_star (pe_call G__tables hr__tables rfl g__tables F__tables.kp b__tables .nil pass0 (pa_cons (pe_ix ix_tup (pv 0) pe_int (fun _ _ => rfl)) pa_nil)) (StX.pa_star (pe_call G__tables hr__tables rfl g__tables F__tables.kp b__tables .nil pass0 (pa_cons (pe_ix ix_tup (pv 0) pe_int (fun _ _ => rfl)) pa_nil)) pa_nil))))) pss_nil)
      (pss_one (ps_ret (pe_lst pa_nil))))), ?_⟩
      obtain ⟨a, xs, rfl, ha, h1, h2, h4, h3⟩ := made_at hM
      by_cases ht : ∃ S M, k = .tab S M
      · obtain ⟨S, M, rfl⟩ := ht
        obtain ⟨u, u', rfl, hy, hz⟩ := h4 S M rfl
        obtain ⟨p, rfl, hp⟩ := tab_at hy
        obtain ⟨p', rfl, hp'⟩ := tab_at hz
        refine ⟨_, rfl, a, _, _, _, rfl, rfl, .inl (.inl ha), rfl, rfl, _, rfl, yes_of (by first | rfl | (rw [dec_str]; rfl)) ?_⟩
        refine ⟨_, rfl, a, _, _, _, rfl, rfl, .inl (.inl ha), rfl, _, rfl, a, _, _, _, rfl, rfl, .inl (.inl ha), rfl, by show 2 ≤ sizeLine; decide, fun r hr0 => ⟨by show 1 ≤ sizeLine; decide, fun D hD => ?_⟩⟩
        have e1 := (Ex.new (o := .tup [.ref p, .ref p']) hr0).trans (Ex.new (o := .lst [.ref r]) hD)
        refine q D [r] _ e1 (fresh_back (Ex.new hr0) hD) upd_same ⟨rfl, fun i r' t h1 h2 => ?_⟩
        match i, h1, h2 with
        | 0, h1, h2 =>
          cases h1
          cases h2
          exact ⟨p, p', (Ex.new (o := .lst [.ref r]) hD) _ _ upd_same, hp.ex e1, hp'.ex e1⟩
        | i + 1, h1, _ => simp at h1
      have n2 : nameOf k ≠ "table" := fun h => ht (tab_named h)
      refine ⟨_, rfl, a, _, _, .str (nameOf k), rfl, rfl, .inl (.inl ha), atI_of (Int.le_refl 0) rfl, rfl, _, rfl, no_of (by rw [dec_str]; exact beq_eq_false_iff_ne.mpr n2) ?_⟩
      by_cases hp : ∃ y z, k = .pair y z
      · obtain ⟨y, z, rfl⟩ := hp
        obtain ⟨u, u', rfl, hy, hz⟩ := h3 y z rfl
        have lx := tabs_len y
        have ly := tabs_len z
        have hd1 := depth_l hdep
        have hd2 := depth_r hdep
        have px : 2 ^ y.depth ≤ 2 ^ 10 := Nat.pow_le_pow_right (by decide) (by omega)
        have py : 2 ^ z.depth ≤ 2 ^ 10 := Nat.pow_le_pow_right (by decide) (by omega)
        have p10 : (2 : Nat) ^ 10 = 1024 := by decide
        refine ⟨_, rfl, a, _, _, _, rfl, rfl, .inl (.inl ha), rfl, rfl, _, rfl, yes_of (by first | rfl | (rw [dec_str]; rfl)) ?_⟩
        refine ⟨_, rfl, a, _, _, _, rfl, rfl, .inl (.inl ha), rfl, u, y, rfl, hy, hd1, fun D1 rs1 H1 e1 hD1 hL1 hP1 => ⟨D1, _, rfl, .inr (SqL.of hL1), ?_⟩⟩
        have ha1 := e1 _ _ ha
        refine ⟨_, rfl, a, _, _, _, rfl, rfl, .inl (.inl ha1), rfl, u', z, rfl, hz.ex e1, hd2, fun D2 rs2 H2 e2 hD2 hL2 hP2 => ⟨D2, _, rfl, .inr (SqL.of hL2), ?_⟩⟩
        refine ⟨?_, fun D hD => ?_⟩
        · refine Nat.le_trans ?_ (by decide : 4096 ≤ sizeLine)
          rw [List.append_nil, List.length_append, List.length_map, List.length_map, hP1.1, hP2.1]
          omega
        · have e3 := (e1.trans e2).trans (Ex.new (o := .lst ((rs1 ++ rs2).map V.ref)) hD)
          have eq : rs1.map V.ref ++ (rs2.map V.ref ++ []) = (rs1 ++ rs2).map V.ref := by rw [List.append_nil, List.map_append]
          rw [eq]
          exact q D (rs1 ++ rs2) _ e3 (fresh_back (e1.trans e2) hD) upd_same (PrsAt.append ((hP1.ex e2).ex (Ex.new hD)) (hP2.ex (Ex.new hD)))
      · have n3 : nameOf k ≠ "pair" := fun h => hp (pair_named h)
        have nt : k.tabs = [] := by cases k <;> first | rfl | exact absurd ⟨_, _, rfl⟩ hp | exact absurd ⟨_, _, rfl⟩ ht
        refine ⟨_, rfl, a, _, _, .str (nameOf k), rfl, rfl, .inl (.inl ha), atI_of (Int.le_refl 0) rfl, rfl, _, rfl, no_of (by rw [dec_str]; exact beq_eq_false_iff_ne.mpr n3) ?_⟩
        exact ⟨Nat.zero_le _, fun D hD => q D [] _ (Ex.new hD) hD upd_same ⟨by rw [nt]; rfl, fun i r t h1 _ => by simp at h1⟩⟩
abbrev s_ring_of : Stmt := top 89
theorem sc_ring_of : FnScope ["made", "sums", "products", "broken"] ["made"] (defScope s_ring_of) := ⟨rfl, rfl, rfl, by decide +kernel, rfl, by decide +kernel, by decide +kernel⟩
theorem ok_ring_of {f : Addr} {fd : FuncData} (F : FnP K "ring_of" s_ring_of f fd) {C : KC} {CR : Addr} {f__has_form : Addr} {fd__has_form : FuncData} (F__has_form : FnP K "_has_form" s__has_form f__has_form fd__has_form) (g__has_form : mg "_has_form" = some (.ref f__has_form)) (G__has_form : FnOk P w K mg base (CX0) 9 f__has_form fd__has_form ["made", "deep"] (spForm 4)) {f__tables : Addr} {fd__tables : FuncData} (F__tables : FnP K "_tables" s__tables f__tables fd__tables) (g__tables : mg "_tables" = some (.ref f__tables)) (G__tables : FnOk P w K mg base (CX0) 4 f__tables fd__tables ["made"] (spTabs 4)) {f_first_broken : Addr} {fd_first_broken : FuncData} (F_first_broken : FnP K "first_broken" s_first_broken f_first_broken fd_first_broken) (g_first_broken : mg "first_broken" = some (.ref f_first_broken)) (G_first_broken : FnOk P w K mg base (CX0) 3 f_first_broken fd_first_broken ["sums", "products"] (spFirst)) {f_Ring_init : Addr} {fd_Ring_init : FuncData} (b_Ring_init : Binds K fd_Ring_init ["self", "made"] []) (G_Ring_init : FnOk P w K mg base CX0 11 f_Ring_init fd_Ring_init ["self", "made"] (spRingI C CR)) (M_R : L2.Mk K CR f_Ring_init) (g_Ring : mg "Ring" = some (.ref CR)) {tP : Tok} (g_PAIRS : mg "_PAIRS" = some (.int 3 tP)) : FnOk P w K mg base (CX0) 13 f fd ["made"] (spRingOf C CR) := by
  have b__has_form : Binds K fd__has_form ["made", "deep"] [] := F__has_form.bindsN fun _ _ _ _ _ _ us hl => match us, hl with | [_, _], _ => rfl
  have b__tables : Binds K fd__tables ["made"] [] := F__tables.bindsN fun _ _ _ _ _ _ us hl => match us, hl with | [_], _ => rfl
  have b_first_broken : Binds K fd_first_broken ["sums", "products"] [] := F_first_broken.bindsN fun _ _ _ _ _ _ us hl => match us, hl with | [_, _], _ => rfl
  refine F.ok (CX := CX0) sc_ring_of (fun vs H Q E h => ?_) (fun cdv A outer s H vs Q E hr h => ?_)
  · obtain ⟨v, k, rfl, _⟩ := h
    rfl
  · obtain ⟨v, k, rfl, hM, hok, hd, q⟩ := h
    have hu := hu_of hr
    have hu64 := hr.units
    have hr__has_form := hr.mono (by decide : 9 ≤ 12)
    have hr__tables := hr.mono (by decide : 4 ≤ 12)
    have hr_first_broken := hr.mono (by decide : 3 ≤ 12)
    have hr_Ring := hr.mono (by decide : 11 + 1 ≤ 12)
    refine ⟨_, PSs.nox (pss_cons (ps_if (pt_not (pt_val (pe_call G__has_form hr__has_form rfl g__has_form F__has_form.kp b__has_form .nil pass0 (pa_cons (pv 0) (pa_cons (pe_glob (v := .int 3) rfl g_PAIRS ⟨_, rfl⟩) pa_nil))))) (pss_one (ps_dead)) pss_nil)
      (pss_cons (ps_for PassesOwn.never rfl (pi_list (pe_call G__tables hr__tables rfl g__tables F__tables.kp b__tables .nil pass0 (pa_cons (pv 0) pa_nil))) (pg_tup rfl (pgs_cons (pg_name (i := 1) sc_ring_of.nd rfl (Or.inl rfl)) (pgs_cons (pg_name (i := 2) sc_ring_of.nd rfl (Or.inl rfl)) pgs_nil))) (pss_cons (ps_set (i := 3) sc_ring_of.nd rfl (Or.inl rfl) (pe_call G_first_broken hr_first_broken rfl g_first_broken F_first_broken.kp b_first_broken .nil pass0 (pa_cons (pv 1) (pa_cons (pv 2) pa_nil))))
      (pss_one (ps_if (pt_cmpR op_notN (pv 3) pe_non (nomark _)) (pss_one (ps_dead)) pss_nil))))
      (pss_one (ps_ret (pe_make M_R G_Ring_init hr_Ring rfl g_Ring b_Ring_init .nil pass0 (pa_cons (pv 0) pa_nil)))))), ?_⟩
    refine q_when (b := false) (et_is (et_not (et_B (ev_call (z := .bl true) (ea_cons (ev_var rfl) (ea_cons ev_c ea_nil)) fun H1 e1 Q' k' E' => ⟨v, k, 3, rfl, hM.ex e1, hok, hd, by omega, fun H2 e2 => k' H2 e2⟩))) rfl) (fun hb => (by cases hb)) (fun hb H1 e1 => ?_)
    refine ⟨_, rfl, v, k, rfl, hM.ex e1, hd, fun D rs H2 e2 hD hL hP => ⟨D, rfl, ⟨_, SqL.of hL⟩, ?_⟩⟩
    refine for_it (walk_list (K := K) (a := D) (xs := rs.map V.ref)) (fun i σ' G => (∃ x1 x2 x3, σ' = [some v, x1, x2, x3]) ∧ Ex H2 G) ⟨⟨_, _, _, rfl⟩, Ex.refl H2⟩ (fun i σ' G _ h => ex_l h.2 (SqL.of hL)) ?_ ?_
    · rintro i x σ' _ G hi ⟨⟨x1, x2, x3, rfl⟩, eG⟩ ⟨rfl, hx⟩
      have hx2 : (rs.map V.ref)[i]? = some x := hx
      rw [List.getElem?_map] at hx2
      obtain ⟨r, hr1, rfl⟩ := Option.map_eq_some_iff.mp hx2
      have hil : i < k.tabs.length := by
        have := (List.getElem?_eq_some_iff.mp hr1).1
        rw [← hP.1]
        exact this
      have ht : k.tabs[i]? = some k.tabs[i] := List.getElem?_eq_getElem hil
      have gt := RK.tabs_ok hok _ (List.getElem_mem hil)
      obtain ⟨p, p', g1, g2, g3⟩ := hP.2 i r _ hr1 ht
      generalize k.tabs[i] = t at ht gt g2 g3
      refine ⟨r, _, rfl, .inl (.inl (eG _ _ g1)), rfl, _, _, rfl, _, _, rfl, rfl, ?_⟩
      refine ⟨_, rfl, _, rfl, p, p', t.1.length, t.1, t.2, rfl, ⟨gt.two, g2.ex eG, g3.ex eG, gt.sq, gt.pq⟩, gt.six, fun v' o' G2 e3 hF hA => ?_⟩
      obtain rfl := Fb.unique hF gt.fb
      obtain rfl : v' = .non := hA
      exact ⟨_, rfl, rfl, _, rfl, no_of (by rfl) ⟨⟨_, _, _, rfl⟩, eG.trans e3⟩⟩
    · rintro σ' G ⟨⟨x1, x2, x3, rfl⟩, eG⟩
      refine ⟨_, rfl, ?_⟩
      intro x dx nx ndx nex
      have e := (e1.trans e2).trans eG
      exact ⟨x, dx, v, k, rfl, upd_same, (hM.ex e).ex (new_ex nx ndx), hd, hok, fun H' o1 hR => ⟨rfl, q (.ref x) H' (e.trans (made_ex nx ndx o1)) hR⟩⟩
end
end D1
end
section
set_option Elab.async false
set_option linter.all false
set_option maxRecDepth 100000
set_option maxHeartbeats 4000000
/-! W0: what is a list or a tuple; webs and paths as they lie -/
namespace L2
open PySem PySem.Spec PyProof.Rows Evl RZ
/-- a list (true) or a tuple (false) -/
def objQ (q : Bool) (xs : List V) : HO := if q then .lst xs else .tup xs
def SqQ (K : PySem.W.Frag) (q : Bool) (H : Hp) (a : Addr) (xs : List V) : Prop := (q = true ∧ SqL K H a xs) ∨ (q = false ∧ SqT K H a xs)
theorem SqQ.of {K : PySem.W.Frag} {q : Bool} {H : Hp} {a : Addr} {xs : List V} (h : H a = some (objQ q xs)) : SqQ K q H a xs := by
  cases q with
  | true => exact .inl ⟨rfl, sq_of h⟩
  | false => exact .inr ⟨rfl, st_of h⟩
theorem ex_q {K : PySem.W.Frag} {q : Bool} {H H' : Hp} {a : Addr} {xs : List V} (e : Ex H H') (h : SqQ K q H a xs) : SqQ K q H' a xs := by
  rcases h with ⟨z, h⟩ | ⟨z, h⟩
  · exact .inl ⟨z, ex_l e h⟩
  · exact .inr ⟨z, ex_t e h⟩
def ItQ (K : PySem.W.Frag) (q : Bool) (a : Addr) : It := if q then Itl K a else Itt K a
def iSeq (K : PySem.W.Frag) (tl : TE) : TI := fun σ H R => tl σ H fun x H1 => ∃ a q xs, x = .ref a ∧ SqQ K q H1 a xs ∧ R (ItQ K q a) H1
section
variable {X : Cx} {tg : Expr}
theorem pi_seq {l : Expr} {tl : TE} (hl : PE X l tl) : PI X tg l (iSeq X.K tl) := by
  refine ⟨fun pins s σ H R I h => ?_⟩
  refine thn (hl.run pins s σ H _ I h) fun v s1 ⟨x, H1, I1, r1, q1⟩ => ?_
  obtain ⟨a, q, xs, e, hq, k⟩ := q1
  subst e
  cases r1
  rcases hq with ⟨rfl, hq⟩ | ⟨rfl, hq⟩
  · obtain ⟨its, rv, p, hz⟩ := I1.list hq
    refine wpAny_pyIter_list p.isList ?_
    refine ⟨s1.heap.objs.size, [s1.heap.objs.size], _, _, H1, rfl, I1.kept (t' := s1.toks) fun b o e => Heap.get?_push_of_some _ e, turn_list a _, ⟨_, Heap.get?_push_size _ rfl, rfl, rfl⟩, fun b hb => ?_, k⟩
    have e : b = s1.heap.objs.size := by simpa using hb
    subst e
    exact I1.fpOk (Nat.le_refl _) (I1.hok.fresh (Nat.le_refl _))
  · obtain ⟨its, rv, p, hz⟩ := I1.tuple hq
    refine wpAny_pyIter_tuple (show s1.heap.IsTuple a its.toArray from p) ?_
    refine ⟨s1.heap.objs.size, [s1.heap.objs.size], _, _, H1, rfl, I1.kept (t' := s1.toks) fun b o e => Heap.get?_push_of_some _ e, turn_tuple a _, ⟨_, Heap.get?_push_size _ rfl, rfl, rfl⟩, fun b hb => ?_, k⟩
    have e : b = s1.heap.objs.size := by simpa using hb
    subst e
    exact I1.fpOk (Nat.le_refl _) (I1.hok.fresh (Nat.le_refl _))
theorem sl_seq : SlR X (fun x lo hi H Q => rSlL X.K x lo hi H Q ∨ rSlA X.K x lo hi H Q) := SlR.or sl_list sl_tupA
theorem ix_seq_walk {K : PySem.W.Frag} {q : Bool} {a : Addr} {xs : List V} : Walk (ItQ K q a) xs.length (fun H => SqQ K q H a xs) (YAt xs) := by
  cases q with
  | true => exact ⟨fun i H hi g => (walk_list (K := K) (a := a) (xs := xs)).goes i H hi (by rcases g with ⟨_, g⟩ | ⟨h, _⟩; exact g; cases h), fun H g => (walk_list (K := K) (a := a) (xs := xs)).stops H (by rcases g with ⟨_, g⟩ | ⟨h, _⟩; exact g; cases h), fun i H x H' hi g y => (walk_list (K := K) (a := a) (xs := xs)).yields i H x H' hi (by rcases g with ⟨_, g⟩ | ⟨h, _⟩; exact g; cases h) y⟩
  | false => exact ⟨fun i H hi g => (walk_tup (K := K) (a := a) (xs := xs)).goes i H hi (by rcases g with ⟨h, _⟩ | ⟨_, g⟩; cases h; exact g), fun H g => (walk_tup (K := K) (a := a) (xs := xs)).stops H (by rcases g with ⟨h, _⟩ | ⟨_, g⟩; cases h; exact g), fun i H x H' hi g y => (walk_tup (K := K) (a := a) (xs := xs)).yields i H x H' hi (by rcases g with ⟨h, _⟩ | ⟨_, g⟩; cases h; exact g) y⟩
end
section
variable {K : PySem.W.Frag} {σ : L2.St} {H : Hp} {te ta tb tl tx : TE}
/-- [e for x in s], s a list or a tuple -/
theorem el_lcQ {a : Addr} {q : Bool} {xs : List V} {j : Nat} {vs : List Nat} (v : Nat → V) (h : Ev tl σ H (.ref a)) (hx : SqQ K q H a xs) (hz : xs.length ≤ 40000) (hw : ∀ x, wipe ((wipe σ vs).set j (some x)) vs = wipe σ vs)
    (he : ∀ (i : Nat) (x : V) H1, Ex H H1 → xs[i]? = some x → Ev te ((wipe σ vs).set j (some x)) H1 (v i)) :
    EvL (tLc (iSeq K tl) (gName j) tYes te vs) σ H (given xs.length (fun _ => true) v) := fun H0 e Q k => h H0 e _ fun H1 e1 => ⟨a, q, xs, rfl, ex_q (e.trans e1) hx, fun Dl hD =>
  lc_it (ix_seq_walk (xs := xs)) (Cw H1 (fun _ => true) v Dl) ⟨hD, Ex.new hD, upd_same⟩ (fun i H' _ p => ex_q ((e.trans e1).trans p.2.1) hx) (fun i x H5 H6 hi p y => by
    obtain ⟨rfl, hx⟩ := y
    exact ⟨hw _, cw_turn (f := fun _ => true) p (by omega) (fun H4 _ Q' q => q H4 (Ex.refl H4)) (fun _ => he i x H1 (e.trans e1) hx)⟩) (fun H' p => k Dl H' (fresh_back e1 p.1) (e1.trans p.2.1) p.2.2)⟩
theorem ev_allQ {a : Addr} {q : Bool} {xs : List V} {j : Nat} {vs : List Nat} (g : Nat → Bool) (h : Ev tl σ H (.ref a)) (hx : SqQ K q H a xs) (hz : xs.length ≤ 40000) (hw : ∀ x, wipe ((wipe σ vs).set j (some x)) vs = wipe σ vs)
    (he : ∀ (i : Nat) (x : V) H1, Ex H H1 → xs[i]? = some x → Ev te ((wipe σ vs).set j (some x)) H1 (.bl (g i))) :
    Ev (tCB (rAll K) (tCons (tLc (iSeq K tl) (gName j) tYes te vs) tNil)) σ H (.bl ((List.range xs.length).all g)) := by
  have h1 := el_lcQ (fun i => V.bl (g i)) h hx hz hw he
  rw [D1.given_map] at h1
  have h2 := D1.ev_all (K := K) h1
  rw [D1.all_range] at h2
  exact h2
theorem ev_lenQ {p : Addr} {q : Bool} {ys : List V} (hx : Ev tx σ H (.ref p)) (h : SqQ K q H p ys) : Ev (tCB (fun xs H Q => ∃ p ys, xs = [V.ref p] ∧ (SqL K H p ys ∨ SqT K H p ys) ∧ Q (.int ys.length) H) (tCons tx tNil)) σ H (.int ys.length) := fun H1 e Q k =>
  hx H1 e _ fun H2 e2 => ⟨p, ys, rfl, by
    rcases ex_q (e.trans e2) h with ⟨_, h⟩ | ⟨_, h⟩
    · exact .inl h
    · exact .inr h, k H2 e2⟩
end
end L2
namespace D1
open PySem L2 Evl RZ ClX PySem.VX
section
variable {K : PySem.W.Frag} {σ : L2.St} {H : Hp} {te ta tb tl tx : TE}
/-- isinstance(x, (list, tuple)) -/
theorem ev_tLT {v : V} {a b c d e : Bool} (h : Ev te σ H v) (t : Tells K H v a b c d e) : Ev (tCB (rIsiT K) (tCons te (tCons (tTup (tCons (tC (.ty "list")) (tCons (tC (.ty "tuple")) tNil))) tNil))) σ H (.bl (e || d)) := fun H1 e1 Q q => by
  obtain ⟨t, h1, h2, h3, h4, h5, h6⟩ := t
  refine h H1 e1 _ fun H2 e2 => ⟨by show 2 ≤ sizeLine; decide, fun l hl => ?_⟩
  refine ⟨v, l, _, t, [.type "list", .type "tuple"], e || d, rfl, upd_same, .cons (.ty "list") (.cons (.ty "tuple") .nil), h1 _ ((e1.trans e2).trans (Ex.new hl)), ?_, q _ (e2.trans (Ex.new hl))⟩
  cases e with
  | true => exact kitAny_cons h6 (fun h => by cases h) (fun _ => rfl)
  | false => exact kitAny_cons h6 (fun _ => by
      cases d with
      | true => exact kitAny_cons h5 (fun h => by cases h) (fun _ => rfl)
      | false => exact kitAny_cons h5 (fun _ => kitAny_nil) (fun h => by cases h)) (fun h => by cases h)
theorem tl_q {a : Addr} {q : Bool} {xs : List V} (h : H a = some (objQ q xs)) : Tells K H (.ref a) false false false (!q) q := by
  cases q with
  | true => exact tl_lst h
  | false => exact tl_tup h
end
/-! ### webs and paths -/
abbrev Step := Nat × Nat × PyData
def stepD (s : Step) : PyData := .tuple [.int (s.1 : Nat), .int (s.2.1 : Nat), s.2.2]
def webD (n : Nat) (ss : List Step) : PyData := .tuple [.int (n : Nat), .tuple (ss.map stepD)]
structure WebOk (k : RK) (n : Nat) (ss : List Step) : Prop where
  n1 : 1 ≤ n
  n12 : n ≤ 12
  len : ss.length ≤ 80
  at_ : ∀ s ∈ ss, s.1 < n ∧ s.2.1 < n ∧ goodB k s.2.2 = true
abbrev Line := Option (List (Option Int))
def NumAll (K : PySem.W.Frag) (H : Hp) : List V → List (Option Int) → Prop
  | [], [] => True
  | v :: vs, o :: os => Num K H v o ∧ NumAll K H vs os
  | _, _ => False
theorem NumAll.up {K : PySem.W.Frag} {H H' : Hp} (e : Ex H H') : ∀ {vs : List V} {os : List (Option Int)}, NumAll K H vs os → NumAll K H' vs os
  | [], [], h => h
  | _ :: _, _ :: _, ⟨h, r⟩ => ⟨h.up e, NumAll.up e r⟩
  | [], _ :: _, h => h.elim
  | _ :: _, [], h => h.elim
theorem NumAll.len {K : PySem.W.Frag} {H : Hp} : ∀ {vs : List V} {os : List (Option Int)}, NumAll K H vs os → vs.length = os.length
  | [], [], h => rfl
  | _ :: _, _ :: _, ⟨h, r⟩ => congrArg (· + 1) (NumAll.len r)
  | [], _ :: _, h => h.elim
  | _ :: _, [], h => h.elim
theorem NumAll.get {K : PySem.W.Frag} {H : Hp} : ∀ {vs : List V} {os : List (Option Int)}, NumAll K H vs os → ∀ {i : Nat} {v : V}, vs[i]? = some v → ∃ o, os[i]? = some o ∧ Num K H v o
  | [], [], h, i, v, hv => by simp at hv
  | _ :: _, o :: _, ⟨h, r⟩, 0, v, hv => by
    simp at hv
    subst hv
    exact ⟨o, rfl, h⟩
  | _ :: _, _ :: _, ⟨h, r⟩, i + 1, v, hv => NumAll.get r (i := i) (by simpa using hv)
  | [], _ :: _, h, _, _, _ => h.elim
  | _ :: _, [], h, _, _, _ => h.elim
/-- a path as it lies: a list or a tuple of numbers and other things; or no such thing -/
def PathAt (K : PySem.W.Frag) (H : Hp) (v : V) : Line → Prop
  | some os => ∃ (a : Addr) (q : Bool) (xs : List V), v = .ref a ∧ H a = some (objQ q xs) ∧ NumAll K H xs os ∧ os.length ≤ 1000
  | none => ∃ a b c, Tells K H v a b c false false
theorem PathAt.up {K : PySem.W.Frag} {H H' : Hp} {v : V} (e : Ex H H') : ∀ {l : Line}, PathAt K H v l → PathAt K H' v l
  | some os, ⟨a, q, xs, h1, h2, h3, h4⟩ => ⟨a, q, xs, h1, e _ _ h2, h3.up e, h4⟩
  | none, ⟨a, b, c, t⟩ => ⟨a, b, c, t.up e⟩
def numB (m : Nat) (o : Option Int) : Bool := whO 0 ((m : Int) - 1) o
def stepN (ss : List Step) (o : Option Int) : Step := ss.getD (o.getD 0).toNat (0, 0, .none)
def linkB (ss : List Step) (os : List (Option Int)) : Bool := (List.range (os.length - 1)).all fun i => ((stepN ss (os.getD i none)).2.1 : Int) == (stepN ss (os.getD (i + 1) none)).1
def isPathB (ss : List Step) : Line → Bool
  | some os => os.all (numB ss.length) && linkB ss os
  | none => false
def lineLen : Line → Nat
  | some os => os.length
  | none => 0
theorem numB_step {ss : List Step} {o : Option Int} (h : numB ss.length o = true) : ∃ i : Nat, o = some (i : Int) ∧ i < ss.length ∧ ss[i]? = some (stepN ss o) := by
  cases o with
  | none => cases h
  | some j =>
    have h : within 0 ((ss.length : Int) - 1) j = true := h
    unfold within at h
    rw [Bool.and_eq_true, decide_eq_true_eq, decide_eq_true_eq] at h
    obtain ⟨h1, h2⟩ := h
    have hj : j.toNat < ss.length := by omega
    refine ⟨j.toNat, by rw [Int.toNat_of_nonneg h1], hj, ?_⟩
    unfold stepN
    rw [Option.getD_some, List.getD_eq_getElem?_getD, List.getElem?_eq_getElem hj, Option.getD_some]
theorem WebOk.step {k : RK} {n : Nat} {ss : List Step} (h : WebOk k n ss) {i : Nat} {s : Step} (hs : ss[i]? = some s) : s.1 < n ∧ s.2.1 < n ∧ goodB k s.2.2 = true := h.at_ s (List.mem_of_getElem? hs)
/-- the parts of a web as they lie -/
theorem web_at {H : Hp} {v : V} {n : Nat} {ss : List Step} (h : DtAt H v (webD n ss)) : ∃ a p us, v = .ref a ∧ H a = some (.tup [.int (n : Nat), .ref p]) ∧ H p = some (.tup us) ∧ DtAll H us (ss.map stepD) ∧ us.length = ss.length := by
  obtain ⟨a, u, w, rfl, ha, h1, h2⟩ := h.two
  obtain rfl := h1.int_inv
  cases h2 with
  | tup h r => exact ⟨a, _, _, rfl, ha, h, r, by rw [DtAll.len r, List.length_map]⟩
theorem step_at {H : Hp} {us : List V} {ss : List Step} (h : DtAll H us (ss.map stepD)) {i : Nat} {s : Step} (hs : ss[i]? = some s) : ∃ a w, us[i]? = some (.ref a) ∧ H a = some (.tup [.int (s.1 : Nat), .int (s.2.1 : Nat), w]) ∧ DtAt H w s.2.2 := by
  obtain ⟨v, hv, hd⟩ := h.get' (i := i) (d := stepD s) (by rw [List.getElem?_map, hs]; rfl)
  obtain ⟨a, u, w, t, rfl, ha, h1, h2, h3⟩ := hd.three
  obtain rfl := h1.int_inv
  obtain rfl := h2.int_inv
  exact ⟨a, t, hv, ha, h3⟩
end D1
end
section
set_option Elab.async false
set_option linter.all false
set_option maxRecDepth 100000
set_option maxHeartbeats 4000000
/-! W1: each and its next of a list or a tuple -/
namespace D1
open PySem L2 Evl RZ ClX PySem.VX
abbrev rLenQ (K : PySem.W.Frag) : List V → Hp → VK → Prop := fun xs H Q => ∃ p ys, xs = [V.ref p] ∧ (SqL K H p ys ∨ SqT K H p ys) ∧ Q (.int ys.length) H
theorem cut1 (xs : List V) : cutV xs (some 1) none = xs.drop 1 := by
  unfold cutV
  rw [show HT.sIx xs.length 0 (some 1) = min 1 xs.length from HT.sIx_nat _ _ 1, HT.sIx_none]
  rcases xs with _ | ⟨x, xs⟩
  · rfl
  · have h : min 1 (x :: xs).length = 1 := by rw [List.length_cons]; omega
    rw [h]
    exact List.take_of_length_le (by rw [List.length_drop]; exact Nat.le_refl _)
theorem walk_zipQ {K : PySem.W.Frag} {a b : Addr} {xs ys : List V} {n : Nat} (hn : n = min xs.length ys.length) : Walk (ItzT K a b) n (fun H => SqT K H a xs ∧ SqT K H b ys) (YPair (fun i => xs[i]?) (fun i => ys[i]?)) := by
  subst hn
  refine ⟨fun i _ hi q => ?_, fun _ q => ⟨xs, ys, q.1, q.2, by omega⟩, fun i H v H' _ q y => ?_⟩
  · have h1 : i < xs.length := by omega
    have h2 : i < ys.length := by omega
    exact ⟨xs, ys, xs[i], ys[i], q.1, q.2, by simp [h1], by simp [h2]⟩
  · obtain ⟨T, x, z, h1, h2, h3, h4, h5⟩ := y
    exact ⟨T, x, z, h1, h2, h3, h4 xs q.1, h5 ys q.2⟩
section
variable {K : PySem.W.Frag} {σ : L2.St} {H : Hp} {te ta tb tl tx : TE}
def sl1 (K : PySem.W.Frag) (tl : TE) : TE := tSl (fun x lo hi H Q => rSlL K x lo hi H Q ∨ rSlA K x lo hi H Q) tl (tPart (tC (.int 1))) tNoPart
/-- s[1:] -/
theorem sl1_ok {a : Addr} {q : Bool} {xs : List V} (h : Ev tl σ H (.ref a)) (hx : H a = some (objQ q xs)) {H1 : Hp} (e : Ex H H1) {Q : VK} (k : ∀ b H2, Ex H1 H2 → H2 b = some (objQ q (xs.drop 1)) → Q (.ref b) H2) : sl1 K tl σ H1 Q := by
  refine h H1 e _ fun H2 e2 => ?_
  have hx2 := (e.trans e2) _ _ hx
  refine ⟨1, rfl, ?_⟩
  cases q with
  | true =>
    refine .inl ⟨a, xs, rfl, sq_of hx2, fun p hp => k p _ (e2.trans (Ex.new hp)) ?_⟩
    rw [upd_same, cut1]
    rfl
  | false =>
    refine .inr ⟨a, xs, rfl, st_of hx2, fun hw => ?_, fun hw p hp => k p _ (e2.trans (Ex.new hp)) ?_⟩
    · have h0 : xs.length = 0 := by
        have h1 : min 1 xs.length = 0 := by rw [← show HT.sIx xs.length 0 (some 1) = min 1 xs.length from HT.sIx_nat _ _ 1]; exact hw.1
        omega
      refine k a _ e2 ?_
      rw [hx2]
      cases xs with
      | nil => rfl
      | cons _ _ => cases h0
    · rw [upd_same, cut1]
      rfl
/-- all([e for x, y in zip(s, s[1:])]) -/
theorem ev_allZ {a : Addr} {q : Bool} {xs : List V} {j k : Nat} {vs : List Nat} (g : Nat → Bool) (h : Ev tl σ H (.ref a)) (hx : H a = some (objQ q xs)) (hz : xs.length ≤ 40000)
    (hw : ∀ x y, wipe (((wipe σ vs).set j (some x)).set k (some y)) vs = wipe σ vs)
    (he : ∀ (i : Nat) (x y : V) H1, Ex H H1 → xs[i]? = some x → xs[i + 1]? = some y → Ev te (((wipe σ vs).set j (some x)).set k (some y)) H1 (.bl (g i))) :
    Ev (tCB (rAll K) (tCons (tLc (iZipA K (tCons tl (tCons (sl1 K tl) tNil))) (gTup K 2 (gCons (gName j) (gCons (gName k) gNil))) tYes te vs) tNil)) σ H (.bl ((List.range (xs.length - 1)).all g)) := by
  have main : EvL (tLc (iZipA K (tCons tl (tCons (sl1 K tl) tNil))) (gTup K 2 (gCons (gName j) (gCons (gName k) gNil))) tYes te vs) σ H (given (xs.length - 1) (fun _ => true) fun i => .bl (g i)) := fun H0 e Q k' => by
    refine h H0 e _ fun H1 e1 => sl1_ok h hx (e.trans e1) fun b H2 e2 hb => ?_
    have e12 := e1.trans e2
    have ha := (e.trans e12) _ _ hx
    have hn : xs.length - 1 = min xs.length (xs.drop 1).length := by rw [List.length_drop]; omega
    refine ⟨a, b, xs, xs.drop 1, rfl, ?_⟩
    have turn : ∀ (Dl : Addr) (i : Nat) (x : V) (H5 H6 : Hp), i < xs.length - 1 → Cw H2 (fun _ => true) (fun i => V.bl (g i)) Dl i H5 → YPair (fun i => xs[i]?) (fun i => (xs.drop 1)[i]?) i H5 x H6 → gTup K 2 (gCons (gName j) (gCons (gName k) gNil)) x (wipe σ vs) H6 fun σ2 H2' => wipe σ2 vs = wipe σ vs ∧ tYes σ2 H2' fun b' H3 =>
        if b' = true then te σ2 H3 fun y H4 => ∃ acc, H4 Dl = some (.lst acc) ∧ acc.length < sizeLine ∧ Cw H2 (fun _ => true) (fun i => V.bl (g i)) Dl (i + 1) (upd H4 Dl (.lst (acc ++ [y]))) else Cw H2 (fun _ => true) (fun i => V.bl (g i)) Dl (i + 1) H3 := fun Dl i x H5 H6 hi p y => by
      obtain ⟨Tp, c, d, rfl, hT, rfl, hc, hd⟩ := y
      have hd : xs[i + 1]? = some d := by
        have hd : (xs.drop 1)[i]? = some d := hd
        rw [List.getElem?_drop, Nat.add_comm] at hd
        exact hd
      have p2 : Cw H2 (fun _ => true) (fun i => V.bl (g i)) Dl i (upd H5 Tp (.tup [c, d])) := ⟨p.1, p.2.1.trans (Ex.new hT), by rw [upd_ne (ne_of_none p.2.2 hT)]; exact p.2.2⟩
      exact ⟨Tp, _, rfl, .inl (.inl upd_same), rfl, _, _, rfl, _, _, rfl, rfl, hw _ _, cw_turn (f := fun _ => true) p2 (by omega) (fun H4 _ Q' q => q H4 (Ex.refl H4)) (fun _ => he i c d H2 (e.trans e12) hc hd)⟩
    cases q with
    | true =>
      refine .inl ⟨sq_of ha, sq_of hb, fun Dl hD => ?_⟩
      exact lc_it (walk_zip (K := K) (a := a) (b := b) (xs := xs) (ys := xs.drop 1) hn) (Cw H2 (fun _ => true) (fun i => V.bl (g i)) Dl) ⟨hD, Ex.new hD, upd_same⟩ (fun i H' _ p => ⟨sq_of (p.2.1 _ _ ha), sq_of (p.2.1 _ _ hb)⟩) (fun i x H5 H6 hi p y => turn Dl i x H5 H6 hi p y) (fun H' p => k' Dl H' (fresh_back e12 p.1) (e12.trans p.2.1) p.2.2)
    | false =>
      refine .inr ⟨st_of ha, st_of hb, fun Dl hD => ?_⟩
      exact lc_it (walk_zipQ (K := K) (a := a) (b := b) (xs := xs) (ys := xs.drop 1) hn) (Cw H2 (fun _ => true) (fun i => V.bl (g i)) Dl) ⟨hD, Ex.new hD, upd_same⟩ (fun i H' _ p => ⟨st_of (p.2.1 _ _ ha), st_of (p.2.1 _ _ hb)⟩) (fun i x H5 H6 hi p y => turn Dl i x H5 H6 hi p y) (fun H' p => k' Dl H' (fresh_back e12 p.1) (e12.trans p.2.1) p.2.2)
  rw [given_map] at main
  have h2 := ev_all (K := K) main
  rw [all_range] at h2
  exact h2
end
end D1
end
section
set_option Elab.async false
set_option linter.all false
set_option maxRecDepth 100000
set_option maxHeartbeats 4000000
/-! L1: draws -/
namespace D1
open PySem L2 Evl RZ ClX PySem.VX
theorem shaped_ints (ls : List Int) : SeqAt.shaped (.list (ls.map PyData.int)) = true := PySem.W.shaped_ints ls
theorem eqv_nil (ls : List Int) : PyData.eqv (.list (ls.map PyData.int)) (.list []) = ls.isEmpty := by
  cases ls <;> rfl
theorem int_get {xs : List Int} {i : Nat} {y : Int} (h : xs[i]? = some y) : (xs.map V.int)[i]? = some (V.int y) := by
  rw [List.getElem?_map, h]
  rfl
theorem int_atL {cs : List Int} {i : Nat} {x : V} (h : (cs.map V.int)[i]? = some x) : x = .int (cs.getD i 0) := by
  rw [List.getElem?_map] at h
  obtain ⟨y, hy, rfl⟩ := Option.map_eq_some_iff.mp h
  rw [List.getD_eq_getElem?_getD, hy]
  rfl
theorem cut9 {ns : List Int} {k : Nat} (hk : k < ns.length) : cutV (ns.map V.int) (some (k : Int)) (some ((k : Int) + 9)) = ((ns.drop k).take 9).map V.int := by
  unfold cutV
  rw [HT.sIx_nat, show ((k : Int) + 9) = ((k + 9 : Nat) : Int) by omega, HT.sIx_nat, List.length_map, List.map_take, List.map_drop]
  have h1 : min k ns.length = k := by omega
  rw [h1]
  apply List.ext_getElem?
  intro i
  rw [List.getElem?_take, List.getElem?_take]
  by_cases h : i < 9
  · rw [if_pos h]
    by_cases h2 : i < min (k + 9) ns.length - k
    · rw [if_pos h2]
    · rw [if_neg h2, List.getElem?_eq_none (by rw [List.length_drop, List.length_map]; omega)]
  · rw [if_neg h, if_neg (by omega)]
/-- read to such values, in such heaps -/
def EvP (te : TE) (σ : L2.St) (H : Hp) (M : V → Hp → Prop) : Prop := ∀ Q : VK, (∀ x H', M x H' → Q x H') → te σ H Q
theorem asg_p {i : Nat} {te : TE} {z : TS} {D : Ends} {σ : L2.St} {H : Hp} {M : V → Hp → Prop} (h : EvP te σ H M) (k : ∀ x H', M x H' → z D (σ.set i (some x)) H') : tSeq (tAsg te (gName i)) z D σ H := h _ k
theorem ret_p {te : TE} {D : Ends} {σ : L2.St} {H : Hp} {M : V → Hp → Prop} (h : EvP te σ H M) (k : ∀ x H', M x H' → D.rt x H') : tRet te D σ H := h _ k
theorem Ev.p {te : TE} {σ : L2.St} {H : Hp} {v : V} (h : Ev te σ H v) : EvP te σ H (fun x H' => x = v ∧ Ex H H') := fun Q k => h H (Ex.refl H) Q fun H' e => k v H' ⟨rfl, e⟩
/-- the state of draws: so many at most drawn -/
structure DS (m pc pg : Addr) (cs : List Int) (j : Nat) (H : Hp) : Prop where
  mc : m ≠ pc
  mg : m ≠ pg
  cg : pc ≠ pg
  cne : cs ≠ []
  hc : H pc = some (.lst (cs.map V.int))
  ex : ∃ (a : Nat) (r : Int) (gs : List Int), H m = some (.lst [.ref pc, .int (a : Int), .int r, .ref pg]) ∧ H pg = some (.lst (gs.map V.int)) ∧ a ≤ j ∧ 0 ≤ r ∧ (∀ g ∈ gs, 0 < g) ∧ gs.length ≤ 63
theorem DS.up {m pc pg : Addr} {cs : List Int} {i j : Nat} {H : Hp} (h : DS m pc pg cs i H) (e : i ≤ j) : DS m pc pg cs j H := by
  obtain ⟨h1, h2, h3, h4, h5, a, r, gs, h6, h7, h8, h9⟩ := h
  exact ⟨h1, h2, h3, h4, h5, a, r, gs, h6, h7, Nat.le_trans h8 e, h9⟩
def frD (m pc pg : Addr) (cs : List Int) (j : Nat) : Fr where
  chg := fun b => b = m ∨ b = pg
  inv := DS m pc pg cs j
  mono := fun H H' e h => by
    obtain ⟨h1, h2, h3, h4, h5, a, r, gs, h6, h7, h8⟩ := h
    exact ⟨h1, h2, h3, h4, e _ _ h5, a, r, gs, e _ _ h6, e _ _ h7, h8⟩
  live := fun H b h => by
    obtain ⟨h1, h2, h3, h4, h5, a, r, gs, h6, h7, h8⟩ := h
    rintro (rfl | rfl)
    · rw [h6]
      exact Option.some_ne_none _
    · rw [h7]
      exact Option.some_ne_none _
section
variable {m pc pg : Addr} {cs : List Int} {i j : Nat} {H H1 H2 : Hp}
abbrev RD (m pc pg : Addr) (cs : List Int) (j : Nat) (H H' : Hp) : Prop := (frD m pc pg cs j).R H H'
theorem RD.up (r : RD m pc pg cs i H H1) (e : i ≤ j) : RD m pc pg cs j H H1 := ⟨DS.up r.inv e, r.keep⟩
theorem RD.then (a : RD m pc pg cs i H H1) (b : RD m pc pg cs j H1 H2) : RD m pc pg cs j H H2 := ⟨b.inv, fun c o n e => b.keep c o n (a.keep c o n e)⟩
theorem RD.ofEx (h : DS m pc pg cs j H) (e : Ex H H1) : RD m pc pg cs j H H1 := .ex h e
/-- tuples and instances stay -/
theorem RD.kp (h : DS m pc pg cs i H) (r : RD m pc pg cs j H H1) : Kp H H1 := fun a o so ha => by
  obtain ⟨h1, h2, h3, h4, h5, b, r', gs, h6, h7, h8⟩ := h
  refine r.keep a o (fun hc => ?_) ha
  rcases hc with rfl | rfl
  · rw [h6] at ha
    cases ha
    cases so
  · rw [h7] at ha
    cases ha
    cases so
/-- an object that the draws don't hold stays -/
theorem RD.stay (r : RD m pc pg cs j H H1) {p : Addr} {o : HO} (h1 : p ≠ m) (h2 : p ≠ pg) (hp : H p = some o) : H1 p = some o := r.keep p o (fun hc => hc.elim h1 h2) hp
/-- a fresh address isn't one of theirs -/
theorem DS.fresh (h : DS m pc pg cs j H) {p : Addr} (hp : H p = none) : p ≠ m ∧ p ≠ pg := by
  obtain ⟨h1, h2, h3, h4, h5, b, r', gs, h6, h7, h8⟩ := h
  refine ⟨fun z => ?_, fun z => ?_⟩
  · rw [z, h6] at hp
    cases hp
  · rw [z, h7] at hp
    cases hp
/-- an object of one's own changes, the draws go on -/
theorem RD.set (r : RD m pc pg cs j H H1) {p : Addr} {o : HO} (d : DS m pc pg cs i H) (hp : H p = none) : RD m pc pg cs j H (upd H1 p o) := by
  obtain ⟨n1, n2⟩ := d.fresh hp
  have n3 : p ≠ pc := fun z => by
    have := d.hc
    rw [← z, hp] at this
    cases this
  obtain ⟨h1, h2, h3, h4, h5, b, r', gs, h6, h7, h8⟩ := r.inv
  exact Fr.R.set (F := frD m pc pg cs j) ⟨h1, h2, h3, h4, by rw [upd_ne (Ne.symm n3)]; exact h5, b, r', gs, by rw [upd_ne (Ne.symm n1)]; exact h6, by rw [upd_ne (Ne.symm n2)]; exact h7, h8⟩ r hp
end
section
variable {P : Program} {w : World} {K : PySem.W.Frag} {mg : Str → Option Value} {base : Heap}
def spMixed : Sp := fun vs H Q _ => ∃ c k : Int, vs = [.int c, .int k] ∧ 0 ≤ k ∧ k ≤ 10000000 ∧ ∀ (x : Int) H', 0 ≤ x → x < 2 ^ 31 → Ex H H' → Q (.int x) H'
/-- the draw begun: all objects are new -/
def spDraw (K : PySem.W.Frag) : Sp := fun vs H Q _ => ∃ (a : Addr) (ns : List Int) (k : Nat), vs = [.ref a, .int (k : Int)] ∧ SqL K H a (ns.map V.int) ∧ ns.length ≤ 63 ∧ (ns ≠ [] → k < ns.length) ∧ k ≤ 63 ∧ ∀ m pc pg cs H', Ex H H' → H m = none → H pc = none → H pg = none → DS m pc pg cs (64 * k) H' → Q (.ref m) H'
def spNext : Sp := fun vs H Q _ => ∃ (m pc pg : Addr) (cs : List Int) (j : Nat) (n : Int), vs = [.ref m, .int n] ∧ DS m pc pg cs j H ∧ j ≤ 100000 ∧ 0 < n ∧ n.natAbs.log2 < 9000 ∧ ∀ (x : Int) H', 0 ≤ x → x < n → RD m pc pg cs (j + 1) H H' → Q (.int x) H'
abbrev s_mixed : Stmt := top 114
theorem sc_mixed : FnScope ["_law_cell", "_law_k", "_law_prime"] ["_law_cell", "_law_k"] (defScope s_mixed) := ⟨rfl, rfl, rfl, by decide +kernel, rfl, by decide +kernel, by decide +kernel⟩
theorem ok_mixed {f : Addr} {fd : FuncData} (F : FnP K "_law_mixed" s_mixed f fd) : FnOk P w K mg base (CX0) 1 f fd ["_law_cell", "_law_k"] (spMixed) := by
  refine F.ok (CX := CX0) sc_mixed (fun vs H Q E h => ?_) (fun cdv A outer s H vs Q E hr h => ?_)
  · obtain ⟨c, k, rfl, _⟩ := h
    rfl
  · obtain ⟨c, k, rfl, k0, k1, q⟩ := h
    have hu := hu_of hr
    have hu64 := hr.units
    refine ⟨_, PSs.nox (pss_cons (ps_set (i := 2) sc_mixed.nd rfl (Or.inl rfl) (pe_ix ix_list (pe_lst (pa_cons pe_int (pa_cons pe_int (pa_cons pe_int (pa_cons pe_int (pa_cons pe_int pa_nil)))))) (pe_op op_mod (pv 1) pe_int) (fun _ _ => rfl)))
      (pss_one (ps_ret (pe_op op_mod (pe_op op_mul (pe_op op_mod (pe_op op_pow (pe_op op_mod (pe_op op_add (pe_op op_add (pv 0) (pe_op op_mul pe_int (pv 1))) pe_int) (pv 2)) pe_int) (pv 2)) (pe_op op_add pe_int (pe_op op_mul pe_int (pv 1)))) (pv 2))))), ?_⟩
    have hp : ∃ p : Int, atI [V.int 2147483629, .int 2147483587, .int 2147483579, .int 2147483563, .int 2147483549] (k % 5) = some (.int p) ∧ 0 < p ∧ p < 2 ^ 31 := by
      have h0 : 0 ≤ k % 5 := Int.emod_nonneg _ (by decide)
      have h1 : k % 5 < 5 := Int.emod_lt_of_pos _ (by decide)
      generalize k % 5 = z at h0 h1
      have h2 : z = 0 ∨ z = 1 ∨ z = 2 ∨ z = 3 ∨ z = 4 := by omega
      rcases h2 with rfl | rfl | rfl | rfl | rfl
      · exact ⟨_, rfl, by decide, by decide⟩
      · exact ⟨_, rfl, by decide, by decide⟩
      · exact ⟨_, rfl, by decide, by decide⟩
      · exact ⟨_, rfl, by decide, by decide⟩
      · exact ⟨_, rfl, by decide, by decide⟩
    obtain ⟨p, hp, p0, p1⟩ := hp
    refine q_asg (v := .int p) (ev_opL1 (el_lst (ea_cons ev_c (ea_cons ev_c (ea_cons ev_c (ea_cons ev_c (ea_cons ev_c ea_nil))))) (by decide)) (fun H1 e1 => ev_op (ev_var rfl) ev_c (rv_I (by decide : (0 : Int) < 5))) fun l H1 hl e1 => rv_ixL (sq_of hl) hp) fun H1 e1 => ?_
    have m0 : ∀ z : Int, 0 ≤ z % p := fun z => Int.emod_nonneg _ (by omega)
    have m1 : ∀ z : Int, z % p < p := fun z => Int.emod_lt_of_pos _ p0
    refine s_ret (ev_op (ev_op (ev_op (ev_op (ev_op (ev_op (ev_op (ev_var rfl) (ev_op ev_c (ev_var rfl) (rv_I (.inl ⟨by decide, by decide⟩))) rv_I0) ev_c rv_I0) (ev_var rfl) (rv_I p0)) ev_c (rv_I ⟨by decide, by decide, ?_⟩)) (ev_var rfl) (rv_I p0)) (ev_op ev_c (ev_op ev_c (ev_var rfl) (rv_I (.inl ⟨by decide, by decide⟩))) rv_I0) (rv_I (.inl ⟨?_, ?_⟩))) (ev_var rfl) (rv_I p0)) fun H2 e2 => q _ H2 (m0 _) (Int.lt_trans (m1 _) p1) (e1.trans e2)
    · have h1 := m0 (c + 7919 * k + 104729)
      have h2 := m1 (c + 7919 * k + 104729)
      generalize (c + 7919 * k + 104729) % p = z at h1 h2
      omega
    · have h1 := m0 (((c + 7919 * k + 104729) % p) ^ (5 : Int).toNat)
      omega
    · have h1 := m1 (((c + 7919 * k + 104729) % p) ^ (5 : Int).toNat)
      omega
abbrev s_draw : Stmt := top 115
theorem sc_draw : FnScope ["_law_script", "_law_k", "_law_cells", "_law_cell"] ["_law_script", "_law_k"] (defScope s_draw) := ⟨rfl, rfl, rfl, by decide +kernel, rfl, by decide +kernel, by decide +kernel⟩
theorem ok_draw {f : Addr} {fd : FuncData} (F : FnP K "_law_draw" s_draw f fd) : FnOk P w K mg base (CX0) 1 f fd ["_law_script", "_law_k"] (spDraw K) := by
  refine F.ok (CX := CX0) sc_draw (fun vs H Q E h => ?_) (fun cdv A outer s H vs Q E hr h => ?_)
  · obtain ⟨a, ns, k, rfl, _⟩ := h
    rfl
  · obtain ⟨a, ns, k, rfl, hS, hl, hk, k63, q⟩ := h
    have hu := hu_of hr
    have hu64 := hr.units
    refine ⟨_, PSs.nox (pss_cons (ps_set (i := 2) sc_draw.nd rfl (Or.inl rfl) (pe_ifExp (pt_cmpR (op_neD hu64) (pv 0) (pe_lst pa_nil) (nomark _)) (pe_slice sl_list (pv 0) (po_some (pv 1)) (po_some (pe_op op_add (pv 1) pe_int))) (pe_lst (pa_cons pe_int pa_nil))))
      (pss_one (ps_ret (pe_lst (pa_cons (pv 2) (pa_cons (pe_op op_mul pe_int (pv 1)) (pa_cons pe_int (pa_cons (pe_lc (own := [("_law_cell", 3)]) (g := gName 3) (by rfl) sc_draw.nd (pi_list (pv 2)) (blkOk_by (own := [("_law_cell", 3)]) (N := ["_law_script", "_law_k", "_law_cells", "_law_cell"]) (sc := defScope s_draw) (by decide +kernel)) (fun _ _ _ _ _ => pg_name (i := 3) sc_draw.nd rfl (Or.inl rfl)) (fun _ _ _ _ _ => pts_one (pt_cmpR op_ge (pv 3) (pe_op op_pow pe_int pe_int) (nomark _))) (fun _ _ _ _ _ => pv 3)) pa_nil)))))))), ?_⟩
    refine asg_p (M := fun v G => ∃ cs pc, v = .ref pc ∧ H pc = none ∧ cs ≠ [] ∧ cs.length ≤ 63 ∧ Ex H G ∧ G pc = some (.lst (cs.map V.int))) (fun Q' k' => ?_) ?_
    · refine ⟨_, rfl, (by show 0 ≤ sizeLine; decide), fun e he => ?_⟩
      have eE : Ex H (upd H e (.lst [])) := Ex.new he
      refine ⟨.list (ns.map PyData.int), .list [], .lst (ex_l eE hS) (dp_ints2 ns), .lst (.inl (.inl upd_same)) .nil, shaped_ints ns, rfl, _, rfl, ?_⟩
      rw [eqv_nil]
      by_cases hn : ns = []
      · subst hn
        refine no_of rfl ⟨(by show 1 ≤ sizeLine; decide), fun l hl2 => ?_⟩
        exact k' _ _ ⟨[0], l, rfl, fresh_back eE hl2, by decide, by decide, eE.trans (Ex.new hl2), upd_same⟩
      · have hb : (!ns.isEmpty) = true := by
          cases ns with
          | nil => exact absurd rfl hn
          | cons _ _ => rfl
        refine yes_of hb ⟨_, rfl, _, rfl, (k : Int), rfl, _, rfl, (k : Int), 9, rfl, rfl, _, rfl, a, _, rfl, ex_l eE hS, fun p hp => ?_⟩
        refine k' _ _ ⟨(ns.drop k).take 9, p, rfl, fresh_back eE hp, ?_, ?_, eE.trans (Ex.new hp), ?_⟩
        · have := hk hn
          intro z
          have := congrArg List.length z
          rw [List.length_take, List.length_drop, List.length_nil] at this
          omega
        · rw [List.length_take, List.length_drop]
          omega
        · rw [upd_same, cut9 (hk hn)]
    · rintro v G ⟨cs, pc, rfl, hpc, hne, hcl, eG, hG⟩
      refine ⟨_, rfl, _, rfl, 64, (k : Int), rfl, rfl, .inl ⟨by decide, by decide⟩, ?_⟩
      have hE := el_lcL (K := K) (t := tTest (tOp (rI0 fun i j => .bl (decide (j ≤ i))) (tVar 3) (tOp (rI CPow fun i j => .int (i ^ j.toNat)) (tC (.int 10)) (tC (.int 18))))) (te := tVar 3) (tl := tVar 2) (σ := [some (.ref a), some (.int (k : Int)), some (.ref pc), none]) (a := pc) (xs := cs.map V.int) (j := 3) (vs := [3]) (H := G) (fun i => decide ((10 : Int) ^ (18 : Int).toNat ≤ cs.getD i 0)) (fun i => V.int (cs.getD i 0)) (ev_var rfl) (sq_of hG) (by rw [List.length_map]; omega) (fun _ => rfl) (fun i x H5 e5 hx => by
        obtain rfl := int_atL hx
        exact et_test (ev_op (ev_var rfl) (ev_op ev_c ev_c (rv_I ⟨by decide, by decide, by decide⟩)) rv_I0)) (fun i x H5 e5 hx _ => by
        obtain rfl := int_atL hx
        exact ev_var rfl)
      dsimp only [tCons, tC]
      refine hE G (Ex.refl G) _ fun pg G1 hpg e1 h1 => ?_
      refine ⟨by show 4 ≤ sizeLine; decide, fun m hm => ?_⟩
      have pcne : pc ≠ pg := ne_of_none hG hpg
      have hpc1 := e1 _ _ hG
      have m1 : m ≠ pc := fun z => by
        rw [z, hpc1] at hm
        cases hm
      have m2 : m ≠ pg := fun z => by
        rw [z, h1] at hm
        cases hm
      refine q m pc pg cs _ ((eG.trans e1).trans (Ex.new hm)) (fresh_back (eG.trans e1) hm) hpc (fresh_back eG hpg) ⟨m1, m2, pcne, hne, by rw [upd_ne (Ne.symm m1)]; exact hpc1, 64 * k, 0, ((List.range cs.length).filter fun i => decide ((10 : Int) ^ (18 : Int).toNat ≤ cs.getD i 0)).map (fun i => cs.getD i 0), by rw [upd_same, Int.natCast_mul]; rfl, ?_, Nat.le_refl _, Int.le_refl _, ?_, ?_⟩
      · rw [upd_ne (Ne.symm m2), h1]
        unfold given
        rw [List.length_map, List.map_map]
        rfl
      · intro g hg
        obtain ⟨i, hi, rfl⟩ := List.mem_map.mp hg
        have := of_decide_eq_true (List.mem_filter.mp hi).2
        exact Int.lt_of_lt_of_le (by decide) this
      · rw [List.length_map]
        exact Nat.le_trans (List.length_filter_le _ _) (by rw [List.length_range]; exact hcl)
end
end D1
end
section
set_option Elab.async false
set_option linter.all false
set_option maxRecDepth 100000
set_option maxHeartbeats 4000000
/-! L2: _law_next -/
namespace D1
open PySem L2 Evl RZ ClX PySem.VX
theorem q_ifP {t : TT} {tu tz : TS} {D : Ends} {σ : L2.St} {H : Hp} {b : Bool} (M : Hp → Prop) (h : EvT t σ H b) (h1 : b = true → ∀ H1, Ex H H1 → ∀ D' : Ends, (∀ H2, M H2 → D'.nx σ H2) → tu D' σ H1) (h2 : b = false → ∀ H1, Ex H H1 → M H1) (k : ∀ H2, M H2 → tz D σ H2) : tSeq (tIfS t tu tNext) tz D σ H :=
  q_when h (fun hb H1 e1 => h1 hb H1 e1 { D with nx := tz D } k) (fun hb H1 e1 => k H1 (h2 hb H1 e1))
theorem et_neNil {K : PySem.W.Frag} {ta : TE} {σ : L2.St} {H : Hp} {p : Addr} {ls : List Int} (h : Ev ta σ H (.ref p)) (hp : SqL K H p (ls.map V.int)) : EvT (tTest (tOp (rNeD K) ta (tLst tNil))) σ H (!ls.isEmpty) := fun H1 e Q q =>
  h H1 e _ fun H2 e2 => ⟨(by show 0 ≤ sizeLine; decide), fun r hr => ⟨.list (ls.map PyData.int), .list [], .lst (ex_l ((e.trans e2).trans (Ex.new hr)) hp) (dp_ints2 ls), .lst (sq_of upd_same) .nil, shaped_ints ls, rfl, _, by rw [eqv_nil], q _ (e2.trans (Ex.new hr))⟩⟩
theorem dmk {m pc pg : Addr} {cs : List Int} {a j : Nat} {r : Int} {gs : List Int} {H : Hp} (h : DS m pc pg cs j H) (r0 : 0 ≤ r) (ha : a ≤ j) (hg : H pg = some (.lst (gs.map V.int))) (g0 : ∀ g ∈ gs, 0 < g) (gl : gs.length ≤ 63) : DS m pc pg cs j (upd H m (.lst [.ref pc, .int (a : Int), .int r, .ref pg])) :=
  ⟨h.mc, h.mg, h.cg, h.cne, by rw [upd_ne (Ne.symm h.mc)]; exact h.hc, a, r, gs, upd_same, by rw [upd_ne (Ne.symm h.mg)]; exact hg, ha, r0, g0, gl⟩
section
variable {P : Program} {w : World} {K : PySem.W.Frag} {mg : Str → Option Value} {base : Heap}
abbrev s_next : Stmt := top 116
theorem sc_next : FnScope ["_law_draw_here", "_law_many", "_law_found", "_law_cell"] ["_law_draw_here", "_law_many"] (defScope s_next) := ⟨rfl, rfl, rfl, by decide +kernel, rfl, by decide +kernel, by decide +kernel⟩
theorem ok_next {f : Addr} {fd : FuncData} (F : FnP K "_law_next" s_next f fd) {f_mixed : Addr} {fd_mixed : FuncData} (F_mixed : FnP K "_law_mixed" s_mixed f_mixed fd_mixed) (g_mixed : mg "_law_mixed" = some (.ref f_mixed)) (G_mixed : FnOk P w K mg base (CX0) 1 f_mixed fd_mixed ["_law_cell", "_law_k"] (spMixed)) (z_len : mg "len" = none) : FnOk P w K mg base (CX0) 2 f fd ["_law_draw_here", "_law_many"] (spNext) := by
  have b_mixed : Binds K fd_mixed ["_law_cell", "_law_k"] [] := F_mixed.bindsN fun _ _ _ _ _ _ us hl => match us, hl with | [_, _], _ => rfl
  refine F.ok (CX := CX0) sc_next (fun vs H Q E h => ?_) (fun cdv A outer s H vs Q E hr h => ?_)
  · obtain ⟨m, pc, pg, cs, j, n, rfl, _⟩ := h
    rfl
  · obtain ⟨m, pc, pg, cs, j, n, rfl, hD, hj, n0, n1, q⟩ := h
    have hu := hu_of hr
    have hu64 := hr.units
    have hr_mixed := hr
    refine ⟨_, PSs.nox (pss_cons (ps_if (PW.pt (pw_and (pt_cmpR op_eq (pe_ix ix_list (pv 0) pe_int (fun _ _ => rfl)) pe_int (nomark _)) (pw_and1 (pt_cmpR (op_neD hu64) (pe_ix ix_list (pv 0) pe_int (fun _ _ => rfl)) (pe_lst pa_nil) (nomark _))))) (pss_one (ps_asg (pe_bm PySem.F.plainAttrs_list PySem.F.slot_list_pop PySem.F.type_list_pop mt_popAt (pe_ix ix_list (pv 0) pe_int (fun _ _ => rfl)) (pa_cons pe_int pa_nil)) (pg_sub (pv 0) pe_int set_list))) pss_nil)
      (pss_cons (ps_if (pt_cmpR op_gt (pe_ix ix_list (pv 0) pe_int (fun _ _ => rfl)) pe_int (nomark _)) (pss_cons (ps_set (i := 2) sc_next.nd rfl (Or.inl rfl) (pe_op op_mod (pe_ix ix_list (pv 0) pe_int (fun _ _ => rfl)) (pv 1)))
      (pss_cons (ps_asg (pe_op op_fdivW (pe_ix ix_list (pv 0) pe_int (fun _ _ => rfl)) (pv 1)) (pg_sub (pv 0) pe_int set_list))
      (pss_one (ps_ret (pv 2))))) pss_nil)
      (pss_cons (ps_asg (pe_op op_add (pe_ix ix_list (pv 0) pe_int (fun _ _ => rfl)) pe_int) (pg_sub (pv 0) pe_int set_list))
      (pss_cons (ps_set (i := 3) sc_next.nd rfl (Or.inl rfl) (pe_ix ix_list (pe_ix ix_list (pv 0) pe_int (fun _ _ => rfl)) (pe_op op_mod (pe_ix ix_list (pv 0) pe_int (fun _ _ => rfl)) (pe_callB call_len_seq (by rfl) z_len PySem.boot_len (pa_cons (pe_ix ix_list (pv 0) pe_int (fun _ _ => rfl)) pa_nil))) (fun _ _ => rfl)))
      (pss_one (ps_ret (pe_op op_mod (pe_op op_fdiv (pe_op op_add (pe_op op_mul (pe_call G_mixed hr_mixed rfl g_mixed F_mixed.kp b_mixed .nil pass0 (pa_cons (pv 3) (pa_cons (pe_ix ix_list (pv 0) pe_int (fun _ _ => rfl)) pa_nil))) pe_int) (pe_call G_mixed hr_mixed rfl g_mixed F_mixed.kp b_mixed .nil pass0 (pa_cons (pv 3) (pa_cons (pe_op op_add (pe_ix ix_list (pv 0) pe_int (fun _ _ => rfl)) pe_int) pa_nil)))) pe_int) (pv 1)))))))), ?_⟩
    obtain ⟨a, r, gs, hm, hg, ha, r0, g0, gl⟩ := hD.ex
    refine q_ifP (M := RD m pc pg cs j H) (b := (r == 0) && !gs.isEmpty) (et_and (et_test (ev_eqI (ev_op (ev_var rfl) ev_c (rv_ixL (sq_of hm) rfl)) ev_c)) fun _ => et_neNil (ev_op (ev_var rfl) ev_c (rv_ixL (sq_of hm) rfl)) (sq_of hg)) (fun hb H1 e1 D' k' => ?_) (fun _ H1 e1 => .ofEx hD e1) (fun H2 rd => ?_)
    · cases gs with
      | nil =>
        rw [Bool.and_eq_true] at hb
        cases hb.2
      | cons g gs =>
        have hm1 := e1 _ _ hm
        have hg1 := e1 _ _ hg
        have hD1 : DS m pc pg cs j (upd H1 pg (.lst (gs.map V.int))) := ⟨hD.mc, hD.mg, hD.cg, hD.cne, by rw [upd_ne hD.cg]; exact e1 _ _ hD.hc, a, r, gs, by rw [upd_ne hD.mg]; exact hm1, upd_same, ha, r0, fun x hx => g0 x (List.mem_cons_of_mem _ hx), by rw [List.length_cons] at gl; omega⟩
        refine ⟨_, rfl, m, _, 3, .ref pg, rfl, rfl, sq_of hm1, rfl, .inl ⟨rfl, _, sq_of hg1⟩, pg, _, 0, 0, .int g, rfl, rfl, hg1, by decide, by decide, seq0 (by rw [List.length_map, List.length_cons]; omega), rfl, ?_⟩
        refine ⟨_, rfl, m, [.ref pc, .int (a : Int), .int r, .ref pg], 2, 2, rfl, rfl, by show (upd H1 pg _) m = _; rw [upd_ne hD.mg]; exact hm1, rfl, k' _ ⟨dmk hD1 (Int.le_of_lt (g0 g List.mem_cons_self)) ha upd_same (fun x hx => g0 x (List.mem_cons_of_mem _ hx)) (by rw [List.length_cons] at gl; omega), fun b o nc hb => ?_⟩⟩
        have n1 : b ≠ m := fun z => nc (.inl z)
        have n2 : b ≠ pg := fun z => nc (.inr z)
        rw [upd_ne n1, show (upd H1 pg (.lst ((List.map V.int (g :: gs)).eraseIdx 0))) b = _ from upd_ne n2]
        exact e1 _ _ hb
    · clear hm hg ha r0 g0 gl
      have hD2 := rd.inv
      obtain ⟨a, r, gs, hm, hg, ha, r0, g0, gl⟩ := hD2.ex
      have set2 : ∀ {H3 : Hp} {o : HO}, Ex H2 H3 → DS m pc pg cs (j + 1) (upd H3 m o) → RD m pc pg cs (j + 1) H (upd H3 m o) := fun {H3 o} e h => ⟨h, fun b u nc hb => by
        rw [upd_ne (fun z => nc (.inl z))]
        exact e _ _ (rd.keep b u nc hb)⟩
      have up1 : ∀ {H3 : Hp}, Ex H2 H3 → DS m pc pg cs (j + 1) H3 := fun {H3} e => DS.up ((frD m pc pg cs j).mono _ _ e hD2) (Nat.le_succ j)
      refine q_when (b := decide (0 < r)) (et_test (ev_gtI (ev_op (ev_var rfl) ev_c (rv_ixL (sq_of hm) rfl)) ev_c)) (fun hb H3 e3 => ?_) (fun hb H3 e3 => ?_)
      · have hm3 := e3 _ _ hm
        refine q_asg (v := .int (r % n)) (ev_op (ev_op (ev_var rfl) ev_c (rv_ixL (sq_of hm3) rfl)) (ev_var rfl) (rv_I n0)) fun H4 e4 => ?_
        have hm4 := e4 _ _ hm3
        refine q_setL (l := m) (j := 2) (v := .int (r / n)) hm4 (ev_op (ev_op (ev_var rfl) ev_c (rv_ixL (sq_of hm4) rfl)) (ev_var rfl) (rv_I ⟨n0, n1⟩)) (ev_var rfl) ev_c (by show 2 < 4; decide) fun H5 e5 => ?_
        have e := (e3.trans e4).trans e5
        refine s_ret (ev_var rfl) fun H6 e6 => q _ H6 (Int.emod_nonneg _ (by omega)) (Int.emod_lt_of_pos _ n0) (RD.then (set2 (o := .lst [.ref pc, .int (a : Int), .int (r / n), .ref pg]) e (dmk (up1 e) (Int.ediv_nonneg r0 (Int.le_of_lt n0)) (by omega) (e _ _ hg) g0 gl)) (.ofEx (dmk (up1 e) (Int.ediv_nonneg r0 (Int.le_of_lt n0)) (by omega) (e _ _ hg) g0 gl) e6))
      · have hm3 := e3 _ _ hm
        refine q_setL (l := m) (j := 1) (v := .int ((a : Int) + 1)) hm3 (ev_op (ev_op (ev_var rfl) ev_c (rv_ixL (sq_of hm3) rfl)) ev_c rv_I0) (ev_var rfl) ev_c (by show 1 < 4; decide) fun H4 e4 => ?_
        change tSeq _ _ _ _ (upd H4 m (.lst [.ref pc, .int ((a : Int) + 1), .int r, .ref pg]))
        have e := e3.trans e4
        have hD4 : DS m pc pg cs (j + 1) (upd H4 m (.lst [.ref pc, .int ((a : Int) + 1), .int r, .ref pg])) := dmk (a := a + 1) (up1 e) r0 (by omega) (e _ _ hg) g0 gl
        have rd4 := set2 (o := .lst [.ref pc, .int ((a : Int) + 1), .int r, .ref pg]) e hD4
        have hm5 : (upd H4 m (.lst [.ref pc, .int ((a : Int) + 1), .int r, .ref pg])) m = some (.lst [.ref pc, .int ((a : Int) + 1), .int r, .ref pg]) := upd_same
        have hc5 := hD4.hc
        have l0 : 0 < cs.length := List.length_pos_iff.mpr hD.cne
        have hi : ∃ c : Int, atI (cs.map V.int) (((a : Int) + 1) % (cs.length : Int)) = some (.int c) := by
          have h0 := Int.emod_nonneg ((a : Int) + 1) (b := (cs.length : Int)) (by omega)
          have h1 := Int.emod_lt_of_pos ((a : Int) + 1) (b := (cs.length : Int)) (by omega)
          have h2 : (((a : Int) + 1) % (cs.length : Int)).toNat < cs.length := by omega
          exact ⟨_, atI_of h0 (int_get (List.getElem?_eq_getElem h2))⟩
        obtain ⟨c, hc⟩ := hi
        generalize (upd H4 m (.lst [.ref pc, .int ((a : Int) + 1), .int r, .ref pg])) = G at hD4 rd4 hm5 hc5 ⊢
        refine q_asg (v := .int c) (ev_op (ev_op (ev_var rfl) ev_c (rv_ixL (sq_of hm5) rfl)) (ev_op (ev_op (ev_var rfl) ev_c (rv_ixL (sq_of hm5) rfl)) (ev_is (ev_lenQ (q := true) (ev_op (ev_var rfl) ev_c (rv_ixL (sq_of hm5) rfl)) (.inl ⟨rfl, sq_of hc5⟩)) (by rw [List.length_map])) (rv_I (by omega : (0 : Int) < (cs.length : Int)))) (rv_ixL (sq_of hc5) hc)) fun H6 e6 => ?_
        have hm6 := e6 _ _ hm5
        refine ⟨_, rfl, _, rfl, m, _, 1, _, rfl, rfl, sq_of hm6, rfl, c, _, rfl, by omega, by omega, fun x1 H7 x0 x2 e7 => ?_⟩
        have hm7 := e7 _ _ hm6
        refine ⟨x1, 2147483647, rfl, rfl, .inr ⟨by decide, by decide⟩, ?_⟩
        refine ⟨_, rfl, _, rfl, m, _, 1, _, rfl, rfl, sq_of hm7, rfl, _, _, rfl, rfl, c, _, rfl, by omega, by omega, fun y1 H8 y0 y2 e8 => ?_⟩
        refine ⟨_, y1, rfl, rfl, _, 23, rfl, rfl, ⟨by decide, by decide⟩, _, rfl, _, n, rfl, rfl, n0, ?_⟩
        exact q _ H8 (Int.emod_nonneg _ (by omega)) (Int.emod_lt_of_pos _ n0) (rd4.then (.ofEx hD4 ((e6.trans e7).trans e8)))
end
end D1
end
section
set_option Elab.async false
set_option linter.all false
set_option maxRecDepth 100000
set_option maxHeartbeats 4000000
/-! L3: the law's rings, ZERO, ONE -/
namespace D1
open PySem L2 Evl RZ ClX PySem.VX
def costR : Nat → Nat
  | 0 => 3
  | d + 1 => 2 * costR d + 1
def spLRing (n : Nat) : Sp := fun vs H Q _ => ∃ (m pc pg : Addr) (cs : List Int) (j d : Nat), vs = [.ref m, .int (d : Int)] ∧ d < n ∧ DS m pc pg cs j H ∧ j + costR d ≤ 100000 ∧ ∀ (k : RK) v H', k.ok → k.clsd = true → k.depth ≤ d → RD m pc pg cs (j + costR d) H H' → DtAt H' v (madeD k) → Q v H'
def spLZero (n : Nat) : Sp := fun vs H Q _ => ∃ (v : V) (k : RK), vs = [v] ∧ DtAt H v (madeD k) ∧ k.depth < n ∧ k.clsd = true ∧ ∀ x H', Ex H H' → DtAt H' x (zeroD k) → Q x H'
def spLOne (n : Nat) : Sp := fun vs H Q _ => ∃ (v : V) (k : RK), vs = [v] ∧ DtAt H v (madeD k) ∧ k.depth < n ∧ k.ok ∧ k.clsd = true ∧ ∀ x H', Ex H H' → DtAt H' x (oneD k) → Q x H'
def zeroV (t : Addr) : RK → V
  | .truth => .bl false
  | .share => .ref t
  | .least => .str "none"
  | .most => .str "none"
  | _ => .int 0
def zeroKv (t : Addr) : List (Key × V) := [(.inr "truth", .bl false), (.inr "share", .ref t), (.inr "least", .str "none"), (.inr "most", .str "none")]
theorem zero_get (t : Addr) {k : RK} (hk : ∀ a b, k ≠ .pair a b) : (valV (mergeK [] (zeroKv t)) (.inr (nameOf k) : Key)).getD (.int 0) = zeroV t k := by
  cases k with
  | pair a b => exact absurd rfl (hk a b)
  | _ => rfl
theorem clsd_pair {a b : RK} (h : (RK.pair a b).clsd = true) : a.clsd = true ∧ b.clsd = true := by
  have h : (a.clsd && b.clsd) = true := h
  rwa [Bool.and_eq_true] at h
theorem zero_at {H : Hp} {t : Addr} (h : H t = some (.tup [.int 0, .int 1])) {k : RK} (hc : k.clsd = true) (hk : ∀ a b, k ≠ .pair a b) : DtAt H (zeroV t k) (zeroD k) := by
  cases k with
  | rest _ => exact Bool.noConfusion (show false = true from hc)
  | terms _ => exact Bool.noConfusion (show false = true from hc)
  | tab _ _ => exact Bool.noConfusion (show false = true from hc)
  | pair a b => exact absurd rfl (hk a b)
  | share => exact .tup h (.cons (.int 0) (.cons (.int 1) .nil))
  | truth => exact .bl false
  | least => exact .str _
  | most => exact .str _
  | _ => exact .int 0
def oneV (t : Addr) : RK → V
  | .truth => .bl true
  | .count => .int 1
  | .narrow => .str "endless"
  | .share => .ref t
  | _ => .int 0
def oneKv (t : Addr) : List (Key × V) := [(.inr "truth", .bl true), (.inr "count", .int 1), (.inr "narrow", .str "endless"), (.inr "share", .ref t)]
theorem one_get (t : Addr) {k : RK} (hk : ∀ a b, k ≠ .pair a b) : (valV (mergeK [] (oneKv t)) (.inr (nameOf k) : Key)).getD (.int 0) = oneV t k := by
  cases k with
  | pair a b => exact absurd rfl (hk a b)
  | _ => rfl
theorem one_at {H : Hp} {t : Addr} (h : H t = some (.tup [.int 1, .int 1])) {k : RK} (hc : k.clsd = true) (hk : ∀ a b, k ≠ .pair a b) (hl : ∀ n, k ≠ .lot n) : DtAt H (oneV t k) (oneD k) := by
  cases k with
  | rest _ => exact Bool.noConfusion (show false = true from hc)
  | terms _ => exact Bool.noConfusion (show false = true from hc)
  | tab _ _ => exact Bool.noConfusion (show false = true from hc)
  | pair a b => exact absurd rfl (hk a b)
  | lot n => exact absurd rfl (hl n)
  | share => exact .tup h (.cons (.int 1) (.cons (.int 1) .nil))
  | truth => exact .bl true
  | narrow => exact .str _
  | count => exact .int 1
  | _ => exact .int 0
theorem is_pair {k : RK} : (∀ a b, k ≠ .pair a b) ∨ ∃ a b, k = .pair a b := by cases k <;> first | exact .inr ⟨_, _, rfl⟩ | exact .inl fun a b h => by cases h
theorem is_lot {k : RK} : (∀ n, k ≠ .lot n) ∨ ∃ n, k = .lot n := by cases k <;> first | exact .inr ⟨_, rfl⟩ | exact .inl fun n h => by cases h
theorem name_pair {k : RK} (hk : ∀ a b, k ≠ .pair a b) : nameOf k ≠ ("pair" : Str) := fun h => by
  obtain ⟨y, z, rfl⟩ := pair_named h
  exact hk _ _ rfl
theorem name_lot {k : RK} (hc : k.clsd = true) (hk : ∀ n, k ≠ .lot n) : nameOf k ≠ ("lot" : Str) := by
  cases k with
  | lot n => exact absurd rfl (hk n)
  | pair _ _ => exact (show ¬(("pair" : Str) = "lot") by decide)
  | rest _ => exact Bool.noConfusion (show false = true from hc)
  | terms _ => exact Bool.noConfusion (show false = true from hc)
  | tab _ _ => exact Bool.noConfusion (show false = true from hc)
  | _ => intro h; exact absurd h (by decide)
/-- made[0] == 'name' -/
theorem et_kind {K : PySem.W.Frag} {te : TE} {σ : L2.St} {H : Hp} {a : Addr} {xs : List V} {k : RK} {z : Str} (h : Ev te σ H (.ref a)) (ha : H a = some (.tup (.str (nameOf k) :: xs))) : EvT (tTest (tOp rEq (tOp (rIxT K) te (tC (.int 0))) (tC (.str z)))) σ H (nameOf k == z) :=
  et_test (ev_eqS (ev_op h ev_c (rv_ixT (st_of ha) (v := .str (nameOf k)) (atI_of (Int.le_refl 0) rfl))) ev_c)
section
variable {P : Program} {w : World} {K : PySem.W.Frag} {mg : Str → Option Value} {base : Heap}
abbrev s_zero : Stmt := top 118
theorem sc_zero : FnScope ["_law_made"] ["_law_made"] (defScope s_zero) := ⟨rfl, rfl, rfl, by decide +kernel, rfl, by decide +kernel, by decide +kernel⟩
theorem ok_zero {f : Addr} {fd : FuncData} (F : FnP K "_law_zero" s_zero f fd) (g_zero : mg "_law_zero" = some (.ref f)) : ∀ d : Nat, FnOk P w K mg base CX0 (d + 1) f fd ["_law_made"] (spLZero d) := by
  have F_zero := F
  have b_zero : Binds K fd ["_law_made"] [] := F_zero.bindsN fun _ _ _ _ _ _ us hl => match us, hl with | [_], _ => rfl
  intro d
  induction d with
  | zero =>
    refine fn_never fun vs H Q E h => ?_
    obtain ⟨v, k, rfl, hM, hn, hc, q⟩ := h
    exact Nat.not_lt_zero _ hn
  | succ d ih =>
    have G_zero := ih
    refine F.ok sc_zero (fun vs H Q E h => ?_) (fun cdv A outer s H vs Q E hr h => ?_)
    · obtain ⟨v, k, rfl, _⟩ := h
      rfl
    · obtain ⟨v, k, rfl, hM, hn, hc, q⟩ := h
      have hu := hu_of hr
      have hu64 := hr.units
      have hr_zero := hr
      refine ⟨_, PSs.nox (pss_cons (ps_if (pt_cmpR op_eq (pe_ix ix_tup (pv 0) pe_int (fun _ _ => rfl)) pe_str (nomark _)) (pss_one (ps_ret (pe_tup (pa_cons (pe_call G_zero hr_zero rfl g_zero F_zero.kp b_zero .nil pass0 (pa_cons (pe_ix ix_tup (pv 0) pe_int (fun _ _ => rfl)) pa_nil)) (pa_cons (pe_call G_zero hr_zero rfl g_zero F_zero.kp b_zero .nil pass0 (pa_cons (pe_ix ix_tup (pv 0) pe_int (fun _ _ => rfl)) pa_nil)) pa_nil))))) pss_nil)
      (pss_one (ps_ret (pe_dget2 hu (pe_disp (pps_cons pe_str pe_bl (pps_cons pe_str (pe_tup (pa_cons pe_int (pa_cons pe_int pa_nil))) (pps_cons pe_str pe_str (pps_cons pe_str pe_str pps_nil)))) (by rfl) (by rfl) (fun z => by cases z) (by decide)) (pe_ix ix_tup (pv 0) pe_int (fun _ _ => rfl)) pe_int ⟨rfl, rfl, rfl, rfl⟩)))), ?_⟩
      obtain ⟨a, xs, rfl, ha, h1, h2, h4, h3⟩ := made_at hM
      rcases is_pair (k := k) with hp | ⟨kl, kr, rfl⟩
      · refine q_when (b := false) (et_is (et_kind (ev_var rfl) ha) (beq_eq_false_iff_ne.mpr (name_pair hp))) (fun hb => (by cases hb)) (fun _ H1 e1 => ?_)
        refine fun p hpn => ⟨by show 2 ≤ sizeLine; decide, fun t ht => ?_⟩
        have hpt : p ≠ t := fun z => by rw [← z, upd_same] at ht; cases ht
        have e2 : Ex H1 (upd (upd H1 p (.dK [])) t (.tup [.int 0, .int 1])) := (Ex.new hpn).trans (Ex.new ht)
        refine ⟨by rw [upd_ne hpt]; exact upd_same, zeroKv t, rfl, by show 4 ≤ 15; decide, p, rfl, .inl ⟨_, .inl upd_same⟩, ?_⟩
        generalize hG : (upd (upd (upd H1 p (.dK [])) t (.tup [.int 0, .int 1])) p (.dK (mergeK [] (zeroKv t)))) = G
        have eG : Ex H1 G := hG ▸ Ex.mut e2 hpn
        have hpG : G p = some (.dK (mergeK [] (zeroKv t))) := by rw [← hG, upd_same]
        have htG : G t = some (.tup [.int 0, .int 1]) := by rw [← hG, upd_ne (Ne.symm hpt), upd_same]
        refine ⟨_, rfl, a, _, 0, .str (nameOf k), rfl, rfl, st_of (eG _ _ (e1 _ _ ha)), atI_of (Int.le_refl 0) rfl, _, DGet.k (k := .inr (nameOf k)) hpG, ?_⟩
        rw [zero_get t hp]
        exact q _ _ (e1.trans eG) (zero_at htG hc hp)
      · obtain ⟨u, u', rfl, hy, hz⟩ := h3 kl kr rfl
        refine q_when (b := true) (et_is (et_kind (ev_var rfl) ha) (by show (("pair" : Str) == "pair") = true; decide +kernel)) (fun _ H1 e1 => ?_) (fun hb => (by cases hb))
        have ha1 := e1 _ _ ha
        refine ⟨_, rfl, a, _, 1, u, rfl, rfl, st_of ha1, rfl, u, kl, rfl, hy.ex e1, depth_l hn, (clsd_pair hc).1, fun x H2 e2 hx => ?_⟩
        have e12 := e1.trans e2
        refine ⟨_, rfl, a, _, 2, u', rfl, rfl, st_of (e12 _ _ ha), rfl, u', kr, rfl, hz.ex e12, depth_r hn, (clsd_pair hc).2, fun y H3 e3 hy2 => ⟨by show 2 ≤ sizeLine; decide, fun l hl => ?_⟩⟩
        exact q _ _ ((e12.trans e3).trans (Ex.new hl)) (.new hl (.cons (hx.ex e3) (.cons hy2 .nil)))
abbrev s_one : Stmt := top 119
theorem sc_one : FnScope ["_law_made"] ["_law_made"] (defScope s_one) := ⟨rfl, rfl, rfl, by decide +kernel, rfl, by decide +kernel, by decide +kernel⟩
theorem ok_one {f : Addr} {fd : FuncData} (F : FnP K "_law_one" s_one f fd) (g_one : mg "_law_one" = some (.ref f)) : ∀ d : Nat, FnOk P w K mg base CX0 (d + 1) f fd ["_law_made"] (spLOne d) := by
  have F_one := F
  have b_one : Binds K fd ["_law_made"] [] := F_one.bindsN fun _ _ _ _ _ _ us hl => match us, hl with | [_], _ => rfl
  intro d
  induction d with
  | zero =>
    refine fn_never fun vs H Q E h => ?_
    obtain ⟨v, k, rfl, hM, hn, ok, hc, q⟩ := h
    exact Nat.not_lt_zero _ hn
  | succ d ih =>
    have G_one := ih
    refine F.ok sc_one (fun vs H Q E h => ?_) (fun cdv A outer s H vs Q E hr h => ?_)
    · obtain ⟨v, k, rfl, _⟩ := h
      rfl
    · obtain ⟨v, k, rfl, hM, hn, ok, hc, q⟩ := h
      have hu := hu_of hr
      have hu64 := hr.units
      have hr_one := hr
      refine ⟨_, PSs.nox (pss_cons (ps_if (pt_cmpR op_eq (pe_ix ix_tup (pv 0) pe_int (fun _ _ => rfl)) pe_str (nomark _)) (pss_one (ps_ret (pe_tup (pa_cons (pe_call G_one hr_one rfl g_one F_one.kp b_one .nil pass0 (pa_cons (pe_ix ix_tup (pv 0) pe_int (fun _ _ => rfl)) pa_nil)) (pa_cons (pe_call G_one hr_one rfl g_one F_one.kp b_one .nil pass0 (pa_cons (pe_ix ix_tup (pv 0) pe_int (fun _ _ => rfl)) pa_nil)) pa_nil))))) pss_nil)
      (pss_cons (ps_if (pt_cmpR op_eq (pe_ix ix_tup (pv 0) pe_int (fun _ _ => rfl)) pe_str (nomark _)) (pss_one (ps_ret (pe_op op_sub (pe_op op_shl pe_int (pe_ix ix_tup (pv 0) pe_int (fun _ _ => rfl))) pe_int))) pss_nil)
      (pss_one (ps_ret (pe_dget2 hu (pe_disp (pps_cons pe_str pe_bl (pps_cons pe_str pe_int (pps_cons pe_str pe_str (pps_cons pe_str (pe_tup (pa_cons pe_int (pa_cons pe_int pa_nil))) pps_nil)))) (by rfl) (by rfl) (fun z => by cases z) (by decide)) (pe_ix ix_tup (pv 0) pe_int (fun _ _ => rfl)) pe_int ⟨rfl, rfl, rfl, rfl⟩))))), ?_⟩
      obtain ⟨a, xs, rfl, ha, h1, h2, h4, h3⟩ := made_at hM
      rcases is_pair (k := k) with hp | ⟨kl, kr, rfl⟩
      · refine q_when (b := false) (et_is (et_kind (ev_var rfl) ha) (beq_eq_false_iff_ne.mpr (name_pair hp))) (fun hb => (by cases hb)) (fun _ H0 e0 => ?_)
        rcases is_lot (k := k) with hnl | ⟨n, rfl⟩
        · refine q_when (b := false) (et_is (et_kind (ev_var rfl) (e0 _ _ ha)) (beq_eq_false_iff_ne.mpr (name_lot hc hnl))) (fun hb => (by cases hb)) (fun _ H1 e1 => ?_)
          replace e1 := e0.trans e1
          refine fun p hpn => ⟨by show 2 ≤ sizeLine; decide, fun t ht => ?_⟩
          have hpt : p ≠ t := fun z => by rw [← z, upd_same] at ht; cases ht
          have e2 : Ex H1 (upd (upd H1 p (.dK [])) t (.tup [.int 1, .int 1])) := (Ex.new hpn).trans (Ex.new ht)
          refine ⟨by rw [upd_ne hpt]; exact upd_same, oneKv t, rfl, by show 4 ≤ 15; decide, p, rfl, .inl ⟨_, .inl upd_same⟩, ?_⟩
          generalize hG : (upd (upd (upd H1 p (.dK [])) t (.tup [.int 1, .int 1])) p (.dK (mergeK [] (oneKv t)))) = G
          have eG : Ex H1 G := hG ▸ Ex.mut e2 hpn
          have hpG : G p = some (.dK (mergeK [] (oneKv t))) := by rw [← hG, upd_same]
          have htG : G t = some (.tup [.int 1, .int 1]) := by rw [← hG, upd_ne (Ne.symm hpt), upd_same]
          refine ⟨_, rfl, a, _, 0, .str (nameOf k), rfl, rfl, st_of (eG _ _ (e1 _ _ ha)), atI_of (Int.le_refl 0) rfl, _, DGet.k (k := .inr (nameOf k)) hpG, ?_⟩
          rw [one_get t hp]
          exact q _ _ (e1.trans eG) (one_at htG hc hp hnl)
        · obtain rfl := h2 n rfl
          refine q_when (b := true) (et_is (et_kind (ev_var rfl) (e0 _ _ ha)) (by show (("lot" : Str) == "lot") = true; decide +kernel)) (fun _ H1 e1 => ?_) (fun hb => (by cases hb))
          replace e1 := e0.trans e1
          have n12 : n ≤ 12 := ok.2
          refine s_ret (ev_op (ev_op ev_c (ev_op (ev_var rfl) ev_c (rv_ixT (st_of (e1 _ _ ha)) (v := .int (n : Int)) rfl)) (rv_I ⟨by omega, by omega, by decide⟩)) ev_c rv_I0) fun H2 e2 => q _ H2 (e1.trans e2) ?_
          have he : (1 : Int) * 2 ^ ((n : Int)).toNat - 1 = 2 ^ n - 1 := by rw [Int.one_mul, Int.toNat_natCast]
          show DtAt H2 (.int ((1 : Int) * 2 ^ ((n : Int)).toNat - 1)) (.int (2 ^ n - 1))
          rw [he]
          exact .int _
      · obtain ⟨u, u', rfl, hy, hz⟩ := h3 kl kr rfl
        refine q_when (b := true) (et_is (et_kind (ev_var rfl) ha) (by show (("pair" : Str) == "pair") = true; decide +kernel)) (fun _ H1 e1 => ?_) (fun hb => (by cases hb))
        have ha1 := e1 _ _ ha
        refine ⟨_, rfl, a, _, 1, u, rfl, rfl, st_of ha1, rfl, u, kl, rfl, hy.ex e1, depth_l hn, ok.1, (clsd_pair hc).1, fun x H2 e2 hx => ?_⟩
        have e12 := e1.trans e2
        refine ⟨_, rfl, a, _, 2, u', rfl, rfl, st_of (e12 _ _ ha), rfl, u', kr, rfl, hz.ex e12, depth_r hn, ok.2, (clsd_pair hc).2, fun y H3 e3 hy2 => ⟨by show 2 ≤ sizeLine; decide, fun l hl => ?_⟩⟩
        exact q _ _ ((e12.trans e3).trans (Ex.new hl)) (.new hl (.cons (hx.ex e3) (.cons hy2 .nil)))
def kindN : Nat → RK
  | 0 => .truth
  | 1 => .count
  | 2 => .least
  | 3 => .most
  | 4 => .narrow
  | _ => .share
theorem kindN_ok (i : Nat) : (kindN i).ok ∧ (kindN i).clsd = true ∧ (kindN i).depth = 0 ∧ madeD (kindN i) = .tuple [.str (nameOf (kindN i))] := by
  unfold kindN
  split <;> exact ⟨True.intro, rfl, rfl, rfl⟩
abbrev s_ring : Stmt := top 117
theorem sc_ring : FnScope ["_law_draw_here", "_law_deep", "_law_way"] ["_law_draw_here", "_law_deep"] (defScope s_ring) := ⟨rfl, rfl, rfl, by decide +kernel, rfl, by decide +kernel, by decide +kernel⟩
theorem ok_ring {f : Addr} {fd : FuncData} (F : FnP K "_law_ring" s_ring f fd) (g_ring : mg "_law_ring" = some (.ref f)) {f_next : Addr} {fd_next : FuncData} (F_next : FnP K "_law_next" s_next f_next fd_next) (g_next : mg "_law_next" = some (.ref f_next)) (G_next : FnOk P w K mg base (CX0) 2 f_next fd_next ["_law_draw_here", "_law_many"] (spNext)) : ∀ d : Nat, FnOk P w K mg base CX0 (d + 2) f fd ["_law_draw_here", "_law_deep"] (spLRing d) := by
  have F_ring := F
  have b_ring : Binds K fd ["_law_draw_here", "_law_deep"] [] := F_ring.bindsN fun _ _ _ _ _ _ us hl => match us, hl with | [_, _], _ => rfl
  have b_next : Binds K fd_next ["_law_draw_here", "_law_many"] [] := F_next.bindsN fun _ _ _ _ _ _ us hl => match us, hl with | [_, _], _ => rfl
  intro d
  induction d with
  | zero =>
    refine fn_never fun vs H Q E h => ?_
    obtain ⟨m, pc, pg, cs, j, e, rfl, hn, hD, hj, q⟩ := h
    exact Nat.not_lt_zero _ hn
  | succ d ih =>
    have G_ring := ih
    refine F.ok sc_ring (fun vs H Q E h => ?_) (fun cdv A outer s H vs Q E hr h => ?_)
    · obtain ⟨m, pc, pg, cs, j, e, rfl, _⟩ := h
      rfl
    · obtain ⟨m, pc, pg, cs, j, e, rfl, hn, hD, hj, q⟩ := h
      have hu := hu_of hr
      have hu64 := hr.units
      have hr_ring := hr
      have hr_next := hr.mono (by omega : 2 ≤ d + 2)
      refine ⟨_, PSs.nox (pss_cons (ps_set (i := 2) sc_ring.nd rfl (Or.inl rfl) (pe_call G_next hr_next rfl g_next F_next.kp b_next .nil pass0 (pa_cons (pv 0) (pa_cons pe_int pa_nil))))
      (pss_cons (ps_if (PW.pt (pw_and (pt_cmpR op_gt (pv 2) pe_int (nomark _)) (pw_and1 (pt_cmpR op_gt (pv 1) pe_int (nomark _))))) (pss_one (ps_ret (pe_tup (pa_cons pe_str (pa_cons (pe_call G_ring hr_ring rfl g_ring F_ring.kp b_ring .nil pass0 (pa_cons (pv 0) (pa_cons (pe_op op_sub (pv 1) pe_int) pa_nil))) (pa_cons (pe_call G_ring hr_ring rfl g_ring F_ring.kp b_ring .nil pass0 (pa_cons (pv 0) (pa_cons (pe_op op_sub (pv 1) pe_int) pa_nil))) pa_nil)))))) pss_nil)
      (pss_cons (ps_if (pt_cmpR op_gt (pv 2) pe_int (nomark _)) (pss_one (ps_ret (pe_tup (pa_cons pe_str (pa_cons (pe_op op_add pe_int (pe_call G_next hr_next rfl g_next F_next.kp b_next .nil pass0 (pa_cons (pv 0) (pa_cons pe_int pa_nil)))) pa_nil))))) pss_nil)
      (pss_one (ps_ret (pe_tup (pa_cons (pe_ix ix_list (pe_lst (pa_cons pe_str (pa_cons pe_str (pa_cons pe_str (pa_cons pe_str (pa_cons pe_str (pa_cons pe_str pa_nil))))))) (pv 2) (fun _ _ => rfl)) pa_nil))))))), ?_⟩
      refine asg_step ?_
      have hj3 : 3 ≤ costR e := by
        clear hj q
        induction e with
        | zero => exact Nat.le_refl 3
        | succ e ih =>
          have := ih (by omega)
          show 3 ≤ 2 * costR e + 1
          omega
      refine ⟨_, rfl, m, pc, pg, cs, j, 9, rfl, hD, by omega, by decide, by decide, fun x H1 x0 x1 r1 => ?_⟩
      have hD1 := r1.inv
      have hj1 : costR e ≤ 100000 - j := by omega
      refine q_when (b := decide (6 < x) && decide (0 < (e : Int))) (et_and (et_test (ev_gtI (ev_var rfl) ev_c)) fun _ => et_test (ev_gtI (ev_var rfl) ev_c)) (fun hb H2 e2 => ?_) (fun hb H2 e2 => ?_)
      · rw [Bool.and_eq_true, decide_eq_true_eq, decide_eq_true_eq] at hb
        obtain ⟨e', rfl⟩ : ∃ e', e = e' + 1 := ⟨e - 1, by omega⟩
        have hc : costR (e' + 1) = 2 * costR e' + 1 := rfl
        have r2 : RD m pc pg cs (j + 1) H H2 := r1.then (.ofEx hD1 e2)
        have vseq : [V.ref m, V.int ((((e' + 1 : Nat) : Int)) - 1)] = [V.ref m, V.int (e' : Int)] := by
          rw [show (((e' + 1 : Nat) : Int)) - 1 = (e' : Int) by omega]
        refine ⟨_, rfl, _, rfl, _, _, rfl, rfl, m, pc, pg, cs, j + 1, e', vseq, by omega, r2.inv, by omega, fun kl u H3 okl cl dl r3 hu3 => ?_⟩
        refine ⟨_, rfl, _, rfl, _, _, rfl, rfl, m, pc, pg, cs, j + 1 + costR e', e', vseq, by omega, r3.inv, by omega, fun kr u2 H4 okr cr dr r4 hu4 => ⟨by show 3 ≤ sizeLine; decide, fun l hl => ?_⟩⟩
        have hu3' := hu3.kp (r4.kp r3.inv)
        refine q (.pair kl kr) _ _ ⟨okl, okr⟩ (by show (kl.clsd && kr.clsd) = true; rw [cl, cr]; rfl) (by show max kl.depth kr.depth + 1 ≤ e' + 1; omega) ?_ (.new hl (.cons (.str _) (.cons hu3' (.cons hu4 .nil))))
        refine RD.up (((r2.then r3).then r4).then (.ofEx r4.inv (Ex.new hl))) (by omega)
      · have r2 : RD m pc pg cs (j + 1) H H2 := r1.then (.ofEx hD1 e2)
        refine q_when (b := decide (5 < x)) (et_test (ev_gtI (ev_var rfl) ev_c)) (fun hb2 H3 e3 => ?_) (fun hb2 H3 e3 => ?_)
        · refine ⟨_, rfl, m, pc, pg, cs, j + 1, 12, rfl, (RD.ofEx r2.inv e3).inv, by omega, by decide, by decide, fun y H4 y0 y1 r4 => ⟨1, y, rfl, rfl, by show 2 ≤ sizeLine; decide, fun l hl => ?_⟩⟩
          obtain ⟨n, rfl⟩ : ∃ n : Nat, y = (n : Int) := ⟨y.toNat, by omega⟩
          refine q (.lot (n + 1)) _ _ ⟨by omega, by omega⟩ rfl (Nat.zero_le _) ?_ (.new hl (.cons (.str _) (.cons (by show DtAt H4 (.int ((1 : Int) + (n : Int))) (.int ((n + 1 : Nat) : Int)); rw [show (1 : Int) + (n : Int) = ((n + 1 : Nat) : Int) by omega]; exact .int _) .nil)))
          exact RD.up (((r2.then (.ofEx r2.inv e3)).then r4).then (.ofEx r4.inv (Ex.new hl))) (by omega)
        · have hx5 : x ≤ 5 := by
            have := of_decide_eq_false hb2
            omega
          obtain ⟨n, rfl⟩ : ∃ n : Nat, x = (n : Int) := ⟨x.toNat, by omega⟩
          have hat : atI [V.str "truth", .str "count", .str "least", .str "most", .str "narrow", .str "share"] (n : Int) = some (.str (nameOf (kindN n))) := by
            have h6 : n = 0 ∨ n = 1 ∨ n = 2 ∨ n = 3 ∨ n = 4 ∨ n = 5 := by omega
            rcases h6 with rfl | rfl | rfl | rfl | rfl | rfl <;> rfl
          obtain ⟨ok, kc, dp, md⟩ := kindN_ok n
          refine s_retU (eu_tup (ea_cons (ev_opL1 (el_lst (ea_cons ev_c (ea_cons ev_c (ea_cons ev_c (ea_cons ev_c (ea_cons ev_c (ea_cons ev_c ea_nil)))))) (by show 6 ≤ 100000; decide)) (fun H1 e1 => ev_var rfl) fun l H1 hl e1 => rv_ixL (sq_of hl) hat) ea_nil) (by show 1 ≤ 100000; decide)) fun l H4 hl e4 h4 => ?_
          refine q (kindN n) _ _ ok kc (by omega) (RD.up ((r2.then (.ofEx r2.inv e3)).then (.ofEx (RD.ofEx r2.inv e3).inv e4)) (by omega)) ?_
          rw [md]
          exact .tup h4 (.cons (.str _) .nil)
end
end D1
end
section
set_option Elab.async false
set_option linter.all false
set_option maxRecDepth 100000
set_option maxHeartbeats 4000000
/-! L4: the law's lowest terms, products -/
namespace D1
open PySem L2 Evl RZ ClX PySem.VX
theorem par_step {i j : Nat} {t : TA} {z : TS} {D : Ends} {σ : L2.St} {H : Hp} (h : t σ H fun vs H1 => ∃ v w, vs = [v, w] ∧ z D ((σ.set i (some v)).set j (some w)) H1) : tSeq (tPar i j t) z D σ H := h
theorem s_par {i j : Nat} {t : TA} {D : Ends} {σ : L2.St} {H : Hp} (h : t σ H fun vs H1 => ∃ v w, vs = [v, w] ∧ D.nx ((σ.set i (some v)).set j (some w)) H1) : tPar i j t D σ H := h
theorem ret_call {sp : Sp} {dvs vs : List V} {E : XK} {t : TA} {D : Ends} {σ : L2.St} {H : Hp} (h : EvA t σ H vs) (k : ∀ H1, Ex H H1 → sp (vs ++ dvs) H1 D.rt E) : tRet (tCall sp dvs E t) D σ H := h H (Ex.refl H) _ k
def spLowest : Sp := fun vs H Q _ => ∃ p q : Nat, vs = [.int (p : Int), .int (q : Int)] ∧ 0 < q ∧ q < 2 ^ 8100 ∧ ∀ r H', Ex H H' → DtAt H' r (low p q) → Q r H'
theorem cn_notN {a : PyData} (h : cnGood a = true) : isN a = false := by
  rcases good_cn h with rfl | ⟨i, rfl, hi⟩
  · decide +kernel
  · rfl
theorem inV2 (z x y : V) : inV z [x, y] = (eqV x z || eqV y z) := by
  show (eqV x z || (eqV y z || false)) = _
  rw [Bool.or_false]
theorem eqE {H : Hp} {x : V} {d : PyData} (h : DtAt H x d) (f : Fl d) : eqV x (.str "endless") = isE d := by
  rcases f with ⟨z, rfl, _⟩ | ⟨i, rfl⟩
  · obtain rfl := h.str_inv
    rfl
  · obtain rfl := h.int_inv
    rfl
theorem eqN {H : Hp} {x : V} {d : PyData} (h : DtAt H x d) (f : Fl d) : eqV x (.str "none") = isN d := by
  rcases f with ⟨z, rfl, _⟩ | ⟨i, rfl⟩
  · obtain rfl := h.str_inv
    rfl
  · obtain rfl := h.int_inv
    rfl
theorem eq0' {H : Hp} {x : V} {d : PyData} (h : DtAt H x d) (f : Fl d) : eqV x (.int 0) = i0 d := by
  rcases f with ⟨z, rfl, _⟩ | ⟨i, rfl⟩
  · obtain rfl := h.str_inv
    rfl
  · obtain rfl := h.int_inv
    rfl
theorem Fl.flat {H : Hp} {x : V} {d : PyData} (h : DtAt H x d) (f : Fl d) : flatV x = true := by
  rcases f with ⟨z, rfl, _⟩ | ⟨i, rfl⟩
  · obtain rfl := h.str_inv
    rfl
  · obtain rfl := h.int_inv
    rfl
section
variable {K : PySem.W.Frag} {σ : L2.St} {H : Hp} {ta tb : TE} {x y : V} {dx dy : PyData}
theorem ev_in2 {z : V} {f : PyData → Bool} (hf : ∀ {x : V} {d : PyData}, DtAt H x d → Fl d → eqV x z = f d) (hz : flatV z = true) (ha : Ev ta σ H x) (hb : Ev tb σ H y) (hx : DtAt H x dx) (hy : DtAt H y dy) (fx : Fl dx) (fy : Fl dy) : Ev (tOp (rIn K false) (tC z) (tTup (tCons ta (tCons tb tNil)))) σ H (.bl (f dx || f dy)) := by
  refine ev_is (ev_inU ev_c (eu_tup (ea_cons ha (ea_cons hb ea_nil)) (by show 2 ≤ 100000; decide)) hz ?_) ?_
  · show (flatV x && (flatV y && true)) = true
    rw [fx.flat hx, fy.flat hy]
    rfl
  · rw [inV2, hf hx fx, hf hy fy]
end
section
variable {P : Program} {w : World} {K : PySem.W.Frag} {mg : Str → Option Value} {base : Heap}
abbrev s_lowest : Stmt := top 120
theorem sc_lowest : FnScope ["_law_top", "_law_bottom", "_law_one_here", "_law_other"] ["_law_top", "_law_bottom"] (defScope s_lowest) := ⟨rfl, rfl, rfl, by decide +kernel, rfl, by decide +kernel, by decide +kernel⟩
theorem ok_lowest {f : Addr} {fd : FuncData} (F : FnP K "_law_lowest" s_lowest f fd) : FnOk P w K mg base (CX0) 1 f fd ["_law_top", "_law_bottom"] (spLowest) := by
  refine F.ok (CX := CX0) sc_lowest (fun vs H Q E h => ?_) (fun cdv A outer s H vs Q E hr h => ?_)
  · obtain ⟨p, q, rfl, _⟩ := h
    rfl
  · obtain ⟨p, r, rfl, r0, r1, q⟩ := h
    have hu := hu_of hr
    have hu64 := hr.units
    refine ⟨_, PSs.nox (pss_cons (ps_par (i := 2) (j := 3) (by rfl) sc_lowest.nd rfl rfl (by decide) rfl rfl (pa_cons (pv 1) (pa_cons (pv 0) pa_nil)) (by rfl))
      (pss_cons (ps_while PassesOwn.never (pt_cmpR op_ne (pv 3) pe_int (nomark _)) (pss_one (ps_par (i := 2) (j := 3) (by rfl) sc_lowest.nd rfl rfl (by decide) rfl rfl (pa_cons (pv 3) (pa_cons (pe_op op_mod (pv 2) (pv 3)) pa_nil)) (by rfl))))
      (pss_one (ps_ret (pe_tup (pa_cons (pe_op op_fdivW (pv 0) (pv 2)) (pa_cons (pe_op op_fdivW (pv 1) (pv 2)) pa_nil))))))), ?_⟩
    refine par_step ⟨_, rfl, _, rfl, _, _, rfl, ?_⟩
    refine q_while (fun m σ' G => ∃ x y : Nat, σ' = [some (.int (p : Int)), some (.int (r : Int)), some (.int (x : Int)), some (.int (y : Int))] ∧ m = y ∧ Ex H G ∧ Nat.gcd x y = Nat.gcd r p) p ⟨r, p, rfl, rfl, Ex.refl H, rfl⟩ ?_
    rintro m0 σ' G ⟨x, y, rfl, hm, eG, hg⟩
    rw [hm]
    clear hm m0
    refine ⟨!((y : Int) == 0), et_test (ev_neI (ev_var rfl) ev_c), fun hb H1 e1 => ?_, fun hb H1 e1 => ?_⟩
    · have y0 : 0 < y := by
        rcases Nat.eq_zero_or_pos y with rfl | h
        · cases hb
        · exact h
      refine ⟨fun σ2 G2 => ∃ x' y' : Nat, σ2 = [some (.int (p : Int)), some (.int (r : Int)), some (.int (x' : Int)), some (.int (y' : Int))] ∧ y' < y ∧ Ex H G2 ∧ Nat.gcd x' y' = Nat.gcd r p, fun σ2 G2 ⟨x', y', h1, h2, h3, h4⟩ => ⟨y', h2, x', y', h1, rfl, h3, h4⟩, ?_⟩
      refine s_par ⟨_, rfl, _, rfl, _, rfl, _, _, rfl, rfl, by omega, _, _, rfl, ?_⟩
      refine ⟨y, x % y, rfl, Nat.mod_lt _ y0, eG.trans e1, ?_⟩
      rw [← hg, Nat.gcd_comm y (x % y), ← Nat.gcd_rec y x, Nat.gcd_comm]
    · have y0 : y = 0 := by
        have : ((y : Int) == 0) = true := by simpa using hb
        have := eq_of_beq this
        omega
      rw [y0] at hg
      rw [Nat.gcd_zero_right] at hg
      subst hg
      have hgi : gI (p : Int) (r : Int) = ((Nat.gcd r p : Nat) : Int) := by
        unfold gI
        rw [Int.natAbs_natCast, Int.natAbs_natCast, Nat.gcd_comm]
      have g0 : 0 < Nat.gcd r p := Nat.gcd_pos_of_pos_left _ r0
      have g1 : Nat.gcd r p < 2 ^ 8100 := Nat.lt_of_le_of_lt (Nat.le_of_dvd r0 (Nat.gcd_dvd_left _ _)) r1
      have cd : ∀ z : Int, CDivW z ((Nat.gcd r p : Nat) : Int) := fun z => wide_div (b := 8100) (by omega) (by rw [Int.natAbs_natCast]; exact g1) (by decide) (by decide)
      refine s_retU (eu_tup (ea_cons (ev_op (ev_var rfl) (ev_var rfl) (rv_I (cd _))) (ea_cons (ev_op (ev_var rfl) (ev_var rfl) (rv_I (cd _))) ea_nil)) (by show 2 ≤ 100000; decide)) fun l H4 _ e4 hl => q _ H4 ((eG.trans e1).trans e4) ?_
      unfold low
      rw [hgi]
      exact .tup hl (.cons (.int _) (.cons (.int _) .nil))
end
end D1
end
section
set_option Elab.async false
set_option linter.all false
set_option maxRecDepth 100000
set_option maxHeartbeats 4000000
/-! L5: the law's weights -/
namespace D1
open PySem L2 Evl RZ ClX PySem.VX
def costW : RK → Nat
  | .pair a b => costW a + costW b
  | _ => 3
theorem costW_pos : ∀ k : RK, 3 ≤ costW k
  | .pair a b => by
    have := costW_pos a
    show 3 ≤ costW a + costW b
    omega
  | .truth => Nat.le_refl _
  | .count => Nat.le_refl _
  | .least => Nat.le_refl _
  | .most => Nat.le_refl _
  | .narrow => Nat.le_refl _
  | .share => Nat.le_refl _
  | .lot _ => Nat.le_refl _
  | .rest _ => Nat.le_refl _
  | .terms _ => Nat.le_refl _
  | .tab _ _ => Nat.le_refl _
theorem costW_le : ∀ k : RK, costW k ≤ 3 * 2 ^ k.depth
  | .pair a b => by
    have h1 := costW_le a
    have h2 := costW_le b
    have h3 := Nat.pow_le_pow_right (n := 2) (by decide) (Nat.le_max_left a.depth b.depth)
    have h4 := Nat.pow_le_pow_right (n := 2) (by decide) (Nat.le_max_right a.depth b.depth)
    show costW a + costW b ≤ 3 * 2 ^ (max a.depth b.depth + 1)
    rw [Nat.pow_succ]
    omega
  | .truth => Nat.le_refl _
  | .count => Nat.le_refl _
  | .least => Nat.le_refl _
  | .most => Nat.le_refl _
  | .narrow => Nat.le_refl _
  | .share => Nat.le_refl _
  | .lot _ => Nat.le_refl _
  | .rest _ => Nat.le_refl _
  | .terms _ => Nat.le_refl _
  | .tab _ _ => Nat.le_refl _
theorem good_zero : ∀ k : RK, k.clsd = true → goodB k (zeroD k) = true
  | .truth, _ => rfl
  | .count, _ => by decide +kernel
  | .least, _ => by decide +kernel
  | .most, _ => by decide +kernel
  | .narrow, _ => by decide +kernel
  | .share, _ => by decide +kernel
  | .lot n, _ => nat_lot (i := 0) (Nat.two_pow_pos n)
  | .pair k l, h => by
    obtain ⟨h1, h2⟩ := clsd_pair h
    show (goodB k (zeroD k) && goodB l (zeroD l)) = true
    rw [good_zero k h1, good_zero l h2]
    rfl
  | .rest _, h => Bool.noConfusion (show false = true from h)
  | .terms _, h => Bool.noConfusion (show false = true from h)
  | .tab _ _, h => Bool.noConfusion (show false = true from h)
def spLWeight (n : Nat) : Sp := fun vs H Q _ => ∃ (m pc pg : Addr) (cs : List Int) (j : Nat) (v : V) (k : RK) (mood lift : Int), vs = [.ref m, v, .int mood, .int lift] ∧ DS m pc pg cs j H ∧ j + costW k ≤ 100000 ∧ DtAt H v (madeD k) ∧ k.depth < n ∧ k.ok ∧ k.clsd = true ∧ 0 ≤ mood ∧ mood < 4 ∧ -100 ≤ lift ∧ lift ≤ 100 ∧
  ∀ (x : V) (d : PyData) H', RD m pc pg cs (j + costW k) H H' → DtAt H' x d → goodB k d = true → Sz 140 d → Q x H'
theorem sz_int {i : Int} (h : i.natAbs < 2 ^ 140) : Sz 140 (.int i) := h
theorem low_good {p q : Nat} (q0 : 0 < q) (h : p ≤ q) : shGood (low p q) = true := by
  rw [low_nat]
  exact nat_share (lowN_le h) (lowN_gcd q0)
theorem low_sz {p q : Nat} (h : p ≤ q) (hq : q < 2 ^ 140) : Sz 140 (low p q) := by
  rw [low_nat]
  refine ⟨?_, ?_, True.intro⟩
  · show (((lowN p q).1 : Nat) : Int).natAbs < 2 ^ 140
    rw [Int.natAbs_natCast]
    exact Nat.lt_of_le_of_lt (Nat.div_le_self _ _) (Nat.lt_of_le_of_lt h hq)
  · show (((lowN p q).2 : Nat) : Int).natAbs < 2 ^ 140
    rw [Int.natAbs_natCast]
    exact Nat.lt_of_le_of_lt (Nat.div_le_self _ _) hq
theorem ev_ifI {t : TT} {ta tb : TE} {σ : L2.St} {H : Hp} {b : Bool} {x y : Int} (h : EvT t σ H b) (h1 : Ev ta σ H (.int x)) (h2 : Ev tb σ H (.int y)) : Ev (tIf t ta tb) σ H (.int (if b = true then x else y)) := ev_if h (fun hb => by rw [if_pos hb]; exact h1) (fun hb => by rw [hb, if_neg Bool.false_ne_true]; exact h2)
theorem log_lt {n : Int} (h0 : 0 < n) (h : n < 2 ^ 139) : n.natAbs.log2 < 9000 := by
  have h1 : n.natAbs ≠ 0 := by omega
  have h2 : n.natAbs < 2 ^ 139 := by omega
  have := (Nat.log2_lt h1).mpr h2
  omega
theorem size_at {x : Int} (h0 : 0 ≤ x) (h1 : x < 4) : ∃ s : Int, atI [V.int 4, .int 4, .int 90, .int ((10 : Int) ^ (40 : Int).toNat)] x = some (.int s) ∧ 0 < s ∧ s < 2 ^ 139 := by
  have h2 : x = 0 ∨ x = 1 ∨ x = 2 ∨ x = 3 := by omega
  rcases h2 with rfl | rfl | rfl | rfl
  · exact ⟨_, rfl, by decide, by decide⟩
  · exact ⟨_, rfl, by decide, by decide⟩
  · exact ⟨_, rfl, by decide, by decide⟩
  · exact ⟨_, rfl, by decide, by decide⟩
theorem mood_at {x : Int} (h0 : 0 ≤ x) (h1 : x < 4) : ∃ s : Int, atI [V.int 0, .int 0, .int 1, .int 2] x = some (.int s) ∧ True := by
  have h2 : x = 0 ∨ x = 1 ∨ x = 2 ∨ x = 3 := by omega
  rcases h2 with rfl | rfl | rfl | rfl <;> exact ⟨_, rfl, True.intro⟩
theorem rv_neg {H : Hp} {i : Int} : RU (rU fun i => .int (-i)) (.int i) H (.int (-i)) := fun H1 _ Q q => ⟨i, rfl, q H1 (Ex.refl H1)⟩
section
variable {P : Program} {w : World} {K : PySem.W.Frag} {mg : Str → Option Value} {base : Heap}
abbrev s_weight : Stmt := top 121
theorem sc_weight : FnScope ["_law_draw_here", "_law_made", "_law_mood", "_law_lift", "_law_kind", "_law_size", "_law_bottom", "_law_way", "_law_number"] ["_law_draw_here", "_law_made", "_law_mood", "_law_lift"] (defScope s_weight) := ⟨rfl, rfl, rfl, by decide +kernel, rfl, by decide +kernel, by decide +kernel⟩
theorem ok_weight {f : Addr} {fd : FuncData} (F : FnP K "_law_weight" s_weight f fd) (g_weight : mg "_law_weight" = some (.ref f)) {f_next : Addr} {fd_next : FuncData} (F_next : FnP K "_law_next" s_next f_next fd_next) (g_next : mg "_law_next" = some (.ref f_next)) (G_next : FnOk P w K mg base (CX0) 2 f_next fd_next ["_law_draw_here", "_law_many"] (spNext)) {f_lowest : Addr} {fd_lowest : FuncData} (F_lowest : FnP K "_law_lowest" s_lowest f_lowest fd_lowest) (g_lowest : mg "_law_lowest" = some (.ref f_lowest)) (G_lowest : FnOk P w K mg base (CX0) 1 f_lowest fd_lowest ["_law_top", "_law_bottom"] (spLowest)) {f_zero : Addr} {fd_zero : FuncData} (F_zero : FnP K "_law_zero" s_zero f_zero fd_zero) (g_zero : mg "_law_zero" = some (.ref f_zero)) (G_zero : FnOk P w K mg base (CX0) 4 f_zero fd_zero ["_law_made"] (spLZero 3)) (z_min : mg "min" = none) : ∀ d : Nat, FnOk P w K mg base CX0 (d + 4) f fd ["_law_draw_here", "_law_made", "_law_mood", "_law_lift"] (spLWeight d) := by
  have F_weight := F
  have b_weight : Binds K fd ["_law_draw_here", "_law_made", "_law_mood", "_law_lift"] [] := F_weight.bindsN fun _ _ _ _ _ _ us hl => match us, hl with | [_, _, _, _], _ => rfl
  have b_next : Binds K fd_next ["_law_draw_here", "_law_many"] [] := F_next.bindsN fun _ _ _ _ _ _ us hl => match us, hl with | [_, _], _ => rfl
  have b_lowest : Binds K fd_lowest ["_law_top", "_law_bottom"] [] := F_lowest.bindsN fun _ _ _ _ _ _ us hl => match us, hl with | [_, _], _ => rfl
  have b_zero : Binds K fd_zero ["_law_made"] [] := F_zero.bindsN fun _ _ _ _ _ _ us hl => match us, hl with | [_], _ => rfl
  intro d
  induction d with
  | zero =>
    refine fn_never fun vs H Q E h => ?_
    obtain ⟨m, pc, pg, cs, j, v, k, mood, lift, rfl, hD, hj, hM, hn, ok, kc, m0, m1, l0, l1, q⟩ := h
    exact Nat.not_lt_zero _ hn
  | succ d ih =>
    have G_weight := ih
    refine F.ok sc_weight (fun vs H Q E h => ?_) (fun cdv A outer s H vs Q E hr h => ?_)
    · obtain ⟨m, pc, pg, cs, j, v, k, mood, lift, rfl, _⟩ := h
      rfl
    · obtain ⟨m, pc, pg, cs, j, v, k, mood, lift, rfl, hD, hj, hM, hn, ok, kc, m0, m1, l0, l1, q⟩ := h
      have hu := hu_of hr
      have hu64 := hr.units
      have hr_weight := hr
      have hr_next := hr.mono (by omega : 2 ≤ d + 4)
      have hr_lowest := hr.mono (by omega : 1 ≤ d + 4)
      have hr_zero := hr.mono (by omega : 4 ≤ d + 4)
      refine ⟨_, PSs.nox (pss_cons (ps_set (i := 4) sc_weight.nd rfl (Or.inl rfl) (pe_ix ix_tup (pv 1) pe_int (fun _ _ => rfl)))
      (pss_cons (ps_if (pt_cmpR op_eq (pv 4) pe_str (nomark _)) (pss_one (ps_ret (pe_tup (pa_cons (pe_call G_weight hr_weight rfl g_weight F_weight.kp b_weight .nil pass0 (pa_cons (pv 0) (pa_cons (pe_ix ix_tup (pv 1) pe_int (fun _ _ => rfl)) (pa_cons (pv 2) (pa_cons (pv 3) pa_nil))))) (pa_cons (pe_call G_weight hr_weight rfl g_weight F_weight.kp b_weight .nil pass0 (pa_cons (pv 0) (pa_cons (pe_ix ix_tup (pv 1) pe_int (fun _ _ => rfl)) (pa_cons (pv 2) (pa_cons (pv 3) pa_nil))))) pa_nil))))) pss_nil)
      (pss_cons (ps_if (pt_cmpR op_eq (pv 4) pe_str (nomark _)) (pss_one (ps_ret (pe_cmpR op_gt (pe_call G_next hr_next rfl g_next F_next.kp b_next .nil pass0 (pa_cons (pv 0) (pa_cons pe_int pa_nil))) pe_int (nomark _)))) pss_nil)
      (pss_cons (ps_if (pt_cmpR op_eq (pv 4) pe_str (nomark _)) (pss_one (ps_ret (pe_call G_next hr_next rfl g_next F_next.kp b_next .nil pass0 (pa_cons (pv 0) (pa_cons (pe_op op_shl pe_int (pe_ix ix_tup (pv 1) pe_int (fun _ _ => rfl))) pa_nil))))) pss_nil)
      (pss_cons (ps_set (i := 5) sc_weight.nd rfl (Or.inl rfl) (pe_ix ix_list (pe_lst (pa_cons pe_int (pa_cons pe_int (pa_cons pe_int (pa_cons (pe_op op_pow pe_int pe_int) pa_nil))))) (pe_call G_next hr_next rfl g_next F_next.kp b_next .nil pass0 (pa_cons (pv 0) (pa_cons pe_int pa_nil))) (fun _ _ => rfl)))
      (pss_cons (ps_if (pt_cmpR op_eq (pv 4) pe_str (nomark _)) (pss_cons (ps_set (i := 6) sc_weight.nd rfl (Or.inl rfl) (pe_op op_add pe_int (pe_call G_next hr_next rfl g_next F_next.kp b_next .nil pass0 (pa_cons (pv 0) (pa_cons (pe_callB (call_min2 rfl) (by rfl) z_min PyProof.Rows.boot_min (pa_cons (pv 5) (pa_cons (pe_op op_pow pe_int pe_int) pa_nil))) pa_nil)))))
      (pss_one (ps_ret (pe_call G_lowest hr_lowest rfl g_lowest F_lowest.kp b_lowest .nil pass0 (pa_cons (pe_call G_next hr_next rfl g_next F_next.kp b_next .nil pass0 (pa_cons (pv 0) (pa_cons (pe_op op_add (pv 6) pe_int) pa_nil))) (pa_cons (pv 6) pa_nil)))))) pss_nil)
      (pss_cons (ps_par (i := 7) (j := 8) (by rfl) sc_weight.nd rfl rfl (by decide) rfl rfl (pa_cons (pe_call G_next hr_next rfl g_next F_next.kp b_next .nil pass0 (pa_cons (pv 0) (pa_cons pe_int pa_nil))) (pa_cons (pe_call G_next hr_next rfl g_next F_next.kp b_next .nil pass0 (pa_cons (pv 0) (pa_cons (pv 5) pa_nil))) pa_nil)) (by rfl))
      (pss_cons (ps_if (pt_cmpR op_lt (pv 7) (pe_ix ix_list (pe_lst (pa_cons pe_int (pa_cons pe_int (pa_cons pe_int (pa_cons pe_int pa_nil))))) (pv 2) (fun _ _ => rfl)) (nomark _)) (pss_one (ps_ret pe_str)) pss_nil)
      (pss_cons (ps_if (pt_cmpR op_eq (pv 7) pe_int (nomark _)) (pss_one (ps_ret (pe_call G_zero hr_zero rfl g_zero F_zero.kp b_zero .nil pass0 (pa_cons (pv 1) pa_nil)))) pss_nil)
      (pss_cons (ps_if (pt_cmpR op_notIn_seq (pv 4) (pe_tup (pa_cons pe_str (pa_cons pe_str pa_nil))) (by rfl)) (pss_one (ps_ret (pv 8))) pss_nil)
      (pss_cons (ps_set (i := 8) sc_weight.nd rfl (Or.inl rfl) (pe_ifExp (pt_cmpR op_eq (pv 2) pe_int (nomark _)) (pe_op op_add (pv 8) (pv 3)) (pv 8)))
      (pss_cons (ps_set (i := 8) sc_weight.nd rfl (Or.inl rfl) (pe_ifExp (PW.pt (pw_and (pt_cmpR op_eq (pv 2) pe_int (nomark _)) (pw_and1 (pt_cmpR op_gt (pv 7) pe_int (nomark _))))) (pe_un un_neg (pv 8)) (pv 8)))
      (pss_one (ps_ret (pe_ifExp (pt_cmpR op_eq (pv 4) pe_str (nomark _)) (pv 8) (pe_un un_neg (pv 8))))))))))))))))), ?_⟩
      obtain ⟨a, xs, rfl, ha, h1, h2, h4, h3⟩ := made_at hM
      refine q_asg (v := .str (nameOf k)) (ev_op (ev_var rfl) ev_c (rv_ixT (st_of ha) (v := .str (nameOf k)) (atI_of (Int.le_refl 0) rfl))) fun H1 e1 => ?_
      have cw := costW_pos k
      have tk : ∀ {G : Hp} {t : Str} {s5 s6 s7 s8 : Option V}, EvT (tTest (tOp rEq (tVar 4) (tC (.str t)))) [some (.ref m), some (.ref a), some (.int mood), some (.int lift), some (.str (nameOf k)), s5, s6, s7, s8] G (nameOf k == t) := fun {G t s5 s6 s7 s8} => et_test (ev_eqS (ev_var rfl) ev_c)
      cases k with
      | rest _ => exact Bool.noConfusion (show false = true from kc)
      | terms _ => exact Bool.noConfusion (show false = true from kc)
      | tab _ _ => exact Bool.noConfusion (show false = true from kc)
      | pair kl kr =>
        obtain ⟨u, u', rfl, hu1, hu2⟩ := h3 kl kr rfl
        refine q_when (b := true) (et_is tk (by show (("pair" : Str) == "pair") = true; decide +kernel)) (fun _ H2 e2 => ?_) (fun hb => (by cases hb))
        have e12 := e1.trans e2
        have hc : costW (.pair kl kr) = costW kl + costW kr := rfl
        have rA := RD.ofEx hD e12
        refine ⟨_, rfl, _, rfl, a, _, 1, u, rfl, rfl, st_of (e12 _ _ ha), rfl, _, rfl, _, rfl, m, pc, pg, cs, j, u, kl, mood, lift, rfl, rA.inv, by omega, hu1.ex e12, depth_l hn, ok.1, (clsd_pair kc).1, m0, m1, l0, l1, fun x1 d1 H3 r3 hx1 g1 s1 => ?_⟩
        have kp : Kp H H3 := (rA.then r3).kp hD
        refine ⟨_, rfl, _, rfl, a, _, 2, u', rfl, rfl, st_of (kp.tup ha), rfl, _, rfl, _, rfl, m, pc, pg, cs, j + costW kl, u', kr, mood, lift, rfl, r3.inv, by omega, hu2.kp kp, depth_r hn, ok.2, (clsd_pair kc).2, m0, m1, l0, l1, fun x2 d2 H4 r4 hx2 g2 s2 => ⟨by show 2 ≤ sizeLine; decide, fun l hl => ?_⟩⟩
        refine q _ _ _ (RD.up (((rA.then r3).then r4).then (.ofEx r4.inv (Ex.new hl))) (by omega)) (.new hl (.cons (hx1.kp (r4.kp r3.inv)) (.cons hx2 .nil))) ?_ ⟨s1, s2, True.intro⟩
        show (goodB kl d1 && goodB kr d2) = true
        rw [g1, g2]
        rfl
      | truth =>
        refine q_when (b := false) (et_is tk (by show (("truth" : Str) == "pair") = false; decide +kernel)) (fun hb => (by cases hb)) (fun _ H2 e2 => ?_)
        have e := (e1.trans e2)
        refine q_when (b := true) (et_is tk (by show (("truth" : Str) == "truth") = true; decide +kernel)) (fun _ H3 e3 => ?_) (fun hb => (by cases hb))
        have rA := RD.ofEx hD (e.trans e3)
        refine ⟨_, rfl, m, pc, pg, cs, j, 4, rfl, rA.inv, by omega, by decide, by decide, fun x H4 x0 x1 r4 => ⟨x, 0, rfl, rfl, ?_⟩⟩
        exact q _ _ _ (RD.up (rA.then r4) (by omega)) (.bl _) rfl True.intro
      | lot n =>
        obtain rfl := h2 n rfl
        refine q_when (b := false) (et_is tk (by show (("lot" : Str) == "pair") = false; decide +kernel)) (fun hb => (by cases hb)) (fun _ H2 e2 => ?_)
        refine q_when (b := false) (et_is tk (by show (("lot" : Str) == "truth") = false; decide +kernel)) (fun hb => (by cases hb)) (fun _ H3 e3 => ?_)
        have e := ((e1.trans e2).trans e3)
        refine q_when (b := true) (et_is tk (by show (("lot" : Str) == "lot") = true; decide +kernel)) (fun _ H4 e4 => ?_) (fun hb => (by cases hb))
        have rA := RD.ofEx hD (e.trans e4)
        have n12 : n ≤ 12 := ok.2
        have hp := Nat.pow_le_pow_right (n := 2) (by decide) n12
        have hp0 := Nat.two_pow_pos n
        have hv : (1 : Int) * 2 ^ ((n : Int)).toNat = ((2 ^ n : Nat) : Int) := by rw [Int.one_mul, Int.toNat_natCast, Int.natCast_pow]; rfl
        refine ⟨_, rfl, _, rfl, a, _, 1, .int (n : Int), rfl, rfl, st_of (e.trans e4 _ _ ha), rfl, 1, (n : Int), rfl, rfl, ⟨by omega, by omega, by decide⟩, m, pc, pg, cs, j, ((2 ^ n : Nat) : Int), by rw [← hv]; rfl, rA.inv, by omega, by omega, log_lt (by omega) (by omega), fun x H5 x0 x1 r5 => ?_⟩
        obtain ⟨i, rfl⟩ : ∃ i : Nat, x = (i : Int) := ⟨x.toNat, by omega⟩
        exact q _ _ _ (RD.up (rA.then r5) (by omega)) (.int _) (nat_lot (by omega)) (sz_int (by omega))
      | share =>
        refine q_when (b := false) (et_is tk (by show (("share" : Str) == "pair") = false; decide +kernel)) (fun hb => (by cases hb)) (fun _ H2 e2 => ?_)
        refine q_when (b := false) (et_is tk (by show (("share" : Str) == "truth") = false; decide +kernel)) (fun hb => (by cases hb)) (fun _ H3 e3 => ?_)
        refine q_when (b := false) (et_is tk (by show (("share" : Str) == "lot") = false; decide +kernel)) (fun hb => (by cases hb)) (fun _ H4 e4 => ?_)
        have e := (((e1.trans e2).trans e3).trans e4)
        refine asg_step ⟨10, 40, rfl, rfl, ⟨by decide, by decide, by decide⟩, by show 4 ≤ sizeLine; decide, fun l hl => ?_⟩
        have hDl := (RD.ofEx hD (e.trans (Ex.new (o := .lst [.int 4, .int 4, .int 90, .int ((10 : Int) ^ (40 : Int).toNat)]) hl))).inv
        obtain ⟨l1, l2⟩ := (RD.ofEx hD e).inv.fresh hl
        refine ⟨_, rfl, m, pc, pg, cs, j, 4, rfl, hDl, by omega, by decide, by decide, fun x H5 x0 x1 r1 => ?_⟩
        have hl5 := r1.stay l1 l2 (o := .lst [.int 4, .int 4, .int 90, .int ((10 : Int) ^ (40 : Int).toNat)]) upd_same
        obtain ⟨sz, hsz, z0, z1⟩ := size_at x0 x1
        refine ⟨l, _, x, .int sz, rfl, rfl, sq_of hl5, hsz, ?_⟩
        have rA : RD m pc pg cs (j + 1) H H5 := (RD.ofEx hD (e.trans (Ex.new hl))).then r1
        refine q_when (b := true) (et_is tk (by show (("share" : Str) == "share") = true; decide +kernel)) (fun _ H6 e6 => ?_) (fun hb => (by cases hb))
        refine asg_step ⟨_, rfl, _, rfl, 10, 12, rfl, rfl, ⟨by decide, by decide, by decide⟩, _, _, rfl, m, pc, pg, cs, j + 1, (if (10 : Int) ^ (12 : Int).toNat < sz then (10 : Int) ^ (12 : Int).toNat else sz), rfl, (RD.ofEx rA.inv e6).inv, by omega, ?_, ?_, fun y H7 y0 y1 r7 => ⟨1, y, rfl, rfl, ?_⟩⟩
        · split
          · decide
          · exact z0
        · refine log_lt ?_ ?_
          · split
            · decide
            · exact z0
          · split
            · decide
            · exact z1
        have yb : y < 2 ^ 139 := by
          refine Int.lt_trans y1 ?_
          split
          · decide
          · exact z1
        obtain ⟨b, rfl⟩ : ∃ b : Nat, y = (b : Int) := ⟨y.toNat, by omega⟩
        refine ⟨_, rfl, _, rfl, (1 + (b : Int)), 1, rfl, rfl, m, pc, pg, cs, j + 1 + 1, (1 + (b : Int) + 1), rfl, r7.inv, by omega, by omega, ?_, fun t H8 t0 t1 r8 => ?_⟩
        · have h1 : (1 + (b : Int) + 1).natAbs ≠ 0 := by omega
          have h2 : (1 + (b : Int) + 1).natAbs < 2 ^ 140 := by omega
          have := (Nat.log2_lt h1).mpr h2
          omega
        obtain ⟨p, rfl⟩ : ∃ p : Nat, t = (p : Int) := ⟨t.toNat, by omega⟩
        have hbb : (1 + (b : Int)) = ((b + 1 : Nat) : Int) := by omega
        refine ⟨_, rfl, p, b + 1, congrArg (fun z => [V.int (p : Int), V.int z]) hbb, Nat.succ_pos b, Nat.lt_of_le_of_lt (by omega : b + 1 ≤ 2 ^ 139) (Nat.pow_lt_pow_right (by decide) (by decide)), fun r H9 e9 hr9 => ?_⟩
        refine q r _ H9 (RD.up ((((rA.then (.ofEx rA.inv e6)).then r7).then r8).then (.ofEx r8.inv e9)) (by omega)) hr9 (low_good (Nat.succ_pos b) (by omega)) (low_sz (by omega) ?_)
        have : (2 : Nat) ^ 140 = 2 ^ 139 + 2 ^ 139 := by decide
        omega
      | count =>
        refine q_when (b := false) (et_is tk (by show (("count" : Str) == "pair") = false; decide +kernel)) (fun hb => (by cases hb)) (fun _ H2 e2 => ?_)
        refine q_when (b := false) (et_is tk (by show (("count" : Str) == "truth") = false; decide +kernel)) (fun hb => (by cases hb)) (fun _ H3 e3 => ?_)
        refine q_when (b := false) (et_is tk (by show (("count" : Str) == "lot") = false; decide +kernel)) (fun hb => (by cases hb)) (fun _ H4 e4 => ?_)
        have e := (((e1.trans e2).trans e3).trans e4)
        refine asg_step ⟨10, 40, rfl, rfl, ⟨by decide, by decide, by decide⟩, by show 4 ≤ sizeLine; decide, fun l hl => ?_⟩
        have hDl := (RD.ofEx hD (e.trans (Ex.new (o := .lst [.int 4, .int 4, .int 90, .int ((10 : Int) ^ (40 : Int).toNat)]) hl))).inv
        obtain ⟨l1, l2⟩ := (RD.ofEx hD e).inv.fresh hl
        refine ⟨_, rfl, m, pc, pg, cs, j, 4, rfl, hDl, by omega, by decide, by decide, fun x H5 x0 x1 r1 => ?_⟩
        have hl5 := r1.stay l1 l2 (o := .lst [.int 4, .int 4, .int 90, .int ((10 : Int) ^ (40 : Int).toNat)]) upd_same
        obtain ⟨sz, hsz, z0, z1⟩ := size_at x0 x1
        refine ⟨l, _, x, .int sz, rfl, rfl, sq_of hl5, hsz, ?_⟩
        have rA : RD m pc pg cs (j + 1) H H5 := (RD.ofEx hD (e.trans (Ex.new hl))).then r1
        refine q_when (b := false) (et_is tk (by show (("count" : Str) == "share") = false; decide +kernel)) (fun hb => (by cases hb)) (fun _ H6 e6 => ?_)
        refine par_step ⟨_, rfl, m, pc, pg, cs, j + 1, 12, rfl, (RD.ofEx rA.inv e6).inv, by omega, by decide, by decide, fun way H7 w0 w1 r7 => ?_⟩
        refine ⟨_, rfl, _, rfl, m, pc, pg, cs, j + 1 + 1, sz, rfl, r7.inv, by omega, z0, log_lt z0 z1, fun nu H8 n0 n1 r8 => ⟨_, _, rfl, ?_⟩⟩
        have rB : RD m pc pg cs (j + 3) H H8 := ((rA.then (.ofEx rA.inv e6)).then r7).then r8
        have kp : Kp H H8 := rB.kp hD
        have done : ∀ {x : V} {d : PyData} {G : Hp}, Ex H8 G → DtAt G x d → goodB .count d = true → Sz 140 d → Q x G := fun {x d G} eG hx hg hs => q x d G (rB.then (.ofEx rB.inv eG)) hx hg hs
        obtain ⟨lim, hlim, _⟩ := mood_at m0 m1
        refine q_when (b := decide (way < lim)) (et_test (ev_op (ev_var rfl) (ev_opL1 (el_lst (ea_cons ev_c (ea_cons ev_c (ea_cons ev_c (ea_cons ev_c ea_nil)))) (by show 4 ≤ 100000; decide)) (fun H1 e1 => ev_var rfl) fun l H1 hl e1 => rv_ixL (sq_of hl) hlim) rv_I0)) (fun _ H9 e9 => ?_) (fun _ H9 e9 => ?_)
        · exact s_ret ev_c fun H10 e10 => done (e9.trans e10) (.str _) (by decide +kernel) True.intro
        refine q_when (b := (way == 11)) (et_test (ev_eqI (ev_var rfl) ev_c)) (fun _ H10 e10 => ?_) (fun _ H10 e10 => ?_)
        · refine ret_call (ea_cons (ev_var rfl) ea_nil) fun H11 e11 => ⟨.ref a, .count, rfl, hM.kp (kp.trans (.ex ((e9.trans e10).trans e11))), by show 0 < 3; decide, rfl, fun x G eG hx => done (((e9.trans e10).trans e11).trans eG) hx (good_zero .count rfl) (by show (0 : Int).natAbs < 2 ^ 140; decide)⟩
        have e10' := e9.trans e10
        refine q_when (b := true) (et_is (et_test (ev_niU (ev_var rfl) (eu_tup (ea_cons ev_c (ea_cons ev_c ea_nil)) (by show 2 ≤ 100000; decide)) rfl rfl)) (by decide +kernel)) (fun hb H11 e11 => ?_) (fun hb H11 e11 => ?_)
        · exact s_ret (ev_var rfl) fun H12 e12 => done ((e10'.trans e11).trans e12) (.int _) (decide_eq_true n0) (sz_int (by omega))
        · cases hb
      | narrow =>
        refine q_when (b := false) (et_is tk (by show (("narrow" : Str) == "pair") = false; decide +kernel)) (fun hb => (by cases hb)) (fun _ H2 e2 => ?_)
        refine q_when (b := false) (et_is tk (by show (("narrow" : Str) == "truth") = false; decide +kernel)) (fun hb => (by cases hb)) (fun _ H3 e3 => ?_)
        refine q_when (b := false) (et_is tk (by show (("narrow" : Str) == "lot") = false; decide +kernel)) (fun hb => (by cases hb)) (fun _ H4 e4 => ?_)
        have e := (((e1.trans e2).trans e3).trans e4)
        refine asg_step ⟨10, 40, rfl, rfl, ⟨by decide, by decide, by decide⟩, by show 4 ≤ sizeLine; decide, fun l hl => ?_⟩
        have hDl := (RD.ofEx hD (e.trans (Ex.new (o := .lst [.int 4, .int 4, .int 90, .int ((10 : Int) ^ (40 : Int).toNat)]) hl))).inv
        obtain ⟨l1, l2⟩ := (RD.ofEx hD e).inv.fresh hl
        refine ⟨_, rfl, m, pc, pg, cs, j, 4, rfl, hDl, by omega, by decide, by decide, fun x H5 x0 x1 r1 => ?_⟩
        have hl5 := r1.stay l1 l2 (o := .lst [.int 4, .int 4, .int 90, .int ((10 : Int) ^ (40 : Int).toNat)]) upd_same
        obtain ⟨sz, hsz, z0, z1⟩ := size_at x0 x1
        refine ⟨l, _, x, .int sz, rfl, rfl, sq_of hl5, hsz, ?_⟩
        have rA : RD m pc pg cs (j + 1) H H5 := (RD.ofEx hD (e.trans (Ex.new hl))).then r1
        refine q_when (b := false) (et_is tk (by show (("narrow" : Str) == "share") = false; decide +kernel)) (fun hb => (by cases hb)) (fun _ H6 e6 => ?_)
        refine par_step ⟨_, rfl, m, pc, pg, cs, j + 1, 12, rfl, (RD.ofEx rA.inv e6).inv, by omega, by decide, by decide, fun way H7 w0 w1 r7 => ?_⟩
        refine ⟨_, rfl, _, rfl, m, pc, pg, cs, j + 1 + 1, sz, rfl, r7.inv, by omega, z0, log_lt z0 z1, fun nu H8 n0 n1 r8 => ⟨_, _, rfl, ?_⟩⟩
        have rB : RD m pc pg cs (j + 3) H H8 := ((rA.then (.ofEx rA.inv e6)).then r7).then r8
        have kp : Kp H H8 := rB.kp hD
        have done : ∀ {x : V} {d : PyData} {G : Hp}, Ex H8 G → DtAt G x d → goodB .narrow d = true → Sz 140 d → Q x G := fun {x d G} eG hx hg hs => q x d G (rB.then (.ofEx rB.inv eG)) hx hg hs
        obtain ⟨lim, hlim, _⟩ := mood_at m0 m1
        refine q_when (b := decide (way < lim)) (et_test (ev_op (ev_var rfl) (ev_opL1 (el_lst (ea_cons ev_c (ea_cons ev_c (ea_cons ev_c (ea_cons ev_c ea_nil)))) (by show 4 ≤ 100000; decide)) (fun H1 e1 => ev_var rfl) fun l H1 hl e1 => rv_ixL (sq_of hl) hlim) rv_I0)) (fun _ H9 e9 => ?_) (fun _ H9 e9 => ?_)
        · exact s_ret ev_c fun H10 e10 => done (e9.trans e10) (.str _) (by decide +kernel) True.intro
        refine q_when (b := (way == 11)) (et_test (ev_eqI (ev_var rfl) ev_c)) (fun _ H10 e10 => ?_) (fun _ H10 e10 => ?_)
        · refine ret_call (ea_cons (ev_var rfl) ea_nil) fun H11 e11 => ⟨.ref a, .narrow, rfl, hM.kp (kp.trans (.ex ((e9.trans e10).trans e11))), by show 0 < 3; decide, rfl, fun x G eG hx => done (((e9.trans e10).trans e11).trans eG) hx (good_zero .narrow rfl) (by show (0 : Int).natAbs < 2 ^ 140; decide)⟩
        have e10' := e9.trans e10
        refine q_when (b := true) (et_is (et_test (ev_niU (ev_var rfl) (eu_tup (ea_cons ev_c (ea_cons ev_c ea_nil)) (by show 2 ≤ 100000; decide)) rfl rfl)) (by decide +kernel)) (fun hb H11 e11 => ?_) (fun hb H11 e11 => ?_)
        · exact s_ret (ev_var rfl) fun H12 e12 => done ((e10'.trans e11).trans e12) (.int _) (decide_eq_true n0) (sz_int (by omega))
        · cases hb
      | least =>
        refine q_when (b := false) (et_is tk (by show (("least" : Str) == "pair") = false; decide +kernel)) (fun hb => (by cases hb)) (fun _ H2 e2 => ?_)
        refine q_when (b := false) (et_is tk (by show (("least" : Str) == "truth") = false; decide +kernel)) (fun hb => (by cases hb)) (fun _ H3 e3 => ?_)
        refine q_when (b := false) (et_is tk (by show (("least" : Str) == "lot") = false; decide +kernel)) (fun hb => (by cases hb)) (fun _ H4 e4 => ?_)
        have e := (((e1.trans e2).trans e3).trans e4)
        refine asg_step ⟨10, 40, rfl, rfl, ⟨by decide, by decide, by decide⟩, by show 4 ≤ sizeLine; decide, fun l hl => ?_⟩
        have hDl := (RD.ofEx hD (e.trans (Ex.new (o := .lst [.int 4, .int 4, .int 90, .int ((10 : Int) ^ (40 : Int).toNat)]) hl))).inv
        obtain ⟨l1, l2⟩ := (RD.ofEx hD e).inv.fresh hl
        refine ⟨_, rfl, m, pc, pg, cs, j, 4, rfl, hDl, by omega, by decide, by decide, fun x H5 x0 x1 r1 => ?_⟩
        have hl5 := r1.stay l1 l2 (o := .lst [.int 4, .int 4, .int 90, .int ((10 : Int) ^ (40 : Int).toNat)]) upd_same
        obtain ⟨sz, hsz, z0, z1⟩ := size_at x0 x1
        refine ⟨l, _, x, .int sz, rfl, rfl, sq_of hl5, hsz, ?_⟩
        have rA : RD m pc pg cs (j + 1) H H5 := (RD.ofEx hD (e.trans (Ex.new hl))).then r1
        refine q_when (b := false) (et_is tk (by show (("least" : Str) == "share") = false; decide +kernel)) (fun hb => (by cases hb)) (fun _ H6 e6 => ?_)
        refine par_step ⟨_, rfl, m, pc, pg, cs, j + 1, 12, rfl, (RD.ofEx rA.inv e6).inv, by omega, by decide, by decide, fun way H7 w0 w1 r7 => ?_⟩
        refine ⟨_, rfl, _, rfl, m, pc, pg, cs, j + 1 + 1, sz, rfl, r7.inv, by omega, z0, log_lt z0 z1, fun nu H8 n0 n1 r8 => ⟨_, _, rfl, ?_⟩⟩
        have rB : RD m pc pg cs (j + 3) H H8 := ((rA.then (.ofEx rA.inv e6)).then r7).then r8
        have kp : Kp H H8 := rB.kp hD
        have done : ∀ {x : V} {d : PyData} {G : Hp}, Ex H8 G → DtAt G x d → goodB .least d = true → Sz 140 d → Q x G := fun {x d G} eG hx hg hs => q x d G (rB.then (.ofEx rB.inv eG)) hx hg hs
        obtain ⟨lim, hlim, _⟩ := mood_at m0 m1
        refine q_when (b := decide (way < lim)) (et_test (ev_op (ev_var rfl) (ev_opL1 (el_lst (ea_cons ev_c (ea_cons ev_c (ea_cons ev_c (ea_cons ev_c ea_nil)))) (by show 4 ≤ 100000; decide)) (fun H1 e1 => ev_var rfl) fun l H1 hl e1 => rv_ixL (sq_of hl) hlim) rv_I0)) (fun _ H9 e9 => ?_) (fun _ H9 e9 => ?_)
        · exact s_ret ev_c fun H10 e10 => done (e9.trans e10) (.str _) (by decide +kernel) True.intro
        refine q_when (b := (way == 11)) (et_test (ev_eqI (ev_var rfl) ev_c)) (fun _ H10 e10 => ?_) (fun _ H10 e10 => ?_)
        · refine ret_call (ea_cons (ev_var rfl) ea_nil) fun H11 e11 => ⟨.ref a, .least, rfl, hM.kp (kp.trans (.ex ((e9.trans e10).trans e11))), by show 0 < 3; decide, rfl, fun x G eG hx => done (((e9.trans e10).trans e11).trans eG) hx (good_zero .least rfl) (by exact True.intro)⟩
        have e10' := e9.trans e10
        refine q_when (b := false) (et_is (et_test (ev_niU (ev_var rfl) (eu_tup (ea_cons ev_c (ea_cons ev_c ea_nil)) (by show 2 ≤ 100000; decide)) rfl rfl)) (by decide +kernel)) (fun hb H11 e11 => ?_) (fun hb H11 e11 => ?_)
        · cases hb
        replace e11 := e10'.trans e11
        refine q_asg (ev_ifI (et_test (ev_eqI (ev_var rfl) ev_c)) (ev_op (ev_var rfl) (ev_var rfl) rv_I0) (ev_var rfl)) fun H12 e12 => ?_
        have hb1 : ∃ n2 : Int, (if ((mood == 1) = true) then nu + lift else nu) = n2 ∧ -100 ≤ n2 ∧ n2 ≤ nu + 100 := by
          refine ⟨_, rfl, ?_, ?_⟩ <;> split <;> omega
        obtain ⟨n2, hn2, b1, b2⟩ := hb1
        rw [hn2]
        refine q_asg (ev_ifI (et_and (et_test (ev_eqI (ev_var rfl) ev_c)) fun _ => et_test (ev_gtI (ev_var rfl) ev_c)) (ev_un (ev_var rfl) rv_neg) (ev_var rfl)) fun H13 e13 => ?_
        have hb3 : ∃ n3 : Int, (if (((mood == 2) && decide (7 < way)) = true) then -n2 else n2) = n3 ∧ n3.natAbs ≤ nu.natAbs + 100 := by
          refine ⟨_, rfl, ?_⟩
          split <;> omega
        obtain ⟨n3, hn3, b3⟩ := hb3
        rw [hn3]
        refine r_if (b := true) (et_is tk (by show (("least" : Str) == "least") = true; decide +kernel)) (fun hb H14 e14 => ?_) (fun hb H14 e14 => ?_)
        · exact s_ret (ev_var rfl) fun H15 e15 => done ((((e11.trans e12).trans e13).trans e14).trans e15) (.int _) rfl (sz_int (by omega))
        · cases hb
      | most =>
        refine q_when (b := false) (et_is tk (by show (("most" : Str) == "pair") = false; decide +kernel)) (fun hb => (by cases hb)) (fun _ H2 e2 => ?_)
        refine q_when (b := false) (et_is tk (by show (("most" : Str) == "truth") = false; decide +kernel)) (fun hb => (by cases hb)) (fun _ H3 e3 => ?_)
        refine q_when (b := false) (et_is tk (by show (("most" : Str) == "lot") = false; decide +kernel)) (fun hb => (by cases hb)) (fun _ H4 e4 => ?_)
        have e := (((e1.trans e2).trans e3).trans e4)
        refine asg_step ⟨10, 40, rfl, rfl, ⟨by decide, by decide, by decide⟩, by show 4 ≤ sizeLine; decide, fun l hl => ?_⟩
        have hDl := (RD.ofEx hD (e.trans (Ex.new (o := .lst [.int 4, .int 4, .int 90, .int ((10 : Int) ^ (40 : Int).toNat)]) hl))).inv
        obtain ⟨l1, l2⟩ := (RD.ofEx hD e).inv.fresh hl
        refine ⟨_, rfl, m, pc, pg, cs, j, 4, rfl, hDl, by omega, by decide, by decide, fun x H5 x0 x1 r1 => ?_⟩
        have hl5 := r1.stay l1 l2 (o := .lst [.int 4, .int 4, .int 90, .int ((10 : Int) ^ (40 : Int).toNat)]) upd_same
        obtain ⟨sz, hsz, z0, z1⟩ := size_at x0 x1
        refine ⟨l, _, x, .int sz, rfl, rfl, sq_of hl5, hsz, ?_⟩
        have rA : RD m pc pg cs (j + 1) H H5 := (RD.ofEx hD (e.trans (Ex.new hl))).then r1
        refine q_when (b := false) (et_is tk (by show (("most" : Str) == "share") = false; decide +kernel)) (fun hb => (by cases hb)) (fun _ H6 e6 => ?_)
        refine par_step ⟨_, rfl, m, pc, pg, cs, j + 1, 12, rfl, (RD.ofEx rA.inv e6).inv, by omega, by decide, by decide, fun way H7 w0 w1 r7 => ?_⟩
        refine ⟨_, rfl, _, rfl, m, pc, pg, cs, j + 1 + 1, sz, rfl, r7.inv, by omega, z0, log_lt z0 z1, fun nu H8 n0 n1 r8 => ⟨_, _, rfl, ?_⟩⟩
        have rB : RD m pc pg cs (j + 3) H H8 := ((rA.then (.ofEx rA.inv e6)).then r7).then r8
        have kp : Kp H H8 := rB.kp hD
        have done : ∀ {x : V} {d : PyData} {G : Hp}, Ex H8 G → DtAt G x d → goodB .most d = true → Sz 140 d → Q x G := fun {x d G} eG hx hg hs => q x d G (rB.then (.ofEx rB.inv eG)) hx hg hs
        obtain ⟨lim, hlim, _⟩ := mood_at m0 m1
        refine q_when (b := decide (way < lim)) (et_test (ev_op (ev_var rfl) (ev_opL1 (el_lst (ea_cons ev_c (ea_cons ev_c (ea_cons ev_c (ea_cons ev_c ea_nil)))) (by show 4 ≤ 100000; decide)) (fun H1 e1 => ev_var rfl) fun l H1 hl e1 => rv_ixL (sq_of hl) hlim) rv_I0)) (fun _ H9 e9 => ?_) (fun _ H9 e9 => ?_)
        · exact s_ret ev_c fun H10 e10 => done (e9.trans e10) (.str _) (by decide +kernel) True.intro
        refine q_when (b := (way == 11)) (et_test (ev_eqI (ev_var rfl) ev_c)) (fun _ H10 e10 => ?_) (fun _ H10 e10 => ?_)
        · refine ret_call (ea_cons (ev_var rfl) ea_nil) fun H11 e11 => ⟨.ref a, .most, rfl, hM.kp (kp.trans (.ex ((e9.trans e10).trans e11))), by show 0 < 3; decide, rfl, fun x G eG hx => done (((e9.trans e10).trans e11).trans eG) hx (good_zero .most rfl) (by exact True.intro)⟩
        have e10' := e9.trans e10
        refine q_when (b := false) (et_is (et_test (ev_niU (ev_var rfl) (eu_tup (ea_cons ev_c (ea_cons ev_c ea_nil)) (by show 2 ≤ 100000; decide)) rfl rfl)) (by decide +kernel)) (fun hb H11 e11 => ?_) (fun hb H11 e11 => ?_)
        · cases hb
        replace e11 := e10'.trans e11
        refine q_asg (ev_ifI (et_test (ev_eqI (ev_var rfl) ev_c)) (ev_op (ev_var rfl) (ev_var rfl) rv_I0) (ev_var rfl)) fun H12 e12 => ?_
        have hb1 : ∃ n2 : Int, (if ((mood == 1) = true) then nu + lift else nu) = n2 ∧ -100 ≤ n2 ∧ n2 ≤ nu + 100 := by
          refine ⟨_, rfl, ?_, ?_⟩ <;> split <;> omega
        obtain ⟨n2, hn2, b1, b2⟩ := hb1
        rw [hn2]
        refine q_asg (ev_ifI (et_and (et_test (ev_eqI (ev_var rfl) ev_c)) fun _ => et_test (ev_gtI (ev_var rfl) ev_c)) (ev_un (ev_var rfl) rv_neg) (ev_var rfl)) fun H13 e13 => ?_
        have hb3 : ∃ n3 : Int, (if (((mood == 2) && decide (7 < way)) = true) then -n2 else n2) = n3 ∧ n3.natAbs ≤ nu.natAbs + 100 := by
          refine ⟨_, rfl, ?_⟩
          split <;> omega
        obtain ⟨n3, hn3, b3⟩ := hb3
        rw [hn3]
        refine r_if (b := false) (et_is tk (by show (("most" : Str) == "least") = false; decide +kernel)) (fun hb H14 e14 => ?_) (fun hb H14 e14 => ?_)
        · cases hb
        · exact s_ret (ev_un (ev_var rfl) rv_neg) fun H15 e15 => done ((((e11.trans e12).trans e13).trans e14).trans e15) (.int _) rfl (sz_int (by omega))
end
end D1
end
section
set_option Elab.async false
set_option linter.all false
set_option maxRecDepth 100000
set_option maxHeartbeats 4000000
/-! L6: the law's orders -/
namespace D1
open PySem L2 Evl RZ ClX PySem.VX
/-- [e for k in range(n)], numbers drawn -/
theorem lc_intsL {σ : L2.St} {H1 : Hp} {te : TE} {ta : TA} {jj : Nat} {vs : List Nat} {Q : VK} {n : Nat} (I : List Int → Hp → Prop) (hn : n ≤ 100000) (ha : EvA ta σ H1 [.int (n : Int)])
    (h0 : ∀ G, Ex H1 G → I [] G) (hI : ∀ (zs : List Int) (D : Addr) (o : HO) (G : Hp), H1 D = none → I zs G → I zs (upd G D o)) (hw : ∀ x, wipe ((wipe σ vs).set jj (some x)) vs = wipe σ vs)
    (hs : ∀ (i : Nat) (zs : List Int) (G : Hp), i < n → zs.length = i → I zs G → EvP te ((wipe σ vs).set jj (some (.int (0 + (i : Int))))) G fun y G' => ∃ z, y = .int z ∧ I (zs ++ [z]) G' ∧ ∀ (D : Addr) (xs : List V), H1 D = none → G D = some (.lst xs) → G' D = some (.lst xs))
    (k : ∀ (D : Addr) (zs : List Int) (G : Hp), H1 D = none → G D = some (.lst (zs.map V.int)) → zs.length = n → I zs G → Q (.ref D) G) :
    tLc (iRng1 ta) (gName jj) tYes te vs σ H1 Q := by
  refine ha H1 (Ex.refl H1) _ fun H2 e2 => ⟨(n : Int), rfl, by omega, by omega, ?_⟩
  intro D hD
  have hD1 := fresh_back e2 hD
  have key : ∃ W : Nat → Nat → Hp → Prop, (∃ m, W 0 m (upd H2 D (.lst []))) ∧ ∀ i m H, W i m H → ((Itr 0 n).stop i H ∧ Q (.ref D) H) ∨ ((Itr 0 n).go i H ∧ ∃ Nx : Hp → Prop, (∀ H', Nx H' → ∃ m', m' < m ∧ W (i + 1) m' H') ∧ ∀ x H', (Itr 0 n).yld i H x H' → gName jj x (wipe σ vs) H' fun σ2 H2 => wipe σ2 vs = wipe σ vs ∧ tYes σ2 H2 fun b H3 =>
      if b = true then te σ2 H3 fun y H4 => ∃ acc, H4 D = some (.lst acc) ∧ acc.length < sizeLine ∧ Nx (upd H4 D (.lst (acc ++ [y]))) else Nx H3) := by
    refine lc_it (walk_range (lo := 0) (n := n)) (fun i G => ∃ zs : List Int, I zs G ∧ G D = some (.lst (zs.map V.int)) ∧ zs.length = i) ⟨[], hI _ _ _ _ hD1 (h0 H2 e2), upd_same, rfl⟩ (fun _ _ _ _ => True.intro) ?_ ?_
    · rintro i x _ G hi ⟨zs, hIi, hz, hl⟩ ⟨rfl, rfl⟩
      refine ⟨hw _, tyes_go (yes_of rfl ?_)⟩
      refine hs i zs G hi hl hIi _ ?_
      rintro y G' ⟨z, rfl, hI2, hk⟩
      refine ⟨_, hk D _ hD1 hz, ?_, zs ++ [z], hI _ _ _ _ hD1 hI2, ?_, by rw [List.length_append, hl]; rfl⟩
      · rw [List.length_map, hl]
        exact Nat.lt_of_lt_of_le hi (Nat.le_trans hn (by decide))
      · rw [upd_same, List.map_append]
        rfl
    · rintro G ⟨zs, hIn, hz, hl⟩
      exact k D zs G hD1 hz hl hIn
  have hnn : ((n : Int)).toNat = n := Int.toNat_natCast n
  rw [hnn]
  exact key
theorem lc_ints {P : Int → Prop} {σ : L2.St} {H1 : Hp} {te : TE} {ta : TA} {jj : Nat} {vs : List Nat} {Q : VK} {n : Nat} (I : Nat → Hp → Prop) (hn : n ≤ 100000) (ha : EvA ta σ H1 [.int (n : Int)])
    (h0 : ∀ G, Ex H1 G → I 0 G) (hI : ∀ (i : Nat) (D : Addr) (o : HO) (G : Hp), H1 D = none → I i G → I i (upd G D o)) (hw : ∀ x, wipe ((wipe σ vs).set jj (some x)) vs = wipe σ vs)
    (hs : ∀ (i : Nat) (G : Hp), i < n → I i G → EvP te ((wipe σ vs).set jj (some (.int (0 + (i : Int))))) G fun y G' => ∃ z, y = .int z ∧ P z ∧ I (i + 1) G' ∧ ∀ (D : Addr) (xs : List V), H1 D = none → G D = some (.lst xs) → G' D = some (.lst xs))
    (k : ∀ (D : Addr) (zs : List Int) (G : Hp), H1 D = none → G D = some (.lst (zs.map V.int)) → zs.length = n → (∀ z ∈ zs, P z) → I n G → Q (.ref D) G) :
    tLc (iRng1 ta) (gName jj) tYes te vs σ H1 Q := by
  refine lc_intsL (fun zs G => I zs.length G ∧ ∀ z ∈ zs, P z) hn ha (fun G e => ⟨h0 G e, fun z h => by cases h⟩) (fun zs D o G hD h => ⟨hI _ D o G hD h.1, h.2⟩) hw (fun i zs G hi hl h Q' q' => ?_) (fun D zs G hD hz hl h => k D zs G hD hz hl h.2 (hl ▸ h.1))
  refine hs i G hi (hl ▸ h.1) Q' fun y G' hy => ?_
  obtain ⟨z, rfl, hP, hI2, hk⟩ := hy
  refine q' _ _ ⟨z, rfl, ⟨?_, fun u hu => ?_⟩, hk⟩
  · rw [List.length_append, hl]
    exact hI2
  · rcases List.mem_append.mp hu with h' | h'
    · exact h.2 u h'
    · rw [List.mem_singleton] at h'
      rw [h']
      exact hP
theorem eraseIdx_perm : ∀ (l : List Int) (i : Nat) (h : i < l.length), (l[i] :: l.eraseIdx i).Perm l
  | _ :: _, 0, _ => List.Perm.refl _
  | c :: l, i + 1, h => (List.Perm.swap c _ _).trans (List.Perm.cons c (eraseIdx_perm l i (Nat.lt_of_succ_lt_succ h)))
theorem perm_step {os ps : List Int} {r : List Int} {d : Nat} (hd : d < ps.length) (h : (os ++ ps).Perm r) : ((os ++ [ps[d]]) ++ ps.eraseIdx d).Perm r := by
  rw [List.append_assoc]
  exact ((List.Perm.append_left os (eraseIdx_perm ps d hd)).trans h)
abbrev rgI (n : Nat) : List Int := (List.range n).map (fun i : Nat => (i : Int))
theorem rgI_len (n : Nat) : (rgI n).length = n := by rw [List.length_map, List.length_range]
theorem rgI_mem {n : Nat} {z : Int} (h : z ∈ rgI n) : 0 ≤ z ∧ z < (n : Int) := by
  obtain ⟨i, hi, rfl⟩ := List.mem_map.mp h
  rw [List.mem_range] at hi
  omega
theorem er_map : ∀ (ws : List Int) (i : Nat), (ws.map V.int).eraseIdx i = (ws.eraseIdx i).map V.int
  | [], _ => rfl
  | _ :: _, 0 => rfl
  | w :: ws, i + 1 => congrArg (V.int w :: ·) (er_map ws i)
theorem rg_ok {n : Nat} (h : n ≤ 10000) : RgOk 0 (n : Int) := .of_le (Int.le_refl 0) (by omega) (by decide) (by omega)
theorem rg_v (n : Nat) : rgV 0 (n : Int) = ((List.range n).map (fun i : Nat => (i : Int))).map V.int := by
  unfold rgV
  rw [show (((n : Int) - 0).toNat) = n by omega, List.map_map]
  apply List.map_congr_left
  intro i _
  show V.int (0 + (i : Int)) = V.int (i : Int)
  rw [Int.zero_add]
theorem small_log {n : Int} (h : n.natAbs ≤ 1000000) : n.natAbs.log2 < 9000 := by
  rcases Nat.eq_zero_or_pos n.natAbs with h0 | h0
  · rw [h0]
    decide
  · have h2 : n.natAbs < 2 ^ 40 := by omega
    have := (Nat.log2_lt (by omega : n.natAbs ≠ 0)).mpr h2
    omega
theorem seqi {x : Int} {n : Nat} (h0 : 0 ≤ x) (h : x.toNat < n) : seqIndex? x n = some x.toNat := by
  unfold seqIndex?
  have h1 : ¬ x < 0 := by omega
  dsimp only
  rw [if_neg h1, decide_eq_true h0, decide_eq_true (by omega : x < (n : Int))]
  rfl
theorem DS.off {m pc pg : Addr} {cs : List Int} {j : Nat} {H : Hp} (h : DS m pc pg cs j H) {p : Addr} (hp : H p = none) : p ≠ m ∧ p ≠ pg := h.fresh hp
def spTurned : Sp := fun vs H Q _ => ∃ (m pc pg : Addr) (cs : List Int) (j n : Nat), vs = [.ref m, .int (n : Int)] ∧ DS m pc pg cs j H ∧ n ≤ 100 ∧ j + n ≤ 100000 ∧ ∀ (D : Addr) (zs : List Int) (H' : Hp), H D = none → H' D = some (.lst (zs.map V.int)) → zs.length = n → (∀ z ∈ zs, 0 ≤ z ∧ z < (n : Int)) → zs.Perm (rgI n) → RD m pc pg cs (j + n) H H' → Q (.ref D) H'
section
variable {P : Program} {w : World} {K : PySem.W.Frag} {mg : Str → Option Value} {base : Heap}
abbrev s_turned : Stmt := top 122
theorem sc_turned : FnScope ["_law_draw_here", "_law_many", "_law_waiting", "_law_k"] ["_law_draw_here", "_law_many"] (defScope s_turned) := ⟨rfl, rfl, rfl, by decide +kernel, rfl, by decide +kernel, by decide +kernel⟩
theorem ok_turned {f : Addr} {fd : FuncData} (F : FnP K "_law_turned" s_turned f fd) {f_next : Addr} {fd_next : FuncData} (F_next : FnP K "_law_next" s_next f_next fd_next) (g_next : mg "_law_next" = some (.ref f_next)) (G_next : FnOk P w K mg base (CX0) 2 f_next fd_next ["_law_draw_here", "_law_many"] (spNext)) (z_list : mg "list" = none) (z_range : mg "range" = none) (z_len : mg "len" = none) : FnOk P w K mg base (CX0) 3 f fd ["_law_draw_here", "_law_many"] (spTurned) := by
  have b_next : Binds K fd_next ["_law_draw_here", "_law_many"] [] := F_next.bindsN fun _ _ _ _ _ _ us hl => match us, hl with | [_, _], _ => rfl
  refine F.ok (CX := CX0) sc_turned (fun vs H Q E h => ?_) (fun cdv A outer s H vs Q E hr h => ?_)
  · obtain ⟨m, pc, pg, cs, j, n, rfl, _⟩ := h
    rfl
  · obtain ⟨m, pc, pg, cs, j, n, rfl, hD, hn, hj, q⟩ := h
    have hu := hu_of hr
    have hu64 := hr.units
    have hr_next := hr.mono (by decide : 2 ≤ 2)
    refine ⟨_, PSs.nox (pss_cons (ps_set (i := 2) sc_turned.nd rfl (Or.inr rfl) (pe_listRg rfl rfl z_list (prg_1 rfl z_range (pv 1))))
      (pss_one (ps_ret (pe_lc (own := [("_law_k", 3)]) (g := gName 3) (tt := tYes) (te := tBM K "list" rPopAt (tVar 2) (tCons (tCall spNext [] E0 (tCons (tVar 0) (tCons (tCB (rLenQ K) (tCons (tVar 2) tNil)) tNil))) tNil)) (by rfl) sc_turned.nd (pi_range1 rfl z_range (pa_cons (pv 1) pa_nil)) (blkOk_by (own := [("_law_k", 3)]) (N := ["_law_draw_here", "_law_many", "_law_waiting", "_law_k"]) (sc := defScope s_turned) (by decide +kernel)) (fun _ _ _ _ _ => pg_name (i := 3) sc_turned.nd rfl (Or.inl rfl)) (fun _ _ _ _ _ => pts_nil) (fun _ _ _ _ _ => pe_bm PySem.F.plainAttrs_list PySem.F.slot_list_pop PySem.F.type_list_pop mt_popAt (pv 2) (pa_cons (pe_call G_next hr_next rfl g_next F_next.kp b_next .nil pass0 (pa_cons (pv 0) (pa_cons (pe_callB call_len_seq (by rfl) z_len PySem.boot_len (pa_cons (pv 2) pa_nil)) pa_nil))) pa_nil)))))), ?_⟩
    refine asg_step ⟨_, rfl, (n : Int), rfl, rg_ok (by omega), fun W hW => ?_⟩
    rw [rg_v]
    have hD1 : DS m pc pg cs j (upd H W (.lst (((List.range n).map (fun i : Nat => (i : Int))).map V.int))) := (RD.ofEx hD (Ex.new hW)).inv
    obtain ⟨w1, w2⟩ := hD.fresh hW
    generalize hG1 : (upd H W (.lst (((List.range n).map (fun i : Nat => (i : Int))).map V.int))) = G1 at hD1 ⊢
    have eW : Ex H G1 := hG1 ▸ Ex.new hW
    have hWG : G1 W = some (.lst (((List.range n).map (fun i : Nat => (i : Int))).map V.int)) := by rw [← hG1, upd_same]
    refine lc_intsL (n := n) (fun zs G => RD m pc pg cs (j + zs.length) H G ∧ ∃ ws : List Int, G W = some (.lst (ws.map V.int)) ∧ (zs ++ ws).Perm (rgI n)) (by omega) (ea_cons (ev_var rfl) ea_nil) (fun G e => ⟨.ofEx hD (eW.trans e), _, e _ _ hWG, List.Perm.refl _⟩) (fun zs D o G hDn hI => ?_) (fun _ => rfl) (fun i zs G hi hzl hI Q' k' => ?_) (fun D zs G hDn hz hl hI => ?_)
    · obtain ⟨r, ws, h1, h2⟩ := hI
      have : W ≠ D := fun z => by
        rw [← z, hWG] at hDn
        cases hDn
      exact ⟨r.set hD (fresh_back eW hDn), ws, by rw [upd_ne this]; exact h1, h2⟩
    · obtain ⟨r, ws, h1, h2⟩ := hI
      have hlen := h2.length_eq
      rw [List.length_append, rgI_len, hzl] at hlen
      have l0 : 0 < ws.length := by omega
      refine ⟨_, rfl, .inl ⟨rfl, _, sq_of h1⟩, ?_⟩
      refine ⟨_, rfl, _, rfl, W, _, rfl, .inl (sq_of h1), m, pc, pg, cs, j + zs.length, (ws.length : Int), by rw [List.length_map]; rfl, r.inv, by omega, by omega, small_log (by omega), fun x G2 x0 x1 r2 => ?_⟩
      have h1' := r2.stay w1 w2 h1
      have hx : x.toNat < ws.length := by omega
      refine ⟨W, _, x, x.toNat, .int (ws[x.toNat]), rfl, rfl, h1', by omega, by omega, by rw [List.length_map]; exact seqi x0 hx, int_get (List.getElem?_eq_getElem hx), ?_⟩
      refine k' _ _ ⟨_, rfl, ⟨by rw [List.length_append]; exact RD.set (r.then r2) hD hW, ws.eraseIdx x.toNat, by rw [upd_same, er_map], perm_step hx h2⟩, fun D xs hDn hG => ?_⟩
      have : D ≠ W := fun z => by
        rw [z, hWG] at hDn
        cases hDn
      obtain ⟨d1, d2⟩ := hD1.fresh hDn
      rw [upd_ne this]
      exact r2.stay d1 d2 hG
    · obtain ⟨r, ws, h1, h2⟩ := hI
      have hlen := h2.length_eq
      rw [List.length_append, rgI_len, hl] at hlen
      have hw0 : ws = [] := List.length_eq_zero_iff.mp (by omega)
      subst hw0
      rw [List.append_nil] at h2
      exact q D zs G (fresh_back eW hDn) hz hl (fun z hz => rgI_mem (h2.mem_iff.mp hz)) h2 (hl ▸ r)
end
end D1
end
section
set_option Elab.async false
set_option linter.all false
set_option maxRecDepth 100000
set_option maxHeartbeats 4000000
/-! LW: steps of the law -/
namespace D1
open PySem L2 Evl RZ ClX PySem.VX
theorem q_ifS {t : TT} {tu tz : TS} {D : Ends} {σ : L2.St} {H : Hp} {b : Bool} (M : L2.St → Hp → Prop) (h : EvT t σ H b) (h1 : b = true → ∀ H1, Ex H H1 → ∀ D' : Ends, (∀ σ2 H2, M σ2 H2 → D'.nx σ2 H2) → tu D' σ H1) (h2 : b = false → ∀ H1, Ex H H1 → M σ H1) (k : ∀ σ2 H2, M σ2 H2 → tz D σ2 H2) : tSeq (tIfS t tu tNext) tz D σ H :=
  q_when h (fun hb H1 e1 => h1 hb H1 e1 { D with nx := tz D } k) (fun hb H1 e1 => k σ H1 (h2 hb H1 e1))
theorem Kp.lst {H : Hp} {p : Addr} {xs ys : List V} (h : H p = some (.lst xs)) : Kp H (upd H p (.lst ys)) := fun a o so ha => by
  have : a ≠ p := fun z => by
    rw [z, h] at ha
    cases ha
    cases so
  rw [upd_ne this]
  exact ha
theorem par3_step {i j l : Nat} {t : TA} {z : TS} {D : Ends} {σ : L2.St} {H : Hp} (h : t σ H fun vs H1 => ∃ u v w, vs = [u, v, w] ∧ z D (((σ.set i (some u)).set j (some v)).set l (some w)) H1) : tSeq (tPar3 i j l t) z D σ H := h
theorem ints_at {zs : List Int} {n : Nat} (hl : zs.length = n) {B : Int} (hz : ∀ z ∈ zs, 0 ≤ z ∧ z < B) {a : Nat} (ha : a < n) : ∃ z : Nat, atI (zs.map V.int) (a : Int) = some (.int (z : Int)) ∧ (z : Int) < B := by
  have h : a < zs.length := by omega
  obtain ⟨h0, h1⟩ := hz _ (List.getElem_mem h)
  refine ⟨(zs[a]).toNat, atI_of (by omega) ?_, by omega⟩
  rw [Int.toNat_natCast, int_get (List.getElem?_eq_getElem h), Int.toNat_of_nonneg h0]
theorem RD.back {m pc pg : Addr} {cs : List Int} {i j : Nat} {H H1 : Hp} (r : RD m pc pg cs j H H1) {p : Addr} (hp : H1 p = none) : H p = none := by
  cases h : H p with
  | none => rfl
  | some o =>
    obtain ⟨n1, n2⟩ := DS.fresh r.inv hp
    rw [r.stay n1 n2 h] at hp
    cases hp
theorem asg_if {t : TT} {ta tb : TE} {g : TG} {D : Ends} {σ : L2.St} {H : Hp} {b : Bool} (h : EvT t σ H b) (h1 : b = true → ∀ H1, Ex H H1 → tAsg ta g D σ H1) (h2 : b = false → ∀ H1, Ex H H1 → tAsg tb g D σ H1) : tAsg (tIf t ta tb) g D σ H := h H (Ex.refl H) _ fun H1 e => by
  cases b with
  | true => exact h1 rfl H1 e
  | false => exact h2 rfl H1 e
theorem asg_tup2 {K : PySem.W.Frag} {te : TE} {i j : Nat} {x y : V} {D : Ends} {σ : L2.St} {H : Hp} (h : EvU te σ H [x, y]) (k : ∀ H1, Ex H H1 → D.nx ((σ.set i (some x)).set j (some y)) H1) : tAsg te (gTup K 2 (gCons (gName i) (gCons (gName j) gNil))) D σ H := h H (Ex.refl H) _ fun p H1 hp e h1 => ⟨p, _, rfl, st_of h1, rfl, _, _, rfl, _, _, rfl, rfl, k H1 e⟩
end D1
end
section
set_option Elab.async false
set_option linter.all false
set_option maxRecDepth 100000
set_option maxHeartbeats 4000000
/-! Z3: enumerate of a tuple -/
namespace PySem
open Sem (wp)
theorem meets_enumerate_new1 {v : Value} {o : Obj} {H : Heap → Prop} (B : Begins v o H) :
    Meets (Builtin.«enumerate.__new__» ⟨[.type "enumerate", v], []⟩) (fun _ R s => H s.heap ∧
      R (.ok (.ret (.ref (s.heap.push o).objs.size))) { s with heap := (s.heap.push o).push { cls := .type "enumerate", data := .fields #[.none, .bool false, .ref s.heap.objs.size, rawInt 0, .none, .none] } }) :=
  .of_wp fun prog w A R s h => by
    obtain ⟨hp, g, d, tk, os⟩ := s; obtain ⟨h1, h⟩ := h
    have hsub := sub_enumerate
    have q1 : ∀ {A' : Around} {E : Value → Shared → Prop} {Q : Value → Shared → Prop}, Q (.ref hp.objs.size) ⟨hp.push o, g, d, tk, os⟩ → wpAny (model prog w) A' (pyIter v) Q E ⟨hp, g, d, tk, os⟩ :=
      fun q => B.iter prog w _ _ ⟨hp, g, d, tk, os⟩ _ h1 q
    wp_walk using q1
    refine wpAny_stack_any fun st => wpAny_pure ?_
    split
    · rename_i c _ _ _ _ _
      cases (c == Value.type "enumerate")
      · wp_walk using q1
        exact ⟨_, rfl, h⟩
      · wp_walk using q1
        exact ⟨_, rfl, h⟩
    · wp_walk using q1
      exact ⟨_, rfl, h⟩
section
variable {prog : Program} {w : World} {A : Around} {E : Value → Shared → Prop} {s : Shared}
theorem enum_begins1 {v : Value} {o : Obj} {H : Heap → Prop} {Q : Value → Shared → Prop} (B : Begins v o H) (h1 : H s.heap)
    (h : ∀ h', IsEnum h' (s.heap.objs.size + 1) s.heap.objs.size 0 .none → h'.get? s.heap.objs.size = some o → h'.objs.size = s.heap.objs.size + 2 →
      (∀ b o, s.heap.get? b = some o → h'.get? b = some o) → Q (.ref (s.heap.objs.size + 1)) { s with heap := h' }) :
    wpAny (model prog w) A (call (.type "enumerate") [v]) Q E s := by
  refine callType_new F.called_enumerate (by decide) (F.typeCall_enumerate_1 _) (F.newCall_enumerate_1 _) (fun obj => F.args_object_init_2 obj _) F.entry_enumerate_new
    (meets_enumerate_new1 B) ⟨h1, ?_⟩
  have hz : (s.heap.push o).objs.size = s.heap.objs.size + 1 := Heap.size_push ..
  show _ ∧ _
  rw [hz]
  have he : IsEnum ((s.heap.push o).push { cls := .type "enumerate", data := .fields #[.none, .bool false, .ref s.heap.objs.size, rawInt 0, .none, .none] }) (s.heap.objs.size + 1) s.heap.objs.size 0 .none := by
    have := Heap.get?_push_size (s.heap.push o) (o := { cls := .type "enumerate", data := .fields #[.none, .bool false, .ref s.heap.objs.size, rawInt 0, .none, .none] }) rfl
    rw [hz] at this; exact this
  refine ⟨⟨_, he, rfl⟩, h _ he (Heap.get?_push_of_some _ (Heap.get?_push_size _ B.free)) (by rw [Heap.size_push, hz]) fun b o x => Heap.get?_push_of_some _ (Heap.get?_push_of_some _ x)⟩
end
end PySem
namespace RZ
open PySem PySem.Spec PyProof.Rows L2
def IteT (K : PySem.W.Frag) (a : Addr) : It :=
  ⟨fun i H => ∃ (xs : List V) (x : V), SqT K H a xs ∧ xs[i]? = some x, fun i H v H' => ∃ T x, v = .ref T ∧ H T = none ∧ H' = upd H T (.tup [.int (i : Nat), x]) ∧ ∀ xs, SqT K H a xs → xs[i]? = some x, fun i H => ∃ xs : List V, SqT K H a xs ∧ i = xs.length⟩
theorem turn_enumT {P : Program} {w : World} {K : PySem.W.Frag} {elts : List Expr} {kk : Nat} {tpos : Pos} (a e it : Addr) (ai : a ≠ it) (ae : a ≠ e) :
    Turn P w K (.Tuple elts kk tpos) (IteT K a) [e, it] e (fun i h => (∃ old, IsEnum h e it ((i : Nat) : Int) old) ∧ h.IsTupleIter it a i ∧ e ≠ it) where
  mem := by simp
  obj := fun i h st b hb => by
    obtain ⟨⟨old, he⟩, ⟨o, ho, hc, hd⟩, _⟩ := st
    have e' : b = e ∨ b = it := by simpa using hb
    rcases e' with z | z
    · rw [z]; exact ⟨_, he, fun v q => nomatch q⟩
    · rw [z]; exact ⟨o, ho, fun v q => by rw [hd] at q; cases q⟩
  keep := fun i h h' st k => let ⟨⟨old, he⟩, hi, hne⟩ := st; ⟨⟨old, k e (by simp) _ he⟩, hi.at fun o q => k it (by simp) o q, hne⟩
  item := by
    intro X hP hw hK hc i pins s σ H E I hf st hg
    subst hP hw hK
    obtain ⟨⟨old, he⟩, hit, hne⟩ := st
    obtain ⟨xs, x, hq, hx⟩ := hg
    obtain ⟨its, rv, p, _⟩ := I.tuple hq
    obtain ⟨u, hu, ru⟩ := rv.get hx
    have hel : e < s.heap.objs.size := Heap.lt_size he
    have hil : it < s.heap.objs.size := by obtain ⟨_, q, _⟩ := hit; exact Heap.lt_size q
    have L2 : s.heap.IsTuple a its.toArray := p
    have q1 : its.toArray[i]? = some u := by simpa using hu
    have n1 : i < its.toArray.size := by
      obtain ⟨h, _⟩ := Array.getElem?_eq_some_iff.mp q1
      exact h
    refine wpAny_pyNext_enum_itemD (St := fun i h => h.IsTupleIter it a i ∧ h.IsTuple a its.toArray) (Draws.tuple (A := X.A.in1) (show X.A.in1.handled = none from I.ok.hd hc) it a ai its.toArray) he ⟨hit, L2⟩ n1 hne (by simp [hne, Ne.symm ae]) fun v h' tk e1 ho hit' hT hsz hk => ?_
    have ev1 : u = v := Option.some.inj (q1.symm.trans e1)
    subst ev1
    refine ⟨_, rfl, wpAny_letOwnedTupleGo_enum (s := { s with heap := h', toks := tk + 1 }) ho fun h'' he' sb => ?_⟩
    have hT2 : h''.get? s.heap.objs.size = some { cls := .type "tuple", data := .seq #[.int i tk, u] } := (sb.2 _ (Nat.ne_of_gt hel)).trans hT
    have new : ObjOk X.prog X.w (upd H s.heap.objs.size (.tup [.int (i : Nat), x])) h'' s.heap.objs.size (.tup [.int (i : Nat), x]) :=
      ⟨by show 2 ≤ sizeLine; decide, [.int i tk, u], .cons ⟨_, rfl⟩ (.cons ru .nil), ⟨_, hT2, rfl, _, rfl⟩⟩
    have I1 : Inv X pins σ (upd H s.heap.objs.size (.tup [.int (i : Nat), x])) { s with heap := h'', toks := tk + 1 } :=
      I.turnedNew (t' := tk + 1) (ch := [e, it]) (fun b ob hb q => (sb.2 b (fun z => hb (by simp [z]))).trans (hk b ob (fun z => hb (by simp [z])) (fun z => hb (by simp [z])) q)) hf (Nat.le_refl _) new
    refine ⟨.ref s.heap.objs.size, _, I1, rfl, ⟨_, x, rfl, I.hok.fresh (Nat.le_refl _), rfl, fun ys hy => by rw [I.tuple_inj hy hq]; exact hx⟩, ⟨⟨u, ?_⟩, hit'.1.at fun o q => (sb.2 it (Ne.symm hne)).trans q, hne⟩, fun b hb => ?_⟩
    · have e1 : ((i + 1 : Nat) : Int) = (i : Int) + 1 := by omega
      rw [e1]; exact he'
    · have hb' : b < s.heap.objs.size := by
        have e' : b = e ∨ b = it := by simpa using hb
        rcases e' with z | z
        · rw [z]; exact hel
        · rw [z]; exact hil
      rw [upd_ne (Nat.ne_of_lt hb')]
      exact (hf b hb).1
  done := by
    intro X hP hw hK hc i pins s σ H E I hf st hg
    subst hP hw hK
    obtain ⟨⟨old, he⟩, hit, hne⟩ := st
    obtain ⟨xs, hq, hx⟩ := hg
    obtain ⟨its, rv, p, _⟩ := I.tuple hq
    obtain ⟨f0, f1, f2, f3, f4, f5⟩ := hf it (by simp)
    have hl := rv.length
    have L2 : s.heap.IsTuple a its.toArray := p
    have hi : i = its.toArray.size := by rw [List.size_toArray]; omega
    subst hi
    exact wpAny_pyNext_enum_endD (St := fun i h => h.IsTupleIter it a i ∧ h.IsTuple a its.toArray) (Draws.tuple (A := X.A.in1) (show X.A.in1.handled = none from I.ok.hd hc) it a ai its.toArray) he ⟨hit, L2⟩ fun h' eb => ⟨rfl, I.turned (t' := s.toks) (fun b o hb q => eb b o hb q) f0 f1 f3 f4 f5⟩
  self := fun A i s Q E st h => let ⟨⟨_, he⟩, _⟩ := st; wpAny_pyIter_enum he h
def iEnumT (K : PySem.W.Frag) (ta : TA) : TI := fun σ H R => ta σ H fun vs H1 => ∃ a xs, vs = [.ref a] ∧ SqT K H1 a xs ∧ R (IteT K a) H1
theorem pi_enumT {X : Cx} {e : Expr} {ta : TA} {p pos tpos : Pos} {elts : List Expr} {kk : Nat} (hg : Gl X "enumerate") (hm : X.mg "enumerate" = none) (ha : PA X [e] ta) (hs : starEach [e] X.env = [(false, eval e X.env)] := by rfl) :
    PI X (.Tuple elts kk tpos) (.Call (.Name "enumerate" p) [e] [] pos) (iEnumT X.K ta) := by
  refine ⟨fun pins s σ H R I h => ?_⟩
  refine Call_ (ld_blt I hg hm boot_enumerate (PyProof.Rows.callWith_type1 (thn (ha.run pos pins s σ H _ I h) fun us s1 ⟨vs, H1, I1, r1, q1⟩ => ?_) hs rfl))
  obtain ⟨a, xs, ex, hq, q⟩ := q1
  subst ex
  cases r1 with
  | cons r rr =>
    cases rr
    cases r
    obtain ⟨its, rv, p', _⟩ := I1.tuple hq
    obtain ⟨o2, ho2, _⟩ := id p'
    have hlt : a < s1.heap.objs.size := Heap.lt_size ho2
    refine enum_begins1 (begins_tuple a its.toArray) (show s1.heap.IsTuple a its.toArray from p') fun h' he hit hsz hk => wpAny_pyIter_enum he ?_
    have I2 : Inv X pins σ H1 { s1 with heap := h' } := I1.kept (t' := s1.toks) hk
    refine ⟨s1.heap.objs.size + 1, [s1.heap.objs.size + 1, s1.heap.objs.size], _, _, H1, rfl, I2, turn_enumT a (s1.heap.objs.size + 1) s1.heap.objs.size (Nat.ne_of_lt hlt) (Nat.ne_of_lt (Nat.lt_succ_of_lt hlt)), ⟨⟨.none, he⟩, ⟨_, hit, rfl, rfl⟩, Nat.succ_ne_self _⟩, fun b hb => ?_, q⟩
    have e' : b = s1.heap.objs.size + 1 ∨ b = s1.heap.objs.size := by simpa using hb
    have hle : s1.heap.objs.size ≤ b := by
      rcases e' with z | z
      · rw [z]; exact Nat.le_add_right _ _
      · rw [z]; exact Nat.le_refl _
    exact I1.fpOk hle (I1.hok.fresh hle)
theorem walk_enumT {K : PySem.W.Frag} {a : Addr} {xs : List V} : Walk (IteT K a) xs.length (fun H => SqT K H a xs) (YPair (fun i => some (.int (i : Nat))) (fun i => xs[i]?)) := by
  refine ⟨fun i _ hi q => ⟨xs, xs[i], q, by simp [hi]⟩, fun _ q => ⟨xs, q, rfl⟩, fun i H v H' _ q y => ?_⟩
  obtain ⟨T, x, h1, h2, h3, h4⟩ := y
  exact ⟨T, .int (i : Nat), x, h1, h2, h3, rfl, h4 xs q⟩
end RZ
end
section
set_option Elab.async false
set_option linter.all false
set_option maxRecDepth 100000
set_option maxHeartbeats 4000000
/-! L7: the law's webs -/
namespace D1
open PySem L2 Evl RZ ClX PySem.VX
def spLWeb : Sp := fun vs H Q _ => ∃ (m pc pg : Addr) (cs : List Int) (j : Nat) (v : V) (k : RK) (most many : Nat), vs = [.ref m, v, .int (most : Int), .int (many : Int)] ∧ DS m pc pg cs j H ∧ j + 2000 ≤ 100000 ∧ DtAt H v (madeD k) ∧ k.depth < 3 ∧ k.ok ∧ k.clsd = true ∧ 1 ≤ most ∧ most ≤ 12 ∧ many ≤ 80 ∧
  ∀ (x : V) (n : Nat) (ss : List Step) H', RD m pc pg cs (j + 2000) H H' → DtAt H' x (webD n ss) → WebOk k n ss → (∀ s ∈ ss, Sz 140 s.2.2) → n ≤ most → ss.length ≤ many → Q x H'
section
variable {P : Program} {w : World} {K : PySem.W.Frag} {mg : Str → Option Value} {base : Heap}
abbrev s_web : Stmt := top 123
theorem sc_web : FnScope ["_law_draw_here", "_law_made", "_law_most", "_law_many", "_law_states", "_law_shape", "_law_mood", "_law_k", "_law_order", "_law_lifts", "_law_steps", "_law_a", "_law_b"] ["_law_draw_here", "_law_made", "_law_most", "_law_many"] (defScope s_web) := ⟨rfl, rfl, rfl, by decide +kernel, rfl, by decide +kernel, by decide +kernel⟩
theorem ok_web {f : Addr} {fd : FuncData} (F : FnP K "_law_web" s_web f fd) {f_next : Addr} {fd_next : FuncData} (F_next : FnP K "_law_next" s_next f_next fd_next) (g_next : mg "_law_next" = some (.ref f_next)) (G_next : FnOk P w K mg base (CX0) 2 f_next fd_next ["_law_draw_here", "_law_many"] (spNext)) {f_turned : Addr} {fd_turned : FuncData} (F_turned : FnP K "_law_turned" s_turned f_turned fd_turned) (g_turned : mg "_law_turned" = some (.ref f_turned)) (G_turned : FnOk P w K mg base (CX0) 3 f_turned fd_turned ["_law_draw_here", "_law_many"] (spTurned)) {f_weight : Addr} {fd_weight : FuncData} (F_weight : FnP K "_law_weight" s_weight f_weight fd_weight) (g_weight : mg "_law_weight" = some (.ref f_weight)) (G_weight : FnOk P w K mg base (CX0) 7 f_weight fd_weight ["_law_draw_here", "_law_made", "_law_mood", "_law_lift"] (spLWeight 3)) (z_list : mg "list" = none) (z_range : mg "range" = none) (z_len : mg "len" = none) (z_tuple : mg "tuple" = none) (z_min : mg "min" = none) (z_max : mg "max" = none) : FnOk P w K mg base (CX0) 8 f fd ["_law_draw_here", "_law_made", "_law_most", "_law_many"] (spLWeb) := by
  have b_next : Binds K fd_next ["_law_draw_here", "_law_many"] [] := F_next.bindsN fun _ _ _ _ _ _ us hl => match us, hl with | [_, _], _ => rfl
  have b_turned : Binds K fd_turned ["_law_draw_here", "_law_many"] [] := F_turned.bindsN fun _ _ _ _ _ _ us hl => match us, hl with | [_, _], _ => rfl
  have b_weight : Binds K fd_weight ["_law_draw_here", "_law_made", "_law_mood", "_law_lift"] [] := F_weight.bindsN fun _ _ _ _ _ _ us hl => match us, hl with | [_, _, _, _], _ => rfl
  refine F.ok (CX := CX0) sc_web (fun vs H Q E h => ?_) (fun cdv A outer s H vs Q E hr h => ?_)
  · obtain ⟨m, pc, pg, cs, j, v, k, most, many, rfl, _⟩ := h
    rfl
  · obtain ⟨m, pc, pg, cs, j, v, k, most, many, rfl, hD, hj, hM, hn, ok, kc, mo1, mo2, ma, q⟩ := h
    have hu := hu_of hr
    have hu64 := hr.units
    have hr_next := hr.mono (by decide : 2 ≤ 7)
    have hr_turned := hr.mono (by decide : 3 ≤ 7)
    have hr_weight := hr.mono (by decide : 7 ≤ 7)
    refine ⟨_, PSs.nox (pss_cons (ps_par3 (i := 4) (j := 5) (l := 6) (by rfl) sc_web.nd rfl rfl rfl (by decide) (by decide) (by decide) rfl rfl rfl (pa_cons (pe_op op_add pe_int (pe_call G_next hr_next rfl g_next F_next.kp b_next .nil pass0 (pa_cons (pv 0) (pa_cons (pv 2) pa_nil)))) (pa_cons (pe_call G_next hr_next rfl g_next F_next.kp b_next .nil pass0 (pa_cons (pv 0) (pa_cons pe_int pa_nil))) (pa_cons (pe_call G_next hr_next rfl g_next F_next.kp b_next .nil pass0 (pa_cons (pv 0) (pa_cons pe_int pa_nil))) pa_nil))) (by rfl))
      (pss_cons (ps_par (i := 8) (j := 9) (by rfl) sc_web.nd rfl rfl (by decide) rfl rfl (pa_cons (pe_call G_turned hr_turned rfl g_turned F_turned.kp b_turned .nil pass0 (pa_cons (pv 0) (pa_cons (pv 4) pa_nil))) (pa_cons (pe_lc (own := [("_law_k", 7)]) (g := gName 7) (tt := tYes) (by rfl) sc_web.nd (pi_range1 rfl z_range (pa_cons (pv 4) pa_nil)) (blkOk_by (own := [("_law_k", 7)]) (N := ["_law_draw_here", "_law_made", "_law_most", "_law_many", "_law_states", "_law_shape", "_law_mood", "_law_k", "_law_order", "_law_lifts", "_law_steps", "_law_a", "_law_b"]) (sc := defScope s_web) (by decide +kernel)) (fun _ _ _ _ _ => pg_name (i := 7) sc_web.nd rfl (Or.inl rfl)) (fun _ _ _ _ _ => pts_nil) (fun _ _ _ _ _ => pe_call G_next hr_next rfl g_next F_next.kp b_next .nil pass0 (pa_cons (pv 0) (pa_cons pe_int pa_nil)))) pa_nil)) (by rfl))
      (pss_cons (ps_set (i := 10) sc_web.nd rfl (Or.inl rfl) (pe_lst pa_nil))
      (pss_cons (ps_for PassesOwn.never rfl (pi_range1 rfl z_range (pa_cons (pe_call G_next hr_next rfl g_next F_next.kp b_next .nil pass0 (pa_cons (pv 0) (pa_cons (pe_op op_add (pv 3) pe_int) pa_nil))) pa_nil)) (pg_name (i := 7) sc_web.nd rfl (Or.inl rfl)) (pss_cons (ps_par (i := 11) (j := 12) (by rfl) sc_web.nd rfl rfl (by decide) rfl rfl (pa_cons (pe_call G_next hr_next rfl g_next F_next.kp b_next .nil pass0 (pa_cons (pv 0) (pa_cons (pv 4) pa_nil))) (pa_cons (pe_call G_next hr_next rfl g_next F_next.kp b_next .nil pass0 (pa_cons (pv 0) (pa_cons (pv 4) pa_nil))) pa_nil)) (by rfl))
      (pss_cons (ps_if (pt_cmpR op_gt (pv 5) pe_int (nomark _)) (pss_one (ps_asg (pe_ifExp (PW.pt (pw_and (pt_cmpR op_eq (pv 5) pe_int (nomark _)) (pw_and1 (pt_cmpR op_eq (pv 7) pe_int (nomark _))))) (pe_tup (pa_cons (pe_callB (call_max2 rfl) (by rfl) z_max PyProof.Rows.boot_max (pa_cons (pv 11) (pa_cons (pv 12) pa_nil))) (pa_cons (pe_callB (call_min2 rfl) (by rfl) z_min PyProof.Rows.boot_min (pa_cons (pv 11) (pa_cons (pv 12) pa_nil))) pa_nil))) (pe_tup (pa_cons (pe_callB (call_min2 rfl) (by rfl) z_min PyProof.Rows.boot_min (pa_cons (pv 11) (pa_cons (pv 12) pa_nil))) (pa_cons (pe_callB (call_max2 rfl) (by rfl) z_max PyProof.Rows.boot_max (pa_cons (pv 11) (pa_cons (pv 12) pa_nil))) pa_nil)))) (pg_tup rfl (pgs_cons (pg_name (i := 11) sc_web.nd rfl (Or.inl rfl)) (pgs_cons (pg_name (i := 12) sc_web.nd rfl (Or.inl rfl)) pgs_nil))))) pss_nil)
      (pss_one (ps_if (PW.pt (pw_or (pt_cmpR op_eq (pv 5) pe_int (nomark _)) (pw_or1 (pt_cmpR op_ne (pv 11) (pv 12) (nomark _))))) (pss_one (ps_expr (pe_bm PySem.F.plainAttrs_list PySem.F.slot_list_append PySem.F.type_list_append mt_append (pv 10) (pa_cons (pe_tup (pa_cons (pe_ix ix_list (pv 8) (pv 11) (fun _ _ => rfl)) (pa_cons (pe_ix ix_list (pv 8) (pv 12) (fun _ _ => rfl)) (pa_cons (pe_call G_weight hr_weight rfl g_weight F_weight.kp b_weight .nil pass0 (pa_cons (pv 0) (pa_cons (pv 1) (pa_cons (pv 6) (pa_cons (pe_op op_sub (pe_ix ix_list (pv 9) (pv 12) (fun _ _ => rfl)) (pe_ix ix_list (pv 9) (pv 11) (fun _ _ => rfl))) pa_nil))))) pa_nil)))) pa_nil)))) pss_nil)))))
      (pss_one (ps_ret (pe_tup (pa_cons (pv 4) (pa_cons (pe_tupleOf rfl z_tuple (pv 10)) pa_nil))))))))), ?_⟩
    refine par3_step ⟨_, rfl, _, rfl, m, pc, pg, cs, j, (most : Int), rfl, hD, by omega, by omega, small_log (by omega), fun x1 H1 x10 x11 r1 => ⟨1, x1, rfl, rfl, ?_⟩⟩
    refine ⟨_, rfl, m, pc, pg, cs, j + 1, 3, rfl, r1.inv, by omega, by decide, by decide, fun shape H2 s0 s1 r2 => ?_⟩
    refine ⟨_, rfl, m, pc, pg, cs, j + 1 + 1, 4, rfl, r2.inv, by omega, by decide, by decide, fun mood H3 m0 m1 r3 => ⟨_, _, _, rfl, ?_⟩⟩
    obtain ⟨n0, rfl⟩ : ∃ n0 : Nat, x1 = (n0 : Int) := ⟨x1.toNat, by omega⟩
    obtain ⟨n, hn'⟩ : ∃ n : Nat, n = n0 + 1 := ⟨_, rfl⟩
    have hnc : (1 : Int) + (n0 : Int) = (n : Int) := by omega
    have rA : RD m pc pg cs (j + 3) H H3 := (r1.then r2).then r3
    change tSeq _ _ _ [some (.ref m), some v, some (.int (most : Int)), some (.int (many : Int)), some (.int ((1 : Int) + (n0 : Int))), some (.int shape), some (.int mood), none, none, none, none, none, none] H3
    rw [hnc]
    refine par_step ⟨_, rfl, _, rfl, m, pc, pg, cs, j + 3, n, rfl, rA.inv, by omega, by omega, fun Do os H4 hDo ho1 ho2 ho3 hoP r4 => ?_⟩
    have rB : RD m pc pg cs (j + 3 + n) H H4 := rA.then r4
    refine lc_ints (P := fun z => 0 ≤ z ∧ z < 90) (n := n) (fun i G => RD m pc pg cs (j + 3 + n + i) H4 G ∧ True) (by omega) (ea_cons (ev_var rfl) ea_nil) (fun G e => ⟨.ofEx rB.inv e, True.intro⟩) (fun i D o G hDn hI => ⟨hI.1.set rB.inv hDn, True.intro⟩) (fun _ => rfl) (fun i G hi hI Q' k' => ?_) (fun Dl ls H5 hDl hl1 hl2 hl3 hI => ⟨_, _, rfl, ?_⟩)
    · refine ⟨_, rfl, m, pc, pg, cs, j + 3 + n + i, 90, rfl, hI.1.inv, by omega, by decide, by decide, fun x G2 x0 x1 r2 => k' _ _ ⟨x, rfl, ⟨x0, x1⟩, ⟨hI.1.then r2, True.intro⟩, fun D xs hDn hG => ?_⟩⟩
      obtain ⟨d1, d2⟩ := DS.fresh rB.inv hDn
      exact r2.stay d1 d2 hG
    have rC : RD m pc pg cs (j + 3 + n + n) H H5 := rB.then hI.1
    refine asg_step ⟨Nat.zero_le _, fun Ds hDs => ?_⟩
    have hDs0 : H Ds = none := RD.back (i := 0) rC hDs
    obtain ⟨s1', s2'⟩ := DS.fresh hD hDs0
    have rD0 : RD m pc pg cs (j + 3 + n + n) H (upd H5 Ds (.lst [])) := rC.then (.ofEx rC.inv (Ex.new hDs))
    have hDo0 : H Do = none := RD.back (i := 0) rA hDo
    have hDl0 : H Dl = none := RD.back (i := 0) rB hDl
    obtain ⟨o1', o2'⟩ := DS.fresh hD hDo0
    obtain ⟨l1', l2'⟩ := DS.fresh hD hDl0
    have hDo5 : H5 Do = some (.lst (os.map V.int)) := hI.1.stay o1' o2' ho1
    have sDo : Do ≠ Ds := ne_of_none hDo5 hDs
    have sDl : Dl ≠ Ds := ne_of_none hl1 hDs
    have hDo6 : (upd H5 Ds (.lst [])) Do = some (.lst (os.map V.int)) := by rw [upd_ne sDo]; exact hDo5
    have hDl6 : (upd H5 Ds (.lst [])) Dl = some (.lst (ls.map V.int)) := by rw [upd_ne sDl]; exact hl1
    refine ⟨_, rfl, _, rfl, _, _, rfl, rfl, m, pc, pg, cs, j + 3 + n + n, (many : Int) + 1, rfl, rD0.inv, by omega, by omega, small_log (by omega), fun cnt H7 c0 c1 r7 => ⟨cnt, rfl, by omega, by omega, ?_⟩⟩
    have rE : RD m pc pg cs (j + 3 + n + n + 1) H H7 := rD0.then r7
    obtain ⟨jb, hjb⟩ : ∃ jb, jb = j + 3 + n + n + 1 := ⟨_, rfl⟩
    rw [← hjb] at rE
    refine for_it (walk_range (lo := 0) (n := cnt.toNat)) (fun i σ' G => ∃ x7 x11 x12, σ' = [some (.ref m), some v, some (.int (most : Int)), some (.int (many : Int)), some (.int (n : Int)), some (.int shape), some (.int mood), x7, some (.ref Do), some (.ref Dl), some (.ref Ds), x11, x12] ∧ RD m pc pg cs (jb + i * 20) H G ∧ G Do = some (.lst (os.map V.int)) ∧ G Dl = some (.lst (ls.map V.int)) ∧ ∃ us ss, G Ds = some (.lst us) ∧ DtAll G us (List.map stepD ss) ∧ ss.length ≤ i ∧ ∀ s ∈ ss, s.1 < n ∧ s.2.1 < n ∧ goodB k s.2.2 = true ∧ Sz 140 s.2.2)
      ⟨_, _, _, rfl, rE.up (by omega), r7.stay o1' o2' hDo6, r7.stay l1' l2' hDl6, [], [], r7.stay s1' s2' upd_same, .nil, Nat.zero_le _, fun s hs => by cases hs⟩ (fun _ _ _ _ _ => True.intro) ?_ ?_
    · rintro i x σ' _ G hi ⟨x7, x11, x12, rfl, rG, g1, g2, us, ss, g3, g4, g5, g6⟩ ⟨rfl, rfl⟩
      have hi80 : i < 81 := by omega
      refine par_step ⟨_, rfl, _, rfl, m, pc, pg, cs, jb + i * 20, (n : Int), rfl, rG.inv, by omega, by omega, small_log (by omega), fun a G1 a0 a1 ra => ⟨_, rfl, _, rfl, m, pc, pg, cs, jb + i * 20 + 1, (n : Int), rfl, ra.inv, by omega, by omega, small_log (by omega), fun b G2 b0 b1 rb => ⟨_, _, rfl, ?_⟩⟩⟩
      obtain ⟨a, rfl⟩ : ∃ a' : Nat, a = (a' : Int) := ⟨a.toNat, by omega⟩
      obtain ⟨b, rfl⟩ : ∃ b' : Nat, b = (b' : Int) := ⟨b.toNat, by omega⟩
      have rF : RD m pc pg cs (jb + i * 20 + 2) H G2 := (rG.then ra).then rb
      have rGF := ra.then rb
      refine q_ifS (b := decide (0 < shape)) (fun σ2 G3 => ∃ a' b' : Nat, σ2 = [some (.ref m), some v, some (.int (most : Int)), some (.int (many : Int)), some (.int (n : Int)), some (.int shape), some (.int mood), some (.int ((0 : Int) + (i : Int))), some (.ref Do), some (.ref Dl), some (.ref Ds), some (.int (a' : Int)), some (.int (b' : Int))] ∧ a' < n ∧ b' < n ∧ Ex G2 G3) (et_test (ev_gtI (ev_var rfl) ev_c)) (fun hb G3 e3 D' k' => ?_) (fun hb G3 e3 => ⟨a, b, rfl, by omega, by omega, e3⟩) ?_
      · obtain ⟨mx, hmx, lmx⟩ : ∃ mx : Nat, (if (b : Int) > (a : Int) then (b : Int) else (a : Int)) = (mx : Int) ∧ mx < n := by split <;> exact ⟨_, rfl, by omega⟩
        obtain ⟨mn, hmn, lmn⟩ : ∃ mn : Nat, (if (b : Int) < (a : Int) then (b : Int) else (a : Int)) = (mn : Int) ∧ mn < n := by split <;> exact ⟨_, rfl, by omega⟩
        refine asg_if (b := (shape == 2) && ((0 : Int) + (i : Int) == 1)) (et_and (et_test (ev_eqI (ev_var rfl) ev_c)) fun _ => et_test (ev_eqI (ev_var rfl) ev_c)) (fun hb G4 e4 => ?_) (fun hb G4 e4 => ?_)
        · refine asg_tup2 (eu_tup (ea_cons (ev_is (ev_cb (ea_cons (ev_var rfl) (ea_cons (ev_var rfl) ea_nil)) fun H8 e8 Q' q' => ⟨_, _, rfl, q' H8 (Ex.refl H8)⟩) (congrArg V.int hmx)) (ea_cons (ev_is (ev_cb (ea_cons (ev_var rfl) (ea_cons (ev_var rfl) ea_nil)) fun H8 e8 Q' q' => ⟨_, _, rfl, q' H8 (Ex.refl H8)⟩) (congrArg V.int hmn)) ea_nil)) (by show 2 ≤ 100000; decide)) fun G5 e5 => k' _ _ ⟨_, _, rfl, lmx, lmn, (e3.trans e4).trans e5⟩
        · refine asg_tup2 (eu_tup (ea_cons (ev_is (ev_cb (ea_cons (ev_var rfl) (ea_cons (ev_var rfl) ea_nil)) fun H8 e8 Q' q' => ⟨_, _, rfl, q' H8 (Ex.refl H8)⟩) (congrArg V.int hmn)) (ea_cons (ev_is (ev_cb (ea_cons (ev_var rfl) (ea_cons (ev_var rfl) ea_nil)) fun H8 e8 Q' q' => ⟨_, _, rfl, q' H8 (Ex.refl H8)⟩) (congrArg V.int hmx)) ea_nil)) (by show 2 ≤ 100000; decide)) fun G5 e5 => k' _ _ ⟨_, _, rfl, lmn, lmx, (e3.trans e4).trans e5⟩
      rintro σ2 G3 ⟨a', b', rfl, ha', hb', e3⟩
      have rH : RD m pc pg cs (jb + i * 20 + 2) H G3 := rF.then (.ofEx rF.inv e3)
      have rGH : RD m pc pg cs (jb + i * 20 + 2) G G3 := rGF.then (.ofEx rF.inv e3)
      refine s_when (b := (shape == 0) || !((a' : Int) == (b' : Int))) (et_or (et_test (ev_eqI (ev_var rfl) ev_c)) fun _ => et_test (ev_neI (ev_var rfl) (ev_var rfl))) (fun hb G4 e4 => ?_) (fun hb G4 e4 => ?_)
      · have rI : RD m pc pg cs (jb + i * 20 + 2) H G4 := rH.then (.ofEx rH.inv e4)
        have rGI : RD m pc pg cs (jb + i * 20 + 2) G G4 := rGH.then (.ofEx rH.inv e4)
        have kpI : Kp G G4 := rGI.kp rG.inv
        have g1' := rGI.stay o1' o2' g1
        have g2' := rGI.stay l1' l2' g2
        have g3' := rGI.stay s1' s2' g3
        obtain ⟨z1, at1, z1b⟩ := ints_at ho2 ho3 ha'
        obtain ⟨z2, at2, z2b⟩ := ints_at ho2 ho3 hb'
        obtain ⟨y1, bt1, y1b⟩ := ints_at hl2 hl3 ha'
        obtain ⟨y2, bt2, y2b⟩ := ints_at hl2 hl3 hb'
        have cw := costW_le k
        have cw2 : costW k ≤ 12 := by
          have h3 := Nat.pow_le_pow_right (n := 2) (by decide) (by omega : k.depth ≤ 2)
          omega
        refine ⟨_, rfl, .inl ⟨rfl, _, sq_of g3'⟩, _, rfl, _, rfl, Do, _, (a' : Int), .int (z1 : Int), rfl, rfl, sq_of g1', at1, _, rfl, _, rfl, Do, _, (b' : Int), .int (z2 : Int), rfl, rfl, sq_of g1', at2, _, rfl, _, rfl, _, rfl, _, rfl, _, rfl, Dl, _, (b' : Int), .int (y2 : Int), rfl, rfl, sq_of g2', bt2, _, rfl, _, rfl, Dl, _, (a' : Int), .int (y1 : Int), rfl, rfl, sq_of g2', bt1, _, _, rfl, rfl, ?_⟩
        refine ⟨m, pc, pg, cs, jb + i * 20 + 2, v, k, mood, (y2 : Int) - (y1 : Int), rfl, rI.inv, by omega, hM.kp (rI.kp hD), hn, ok, kc, m0, m1, by omega, by omega, fun xw dw G5 rw hxw gw sw => ⟨by show 3 ≤ sizeLine; decide, fun l hl => ?_⟩⟩
        have rJ : RD m pc pg cs (jb + i * 20 + 2 + costW k) H G5 := rI.then rw
        have rGJ : RD m pc pg cs (jb + i * 20 + 2 + costW k) G G5 := rGI.then rw
        have g1'' := rw.stay o1' o2' g1'
        have g2'' := rw.stay l1' l2' g2'
        have g3'' := rw.stay s1' s2' g3'
        have hl' := Ex.new (o := .tup [.int (z1 : Int), .int (z2 : Int), xw]) hl
        refine ⟨Ds, us, .ref l, rfl, rfl, hl' _ _ g3'', ?_, ?_⟩
        · have := DtAll.len g4
          rw [List.length_map] at this
          rw [this]
          exact Nat.lt_of_le_of_lt g5 (Nat.lt_of_lt_of_le hi80 (by decide))
        have kp2 : Kp G5 (upd (upd G5 l (.tup [.int (z1 : Int), .int (z2 : Int), xw])) Ds (.lst (us ++ [.ref l]))) := (Kp.ex hl').trans (Kp.lst (hl' _ _ g3''))
        refine ⟨_, _, _, rfl, RD.up (RD.set (rJ.then (.ofEx rJ.inv hl')) hD hDs0) (by rw [Nat.succ_mul]; omega), by rw [upd_ne sDo]; exact hl' _ _ g1'', by rw [upd_ne sDl]; exact hl' _ _ g2'', us ++ [.ref l], ss ++ [(z1, z2, dw)], upd_same, ?_, by rw [List.length_append]; exact Nat.succ_le_succ g5, fun s hs => ?_⟩
        · rw [List.map_append]
          refine DtAll.append ((g4.kp (rGJ.kp rG.inv)).kp kp2) (.cons ?_ .nil)
          have : l ≠ Ds := fun z => by rw [z, g3''] at hl; cases hl
          exact .tup (by rw [upd_ne this]; exact upd_same) (.cons (.int _) (.cons (.int _) (.cons (hxw.kp kp2) .nil)))
        · rcases List.mem_append.mp hs with h | h
          · exact g6 s h
          · rw [List.mem_singleton] at h
            rw [h]
            exact ⟨(by omega : z1 < n), (by omega : z2 < n), gw, sw⟩
      · have rI : RD m pc pg cs (jb + i * 20 + 2) H G4 := rH.then (.ofEx rH.inv e4)
        have rGI : RD m pc pg cs (jb + i * 20 + 2) G G4 := rGH.then (.ofEx rH.inv e4)
        exact ⟨_, _, _, rfl, RD.up rI (by rw [Nat.succ_mul]; omega), rGI.stay o1' o2' g1, rGI.stay l1' l2' g2, us, ss, rGI.stay s1' s2' g3, g4.kp (rGI.kp rG.inv), by omega, g6⟩
    · rintro σ' G ⟨x7, x11, x12, rfl, rG, g1, g2, us, ss, g3, g4, g5, g6⟩
      refine ⟨_, rfl, _, rfl, .inl ⟨Ds, us, rfl, sq_of g3, fun t ht => ⟨by show 2 ≤ sizeLine; decide, fun l hl => ?_⟩⟩⟩
      have e1 := Ex.new (o := .tup us) ht
      have e2 := Ex.new (o := .tup [.int (n : Int), .ref t]) hl
      have hc : cnt.toNat * 20 ≤ 80 * 20 := Nat.mul_le_mul_right _ (by omega)
      refine q _ n ss _ (RD.up (rG.then (.ofEx rG.inv (e1.trans e2))) (by omega)) (.new hl (.cons (.int _) (.cons (.new ht g4) .nil))) ⟨by omega, by omega, by omega, fun s hs => ⟨(g6 s hs).1, (g6 s hs).2.1, (g6 s hs).2.2.1⟩⟩ (fun s hs => (g6 s hs).2.2.2) (by omega) (by omega)
end
end D1
end
section
set_option Elab.async false
set_option linter.all false
set_option maxRecDepth 100000
set_option maxHeartbeats 4000000
/-! R7p: Rings' methods; webs and their paths -/
namespace D1
open PySem L2 Evl RZ ClX PySem.VX
/-- what the written part says of Ring -/
structure RingF (K : PySem.W.Frag) (CR : Addr) : Prop where
  ok : OkC K CR
  hcl : PySem.W.findIn K (.ref CR) "__class__" = some (some (.builtin "object.__class__"))
  hgn : PySem.W.specialIn K (.builtin "object.__class__") "__get__" = some (some (.builtin "getset_descriptor.__get__"))
  htk : PySem.W.takesIn K (.builtin "object.__class__") = some true
  hmo : PySem.W.mroIn K CR (.type "object") = some true
  rr : PySem.W.kitOne K (.ref CR) (.ref CR) = some true
theorem RingAt.ty {K : PySem.W.Frag} {C : KC} {CR : Addr} {H : Hp} {v : V} {k : RK} (T : RingF K CR) (h : RingAt C CR H v k) : ∀ H1, Ex H H1 → TyX K H1 v (.ref CR) := fun H1 e => by
  obtain ⟨r, dr, fr, m, x, rfl, h2, _⟩ := h
  exact .base (.ins (e _ _ h2) T.ok.cls T.hcl T.hgn T.htk T.hmo)
theorem RingAt.no {C : KC} {CR : Addr} {H : Hp} {v : V} {k : RK} (h : RingAt C CR H v k) {m : Str} (hm : m ∉ fields) : ∃ r dr fr, v = .ref r ∧ H r = some (.ins CR dr fr) ∧ fr.lookup m = none := by
  obtain ⟨r, dr, fr, _, x, rfl, h2, h3, h4, h5, h6, h7⟩ := h
  exact ⟨r, dr, fr, rfl, h2, h7 m hm⟩
def spRClosed (C : KC) (CR : Addr) : Sp := fun vs H Q _ => ∃ (s : V) (k : RK), vs = [s] ∧ RingAt C CR H s k ∧ k.depth < 4 ∧ ∀ H', Ex H H' → Q (.bl k.clsd) H'
def spRGood (C : KC) (CR : Addr) : Sp := fun vs H Q _ => ∃ (s : V) (k : RK) (x : V) (dx : PyData), vs = [s, x] ∧ RingAt C CR H s k ∧ k.depth < 4 ∧ k.free = true ∧ OdAt Any H x dx ∧ ∀ H', Ex H H' → Q (.bl (goodB k dx)) H'
def spIsPath (K : PySem.W.Frag) : Sp := fun vs H Q _ => ∃ (a : Addr) (us : List V) (ss : List Step) (v : V) (l : Line), vs = [.ref a, v] ∧ H a = some (.tup us) ∧ DtAll H us (ss.map stepD) ∧ PathAt K H v l ∧ ∀ H', Ex H H' → Q (.bl (isPathB ss l)) H'
section
variable {P : Program} {w : World} {K : PySem.W.Frag} {mg : Str → Option Value} {base : Heap}
abbrev s_Ring_is_closed : Stmt := meth 49 5
theorem sc_Ring_is_closed : FnScope ["self"] ["self"] (defScope s_Ring_is_closed) := ⟨rfl, rfl, rfl, by decide +kernel, rfl, by decide +kernel, by decide +kernel⟩
theorem ok_Ring_is_closed {f : Addr} {fd : FuncData} (F : FnM K "Ring" "is_closed" s_Ring_is_closed f fd) {C : KC} {CR : Addr} (T : RingF K CR) (HA : ∀ e sp, SK C (spClosed C 4) e = some sp → HeldM P w K mg base (5) "closed" e sp) : FnOk P w K mg base (CX0) 6 f fd ["self"] (spRClosed C CR) := by
  refine F.ok (CX := CX0) sc_Ring_is_closed (fun vs H Q E h => ?_) (fun cdv A outer s H vs Q E hr h => ?_)
  · obtain ⟨s, k, rfl, _⟩ := h
    rfl
  · obtain ⟨s, k, rfl, hR, hd, q⟩ := h
    have hu := hu_of hr
    have hu64 := hr.units
    have hr_in := hr.mono (Nat.le_refl _)
    refine ⟨_, PSs.nox (pss_one (ps_ret (pe_methA0 (S := SK C (spClosed C 4)) HA (pe_fld (pv 0) rfl) hr_in))), ?_⟩
    obtain ⟨r, dr, fr, m, x, rfl, h2, h3, h4, h5, h6, h7⟩ := hR
    obtain ⟨la, ld, lf, rfl, hla, lcom⟩ := id h6.com
    exact ⟨_, rfl, r, _, dr, fr, _, rfl, h2, T.ok.cls, T.ok.no _ (by decide), h5, la, _, ld, lf, _, rfl, SK.at k, hla, lcom.no _ (by decide), .ref la, k, rfl, h6, rfl, hd, fun H2 e2 => q H2 e2⟩
abbrev s_Ring_good : Stmt := meth 49 7
theorem sc_Ring_good : FnScope ["self", "thing"] ["self", "thing"] (defScope s_Ring_good) := ⟨rfl, rfl, rfl, by decide +kernel, rfl, by decide +kernel, by decide +kernel⟩
theorem ok_Ring_good {f : Addr} {fd : FuncData} (F : FnM K "Ring" "good" s_Ring_good f fd) {C : KC} {CR : Addr} (T : RingF K CR) (HA : ∀ e sp, SK C (spGood C 4) e = some sp → HeldM P w K mg base (6) "good" e sp) : FnOk P w K mg base (CX0) 7 f fd ["self", "thing"] (spRGood C CR) := by
  refine F.ok (CX := CX0) sc_Ring_good (fun vs H Q E h => ?_) (fun cdv A outer s H vs Q E hr h => ?_)
  · obtain ⟨s, k, x, dx, rfl, _⟩ := h
    rfl
  · obtain ⟨s, k, x, dx, rfl, hR, hd, hf, hx, q⟩ := h
    have hu := hu_of hr
    have hu64 := hr.units
    have hr_in := hr.mono (Nat.le_refl _)
    refine ⟨_, PSs.nox (pss_one (ps_ret (pe_methA (S := SK C (spGood C 4)) HA (pe_fld (pv 0) rfl) hr_in (pa_cons (pv 1) pa_nil)))), ?_⟩
    obtain ⟨r, dr, fr, m, x', rfl, h2, h3, h4, h5, h6, h7⟩ := hR
    obtain ⟨la, ld, lf, rfl, hla, lcom⟩ := id h6.com
    exact ⟨_, rfl, r, _, dr, fr, _, rfl, h2, T.ok.cls, T.ok.no _ (by decide), h5, la, _, ld, lf, _, rfl, SK.at k, hla, lcom.no _ (by decide), _, rfl, .ref la, k, x, dx, rfl, h6, rfl, hd, hf, hx, fun H2 e2 => q H2 e2⟩
abbrev s_is_path : Stmt := top 59
theorem sc_is_path : FnScope ["steps", "path", "number", "follower"] ["steps", "path"] (defScope s_is_path) := ⟨rfl, rfl, rfl, by decide +kernel, rfl, by decide +kernel, by decide +kernel⟩
theorem ok_is_path {f : Addr} {fd : FuncData} (F : FnP K "is_path" s_is_path f fd) {f_is_whole : Addr} {fd_is_whole : FuncData} (F_is_whole : FnP K "is_whole" s_is_whole f_is_whole fd_is_whole) (g_is_whole : mg "is_whole" = some (.ref f_is_whole)) (G_is_whole : FnOk P w K mg base (CX0) 2 f_is_whole fd_is_whole ["thing", "least", "most"] (spWhole K)) (z_isinstance : mg "isinstance" = none) (z_tuple : mg "tuple" = none) (z_list : mg "list" = none) (z_len : mg "len" = none) (z_all : mg "all" = none) (z_zip : mg "zip" = none) : FnOk P w K mg base (CX0) 3 f fd ["steps", "path"] (spIsPath K) := by
  have b_is_whole : Binds K fd_is_whole ["thing", "least", "most"] [] := F_is_whole.bindsN fun _ _ _ _ _ _ us hl => match us, hl with | [_, _, _], _ => rfl
  refine F.ok (CX := CX0) sc_is_path (fun vs H Q E h => ?_) (fun cdv A outer s H vs Q E hr h => ?_)
  · obtain ⟨a, us, ss, v, l, rfl, _⟩ := h
    rfl
  · obtain ⟨a, us, ss, v, l, rfl, ha, hus, hP, q⟩ := h
    have hu := hu_of hr
    have hu64 := hr.units
    have hr_is_whole := hr.mono (by decide : 2 ≤ 2)
    refine ⟨_, PSs.nox (pss_cons (ps_if (pt_not (pt_val (pe_callB call_isiT (by rfl) z_isinstance PyProof.Rows.boot_isinstance (pa_cons (pv 1) (pa_cons (pe_tup (pa_cons (pe_bltn (v := .ty "list") rfl z_list (by decide +kernel) rfl) (pa_cons (pe_bltn (v := .ty "tuple") rfl z_tuple (by decide +kernel) rfl) pa_nil))) pa_nil))))) (pss_one (ps_ret pe_bl)) pss_nil)
      (pss_cons (ps_if (pt_not (pt_val (pe_callB (cr_all rfl) (by rfl) z_all PyProof.Rows.boot_all (pa_cons (pe_lc (own := [("number", 2)]) (g := gName 2) (tt := tYes) (te := tCall (spWhole K) [] E0 (tCons (tVar 2) (tCons (tC (.int 0)) (tCons (tOp (rI0 fun i j => .int (i - j)) (tCB (rLenQ K) (tCons (tVar 0) tNil)) (tC (.int 1))) tNil)))) (by rfl) sc_is_path.nd (pi_seq (pv 1)) (blkOk_by (own := [("number", 2)]) (N := ["steps", "path", "number", "follower"]) (sc := defScope s_is_path) (by decide +kernel)) (fun _ _ _ _ _ => pg_name (i := 2) sc_is_path.nd rfl (Or.inl rfl)) (fun _ _ _ _ _ => pts_nil) (fun _ _ _ _ _ => pe_call G_is_whole hr_is_whole rfl g_is_whole F_is_whole.kp b_is_whole .nil pass0 (pa_cons (pv 2) (pa_cons pe_int (pa_cons (pe_op op_sub (pe_callB call_len_seq (by rfl) z_len PySem.boot_len (pa_cons (pv 0) pa_nil)) pe_int) pa_nil))))) pa_nil)))) (pss_one (ps_ret pe_bl)) pss_nil)
      (pss_one (ps_ret (pe_callB (cr_all rfl) (by rfl) z_all PyProof.Rows.boot_all (pa_cons (pe_lc (own := [("number", 2), ("follower", 3)]) (g := gTup K 2 (gCons (gName 2) (gCons (gName 3) gNil))) (tt := tYes) (te := tOp rEq (tOp (rIxT K) (tOp (rIxT K) (tVar 0) (tVar 2)) (tC (.int 1))) (tOp (rIxT K) (tOp (rIxT K) (tVar 0) (tVar 3)) (tC (.int 0)))) (by rfl) sc_is_path.nd (pi_zipA (by rfl) z_zip (pa_cons (pv 1) (pa_cons (pe_slice sl_seq (pv 1) (po_some pe_int) po_none) pa_nil))) (blkOk_by (own := [("number", 2), ("follower", 3)]) (N := ["steps", "path", "number", "follower"]) (sc := defScope s_is_path) (by decide +kernel)) (fun _ _ _ _ _ => pg_tup rfl (pgs_cons (pg_name (i := 2) sc_is_path.nd rfl (Or.inl rfl)) (pgs_cons (pg_name (i := 3) sc_is_path.nd rfl (Or.inl rfl)) pgs_nil))) (fun _ _ _ _ _ => pts_nil) (fun _ _ _ _ _ => pe_cmpR op_eq (pe_ix ix_tup (pe_ix ix_tup (pv 0) (pv 2) (fun _ _ => rfl)) pe_int (fun _ _ => rfl)) (pe_ix ix_tup (pe_ix ix_tup (pv 0) (pv 3) (fun _ _ => rfl)) pe_int (fun _ _ => rfl)) (nomark _))) pa_nil)))))), ?_⟩
    have hU : SqT K H a us := .inl (.inl ha)
    have hlen : us.length = ss.length := by rw [DtAll.len hus, List.length_map]
    cases l with
    | none =>
      obtain ⟨b1, b2, b3, t⟩ := hP
      exact q_when (b := true) (et_is (et_not (et_B (ev_tLT (ev_var rfl) t))) rfl) (fun _ H1 e1 => s_ret ev_c fun H2 e2 => q H2 (e1.trans e2)) (fun hb => (by cases hb))
    | some os =>
      obtain ⟨p, qq, xs, rfl, hp, hN, hz⟩ := hP
      have hxl := hN.len
      refine q_when (b := false) (et_is (et_not (a := true) (et_B (ev_is (ev_tLT (ev_var rfl) (tl_q hp)) (by cases qq <;> rfl)))) rfl) (fun hb => (by cases hb)) (fun _ H1 e1 => ?_)
      have hSp : SqQ K qq H1 p xs := ex_q e1 (SqQ.of hp)
      have hall : ((List.range xs.length).all fun i => numB ss.length (os.getD i none)) = os.all (numB ss.length) := by
        rw [hxl]
        exact all_rangeD os
      refine q_when (b := !os.all (numB ss.length)) (et_not (et_B (ev_is (ev_allQ (fun i => numB ss.length (os.getD i none)) (ev_var rfl) hSp (by omega) (fun _ => rfl) fun i x H2 e2 hx => ?_) (congrArg V.bl hall)))) (fun hb H2 e2 => ?_) (fun hb H2 e2 => ?_)
      · obtain ⟨oo, ho, hn⟩ := hN.get hx
        have hoo : os.getD i none = oo := by rw [List.getD_eq_getElem?_getD, ho]; rfl
        refine ev_call (ea_cons (ev_var rfl) (ea_cons ev_c (ea_cons (ev_op (ev_lenT (ev_var rfl) (ex_t (e1.trans e2) hU)) ev_c rv_I0) ea_nil))) fun H3 e3 Q' k' E' => ⟨x, oo, _, _, rfl, hn.up ((e1.trans e2).trans e3), fun H4 e4 => ?_⟩
        have := k' H4 e4
        rw [hoo] at this
        unfold numB at this
        rw [hlen]
        exact this
      · refine s_ret ev_c fun H3 e3 => ?_
        have := q H3 ((e1.trans e2).trans e3)
        have hb2 : isPathB ss (some os) = false := by
          show (os.all (numB ss.length) && _) = false
          rw [show os.all (numB ss.length) = false by simpa using hb]
          rfl
        rw [hb2] at this
        exact this
      · have hb : os.all (numB ss.length) = true := by simpa using hb
        have hat : ∀ {i : Nat} {x : V}, xs[i]? = some x → ∃ n : Nat, x = .int (n : Int) ∧ n < ss.length ∧ ss[n]? = some (stepN ss (os.getD i none)) := fun {i x} hx => by
          obtain ⟨oo, ho, hn⟩ := hN.get hx
          have hoo : os.getD i none = oo := by rw [List.getD_eq_getElem?_getD, ho]; rfl
          obtain ⟨n, hn1, hn2, hn3⟩ := numB_step (List.all_eq_true.mp hb oo (List.mem_of_getElem? ho))
          obtain ⟨_, _, _, _, _, _, _, hni⟩ := hn.ex
          rw [hoo]
          exact ⟨n, hni _ hn1, hn2, hn3⟩
        have e12 := e1.trans e2
        refine s_ret (ev_is (ev_allZ (fun i => ((stepN ss (os.getD i none)).2.1 : Int) == (stepN ss (os.getD (i + 1) none)).1) (ev_var rfl) (e12 _ _ hp) (by omega) (fun _ _ => rfl) fun i x y H3 e3 hx hy => ?_) (w := .bl (isPathB ss (some os))) (congrArg V.bl (by rw [hxl]; show linkB ss os = (os.all (numB ss.length) && linkB ss os); rw [hb]; rfl))) fun H3 e3 => q H3 (e12.trans e3)
        have e := e12.trans e3
        obtain ⟨n1, rfl, _, g1⟩ := hat hx
        obtain ⟨n2, rfl, _, g2⟩ := hat hy
        obtain ⟨a1, w1, u1, s1, _⟩ := step_at hus g1
        obtain ⟨a2, w2, u2, s2, _⟩ := step_at hus g2
        have at1 : atI us (n1 : Int) = some (.ref a1) := atI_of (by omega) (by rw [Int.toNat_natCast]; exact u1)
        have at2 : atI us (n2 : Int) = some (.ref a2) := atI_of (by omega) (by rw [Int.toNat_natCast]; exact u2)
        exact ev_eqI (ev_op (ev_op (ev_var rfl) (ev_var rfl) (rv_ixT (ex_t e hU) at1)) ev_c (rv_ixT (.inl (.inl (e _ _ s1))) rfl)) (ev_op (ev_op (ev_var rfl) (ev_var rfl) (rv_ixT (ex_t e hU) at2)) ev_c (rv_ixT (.inl (.inl (e _ _ s2))) rfl))
end
end D1
end
section
set_option Elab.async false
set_option linter.all false
set_option maxRecDepth 100000
set_option maxHeartbeats 4000000
/-! WA: what is a web, what is refused -/
namespace D1
open PySem L2 Evl RZ ClX PySem.VX
/-- the built-in types are no Rings -/
structure NotR (K : PySem.W.Frag) (CR : Addr) : Prop where
  non : PySem.W.kitOne K (.type "NoneType") (.ref CR) = some false
  bl : PySem.W.kitOne K (.type "bool") (.ref CR) = some false
  int : PySem.W.kitOne K (.type "int") (.ref CR) = some false
  str : PySem.W.kitOne K (.type "str") (.ref CR) = some false
  tup : PySem.W.kitOne K (.type "tuple") (.ref CR) = some false
  lst : PySem.W.kitOne K (.type "list") (.ref CR) = some false
  dic : PySem.W.kitOne K (.type "dict") (.ref CR) = some false
theorem OdAt.noR {K : PySem.W.Frag} {CR : Addr} (N : NotR K CR) {S : Addr → Prop} {H : Hp} {v : V} {d : PyData} (h : OdAt S H v d) : ∃ T : String, (∀ H1, Ex H H1 → TyX K H1 v (.type T)) ∧ PySem.W.kitOne K (.type T) (.ref CR) = some false := by
  cases h with
  | non => exact ⟨"NoneType", fun _ _ => .base .non, N.non⟩
  | bl b => exact ⟨"bool", fun _ _ => .base (.bl b), N.bl⟩
  | int i => exact ⟨"int", fun _ _ => .base (.int i), N.int⟩
  | str z => exact ⟨"str", fun _ _ => .base (.str z), N.str⟩
  | tup h r => exact ⟨"tuple", fun _ e => .base (.tup (e _ _ h)), N.tup⟩
  | lst h s r => exact ⟨"list", fun _ e => .base (.lst (e _ _ h)), N.lst⟩
  | dic h s => exact ⟨"dict", fun _ e => .base (.dK (e _ _ h)), N.dic⟩
/-- a ring, or a thing that is none -/
def ArgR (C : KC) (CR : Addr) (H : Hp) (v : V) : Option RK → Prop
  | some k => RingAt C CR H v k ∧ k.depth < 4
  | none => ∃ d, OdAt Any H v d
theorem ArgR.ex {C : KC} {CR : Addr} {H H' : Hp} {v : V} (e : Ex H H') : ∀ {o : Option RK}, ArgR C CR H v o → ArgR C CR H' v o
  | some k, ⟨h, d⟩ => ⟨h.ex e, d⟩
  | none, ⟨d, h⟩ => ⟨d, h.ex e⟩
def isStepB (k : RK) (n : Int) : PyData → Bool
  | .tuple [x, y, w] => whO 0 (n - 1) (dNum x) && (whO 0 (n - 1) (dNum y) && goodB k w)
  | _ => false
def isWebB (k : RK) : PyData → Bool
  | .tuple [n, s] => whO 1 12 (dNum n) && (dTu s && (decide (lenD s ≤ 80) && (match s with | .tuple ds => ds | _ => []).all (isStepB k ((dNum n).getD 0))))
  | _ => false
/-- what is refused first of a ring and a web: no ring, not closed, no web -/
def verd (o : Option RK) (d : PyData) : Option Nat :=
  match o with
  | none => some 0
  | some k => if k.clsd = true then (if isWebB k d = true then none else some 2) else some 1
structure Bads where
  cR : Addr
  cC : Addr
  cW : Addr
  cN : Addr
  cP : Addr
def Bads.cls (B : Bads) : Nat → Addr
  | 0 => B.cR
  | 1 => B.cC
  | 2 => B.cW
  | 3 => B.cN
  | _ => B.cP
def whyP : Str := "not a path of this web, or the empty one"
def msgOf : Nat → List (Str × V)
  | 0 => [("what", .str "ring")]
  | 1 => [("why", .str "endlessly many paths have no sum in this ring")]
  | 2 => [("why", .str "not a web of this ring")]
  | 3 => [("why", .str "not a state of this web")]
  | _ => [("why", .str whyP)]
def Throws (B : Bads) (H : Hp) (E : XK) (i : Nat) : Prop := ∀ H' d, Ex H H' → H' d = none → E (.ref (B.cls i)) (some d) (upd H' d (.xd (msgOf i)))
theorem Throws.up {B : Bads} {H H1 : Hp} {E : XK} {i : Nat} (h : Throws B H E i) (e : Ex H H1) : Throws B H1 E i := fun H' d e' hd => h H' d (e.trans e') hd
def spNeedRing (C : KC) (CR : Addr) (B : Bads) : Sp := fun vs H Q E => ∃ (v : V) (o : Option RK), vs = [v] ∧ ArgR C CR H v o ∧ (o ≠ none → ∀ H', Ex H H' → Q .non H') ∧ (o = none → Throws B H E 0)
def spIsStep (C : KC) (CR : Addr) : Sp := fun vs H Q _ => ∃ (r : V) (k : RK) (n : Int) (v : V) (d : PyData), vs = [r, .int n, v] ∧ RingAt C CR H r k ∧ k.depth < 4 ∧ k.free = true ∧ OdAt Any H v d ∧ ∀ H', Ex H H' → Q (.bl (isStepB k n d)) H'
def spIsWeb (C : KC) (CR : Addr) : Sp := fun vs H Q _ => ∃ (r : V) (k : RK) (v : V) (d : PyData), vs = [r, v] ∧ RingAt C CR H r k ∧ k.depth < 4 ∧ k.free = true ∧ OdAt Any H v d ∧ ∀ H', Ex H H' → Q (.bl (isWebB k d)) H'
def spNeedWeb (C : KC) (CR : Addr) (B : Bads) : Sp := fun vs H Q E => ∃ (r v : V) (o : Option RK) (d : PyData), vs = [r, v] ∧ ArgR C CR H r o ∧ OdAt Any H v d ∧ (verd o d = none → ∀ H', Ex H H' → Q .non H') ∧ ∀ i, verd o d = some i → Throws B H E i
theorem lenD_three {d : PyData} (h : (!dTu d || !decide (lenD d = 3)) = false) : ∃ x y z, d = .tuple [x, y, z] := by
  obtain ⟨h1, h2⟩ := or_no h
  cases d with
  | tuple ds =>
    have h2 : ds.length = 3 := by
      have h2 : (!decide (ds.length = 3)) = false := h2
      simpa using h2
    match ds, h2 with
    | [x, y, z], _ => exact ⟨x, y, z, rfl⟩
  | _ => cases h1
theorem step_no {k : RK} {n : Int} {d : PyData} (h : (!dTu d || !decide (lenD d = 3)) = true) : isStepB k n d = false := by
  unfold isStepB
  split
  · cases h
  · rfl
theorem web_no {k : RK} {d : PyData} (h : (!dTu d || !decide (lenD d = 2)) = true) : isWebB k d = false := by
  unfold isWebB
  split
  · cases h
  · rfl
theorem ne_3 (n : Nat) : (!((n : Int) == (3 : Int))) = !decide (n = 3) := by
  congr 1
  rw [Bool.eq_iff_iff, beq_iff_eq, decide_eq_true_eq]
  omega
theorem OdAt.three {S : Addr → Prop} {H : Hp} {v : V} {x y z : PyData} (h : OdAt S H v (.tuple [x, y, z])) : ∃ a u w t, v = .ref a ∧ H a = some (.tup [u, w, t]) ∧ OdAt S H u x ∧ OdAt S H w y ∧ OdAt S H t z := by
  cases h with
  | tup h r =>
    cases r with
    | cons h1 r =>
      cases r with
      | cons h2 r =>
        cases r with
        | cons h3 r =>
          cases r
          exact ⟨_, _, _, _, rfl, h, h1, h2, h3⟩
section
variable {P : Program} {w : World} {K : PySem.W.Frag} {mg : Str → Option Value} {base : Heap}
abbrev s_need_ring : Stmt := top 51
theorem sc_need_ring : FnScope ["thing"] ["thing"] (defScope s_need_ring) := ⟨rfl, rfl, rfl, by decide +kernel, rfl, by decide +kernel, by decide +kernel⟩
theorem ok_need_ring {f : Addr} {fd : FuncData} (F : FnP K "need_ring" s_need_ring f fd) {C : KC} {CR : Addr} (T : RingF K CR) (N : NotR K CR) {B : Bads} (O_BadRing : OwnX P w K mg "BadRing" B.cR [("what" : Str)]) (g_Ring : mg "Ring" = some (.ref CR)) (z_isinstance : mg "isinstance" = none) : FnOk P w K mg base (L2.CX P w) 2 f fd ["thing"] (spNeedRing C CR B) := by
  refine F.ok (CX := L2.CX P w) sc_need_ring (fun vs H Q E h => ?_) (fun cdv A outer s H vs Q E hr h => ?_)
  · obtain ⟨v, o, rfl, _⟩ := h
    rfl
  · obtain ⟨v, o, rfl, hA, qT, qE⟩ := h
    have hu := hu_of hr
    have hu64 := hr.units
    refine ⟨_, (pss_one (ps_if (pt_not (pt_val (pe_callB call_isi (by rfl) z_isinstance PyProof.Rows.boot_isinstance (pa_cons (pv 0) (pa_cons (pe_glob (v := .ref CR) rfl g_Ring rfl) pa_nil))))) (pss_one (ps_raise (W := fun cls d _ H => E cls d H) rfl (takes_of rfl rfl rfl rfl) (pmk_own1 O_BadRing hr (pa_cons pe_str pa_nil) (by rfl)))) pss_nil)), ?_⟩
    cases o with
    | some k => exact s_when (b := false) (et_is (et_not (et_B (ev_isiC (ev_var rfl) (hA.1.ty T) T.rr (.own CR)))) rfl) (fun hb => (by cases hb)) (fun _ H1 e1 => qT (fun h => by cases h) H1 e1)
    | none =>
      obtain ⟨d, hd⟩ := hA
      obtain ⟨ty, h1, h2⟩ := hd.noR N
      exact s_when (b := true) (et_is (et_not (et_B (ev_isiC (ev_var rfl) h1 h2 (.own CR)))) rfl) (fun _ H1 e1 => ⟨rfl, fun d hd => qE rfl H1 d e1 hd⟩) (fun hb => (by cases hb))
abbrev s__is_step : Stmt := top 57
theorem sc__is_step : FnScope ["ring", "states", "step", "i", "j", "weight"] ["ring", "states", "step"] (defScope s__is_step) := ⟨rfl, rfl, rfl, by decide +kernel, rfl, by decide +kernel, by decide +kernel⟩
theorem ok__is_step {f : Addr} {fd : FuncData} (F : FnP K "_is_step" s__is_step f fd) {C : KC} {CR : Addr} (T : RingF K CR) {f_is_whole : Addr} {fd_is_whole : FuncData} (F_is_whole : FnP K "is_whole" s_is_whole f_is_whole fd_is_whole) (g_is_whole : mg "is_whole" = some (.ref f_is_whole)) (G_is_whole : FnOk P w K mg base (CX0) 2 f_is_whole fd_is_whole ["thing", "least", "most"] (spWhole K)) {f_good : Addr} {fd_good : FuncData} (m_good : Meth K CR "good" f_good) (b_good : Binds K fd_good ["self", "thing"] []) (G_good : FnOk P w K mg base CX0 7 f_good fd_good ["self", "thing"] (spRGood C CR)) (z_isinstance : mg "isinstance" = none) (z_tuple : mg "tuple" = none) (z_len : mg "len" = none) : FnOk P w K mg base (CX0) 8 f fd ["ring", "states", "step"] (spIsStep C CR) := by
  have b_is_whole : Binds K fd_is_whole ["thing", "least", "most"] [] := F_is_whole.bindsN fun _ _ _ _ _ _ us hl => match us, hl with | [_, _, _], _ => rfl
  refine F.ok (CX := CX0) sc__is_step (fun vs H Q E h => ?_) (fun cdv A outer s H vs Q E hr h => ?_)
  · obtain ⟨r, k, n, v, d, rfl, _⟩ := h
    rfl
  · obtain ⟨r, k, n, v, d, rfl, hR, hd, hf, hv, q⟩ := h
    have hu := hu_of hr
    have hu64 := hr.units
    have hr_is_whole := hr.mono (by decide : 2 ≤ 7)
    have hr_good := hr.mono (Nat.le_refl _)
    refine ⟨_, PSs.nox (pss_cons (ps_if (PW.pt (pw_or (pt_not (pt_val (pe_callB call_isi (by rfl) z_isinstance PyProof.Rows.boot_isinstance (pa_cons (pv 2) (pa_cons (pe_bltn (v := .ty "tuple") rfl z_tuple (by decide +kernel) rfl) pa_nil))))) (pw_or1 (pt_cmpR op_ne (pe_callB call_len_seq (by rfl) z_len PySem.boot_len (pa_cons (pv 2) pa_nil)) pe_int (nomark _))))) (pss_one (ps_ret pe_bl)) pss_nil)
      (pss_cons (ps_asg (pv 2) (pg_tup rfl (pgs_cons (pg_name (i := 3) sc__is_step.nd rfl (Or.inl rfl)) (pgs_cons (pg_name (i := 4) sc__is_step.nd rfl (Or.inl rfl)) (pgs_cons (pg_name (i := 5) sc__is_step.nd rfl (Or.inl rfl)) pgs_nil)))))
      (pss_one (ps_ret (pe_and (pe_call G_is_whole hr_is_whole rfl g_is_whole F_is_whole.kp b_is_whole .nil pass0 (pa_cons (pv 3) (pa_cons pe_int (pa_cons (pe_op op_sub (pv 1) pe_int) pa_nil)))) (pe_and (pe_call G_is_whole hr_is_whole rfl g_is_whole F_is_whole.kp b_is_whole .nil pass0 (pa_cons (pv 4) (pa_cons pe_int (pa_cons (pe_op op_sub (pv 1) pe_int) pa_nil)))) (pe_one (pe_meth (C := CR) (pv 0) T.ok.cls m_good G_good hr_good b_good .nil pass0 (pa_cons (pv 5) pa_nil))))))))), ?_⟩
    refine q_when (b := !dTu d || !decide (lenD d = 3)) (et_or (et_not (et_B (ev_tTup (ev_var rfl) hv.tells))) (fun ht => et_is (et_test (ev_neI (ev_lenD (ev_var rfl) hv (by simpa using ht)) ev_c)) (ne_3 _))) (fun hb H1 e1 => ?_) (fun hb H1 e1 => ?_)
    · exact s_ret ev_c fun H2 e2 => by
        have := q H2 (e1.trans e2)
        rw [step_no hb] at this
        exact this
    obtain ⟨x, y, z, rfl⟩ := lenD_three hb
    obtain ⟨a, u, w1, w2, rfl, ha, h1, h2, h3⟩ := id hv.three
    refine ⟨_, rfl, a, _, rfl, st_of (e1 _ _ ha), rfl, _, _, rfl, _, _, rfl, _, _, rfl, rfl, ?_⟩
    refine s_ret (v := .bl (whO 0 (n - 1) (dNum x) && (whO 0 (n - 1) (dNum y) && goodB k z))) (ev_andV (ev_call (ea_cons (ev_var rfl) (ea_cons ev_c (ea_cons (ev_op (ev_var rfl) ev_c rv_I0) ea_nil))) fun H2 e2 Q' k' E' => ⟨_, dNum x, _, _, rfl, (h1.ex (e1.trans e2)).num, fun H3 e3 => k' H3 e3⟩) fun _ => ev_andV (ev_call (ea_cons (ev_var rfl) (ea_cons ev_c (ea_cons (ev_op (ev_var rfl) ev_c rv_I0) ea_nil))) fun H2 e2 Q' k' E' => ⟨_, dNum y, _, _, rfl, (h2.ex (e1.trans e2)).num, fun H3 e3 => k' H3 e3⟩) (fun _ H2 e2 Q' k' => ?_)) fun H2 e2 => q H2 (e1.trans e2)
    have e12 := e1.trans e2
    obtain ⟨r', dr, fr, rfl, hr2, hn⟩ := (hR.ex e12).no (m := ("good" : Str)) (by decide)
    exact ⟨_, rfl, r', dr, fr, rfl, hr2, hn, _, rfl, .ref r', k, _, _, rfl, hR.ex e12, hd, hf, h3.ex e12, fun H3 e3 => k' H3 e3⟩
abbrev s__is_web : Stmt := top 56
theorem sc__is_web : FnScope ["ring", "web", "states", "steps", "step"] ["ring", "web"] (defScope s__is_web) := ⟨rfl, rfl, rfl, by decide +kernel, rfl, by decide +kernel, by decide +kernel⟩
theorem ok__is_web {f : Addr} {fd : FuncData} (F : FnP K "_is_web" s__is_web f fd) {C : KC} {CR : Addr} (T : RingF K CR) {f_is_whole : Addr} {fd_is_whole : FuncData} (F_is_whole : FnP K "is_whole" s_is_whole f_is_whole fd_is_whole) (g_is_whole : mg "is_whole" = some (.ref f_is_whole)) (G_is_whole : FnOk P w K mg base (CX0) 2 f_is_whole fd_is_whole ["thing", "least", "most"] (spWhole K)) {f__is_step : Addr} {fd__is_step : FuncData} (F__is_step : FnP K "_is_step" s__is_step f__is_step fd__is_step) (g__is_step : mg "_is_step" = some (.ref f__is_step)) (G__is_step : FnOk P w K mg base (CX0) 8 f__is_step fd__is_step ["ring", "states", "step"] (spIsStep C CR)) {t1 t2 : Tok} (g_STATES : mg "_STATES" = some (.int 12 t1)) (g_STEPS : mg "_STEPS" = some (.int 80 t2)) (z_isinstance : mg "isinstance" = none) (z_tuple : mg "tuple" = none) (z_len : mg "len" = none) (z_all : mg "all" = none) : FnOk P w K mg base (CX0) 9 f fd ["ring", "web"] (spIsWeb C CR) := by
  have b_is_whole : Binds K fd_is_whole ["thing", "least", "most"] [] := F_is_whole.bindsN fun _ _ _ _ _ _ us hl => match us, hl with | [_, _, _], _ => rfl
  have b__is_step : Binds K fd__is_step ["ring", "states", "step"] [] := F__is_step.bindsN fun _ _ _ _ _ _ us hl => match us, hl with | [_, _, _], _ => rfl
  refine F.ok (CX := CX0) sc__is_web (fun vs H Q E h => ?_) (fun cdv A outer s H vs Q E hr h => ?_)
  · obtain ⟨r, k, v, d, rfl, _⟩ := h
    rfl
  · obtain ⟨r, k, v, d, rfl, hR, hd, hf, hv, q⟩ := h
    have hu := hu_of hr
    have hu64 := hr.units
    have hr_is_whole := hr.mono (by decide : 2 ≤ 8)
    have hr__is_step := hr.mono (Nat.le_refl _)
    refine ⟨_, PSs.nox (pss_cons (ps_if (PW.pt (pw_or (pt_not (pt_val (pe_callB call_isi (by rfl) z_isinstance PyProof.Rows.boot_isinstance (pa_cons (pv 1) (pa_cons (pe_bltn (v := .ty "tuple") rfl z_tuple (by decide +kernel) rfl) pa_nil))))) (pw_or1 (pt_cmpR op_ne (pe_callB call_len_seq (by rfl) z_len PySem.boot_len (pa_cons (pv 1) pa_nil)) pe_int (nomark _))))) (pss_one (ps_ret pe_bl)) pss_nil)
      (pss_cons (ps_asg (pv 1) (pg_tup rfl (pgs_cons (pg_name (i := 2) sc__is_web.nd rfl (Or.inr rfl)) (pgs_cons (pg_name (i := 3) sc__is_web.nd rfl (Or.inl rfl)) pgs_nil))))
      (pss_cons (ps_if (PW.pt (pw_or (pt_not (pt_val (pe_call G_is_whole hr_is_whole rfl g_is_whole F_is_whole.kp b_is_whole .nil pass0 (pa_cons (pv 2) (pa_cons pe_int (pa_cons (pe_glob (v := .int 12) rfl g_STATES ⟨_, rfl⟩) pa_nil)))))) (pw_or (pt_not (pt_val (pe_callB call_isi (by rfl) z_isinstance PyProof.Rows.boot_isinstance (pa_cons (pv 3) (pa_cons (pe_bltn (v := .ty "tuple") rfl z_tuple (by decide +kernel) rfl) pa_nil))))) (pw_or1 (pt_cmpR op_gt (pe_callB call_len_seq (by rfl) z_len PySem.boot_len (pa_cons (pv 3) pa_nil)) (pe_glob (v := .int 80) rfl g_STEPS ⟨_, rfl⟩) (nomark _)))))) (pss_one (ps_ret pe_bl)) pss_nil)
      (pss_one (ps_ret (pe_callB (cr_all rfl) (by rfl) z_all PyProof.Rows.boot_all (pa_cons (pe_lc (own := [("step", 4)]) (g := gName 4) (tt := tYes) (by rfl) sc__is_web.nd (pi_tup (pv 3)) (blkOk_by (own := [("step", 4)]) (N := ["ring", "web", "states", "steps", "step"]) (sc := defScope s__is_web) (by decide +kernel)) (fun _ _ _ _ _ => pg_name (i := 4) sc__is_web.nd rfl (Or.inl rfl)) (fun _ _ _ _ _ => pts_nil) (fun _ _ _ _ _ => pe_call G__is_step hr__is_step rfl g__is_step F__is_step.kp b__is_step .nil pass0 (pa_cons (pv 0) (pa_cons (pv 2) (pa_cons (pv 4) pa_nil))))) pa_nil))))))), ?_⟩
    refine q_when (b := !dTu d || !decide (lenD d = 2)) (et_or (et_not (et_B (ev_tTup (ev_var rfl) hv.tells))) (fun ht => et_is (et_test (ev_neI (ev_lenD (ev_var rfl) hv (by simpa using ht)) ev_c)) (ne_2 _))) (fun hb H1 e1 => ?_) (fun hb H1 e1 => ?_)
    · exact s_ret ev_c fun H2 e2 => by
        have := q H2 (e1.trans e2)
        rw [web_no hb] at this
        exact this
    obtain ⟨h1, h2⟩ := or_no hb
    obtain ⟨dn, ds, rfl⟩ := two_of (by simpa using h1) (by simpa using h2)
    obtain ⟨a, un, us, rfl, ha, hn, hs⟩ := id hv.two
    have q : ∀ H', Ex H H' → Q (.bl (whO 1 12 (dNum dn) && (dTu ds && (decide (lenD ds ≤ 80) && (match ds with | .tuple ds => ds | _ => []).all (isStepB k ((dNum dn).getD 0)))))) H' := q
    refine ⟨_, rfl, a, _, rfl, st_of (e1 _ _ ha), rfl, _, _, rfl, _, _, rfl, rfl, ?_⟩
    refine q_when (b := !whO 1 12 (dNum dn) || (!dTu ds || decide (80 < lenD ds))) (et_or (et_not (et_B (ev_call (ea_cons (ev_var rfl) (ea_cons ev_c (ea_cons ev_c ea_nil))) fun H2 e2 Q' k' E' => ⟨_, dNum dn, _, _, rfl, (hn.ex (e1.trans e2)).num, fun H3 e3 => k' H3 e3⟩))) fun _ => et_or (et_not (et_B (ev_tTup (ev_var rfl) (hs.ex e1).tells))) fun ht => et_is (et_test (ev_gtI (ev_lenD (ev_var rfl) (hs.ex e1) (by simpa using ht)) ev_c)) (by rw [decide_eq_decide]; omega)) (fun hb H2 e2 => ?_) (fun hb H2 e2 => ?_)
    · refine s_ret ev_c fun H3 e3 => ?_
      have := q H3 ((e1.trans e2).trans e3)
      have hz : (whO 1 12 (dNum dn) && (dTu ds && (decide (lenD ds ≤ 80) && (match ds with | .tuple ds => ds | _ => []).all (isStepB k ((dNum dn).getD 0))))) = false := by
        cases h3 : whO 1 12 (dNum dn) with
        | false => rfl
        | true =>
          cases h4 : dTu ds with
          | false => rfl
          | true =>
            rw [h3, h4] at hb
            have h5 : 80 < lenD ds := of_decide_eq_true (by simpa using hb)
            rw [decide_eq_false (by omega : ¬ lenD ds ≤ 80)]
            rfl
      rw [hz] at this
      exact this
    · obtain ⟨h3, hb⟩ := or_no hb
      obtain ⟨h4, h5⟩ := or_no hb
      have h3 : whO 1 12 (dNum dn) = true := by simpa using h3
      have h5 : lenD ds ≤ 80 := by
        have := of_decide_eq_false h5
        omega
      have e12 := e1.trans e2
      cases dn with
      | int n =>
        obtain rfl := hn.int_inv
        cases ds with
        | tuple ds =>
          cases hs with
          | tup hp hus =>
            rename_i p vs
            have hl : vs.length = ds.length := hus.len
            have h5 : ds.length ≤ 80 := h5
            have q : ∀ H', Ex H H' → Q (.bl (ds.all (isStepB k n))) H' := fun H' e => by
              have := q H' e
              rw [h3] at this
              have h6 : decide (lenD (.tuple ds) ≤ 80) = true := decide_eq_true h5
              rw [h6] at this
              exact this
            have hq : ((List.range vs.length).all fun i => isStepB k n (ds.getD i .none)) = ds.all (isStepB k n) := by
              rw [hl]
              exact all_rangeD ds
            refine s_ret (ev_is (ev_allT (fun i => isStepB k n (ds.getD i .none)) (ev_var rfl) (st_of (e12 _ _ hp)) (by omega) (fun _ => rfl) fun i x H3 e3 hx => ev_call (ea_cons (ev_var rfl) (ea_cons (ev_var rfl) (ea_cons (ev_var rfl) ea_nil))) fun H4 e4 Q' k' E' => ?_) (congrArg V.bl hq)) fun H3 e3 => q H3 (e12.trans e3)
            have e := (e12.trans e3).trans e4
            obtain ⟨d, hd1, hd2⟩ := hus.get hx
            have hg : ds.getD i .none = d := by rw [List.getD_eq_getElem?_getD, hd1]; rfl
            exact ⟨r, k, n, x, d, rfl, hR.ex e, hd, hf, hd2.ex e, fun H5 e5 => by rw [← hg]; exact k' H5 e5⟩
        | _ => cases h4
      | _ => cases h3
abbrev s_need_web : Stmt := top 55
theorem sc_need_web : FnScope ["ring", "web"] ["ring", "web"] (defScope s_need_web) := ⟨rfl, rfl, rfl, by decide +kernel, rfl, by decide +kernel, by decide +kernel⟩
theorem ok_need_web {f : Addr} {fd : FuncData} (F : FnP K "need_web" s_need_web f fd) {C : KC} {CR : Addr} (T : RingF K CR) {B : Bads} (O_NotClosed : OwnX P w K mg "NotClosed" B.cC [("why" : Str)]) (O_BadWeb : OwnX P w K mg "BadWeb" B.cW [("why" : Str)]) {f_need_ring : Addr} {fd_need_ring : FuncData} (F_need_ring : FnP K "need_ring" s_need_ring f_need_ring fd_need_ring) (g_need_ring : mg "need_ring" = some (.ref f_need_ring)) (G_need_ring : FnOk P w K mg base (L2.CX P w) 2 f_need_ring fd_need_ring ["thing"] (spNeedRing C CR B)) {f__is_web : Addr} {fd__is_web : FuncData} (F__is_web : FnP K "_is_web" s__is_web f__is_web fd__is_web) (g__is_web : mg "_is_web" = some (.ref f__is_web)) (G__is_web : FnOk P w K mg base (CX0) 9 f__is_web fd__is_web ["ring", "web"] (spIsWeb C CR)) {f_is_closed : Addr} {fd_is_closed : FuncData} (m_is_closed : Meth K CR "is_closed" f_is_closed) (b_is_closed : Binds K fd_is_closed ["self"] []) (G_is_closed : FnOk P w K mg base CX0 6 f_is_closed fd_is_closed ["self"] (spRClosed C CR)) : FnOk P w K mg base (L2.CX P w) 10 f fd ["ring", "web"] (spNeedWeb C CR B) := by
  have b_need_ring : Binds K fd_need_ring ["thing"] [] := F_need_ring.bindsN fun _ _ _ _ _ _ us hl => match us, hl with | [_], _ => rfl
  have b__is_web : Binds K fd__is_web ["ring", "web"] [] := F__is_web.bindsN fun _ _ _ _ _ _ us hl => match us, hl with | [_, _], _ => rfl
  refine F.ok (CX := L2.CX P w) sc_need_web (fun vs H Q E h => ?_) (fun cdv A outer s H vs Q E hr h => ?_)
  · obtain ⟨r, v, o, d, rfl, _⟩ := h
    rfl
  · obtain ⟨r, v, o, d, rfl, hA, hv, qT, qE⟩ := h
    have hu := hu_of hr
    have hu64 := hr.units
    have hr_need_ring := hr.mono (by decide : 2 ≤ 9)
    have hr__is_web := hr.mono (Nat.le_refl _)
    have hr_is_closed := hr.mono (by decide : 6 ≤ 9)
    refine ⟨_, (pss_cons (ps_expr (pe_call G_need_ring hr_need_ring rfl g_need_ring F_need_ring.kp b_need_ring .nil (passes_call (takes_of rfl rfl rfl rfl) (fun _ _ _ _ h => h)) (pa_cons (pv 0) pa_nil)))
      (pss_cons (ps_if (pt_not (pt_val (pe_meth0 (C := CR) (pv 0) T.ok.cls m_is_closed G_is_closed hr_is_closed b_is_closed .nil pass0))) (pss_one (ps_raise (W := fun cls d _ H => E cls d H) rfl (takes_of rfl rfl rfl rfl) (pmk_own1 O_NotClosed hr (pa_cons pe_str pa_nil) (by rfl)))) pss_nil)
      (pss_one (ps_if (pt_not (pt_val (pe_call G__is_web hr__is_web rfl g__is_web F__is_web.kp b__is_web .nil pass0 (pa_cons (pv 0) (pa_cons (pv 1) pa_nil))))) (pss_one (ps_raise (W := fun cls d _ H => E cls d H) rfl (takes_of rfl rfl rfl rfl) (pmk_own1 O_BadWeb hr (pa_cons pe_str pa_nil) (by rfl)))) pss_nil)))), ?_⟩
    cases o with
    | none => exact ⟨_, rfl, r, none, rfl, hA, fun h => absurd rfl h, fun _ => qE 0 rfl⟩
    | some k =>
      obtain ⟨hR, hd⟩ := id hA
      refine ⟨_, rfl, r, some k, rfl, hA, fun _ H1 e1 => ?_, fun h => (by cases h)⟩
      dsimp only
      refine q_when (b := !k.clsd) (et_not (et_B fun H2 e2 Q' k' => ?_)) (fun hb H2 e2 => ?_) (fun hb H2 e2 => ?_)
      · obtain ⟨r', dr, fr, rfl, hr2, hn⟩ := (hR.ex (e1.trans e2)).no (m := ("is_closed" : Str)) (by decide)
        exact ⟨_, rfl, r', dr, fr, rfl, hr2, hn, .ref r', k, rfl, hR.ex (e1.trans e2), hd, fun H3 e3 => k' H3 e3⟩
      · have hv1 : verd (some k) d = some 1 := if_neg (by intro h; rw [h] at hb; cases hb)
        exact ⟨rfl, fun x hx => qE 1 hv1 H2 x (e1.trans e2) hx⟩
      · have hc : k.clsd = true := by simpa using hb
        have e12 := e1.trans e2
        refine s_when (b := !isWebB k d) (et_not (et_B (ev_call (ea_cons (ev_var rfl) (ea_cons (ev_var rfl) ea_nil)) fun H3 e3 Q' k' E' => ⟨r, k, v, d, rfl, hR.ex (e12.trans e3), hd, RK.free_of hc, hv.ex (e12.trans e3), fun H4 e4 => k' H4 e4⟩))) (fun hb H3 e3 => ?_) (fun hb H3 e3 => ?_)
        · have hv2 : verd (some k) d = some 2 := by
            show (if k.clsd = true then (if isWebB k d = true then none else some 2) else some 1) = some 2
            rw [if_pos hc, if_neg (by intro h; rw [h] at hb; cases hb)]
          exact ⟨rfl, fun x hx => qE 2 hv2 H3 x (e12.trans e3) hx⟩
        · refine qT ?_ H3 (e12.trans e3)
          show (if k.clsd = true then (if isWebB k d = true then none else some 2) else some 1) = none
          rw [if_pos hc, if_pos (by simpa using hb)]
end
end D1
end
section
set_option Elab.async false
set_option linter.all false
set_option maxRecDepth 100000
set_option maxHeartbeats 4000000
/-! WB: what each function refuses -/
namespace D1
open PySem L2 Evl RZ ClX PySem.VX
def numOf : PyData → Int
  | .tuple [.int n, _] => n
  | _ => 0
/-- the numbers of states -/
def okSt (d : PyData) (x : Option Int) : Bool := whO 0 (numOf d - 1) x
def verdS (o : Option RK) (d : PyData) (x : Option Int) : Option Nat :=
  match verd o d with
  | some i => some i
  | none => if okSt d x = true then none else some 3
def verdT (o : Option RK) (d : PyData) (x y : Option Int) : Option Nat :=
  match verdS o d x with
  | some i => some i
  | none => if okSt d y = true then none else some 3
theorem verd_none {o : Option RK} {d : PyData} (h : verd o d = none) : ∃ k, o = some k ∧ k.clsd = true ∧ isWebB k d = true := by
  cases o with
  | none => cases h
  | some k =>
    have h : (if k.clsd = true then (if isWebB k d = true then none else some 2) else some 1 : Option Nat) = none := h
    by_cases hc : k.clsd = true
    · rw [if_pos hc] at h
      by_cases hw : isWebB k d = true
      · exact ⟨k, rfl, hc, hw⟩
      · rw [if_neg hw] at h
        cases h
    · rw [if_neg hc] at h
      cases h
theorem web_two {k : RK} {d : PyData} (h : isWebB k d = true) : ∃ n s, d = .tuple [.int n, s] := by
  unfold isWebB at h
  split at h
  · rename_i dn s
    cases dn with
    | int n => exact ⟨n, s, rfl⟩
    | _ => cases h
  · cases h
theorem pss_dead {X : Cx} {st : List Stmt} : PSs X st (fun _ _ _ => False) := ⟨fun _ _ _ _ _ _ h => h.elim⟩
def spNeedState (K : PySem.W.Frag) (B : Bads) : Sp := fun vs H Q E => ∃ (v t : V) (n : Int) (s : PyData) (x : Option Int), vs = [v, t] ∧ OdAt Any H v (.tuple [.int n, s]) ∧ Num K H t x ∧ (whO 0 (n - 1) x = true → ∀ H', Ex H H' → Q .non H') ∧ (whO 0 (n - 1) x = false → Throws B H E 3)
def spRef1 (C : KC) (CR : Addr) (B : Bads) : Sp := fun vs H Q E => ∃ (r v : V) (o : Option RK) (d : PyData) (i : Nat), vs = [r, v] ∧ ArgR C CR H r o ∧ OdAt Any H v d ∧ verd o d = some i ∧ Throws B H E i
def spRef2 (K : PySem.W.Frag) (C : KC) (CR : Addr) (B : Bads) : Sp := fun vs H Q E => ∃ (r v t : V) (o : Option RK) (d : PyData) (x : Option Int) (i : Nat), vs = [r, v, t] ∧ ArgR C CR H r o ∧ OdAt Any H v d ∧ Num K H t x ∧ verdS o d x = some i ∧ Throws B H E i
def spRef3 (K : PySem.W.Frag) (C : KC) (CR : Addr) (B : Bads) : Sp := fun vs H Q E => ∃ (r v t a b : V) (o : Option RK) (d : PyData) (x : Option Int) (i : Nat), vs = [r, v, t, a, b] ∧ ArgR C CR H r o ∧ OdAt Any H v d ∧ Num K H t x ∧ verdS o d x = some i ∧ Throws B H E i
def spRef4 (K : PySem.W.Frag) (C : KC) (CR : Addr) (B : Bads) : Sp := fun vs H Q E => ∃ (r v t u : V) (o : Option RK) (d : PyData) (x y : Option Int) (i : Nat), vs = [r, v, t, u] ∧ ArgR C CR H r o ∧ OdAt Any H v d ∧ Num K H t x ∧ Num K H u y ∧ verdT o d x y = some i ∧ Throws B H E i
def spRef5 (K : PySem.W.Frag) (C : KC) (CR : Addr) (B : Bads) : Sp := fun vs H Q E => ∃ (r v p : V) (o : Option RK) (d : PyData), vs = [r, v, p] ∧ ArgR C CR H r o ∧ OdAt Any H v d ∧ ((∃ i, verd o d = some i ∧ Throws B H E i) ∨ ∃ (n : Nat) (ss : List Step) (l : Line), verd o d = none ∧ d = webD n ss ∧ DtAt H v (webD n ss) ∧ PathAt K H p l ∧ (isPathB ss l = false ∨ lineLen l = 0) ∧ Throws B H E 4)
theorem verdS_some {o : Option RK} {d : PyData} {x : Option Int} {i j : Nat} (h : verdS o d x = some i) (hj : verd o d = some j) : j = i := by
  unfold verdS at h
  rw [hj] at h
  exact Option.some.inj h
theorem verdS_none {o : Option RK} {d : PyData} {x : Option Int} {i : Nat} (h : verdS o d x = some i) (hn : verd o d = none) : okSt d x = false ∧ i = 3 := by
  unfold verdS at h
  rw [hn] at h
  dsimp only at h
  split at h
  · cases h
  · rename_i hw
    exact ⟨by simpa using hw, (Option.some.inj h).symm⟩
section
variable {P : Program} {w : World} {K : PySem.W.Frag} {mg : Str → Option Value} {base : Heap}
abbrev s_need_state : Stmt := top 58
theorem sc_need_state : FnScope ["web", "thing"] ["web", "thing"] (defScope s_need_state) := ⟨rfl, rfl, rfl, by decide +kernel, rfl, by decide +kernel, by decide +kernel⟩
theorem ok_need_state {f : Addr} {fd : FuncData} (F : FnP K "need_state" s_need_state f fd) {f_is_whole : Addr} {fd_is_whole : FuncData} (F_is_whole : FnP K "is_whole" s_is_whole f_is_whole fd_is_whole) (g_is_whole : mg "is_whole" = some (.ref f_is_whole)) (G_is_whole : FnOk P w K mg base (CX0) 2 f_is_whole fd_is_whole ["thing", "least", "most"] (spWhole K)) {B : Bads} (O_BadNumber : OwnX P w K mg "BadNumber" B.cN [("why" : Str)]) : FnOk P w K mg base (L2.CX P w) 3 f fd ["web", "thing"] (spNeedState K B) := by
  have b_is_whole : Binds K fd_is_whole ["thing", "least", "most"] [] := F_is_whole.bindsN fun _ _ _ _ _ _ us hl => match us, hl with | [_, _, _], _ => rfl
  refine F.ok (CX := L2.CX P w) sc_need_state (fun vs H Q E h => ?_) (fun cdv A outer s H vs Q E hr h => ?_)
  · obtain ⟨v, t, n, s, x, rfl, _⟩ := h
    rfl
  · obtain ⟨v, t, n, sd, x, rfl, hv, ht, qT, qE⟩ := h
    have hu := hu_of hr
    have hu64 := hr.units
    have hr_is_whole := hr.mono (by decide : 2 ≤ 2)
    refine ⟨_, (pss_one (ps_if (pt_not (pt_val (pe_call G_is_whole hr_is_whole rfl g_is_whole F_is_whole.kp b_is_whole .nil pass0 (pa_cons (pv 1) (pa_cons pe_int (pa_cons (pe_op op_sub (pe_ix ix_tup (pv 0) pe_int (fun _ _ => rfl)) pe_int) pa_nil)))))) (pss_one (ps_raise (W := fun cls d _ H => E cls d H) rfl (takes_of rfl rfl rfl rfl) (pmk_own1 O_BadNumber hr (pa_cons pe_str pa_nil) (by rfl)))) pss_nil)), ?_⟩
    obtain ⟨a, u1, u2, rfl, ha, h1, h2⟩ := id hv.two
    obtain rfl := h1.int_inv
    refine s_when (b := !whO 0 (n - 1) x) (et_not (et_B (ev_call (ea_cons (ev_var rfl) (ea_cons ev_c (ea_cons (ev_op (ev_op (ev_var rfl) ev_c (rv_ixT (st_of ha) (v := .int n) rfl)) ev_c rv_I0) ea_nil))) fun H2 e2 Q' k' E' => ⟨t, x, _, _, rfl, ht.up e2, fun H3 e3 => k' H3 e3⟩))) (fun hb H1 e1 => ?_) (fun hb H1 e1 => ?_)
    · exact ⟨rfl, fun d hd => qE (by simpa using hb) H1 d e1 hd⟩
    · exact qT (by simpa using hb) H1 e1
abbrev s_by_states : Stmt := top 61
theorem sc_by_states : FnScope ["ring", "web", "kind", "table", "middle", "state"] ["ring", "web"] (defScope s_by_states) := ⟨rfl, rfl, rfl, by decide +kernel, rfl, by decide +kernel, by decide +kernel⟩
theorem ok_by_states {f : Addr} {fd : FuncData} (F : FnP K "by_states" s_by_states f fd) {C : KC} {CR : Addr} {B : Bads} {f_need_web : Addr} {fd_need_web : FuncData} (F_need_web : FnP K "need_web" s_need_web f_need_web fd_need_web) (g_need_web : mg "need_web" = some (.ref f_need_web)) (G_need_web : FnOk P w K mg base (L2.CX P w) 10 f_need_web fd_need_web ["ring", "web"] (spNeedWeb C CR B)) : FnOk P w K mg base (L2.CX P w) 11 f fd ["ring", "web"] (spRef1 C CR B) := by
  have b_need_web : Binds K fd_need_web ["ring", "web"] [] := F_need_web.bindsN fun _ _ _ _ _ _ us hl => match us, hl with | [_, _], _ => rfl
  refine F.ok (CX := L2.CX P w) sc_by_states (fun vs H Q E h => ?_) (fun cdv A outer s H vs Q E hr h => ?_)
  · obtain ⟨r, v, o, d, i, rfl, _⟩ := h
    rfl
  · obtain ⟨r, v, o, d, i, rfl, hA, hv, hi, qE⟩ := h
    have hu := hu_of hr
    have hu64 := hr.units
    have hr_need_web := hr.mono (by decide : 10 ≤ 10)
    refine ⟨_, (pss_cons (ps_expr (pe_call G_need_web hr_need_web rfl g_need_web F_need_web.kp b_need_web .nil (passes_call (takes_of rfl rfl rfl rfl) (fun _ _ _ _ h => h)) (pa_cons (pv 0) (pa_cons (pv 1) pa_nil)))) pss_dead), ?_⟩
    exact ⟨_, rfl, _, rfl, r, v, o, d, rfl, hA, hv, fun h => (by rw [hi] at h; cases h), fun j hj => (by rw [hi] at hj; cases hj; exact qE)⟩
abbrev s_by_rounds : Stmt := top 96
theorem sc_by_rounds : FnScope ["ring", "web", "start", "states", "kind", "row", "_", "after", "beyond", "weight", "later", "more"] ["ring", "web", "start"] (defScope s_by_rounds) := ⟨rfl, rfl, rfl, by decide +kernel, rfl, by decide +kernel, by decide +kernel⟩
theorem ok_by_rounds {f : Addr} {fd : FuncData} (F : FnP K "by_rounds" s_by_rounds f fd) {C : KC} {CR : Addr} {B : Bads} {f_need_web : Addr} {fd_need_web : FuncData} (F_need_web : FnP K "need_web" s_need_web f_need_web fd_need_web) (g_need_web : mg "need_web" = some (.ref f_need_web)) (G_need_web : FnOk P w K mg base (L2.CX P w) 10 f_need_web fd_need_web ["ring", "web"] (spNeedWeb C CR B)) {f_need_state : Addr} {fd_need_state : FuncData} (F_need_state : FnP K "need_state" s_need_state f_need_state fd_need_state) (g_need_state : mg "need_state" = some (.ref f_need_state)) (G_need_state : FnOk P w K mg base (L2.CX P w) 3 f_need_state fd_need_state ["web", "thing"] (spNeedState K B)) : FnOk P w K mg base (L2.CX P w) 11 f fd ["ring", "web", "start"] (spRef2 K C CR B) := by
  have b_need_web : Binds K fd_need_web ["ring", "web"] [] := F_need_web.bindsN fun _ _ _ _ _ _ us hl => match us, hl with | [_, _], _ => rfl
  have b_need_state : Binds K fd_need_state ["web", "thing"] [] := F_need_state.bindsN fun _ _ _ _ _ _ us hl => match us, hl with | [_, _], _ => rfl
  refine F.ok (CX := L2.CX P w) sc_by_rounds (fun vs H Q E h => ?_) (fun cdv A outer s H vs Q E hr h => ?_)
  · obtain ⟨r, v, t, o, d, x, i, rfl, _⟩ := h
    rfl
  · obtain ⟨r, v, t, o, d, x, i, rfl, hA, hv, ht, hi, qE⟩ := h
    have hu := hu_of hr
    have hu64 := hr.units
    have hr_need_web := hr.mono (by decide : 10 ≤ 10)
    have hr_need_state := hr.mono (by decide : 3 ≤ 10)
    refine ⟨_, (pss_cons (ps_expr (pe_call G_need_web hr_need_web rfl g_need_web F_need_web.kp b_need_web .nil (passes_call (takes_of rfl rfl rfl rfl) (fun _ _ _ _ h => h)) (pa_cons (pv 0) (pa_cons (pv 1) pa_nil)))) (pss_cons (ps_expr (pe_call G_need_state hr_need_state rfl g_need_state F_need_state.kp b_need_state .nil (passes_call (takes_of rfl rfl rfl rfl) (fun _ _ _ _ h => h)) (pa_cons (pv 1) (pa_cons (pv 2) pa_nil)))) pss_dead)), ?_⟩
    refine ⟨_, rfl, _, rfl, r, v, o, d, rfl, hA, hv, fun hn H1 e1 => ?_, fun j hj => (by obtain rfl := verdS_some hi hj; exact qE)⟩
    obtain ⟨hx, rfl⟩ := verdS_none hi hn
    obtain ⟨k, rfl, hc, hw⟩ := verd_none hn
    obtain ⟨n, sd, rfl⟩ := web_two hw
    exact ⟨_, rfl, _, rfl, v, t, n, sd, x, rfl, hv.ex e1, ht.up e1, fun h => (by have hx : whO 0 (n - 1) x = false := hx; rw [h] at hx; cases hx), fun _ => qE.up e1⟩
abbrev s_by_best : Stmt := top 68
theorem sc_by_best : FnScope ["ring", "web", "start", "kind", "row", "waiting", "state", "i", "j", "weight", "_"] ["ring", "web", "start"] (defScope s_by_best) := ⟨rfl, rfl, rfl, by decide +kernel, rfl, by decide +kernel, by decide +kernel⟩
theorem ok_by_best {f : Addr} {fd : FuncData} (F : FnP K "by_best" s_by_best f fd) {C : KC} {CR : Addr} {B : Bads} {f_need_web : Addr} {fd_need_web : FuncData} (F_need_web : FnP K "need_web" s_need_web f_need_web fd_need_web) (g_need_web : mg "need_web" = some (.ref f_need_web)) (G_need_web : FnOk P w K mg base (L2.CX P w) 10 f_need_web fd_need_web ["ring", "web"] (spNeedWeb C CR B)) {f_need_state : Addr} {fd_need_state : FuncData} (F_need_state : FnP K "need_state" s_need_state f_need_state fd_need_state) (g_need_state : mg "need_state" = some (.ref f_need_state)) (G_need_state : FnOk P w K mg base (L2.CX P w) 3 f_need_state fd_need_state ["web", "thing"] (spNeedState K B)) : FnOk P w K mg base (L2.CX P w) 11 f fd ["ring", "web", "start"] (spRef2 K C CR B) := by
  have b_need_web : Binds K fd_need_web ["ring", "web"] [] := F_need_web.bindsN fun _ _ _ _ _ _ us hl => match us, hl with | [_, _], _ => rfl
  have b_need_state : Binds K fd_need_state ["web", "thing"] [] := F_need_state.bindsN fun _ _ _ _ _ _ us hl => match us, hl with | [_, _], _ => rfl
  refine F.ok (CX := L2.CX P w) sc_by_best (fun vs H Q E h => ?_) (fun cdv A outer s H vs Q E hr h => ?_)
  · obtain ⟨r, v, t, o, d, x, i, rfl, _⟩ := h
    rfl
  · obtain ⟨r, v, t, o, d, x, i, rfl, hA, hv, ht, hi, qE⟩ := h
    have hu := hu_of hr
    have hu64 := hr.units
    have hr_need_web := hr.mono (by decide : 10 ≤ 10)
    have hr_need_state := hr.mono (by decide : 3 ≤ 10)
    refine ⟨_, (pss_cons (ps_expr (pe_call G_need_web hr_need_web rfl g_need_web F_need_web.kp b_need_web .nil (passes_call (takes_of rfl rfl rfl rfl) (fun _ _ _ _ h => h)) (pa_cons (pv 0) (pa_cons (pv 1) pa_nil)))) (pss_cons (ps_expr (pe_call G_need_state hr_need_state rfl g_need_state F_need_state.kp b_need_state .nil (passes_call (takes_of rfl rfl rfl rfl) (fun _ _ _ _ h => h)) (pa_cons (pv 1) (pa_cons (pv 2) pa_nil)))) pss_dead)), ?_⟩
    refine ⟨_, rfl, _, rfl, r, v, o, d, rfl, hA, hv, fun hn H1 e1 => ?_, fun j hj => (by obtain rfl := verdS_some hi hj; exact qE)⟩
    obtain ⟨hx, rfl⟩ := verdS_none hi hn
    obtain ⟨k, rfl, hc, hw⟩ := verd_none hn
    obtain ⟨n, sd, rfl⟩ := web_two hw
    exact ⟨_, rfl, _, rfl, v, t, n, sd, x, rfl, hv.ex e1, ht.up e1, fun h => (by have hx : whO 0 (n - 1) x = false := hx; rw [h] at hx; cases hx), fun _ => qE.up e1⟩
abbrev s_paper : Stmt := top 108
theorem sc_paper : FnScope ["ring", "web", "start", "numbers", "_", "path"] ["ring", "web", "start"] (defScope s_paper) := ⟨rfl, rfl, rfl, by decide +kernel, rfl, by decide +kernel, by decide +kernel⟩
theorem ok_paper {f : Addr} {fd : FuncData} (F : FnP K "paper" s_paper f fd) {C : KC} {CR : Addr} {B : Bads} {f_need_web : Addr} {fd_need_web : FuncData} (F_need_web : FnP K "need_web" s_need_web f_need_web fd_need_web) (g_need_web : mg "need_web" = some (.ref f_need_web)) (G_need_web : FnOk P w K mg base (L2.CX P w) 10 f_need_web fd_need_web ["ring", "web"] (spNeedWeb C CR B)) {f_need_state : Addr} {fd_need_state : FuncData} (F_need_state : FnP K "need_state" s_need_state f_need_state fd_need_state) (g_need_state : mg "need_state" = some (.ref f_need_state)) (G_need_state : FnOk P w K mg base (L2.CX P w) 3 f_need_state fd_need_state ["web", "thing"] (spNeedState K B)) : FnOk P w K mg base (L2.CX P w) 11 f fd ["ring", "web", "start"] (spRef2 K C CR B) := by
  have b_need_web : Binds K fd_need_web ["ring", "web"] [] := F_need_web.bindsN fun _ _ _ _ _ _ us hl => match us, hl with | [_, _], _ => rfl
  have b_need_state : Binds K fd_need_state ["web", "thing"] [] := F_need_state.bindsN fun _ _ _ _ _ _ us hl => match us, hl with | [_, _], _ => rfl
  refine F.ok (CX := L2.CX P w) sc_paper (fun vs H Q E h => ?_) (fun cdv A outer s H vs Q E hr h => ?_)
  · obtain ⟨r, v, t, o, d, x, i, rfl, _⟩ := h
    rfl
  · obtain ⟨r, v, t, o, d, x, i, rfl, hA, hv, ht, hi, qE⟩ := h
    have hu := hu_of hr
    have hu64 := hr.units
    have hr_need_web := hr.mono (by decide : 10 ≤ 10)
    have hr_need_state := hr.mono (by decide : 3 ≤ 10)
    refine ⟨_, (pss_cons (ps_expr (pe_call G_need_web hr_need_web rfl g_need_web F_need_web.kp b_need_web .nil (passes_call (takes_of rfl rfl rfl rfl) (fun _ _ _ _ h => h)) (pa_cons (pv 0) (pa_cons (pv 1) pa_nil)))) (pss_cons (ps_expr (pe_call G_need_state hr_need_state rfl g_need_state F_need_state.kp b_need_state .nil (passes_call (takes_of rfl rfl rfl rfl) (fun _ _ _ _ h => h)) (pa_cons (pv 1) (pa_cons (pv 2) pa_nil)))) pss_dead)), ?_⟩
    refine ⟨_, rfl, _, rfl, r, v, o, d, rfl, hA, hv, fun hn H1 e1 => ?_, fun j hj => (by obtain rfl := verdS_some hi hj; exact qE)⟩
    obtain ⟨hx, rfl⟩ := verdS_none hi hn
    obtain ⟨k, rfl, hc, hw⟩ := verd_none hn
    obtain ⟨n, sd, rfl⟩ := web_two hw
    exact ⟨_, rfl, _, rfl, v, t, n, sd, x, rfl, hv.ex e1, ht.up e1, fun h => (by have hx : whO 0 (n - 1) x = false := hx; rw [h] at hx; cases hx), fun _ => qE.up e1⟩
abbrev s_check : Stmt := top 109
theorem sc_check : FnScope ["ring", "web", "start", "row", "paper", "kind", "state", "weight"] ["ring", "web", "start", "row", "paper"] (defScope s_check) := ⟨rfl, rfl, rfl, by decide +kernel, rfl, by decide +kernel, by decide +kernel⟩
theorem ok_check {f : Addr} {fd : FuncData} (F : FnP K "check" s_check f fd) {C : KC} {CR : Addr} {B : Bads} {f_need_web : Addr} {fd_need_web : FuncData} (F_need_web : FnP K "need_web" s_need_web f_need_web fd_need_web) (g_need_web : mg "need_web" = some (.ref f_need_web)) (G_need_web : FnOk P w K mg base (L2.CX P w) 10 f_need_web fd_need_web ["ring", "web"] (spNeedWeb C CR B)) {f_need_state : Addr} {fd_need_state : FuncData} (F_need_state : FnP K "need_state" s_need_state f_need_state fd_need_state) (g_need_state : mg "need_state" = some (.ref f_need_state)) (G_need_state : FnOk P w K mg base (L2.CX P w) 3 f_need_state fd_need_state ["web", "thing"] (spNeedState K B)) : FnOk P w K mg base (L2.CX P w) 11 f fd ["ring", "web", "start", "row", "paper"] (spRef3 K C CR B) := by
  have b_need_web : Binds K fd_need_web ["ring", "web"] [] := F_need_web.bindsN fun _ _ _ _ _ _ us hl => match us, hl with | [_, _], _ => rfl
  have b_need_state : Binds K fd_need_state ["web", "thing"] [] := F_need_state.bindsN fun _ _ _ _ _ _ us hl => match us, hl with | [_, _], _ => rfl
  refine F.ok (CX := L2.CX P w) sc_check (fun vs H Q E h => ?_) (fun cdv A outer s H vs Q E hr h => ?_)
  · obtain ⟨r, v, t, a, b, o, d, x, i, rfl, _⟩ := h
    rfl
  · obtain ⟨r, v, t, a, b, o, d, x, i, rfl, hA, hv, ht, hi, qE⟩ := h
    have hu := hu_of hr
    have hu64 := hr.units
    have hr_need_web := hr.mono (by decide : 10 ≤ 10)
    have hr_need_state := hr.mono (by decide : 3 ≤ 10)
    refine ⟨_, (pss_cons (ps_expr (pe_call G_need_web hr_need_web rfl g_need_web F_need_web.kp b_need_web .nil (passes_call (takes_of rfl rfl rfl rfl) (fun _ _ _ _ h => h)) (pa_cons (pv 0) (pa_cons (pv 1) pa_nil)))) (pss_cons (ps_expr (pe_call G_need_state hr_need_state rfl g_need_state F_need_state.kp b_need_state .nil (passes_call (takes_of rfl rfl rfl rfl) (fun _ _ _ _ h => h)) (pa_cons (pv 1) (pa_cons (pv 2) pa_nil)))) pss_dead)), ?_⟩
    refine ⟨_, rfl, _, rfl, r, v, o, d, rfl, hA, hv, fun hn H1 e1 => ?_, fun j hj => (by obtain rfl := verdS_some hi hj; exact qE)⟩
    obtain ⟨hx, rfl⟩ := verdS_none hi hn
    obtain ⟨k, rfl, hc, hw⟩ := verd_none hn
    obtain ⟨n, sd, rfl⟩ := web_two hw
    exact ⟨_, rfl, _, rfl, v, t, n, sd, x, rfl, hv.ex e1, ht.up e1, fun h => (by have hx : whO 0 (n - 1) x = false := hx; rw [h] at hx; cases hx), fun _ => qE.up e1⟩
abbrev s_why_endless : Stmt := top 102
theorem sc_why_endless : FnScope ["ring", "web", "i", "j", "kind", "live", "state", "ways", "between", "told", "turn", "number", "step"] ["ring", "web", "i", "j"] (defScope s_why_endless) := ⟨rfl, rfl, rfl, by decide +kernel, rfl, by decide +kernel, by decide +kernel⟩
theorem ok_why_endless {f : Addr} {fd : FuncData} (F : FnP K "why_endless" s_why_endless f fd) {C : KC} {CR : Addr} {B : Bads} {f_need_web : Addr} {fd_need_web : FuncData} (F_need_web : FnP K "need_web" s_need_web f_need_web fd_need_web) (g_need_web : mg "need_web" = some (.ref f_need_web)) (G_need_web : FnOk P w K mg base (L2.CX P w) 10 f_need_web fd_need_web ["ring", "web"] (spNeedWeb C CR B)) {f_need_state : Addr} {fd_need_state : FuncData} (F_need_state : FnP K "need_state" s_need_state f_need_state fd_need_state) (g_need_state : mg "need_state" = some (.ref f_need_state)) (G_need_state : FnOk P w K mg base (L2.CX P w) 3 f_need_state fd_need_state ["web", "thing"] (spNeedState K B)) : FnOk P w K mg base (L2.CX P w) 11 f fd ["ring", "web", "i", "j"] (spRef4 K C CR B) := by
  have b_need_web : Binds K fd_need_web ["ring", "web"] [] := F_need_web.bindsN fun _ _ _ _ _ _ us hl => match us, hl with | [_, _], _ => rfl
  have b_need_state : Binds K fd_need_state ["web", "thing"] [] := F_need_state.bindsN fun _ _ _ _ _ _ us hl => match us, hl with | [_, _], _ => rfl
  refine F.ok (CX := L2.CX P w) sc_why_endless (fun vs H Q E h => ?_) (fun cdv A outer s H vs Q E hr h => ?_)
  · obtain ⟨r, v, t, u, o, d, x, y, i, rfl, _⟩ := h
    rfl
  · obtain ⟨r, v, t, u, o, d, x, y, i, rfl, hA, hv, ht, hy, hi, qE⟩ := h
    have hu := hu_of hr
    have hu64 := hr.units
    have hr_need_web := hr.mono (by decide : 10 ≤ 10)
    have hr_need_state := hr.mono (by decide : 3 ≤ 10)
    refine ⟨_, (pss_cons (ps_expr (pe_call G_need_web hr_need_web rfl g_need_web F_need_web.kp b_need_web .nil (passes_call (takes_of rfl rfl rfl rfl) (fun _ _ _ _ h => h)) (pa_cons (pv 0) (pa_cons (pv 1) pa_nil)))) (pss_cons (ps_expr (pe_call G_need_state hr_need_state rfl g_need_state F_need_state.kp b_need_state .nil (passes_call (takes_of rfl rfl rfl rfl) (fun _ _ _ _ h => h)) (pa_cons (pv 1) (pa_cons (pv 2) pa_nil)))) (pss_cons (ps_expr (pe_call G_need_state hr_need_state rfl g_need_state F_need_state.kp b_need_state .nil (passes_call (takes_of rfl rfl rfl rfl) (fun _ _ _ _ h => h)) (pa_cons (pv 1) (pa_cons (pv 3) pa_nil)))) pss_dead))), ?_⟩
    refine ⟨_, rfl, _, rfl, r, v, o, d, rfl, hA, hv, fun hn H1 e1 => ?_, fun j hj => ?_⟩
    · obtain ⟨k, rfl, hc, hw⟩ := verd_none hn
      obtain ⟨n, sd, rfl⟩ := web_two hw
      unfold verdT verdS at hi
      rw [hn] at hi
      refine ⟨_, rfl, _, rfl, v, t, n, sd, x, rfl, hv.ex e1, ht.up e1, fun h1 H2 e2 => ?_, fun h1 => ?_⟩
      · have h1' : okSt (.tuple [.int n, sd]) x = true := h1
        rw [if_pos h1'] at hi
        dsimp only at hi
        refine ⟨_, rfl, _, rfl, v, u, n, sd, y, rfl, hv.ex (e1.trans e2), hy.up (e1.trans e2), fun h2 => ?_, fun h2 => ?_⟩
        · have h2' : okSt (.tuple [.int n, sd]) y = true := h2
          rw [if_pos h2'] at hi
          cases hi
        · have h2' : ¬okSt (.tuple [.int n, sd]) y = true := by
            show ¬ whO 0 (n - 1) y = true
            rw [h2]
            decide
          rw [if_neg h2'] at hi
          cases hi
          exact qE.up (e1.trans e2)
      · have h1' : ¬okSt (.tuple [.int n, sd]) x = true := by
          show ¬ whO 0 (n - 1) x = true
          rw [h1]
          decide
        rw [if_neg h1'] at hi
        cases hi
        exact qE.up e1
    · unfold verdT verdS at hi
      rw [hj] at hi
      cases hi
      exact qE
abbrev s_path_weight : Stmt := top 60
theorem sc_path_weight : FnScope ["ring", "web", "path", "steps", "number"] ["ring", "web", "path"] (defScope s_path_weight) := ⟨rfl, rfl, rfl, by decide +kernel, rfl, by decide +kernel, by decide +kernel⟩
theorem ok_path_weight {f : Addr} {fd : FuncData} (F : FnP K "path_weight" s_path_weight f fd) {C : KC} {CR : Addr} {B : Bads} {f_need_web : Addr} {fd_need_web : FuncData} (F_need_web : FnP K "need_web" s_need_web f_need_web fd_need_web) (g_need_web : mg "need_web" = some (.ref f_need_web)) (G_need_web : FnOk P w K mg base (L2.CX P w) 10 f_need_web fd_need_web ["ring", "web"] (spNeedWeb C CR B)) {f_is_path : Addr} {fd_is_path : FuncData} (F_is_path : FnP K "is_path" s_is_path f_is_path fd_is_path) (g_is_path : mg "is_path" = some (.ref f_is_path)) (G_is_path : FnOk P w K mg base (CX0) 3 f_is_path fd_is_path ["steps", "path"] (spIsPath K)) (O_BadPath : OwnX P w K mg "BadPath" B.cP [("why" : Str)]) (z_len : mg "len" = none) : FnOk P w K mg base (L2.CX P w) 11 f fd ["ring", "web", "path"] (spRef5 K C CR B) := by
  have b_need_web : Binds K fd_need_web ["ring", "web"] [] := F_need_web.bindsN fun _ _ _ _ _ _ us hl => match us, hl with | [_, _], _ => rfl
  refine F.ok (CX := L2.CX P w) sc_path_weight (fun vs H Q E h => ?_) (fun cdv A outer s H vs Q E hr h => ?_)
  · obtain ⟨r, v, p, o, d, rfl, _⟩ := h
    rfl
  · obtain ⟨r, v, p, o, d, rfl, hA, hv, hc⟩ := h
    have hu := hu_of hr
    have hu64 := hr.units
    have hr_need_web := hr.mono (by decide : 10 ≤ 10)
    have hr_is_path := hr.mono (by decide : 3 ≤ 10)
    have b_is_path : Binds K fd_is_path ["steps", "path"] [] := F_is_path.bindsN fun _ _ _ _ _ _ us hl => match us, hl with | [_, _], _ => rfl
    refine ⟨_, (pss_cons (ps_expr (pe_call G_need_web hr_need_web rfl g_need_web F_need_web.kp b_need_web .nil (passes_call (takes_of rfl rfl rfl rfl) (fun _ _ _ _ h => h)) (pa_cons (pv 0) (pa_cons (pv 1) pa_nil))))
      (pss_cons (ps_set (i := 3) sc_path_weight.nd rfl (Or.inr rfl) (pe_ix ix_tup (pv 1) pe_int (fun _ _ => rfl)))
      (pss_cons (ps_if (PW.pt (pw_or (pt_not (pt_val (pe_call G_is_path hr_is_path rfl g_is_path F_is_path.kp b_is_path .nil pass0 (pa_cons (pv 3) (pa_cons (pv 2) pa_nil))))) (pw_or1 (pt_cmpR op_eq (pe_callB call_len_seq (by rfl) z_len PySem.boot_len (pa_cons (pv 2) pa_nil)) pe_int (nomark _))))) (pss_one (ps_raise (W := fun cls d _ H => E cls d H) rfl (takes_of rfl rfl rfl rfl) (pmk_own1 O_BadPath hr (pa_cons pe_str pa_nil) (by rfl)))) pss_nil)
      pss_dead))), ?_⟩
    rcases hc with ⟨i, hi, qE⟩ | ⟨n, ss, l, hn, rfl, hW, hP, hl, qE⟩
    · exact ⟨_, rfl, _, rfl, r, v, o, d, rfl, hA, hv, fun h => (by rw [hi] at h; cases h), fun j hj => (by rw [hi] at hj; cases hj; exact qE)⟩
    refine ⟨_, rfl, _, rfl, r, v, o, webD n ss, rfl, hA, hv, fun _ H1 e1 => ?_, fun j hj => (by rw [hn] at hj; cases hj)⟩
    obtain ⟨a, p1, us, rfl, ha, hp1, hus, hlen⟩ := web_at hW
    dsimp only
    refine q_asg (v := .ref p1) (ev_op (ev_var rfl) ev_c (rv_ixT (.inl (.inl (e1 _ _ ha))) rfl)) fun H2 e2 => ?_
    have e12 := e1.trans e2
    refine q_when (b := !isPathB ss l || decide (lineLen l = 0)) (et_or (et_not (et_B (ev_call (ea_cons (ev_var rfl) (ea_cons (ev_var rfl) ea_nil)) fun H3 e3 Q' k' E' => ⟨p1, us, ss, p, l, rfl, (e12.trans e3) _ _ hp1, hus.ex (e12.trans e3), hP.up (e12.trans e3), fun H4 e4 => k' H4 e4⟩))) fun hb => ?_) (fun hb H3 e3 => ?_) (fun hb H3 e3 => ?_)
    · cases l with
      | none => cases hb
      | some os =>
        obtain ⟨pa, qq, xs, rfl, hpa, hN, hz⟩ := id hP
        refine et_is (et_test (ev_eqI (ev_lenQ (ev_var rfl) (ex_q e12 (SqQ.of hpa))) ev_c)) ?_
        rw [hN.len]
        show ((os.length : Int) == 0) = decide (os.length = 0)
        rw [Bool.eq_iff_iff, beq_iff_eq, decide_eq_true_eq]
        omega
    · exact ⟨rfl, fun d hd => qE H3 d (e12.trans e3) hd⟩
    · rw [Bool.or_eq_false_iff, decide_eq_false_iff_not, Bool.not_eq_false'] at hb
      rcases hl with h | h
      · rw [h] at hb
        cases hb.1
      · exact absurd h hb.2
end
end D1
end
section
set_option Elab.async false
set_option linter.all false
set_option maxRecDepth 100000
set_option maxHeartbeats 4000000
/-! WC: the law's whole numbers, good weights -/
namespace D1
open PySem L2 Evl RZ ClX PySem.VX
def spLWhole (K : PySem.W.Frag) : Sp := fun vs H Q _ => ∃ (v : V) (o : Option Int) (lo hi : Int), vs = [v, .int lo, .int hi] ∧ Num K H v o ∧ ∀ H', Ex H H' → Q (.bl (whO lo hi o)) H'
def spLGood (n : Nat) : Sp := fun vs H Q _ => ∃ (mv v : V) (k : RK) (d : PyData), vs = [mv, v] ∧ DtAt H mv (madeD k) ∧ k.depth < n ∧ k.ok ∧ k.clsd = true ∧ OdAt Any H v d ∧ Sz 4400 d ∧ ∀ H', Ex H H' → Q (.bl (goodB k d)) H'
theorem share_bool (p r : Int) : (decide (0 ≤ p) && decide (p ≤ r) && (decide (0 < r) && PyData.eqv (low p r) (.tuple [.int p, .int r]))) = (decide (0 ≤ p) && decide (p ≤ r) && (gI p r == 1)) := by
  by_cases h : 0 ≤ p ∧ p ≤ r
  · obtain ⟨h1, h2⟩ := h
    rw [decide_eq_true h1, decide_eq_true h2, Bool.true_and, Bool.true_and]
    obtain ⟨P, rfl⟩ : ∃ P : Nat, p = (P : Int) := ⟨p.toNat, by omega⟩
    obtain ⟨R, rfl⟩ : ∃ R : Nat, r = (R : Int) := ⟨r.toNat, by omega⟩
    by_cases hR : 0 < R
    · rw [decide_eq_true (by omega : (0 : Int) < (R : Int)), Bool.true_and, low_nat]
      show (((((lowN P R).1 : Nat) : Int) == (P : Int)) && (((((lowN P R).2 : Nat) : Int) == (R : Int)) && true)) = (gI P R == 1)
      have hg : gI (P : Int) (R : Int) = ((Nat.gcd P R : Nat) : Int) := by
        unfold gI
        rw [Int.natAbs_natCast, Int.natAbs_natCast]
      rw [hg, Bool.and_true, Bool.eq_iff_iff, Bool.and_eq_true, beq_iff_eq, beq_iff_eq, beq_iff_eq]
      constructor
      · rintro ⟨_, e2⟩
        have e2 : R / Nat.gcd P R = R := by exact_mod_cast e2
        rcases Nat.div_eq_self.mp e2 with h | h
        · omega
        · exact_mod_cast h
      · intro e
        have e : Nat.gcd P R = 1 := by exact_mod_cast e
        rw [lowN_self e]
        exact ⟨rfl, rfl⟩
    · obtain rfl : R = 0 := by omega
      obtain rfl : P = 0 := by omega
      rfl
  · have : (decide (0 ≤ p) && decide (p ≤ r)) = false := by
      rw [Bool.and_eq_false_iff, decide_eq_false_iff_not, decide_eq_false_iff_not]
      omega
    rw [this, Bool.false_and, Bool.false_and]
/-- least or most -/
def sgB : RK → Bool
  | .least => true
  | .most => true
  | _ => false
def psB : RK → Bool
  | .pair _ _ => true
  | .share => true
  | _ => false
theorem sgn_inV {k : RK} : inV (.str (nameOf k)) [V.str "least", .str "most"] = sgB k := by
  cases k with
  | lot _ => exact (by decide +kernel : inV (.str "lot") [V.str "least", .str "most"] = false)
  | pair _ _ => exact (by decide +kernel : inV (.str "pair") [V.str "least", .str "most"] = false)
  | rest _ => exact (by decide +kernel : inV (.str "rest") [V.str "least", .str "most"] = false)
  | terms _ => exact (by decide +kernel : inV (.str "terms") [V.str "least", .str "most"] = false)
  | tab _ _ => exact (by decide +kernel : inV (.str "table") [V.str "least", .str "most"] = false)
  | _ => decide +kernel
theorem ps_inV {k : RK} : inV (.str (nameOf k)) [V.str "pair", .str "share"] = psB k := by
  cases k with
  | lot _ => exact (by decide +kernel : inV (.str "lot") [V.str "pair", .str "share"] = false)
  | pair _ _ => exact (by decide +kernel : inV (.str "pair") [V.str "pair", .str "share"] = true)
  | rest _ => exact (by decide +kernel : inV (.str "rest") [V.str "pair", .str "share"] = false)
  | terms _ => exact (by decide +kernel : inV (.str "terms") [V.str "pair", .str "share"] = false)
  | tab _ _ => exact (by decide +kernel : inV (.str "table") [V.str "pair", .str "share"] = false)
  | _ => decide +kernel
theorem pair_shaped (p r : Int) : SeqAt.shaped (.tuple [.int p, .int r]) = true := by
  show (true && decide (PyData.depth (.tuple [.int p, .int r]) ≤ 64)) = true
  rw [Bool.true_and, decide_eq_true_eq]
  simp [PyData.depth, PyData.depthAll]
theorem ev_orT {ta tb : TE} {σ : L2.St} {H : Hp} (ha : Ev ta σ H (.bl true)) : Ev (tOrV ta tb) σ H (.bl true) := ev_orV (a := true) (b := true) ha (fun h => by cases h)
theorem ev_neZ {σ : L2.St} {H : Hp} {ta tb : TE} {x y : Str} (ha : Ev ta σ H (.str x)) (hb : Ev tb σ H (.str y)) : Ev (tOp rNe ta tb) σ H (.bl (!(x == y))) := (by
  have h := ev_op ha hb (show RV rNe (.str x) (.str y) H (.bl (!decide (V.str x = V.str y))) from fun H1 _ _ q => ⟨rfl, q H1 (Ex.refl H1)⟩)
  rw [dec_str] at h
  exact h)
section
variable {P : Program} {w : World} {K : PySem.W.Frag} {mg : Str → Option Value} {base : Heap}
abbrev s_whole : Stmt := top 124
theorem sc_whole : FnScope ["_law_thing", "_law_least", "_law_most"] ["_law_thing", "_law_least", "_law_most"] (defScope s_whole) := ⟨rfl, rfl, rfl, by decide +kernel, rfl, by decide +kernel, by decide +kernel⟩
theorem ok_whole {f : Addr} {fd : FuncData} (F : FnP K "_law_whole" s_whole f fd) (z_isinstance : mg "isinstance" = none) (z_int : mg "int" = none) (z_bool : mg "bool" = none) : FnOk P w K mg base (CX0) 1 f fd ["_law_thing", "_law_least", "_law_most"] (spLWhole K) := by
  refine F.ok (CX := CX0) sc_whole (fun vs H Q E h => ?_) (fun cdv A outer s H vs Q E hr h => ?_)
  · obtain ⟨v, o, lo, hi, rfl, _⟩ := h
    rfl
  · obtain ⟨v, o, lo, hi, rfl, hN, q⟩ := h
    have hu := hu_of hr
    have hu64 := hr.units
    refine ⟨_, PSs.nox (pss_one (ps_ret (pe_and (pe_callB call_isi (by rfl) z_isinstance PyProof.Rows.boot_isinstance (pa_cons (pv 0) (pa_cons (pe_bltn (v := .ty "int") rfl z_int (by decide +kernel) rfl) pa_nil))) (pe_and (pe_not (pe_callB call_isi (by rfl) z_isinstance PyProof.Rows.boot_isinstance (pa_cons (pv 0) (pa_cons (pe_bltn (v := .ty "bool") rfl z_bool (by decide +kernel) rfl) pa_nil)))) (pe_one (pe_chain op_le op_le (pv 1) (pv 0) (pv 2))))))), ?_⟩
    obtain ⟨a, b, c, d, e, tl, h1, h2⟩ := id hN
    refine s_ret (D := { nx := fun _ H' => Q .non H', rt := Q }) (v := .bl (a && (!b && whO lo hi o))) (ev_andV (ev_tInt (ev_var rfl) tl) fun ha => ev_andV (ev_notV (ev_tBool (ev_var rfl) tl)) fun hb => ?_) fun H1 e1 => ?_
    · rw [ha, hb] at h1
      cases o with
      | none => cases h1
      | some i =>
        obtain rfl := h2 i rfl
        exact ev_chainLe (ev_var rfl) (ev_var rfl) (ev_var rfl)
    · have : (a && (!b && whO lo hi o)) = whO lo hi o := by
        rw [← Bool.and_assoc, h1]
        cases o <;> rfl
      rw [this]
      exact q H1 e1
abbrev s_good : Stmt := top 125
theorem sc_good : FnScope ["_law_made", "_law_thing", "_law_kind", "_law_part"] ["_law_made", "_law_thing"] (defScope s_good) := ⟨rfl, rfl, rfl, by decide +kernel, rfl, by decide +kernel, by decide +kernel⟩
theorem ok_good {f : Addr} {fd : FuncData} (F : FnP K "_law_good" s_good f fd) (g_good : mg "_law_good" = some (.ref f)) {f_lowest : Addr} {fd_lowest : FuncData} (F_lowest : FnP K "_law_lowest" s_lowest f_lowest fd_lowest) (g_lowest : mg "_law_lowest" = some (.ref f_lowest)) (G_lowest : FnOk P w K mg base (CX0) 1 f_lowest fd_lowest ["_law_top", "_law_bottom"] (spLowest)) (z_isinstance : mg "isinstance" = none) (z_tuple : mg "tuple" = none) (z_bool : mg "bool" = none) (z_str : mg "str" = none) (z_int : mg "int" = none) (z_len : mg "len" = none) (z_all : mg "all" = none) : ∀ g : Nat, FnOk P w K mg base CX0 (g + 3) f fd ["_law_made", "_law_thing"] (spLGood g) := by
  have F_good := F
  have b_good : Binds K fd ["_law_made", "_law_thing"] [] := F_good.bindsN fun _ _ _ _ _ _ us hl => match us, hl with | [_, _], _ => rfl
  have b_lowest : Binds K fd_lowest ["_law_top", "_law_bottom"] [] := F_lowest.bindsN fun _ _ _ _ _ _ us hl => match us, hl with | [_, _], _ => rfl
  intro g
  induction g with
  | zero =>
    refine fn_never fun vs H Q E h => ?_
    obtain ⟨mv, v, k, d, rfl, hM, hn, _⟩ := h
    exact Nat.not_lt_zero _ hn
  | succ g ih =>
    have G_good := ih
    refine F.ok sc_good (fun vs H Q E h => ?_) (fun cdv A outer s H vs Q E hr h => ?_)
    · obtain ⟨mv, v, k, d, rfl, _⟩ := h
      rfl
    · obtain ⟨mv, v, k, d, rfl, hM, hn, hok, hc, hx, hz, q⟩ := h
      have hu := hu_of hr
      have hu64 := hr.units
      have hr_good := hr
      have hr_lowest := hr.mono (by omega : 1 ≤ g + 3)
      refine ⟨_, PSs.nox (pss_cons (ps_set (i := 2) sc_good.nd rfl (Or.inl rfl) (pe_ix ix_tup (pv 0) pe_int (fun _ _ => rfl)))
      (pss_cons (ps_if (pt_cmpR op_in_seq (pv 2) (pe_tup (pa_cons pe_str (pa_cons pe_str pa_nil))) (by rfl)) (pss_cons (ps_if (PW.pt (pw_or (pt_not (pt_val (pe_callB call_isi (by rfl) z_isinstance PyProof.Rows.boot_isinstance (pa_cons (pv 1) (pa_cons (pe_bltn (v := .ty "tuple") rfl z_tuple (by decide +kernel) rfl) pa_nil))))) (pw_or1 (pt_cmpR op_ne (pe_callB call_len_seq (by rfl) z_len PySem.boot_len (pa_cons (pv 1) pa_nil)) pe_int (nomark _))))) (pss_one (ps_ret pe_bl)) pss_nil)
      (pss_cons (ps_if (pt_cmpR op_eq (pv 2) pe_str (nomark _)) (pss_one (ps_ret (pe_and (pe_call G_good hr_good rfl g_good F_good.kp b_good .nil pass0 (pa_cons (pe_ix ix_tup (pv 0) pe_int (fun _ _ => rfl)) (pa_cons (pe_ix ix_tup (pv 1) pe_int (fun _ _ => rfl)) pa_nil))) (pe_one (pe_call G_good hr_good rfl g_good F_good.kp b_good .nil pass0 (pa_cons (pe_ix ix_tup (pv 0) pe_int (fun _ _ => rfl)) (pa_cons (pe_ix ix_tup (pv 1) pe_int (fun _ _ => rfl)) pa_nil))))))) pss_nil)
      (pss_cons (ps_if (pt_not (pt_val (pe_callB (cr_all rfl) (by rfl) z_all PyProof.Rows.boot_all (pa_cons (pe_lc (own := [("_law_part", 3)]) (g := gName 3) (tt := tYes) (te := tAndV (tCB (rIsi K) (tCons (tVar 3) (tCons (tC (.ty "int")) tNil))) (tNotV (tCB (rIsi K) (tCons (tVar 3) (tCons (tC (.ty "bool")) tNil))))) (by rfl) sc_good.nd (pi_seq (pv 1)) (blkOk_by (own := [("_law_part", 3)]) (N := ["_law_made", "_law_thing", "_law_kind", "_law_part"]) (sc := defScope s_good) (by decide +kernel)) (fun _ _ _ _ _ => pg_name (i := 3) sc_good.nd rfl (Or.inl rfl)) (fun _ _ _ _ _ => pts_nil) (fun _ _ _ _ _ => pe_and (pe_callB call_isi (by rfl) z_isinstance PyProof.Rows.boot_isinstance (pa_cons (pv 3) (pa_cons (pe_bltn (v := .ty "int") rfl z_int (by decide +kernel) rfl) pa_nil))) (pe_one (pe_not (pe_callB call_isi (by rfl) z_isinstance PyProof.Rows.boot_isinstance (pa_cons (pv 3) (pa_cons (pe_bltn (v := .ty "bool") rfl z_bool (by decide +kernel) rfl) pa_nil))))))) pa_nil)))) (pss_one (ps_ret pe_bl)) pss_nil)
      (pss_one (ps_ret (pe_and (pe_chain op_le op_le pe_int (pe_ix ix_tup (pv 1) pe_int (fun _ _ => rfl)) (pe_ix ix_tup (pv 1) pe_int (fun _ _ => rfl))) (pe_and (pe_cmpR op_gt (pe_ix ix_tup (pv 1) pe_int (fun _ _ => rfl)) pe_int (nomark _)) (pe_one (pe_cmpR (op_eqD hu64) (pe_call G_lowest hr_lowest rfl g_lowest F_lowest.kp b_lowest .nil pass0 (pa_cons (pe_ix ix_tup (pv 1) pe_int (fun _ _ => rfl)) (pa_cons (pe_ix ix_tup (pv 1) pe_int (fun _ _ => rfl)) pa_nil))) (pv 1) (nomark _)))))))))) pss_nil)
      (pss_cons (ps_if (pt_cmpR op_eq (pv 2) pe_str (nomark _)) (pss_one (ps_ret (pe_callB call_isi (by rfl) z_isinstance PyProof.Rows.boot_isinstance (pa_cons (pv 1) (pa_cons (pe_bltn (v := .ty "bool") rfl z_bool (by decide +kernel) rfl) pa_nil))))) pss_nil)
      (pss_cons (ps_if (pt_val (pe_callB call_isi (by rfl) z_isinstance PyProof.Rows.boot_isinstance (pa_cons (pv 1) (pa_cons (pe_bltn (v := .ty "str") rfl z_str (by decide +kernel) rfl) pa_nil)))) (pss_one (ps_ret (pe_or (pe_and (pe_cmpR op_eq (pv 1) pe_str (nomark _)) (pe_one (pe_cmpR op_ne (pv 2) pe_str (nomark _)))) (pe_one (pe_and (pe_cmpR op_eq (pv 1) pe_str (nomark _)) (pe_one (pe_cmpR op_in_seq (pv 2) (pe_tup (pa_cons pe_str (pa_cons pe_str pa_nil))) (by rfl)))))))) pss_nil)
      (pss_cons (ps_if (PW.pt (pw_or (pt_not (pt_val (pe_callB call_isi (by rfl) z_isinstance PyProof.Rows.boot_isinstance (pa_cons (pv 1) (pa_cons (pe_bltn (v := .ty "int") rfl z_int (by decide +kernel) rfl) pa_nil))))) (pw_or1 (pt_val (pe_callB call_isi (by rfl) z_isinstance PyProof.Rows.boot_isinstance (pa_cons (pv 1) (pa_cons (pe_bltn (v := .ty "bool") rfl z_bool (by decide +kernel) rfl) pa_nil))))))) (pss_one (ps_ret pe_bl)) pss_nil)
      (pss_one (ps_ret (pe_or (pe_cmpR op_in_seq (pv 2) (pe_tup (pa_cons pe_str (pa_cons pe_str pa_nil))) (by rfl)) (pe_one (pe_and (pe_cmpR op_le pe_int (pv 1) (nomark _)) (pe_one (pe_or (pe_cmpR op_ne (pv 2) pe_str (nomark _)) (pe_one (pe_cmpR op_lt (pv 1) (pe_op op_shl pe_int (pe_ix ix_tup (pv 0) pe_int (fun _ _ => rfl))) (nomark _))))))))))))))), ?_⟩
      obtain ⟨a, xs, rfl, ha, h1, h2, h4, h3⟩ := made_at hM
      refine q_asg (v := .str (nameOf k)) (ev_op (ev_var rfl) ev_c (rv_ixT (st_of ha) (v := .str (nameOf k)) (atI_of (Int.le_refl 0) rfl))) fun H1 e1 => ?_
      have tk : ∀ {G : Hp} {t : Str}, EvT (tTest (tOp rEq (tVar 2) (tC (.str t)))) [some (.ref a), some v, some (.str (nameOf k)), none] G (nameOf k == t) := fun {G t} => et_test (ev_eqS (ev_var rfl) ev_c)
      have sg : ∀ {G : Hp} {x y : Str}, Ev (tOp (rIn K false) (tVar 2) (tTup (tCons (tC (.str x)) (tCons (tC (.str y)) tNil)))) [some (.ref a), some v, some (.str (nameOf k)), none] G (.bl (inV (.str (nameOf k)) [.str x, .str y])) := fun {G x y} => ev_inU (ev_var rfl) (eu_tup (ea_cons ev_c (ea_cons ev_c ea_nil)) (by show 2 ≤ 100000; decide)) rfl rfl
      refine q_when (b := psB k) (et_is (et_test sg) ps_inV) (fun hps H2 e2 => ?_) (fun hps H2 e2 => ?_)
      · have e02 := e1.trans e2
        refine q_when (b := !dTu d || !decide (lenD d = 2)) (et_or (et_not (et_B (ev_tTup (ev_var rfl) (hx.ex e02).tells))) (fun ht => et_is (et_test (ev_neI (ev_lenD (ev_var rfl) (hx.ex e02) (by simpa using ht)) ev_c)) (ne_2 _))) (fun hb H3 e3 => s_ret ev_c fun G e => ?_) (fun hb H3 e3 => ?_)
        · have := q G ((e02.trans e3).trans e)
          cases k with
          | pair kl kr =>
            rw [show goodB (.pair kl kr) d = false from prGood_tu hb] at this
            exact this
          | share =>
            rw [show goodB .share d = false from shGood_tu hb] at this
            exact this
          | _ => cases hps
        obtain ⟨b1, b2⟩ := or_no hb
        obtain ⟨dp, dq, rfl⟩ := two_of (by simpa using b1) (by simpa using b2)
        have e03 := e02.trans e3
        obtain ⟨ax, up, uq, rfl, hax, hp, hq⟩ := id hx.two
        cases k with
        | pair kl kr =>
          obtain ⟨u, u', rfl, hy, hz'⟩ := h3 kl kr rfl
          obtain ⟨ok1, ok2⟩ : kl.ok ∧ kr.ok := hok
          obtain ⟨c1, c2⟩ := clsd_pair hc
          obtain ⟨z1, z2, _⟩ := hz
          refine q_when (b := true) (et_is tk (by show (("pair" : Str) == "pair") = true; decide +kernel)) (fun _ H4 e4 => ?_) (fun hb => (by cases hb))
          have e04 := e03.trans e4
          refine s_ret (v := .bl (goodB kl dp && goodB kr dq)) (ev_andV (ev_call (ea_cons (ev_op (ev_var rfl) ev_c (rv_ixT (st_of (e04 _ _ ha)) (v := u) rfl)) (ea_cons (ev_op (ev_var rfl) ev_c (rv_ixT (st_of (e04 _ _ hax)) (v := up) rfl)) ea_nil)) fun G e Q' k' E' => ⟨u, up, kl, dp, rfl, hy.ex (e04.trans e), depth_l hn, ok1, c1, hp.ex (e04.trans e), z1, fun G2 e2 => k' G2 e2⟩) fun _ => ev_call (ea_cons (ev_op (ev_var rfl) ev_c (rv_ixT (st_of (e04 _ _ ha)) (v := u') rfl)) (ea_cons (ev_op (ev_var rfl) ev_c (rv_ixT (st_of (e04 _ _ hax)) (v := uq) rfl)) ea_nil)) fun G e Q' k' E' => ⟨u', uq, kr, dq, rfl, hz'.ex (e04.trans e), depth_r hn, ok2, c2, hq.ex (e04.trans e), z2, fun G2 e2 => k' G2 e2⟩) fun G e => q G (e04.trans e)
        | share =>
          refine q_when (b := false) (et_is tk (by show (("share" : Str) == "pair") = false; decide +kernel)) (fun hb => (by cases hb)) (fun _ H3' e3' => ?_)
          have q : ∀ H', Ex H H' → Q (.bl (shGood (.tuple [dp, dq]))) H' := q
          replace e03 := e03.trans e3'
          rw [shGood_two] at q
          have hal : ((List.range [up, uq].length).all fun i => (dNum ([dp, dq].getD i .none)).isSome) = ((dNum dp).isSome && ((dNum dq).isSome && true)) := rfl
          refine q_when (b := !((dNum dp).isSome && ((dNum dq).isSome && true))) (et_not (et_B (ev_is (ev_allQ (q := false) (j := 3) (vs := [3]) (fun i => (dNum ([dp, dq].getD i .none)).isSome) (ev_var rfl) (SqQ.of (e03 _ _ hax)) (by show 2 ≤ 40000; decide) (fun _ => rfl) (fun i x G e hxi => ?_)) (congrArg V.bl hal)))) (fun hb3 H4 e4 => s_ret ev_c fun G e => ?_) (fun hb3 H4 e4 => ?_)
          · obtain ⟨o, ho, hN⟩ : ∃ o, dNum ([dp, dq].getD i .none) = o ∧ Num K G x o := by
              match i, hxi with
              | 0, hxi =>
                obtain rfl := Option.some.inj hxi
                exact ⟨_, rfl, (hp.ex (e03.trans e)).num⟩
              | 1, hxi =>
                obtain rfl := Option.some.inj hxi
                exact ⟨_, rfl, (hq.ex (e03.trans e)).num⟩
            rw [ho]
            obtain ⟨a1, a2, a3, a4, a5, tl, t1, t2⟩ := hN
            exact ev_is (ev_andV (ev_tInt (ev_var rfl) tl) fun _ => ev_notV (ev_tBool (ev_var rfl) tl)) (congrArg V.bl t1)
          · have := q G ((e03.trans e4).trans e)
            rw [Bool.not_eq_true'] at hb3
            cases hdp : dNum dp with
            | none =>
              rw [hdp] at this
              exact this
            | some i =>
              cases hdq : dNum dq with
              | none =>
                rw [hdp, hdq] at this
                exact this
              | some j =>
                rw [hdp, hdq] at hb3
                cases hb3
          rw [Bool.not_eq_false', Bool.and_true, Bool.and_eq_true] at hb3
          obtain ⟨c1, c2⟩ := hb3
          obtain ⟨p, rfl⟩ : ∃ p, dp = .int p := by cases dp <;> first | exact ⟨_, rfl⟩ | cases c1
          obtain ⟨r, rfl⟩ : ∃ r, dq = .int r := by cases dq <;> first | exact ⟨_, rfl⟩ | cases c2
          obtain rfl := hp.int_inv
          obtain rfl := hq.int_inv
          have q : ∀ H', Ex H H' → Q (.bl (decide (0 ≤ p) && decide (p ≤ r) && (gI p r == 1))) H' := q
          have e04 := e03.trans e4
          have hT : H4 ax = some (.tup [.int p, .int r]) := e04 _ _ hax
          have x0 : ∀ {G : Hp}, Ex H4 G → Ev (tOp (rIxT K) (tVar 1) (tC (.int 0))) [some (.ref a), some (.ref ax), some (.str (nameOf .share)), none] G (.int p) := fun {G} e => ev_op (ev_var rfl) ev_c (rv_ixT (st_of (e _ _ hT)) rfl)
          have x1 : ∀ {G : Hp}, Ex H4 G → Ev (tOp (rIxT K) (tVar 1) (tC (.int 1))) [some (.ref a), some (.ref ax), some (.str (nameOf .share)), none] G (.int r) := fun {G} e => ev_op (ev_var rfl) ev_c (rv_ixT (st_of (e _ _ hT)) rfl)
          refine s_ret (v := .bl ((decide (0 ≤ p) && decide (p ≤ r)) && (decide (0 < r) && PyData.eqv (low p r) (.tuple [.int p, .int r])))) (ev_andV (ev_chainLe ev_c (x0 (Ex.refl _)) (x1 (Ex.refl _))) fun hpr => ev_andV (ev_gtI (x1 (Ex.refl _)) ev_c) fun hr0 => ?_) fun G e => ?_
          · rw [Bool.and_eq_true, decide_eq_true_eq, decide_eq_true_eq] at hpr
            rw [decide_eq_true_eq] at hr0
            obtain ⟨P', rfl⟩ : ∃ P' : Nat, p = (P' : Int) := ⟨p.toNat, by omega⟩
            obtain ⟨R', rfl⟩ : ∃ R' : Nat, r = (R' : Int) := ⟨r.toNat, by omega⟩
            obtain ⟨z1, z2, _⟩ := hz
            have z2 : R' < 2 ^ 4400 := by
              have z2 : ((R' : Int)).natAbs < 2 ^ 4400 := z2
              rw [Int.natAbs_natCast] at z2
              exact z2
            intro G e Q' q'
            refine (x0 e) G (Ex.refl G) _ fun G1 f1 => (x1 (e.trans f1)) G1 (Ex.refl G1) _ fun G2 f2 => ⟨P', R', rfl, by omega, Nat.lt_of_lt_of_le z2 (Nat.pow_le_pow_right (by decide) (by decide)), fun rv G3 f3 hrv => ?_⟩
            refine ⟨_, rfl, _, _, hrv.dp, (DtAt.tup ((e.trans ((f1.trans f2).trans f3)) _ _ hT) (.cons (.int _) (.cons (.int _) .nil))).dp, ?_, pair_shaped _ _, q' _ ((f1.trans f2).trans f3)⟩
            rw [low_nat]
            exact pair_shaped _ _
          · rw [share_bool]
            exact q G (e04.trans e)
        | _ => cases hps
      have e02 := e1.trans e2
      have hsh : k ≠ .share := fun h => by rw [h] at hps; cases hps
      have hpa : ∀ x y, k ≠ .pair x y := fun x y h => by rw [h] at hps; cases hps
      by_cases htr : k = .truth
      · subst htr
        refine q_when (b := true) (et_is tk (by show (("truth" : Str) == "truth") = true; decide +kernel)) (fun _ H3 e3 => ?_) (fun hb => (by cases hb))
        exact s_ret (ev_tBool (ev_var rfl) (hx.ex (e02.trans e3)).tells) fun G e => q G ((e02.trans e3).trans e)
      have ntr : (nameOf k == ("truth" : Str)) = false := by
        cases k with
        | truth => exact absurd rfl htr
        | lot _ => exact (by decide +kernel : (("lot" : Str) == "truth") = false)
        | pair _ _ => exact (by decide +kernel : (("pair" : Str) == "truth") = false)
        | rest _ => exact (by decide +kernel : (("rest" : Str) == "truth") = false)
        | terms _ => exact (by decide +kernel : (("terms" : Str) == "truth") = false)
        | tab _ _ => exact (by decide +kernel : (("table" : Str) == "truth") = false)
        | _ => decide +kernel
      refine q_when (b := false) (et_is tk ntr) (fun hb => (by cases hb)) (fun _ H3 e3 => ?_)
      have e03 := e02.trans e3
      have iv := sgn_inV (k := k)
      have nl : ∀ {G : Hp}, Ev (tOp rNe (tVar 2) (tC (.str "lot"))) [some (.ref a), some v, some (.str (nameOf k)), none] G (.bl (!(nameOf k == ("lot" : Str)))) := fun {G} => ev_neZ (ev_var rfl) ev_c
      refine q_when (b := dTx d) (et_B (ev_tStr (ev_var rfl) (hx.ex e03).tells)) (fun hb H4 e4 => ?_) (fun hb H4 e4 => ?_)
      · obtain ⟨z, rfl⟩ : ∃ z, d = .str z := by cases d <;> first | exact ⟨_, rfl⟩ | cases hb
        obtain rfl := hx.str_inv
        refine s_ret (v := .bl ((z == "endless" && !(nameOf k == ("lot" : Str))) || (z == "none" && inV (.str (nameOf k)) [V.str "least", .str "most"]))) (ev_orV (ev_andV (ev_eqS (ev_var rfl) ev_c) fun _ => nl) fun _ => ev_andV (ev_eqS (ev_var rfl) ev_c) fun _ => sg) fun G e => ?_
        have : ((z == "endless" && !(nameOf k == ("lot" : Str))) || (z == "none" && inV (.str (nameOf k)) [V.str "least", .str "most"])) = goodB k (.str z) := by
          rw [iv]
          cases k with
          | truth => exact absurd rfl htr
          | share => exact absurd rfl hsh
          | pair _ _ => exact absurd rfl (hpa _ _)
          | rest _ => exact Bool.noConfusion (show false = true from hc)
          | terms _ => exact Bool.noConfusion (show false = true from hc)
          | tab _ _ => exact Bool.noConfusion (show false = true from hc)
          | lot _ =>
            show ((z == "endless" && !(("lot" : Str) == "lot")) || (z == "none" && false)) = false
            rw [show (("lot" : Str) == "lot") = true from by decide +kernel]
            simp
          | narrow =>
            show ((z == "endless" && !(("narrow" : Str) == "lot")) || (z == "none" && false)) = (z == "endless")
            rw [show (("narrow" : Str) == "lot") = false from by decide +kernel]
            simp
          | count =>
            show ((z == "endless" && !(("count" : Str) == "lot")) || (z == "none" && false)) = (z == "endless")
            rw [show (("count" : Str) == "lot") = false from by decide +kernel]
            simp
          | least =>
            show ((z == "endless" && !(("least" : Str) == "lot")) || (z == "none" && true)) = (z == "none" || z == "endless")
            rw [show (("least" : Str) == "lot") = false from by decide +kernel, Bool.and_true, Bool.or_comm]
            simp
          | most =>
            show ((z == "endless" && !(("most" : Str) == "lot")) || (z == "none" && true)) = (z == "none" || z == "endless")
            rw [show (("most" : Str) == "lot") = false from by decide +kernel, Bool.and_true, Bool.or_comm]
            simp
        rw [this]
        exact q G ((e03.trans e4).trans e)
      have e04 := e03.trans e4
      obtain ⟨a1, a2, a3, a4, a5, tl, t1, t2⟩ := (hx.ex e04).num (K := K)
      refine q_when (b := !(dNum d).isSome) (et_is (et_or (et_not (et_B (ev_tInt (ev_var rfl) tl))) fun _ => et_B (ev_tBool (ev_var rfl) tl)) (by rw [← t1]; cases a1 <;> cases a2 <;> rfl)) (fun hb2 H5 e5 => s_ret ev_c fun G e => ?_) (fun hb2 H5 e5 => ?_)
      · have hf : goodB k d = false := by
          cases k with
          | truth => exact absurd rfl htr
          | share => exact absurd rfl hsh
          | pair _ _ => exact absurd rfl (hpa _ _)
          | rest _ => exact Bool.noConfusion (show false = true from hc)
          | terms _ => exact Bool.noConfusion (show false = true from hc)
          | tab _ _ => exact Bool.noConfusion (show false = true from hc)
          | _ => cases d <;> first | rfl | exact Bool.noConfusion (show false = true from hb2) | exact Bool.noConfusion (show true = false from hb)
        rw [← hf]
        exact q G ((e04.trans e5).trans e)
      obtain ⟨i, rfl⟩ : ∃ i, d = .int i := by cases d <;> first | exact ⟨_, rfl⟩ | cases hb2
      obtain rfl := hx.int_inv
      by_cases hlo : ∃ n, k = .lot n
      · obtain ⟨n, rfl⟩ := hlo
        obtain rfl := h2 n rfl
        have n12 : n ≤ 12 := hok.2
        have haG := (e04.trans e5) _ _ ha
        refine s_ret (v := .bl (inV (.str (nameOf (.lot n))) [V.str "least", .str "most"] || (decide (0 ≤ i) && (!(nameOf (.lot n) == ("lot" : Str)) || decide (i < (1 : Int) * 2 ^ ((n : Int)).toNat))))) (ev_orV sg fun _ => ev_andV (ev_op (z := .bl (decide (0 ≤ i))) ev_c (ev_var rfl) rv_I0) fun _ => ev_orV nl fun _ => ev_op (ev_var rfl) (ev_op ev_c (ev_op (ev_var rfl) ev_c (rv_ixT (st_of haG) (v := .int (n : Int)) rfl)) (rv_I ⟨by omega, by omega, by decide⟩)) rv_I0) fun G e => ?_
        have he : (1 : Int) * 2 ^ ((n : Int)).toNat = 2 ^ n := by rw [Int.one_mul, Int.toNat_natCast]
        have : (inV (.str (nameOf (.lot n))) [V.str "least", .str "most"] || (decide (0 ≤ i) && (!(nameOf (.lot n) == ("lot" : Str)) || decide (i < (1 : Int) * 2 ^ ((n : Int)).toNat)))) = goodB (.lot n) (.int i) := by
          rw [sgn_inV, he]
          show (false || (decide (0 ≤ i) && (!(("lot" : Str) == "lot") || decide (i < 2 ^ n)))) = (decide (0 ≤ i) && decide (i ≤ 2 ^ n - 1))
          rw [show (("lot" : Str) == "lot") = true from by decide +kernel]
          have : decide (i < (2 : Int) ^ n) = decide (i ≤ (2 : Int) ^ n - 1) := by rw [decide_eq_decide]; omega
          rw [this]
          rfl
        rw [this]
        exact q G ((e04.trans e5).trans e)
      have nlo : (!(nameOf k == ("lot" : Str))) = true := by
        rw [Bool.not_eq_true', beq_eq_false_iff_ne]
        exact name_lot hc fun n h => hlo ⟨n, h⟩
      refine s_ret (v := .bl (inV (.str (nameOf k)) [V.str "least", .str "most"] || (decide (0 ≤ i) && true))) (ev_orV sg fun _ => ev_andV (ev_op (z := .bl (decide (0 ≤ i))) ev_c (ev_var rfl) rv_I0) fun _ => ev_orT (ev_is nl (by rw [nlo]))) fun G e => ?_
      have : (inV (.str (nameOf k)) [V.str "least", .str "most"] || (decide (0 ≤ i) && true)) = goodB k (.int i) := by
        rw [iv]
        cases k with
        | truth => exact absurd rfl htr
        | share => exact absurd rfl hsh
        | pair _ _ => exact absurd rfl (hpa _ _)
        | lot n => exact absurd ⟨n, rfl⟩ hlo
        | rest _ => exact Bool.noConfusion (show false = true from hc)
        | terms _ => exact Bool.noConfusion (show false = true from hc)
        | tab _ _ => exact Bool.noConfusion (show false = true from hc)
        | least => rfl
        | most => rfl
        | _ =>
          show (false || (decide (0 ≤ i) && true)) = decide (0 ≤ i)
          simp
      rw [this]
      exact q G ((e04.trans e5).trans e)
end
end D1
end
section
set_option Elab.async false
set_option linter.all false
set_option maxRecDepth 100000
set_option maxHeartbeats 4000000
/-! WD: what a web is, by the law -/
namespace D1
open PySem L2 Evl RZ ClX PySem.VX
def spLIsWeb : Sp := fun vs H Q _ => ∃ (mv v : V) (k : RK) (d : PyData), vs = [mv, v] ∧ DtAt H mv (madeD k) ∧ k.depth < 3 ∧ k.ok ∧ k.clsd = true ∧ OdAt Any H v d ∧ Sz 4400 d ∧ ∀ H', Ex H H' → Q (.bl (isWebB k d)) H'
theorem sza_mem {B : Nat} : ∀ {ds : List PyData}, SzA B ds → ∀ d ∈ ds, Sz B d
  | d :: ds, ⟨h, r⟩, x, hx => by
    rcases List.mem_cons.mp hx with rfl | hx
    · exact h
    · exact sza_mem r x hx
theorem all_false {α : Type} {f : α → Bool} {l : List α} {i : Nat} {x : α} (hx : l[i]? = some x) (h : f x = false) : l.all f = false := by
  rw [Bool.eq_false_iff]
  intro ha
  have := List.all_eq_true.mp ha x (List.mem_of_getElem? hx)
  rw [h] at this
  cases this
theorem et_or3 {t1 t2 t3 : TT} {σ : L2.St} {H : Hp} {a b : Bool} (h1 : EvT t1 σ H a) (h2 : a = false → EvT t2 σ H b) (hab : (a || b) = true) : EvT (tOr t1 (tOr t2 t3)) σ H true := by
  cases a with
  | true => exact et_is (et_or (a := true) (b := false) h1 (fun h => by cases h)) rfl
  | false =>
    have hb : b = true := hab
    subst hb
    exact et_is (et_or (a := false) h1 fun _ => et_or (a := true) (b := false) (h2 rfl) (fun h => by cases h)) rfl
section
variable {P : Program} {w : World} {K : PySem.W.Frag} {mg : Str → Option Value} {base : Heap}
abbrev s_is_web : Stmt := top 126
theorem sc_is_web : FnScope ["_law_made", "_law_thing", "_law_step"] ["_law_made", "_law_thing"] (defScope s_is_web) := ⟨rfl, rfl, rfl, by decide +kernel, rfl, by decide +kernel, by decide +kernel⟩
theorem ok_is_web {f : Addr} {fd : FuncData} (F : FnP K "_law_is_web" s_is_web f fd) {f_whole : Addr} {fd_whole : FuncData} (F_whole : FnP K "_law_whole" s_whole f_whole fd_whole) (g_whole : mg "_law_whole" = some (.ref f_whole)) (G_whole : FnOk P w K mg base (CX0) 1 f_whole fd_whole ["_law_thing", "_law_least", "_law_most"] (spLWhole K)) {f_good : Addr} {fd_good : FuncData} (F_good : FnP K "_law_good" s_good f_good fd_good) (g_good : mg "_law_good" = some (.ref f_good)) (G_good : FnOk P w K mg base (CX0) 6 f_good fd_good ["_law_made", "_law_thing"] (spLGood 3)) (z_isinstance : mg "isinstance" = none) (z_tuple : mg "tuple" = none) (z_len : mg "len" = none) : FnOk P w K mg base (CX0) 7 f fd ["_law_made", "_law_thing"] (spLIsWeb) := by
  have b_whole : Binds K fd_whole ["_law_thing", "_law_least", "_law_most"] [] := F_whole.bindsN fun _ _ _ _ _ _ us hl => match us, hl with | [_, _, _], _ => rfl
  have b_good : Binds K fd_good ["_law_made", "_law_thing"] [] := F_good.bindsN fun _ _ _ _ _ _ us hl => match us, hl with | [_, _], _ => rfl
  refine F.ok (CX := CX0) sc_is_web (fun vs H Q E h => ?_) (fun cdv A outer s H vs Q E hr h => ?_)
  · obtain ⟨mv, v, k, d, rfl, _⟩ := h
    rfl
  · obtain ⟨mv, v, k, d, rfl, hM, hn, hok, hc, hx, hz, q⟩ := h
    have hu := hu_of hr
    have hu64 := hr.units
    have hr_whole := hr.mono (by decide : 1 ≤ 6)
    have hr_good := hr.mono (by decide : 6 ≤ 6)
    refine ⟨_, PSs.nox (pss_cons (ps_if (PW.pt (pw_or (pt_not (pt_val (pe_callB call_isi (by rfl) z_isinstance PyProof.Rows.boot_isinstance (pa_cons (pv 1) (pa_cons (pe_bltn (v := .ty "tuple") rfl z_tuple (by decide +kernel) rfl) pa_nil))))) (pw_or (pt_cmpR op_ne (pe_callB call_len_seq (by rfl) z_len PySem.boot_len (pa_cons (pv 1) pa_nil)) pe_int (nomark _)) (pw_or1 (pt_not (pt_val (pe_call G_whole hr_whole rfl g_whole F_whole.kp b_whole .nil pass0 (pa_cons (pe_ix ix_tup (pv 1) pe_int (fun _ _ => rfl)) (pa_cons pe_int (pa_cons pe_int pa_nil)))))))))) (pss_one (ps_ret pe_bl)) pss_nil)
      (pss_cons (ps_if (PW.pt (pw_or (pt_not (pt_val (pe_callB call_isi (by rfl) z_isinstance PyProof.Rows.boot_isinstance (pa_cons (pe_ix ix_tup (pv 1) pe_int (fun _ _ => rfl)) (pa_cons (pe_bltn (v := .ty "tuple") rfl z_tuple (by decide +kernel) rfl) pa_nil))))) (pw_or1 (pt_cmpR op_gt (pe_callB call_len_seq (by rfl) z_len PySem.boot_len (pa_cons (pe_ix ix_tup (pv 1) pe_int (fun _ _ => rfl)) pa_nil)) pe_int (nomark _))))) (pss_one (ps_ret pe_bl)) pss_nil)
      (pss_cons (ps_for PassesOwn.never rfl (pi_tup (pe_ix ix_tup (pv 1) pe_int (fun _ _ => rfl))) (pg_name (i := 2) sc_is_web.nd rfl (Or.inl rfl)) (pss_cons (ps_if (PW.pt (pw_or (pt_not (pt_val (pe_callB call_isi (by rfl) z_isinstance PyProof.Rows.boot_isinstance (pa_cons (pv 2) (pa_cons (pe_bltn (v := .ty "tuple") rfl z_tuple (by decide +kernel) rfl) pa_nil))))) (pw_or (pt_cmpR op_ne (pe_callB call_len_seq (by rfl) z_len PySem.boot_len (pa_cons (pv 2) pa_nil)) pe_int (nomark _)) (pw_or1 (pt_not (pt_val (pe_call G_good hr_good rfl g_good F_good.kp b_good .nil pass0 (pa_cons (pv 0) (pa_cons (pe_ix ix_tup (pv 2) pe_int (fun _ _ => rfl)) pa_nil))))))))) (pss_one (ps_ret pe_bl)) pss_nil)
      (pss_one (ps_if (PW.pt (pw_or (pt_not (pt_val (pe_call G_whole hr_whole rfl g_whole F_whole.kp b_whole .nil pass0 (pa_cons (pe_ix ix_tup (pv 2) pe_int (fun _ _ => rfl)) (pa_cons pe_int (pa_cons (pe_op op_sub (pe_ix ix_tup (pv 1) pe_int (fun _ _ => rfl)) pe_int) pa_nil)))))) (pw_or1 (pt_not (pt_val (pe_call G_whole hr_whole rfl g_whole F_whole.kp b_whole .nil pass0 (pa_cons (pe_ix ix_tup (pv 2) pe_int (fun _ _ => rfl)) (pa_cons pe_int (pa_cons (pe_op op_sub (pe_ix ix_tup (pv 1) pe_int (fun _ _ => rfl)) pe_int) pa_nil))))))))) (pss_one (ps_ret pe_bl)) pss_nil))))
      (pss_one (ps_ret pe_bl))))), ?_⟩
    have e0 : Ex H H := Ex.refl H
    by_cases h2 : (!dTu d || !decide (lenD d = 2)) = true
    · refine q_when (b := true) (et_or3 (et_not (et_B (ev_tTup (ev_var rfl) hx.tells))) (fun ht => et_is (et_test (ev_neI (ev_lenD (ev_var rfl) hx (by simpa using ht)) ev_c)) (ne_2 _)) h2) (fun _ H1 e1 => s_ret ev_c fun G e => ?_) (fun hb => (by cases hb))
      · have := q G (e1.trans e)
        rw [web_no h2] at this
        exact this
    rw [Bool.not_eq_true] at h2
    obtain ⟨b1, b2⟩ := or_no h2
    obtain ⟨dn, ds, rfl⟩ := two_of (by simpa using b1) (by simpa using b2)
    obtain ⟨a, un, us, rfl, ha, hn1, hs⟩ := id hx.two
    obtain ⟨zn, zs, _⟩ := hz
    have q : ∀ H', Ex H H' → Q (.bl (whO 1 12 (dNum dn) && (dTu ds && (decide (lenD ds ≤ 80) && (match ds with | .tuple ds => ds | _ => []).all (isStepB k ((dNum dn).getD 0)))))) H' := q
    have x0 : ∀ {G : Hp}, Ex H G → ∀ s2, Ev (tOp (rIxT K) (tVar 1) (tC (.int 0))) [some mv, some (.ref a), s2] G un := fun {G} e s2 => ev_op (ev_var rfl) ev_c (rv_ixT (st_of (e _ _ ha)) rfl)
    have x1 : ∀ {G : Hp}, Ex H G → ∀ s2, Ev (tOp (rIxT K) (tVar 1) (tC (.int 1))) [some mv, some (.ref a), s2] G us := fun {G} e s2 => ev_op (ev_var rfl) ev_c (rv_ixT (st_of (e _ _ ha)) rfl)
    have l2 : (!(((lenD (.tuple [dn, ds]) : Nat) : Int) == (2 : Int))) = false := (by decide : (!(((2 : Nat) : Int) == (2 : Int))) = false)
    refine q_when (b := !whO 1 12 (dNum dn)) (et_is (et_or (a := false) (et_is (et_not (et_B (ev_tTup (ev_var rfl) hx.tells))) rfl) (fun _ => et_or (a := false) (et_is (et_test (ev_neI (ev_lenD (ev_var rfl) hx rfl) ev_c)) l2) (fun _ => et_not (et_B (ev_call (z := .bl (whO 1 12 (dNum dn))) (ea_cons (x0 e0 _) (ea_cons ev_c (ea_cons ev_c ea_nil))) fun G e Q' k' E' => ⟨un, dNum dn, _, _, rfl, (hn1.ex e).num, fun G2 e2 => k' G2 e2⟩))))) rfl) (fun hb H1 e1 => s_ret ev_c fun G e => ?_) (fun hb H1 e1 => ?_)
    · have := q G (e1.trans e)
      rw [show whO 1 12 (dNum dn) = false by simpa using hb] at this
      exact this
    have hw : whO 1 12 (dNum dn) = true := by simpa using hb
    refine q_when (b := !dTu ds || decide (80 < lenD ds)) (et_or (et_not (et_B (ev_tTup (x1 e1 _) (hs.ex e1).tells))) fun ht => et_is (et_test (ev_gtI (ev_lenD (x1 e1 _) (hs.ex e1) (by simpa using ht)) ev_c)) (by rw [decide_eq_decide]; omega)) (fun hb2 H2 e2 => s_ret ev_c fun G e => ?_) (fun hb2 H2 e2 => ?_)
    · have := q G ((e1.trans e2).trans e)
      have hzz : (whO 1 12 (dNum dn) && (dTu ds && (decide (lenD ds ≤ 80) && (match ds with | .tuple ds => ds | _ => []).all (isStepB k ((dNum dn).getD 0))))) = false := by
        rw [hw]
        cases h4 : dTu ds with
        | false => rfl
        | true =>
          rw [h4] at hb2
          have h5 : 80 < lenD ds := of_decide_eq_true (by simpa using hb2)
          rw [decide_eq_false (by omega : ¬ lenD ds ≤ 80)]
          rfl
      rw [hzz] at this
      exact this
    obtain ⟨h4, h5⟩ := or_no hb2
    have h5 : lenD ds ≤ 80 := by
      have := of_decide_eq_false h5
      omega
    have e12 := e1.trans e2
    cases dn with
    | int n =>
      obtain rfl := hn1.int_inv
      cases ds with
      | tuple ds =>
        cases hs with
        | tup hp hus =>
          rename_i p vs
          have hl : vs.length = ds.length := hus.len
          have h5 : ds.length ≤ 80 := h5
          have q : ∀ H', Ex H H' → Q (.bl (ds.all (isStepB k n))) H' := fun H' e => by
            have := q H' e
            rw [hw] at this
            have h6 : decide (lenD (.tuple ds) ≤ 80) = true := decide_eq_true h5
            rw [h6] at this
            exact this
          refine ⟨_, rfl, a, _, _, .ref p, rfl, rfl, st_of (e12 _ _ ha), rfl, p, rfl, ⟨_, st_of (e12 _ _ hp)⟩, ?_⟩
          refine for_it (walk_tup (K := K) (a := p) (xs := vs)) (fun i σ' G => (∃ s2, σ' = [some mv, some (.ref a), s2]) ∧ Ex H2 G ∧ ∀ (j : Nat) d, j < i → ds[j]? = some d → isStepB k n d = true) ⟨⟨_, rfl⟩, Ex.refl H2, fun j d hj => absurd hj (Nat.not_lt_zero _)⟩ (fun i σ' G _ h => st_of ((e12.trans h.2.1) _ _ hp)) ?_ ?_
          · rintro i x σ' _ G hi ⟨⟨s2, rfl⟩, eG, hall⟩ ⟨rfl, hxi⟩
            obtain ⟨d, hd1, hd2⟩ := hus.get hxi
            have eH := e12.trans eG
            have hdG := hd2.ex eH
            have zd := sza_mem zs d (List.mem_of_getElem? hd1)
            have bad : isStepB k n d = false → ∀ G', Ex G G' → Q (.bl false) G' := fun hf G' e => by
              have := q G' (eH.trans e)
              rw [all_false hd1 hf] at this
              exact this
            by_cases h3 : (!dTu d || !decide (lenD d = 3)) = true
            · exact q_when (b := true) (et_or3 (et_not (et_B (ev_tTup (ev_var rfl) hdG.tells))) (fun ht => et_is (et_test (ev_neI (ev_lenD (ev_var rfl) hdG (by simpa using ht)) ev_c)) (ne_3 _)) h3) (fun _ G1 f1 => s_ret ev_c fun G2 f2 => bad (step_no h3) G2 (f1.trans f2)) (fun hb => (by cases hb))
            rw [Bool.not_eq_true] at h3
            obtain ⟨dx, dy, dw, rfl⟩ := lenD_three h3
            obtain ⟨b, ux, uy, uw, rfl, hb0, hx1, hy1, hw1⟩ := id hdG.three
            obtain ⟨zx, zy, zw, _⟩ := zd
            have y0 : ∀ {G' : Hp}, Ex G G' → Ev (tOp (rIxT K) (tVar 2) (tC (.int 0))) [some mv, some (.ref a), some (.ref b)] G' ux := fun {G'} e => ev_op (ev_var rfl) ev_c (rv_ixT (st_of (e _ _ hb0)) rfl)
            have y1 : ∀ {G' : Hp}, Ex G G' → Ev (tOp (rIxT K) (tVar 2) (tC (.int 1))) [some mv, some (.ref a), some (.ref b)] G' uy := fun {G'} e => ev_op (ev_var rfl) ev_c (rv_ixT (st_of (e _ _ hb0)) rfl)
            have y2 : ∀ {G' : Hp}, Ex G G' → Ev (tOp (rIxT K) (tVar 2) (tC (.int 2))) [some mv, some (.ref a), some (.ref b)] G' uw := fun {G'} e => ev_op (ev_var rfl) ev_c (rv_ixT (st_of (e _ _ hb0)) rfl)
            have l3 : (!(((lenD (.tuple [dx, dy, dw]) : Nat) : Int) == (3 : Int))) = false := (by decide : (!(((3 : Nat) : Int) == (3 : Int))) = false)
            refine q_when (b := !goodB k dw) (et_is (et_or (a := false) (et_is (et_not (et_B (ev_tTup (ev_var rfl) hdG.tells))) rfl) (fun _ => et_or (a := false) (et_is (et_test (ev_neI (ev_lenD (ev_var rfl) hdG rfl) ev_c)) l3) (fun _ => et_not (et_B (ev_call (z := .bl (goodB k dw)) (ea_cons (ev_var rfl) (ea_cons (y2 (Ex.refl G)) ea_nil)) fun G' e Q' k' E' => ⟨mv, uw, k, dw, rfl, hM.ex (eH.trans e), hn, hok, hc, hw1.ex e, zw, fun G2 e2 => k' G2 e2⟩))))) rfl) (fun hb1 G1 f1 => s_ret ev_c fun G2 f2 => bad ?_ G2 (f1.trans f2)) (fun hb1 G1 f1 => ?_)
            · show (whO 0 (n - 1) (dNum dx) && (whO 0 (n - 1) (dNum dy) && goodB k dw)) = false
              rw [show goodB k dw = false by simpa using hb1, Bool.and_false, Bool.and_false]
            have x0n : ∀ {G' : Hp}, Ex G1 G' → Ev (tOp (rIxT K) (tVar 1) (tC (.int 0))) [some mv, some (.ref a), some (.ref b)] G' (.int n) := fun {G'} e => x0 ((eH.trans f1).trans e) _
            refine s_when (b := !whO 0 (n - 1) (dNum dx) || !whO 0 (n - 1) (dNum dy)) (et_or (et_not (et_B ?_)) fun _ => et_not (et_B ?_)) ?_ ?_
            · exact ev_call (z := .bl (whO 0 (n - 1) (dNum dx))) (ea_cons (y0 f1) (ea_cons ev_c (ea_cons (ev_op (x0n (Ex.refl _)) ev_c rv_I0) ea_nil))) fun G' e Q' k' E' => ⟨ux, dNum dx, 0, n - 1, rfl, (hx1.ex (f1.trans e)).num, fun G2 e2 => k' G2 e2⟩
            · exact ev_call (z := .bl (whO 0 (n - 1) (dNum dy))) (ea_cons (y1 f1) (ea_cons ev_c (ea_cons (ev_op (x0n (Ex.refl _)) ev_c rv_I0) ea_nil))) fun G' e Q' k' E' => ⟨uy, dNum dy, 0, n - 1, rfl, (hy1.ex (f1.trans e)).num, fun G2 e2 => k' G2 e2⟩
            · intro hb3 G2 f2
              refine s_ret ev_c fun G3 f3 => bad ?_ G3 ((f1.trans f2).trans f3)
              show (whO 0 (n - 1) (dNum dx) && (whO 0 (n - 1) (dNum dy) && goodB k dw)) = false
              cases h6 : whO 0 (n - 1) (dNum dx) with
              | false => rfl
              | true =>
                rw [h6] at hb3
                rw [show whO 0 (n - 1) (dNum dy) = false by simpa using hb3]
                rfl
            · intro hb3 G2 f2
              obtain ⟨c1, c2⟩ := or_no hb3
              refine ⟨⟨_, rfl⟩, (eG.trans f1).trans f2, fun j d' hj hjd => ?_⟩
              by_cases hji : j < i
              · exact hall j d' hji hjd
              · obtain rfl : j = i := by omega
                rw [hd1] at hjd
                obtain rfl := Option.some.inj hjd
                show (whO 0 (n - 1) (dNum dx) && (whO 0 (n - 1) (dNum dy) && goodB k dw)) = true
                rw [show whO 0 (n - 1) (dNum dx) = true by simpa using c1, show whO 0 (n - 1) (dNum dy) = true by simpa using c2, show goodB k dw = true by simpa using hb1]
                rfl
          · rintro σ' G ⟨⟨s2, rfl⟩, eG, hall⟩
            dsimp only
            refine s_ret ev_c fun G' e => ?_
            have := q G' ((e12.trans eG).trans e)
            have ha' : ds.all (isStepB k n) = true := by
              rw [List.all_eq_true]
              intro d hd
              obtain ⟨j, hj, rfl⟩ := List.mem_iff_getElem.mp hd
              exact hall j _ (by omega) (List.getElem?_eq_getElem hj)
            rw [ha'] at this
            exact this
      | _ => cases h4
    | _ => cases hw
end
end D1
end
section
set_option Elab.async false
set_option linter.all false
set_option maxRecDepth 100000
set_option maxHeartbeats 4000000
/-! WE: what repr shows of data of any kind; things made of data -/
namespace D1
open PySem L2 Evl RZ ClX PySem.VX
def dictD (kvs : List (Int × Bool)) : PyData := .dict (kvs.map fun p => (.int p.1, .bool p.2))
def dictK (kvs : List (Int × Bool)) : List (Key × V) := kvs.map fun p => (.inl p.1, .bl p.2)
theorem reads_dict {h : Heap} {P : Program} {w : World} : ∀ {kvs : List (Int × Bool)} {vs : List (Key × Value)} {es : List DictEntry}, KV (dictK kvs) vs → Pairs (mixKind P w) es vs → ReadsAll h (es.map (·.key)) ((kvs.map fun p => (PyData.int p.1, PyData.bool p.2)).map (·.1)) [] ∧ ReadsAll h (es.map (·.val)) ((kvs.map fun p => (PyData.int p.1, PyData.bool p.2)).map (·.2)) []
  | [], _, _, .nil, .nil => ⟨.nil, .nil⟩
  | (i, b) :: kvs, _, _, .cons ⟨h1, h2⟩ r, .cons hk hv r' => by
    obtain ⟨a1, a2⟩ := reads_dict r r'
    rename_i kv vs e es
    obtain ⟨k0, v0⟩ := kv
    obtain rfl : Sum.inl i = k0 := h1
    have hk : keyIs (.inl i) e.key = true := hk
    rcases keyIs_shape hk with ⟨j, t, e1, e2⟩ | ⟨x, t, e1, _⟩
    · cases e1
      have hv : e.val = v0 := hv
      have h2 : v0 = Value.bool b := h2
      refine ⟨?_, ?_⟩
      · show ReadsAll h (e.key :: es.map (·.key)) (.int i :: _) ([] ++ [])
        rw [e2]
        exact .cons (.int i t) a1
      · show ReadsAll h (e.val :: es.map (·.val)) (.bool b :: _) ([] ++ [])
        rw [hv, h2]
        exact .cons (.bool b) a2
    · cases e1
def SysK (K : PySem.W.Frag) : Prop := ∃ o, K.lookup sysModules = some o
section
variable {X : Cx} {pins : List (Addr × Obj)} {σ : L2.St} {H : Hp} {s : Shared}
theorem ne_sys (hK : SysK X.K) (I : Inv X pins σ H s) {a : Addr} {o : HO} (h : H a = some o) : sysModules ≠ a := fun z => by
  obtain ⟨ob, hob⟩ := hK
  have := (I.bs _ _ (I.mod.kin _ _ hob)).2
  rw [z, h] at this
  cases this
mutual
theorem OdAt.reads {S : Addr → Prop} (hK : SysK X.K) (I : Inv X pins σ H s) : ∀ (d : PyData) (v : V) (u : Value), OdAt S H v d → RelV v u → ∃ as, Reads s.heap u d as ∧ sysModules ∉ as
  | .none, _, _, h, r => by
    cases h
    cases r
    exact ⟨_, Reads.none, fun m => by cases m⟩
  | .bool b, _, _, h, r => by
    cases h
    cases r
    exact ⟨_, Reads.bool b, fun m => by cases m⟩
  | .int i, _, _, h, r => by
    cases h
    obtain ⟨t, rfl⟩ := r
    exact ⟨_, Reads.int i t, fun m => by cases m⟩
  | .str x, _, _, h, r => by
    cases h
    obtain ⟨t, rfl⟩ := r
    exact ⟨_, Reads.str x t, fun m => by cases m⟩
  | .list ds, _, _, h, r => by
    cases h with
    | lst hs _ ha =>
      cases r
      obtain ⟨its, rv, ⟨o, n, ho, hc, _, hd⟩, _⟩ := I.list (sq_of (K := X.K) hs)
      obtain ⟨as, hr, hn⟩ := OdAt.readsAll hK I ds _ its ha rv
      exact ⟨_, Reads.list ho hc hd hr, fun m => by
        rcases List.mem_cons.mp m with m | m
        · exact ne_sys hK I hs m
        · exact hn m⟩
  | .tuple ds, _, _, h, r => by
    cases h with
    | tup hs ha =>
      cases r
      obtain ⟨its, rv, ⟨o, ho, hc, n, hd⟩, _⟩ := I.tuple (st_of (K := X.K) hs)
      obtain ⟨as, hr, hn⟩ := OdAt.readsAll hK I ds _ its ha rv
      exact ⟨_, Reads.tuple ho hc hd hr, hn⟩
  | .dict kvs, _, _, h, r => by
    cases h with
    | dic hd _ =>
      cases r
      have hne := ne_sys hK I hd
      obtain ⟨_, hsy, vs, kv, o, es, ep, ho, hex, hdat, _, hp, _⟩ := dk_of I.hok hd
      obtain ⟨r1, r2⟩ := reads_dict (kvs := []) (h := s.heap) kv hp
      exact ⟨_, Reads.dict ho hex.1 hdat r1 r2, fun m => by
        rcases List.mem_cons.mp m with m | m
        · exact hne m
        · cases m⟩
theorem OdAt.readsAll {S : Addr → Prop} (hK : SysK X.K) (I : Inv X pins σ H s) : ∀ (ds : List PyData) (vs : List V) (us : List Value), OdAll S H vs ds → Vals vs us → ∃ as, ReadsAll s.heap us ds as ∧ sysModules ∉ as
  | [], _, _, h, r => by
    cases h
    cases r
    exact ⟨_, ReadsAll.nil, fun m => by cases m⟩
  | d :: ds, _, _, h, r => by
    cases h with
    | cons h1 h2 =>
      cases r with
      | cons r1 r2 =>
        obtain ⟨as, q1, n1⟩ := OdAt.reads hK I d _ _ h1 r1
        obtain ⟨bs, q2, n2⟩ := OdAt.readsAll hK I ds _ _ h2 r2
        exact ⟨_, ReadsAll.cons q1 q2, fun m => (List.mem_append.mp m).elim n1 n2⟩
end
end
def rReprO : List V → Hp → VK → Prop := fun xs H Q => ∃ (a : Addr) (d : PyData), xs = [.ref a] ∧ OdAt Any H (.ref a) d ∧ d.showable = true ∧ d.depth ≤ 60 ∧ d.shown.length ≤ sizeLine ∧ Q (.str d.shown) H
theorem call_reprO {X : Cx} (hK : SysK X.K) (hG : X.A.guards = some []) (hu : X.A.units + 64 < cLine) : CallR X (.builtin "repr") rReprO := by
  intro pins s σ H xs us Q I r h
  obtain ⟨a, d, rfl, hd, hs, hdp, hz, q⟩ := h
  obtain ⟨u, rfl, ru⟩ := vals1 r
  obtain rfl : u = Value.ref a := ru
  obtain ⟨as, rd, hn⟩ := OdAt.reads hK I d _ _ hd (show RelV (.ref a) (.ref a) from rfl)
  refine repr_of_reads' rd hs (fun _ => hn) hG (by omega) (fun _ _ e => e) (fun h' u tk k => ?_) hz
  exact ⟨.str _, H, I.kept (t' := tk) k, ⟨_, rfl⟩, q⟩
/-! ### sizes of what is shown: by the number of leaves -/
structure ShC (d : PyData) (k n : Nat) : Prop where
  fs : d.showable = true
  fd : d.depth ≤ k
  fl : d.leavesShort 200 = true
  fw : d.bulk ≤ n
structure ShCA (ds : List PyData) (k n : Nat) : Prop where
  fs : PyData.showableAll ds = true
  fd : PyData.depthAll ds ≤ k
  fl : PyData.leavesShortAll 200 ds = true
  fw : PyData.bulkAll ds ≤ n
theorem ShCA.nil {k n : Nat} : ShCA [] k n := ⟨rfl, by simp [PyData.depthAll], rfl, by simp [PyData.bulkAll]⟩
theorem ShCA.cons {d : PyData} {ds : List PyData} {k n m p : Nat} (h : ShC d k n) (r : ShCA ds k m) (hp : n + 1 + m ≤ p) : ShCA (d :: ds) k p := by
  refine ⟨?_, ?_, ?_, ?_⟩
  · simp only [PyData.showableAll, h.fs, r.fs, Bool.and_self]
  · simp only [PyData.depthAll]
    exact Nat.max_le.mpr ⟨h.fd, r.fd⟩
  · simp only [PyData.leavesShortAll, h.fl, r.fl, Bool.and_self]
  · simp only [PyData.bulkAll]
    have a := h.fw
    have b := r.fw
    omega
theorem ShCA.all {k n m : Nat} : ∀ {ds : List PyData}, (∀ d ∈ ds, ShC d k n) → ds.length * (n + 1) ≤ m → ShCA ds k m
  | [], _, _ => .nil
  | d :: r, h, hm => by
    rw [List.length_cons, Nat.succ_mul] at hm
    exact ShCA.cons (h d List.mem_cons_self) (ShCA.all (n := n) (m := r.length * (n + 1)) (fun y hy => h y (List.mem_cons_of_mem _ hy)) (Nat.le_refl _)) (by omega)
theorem ShC.list {ds : List PyData} {k n : Nat} (h : ShCA ds k n) : ShC (.list ds) (k + 1) n := ⟨h.fs, Nat.succ_le_succ h.fd, h.fl, h.fw⟩
theorem ShC.tuple {ds : List PyData} {k n : Nat} (h : ShCA ds k n) : ShC (.tuple ds) (k + 1) n := ⟨h.fs, Nat.succ_le_succ h.fd, h.fl, h.fw⟩
theorem ShC.none {k n : Nat} : ShC .none k n := ⟨rfl, by simp [PyData.depth], rfl, by simp [PyData.bulk]⟩
theorem ShC.bool {b : Bool} {k n : Nat} : ShC (.bool b) k n := ⟨rfl, by simp [PyData.depth], rfl, by simp [PyData.bulk]⟩
theorem ShC.dict0 {k n : Nat} : ShC (.dict []) (k + 1) n := ⟨rfl, by simp [PyData.depth, PyData.depthKv], rfl, by simp [PyData.bulk, PyData.bulkKv]⟩
theorem ShC.int {i : Int} {k n : Nat} (h : i.natAbs < 2 ^ 190) : ShC (.int i) k n := by
  have h1 : i.natAbs.log2 < 190 := by
    rcases Nat.eq_zero_or_pos i.natAbs with z | z
    · rw [z]
      decide
    · exact (Nat.log2_lt (by omega)).mpr h
  refine ⟨?_, by simp [PyData.depth], ?_, by simp [PyData.bulk]⟩
  · show decide (i.natAbs.log2 < 1920) = true
    exact decide_eq_true (by omega)
  · show decide ((PyData.shown (.int i)).length ≤ 200) = true
    refine decide_eq_true ?_
    have := int_text_length_le (a := i) (k := 190) (by decide) (by omega)
    show (Str.ofString (toString i)).length ≤ 200
    rw [ofString_length]
    omega
theorem ShC.str {z : Str} {k n : Nat} (h : ∀ c ∈ z.cps.toList, c < 16 ^ 8) (hn : z.length ≤ n) : ShC (.str z) k n := by
  refine ⟨rfl, by simp [PyData.depth], ?_, ?_⟩
  · simp only [PyData.leavesShort, List.all_eq_true, decide_eq_true_eq]
    exact h
  · simp only [PyData.bulk]
    exact hn
theorem ShC.up {d : PyData} {k k' n n' : Nat} (h : ShC d k n) (hk : k ≤ k') (hn : n ≤ n') : ShC d k' n' := ⟨h.fs, Nat.le_trans h.fd hk, h.fl, Nat.le_trans h.fw hn⟩
theorem ShC.fits {d : PyData} {k n : Nat} (h : ShC d k n) (hn : n ≤ 80000) : d.shown.length ≤ sizeLine := by
  have a := PyData.shown_le_bulk 200 (by decide) d h.fl
  have b := h.fw
  rw [sizeLine_eq]
  omega
theorem good_shc : ∀ {k : RK}, k.clsd = true → ∀ {d : PyData}, goodB k d = true → Sz 140 d → ShC d (k.depth + 1) (12 * 2 ^ k.depth - 2)
  | .pair k l, hc, d, h, s => by
    obtain ⟨h1, h2⟩ := clsd_pair hc
    obtain ⟨x, y, rfl, g1, g2⟩ := good_pair h
    obtain ⟨s1, s2, _⟩ := s
    have m1 := Nat.le_max_left k.depth l.depth
    have m2 := Nat.le_max_right k.depth l.depth
    have p1 := Nat.pow_le_pow_right (n := 2) (by decide) m1
    have p2 := Nat.pow_le_pow_right (n := 2) (by decide) m2
    have p0 : 1 ≤ 2 ^ max k.depth l.depth := Nat.one_le_two_pow
    have a1 : ShC x (max k.depth l.depth + 1) (12 * 2 ^ max k.depth l.depth - 2) := (good_shc h1 g1 s1).up (by omega) (by omega)
    have a2 : ShC y (max k.depth l.depth + 1) (12 * 2 ^ max k.depth l.depth - 2) := (good_shc h2 g2 s2).up (by omega) (by omega)
    refine (ShC.tuple (k := max k.depth l.depth + 1) (n := 12 * 2 ^ (max k.depth l.depth + 1) - 2) (.cons a1 (.cons a2 (ShCA.nil (n := 0)) (Nat.le_refl _)) ?_)).up (by show max k.depth l.depth + 1 + 1 ≤ max k.depth l.depth + 1 + 1; omega) (by show 12 * 2 ^ (max k.depth l.depth + 1) - 2 ≤ 12 * 2 ^ (max k.depth l.depth + 1) - 2; omega)
    rw [Nat.pow_succ]
    omega
  | .truth, _, d, h, _ => by
    obtain ⟨b, rfl⟩ := good_truth h
    exact .bool
  | .count, _, d, h, s => by
    rcases good_cn h with rfl | ⟨i, rfl, _⟩
    · exact .str (by decide +kernel) (by decide +kernel)
    · exact .int (Nat.lt_of_lt_of_le s (Nat.pow_le_pow_right (by decide) (by decide)))
  | .narrow, _, d, h, s => by
    rcases good_cn h with rfl | ⟨i, rfl, _⟩
    · exact .str (by decide +kernel) (by decide +kernel)
    · exact .int (Nat.lt_of_lt_of_le s (Nat.pow_le_pow_right (by decide) (by decide)))
  | .least, _, d, h, s => by
    rcases good_b h with rfl | rfl | ⟨i, rfl⟩
    · exact .str (by decide +kernel) (by decide +kernel)
    · exact .str (by decide +kernel) (by decide +kernel)
    · exact .int (Nat.lt_of_lt_of_le s (Nat.pow_le_pow_right (by decide) (by decide)))
  | .most, _, d, h, s => by
    rcases good_b h with rfl | rfl | ⟨i, rfl⟩
    · exact .str (by decide +kernel) (by decide +kernel)
    · exact .str (by decide +kernel) (by decide +kernel)
    · exact .int (Nat.lt_of_lt_of_le s (Nat.pow_le_pow_right (by decide) (by decide)))
  | .lot _, _, d, h, s => by
    obtain ⟨i, rfl, _⟩ := good_lot h
    exact .int (Nat.lt_of_lt_of_le s (Nat.pow_le_pow_right (by decide) (by decide)))
  | .share, _, d, h, s => by
    obtain ⟨p, q, rfl, _⟩ := good_share h
    obtain ⟨s1, s2, _⟩ := s
    exact .tuple (.cons (n := 0) (.int (Nat.lt_of_lt_of_le s1 (Nat.pow_le_pow_right (by decide) (by decide)))) (.cons (n := 0) (.int (Nat.lt_of_lt_of_le s2 (Nat.pow_le_pow_right (by decide) (by decide)))) (ShCA.nil (n := 0)) (Nat.le_refl _)) (by decide))
  | .rest _, h, _, _, _ => Bool.noConfusion (show false = true from h)
  | .terms _, h, _, _, _ => Bool.noConfusion (show false = true from h)
  | .tab _ _, h, _, _, _ => Bool.noConfusion (show false = true from h)
/-- small things: numbers of a web, steps -/
structure Sml (d : PyData) : Prop where
  sz : Sz 140 d
  sh : ShC d 5 200
theorem small_int {i : Int} (h : i.natAbs < 2 ^ 140) : Sml (.int i) := ⟨h, .int (Nat.lt_of_lt_of_le h (Nat.pow_le_pow_right (by decide) (by decide)))⟩
theorem sml_good {k : RK} (hc : k.clsd = true) (hd : k.depth < 3) {d : PyData} (h : goodB k d = true) (s : Sz 140 d) : ShC d 3 46 := by
  have p := Nat.pow_le_pow_right (n := 2) (by decide) (by omega : k.depth ≤ 2)
  exact (good_shc hc h s).up (by omega) (by omega)
theorem nat_el {i : Nat} (hi : i ≤ 100) : Sz 140 (.int (i : Int)) := by
  show ((i : Nat) : Int).natAbs < 2 ^ 140
  rw [Int.natAbs_natCast]
  exact Nat.lt_of_le_of_lt hi (by decide)
/-- parts of steps -/
structure El (d : PyData) : Prop where
  sz : Sz 140 d
  sh : ShC d 3 46
theorem el_int {i : Int} (h : i.natAbs < 2 ^ 140) : El (.int i) := ⟨h, .int (Nat.lt_of_lt_of_le h (Nat.pow_le_pow_right (by decide) (by decide)))⟩
theorem sza_of {B : Nat} : ∀ {ds : List PyData}, (∀ d ∈ ds, Sz B d) → SzA B ds
  | [], _ => True.intro
  | d :: ds, h => ⟨h d List.mem_cons_self, sza_of fun x hx => h x (List.mem_cons_of_mem _ hx)⟩
theorem sml_tup {es : List PyData} (hl : es.length ≤ 4) (h : ∀ e ∈ es, El e) : Sml (.tuple es) := ⟨sza_of fun d hd => (h d hd).sz, (ShC.tuple (k := 3) (n := 188) (ShCA.all (n := 46) (fun d hd => (h d hd).sh) (by omega))).up (by decide) (by decide)⟩
theorem sml_lst {es : List PyData} (hl : es.length ≤ 4) (h : ∀ e ∈ es, El e) : Sml (.list es) := ⟨True.intro, (ShC.list (k := 3) (n := 188) (ShCA.all (n := 46) (fun d hd => (h d hd).sh) (by omega))).up (by decide) (by decide)⟩
theorem El.sml {d : PyData} (h : El d) : Sml d := ⟨h.sz, h.sh.up (by decide) (by decide)⟩
/-- lists of small things -/
def SmlA (n : Nat) (ds : List PyData) : Prop := ds.length ≤ n ∧ ∀ d ∈ ds, Sml d
theorem SmlA.sh {n : Nat} {ds : List PyData} (h : SmlA n ds) : ShCA ds 5 (n * 201) := ShCA.all (n := 200) (fun d hd => (h.2 d hd).sh) (Nat.mul_le_mul_right _ h.1)
theorem SmlA.sz {n : Nat} {ds : List PyData} (h : SmlA n ds) : SzA 140 ds := sza_of fun d hd => (h.2 d hd).sz
theorem SmlA.take {n : Nat} {ds : List PyData} (h : SmlA n ds) (m : Nat) : SmlA n (ds.take m) := ⟨by rw [List.length_take]; have := h.1; omega, fun d hd => h.2 d (List.mem_of_mem_take hd)⟩
theorem SmlA.drop {n : Nat} {ds : List PyData} (h : SmlA n ds) (m : Nat) : SmlA n (ds.drop m) := ⟨by rw [List.length_drop]; have := h.1; omega, fun d hd => h.2 d (List.mem_of_mem_drop hd)⟩
theorem SmlA.app {n m : Nat} {ds es : List PyData} (h : SmlA n ds) (h' : SmlA m es) : SmlA (n + m) (ds ++ es) := ⟨by rw [List.length_append]; have := h.1; have := h'.1; omega, fun d hd => (List.mem_append.mp hd).elim (h.2 d) (h'.2 d)⟩
theorem step_el {k : RK} (hc : k.clsd = true) (hd : k.depth < 3) {n : Nat} (hn : n ≤ 12) {s : Step} (h1 : s.1 < n) (h2 : s.2.1 < n) (h3 : goodB k s.2.2 = true) (z : Sz 140 s.2.2) : ∃ es : List PyData, stepD s = .tuple es ∧ es.length = 3 ∧ ∀ e ∈ es, El e := ⟨_, rfl, rfl, fun e he => by
  rcases List.mem_cons.mp he with rfl | he
  · exact el_int (nat_el (by omega))
  · rcases List.mem_cons.mp he with rfl | he
    · exact el_int (nat_el (by omega))
    · rcases List.mem_cons.mp he with rfl | he
      · exact ⟨z, sml_good hc hd h3 z⟩
      · cases he⟩
theorem big_tup {ds : List PyData} {n : Nat} (hn : n ≤ 165) (h : SmlA n ds) : Sz 140 (.tuple ds) ∧ ShC (.tuple ds) 6 (n * 201) := ⟨h.sz, .tuple h.sh⟩
theorem big_lst {ds : List PyData} {n : Nat} (h : SmlA n ds) : Sz 140 (.list ds) ∧ ShC (.list ds) 6 (n * 201) := ⟨True.intro, .list h.sh⟩
/-- what a spoilt web is at most -/
structure Big (d : PyData) : Prop where
  sz : Sz 140 d
  sh : ShC d 8 36000
section
variable {K : PySem.W.Frag} {S : Addr → Prop} {σ : L2.St} {H : Hp} {te tl tn ta tb : TE} {t : TA} {d : PyData} {ds es : List PyData}
/-- te makes d, its lists at S -/
def EvO (S : Addr → Prop) (te : TE) (σ : L2.St) (H : Hp) (d : PyData) : Prop := ∀ H1, Ex H H1 → ∀ Q : VK, (∀ v H2, Ex H1 H2 → OdAt S H2 v d → Q v H2) → te σ H1 Q
def EvOA (S : Addr → Prop) (t : TA) (σ : L2.St) (H : Hp) (ds : List PyData) : Prop := ∀ H1, Ex H H1 → ∀ Q : List V → Hp → Prop, (∀ vs H2, Ex H1 H2 → OdAll S H2 vs ds → Q vs H2) → t σ H1 Q
theorem OdAll.exO {us : List V} (h : OdAll S H us ds) {H' : Hp} (e : Ex H H') : OdAll S H' us ds := h.mv fun a o _ x => e a o x
theorem EvO.up (h : EvO S te σ H d) {H' : Hp} (e : Ex H H') : EvO S te σ H' d := fun H1 e1 Q q => h H1 (e.trans e1) Q q
theorem evo_ev {v : V} (h : Ev te σ H v) (hv : OdAt S H v d) : EvO S te σ H d := fun H1 e Q q => h H1 e _ fun H2 e2 => q v H2 e2 (hv.ex (e.trans e2))
theorem eoa_nil : EvOA S tNil σ H [] := fun H1 e Q q => q [] H1 (Ex.refl H1) .nil
theorem eoa_cons (h : EvO S te σ H d) (r : EvOA S t σ H ds) : EvOA S (tCons te t) σ H (d :: ds) := fun H1 e Q q => h H1 e _ fun v H2 e2 hv => r H2 (e.trans e2) _ fun vs H3 e3 hr => q (v :: vs) H3 (e2.trans e3) (.cons (hv.ex e3) hr)
theorem evo_tup (h : EvOA S t σ H ds) (hl : ds.length ≤ 100000) : EvO S (tTup t) σ H (.tuple ds) := fun H1 e Q q => h H1 e _ fun vs H2 e2 hv => ⟨by
  have h1 : (100000 : Nat) ≤ sizeLine := by decide
  have h2 := hv.len
  omega, fun p hp => q (.ref p) _ (e2.trans (Ex.new hp)) (.tup upd_same (hv.exO (Ex.new hp)))⟩
theorem evo_lst (hS : ∀ p, H p = none → S p) (h : EvOA S t σ H ds) (hl : ds.length ≤ 100000) : EvO S (tLst t) σ H (.list ds) := fun H1 e Q q => h H1 e _ fun vs H2 e2 hv => ⟨by
  have h1 : (100000 : Nat) ≤ sizeLine := by decide
  have h2 := hv.len
  omega, fun p hp => q (.ref p) _ (e2.trans (Ex.new hp)) (.lst upd_same (hS p (fresh_back (e.trans e2) hp)) (hv.exO (Ex.new hp)))⟩
/-- list(x), x a tuple -/
theorem evo_listOf (hS : ∀ p, H p = none → S p) (h : EvO S te σ H (.tuple ds)) : EvO S (tCB (fun xs H Q => ∃ p ys, xs = [V.ref p] ∧ (SqL K H p ys ∨ SqT K H p ys) ∧ ∀ l, H l = none → Q (.ref l) (upd H l (.lst ys))) (tCons te tNil)) σ H (.list ds) := fun H1 e Q q => h H1 e _ fun v H2 e2 hv => by
  cases hv with
  | tup ha hr => exact ⟨_, _, rfl, .inr (st_of ha), fun p hp => q (.ref p) _ (e2.trans (Ex.new hp)) (.lst upd_same (hS p (fresh_back (e.trans e2) hp)) (hr.exO (Ex.new hp)))⟩
theorem evo_cat (h : EvO S ta σ H (.tuple ds)) (h' : EvO S tb σ H (.tuple es)) (hl : ds.length + es.length ≤ 100000) : EvO S (tOp (rCatA K) ta tb) σ H (.tuple (ds ++ es)) := fun H1 e Q q => h H1 e _ fun v H2 e2 hv => h' H2 (e.trans e2) _ fun w H3 e3 hw => by
  have h1 : (100000 : Nat) ≤ sizeLine := by decide
  have hv := hv.ex e3
  have e23 := e2.trans e3
  cases hv with
  | tup ha hr =>
    rename_i a us
    cases hw with
    | tup hb hs =>
      rename_i b ws
      have l1 := hr.len
      have l2 := hs.len
      refine ⟨a, b, us, ws, rfl, rfl, st_of ha, st_of hb, by omega, fun hz => ?_, fun _ hz => ?_, fun _ _ p hp => ?_⟩
      · subst hz
        have : ds = [] := List.length_eq_zero_iff.mp (by rw [← l1]; rfl)
        subst this
        exact q (.ref b) H3 e23 (.tup hb hs)
      · subst hz
        have : es = [] := List.length_eq_zero_iff.mp (by rw [← l2]; rfl)
        subst this
        rw [List.append_nil] at q
        exact q (.ref a) H3 e23 (.tup ha hr)
      · exact q (.ref p) _ (e23.trans (Ex.new hp)) (.tup upd_same ((hr.app hs).exO (Ex.new hp)))
theorem OdAll.drop {us : List V} : ∀ {us : List V} {ds : List PyData} (k : Nat), OdAll S H us ds → OdAll S H (us.drop k) (ds.drop k)
  | _, [], k, h => by
    cases h
    rw [List.drop_nil, List.drop_nil]
    exact .nil
  | _, d :: ds, 0, h => h
  | _, d :: ds, k + 1, h => by
    cases h with
    | cons h r => exact OdAll.drop (us := us) k r
theorem cut_take (xs : List V) (n : Nat) : cutV xs none (some (n : Int)) = xs.take n := by
  unfold cutV
  rw [HT.sIx_none, HT.sIx_nat, List.drop_zero, Nat.sub_zero]
  rcases Nat.le_total n xs.length with h | h
  · rw [Nat.min_eq_left h]
  · rw [Nat.min_eq_right h, List.take_of_length_le (Nat.le_refl _), List.take_of_length_le h]
theorem cut_drop (xs : List V) (n : Nat) : cutV xs (some (n : Int)) none = xs.drop n := by
  unfold cutV
  rw [HT.sIx_none, HT.sIx_nat]
  rcases Nat.le_total n xs.length with h | h
  · rw [Nat.min_eq_left h]
    exact List.take_of_length_le (by rw [List.length_drop]; exact Nat.le_refl _)
  · rw [Nat.min_eq_right h, List.drop_of_length_le (Nat.le_refl _), List.drop_of_length_le h, List.take_nil]
/-- s[:n], s a tuple -/
theorem evo_take {n : Nat} (h : EvO S tl σ H (.tuple ds)) (hn : Ev tn σ H (.int (n : Int))) : EvO S (tSl (rSlA K) tl tNoPart (tPart tn)) σ H (.tuple (ds.take n)) := fun H1 e Q q => h H1 e _ fun v H2 e2 hv => hn H2 (e.trans e2) _ fun H3 e3 => ⟨n, rfl, by
  have hv := hv.ex e3
  have e23 := e2.trans e3
  cases hv with
  | tup ha hr =>
    rename_i a us
    refine ⟨a, us, rfl, st_of ha, fun hw => ?_, fun hw p hp => ?_⟩
    · have h2 : min n us.length = us.length := by
        have := hw.2
        rw [HT.sIx_nat] at this
        exact this
      have l1 := hr.len
      have : ds.take n = ds := List.take_of_length_le (by omega)
      rw [this] at q
      exact q (.ref a) H3 e23 (.tup ha hr)
    · rw [cut_take]
      exact q (.ref p) _ (e23.trans (Ex.new hp)) (.tup upd_same ((hr.take n).exO (Ex.new hp)))⟩
/-- s[n:], s a tuple -/
theorem evo_drop {n : Nat} (h : EvO S tl σ H (.tuple ds)) (hn : Ev tn σ H (.int (n : Int))) : EvO S (tSl (rSlA K) tl (tPart tn) tNoPart) σ H (.tuple (ds.drop n)) := fun H1 e Q q => h H1 e _ fun v H2 e2 hv => hn H2 (e.trans e2) _ fun H3 e3 => ⟨n, rfl, by
  have hv := hv.ex e3
  have e23 := e2.trans e3
  cases hv with
  | tup ha hr =>
    rename_i a us
    refine ⟨a, us, rfl, st_of ha, fun hw => ?_, fun hw p hp => ?_⟩
    · have h2 : min n us.length = 0 := by
        have := hw.1
        rw [HT.sIx_nat] at this
        exact this
      have l1 := hr.len
      have : ds.drop n = ds := by
        rcases Nat.eq_zero_or_pos n with rfl | h
        · exact List.drop_zero
        · have : ds = [] := List.length_eq_zero_iff.mp (by omega)
          rw [this, List.drop_nil]
      rw [this] at q
      exact q (.ref a) H3 e23 (.tup ha hr)
    · rw [cut_drop]
      exact q (.ref p) _ (e23.trans (Ex.new hp)) (.tup upd_same ((OdAll.drop (us := us) n hr).exO (Ex.new hp)))⟩
theorem od_at {us : List V} (h : OdAll S H us ds) {i : Nat} {d : PyData} (hd : ds[i]? = some d) : ∃ v, atI us (i : Int) = some v ∧ OdAt S H v d := by
  obtain ⟨v, h1, h2⟩ := h.get' hd
  exact ⟨v, atI_of (by omega) (by rw [Int.toNat_natCast]; exact h1), h2⟩
/-- s[i], s a tuple -/
theorem evo_ixT {i : Nat} (h : EvO S ta σ H (.tuple ds)) (hi : Ev tb σ H (.int (i : Int))) (hd : ds[i]? = some d) : EvO S (tOp (rIxT K) ta tb) σ H d := fun H1 e Q q => h H1 e _ fun v H2 e2 hv => hi H2 (e.trans e2) _ fun H3 e3 => by
  have hv := hv.ex e3
  cases hv with
  | tup ha hr =>
    obtain ⟨v, h1, h2⟩ := od_at hr hd
    exact ⟨_, _, _, v, rfl, rfl, st_of ha, h1, q v H3 (e2.trans e3) h2⟩
/-- s[i], s a list -/
theorem evo_ixL {i : Nat} (h : EvO S ta σ H (.list ds)) (hi : Ev tb σ H (.int (i : Int))) (hd : ds[i]? = some d) : EvO S (tOp (rIxL K) ta tb) σ H d := fun H1 e Q q => h H1 e _ fun v H2 e2 hv => hi H2 (e.trans e2) _ fun H3 e3 => by
  have hv := hv.ex e3
  cases hv with
  | lst ha _ hr =>
    obtain ⟨v, h1, h2⟩ := od_at hr hd
    exact ⟨_, _, _, v, rfl, rfl, sq_of ha, h1, q v H3 (e2.trans e3) h2⟩
theorem evo_rep {n : Nat} (h : EvO S ta σ H (.tuple [d])) (n1 : 2 ≤ n) (n2 : n ≤ 1000) (hn : Ev tb σ H (.int (n : Int))) : EvO S (tOp (rRepT K) ta tb) σ H (.tuple (List.replicate n d)) := fun H1 e Q q => h H1 e _ fun v H2 e2 hv => hn H2 (e.trans e2) _ fun H3 e3 => by
  have hv := hv.ex e3
  cases hv with
  | tup ha hr =>
    cases hr with
    | cons hd hz =>
      cases hz
      rename_i a u
      refine ⟨a, n, [u], rfl, rfl, st_of ha, by simp, by omega, by omega, by simp, fun p hp => ?_⟩
      rw [Int.toNat_natCast, List.flatten_replicate_singleton]
      have rep : ∀ m : Nat, OdAll S H3 (List.replicate m u) (List.replicate m d) := by
        intro m
        induction m with
        | zero => exact .nil
        | succ m ih =>
          rw [List.replicate_succ, List.replicate_succ]
          exact .cons hd ih
      exact q (.ref p) _ ((e2.trans e3).trans (Ex.new hp)) (.tup upd_same ((rep n).exO (Ex.new hp)))
theorem s_retO {D : Ends} (h : EvO S te σ H d) (k : ∀ v H', Ex H H' → OdAt S H' v d → D.rt v H') : tRet te D σ H := h H (Ex.refl H) _ k
theorem q_asgO {i : Nat} {z : TS} {D : Ends} (h : EvO S te σ H d) (k : ∀ v H', Ex H H' → OdAt S H' v d → z D (σ.set i (some v)) H') : tSeq (tAsg te (gName i)) z D σ H := h H (Ex.refl H) _ k
end
end D1
end
section
set_option Elab.async false
set_option linter.all false
set_option maxRecDepth 100000
set_option maxHeartbeats 4000000
/-! WF: webs spoilt -/
namespace D1
open PySem L2 Evl RZ ClX PySem.VX
theorem RD.bak {m pc pg : Addr} {cs : List Int} {i j : Nat} {H H1 : Hp} (hD : DS m pc pg cs i H) (r : RD m pc pg cs j H H1) {p : Addr} (hp : H1 p = none) : H p = none := by
  cases h : H p with
  | none => rfl
  | some o =>
    exfalso
    obtain ⟨_, _, _, _, _, a, x, gs, h6, h7, _⟩ := r.inv
    by_cases h1 : p = m
    · rw [h1, h6] at hp
      cases hp
    · by_cases h2 : p = pg
      · rw [h2, h7] at hp
        cases hp
      · rw [r.stay h1 h2 h] at hp
        cases hp
/-- what was made since H stays when numbers are drawn -/
theorem RD.kps {m pc pg : Addr} {cs : List Int} {i i' j : Nat} {H H1 H2 : Hp} (hD : DS m pc pg cs i H) (hD1 : DS m pc pg cs i' H1) (r : RD m pc pg cs j H1 H2) : KpS (fun p => H p = none) H1 H2 := fun a o h ha => by
  rcases h with h | h
  · obtain ⟨h1, h2⟩ := hD.fresh h
    exact r.stay h1 h2 ha
  · exact r.kp hD1 a o h ha
theorem good_one : ∀ {k : RK}, k.clsd = true → goodB k (oneD k) = true
  | .truth, _ => rfl
  | .count, _ => rfl
  | .least, _ => rfl
  | .most, _ => rfl
  | .narrow, _ => rfl
  | .share, _ => by decide +kernel
  | .lot n, _ => by
    show lotGood n (.int (2 ^ n - 1)) = true
    rw [one_lot]
    exact nat_lot (by have := Nat.one_le_two_pow (n := n); omega)
  | .pair k l, h => by
    obtain ⟨h1, h2⟩ := clsd_pair h
    show (goodB k (oneD k) && goodB l (oneD l)) = true
    rw [good_one h1, good_one h2]
    rfl
  | .rest _, h => Bool.noConfusion (show false = true from h)
  | .terms _, h => Bool.noConfusion (show false = true from h)
  | .tab _ _, h => Bool.noConfusion (show false = true from h)
theorem sz_one : ∀ {k : RK}, k.clsd = true → k.ok → Sz 140 (oneD k)
  | .truth, _, _ => True.intro
  | .count, _, _ => by show (1 : Int).natAbs < 2 ^ 140; decide
  | .least, _, _ => by show (0 : Int).natAbs < 2 ^ 140; decide
  | .most, _, _ => by show (0 : Int).natAbs < 2 ^ 140; decide
  | .narrow, _, _ => True.intro
  | .share, _, _ => by
    refine ⟨?_, ?_, True.intro⟩ <;> (show (1 : Int).natAbs < 2 ^ 140; decide)
  | .lot n, _, ⟨h1, h2⟩ => by
    show ((2 : Int) ^ n - 1).natAbs < 2 ^ 140
    rw [one_lot, Int.natAbs_natCast]
    have := Nat.pow_le_pow_right (n := 2) (by decide) (by omega : n ≤ 139)
    have := Nat.two_pow_pos n
    omega
  | .pair a b, h, ⟨h1, h2⟩ => ⟨sz_one (clsd_pair h).1 h1, sz_one (clsd_pair h).2 h2, True.intro⟩
  | .rest _, h, _ => Bool.noConfusion (show false = true from h)
  | .terms _, h, _ => Bool.noConfusion (show false = true from h)
  | .tab _ _, h, _ => Bool.noConfusion (show false = true from h)
def spSpoilt : Sp := fun vs H Q _ => ∃ (m pc pg : Addr) (cs : List Int) (j : Nat) (mv wv : V) (k : RK) (n : Nat) (ss : List Step) (way : Int), vs = [.ref m, mv, wv, .int way] ∧ DS m pc pg cs j H ∧ j + 10 ≤ 100000 ∧ DtAt H mv (madeD k) ∧ k.depth < 3 ∧ k.ok ∧ k.clsd = true ∧ DtAt H wv (webD n ss) ∧ WebOk k n ss ∧ (∀ s ∈ ss, Sz 140 s.2.2) ∧
  ∀ (v : V) (d : PyData) H', RD m pc pg cs (j + 10) H H' → OdAt (fun p => H p = none) H' v d → Big d → Q v H'
def oddL (n : Nat) : List PyData := [.none, .bool true, .str "none", .str "endless", .int (-1), .int (n : Int), .int 13, .int ((10 : Int) ^ (20 : Int).toNat), .tuple [], .tuple [.int 2, .int 4], .tuple [.int 0, .int 1], .tuple [.int 3, .int 2], .list [.int 0], .str "0", .tuple [.none, .int 0], .int 4096]
theorem el_two {i j : Int} (hi : i.natAbs < 2 ^ 140) (hj : j.natAbs < 2 ^ 140) : El (.tuple [.int i, .int j]) := ⟨⟨hi, hj, True.intro⟩, (ShC.tuple (k := 2) (n := 2) (.cons (n := 0) (.int (Nat.lt_of_lt_of_le hi (Nat.pow_le_pow_right (by decide) (by decide)))) (.cons (n := 0) (.int (Nat.lt_of_lt_of_le hj (Nat.pow_le_pow_right (by decide) (by decide)))) (ShCA.nil (n := 0)) (Nat.le_refl _)) (by decide))).up (by decide) (by decide)⟩
theorem odd_el {n : Nat} (hn : n ≤ 12) : ∀ d ∈ oddL n, El d := by
  have two := @el_two
  have l1 : El (.tuple []) := ⟨True.intro, (ShC.tuple (k := 2) (n := 0) (ShCA.nil (n := 0))).up (by decide) (by decide)⟩
  have l2 : El (.list [.int 0]) := ⟨True.intro, (ShC.list (k := 2) (n := 1) (.cons (n := 0) (.int (by decide)) (ShCA.nil (n := 0)) (by decide))).up (by decide) (by decide)⟩
  have l3 : El (.tuple [.none, .int 0]) := ⟨⟨True.intro, (by show (0 : Int).natAbs < 2 ^ 140; decide), True.intro⟩, (ShC.tuple (k := 2) (n := 2) (.cons (n := 0) .none (.cons (n := 0) (.int (by decide)) (ShCA.nil (n := 0)) (Nat.le_refl _)) (by decide))).up (by decide) (by decide)⟩
  have s0 : ∀ z : Str, (∀ c ∈ z.cps.toList, c < 16 ^ 8) → z.length ≤ 46 → El (.str z) := fun z h1 h2 => ⟨True.intro, .str h1 h2⟩
  intro d hd
  simp only [oddL, List.mem_cons, List.not_mem_nil, or_false] at hd
  rcases hd with rfl | rfl | rfl | rfl | rfl | rfl | rfl | rfl | rfl | rfl | rfl | rfl | rfl | rfl | rfl | rfl
  · exact ⟨True.intro, .none⟩
  · exact ⟨True.intro, .bool⟩
  · exact s0 _ (by decide +kernel) (by decide +kernel)
  · exact s0 _ (by decide +kernel) (by decide +kernel)
  · exact el_int (by decide)
  · exact el_int (nat_el (by omega))
  · exact el_int (by decide)
  · exact el_int (by decide)
  · exact l1
  · exact two (by decide) (by decide)
  · exact two (by decide) (by decide)
  · exact two (by decide) (by decide)
  · exact l2
  · exact s0 _ (by decide +kernel) (by decide +kernel)
  · exact l3
  · exact el_int (by decide)
theorem big_two {x y : PyData} (hx : Sz 140 x) (hy : Sz 140 y) (sx : ShC x 6 16700) (sy : ShC y 6 16700) : Big (.tuple [x, y]) ∧ Big (.list [x, y]) := by
  have a : ShCA [x, y] 6 34000 := .cons sx (.cons sy (ShCA.nil (n := 0)) (Nat.le_refl _)) (by decide)
  exact ⟨⟨⟨hx, hy, True.intro⟩, (ShC.tuple a).up (by decide) (by decide)⟩, ⟨True.intro, (ShC.list a).up (by decide) (by decide)⟩⟩
section
variable {P : Program} {w : World} {K : PySem.W.Frag} {mg : Str → Option Value} {base : Heap}
abbrev s_spoilt : Stmt := top 127
theorem sc_spoilt : FnScope ["_law_draw_here", "_law_made", "_law_net", "_law_way", "_law_many", "_law_steps", "_law_at", "_law_place", "_law_turn", "_law_odd", "_law_new", "_law_step", "_law_changed"] ["_law_draw_here", "_law_made", "_law_net", "_law_way"] (defScope s_spoilt) := ⟨rfl, rfl, rfl, by decide +kernel, rfl, by decide +kernel, by decide +kernel⟩
theorem ok_spoilt {f : Addr} {fd : FuncData} (F : FnP K "_law_spoilt" s_spoilt f fd) {f_next : Addr} {fd_next : FuncData} (F_next : FnP K "_law_next" s_next f_next fd_next) (g_next : mg "_law_next" = some (.ref f_next)) (G_next : FnOk P w K mg base (CX0) 2 f_next fd_next ["_law_draw_here", "_law_many"] (spNext)) {f_one : Addr} {fd_one : FuncData} (F_one : FnP K "_law_one" s_one f_one fd_one) (g_one : mg "_law_one" = some (.ref f_one)) (G_one : FnOk P w K mg base (CX0) 4 f_one fd_one ["_law_made"] (spLOne 3)) (z_list : mg "list" = none) (z_max : mg "max" = none) (z_len : mg "len" = none) : FnOk P w K mg base (CX0) 5 f fd ["_law_draw_here", "_law_made", "_law_net", "_law_way"] (spSpoilt) := by
  have b_next : Binds K fd_next ["_law_draw_here", "_law_many"] [] := F_next.bindsN fun _ _ _ _ _ _ us hl => match us, hl with | [_, _], _ => rfl
  have b_one : Binds K fd_one ["_law_made"] [] := F_one.bindsN fun _ _ _ _ _ _ us hl => match us, hl with | [_], _ => rfl
  refine F.ok (CX := CX0) sc_spoilt (fun vs H Q E h => ?_) (fun cdv A outer s H vs Q E hr h => ?_)
  · obtain ⟨m, pc, pg, cs, j, mv, wv, k, n, ss, way, rfl, _⟩ := h
    rfl
  · obtain ⟨m, pc, pg, cs, j, mv, wv, k, n, ss, way, rfl, hD, hj, hM, hk3, hok', hc, hW, hok, hz, q⟩ := h
    have hu := hu_of hr
    have hu64 := hr.units
    have hr_next := hr.mono (by decide : 2 ≤ 4)
    have hr_one := hr.mono (by decide : 4 ≤ 4)
    refine ⟨_, PSs.nox (pss_cons (ps_asg (pv 2) (pg_tup rfl (pgs_cons (pg_name (i := 4) sc_spoilt.nd rfl (Or.inl rfl)) (pgs_cons (pg_name (i := 5) sc_spoilt.nd rfl (Or.inl rfl)) pgs_nil))))
      (pss_cons (ps_par3 (i := 6) (j := 7) (l := 8) (by rfl) sc_spoilt.nd rfl rfl rfl (by decide) (by decide) (by decide) rfl rfl rfl (pa_cons (pe_call G_next hr_next rfl g_next F_next.kp b_next .nil pass0 (pa_cons (pv 0) (pa_cons (pe_callB (call_max2 rfl) (by rfl) z_max PyProof.Rows.boot_max (pa_cons pe_int (pa_cons (pe_callB call_len_seq (by rfl) z_len PySem.boot_len (pa_cons (pv 5) pa_nil)) pa_nil))) pa_nil))) (pa_cons (pe_call G_next hr_next rfl g_next F_next.kp b_next .nil pass0 (pa_cons (pv 0) (pa_cons pe_int pa_nil))) (pa_cons (pe_call G_next hr_next rfl g_next F_next.kp b_next .nil pass0 (pa_cons (pv 0) (pa_cons pe_int pa_nil))) pa_nil))) (by rfl))
      (pss_cons (ps_set (i := 9) sc_spoilt.nd rfl (Or.inl rfl) (pe_lst (pa_cons pe_non (pa_cons pe_bl (pa_cons pe_str (pa_cons pe_str (pa_cons (pe_un un_neg pe_int) (pa_cons (pv 4) (pa_cons pe_int (pa_cons (pe_op op_pow pe_int pe_int) (pa_cons (pe_tup pa_nil) (pa_cons (pe_tup (pa_cons pe_int (pa_cons pe_int pa_nil))) (pa_cons (pe_tup (pa_cons pe_int (pa_cons pe_int pa_nil))) (pa_cons (pe_tup (pa_cons pe_int (pa_cons pe_int pa_nil))) (pa_cons (pe_lst (pa_cons pe_int pa_nil)) (pa_cons pe_str (pa_cons (pe_tup (pa_cons pe_non (pa_cons pe_int pa_nil))) (pa_cons pe_int pa_nil))))))))))))))))))
      (pss_cons (ps_set (i := 10) sc_spoilt.nd rfl (Or.inl rfl) (pe_ix ix_list (pv 9) (pe_call G_next hr_next rfl g_next F_next.kp b_next .nil pass0 (pa_cons (pv 0) (pa_cons pe_int pa_nil))) (fun _ _ => rfl)))
      (pss_cons (ps_if (pt_cmpR op_eq (pv 3) pe_int (nomark _)) (pss_one (ps_ret (pe_tup (pa_cons (pv 10) (pa_cons (pv 5) pa_nil))))) pss_nil)
      (pss_cons (ps_if (pt_cmpR op_eq (pv 3) pe_int (nomark _)) (pss_one (ps_ret (pe_tup (pa_cons (pe_op op_add pe_int (pe_call G_next hr_next rfl g_next F_next.kp b_next .nil pass0 (pa_cons (pv 0) (pa_cons pe_int pa_nil)))) (pa_cons (pv 5) pa_nil))))) pss_nil)
      (pss_cons (ps_if (pt_cmpR op_eq (pv 3) pe_int (nomark _)) (pss_one (ps_ret (pe_ix ix_list (pe_lst (pa_cons (pe_callTy call_list_of (by rfl) z_list PyProof.Rows.boot_list (pa_cons (pv 2) pa_nil)) (pa_cons (pe_tup (pa_cons (pv 4) (pa_cons (pe_callTy call_list_of (by rfl) z_list PyProof.Rows.boot_list (pa_cons (pv 5) pa_nil)) pa_nil))) (pa_cons (pe_op op_catA (pv 2) (pe_tup (pa_cons (pv 5) pa_nil))) (pa_cons (pe_slice sl_tupA (pv 2) po_none (po_some pe_int)) (pa_cons (pe_tup (pa_cons (pv 4) pa_nil)) (pa_cons (pv 10) (pa_cons (pe_tup (pa_cons (pv 5) (pa_cons (pv 4) pa_nil))) (pa_cons (pe_tup (pa_cons (pv 4) (pa_cons (pv 10) pa_nil))) pa_nil))))))))) (pv 8) (fun _ _ => rfl)))) pss_nil)
      (pss_cons (ps_if (pt_cmpR op_eq (pv 3) pe_int (nomark _)) (pss_one (ps_ret (pe_tup (pa_cons (pv 4) (pa_cons (pe_slice sl_tupA (pe_op op_catA (pv 5) (pe_op op_repT (pe_tup (pa_cons (pe_tup (pa_cons pe_int (pa_cons pe_int (pa_cons (pe_call G_one hr_one rfl g_one F_one.kp b_one .nil pass0 (pa_cons (pv 1) pa_nil)) pa_nil)))) pa_nil)) pe_int)) po_none (po_some (pe_op op_add pe_int (pe_op op_mod (pv 8) pe_int)))) pa_nil))))) pss_nil)
      (pss_cons (ps_set (i := 11) sc_spoilt.nd rfl (Or.inl rfl) (pe_ix ix_tup (pe_op op_catA (pv 5) (pe_tup (pa_cons (pe_tup (pa_cons pe_int (pa_cons pe_int (pa_cons (pe_call G_one hr_one rfl g_one F_one.kp b_one .nil pass0 (pa_cons (pv 1) pa_nil)) pa_nil)))) pa_nil))) (pv 6) (fun _ _ => rfl)))
      (pss_cons (ps_if (pt_cmpR op_eq (pv 3) pe_int (nomark _)) (pss_one (ps_set (i := 12) sc_spoilt.nd rfl (Or.inl rfl) (pe_ix ix_list (pe_lst (pa_cons (pe_slice sl_tupA (pv 11) po_none (po_some pe_int)) (pa_cons (pe_callTy call_list_of (by rfl) z_list PyProof.Rows.boot_list (pa_cons (pv 11) pa_nil)) (pa_cons (pe_op op_catA (pv 11) (pe_tup (pa_cons pe_int pa_nil))) (pa_cons (pv 10) pa_nil))))) (pe_op op_mod (pv 8) pe_int) (fun _ _ => rfl)))) (pss_one (ps_set (i := 12) sc_spoilt.nd rfl (Or.inl rfl) (pe_op op_catA (pe_op op_catA (pe_slice sl_tupA (pv 11) po_none (po_some (pv 7))) (pe_tup (pa_cons (pv 10) pa_nil))) (pe_slice sl_tupA (pv 11) (po_some (pe_op op_add (pv 7) pe_int)) po_none)))))
      (pss_one (ps_ret (pe_tup (pa_cons (pv 4) (pa_cons (pe_op op_catA (pe_op op_catA (pe_slice sl_tupA (pv 5) po_none (po_some (pv 6))) (pe_tup (pa_cons (pv 12) pa_nil))) (pe_slice sl_tupA (pv 5) (po_some (pe_op op_add (pv 6) pe_int)) po_none)) pa_nil))))))))))))))), ?_⟩
    obtain ⟨a, p1, us, rfl, ha, hp1, hus, hlen⟩ := web_at hW
    have n1 := hok.n1
    have n12 := hok.n12
    have l80 := hok.len
    obtain ⟨D, hDd⟩ : ∃ D : List PyData, D = ss.map stepD := ⟨_, rfl⟩
    have hDl : D.length = ss.length := by rw [hDd, List.length_map]
    have hul : us.length = D.length := by rw [hDl]; exact hlen
    have hDe : ∀ d ∈ D, ∃ es : List PyData, d = .tuple es ∧ es.length = 3 ∧ ∀ e ∈ es, El e := fun d hd => by
      rw [hDd] at hd
      obtain ⟨s, hs, rfl⟩ := List.mem_map.mp hd
      obtain ⟨h1, h2, h3⟩ := hok.at_ s hs
      exact step_el hc hk3 n12 h1 h2 h3 (hz s hs)
    rw [← hDd] at hus
    -- a step of ONE
    obtain ⟨e1D, he1D⟩ : ∃ es : List PyData, es = [.int 0, .int 0, oneD k] := ⟨_, rfl⟩
    have he1 : e1D.length = 3 ∧ ∀ e ∈ e1D, El e := by
      rw [he1D]
      refine ⟨rfl, fun e he => ?_⟩
      rcases List.mem_cons.mp he with rfl | he
      · exact el_int (by decide)
      · rcases List.mem_cons.mp he with rfl | he
        · exact el_int (by decide)
        · rcases List.mem_cons.mp he with rfl | he
          · exact ⟨sz_one hc hok', sml_good hc hk3 (good_one hc) (sz_one hc hok')⟩
          · cases he
    have hE : ∀ d ∈ D ++ [PyData.tuple e1D], ∃ es : List PyData, d = .tuple es ∧ es.length = 3 ∧ ∀ e ∈ es, El e := fun d hd => by
      rcases List.mem_append.mp hd with h | h
      · exact hDe d h
      · rw [List.mem_singleton] at h
        subst h
        exact ⟨e1D, rfl, he1.1, he1.2⟩
    have sml : ∀ {d : PyData}, (∃ es : List PyData, d = .tuple es ∧ es.length = 3 ∧ ∀ e ∈ es, El e) → Sml d := fun {d} ⟨es, h1, h2, h3⟩ => by
      rw [h1]
      exact sml_tup (by omega) h3
    have hDs : SmlA 80 D := ⟨by omega, fun d hd => sml (hDe d hd)⟩
    have nz : Sz 140 (.int (n : Int)) := nat_el (by omega)
    have ns : ∀ {i j : Nat}, ShC (.int (n : Int)) i j := fun {i j} => .int (Nat.lt_of_lt_of_le nz (Nat.pow_le_pow_right (by decide) (by decide)))
    refine ⟨_, rfl, a, _, rfl, st_of ha, rfl, _, _, rfl, _, _, rfl, rfl, ?_⟩
    dsimp only
    refine par3_step ?_
    refine ⟨_, rfl, _, rfl, p1, us, rfl, .inr (st_of hp1), 1, (us.length : Int), rfl, ?_⟩
    obtain ⟨M, hM0, hM1, hM2⟩ : ∃ M : Int, (if (us.length : Int) > 1 then (us.length : Int) else 1) = M ∧ 0 < M ∧ M ≤ 80 ∧ (M ≤ us.length ∨ (M = 1 ∧ us.length = 0)) := by
      by_cases h : (us.length : Int) > 1
      · exact ⟨_, if_pos h, by omega, by omega, .inl (by omega)⟩
      · exact ⟨_, if_neg h, by omega, by omega, by omega⟩
    rw [hM0]
    refine ⟨m, pc, pg, cs, j, M, rfl, hD, by omega, hM1, small_log (by omega), fun at' H1 a0 a1 r1 => ?_⟩
    refine ⟨_, rfl, m, pc, pg, cs, j + 1, 3, rfl, r1.inv, by omega, by decide, by decide, fun pl' H2 b0 b1 r2 => ?_⟩
    refine ⟨_, rfl, m, pc, pg, cs, j + 2, 8, rfl, r2.inv, by omega, by decide, by decide, fun tu' H3 c0 c1 r3 => ⟨_, _, _, rfl, ?_⟩⟩
    obtain ⟨at_, rfl⟩ : ∃ x : Nat, at' = (x : Int) := ⟨at'.toNat, by omega⟩
    obtain ⟨pl, rfl⟩ : ∃ x : Nat, pl' = (x : Int) := ⟨pl'.toNat, by omega⟩
    obtain ⟨tu, rfl⟩ : ∃ x : Nat, tu' = (x : Int) := ⟨tu'.toNat, by omega⟩
    have hat : at_ ≤ D.length := by
      rcases hM2.2 with h | h <;> omega
    have r03 : RD m pc pg cs (j + 3) H H3 := (r1.then r2).then r3
    have hS3 : ∀ p, H3 p = none → H p = none := fun p hp => r03.bak hD hp
    refine q_asgO (d := .list (oddL n)) (evo_lst hS3 (eoa_cons (evo_ev ev_c .non) (eoa_cons (evo_ev ev_c (.bl true)) (eoa_cons (evo_ev ev_c (.str _)) (eoa_cons (evo_ev ev_c (.str _)) (eoa_cons (evo_ev (ev_un ev_c rv_neg) (.int _)) (eoa_cons (evo_ev (ev_var rfl) (.int _)) (eoa_cons (evo_ev ev_c (.int _)) (eoa_cons (evo_ev (ev_op ev_c ev_c (rv_I ⟨by decide, by decide, by decide⟩)) (.int _)) (eoa_cons (evo_tup eoa_nil (by decide)) (eoa_cons (evo_tup (eoa_cons (evo_ev ev_c (.int _)) (eoa_cons (evo_ev ev_c (.int _)) eoa_nil)) (by show 2 ≤ 100000; decide)) (eoa_cons (evo_tup (eoa_cons (evo_ev ev_c (.int _)) (eoa_cons (evo_ev ev_c (.int _)) eoa_nil)) (by show 2 ≤ 100000; decide)) (eoa_cons (evo_tup (eoa_cons (evo_ev ev_c (.int _)) (eoa_cons (evo_ev ev_c (.int _)) eoa_nil)) (by show 2 ≤ 100000; decide)) (eoa_cons (evo_lst hS3 (eoa_cons (evo_ev ev_c (.int _)) eoa_nil) (by show 1 ≤ 100000; decide)) (eoa_cons (evo_ev ev_c (.str _)) (eoa_cons (evo_tup (eoa_cons (evo_ev ev_c .non) (eoa_cons (evo_ev ev_c (.int _)) eoa_nil)) (by show 2 ≤ 100000; decide)) (eoa_cons (evo_ev ev_c (.int _)) eoa_nil)))))))))))))))) (by show 16 ≤ 100000; decide)) fun vo H4 e4 hvo => ?_
    have r04 : RD m pc pg cs (j + 3) H H4 := r03.then (.ofEx r03.inv e4)
    refine asg_step ⟨_, rfl, _, rfl, m, pc, pg, cs, j + 3, 16, rfl, r04.inv, by omega, by decide, by decide, fun x' G x0 x1 r5 => ?_⟩
    obtain ⟨x, rfl⟩ : ∃ y : Nat, x' = (y : Int) := ⟨x'.toNat, by omega⟩
    have r0G : RD m pc pg cs (j + 4) H G := r04.then r5
    have hvo := hvo.mv (r5.kps hD r04.inv)
    have hSG : ∀ p, G p = none → H p = none := fun p hp => r0G.bak hD hp
    have kp : Kp H G := r0G.kp hD
    have hx16 : x < (oddL n).length := by show x < 16; omega
    have hnd := odd_el n12 _ (List.getElem_mem hx16)
    have hne : (oddL n)[x]? = some (oddL n)[x] := List.getElem?_eq_getElem hx16
    generalize (oddL n)[x] = nd at hnd hne
    have hx : ∃ A xs, vo = .ref A ∧ G A = some (.lst xs) ∧ ∃ v, atI xs (x : Int) = some v ∧ OdAt (fun p => H p = none) G v nd := by
      cases hvo with
      | lst hA _ hr =>
        obtain ⟨v, h1, h2⟩ := od_at hr hne
        exact ⟨_, _, rfl, hA, v, h1, h2⟩
    obtain ⟨A, xs, rfl, hA, nv, hxv, hnv⟩ := hx
    refine ⟨A, xs, (x : Int), nv, rfl, rfl, sq_of hA, hxv, ?_⟩
    change tSeq _ _ _ [some (.ref m), some mv, some (.ref a), some (.int way), some (.int (n : Int)), some (.ref p1), some (.int (at_ : Int)), some (.int (pl : Int)), some (.int (tu : Int)), some (.ref A), some nv, none, none] G
    have haG : OdAt (fun p => H p = none) G (.ref a) (.tuple [.int (n : Int), .tuple D]) := .tup (kp.tup ha) (.cons (.int _) (.cons (.tup (kp.tup hp1) (hus.kp kp).od) .nil))
    have hpG : OdAt (fun p => H p = none) G (.ref p1) (.tuple D) := .tup (kp.tup hp1) (hus.kp kp).od
    have hMG := hM.kp kp
    have done : ∀ {v : V} {d : PyData} {H' : Hp}, Ex G H' → OdAt (fun p => H p = none) H' v d → Big d → Q v H' := fun {v d H'} e h b => q v d H' (RD.up (r0G.then (.ofEx r0G.inv e)) (by omega)) h b
    have small : ∀ {d : PyData}, Sml d → Sz 140 d ∧ ShC d 6 16700 := fun {d} h => ⟨h.sz, h.sh.up (by decide) (by decide)⟩
    have bD := big_tup (by decide) hDs
    have bigD : ShC (.tuple D) 6 16700 := bD.2.up (by decide) (by decide)
    refine q_when (b := way == 0) (et_test (ev_eqI (ev_var rfl) ev_c)) (fun _ G1 f1 => ?_) (fun _ G1 f1 => ?_)
    · exact s_retO (evo_tup (eoa_cons (evo_ev (ev_var rfl) (hnv.ex f1)) (eoa_cons (evo_ev (ev_var rfl) (hpG.ex f1)) eoa_nil)) (by show 2 ≤ 100000; decide)) fun v H' e ho => done (f1.trans e) ho (big_two hnd.sz bD.1 (small hnd.sml).2 bigD).1
    refine q_when (b := way == 1) (et_test (ev_eqI (ev_var rfl) ev_c)) (fun _ G2 f2 => ?_) (fun _ G2 f2 => ?_)
    · have f12 := f1.trans f2
      refine ⟨_, rfl, m, pc, pg, cs, j + 4, 13, rfl, (RD.ofEx r0G.inv f12).inv, by omega, by decide, by decide, fun y G3 y0 y1 r6 => ⟨1, y, rfl, rfl, _, rfl, by show 2 ≤ sizeLine; decide, fun l hl => ?_⟩⟩
      have hp3 := (hpG.ex f12).mv (r6.kps hD (RD.ofEx r0G.inv f12).inv)
      have r7 : RD m pc pg cs (j + 5) H G3 := (r0G.then (.ofEx r0G.inv f12)).then r6
      refine q _ (.tuple [.int (1 + y), .tuple D]) _ (RD.up (r7.then (.ofEx r7.inv (Ex.new hl))) (by omega)) (.tup upd_same (.cons (.int _) (.cons (hp3.ex (Ex.new hl)) .nil))) ?_
      have hy : (1 + y).natAbs < 2 ^ 140 := Nat.lt_of_lt_of_le (by omega : (1 + y).natAbs < 20) (by decide)
      exact (big_two (x := .int (1 + y)) (y := .tuple D) hy bD.1 (.int (Nat.lt_of_lt_of_le hy (Nat.pow_le_pow_right (by decide) (by decide)))) bigD).1
    refine q_when (b := way == 2) (et_test (ev_eqI (ev_var rfl) ev_c)) (fun _ G3 f3 => ?_) (fun _ G3 f3 => ?_)
    · have f := (f1.trans f2).trans f3
      have hS : ∀ p, G3 p = none → H p = none := fun p hp => hSG p (fresh_back f hp)
      have nE : ∀ {G' : Hp}, EvO (fun p => H p = none) (tVar 4) [some (.ref m), some mv, some (.ref a), some (.int way), some (.int (n : Int)), some (.ref p1), some (.int (at_ : Int)), some (.int (pl : Int)), some (.int (tu : Int)), some (.ref A), some nv, none, none] G' (.int (n : Int)) := fun {G'} => evo_ev (ev_var rfl) (.int _)
      have sE : EvO (fun p => H p = none) (tVar 5) [some (.ref m), some mv, some (.ref a), some (.int way), some (.int (n : Int)), some (.ref p1), some (.int (at_ : Int)), some (.int (pl : Int)), some (.int (tu : Int)), some (.ref A), some nv, none, none] G3 (.tuple D) := evo_ev (ev_var rfl) (hpG.ex f)
      have wE : EvO (fun p => H p = none) (tVar 2) [some (.ref m), some mv, some (.ref a), some (.int way), some (.int (n : Int)), some (.ref p1), some (.int (at_ : Int)), some (.int (pl : Int)), some (.int (tu : Int)), some (.ref A), some nv, none, none] G3 (.tuple [.int (n : Int), .tuple D]) := evo_ev (ev_var rfl) (haG.ex f)
      have oE : EvO (fun p => H p = none) (tVar 10) [some (.ref m), some mv, some (.ref a), some (.int way), some (.int (n : Int)), some (.ref p1), some (.int (at_ : Int)), some (.int (pl : Int)), some (.int (tu : Int)), some (.ref A), some nv, none, none] G3 nd := evo_ev (ev_var rfl) (hnv.ex f)
      obtain ⟨T8, hT8⟩ : ∃ T8 : List PyData, T8 = [.list [.int (n : Int), .tuple D], .tuple [.int (n : Int), .list D], .tuple ([.int (n : Int), .tuple D] ++ [.tuple D]), .tuple ([PyData.int (n : Int), .tuple D].take 1), .tuple [.int (n : Int)], nd, .tuple [.tuple D, .int (n : Int)], .tuple [.int (n : Int), nd]] := ⟨_, rfl⟩
      have hb8 : ∀ d ∈ T8, Big d := fun d hd => by
        rw [hT8] at hd
        simp only [List.mem_cons, List.not_mem_nil, or_false] at hd
        have bL := big_lst hDs
        have bigL : ShC (.list D) 6 16700 := bL.2.up (by decide) (by decide)
        have b1 : Big (.tuple [.int (n : Int)]) := ⟨⟨nz, True.intro⟩, (ShC.tuple (k := 2) (n := 1) (.cons (n := 0) ns (ShCA.nil (n := 0)) (by decide))).up (by decide) (by decide)⟩
        rcases hd with rfl | rfl | rfl | rfl | rfl | rfl | rfl | rfl
        · exact (big_two nz bD.1 ns bigD).2
        · exact (big_two nz bL.1 ns bigL).1
        · exact ⟨⟨nz, bD.1, bD.1, True.intro⟩, (ShC.tuple (k := 6) (n := 33500) (.cons (n := 0) ns (.cons bigD (.cons bigD (ShCA.nil (n := 0)) (Nat.le_refl _)) (Nat.le_refl _)) (by decide))).up (by decide) (by decide)⟩
        · exact b1
        · exact b1
        · exact ⟨hnd.sz, hnd.sh.up (by decide) (by decide)⟩
        · exact (big_two bD.1 nz bigD ns).1
        · exact (big_two nz hnd.sz ns (small hnd.sml).2).1
      have ht8 : tu < T8.length := by rw [hT8]; show tu < 8; omega
      have hte : T8[tu]? = some T8[tu] := List.getElem?_eq_getElem ht8
      refine s_retO (d := T8[tu]) (evo_ixL (ds := T8) (by
        rw [hT8]
        exact evo_lst hS (eoa_cons (evo_listOf hS wE) (eoa_cons (evo_tup (eoa_cons nE (eoa_cons (evo_listOf hS sE) eoa_nil)) (by show 2 ≤ 100000; decide)) (eoa_cons (evo_cat wE (evo_tup (eoa_cons sE eoa_nil) (by show 1 ≤ 100000; decide)) (by show 2 + 1 ≤ 100000; decide)) (eoa_cons (evo_take (n := 1) wE ev_c) (eoa_cons (evo_tup (eoa_cons nE eoa_nil) (by show 1 ≤ 100000; decide)) (eoa_cons oE (eoa_cons (evo_tup (eoa_cons sE (eoa_cons nE eoa_nil)) (by show 2 ≤ 100000; decide)) (eoa_cons (evo_tup (eoa_cons nE (eoa_cons oE eoa_nil)) (by show 2 ≤ 100000; decide)) eoa_nil)))))))) (by show 8 ≤ 100000; decide)) (ev_var rfl) hte) fun v H' e ho => done (f.trans e) ho (hb8 _ (List.getElem_mem ht8))
    have f := (f1.trans f2).trans f3
    have oneE : ∀ {G' : Hp} {s9 s10 s11 s12 : Option V}, Ex G G' → EvO (fun p => H p = none) (tTup (tCons (tTup (tCons (tC (.int 0)) (tCons (tC (.int 0)) (tCons (tCall (spLOne 3) [] E0 (tCons (tVar 1) tNil)) tNil)))) tNil)) [some (.ref m), some mv, some (.ref a), some (.int way), some (.int (n : Int)), some (.ref p1), some (.int (at_ : Int)), some (.int (pl : Int)), some (.int (tu : Int)), s9, s10, s11, s12] G' (.tuple [.tuple e1D]) := fun {G' s9 s10 s11 s12} e => by
      rw [he1D]
      exact evo_tup (eoa_cons (evo_tup (eoa_cons (evo_ev ev_c (.int _)) (eoa_cons (evo_ev ev_c (.int _)) (eoa_cons (fun G1 e1 Q' q' => ⟨_, rfl, mv, k, rfl, hMG.ex (e.trans e1), hk3, hok', hc, fun x G2 e2 hx => q' x G2 e2 hx.od⟩) eoa_nil))) (by show 3 ≤ 100000; decide)) eoa_nil) (by show 1 ≤ 100000; decide)
    refine q_when (b := way == 3) (et_test (ev_eqI (ev_var rfl) ev_c)) (fun _ G4 f4 => ?_) (fun _ G4 f4 => ?_)
    · have ff := f.trans f4
      have hm : ∃ c : Nat, (80 : Int) + ((tu : Int) % 2) = (c : Int) := ⟨80 + tu % 2, by omega⟩
      obtain ⟨c, hc80⟩ := hm
      have hL : SmlA 161 (D ++ List.replicate 81 (PyData.tuple e1D)) := by
        refine SmlA.app hDs (m := 81) ⟨by rw [List.length_replicate]; exact Nat.le_refl _, fun d hd => ?_⟩
        rw [List.eq_of_mem_replicate hd]
        exact sml ⟨_, rfl, he1⟩
      have hT : SmlA 81 ((D ++ List.replicate 81 (PyData.tuple e1D)).take c) := ⟨by rw [List.length_take]; omega, (hL.take c).2⟩
      have bT := big_tup (by decide) hT
      exact s_retO (evo_tup (eoa_cons (evo_ev (ev_var rfl) (.int _)) (eoa_cons (evo_take (n := c) (evo_cat (evo_ev (ev_var rfl) (hpG.ex ff)) (evo_rep (n := 81) (oneE ff) (by decide) (by decide) ev_c) (by rw [List.length_replicate]; omega)) (ev_is (ev_op ev_c (ev_op (ev_var rfl) ev_c (rv_I (by decide))) rv_I0) (congrArg V.int hc80))) eoa_nil)) (by show 2 ≤ 100000; decide)) fun v H' e ho => done (ff.trans e) ho (big_two nz bT.1 ns (bT.2.up (by decide) (by decide))).1
    have ff := f.trans f4
    have hal : at_ < (D ++ [PyData.tuple e1D]).length := by rw [List.length_append]; show at_ < D.length + 1; omega
    have hae : (D ++ [PyData.tuple e1D])[at_]? = some (D ++ [PyData.tuple e1D])[at_] := List.getElem?_eq_getElem hal
    obtain ⟨es, hes, hel, hee⟩ := hE _ (List.getElem_mem hal)
    rw [hes] at hae
    refine q_asgO (evo_ixT (evo_cat (evo_ev (ev_var rfl) (hpG.ex ff)) (oneE ff) (by show D.length + 1 ≤ 100000; omega)) (ev_var rfl) hae) fun sv G5 f5 hsv => ?_
    have fE := ff.trans f5
    -- what is put in
    have fin : ∀ {G' : Hp} {cv : V} {cd : PyData}, Ex G G' → OdAt (fun p => H p = none) G' cv cd → Sml cd → tRet (tTup (tCons (tVar 4) (tCons (tOp (rCatA K) (tOp (rCatA K) (tSl (rSlA K) (tVar 5) tNoPart (tPart (tVar 6))) (tTup (tCons (tVar 12) tNil))) (tSl (rSlA K) (tVar 5) (tPart (tOp (rI0 fun i j => .int (i + j)) (tVar 6) (tC (.int 1)))) tNoPart)) tNil))) { nx := fun _ H' => Q .non H', rt := Q } [some (.ref m), some mv, some (.ref a), some (.int way), some (.int (n : Int)), some (.ref p1), some (.int (at_ : Int)), some (.int (pl : Int)), some (.int (tu : Int)), some (.ref A), some nv, some sv, some cv] G' := fun {G' cv cd} e hcv hcd => by
      have hA : SmlA 161 ((D.take at_ ++ [cd]) ++ D.drop (at_ + 1)) := SmlA.app (SmlA.app (hDs.take _) (m := 1) ⟨Nat.le_refl _, fun d hd => by rw [List.mem_singleton] at hd; subst hd; exact hcd⟩) (hDs.drop _)
      have hAl : ((D.take at_ ++ [cd]) ++ D.drop (at_ + 1)).length ≤ 81 := by
        rw [List.length_append, List.length_append, List.length_take, List.length_drop]
        show min at_ D.length + 1 + (D.length - (at_ + 1)) ≤ 81
        omega
      have bT := big_tup (by decide) (⟨hAl, hA.2⟩ : SmlA 81 _)
      exact s_retO (evo_tup (eoa_cons (evo_ev (ev_var rfl) (.int _)) (eoa_cons (evo_cat (evo_cat (evo_take (n := at_) (evo_ev (ev_var rfl) (hpG.ex e)) (ev_var rfl)) (evo_tup (eoa_cons (evo_ev (ev_var rfl) hcv) eoa_nil) (by show 1 ≤ 100000; decide)) (by rw [List.length_take]; show min at_ D.length + 1 ≤ 100000; omega)) (evo_drop (n := at_ + 1) (evo_ev (ev_var rfl) (hpG.ex e)) (ev_is (ev_op (ev_var rfl) ev_c rv_I0) (congrArg V.int (by omega : (at_ : Int) + 1 = ((at_ + 1 : Nat) : Int))))) (by rw [List.length_append, List.length_take, List.length_drop]; show min at_ D.length + 1 + (D.length - (at_ + 1)) ≤ 100000; omega)) eoa_nil)) (by show 2 ≤ 100000; decide)) fun v H' e' ho => done (e.trans e') ho (big_two nz bT.1 ns (bT.2.up (by decide) (by decide))).1
    have hall : ∀ es' : List PyData, es'.length ≤ 4 → (∀ e ∈ es', e ∈ es ∨ e = nd ∨ e = .int 0) → Sml (.tuple es') ∧ Sml (.list es') := fun es' hl h => by
      have : ∀ e ∈ es', El e := fun e he => by
        rcases h e he with h | rfl | rfl
        · exact hee e h
        · exact hnd
        · exact el_int (by decide)
      exact ⟨sml_tup hl this, sml_lst hl this⟩
    refine q_if (b := way == 4) (et_test (ev_eqI (ev_var rfl) ev_c)) (fun _ G6 f6 => ?_) (fun _ G6 f6 => ?_)
    · have f56 := fE.trans f6
      have hS : ∀ p, G6 p = none → H p = none := fun p hp => hSG p (fresh_back f56 hp)
      have sE := hsv.ex f6
      have stE : EvO (fun p => H p = none) (tVar 11) [some (.ref m), some mv, some (.ref a), some (.int way), some (.int (n : Int)), some (.ref p1), some (.int (at_ : Int)), some (.int (pl : Int)), some (.int (tu : Int)), some (.ref A), some nv, some sv, none] G6 (.tuple es) := evo_ev (ev_var rfl) sE
      obtain ⟨T4, hT4⟩ : ∃ T4 : List PyData, T4 = [.tuple (es.take 2), .list es, .tuple (es ++ [.int 0]), nd] := ⟨_, rfl⟩
      have hb4 : ∀ d ∈ T4, Sml d := fun d hd => by
        rw [hT4] at hd
        simp only [List.mem_cons, List.not_mem_nil, or_false] at hd
        rcases hd with rfl | rfl | rfl | rfl
        · exact (hall _ (by rw [List.length_take]; omega) fun e he => .inl (List.mem_of_mem_take he)).1
        · exact (hall _ (by omega) fun e he => .inl he).2
        · exact (hall _ (by rw [List.length_append]; show es.length + 1 ≤ 4; omega) fun e he => (List.mem_append.mp he).elim .inl fun h => .inr (.inr (List.mem_singleton.mp h))).1
        · exact hnd.sml
      obtain ⟨c, hc4⟩ : ∃ c : Nat, (tu : Int) % 4 = (c : Int) := ⟨tu % 4, by omega⟩
      have ht4 : c < T4.length := by rw [hT4]; show c < 4; omega
      have hte : T4[c]? = some T4[c] := List.getElem?_eq_getElem ht4
      refine evo_ixL (ds := T4) (i := c) (d := T4[c]) (S := fun p => H p = none) (σ := [some (.ref m), some mv, some (.ref a), some (.int way), some (.int (n : Int)), some (.ref p1), some (.int (at_ : Int)), some (.int (pl : Int)), some (.int (tu : Int)), some (.ref A), some nv, some sv, none]) (H := G6) (by
        rw [hT4]
        exact evo_lst hS (eoa_cons (evo_take (n := 2) stE ev_c) (eoa_cons (evo_listOf hS stE) (eoa_cons (evo_cat stE (evo_tup (eoa_cons (evo_ev ev_c (.int _)) eoa_nil) (by show 1 ≤ 100000; decide)) (by show es.length + 1 ≤ 100000; omega)) (eoa_cons (evo_ev (ev_var rfl) (hnv.ex f56)) eoa_nil)))) (by show 4 ≤ 100000; decide)) (ev_is (ev_op (ev_var rfl) ev_c (rv_I (by decide))) (congrArg V.int hc4)) hte G6 (Ex.refl G6) _ fun cv G7 f7 hcv => ?_
      exact fin (f56.trans f7) hcv (hb4 _ (List.getElem_mem ht4))
    · have f56 := fE.trans f6
      have sE := hsv.ex f6
      have stE : EvO (fun p => H p = none) (tVar 11) [some (.ref m), some mv, some (.ref a), some (.int way), some (.int (n : Int)), some (.ref p1), some (.int (at_ : Int)), some (.int (pl : Int)), some (.int (tu : Int)), some (.ref A), some nv, some sv, none] G6 (.tuple es) := evo_ev (ev_var rfl) sE
      refine evo_cat (evo_cat (evo_take (n := pl) stE (ev_var rfl)) (evo_tup (eoa_cons (evo_ev (ev_var rfl) (hnv.ex f56)) eoa_nil) (by show 1 ≤ 100000; decide)) (by rw [List.length_take]; show min pl es.length + 1 ≤ 100000; omega)) (evo_drop (n := pl + 1) stE (ev_is (ev_op (ev_var rfl) ev_c rv_I0) (congrArg V.int (by omega : (pl : Int) + 1 = ((pl + 1 : Nat) : Int))))) (by rw [List.length_append, List.length_take, List.length_drop]; show min pl es.length + 1 + (es.length - (pl + 1)) ≤ 100000; omega) G6 (Ex.refl G6) _ fun cv G7 f7 hcv => ?_
      refine fin (f56.trans f7) hcv (hall _ ?_ fun e he => ?_).1
      · rw [List.length_append, List.length_append, List.length_take, List.length_drop]
        show min pl es.length + 1 + (es.length - (pl + 1)) ≤ 4
        omega
      · rcases List.mem_append.mp he with h | h
        · rcases List.mem_append.mp h with h | h
          · exact .inl (List.mem_of_mem_take h)
          · exact .inr (.inl (List.mem_singleton.mp h))
        · exact .inl (List.mem_of_mem_drop h)
end
end D1
end
section
set_option Elab.async false
set_option linter.all false
set_option maxRecDepth 100000
set_option maxHeartbeats 4000000
/-! WG: rings that are not closed -/
namespace D1
open PySem L2 Evl RZ ClX PySem.VX
theorem bare_ints : ∀ r : List Int, bareA (r.map .int) = true
  | [] => rfl
  | x :: r => by
    show (true && bareA (r.map .int)) = true
    rw [bare_ints r]
    rfl
theorem bare_rows : ∀ t : Tb, bareA (t.map rowD) = true
  | [] => rfl
  | r :: t => by
    show (bareA (r.map .int) && bareA (t.map rowD)) = true
    rw [bare_ints r, bare_rows t]
    rfl
theorem bare_madeD : ∀ k : RK, bareD (madeD k) = true
  | .truth => rfl
  | .count => rfl
  | .least => rfl
  | .most => rfl
  | .narrow => rfl
  | .share => rfl
  | .lot _ => rfl
  | .rest _ => rfl
  | .terms _ => rfl
  | .tab S M => by
    show (true && (bareA (S.map rowD) && (bareA (M.map rowD) && true))) = true
    rw [bare_rows, bare_rows]
    rfl
  | .pair a b => by
    show (true && (bareD (madeD a) && (bareD (madeD b) && true))) = true
    rw [bare_madeD a, bare_madeD b]
    rfl
def tabS : Tb := [[0, 1], [1, 1]]
def tabM : Tb := [[0, 0], [0, 1]]
theorem tab_ok : GoodTab 2 tabS tabM := ⟨by decide, by decide, ⟨rfl, by decide⟩, ⟨rfl, by decide⟩, by unfold Fb; decide +kernel⟩
/-- the six -/
def openK (k : RK) (x y : Nat) : List RK := [.rest (2 + x), .terms (1 + y), .tab tabS tabM, .pair k (.rest (2 + x)), .pair (.terms (1 + y)) k, .rest 2]
theorem open_ok {k : RK} {x y : Nat} (hx : x < 999) (hy : y < 4) (hk : k.ok) (hd : k.depth ≤ 2) : ∀ o ∈ openK k x y, o.ok ∧ o.depth < 4 ∧ o.clsd = false := by
  intro o ho
  have r : (RK.rest (2 + x)).ok := ⟨by omega, by omega⟩
  have t : (RK.terms (1 + y)).ok := ⟨by omega, by omega⟩
  simp only [openK, List.mem_cons, List.not_mem_nil, or_false] at ho
  rcases ho with rfl | rfl | rfl | rfl | rfl | rfl
  · exact ⟨r, by show 0 < 4; decide, rfl⟩
  · exact ⟨t, by show 0 < 4; decide, rfl⟩
  · exact ⟨tab_ok, by show 0 < 4; decide, rfl⟩
  · exact ⟨⟨hk, r⟩, by show max k.depth 0 + 1 < 4; omega, by show (k.clsd && false) = false; rw [Bool.and_false]⟩
  · exact ⟨⟨t, hk⟩, by show max 0 k.depth + 1 < 4; omega, rfl⟩
  · exact ⟨⟨by decide, by decide⟩, by show 0 < 4; decide, rfl⟩
def spOpen : Sp := fun vs H Q _ => ∃ (m pc pg : Addr) (cs : List Int) (j : Nat) (mv : V) (k : RK), vs = [.ref m, mv] ∧ DS m pc pg cs j H ∧ j + 10 ≤ 100000 ∧ DtAt H mv (madeD k) ∧ k.depth ≤ 2 ∧ k.ok ∧
  ∀ (v : V) (o : RK) H', RD m pc pg cs (j + 10) H H' → DtAt H' v (madeD o) → o.ok → o.depth < 4 → o.clsd = false → Q v H'
section
variable {P : Program} {w : World} {K : PySem.W.Frag} {mg : Str → Option Value} {base : Heap}
abbrev s_open : Stmt := top 128
theorem sc_open : FnScope ["_law_draw_here", "_law_made", "_law_way", "_law_modulo", "_law_many", "_law_tabled"] ["_law_draw_here", "_law_made"] (defScope s_open) := ⟨rfl, rfl, rfl, by decide +kernel, rfl, by decide +kernel, by decide +kernel⟩
theorem ok_open {f : Addr} {fd : FuncData} (F : FnP K "_law_open" s_open f fd) {f_next : Addr} {fd_next : FuncData} (F_next : FnP K "_law_next" s_next f_next fd_next) (g_next : mg "_law_next" = some (.ref f_next)) (G_next : FnOk P w K mg base (CX0) 2 f_next fd_next ["_law_draw_here", "_law_many"] (spNext)) : FnOk P w K mg base (CX0) 3 f fd ["_law_draw_here", "_law_made"] (spOpen) := by
  have b_next : Binds K fd_next ["_law_draw_here", "_law_many"] [] := F_next.bindsN fun _ _ _ _ _ _ us hl => match us, hl with | [_, _], _ => rfl
  refine F.ok (CX := CX0) sc_open (fun vs H Q E h => ?_) (fun cdv A outer s H vs Q E hr h => ?_)
  · obtain ⟨m, pc, pg, cs, j, mv, k, rfl, _⟩ := h
    rfl
  · obtain ⟨m, pc, pg, cs, j, mv, k, rfl, hD, hj, hM, hk, hok, q⟩ := h
    have hu := hu_of hr
    have hu64 := hr.units
    have hr_next := hr.mono (by decide : 2 ≤ 2)
    refine ⟨_, PSs.nox (pss_cons (ps_par3 (i := 2) (j := 3) (l := 4) (by rfl) sc_open.nd rfl rfl rfl (by decide) (by decide) (by decide) rfl rfl rfl (pa_cons (pe_call G_next hr_next rfl g_next F_next.kp b_next .nil pass0 (pa_cons (pv 0) (pa_cons pe_int pa_nil))) (pa_cons (pe_tup (pa_cons pe_str (pa_cons (pe_op op_add pe_int (pe_call G_next hr_next rfl g_next F_next.kp b_next .nil pass0 (pa_cons (pv 0) (pa_cons pe_int pa_nil)))) pa_nil))) (pa_cons (pe_op op_add pe_int (pe_call G_next hr_next rfl g_next F_next.kp b_next .nil pass0 (pa_cons (pv 0) (pa_cons pe_int pa_nil)))) pa_nil))) (by rfl))
      (pss_cons (ps_set (i := 5) sc_open.nd rfl (Or.inl rfl) (pe_tup (pa_cons pe_str (pa_cons (pe_tup (pa_cons (pe_tup (pa_cons pe_int (pa_cons pe_int pa_nil))) (pa_cons (pe_tup (pa_cons pe_int (pa_cons pe_int pa_nil))) pa_nil))) (pa_cons (pe_tup (pa_cons (pe_tup (pa_cons pe_int (pa_cons pe_int pa_nil))) (pa_cons (pe_tup (pa_cons pe_int (pa_cons pe_int pa_nil))) pa_nil))) pa_nil)))))
      (pss_one (ps_ret (pe_ix ix_list (pe_lst (pa_cons (pv 3) (pa_cons (pe_tup (pa_cons pe_str (pa_cons (pv 4) pa_nil))) (pa_cons (pv 5) (pa_cons (pe_tup (pa_cons pe_str (pa_cons (pv 1) (pa_cons (pv 3) pa_nil)))) (pa_cons (pe_tup (pa_cons pe_str (pa_cons (pe_tup (pa_cons pe_str (pa_cons (pv 4) pa_nil))) (pa_cons (pv 1) pa_nil)))) (pa_cons (pe_tup (pa_cons pe_str (pa_cons pe_int pa_nil))) pa_nil))))))) (pv 2) (fun _ _ => rfl)))))), ?_⟩
    refine par3_step ?_
    refine ⟨_, rfl, m, pc, pg, cs, j, 6, rfl, hD, by omega, by decide, by decide, fun way' H1 a0 a1 r1 => ?_⟩
    refine ⟨_, rfl, m, pc, pg, cs, j + 1, 999, rfl, r1.inv, by omega, by decide, by decide, fun x' H2 b0 b1 r2 => ⟨2, x', rfl, rfl, by show 2 ≤ sizeLine; decide, fun l hl => ?_⟩⟩
    have r12 := r1.then r2
    have e3 := Ex.new (o := .tup [.str "rest", .int (2 + x')]) hl
    have i3 : (upd H2 l (.tup [.str "rest", .int (2 + x')])) l = some (.tup [.str "rest", .int (2 + x')]) := upd_same
    generalize (upd H2 l (.tup [.str "rest", .int (2 + x')])) = H3 at e3 i3 ⊢
    have r13 : RD m pc pg cs (j + 2) H H3 := r12.then (.ofEx r12.inv e3)
    refine ⟨_, rfl, m, pc, pg, cs, j + 2, 4, rfl, r13.inv, by omega, by decide, by decide, fun y' G c0 c1 r4 => ⟨1, y', rfl, rfl, _, _, _, rfl, ?_⟩⟩
    obtain ⟨way, rfl⟩ : ∃ x : Nat, way' = (x : Int) := ⟨way'.toNat, by omega⟩
    obtain ⟨x, rfl⟩ : ∃ x : Nat, x' = (x : Int) := ⟨x'.toNat, by omega⟩
    obtain ⟨y, rfl⟩ : ∃ x : Nat, y' = (x : Int) := ⟨y'.toNat, by omega⟩
    have r0G : RD m pc pg cs (j + 3) H G := r13.then r4
    have hSG : ∀ p, G p = none → H p = none := fun p hp => r0G.bak hD hp
    have hr1 : OdAt (fun p => H p = none) G (.ref l) (madeD (.rest (2 + x))) := by
      have h : DtAt G (.ref l) (.tuple [.str "rest", .int (2 + (x : Int))]) := .tup ((r4.kp r13.inv).tup i3) (.cons (.str _) (.cons (.int _) .nil))
      have e : (2 : Int) + (x : Int) = ((2 + x : Nat) : Int) := by omega
      rw [e] at h
      exact h.od
    have hmG : OdAt (fun p => H p = none) G mv (madeD k) := (hM.kp (r0G.kp hD)).od
    have tabE : ∀ {σ : L2.St} {G' : Hp}, EvO (fun p => H p = none) (tTup (tCons (tC (.str "table")) (tCons (tTup (tCons (tTup (tCons (tC (.int 0)) (tCons (tC (.int 1)) tNil))) (tCons (tTup (tCons (tC (.int 1)) (tCons (tC (.int 1)) tNil))) tNil))) (tCons (tTup (tCons (tTup (tCons (tC (.int 0)) (tCons (tC (.int 0)) tNil))) (tCons (tTup (tCons (tC (.int 0)) (tCons (tC (.int 1)) tNil))) tNil))) tNil)))) σ G' (madeD (.tab tabS tabM)) := fun {σ G'} => evo_tup (ds := [.str "table", tabD tabS, tabD tabM]) (eoa_cons (evo_ev ev_c (.str _)) (eoa_cons (evo_tup (eoa_cons (evo_tup (eoa_cons (evo_ev ev_c (.int _)) (eoa_cons (evo_ev ev_c (.int _)) eoa_nil)) (by show 2 ≤ 100000; decide)) (eoa_cons (evo_tup (eoa_cons (evo_ev ev_c (.int _)) (eoa_cons (evo_ev ev_c (.int _)) eoa_nil)) (by show 2 ≤ 100000; decide)) eoa_nil)) (by show 2 ≤ 100000; decide)) (eoa_cons (evo_tup (eoa_cons (evo_tup (eoa_cons (evo_ev ev_c (.int _)) (eoa_cons (evo_ev ev_c (.int _)) eoa_nil)) (by show 2 ≤ 100000; decide)) (eoa_cons (evo_tup (eoa_cons (evo_ev ev_c (.int _)) (eoa_cons (evo_ev ev_c (.int _)) eoa_nil)) (by show 2 ≤ 100000; decide)) eoa_nil)) (by show 2 ≤ 100000; decide)) eoa_nil))) (by show 3 ≤ 100000; decide)
    refine q_asgO tabE fun tv G1 f1 htv => ?_
    change tRet _ _ [some (.ref m), some mv, some (.int (way : Int)), some (.ref l), some (.int (1 + (y : Int))), some tv] G1
    have hw : way < (openK k x y).length := by show way < 6; omega
    have hwe : ((openK k x y).map madeD)[way]? = some (madeD (openK k x y)[way]) := by rw [List.getElem?_map, List.getElem?_eq_getElem hw]; rfl
    obtain ⟨o1, o2, o3⟩ := open_ok (by omega) (by omega) hok hk _ (List.getElem_mem hw)
    have hS : ∀ p, G1 p = none → H p = none := fun p hp => hSG p (fresh_back f1 hp)
    have yE : ∀ {G' : Hp}, EvO (fun p => H p = none) (tVar 4) [some (.ref m), some mv, some (.int (way : Int)), some (.ref l), some (.int (1 + (y : Int))), some tv] G' (.int ((1 + y : Nat) : Int)) := fun {G'} => evo_ev (ev_var rfl) (by
      have e : (1 : Int) + (y : Int) = ((1 + y : Nat) : Int) := by omega
      rw [e]
      exact .int _)
    have rE : EvO (fun p => H p = none) (tVar 3) [some (.ref m), some mv, some (.int (way : Int)), some (.ref l), some (.int (1 + (y : Int))), some tv] G1 (madeD (.rest (2 + x))) := evo_ev (ev_var rfl) (hr1.ex f1)
    have mE : EvO (fun p => H p = none) (tVar 1) [some (.ref m), some mv, some (.int (way : Int)), some (.ref l), some (.int (1 + (y : Int))), some tv] G1 (madeD k) := evo_ev (ev_var rfl) (hmG.ex f1)
    have tE : EvO (fun p => H p = none) (tTup (tCons (tC (.str "terms")) (tCons (tVar 4) tNil))) [some (.ref m), some mv, some (.int (way : Int)), some (.ref l), some (.int (1 + (y : Int))), some tv] G1 (madeD (.terms (1 + y))) := evo_tup (eoa_cons (evo_ev ev_c (.str _)) (eoa_cons yE eoa_nil)) (by show 2 ≤ 100000; decide)
    refine s_retO (evo_ixL (ds := (openK k x y).map madeD) (evo_lst hS (eoa_cons rE (eoa_cons tE (eoa_cons (evo_ev (ev_var rfl) htv) (eoa_cons (evo_tup (ds := [.str "pair", madeD k, madeD (.rest (2 + x))]) (eoa_cons (evo_ev ev_c (.str _)) (eoa_cons mE (eoa_cons rE eoa_nil))) (by show 3 ≤ 100000; decide)) (eoa_cons (evo_tup (ds := [.str "pair", madeD (.terms (1 + y)), madeD k]) (eoa_cons (evo_ev ev_c (.str _)) (eoa_cons tE (eoa_cons mE eoa_nil))) (by show 3 ≤ 100000; decide)) (eoa_cons (evo_tup (ds := [.str "rest", .int ((2 : Nat) : Int)]) (eoa_cons (evo_ev ev_c (.str _)) (eoa_cons (evo_ev ev_c (.int _)) eoa_nil)) (by show 2 ≤ 100000; decide)) eoa_nil)))))) (by show 6 ≤ 100000; decide)) (ev_var rfl) hwe) fun v H' e ho => q v _ H' (RD.up ((r0G.then (.ofEx r0G.inv f1)).then (.ofEx (RD.ofEx r0G.inv f1).inv e)) (by omega)) (ho.dt (bare_madeD _)) o1 o2 o3
end
end D1
end
section
set_option Elab.async false
set_option linter.all false
set_option maxRecDepth 100000
set_option maxHeartbeats 4000000
namespace L2
open PySem PySem.Spec PyProof.Rows PySem.VX
section
variable {K : PySem.W.Frag} {x qual : Str} {params : Arguments} {body : List Stmt} {scope : Scope} {kws : List (Str × V)} {f : Addr} {fd : FuncData} {ps : List Str}
theorem FunD.kbn0 (F : FunD K x qual params body scope [] kws f fd) (n : Nat) (ks : List Str) (g : {α : Type} → List α → List α → List α)
    (hrel : ∀ {vs zs : List V} {us ws : List Value}, Vals vs us → Vals zs ws → Vals (g vs zs) (g us ws))
    (h : ∀ (kV doc pm : Value) (an : Option Addr) (cdv ct : Value) (us ws : List Value), us.length = n → ws.length = ks.length → bindArgs (PySem.W.fnOf x qual params body scope .none kV doc pm an cdv ct) ⟨us, ks.zip ws⟩ = pure (ps.zip (g us ws))) :
    KBn K fd ps n ks (fun us ws => g us ws) (fun vs zs => g vs zs) := by
  obtain ⟨oc, od, dV, kV, doc, pm, an, cdv, ct, osl, rfl, lk, hcd, hD, hK⟩ := F.ex
  rcases hD with ⟨_, rfl⟩ | ⟨e, _⟩
  · exact ⟨fun s us ws X l1 l2 => .of_eq (h kV doc pm an cdv ct us ws l1 l2), fun r1 r2 => hrel r1 r2⟩
  · exact absurd rfl e
end
section
variable {X : Cx} {CX : CXT} {k n : Nat} {f : Addr} {fd : FuncData} {ps ks : List Str} {sp : Sp} {E : XK} {ES : St → XK} {x : Str} {p pos : Pos} {e : Expr} {es : List Expr} {kws : List Keyword} {t tk : TA} {g : List Value → List Value → List Value} {gV : List V → List V → List V}
/-- f(k = v, ..), keywords only -/
theorem pe_callN0 (F : FnOk X.prog X.w X.K X.mg X.base CX k f fd ps sp) (hr : Room k X.A) (hg : Gl X x) (hm : X.mg x = some (.ref f)) (hk : PySem.W.keepIn X.K (.ref f) = true) (hb : KBn X.K fd ps 0 ks g gV) (hx : Passes CX X E)
    (hkw : PK X kws tk) (hall : (backToKw pos (keywordEach kws X.env)).all (·.1.isSome) = true := by rfl) (hks : (backToKw pos (keywordEach kws X.env)).filterMap (·.1) = ks := by rfl)
    (hdb : (x == ("__debug__" : Str)) = false := by decide) (hpl : ((backTo pos (starEach [] X.env)).any (·.1) || (backToKw pos (keywordEach kws X.env)).any (·.1.isNone)) = false := by rfl) :
    PE X (.Call (.Name x p) [] kws pos) (tCallN 0 ks.length sp gV E tNil tk) := by
  refine ⟨fun pins s σ H Q I h => ?_⟩
  refine wpAny_Call_Name_kw (ld_glob I hg hm ?_ hdb)
  refine PySem.W.callWith_KW0 (h₀ := X.base) I.ok.mod.kin hk hall ?_ hpl
  refine thn (hkw.run pos pins s σ H _ I h) fun ws s2 ⟨zs, H2, I2, rz, l1, l2, q2⟩ => ⟨I2.kIn, ?_⟩
  rw [hks]
  exact run_fnN (us := []) (vs := []) F hr hb hx I2 .nil rz rfl l2 q2
def tCallNS (n m : Nat) (sp : Sp) (gV : List V → List V → List V) (E : St → XK) (t tk : TA) : TE := fun σ H Q => t σ H fun vs H1 => tk σ H1 fun zs H2 => vs.length = n ∧ zs.length = m ∧ sp (gV vs zs) H2 Q (E σ)
theorem run_fnNS {pins : List (Addr × Obj)} {σ : St} {H : Hp} {s : Shared} {Q : VK} {us ws : List Value} {vs zs : List V} (F : FnOk X.prog X.w X.K X.mg X.base CX k f fd ps sp) (hr : Room k X.A) (hb : KBn X.K fd ps n ks g gV) (hx : PassesAt CX X σ (ES σ))
    (I : Inv X pins σ H s) (r : Vals vs us) (rz : Vals zs ws) (l1 : vs.length = n) (l2 : zs.length = ks.length) (h : sp (gV vs zs) H Q (ES σ)) : wpAny (model X.prog X.w) X.A (call (.ref f) us (ks.zip ws)) (EP X pins σ Q) X.xe s := by
  have r2 := hb.rel r rz
  refine wpAny_call (codeAny_mono (F.run X.A X.stack s H ⟨us, ks.zip ws⟩ (g us ws) (gV vs zs) Q (ES σ) hr I.env0 (hb.to s us ws I.kIn (r.length.symm.trans l1) (rz.length.symm.trans l2)) r2 h) fun r s' hq => ?_)
  cases r with
  | error e => exact hx pins H s e s' I hq
  | ok fl =>
    cases fl with
    | ret u => exact I.after hq
    | next => exact False.elim hq
    | brk => exact False.elim hq
    | cont => exact False.elim hq
/-- f(e, .., k = v, ..) within a suite -/
theorem pe_callNS (F : FnOk X.prog X.w X.K X.mg X.base CX k f fd ps sp) (hr : Room k X.A) (hg : Gl X x) (hm : X.mg x = some (.ref f)) (hk : PySem.W.keepIn X.K (.ref f) = true) (hb : KBn X.K fd ps n ks g gV) (hx : ∀ σ, PassesAt CX X σ (ES σ))
    (ha : PA X (e :: es) t) (hkw : PK X kws tk) (hall : (backToKw pos (keywordEach kws X.env)).all (·.1.isSome) = true := by rfl) (hks : (backToKw pos (keywordEach kws X.env)).filterMap (·.1) = ks := by rfl)
    (hdb : (x == ("__debug__" : Str)) = false := by decide) (he : starEach (e :: es) X.env = (false, eval e X.env) :: starEach es X.env := by rfl)
    (hpl : ((backTo pos (starEach (e :: es) X.env)).any (·.1) || (backToKw pos (keywordEach kws X.env)).any (·.1.isNone)) = false := by rfl) :
    PE X (.Call (.Name x p) (e :: es) kws pos) (tCallNS n ks.length sp gV ES t tk) := by
  refine ⟨fun pins s σ H Q I h => ?_⟩
  refine wpAny_Call_Name_kw (ld_glob I hg hm ?_ hdb)
  refine PySem.W.callWith_KW (h₀ := X.base) I.ok.mod.kin hk hall (thn (ha.run pos pins s σ H _ I h) fun us s1 ⟨vs, H1, I1, r, q⟩ => ?_) hpl he
  refine thn (hkw.run pos pins s1 σ H1 _ I1 q) fun ws s2 ⟨zs, H2, I2, rz, l1, l2, q2⟩ => ⟨I2.kIn, ?_⟩
  rw [hks]
  exact run_fnNS F hr hb (hx σ) I2 r rz l1 l2 q2
/-- f(k = v, ..), keywords only, within a suite -/
theorem pe_callN0S (F : FnOk X.prog X.w X.K X.mg X.base CX k f fd ps sp) (hr : Room k X.A) (hg : Gl X x) (hm : X.mg x = some (.ref f)) (hk : PySem.W.keepIn X.K (.ref f) = true) (hb : KBn X.K fd ps 0 ks g gV) (hx : ∀ σ, PassesAt CX X σ (ES σ))
    (hkw : PK X kws tk) (hall : (backToKw pos (keywordEach kws X.env)).all (·.1.isSome) = true := by rfl) (hks : (backToKw pos (keywordEach kws X.env)).filterMap (·.1) = ks := by rfl)
    (hdb : (x == ("__debug__" : Str)) = false := by decide) (hpl : ((backTo pos (starEach [] X.env)).any (·.1) || (backToKw pos (keywordEach kws X.env)).any (·.1.isNone)) = false := by rfl) :
    PE X (.Call (.Name x p) [] kws pos) (tCallNS 0 ks.length sp gV ES tNil tk) := by
  refine ⟨fun pins s σ H Q I h => ?_⟩
  refine wpAny_Call_Name_kw (ld_glob I hg hm ?_ hdb)
  refine PySem.W.callWith_KW0 (h₀ := X.base) I.ok.mod.kin hk hall ?_ hpl
  refine thn (hkw.run pos pins s σ H _ I h) fun ws s2 ⟨zs, H2, I2, rz, l1, l2, q2⟩ => ⟨I2.kIn, ?_⟩
  rw [hks]
  exact run_fnNS (us := []) (vs := []) F hr hb (hx σ) I2 .nil rz rfl l2 q2
theorem passNo {X : Cx} {P : Program} {w : World} : Passes (L2.CX P w) X E0 := fun _ _ _ _ _ _ _ h => by
  obtain ⟨_, _, _, _, _, _, _, _, _, _, _, _, hE⟩ := h
  exact hE.elim
end
end L2
/-! WH: the words for what is refused -/
namespace D1
open PySem L2 Evl RZ ClX PySem.VX
theorem own_xf {prog : Program} {w : World} {mg : Str → Option Value} {nm : Str} {C : Addr} {fn : List Str} (O : OwnX prog w K mg nm C fn) : XfC K C ∧ ∀ f ∈ fn, PySem.W.findIn K (.ref C) f = some none := by
  obtain ⟨bmB, B, newId, initId, fI, FB, T, _⟩ := O.some
  exact ⟨⟨T.ga, T.gg, T.exc, T.hd⟩, T.no⟩
section
variable {K : PySem.W.Frag} {σ : L2.St} {H : Hp} {te : TE}
theorem ev_isV {a C d : Addr} {fs : List (Str × V)} {c : V} {cv : Value} {b : Bool} (h : Ev te σ H (.ref a)) (ea : H a = some (exV a C d)) (ed : H d = some (.xd fs)) (T : ExcC K C) (hc : ∀ u, RelV c u → u = cv) (e : PySem.W.kitOne K (.ref C) cv = some b) :
    Ev (tCB (rIsV K) (tCons te (tCons (tC c) tNil))) σ H (.bl b) :=
  ev_cb (ea_cons h (ea_cons ev_c ea_nil)) fun H1 x _ q => ⟨a, C, d, fs, c, cv, b, rfl, x _ _ ea, x _ _ ed, T, hc, e, q H1 (Ex.refl H1)⟩
theorem ev_fldV {a C d : Addr} {fs : List (Str × V)} {f : Str} {v : V} (h : Ev te σ H (.ref a)) (ea : H a = some (exV a C d)) (ed : H d = some (.xd fs)) (T : XfC K C) (no : PySem.W.findIn K (.ref C) f = some none) (l : fs.lookup f = some v) : Ev (tFldV K f te) σ H v := fun H1 e Q q =>
  h H1 e _ fun H2 e2 => ⟨a, C, d, fs, v, rfl, e2 _ _ (e _ _ ea), e2 _ _ (e _ _ ed), T, no, l, q H2 e2⟩
end
/-- the six classes that the law asks for -/
def Bads.six (B : Bads) (cO : Addr) : Nat → Addr
  | 5 => cO
  | i => B.cls i
structure FamW (K : PySem.W.Frag) (mg : Str → Option Value) (B : Bads) (cO cF cU : Addr) : Prop where
  gR : mg "BadRing" = some (.ref B.cR)
  gC : mg "NotClosed" = some (.ref B.cC)
  gW : mg "BadWeb" = some (.ref B.cW)
  gN : mg "BadNumber" = some (.ref B.cN)
  gP : mg "BadPath" = some (.ref B.cP)
  gO : mg "NoOrder" = some (.ref cO)
  gF : mg "Refused" = some (.ref cF)
  gU : mg "Unreckoned" = some (.ref cU)
  ec : ∀ i, i < 5 → ExcC K (B.cls i)
  kit : ∀ i j, i < 5 → j < 6 → PySem.W.kitOne K (.ref (B.cls i)) (.ref (B.six cO j)) = some (decide (i = j))
  exF : ∀ i, i < 5 → PySem.W.exmOne K (.ref (B.cls i)) (.ref cF) = some (!decide (i = 1))
  exU : PySem.W.exmOne K (.ref B.cC) (.ref cU) = some true
def wordOf : Nat → Str
  | 0 => "ring"
  | 1 => "closed"
  | 2 => "web"
  | 3 => "number"
  | 4 => "path"
  | _ => "order"
def wordD (i : Nat) : PyData := .tuple [.str "refused", .list [.str (wordOf i)], if i = 0 then .str "ring" else .none]
section
variable {K : PySem.W.Frag} {σ : L2.St} {H : Hp} {te tl ta tb : TE}
/-- [x for x, b in xs if b], xs pairs -/
theorem el_lcP {D0 : Addr} {xs : List V} {j k : Nat} {vs : List Nat} (f : Nat → Bool) (v : Nat → V) (h : Ev tl σ H (.ref D0)) (hx : SqL K H D0 xs) (hz : xs.length ≤ 40000) (hp : ∀ (i : Nat) x, xs[i]? = some x → ∃ T, x = .ref T ∧ SqT K H T [v i, .bl (f i)])
    (hw : ∀ x y, wipe (((wipe σ vs).set j (some x)).set k (some y)) vs = wipe σ vs) (hj : ∀ x y, (((wipe σ vs).set j (some x)).set k (some y))[j]? = some (some x)) (hk : ∀ x y, (((wipe σ vs).set j (some x)).set k (some y))[k]? = some (some y)) :
    EvL (tLc (iList K tl) (gTup K 2 (gCons (gName j) (gCons (gName k) gNil))) (tB (tVar k)) (tVar j) vs) σ H (given xs.length f v) := fun H0 e Q q => h H0 e _ fun H1 e1 => ⟨D0, rfl, ⟨xs, ex_l (e.trans e1) hx⟩, fun Dl hD =>
  lc_it (walk_list (xs := xs)) (Cw H1 f v Dl) ⟨hD, Ex.new hD, upd_same⟩ (fun i H' _ p => ex_l ((e.trans e1).trans p.2.1) hx) (fun i x H5 H6 hi p y => by
    obtain ⟨rfl, hx'⟩ := y
    obtain ⟨T, rfl, hT⟩ := hp i x hx'
    exact ⟨T, _, rfl, ex_t ((e.trans e1).trans p.2.1) hT, rfl, _, _, rfl, _, _, rfl, rfl, hw _ _, cw_turn (f := f) p (by omega) (et_B (ev_var (hk _ _))) (fun _ => ev_var (hj _ _))⟩) (fun H' p => q Dl H' (fresh_back e1 p.1) (e1.trans p.2.1) p.2.2)⟩
theorem evo_catL {S : Addr → Prop} {ds es : List PyData} (hS : ∀ p, H p = none → S p) (h : EvO S ta σ H (.list ds)) (h' : EvO S tb σ H (.list es)) (hl : ds.length + es.length ≤ 100000) : EvO S (tOp rCat ta tb) σ H (.list (ds ++ es)) := fun H1 e Q q => h H1 e _ fun v H2 e2 hv => h' H2 (e.trans e2) _ fun w H3 e3 hw => by
  have h1 : (100000 : Nat) ≤ sizeLine := by decide
  have hv := hv.ex e3
  have e23 := e2.trans e3
  cases hv with
  | lst ha _ hr =>
    cases hw with
    | lst hb _ hs =>
      have l1 := hr.len
      have l2 := hs.len
      exact ⟨_, _, _, _, rfl, rfl, ha, hb, by omega, fun p hp => q (.ref p) _ (e23.trans (Ex.new hp)) (.lst upd_same (hS p (fresh_back (e.trans e23) hp)) ((hr.app hs).exO (Ex.new hp)))⟩
/-- xs == [z], xs a list of one text -/
theorem et_oneEq {A : Addr} {w z : Str} (h : Ev ta σ H (.ref A)) (hA : H A = some (.lst [.str w])) (sw : SeqAt.shaped (.list [.str w]) = true) (sz : SeqAt.shaped (.list [.str z]) = true) : EvT (tTest (tOp (rEqD K) ta (tLst (tCons (tC (.str z)) tNil)))) σ H (PyData.eqv (.list [.str w]) (.list [.str z])) :=
  et_test fun H1 e Q q => h H1 e _ fun H2 e2 => ⟨by show 1 ≤ sizeLine; decide, fun p hp => ⟨_, _, Dp.exD ((Ex.new hp) _ _ ((e.trans e2) _ _ hA)) (.cons (.str _) .nil), Dp.exD upd_same (.cons (.str _) .nil), sw, sz, q _ (e2.trans (Ex.new hp))⟩⟩
end
def spWord (K : PySem.W.Frag) (B : Bads) : Sp := fun vs H Q _ => ∃ (a d : Addr) (i : Nat), vs = [.ref a] ∧ H a = some (exV a (B.cls i) d) ∧ H d = some (.xd (msgOf i)) ∧ i < 5 ∧ ∀ v H', Ex H H' → OdAt (fun p => H p = none) H' v (wordD i) → Q v H'
section
variable {P : Program} {w : World} {K : PySem.W.Frag} {mg : Str → Option Value} {base : Heap}
abbrev s_word : Stmt := top 129
theorem sc_word : FnScope ["_law_error", "_law_some", "_law_found", "_law_word_here", "_law_is_so"] ["_law_error"] (defScope s_word) := ⟨rfl, rfl, rfl, by decide +kernel, rfl, by decide +kernel, by decide +kernel⟩
theorem ok_word {f : Addr} {fd : FuncData} (F : FnP K "_law_word" s_word f fd) {B : Bads} {cO cF cU : Addr} (W : FamW K mg B cO cF cU) (O_BadRing : OwnX P w K mg "BadRing" B.cR [("what" : Str)]) (z_isinstance : mg "isinstance" = none) : FnOk P w K mg base (CX0) 1 f fd ["_law_error"] (spWord K B) := by
  refine F.ok (CX := CX0) sc_word (fun vs H Q E h => ?_) (fun cdv A outer s H vs Q E hr h => ?_)
  · obtain ⟨a, d, i, rfl, _⟩ := h
    rfl
  · obtain ⟨a, d, i, rfl, hA, hDd, hi, q⟩ := h
    have hu := hu_of hr
    have hu64 := hr.units
    refine ⟨_, PSs.nox (pss_cons (ps_set (i := 1) sc_word.nd rfl (Or.inl rfl) (pe_lst (pa_cons (pe_tup (pa_cons pe_str (pa_cons (pe_callB call_isV (by rfl) z_isinstance PyProof.Rows.boot_isinstance (pa_cons (pv 0) (pa_cons (pe_glob (v := .ref B.cR) rfl W.gR rfl) pa_nil))) pa_nil))) (pa_cons (pe_tup (pa_cons pe_str (pa_cons (pe_callB call_isV (by rfl) z_isinstance PyProof.Rows.boot_isinstance (pa_cons (pv 0) (pa_cons (pe_glob (v := .ref B.cC) rfl W.gC rfl) pa_nil))) pa_nil))) pa_nil))))
      (pss_cons (ps_set (i := 1) sc_word.nd rfl (Or.inl rfl) (pe_op op_cat (pv 1) (pe_lst (pa_cons (pe_tup (pa_cons pe_str (pa_cons (pe_callB call_isV (by rfl) z_isinstance PyProof.Rows.boot_isinstance (pa_cons (pv 0) (pa_cons (pe_glob (v := .ref B.cW) rfl W.gW rfl) pa_nil))) pa_nil))) (pa_cons (pe_tup (pa_cons pe_str (pa_cons (pe_callB call_isV (by rfl) z_isinstance PyProof.Rows.boot_isinstance (pa_cons (pv 0) (pa_cons (pe_glob (v := .ref B.cN) rfl W.gN rfl) pa_nil))) pa_nil))) pa_nil)))))
      (pss_cons (ps_set (i := 1) sc_word.nd rfl (Or.inl rfl) (pe_op op_cat (pv 1) (pe_lst (pa_cons (pe_tup (pa_cons pe_str (pa_cons (pe_callB call_isV (by rfl) z_isinstance PyProof.Rows.boot_isinstance (pa_cons (pv 0) (pa_cons (pe_glob (v := .ref B.cP) rfl W.gP rfl) pa_nil))) pa_nil))) (pa_cons (pe_tup (pa_cons pe_str (pa_cons (pe_callB call_isV (by rfl) z_isinstance PyProof.Rows.boot_isinstance (pa_cons (pv 0) (pa_cons (pe_glob (v := .ref cO) rfl W.gO rfl) pa_nil))) pa_nil))) pa_nil)))))
      (pss_cons (ps_setLc (i := 2) (own := [("_law_word_here", 3), ("_law_is_so", 4)]) (g := gTup K 2 (gCons (gName 3) (gCons (gName 4) gNil))) (by rfl) sc_word.nd rfl rfl (sw_true rfl rfl rfl (by decide +kernel)) (pi_list (pv 1)) (blkOk_by (own := [("_law_word_here", 3), ("_law_is_so", 4)]) (N := ["_law_error", "_law_some", "_law_found", "_law_word_here", "_law_is_so"]) (sc := defScope s_word) (by decide +kernel)) (fun _ _ _ _ _ => pg_tup rfl (pgs_cons (pg_name (i := 3) sc_word.nd rfl (Or.inl rfl)) (pgs_cons (pg_name (i := 4) sc_word.nd rfl (Or.inl rfl)) pgs_nil))) (fun _ _ _ _ _ => pts_one (pt_val (pv 4))) (fun _ _ _ _ _ => pv 3))
      (pss_one (ps_ret (pe_tup (pa_cons pe_str (pa_cons (pv 2) (pa_cons (pe_ifExp (pt_cmpR (op_eqD hu64) (pv 2) (pe_lst (pa_cons pe_str pa_nil)) (nomark _)) (pe_fldV (pv 0)) pe_non) pa_nil)))))))))), ?_⟩
    obtain ⟨fl, hfl⟩ : ∃ fl : Nat → PyData, fl = fun j => .tuple [.str (wordOf j), .bool (decide (i = j))] := ⟨_, rfl⟩
    have hS : ∀ p, H p = none → H p = none := fun p hp => hp
    refine q_asgO (d := .list [fl 0, fl 1]) (by rw [hfl]; exact (evo_lst hS (eoa_cons (evo_tup (eoa_cons (evo_ev ev_c (.str _)) (eoa_cons (evo_ev (ev_isV (ev_var rfl) (hA) (hDd) (W.ec i hi) (fun u h => h) (W.kit i 0 hi (by decide))) (.bl _)) eoa_nil)) (by show 2 ≤ 100000; decide)) (eoa_cons (evo_tup (eoa_cons (evo_ev ev_c (.str _)) (eoa_cons (evo_ev (ev_isV (ev_var rfl) (hA) (hDd) (W.ec i hi) (fun u h => h) (W.kit i 1 hi (by decide))) (.bl _)) eoa_nil)) (by show 2 ≤ 100000; decide)) eoa_nil)) (by show 2 ≤ 100000; decide))) fun v1 H1 e1 h1 => ?_
    have hS1 : ∀ p, H1 p = none → H p = none := fun p hp => fresh_back e1 hp
    refine q_asgO (d := .list ([fl 0, fl 1] ++ [fl 2, fl 3])) (evo_catL hS1 (evo_ev (ev_var rfl) h1) (by rw [hfl]; exact (evo_lst hS1 (eoa_cons (evo_tup (eoa_cons (evo_ev ev_c (.str _)) (eoa_cons (evo_ev (ev_isV (ev_var rfl) (e1 _ _ hA) (e1 _ _ hDd) (W.ec i hi) (fun u h => h) (W.kit i 2 hi (by decide))) (.bl _)) eoa_nil)) (by show 2 ≤ 100000; decide)) (eoa_cons (evo_tup (eoa_cons (evo_ev ev_c (.str _)) (eoa_cons (evo_ev (ev_isV (ev_var rfl) (e1 _ _ hA) (e1 _ _ hDd) (W.ec i hi) (fun u h => h) (W.kit i 3 hi (by decide))) (.bl _)) eoa_nil)) (by show 2 ≤ 100000; decide)) eoa_nil)) (by show 2 ≤ 100000; decide))) (by show 4 ≤ 100000; decide)) fun v2 H2 e2 h2 => ?_
    have e12 := e1.trans e2
    have hS2 : ∀ p, H2 p = none → H p = none := fun p hp => fresh_back e12 hp
    refine q_asgO (d := .list (([fl 0, fl 1] ++ [fl 2, fl 3]) ++ [fl 4, fl 5])) (evo_catL hS2 (evo_ev (ev_var rfl) h2) (by rw [hfl]; exact (evo_lst hS2 (eoa_cons (evo_tup (eoa_cons (evo_ev ev_c (.str _)) (eoa_cons (evo_ev (ev_isV (ev_var rfl) (e12 _ _ hA) (e12 _ _ hDd) (W.ec i hi) (fun u h => h) (W.kit i 4 hi (by decide))) (.bl _)) eoa_nil)) (by show 2 ≤ 100000; decide)) (eoa_cons (evo_tup (eoa_cons (evo_ev ev_c (.str _)) (eoa_cons (evo_ev (ev_isV (ev_var rfl) (e12 _ _ hA) (e12 _ _ hDd) (W.ec i hi) (fun u h => h) (W.kit i 5 hi (by decide))) (.bl _)) eoa_nil)) (by show 2 ≤ 100000; decide)) eoa_nil)) (by show 2 ≤ 100000; decide))) (by show 6 ≤ 100000; decide)) fun v3 H3 e3 h3 => ?_
    have e13 := e12.trans e3
    change tSeq _ _ _ [some (.ref a), some v3, none, none, none] H3
    cases h3 with
    | lst hL sL hr =>
      rename_i D0 xs
      have hxl : xs.length = 6 := hr.len
      refine q_asgL (el_lcP (j := 3) (k := 4) (vs := [3, 4]) (fun j => decide (i = j)) (fun j => .str (wordOf j)) (ev_var rfl) (sq_of hL) (by omega) (fun j x hx => ?_) (fun _ _ => rfl) (fun _ _ => rfl) (fun _ _ => rfl)) fun F H4 hF e4 hF4 => ?_
      · obtain ⟨d', hd1, hd2⟩ := hr.get hx
        have hj : j < 6 := by
          have := (List.getElem?_eq_some_iff.mp hx).1
          omega
        have hd3 : d' = fl j := by
          have h6 : j = 0 ∨ j = 1 ∨ j = 2 ∨ j = 3 ∨ j = 4 ∨ j = 5 := by omega
          rcases h6 with rfl | rfl | rfl | rfl | rfl | rfl <;> exact (Option.some.inj hd1).symm
        rw [hd3, hfl] at hd2
        obtain ⟨T, u, w', rfl, hT, hu1, hu2⟩ := hd2.two
        obtain rfl := hu1.str_inv
        obtain rfl := hu2.bl_inv
        exact ⟨T, rfl, st_of hT⟩
      have e14 := e13.trans e4
      have hF5 : H4 F = some (.lst [.str (wordOf i)]) := by
        rw [hF4, hxl]
        have h5 : i = 0 ∨ i = 1 ∨ i = 2 ∨ i = 3 ∨ i = 4 := by omega
        rcases h5 with rfl | rfl | rfl | rfl | rfl <;> rfl
      have hSF : H F = none := fresh_back e13 hF
      have shp : ∀ j, j < 5 → SeqAt.shaped (.list [.str (wordOf j)]) = true := fun j hj => by
        have h5 : j = 0 ∨ j = 1 ∨ j = 2 ∨ j = 3 ∨ j = 4 := by omega
        rcases h5 with rfl | rfl | rfl | rfl | rfl <;> decide +kernel
      have eqv : PyData.eqv (.list [.str (wordOf i)]) (.list [.str "ring"]) = decide (i = 0) := by
        have h5 : i = 0 ∨ i = 1 ∨ i = 2 ∨ i = 3 ∨ i = 4 := by omega
        rcases h5 with rfl | rfl | rfl | rfl | rfl <;> decide +kernel
      have hwh : EvO (fun p => H p = none) (tIf (tTest (tOp (rEqD K) (tVar 2) (tLst (tCons (tC (.str "ring")) tNil)))) (tFldV K "what" (tVar 0)) (tC .non)) [some (.ref a), some (.ref D0), some (.ref F), none, none] H4 (if i = 0 then .str "ring" else .none) := by
        by_cases h0 : i = 0
        · subst h0
          rw [if_pos rfl]
          exact evo_ev (ev_if (b := true) (et_is (et_oneEq (ev_var rfl) hF5 (shp 0 (by decide)) (shp 0 (by decide))) (by rw [eqv]; rfl)) (fun _ => ev_fldV (v := .str "ring") (ev_var rfl) (e14 _ _ hA) (e14 _ _ hDd) (own_xf O_BadRing).1 ((own_xf O_BadRing).2 _ (by simp)) rfl) (fun hb => by cases hb)) (.str _)
        · rw [if_neg h0]
          exact evo_ev (ev_if (b := false) (et_is (et_oneEq (ev_var rfl) hF5 (shp i hi) (shp 0 (by decide))) (by rw [eqv, decide_eq_false h0])) (fun hb => by cases hb) (fun _ => ev_c)) .non
      exact s_retO (evo_tup (ds := [.str "refused", .list [.str (wordOf i)], if i = 0 then .str "ring" else .none]) (eoa_cons (evo_ev ev_c (.str _)) (eoa_cons (evo_ev (ev_var rfl) (.lst hF5 hSF (.cons (.str _) .nil))) (eoa_cons hwh eoa_nil))) (by show 3 ≤ 100000; decide)) fun v H' e ho => q v H' (e14.trans e) ho
end
end D1
end
section
set_option Elab.async false
set_option linter.all false
set_option maxRecDepth 100000
set_option maxHeartbeats 4000000
/-! WI: what is told of a ring and a web -/
namespace D1
open PySem L2 Evl RZ ClX PySem.VX
theorem asg_any {te : TE} {g : TG} {z : TS} {D : Ends} {σ : L2.St} {H : Hp} (h : te σ H fun x H1 => g x σ H1 fun σ2 H2 => z D σ2 H2) : tSeq (tAsg te g) z D σ H := h
theorem vals_app : ∀ {a c : List V} {b d : List Value}, Vals a b → Vals c d → Vals (a ++ c) (b ++ d)
  | _, _, _, _, .nil, h => h
  | _, _, _, _, .cons h r, h' => .cons h (vals_app r h')
theorem vals_rev : ∀ {a : List V} {b : List Value}, Vals a b → Vals a.reverse b.reverse
  | _, _, .nil => .nil
  | _, _, .cons h r => by
    rw [List.reverse_cons, List.reverse_cons]
    exact vals_app (vals_rev r) (.cons h .nil)
/-- keywords from the last to the first -/
def gRev {α : Type} (us ws : List α) : List α := us ++ ws.reverse
theorem gRev_rel {vs zs : List V} {us ws : List Value} (h : Vals vs us) (h' : Vals zs ws) : Vals (gRev vs zs) (gRev us ws) := vals_app h (vals_rev h')
theorem verd_lt {o : Option RK} {d : PyData} {i : Nat} (h : verd o d = some i) : i < 5 := by
  cases o with
  | none =>
    cases h
    decide
  | some k =>
    have h : (if k.clsd = true then (if isWebB k d = true then none else some 2) else some 1 : Option Nat) = some i := h
    split at h
    · split at h
      · cases h
      · cases h
        decide
    · cases h
      decide
def resD : Option Nat → PyData
  | some i => wordD i
  | none => .tuple [.str "told", .none]
/-- what comes of it: the first that is refused -/
def Case (K : PySem.W.Frag) (H : Hp) (which : Int) (o : Option RK) (v t : V) (d dt du : PyData) (i : Nat) : Prop :=
  verd o d = some i ∨ (i = 3 ∧ 2 ≤ which ∧ which ≤ 7 ∧ verd o d = none ∧ okSt d (dNum dt) = false ∧ okSt d (dNum du) = true) ∨
  (i = 4 ∧ which = 8 ∧ ∃ (n : Nat) (ss : List Step) (l : Line), verd o d = none ∧ d = webD n ss ∧ DtAt H v (webD n ss) ∧ PathAt K H t l ∧ (isPathB ss l = false ∨ lineLen l = 0))
def spTold (K : PySem.W.Frag) (C : KC) (CR : Addr) : Sp := fun vs H Q _ => ∃ (which : Int) (r v t u : V) (o : Option RK) (d dt du : PyData) (res : Option Nat), vs = [.int which, r, v, t, u] ∧ 0 ≤ which ∧ which ≤ 8 ∧ ArgR C CR H r o ∧ OdAt Any H v d ∧ OdAt Any H t dt ∧ OdAt Any H u du ∧
  ((res = none ∧ which = 0 ∧ verd o d = none) ∨ ∃ i, res = some i ∧ Case K H which o v t d dt du i) ∧ ∀ x H', Ex H H' → OdAt (fun p => H p = none) H' x (resD res) → Q x H'
section
variable {P : Program} {w : World} {K : PySem.W.Frag} {mg : Str → Option Value} {base : Heap}
abbrev s_told : Stmt := top 130
theorem sc_told : FnScope ["_law_which", "_law_base", "_law_net", "_law_odd", "_law_good_here", "_law_found", "_law_wrong", "_law_error"] ["_law_which", "_law_base", "_law_net", "_law_odd", "_law_good_here"] (defScope s_told) := ⟨rfl, rfl, rfl, by decide +kernel, rfl, by decide +kernel, by decide +kernel⟩
theorem ok_told {f : Addr} {fd : FuncData} (F : FnP K "_law_told" s_told f fd) {C : KC} {CR cO cF cU : Addr} {B : Bads} (W : FamW K mg B cO cF cU) {f_need_web : Addr} {fd_need_web : FuncData} (F_need_web : FnP K "need_web" s_need_web f_need_web fd_need_web) (g_need_web : mg "need_web" = some (.ref f_need_web)) (G_need_web : FnOk P w K mg base (L2.CX P w) 10 f_need_web fd_need_web ["ring", "web"] (spNeedWeb C CR B)) {f_by_states : Addr} {fd_by_states : FuncData} (F_by_states : FnP K "by_states" s_by_states f_by_states fd_by_states) (g_by_states : mg "by_states" = some (.ref f_by_states)) (G_by_states : FnOk P w K mg base (L2.CX P w) 11 f_by_states fd_by_states ["ring", "web"] (spRef1 C CR B)) {f_by_rounds : Addr} {fd_by_rounds : FuncData} (F_by_rounds : FnP K "by_rounds" s_by_rounds f_by_rounds fd_by_rounds) (g_by_rounds : mg "by_rounds" = some (.ref f_by_rounds)) (G_by_rounds : FnOk P w K mg base (L2.CX P w) 11 f_by_rounds fd_by_rounds ["ring", "web", "start"] (spRef2 K C CR B)) {f_by_best : Addr} {fd_by_best : FuncData} (F_by_best : FnP K "by_best" s_by_best f_by_best fd_by_best) (g_by_best : mg "by_best" = some (.ref f_by_best)) (G_by_best : FnOk P w K mg base (L2.CX P w) 11 f_by_best fd_by_best ["ring", "web", "start"] (spRef2 K C CR B)) {f_paper : Addr} {fd_paper : FuncData} (F_paper : FnP K "paper" s_paper f_paper fd_paper) (g_paper : mg "paper" = some (.ref f_paper)) (G_paper : FnOk P w K mg base (L2.CX P w) 11 f_paper fd_paper ["ring", "web", "start"] (spRef2 K C CR B)) {f_check : Addr} {fd_check : FuncData} (F_check : FnP K "check" s_check f_check fd_check) (g_check : mg "check" = some (.ref f_check)) (G_check : FnOk P w K mg base (L2.CX P w) 11 f_check fd_check ["ring", "web", "start", "row", "paper"] (spRef3 K C CR B)) {f_why_endless : Addr} {fd_why_endless : FuncData} (F_why_endless : FnP K "why_endless" s_why_endless f_why_endless fd_why_endless) (g_why_endless : mg "why_endless" = some (.ref f_why_endless)) (G_why_endless : FnOk P w K mg base (L2.CX P w) 11 f_why_endless fd_why_endless ["ring", "web", "i", "j"] (spRef4 K C CR B)) {f_path_weight : Addr} {fd_path_weight : FuncData} (F_path_weight : FnP K "path_weight" s_path_weight f_path_weight fd_path_weight) (g_path_weight : mg "path_weight" = some (.ref f_path_weight)) (G_path_weight : FnOk P w K mg base (L2.CX P w) 11 f_path_weight fd_path_weight ["ring", "web", "path"] (spRef5 K C CR B)) {f_word : Addr} {fd_word : FuncData} (F_word : FnP K "_law_word" s_word f_word fd_word) (g_word : mg "_law_word" = some (.ref f_word)) (G_word : FnOk P w K mg base (CX0) 1 f_word fd_word ["_law_error"] (spWord K B)) : FnOk P w K mg base (CX0) 12 f fd ["_law_which", "_law_base", "_law_net", "_law_odd", "_law_good_here"] (spTold K C CR) := by
  have b_need_web : Binds K fd_need_web ["ring", "web"] [] := F_need_web.bindsN fun _ _ _ _ _ _ us hl => match us, hl with | [_, _], _ => rfl
  have b_paper : Binds K fd_paper ["ring", "web", "start"] [] := F_paper.bindsN fun _ _ _ _ _ _ us hl => match us, hl with | [_, _, _], _ => rfl
  have b_check : Binds K fd_check ["ring", "web", "start", "row", "paper"] [] := F_check.bindsN fun _ _ _ _ _ _ us hl => match us, hl with | [_, _, _, _, _], _ => rfl
  have b_why_endless : Binds K fd_why_endless ["ring", "web", "i", "j"] [] := F_why_endless.bindsN fun _ _ _ _ _ _ us hl => match us, hl with | [_, _, _, _], _ => rfl
  have b_path_weight : Binds K fd_path_weight ["ring", "web", "path"] [] := F_path_weight.bindsN fun _ _ _ _ _ _ us hl => match us, hl with | [_, _, _], _ => rfl
  have b_word : Binds K fd_word ["_law_error"] [] := F_word.bindsN fun _ _ _ _ _ _ us hl => match us, hl with | [_], _ => rfl
  have k_by_states : KBn K fd_by_states ["ring", "web"] 0 ["web", "ring"] (fun us ws => gRev us ws) (fun vs zs => gRev vs zs) := F_by_states.kbn0 0 _ gRev gRev_rel fun _ _ _ _ _ _ us ws hl hl2 => match us, ws, hl, hl2 with | [], [_, _], _, _ => rfl
  have k_by_rounds : KBn K fd_by_rounds ["ring", "web", "start"] 0 ["start", "web", "ring"] (fun us ws => gRev us ws) (fun vs zs => gRev vs zs) := F_by_rounds.kbn0 0 _ gRev gRev_rel fun _ _ _ _ _ _ us ws hl hl2 => match us, ws, hl, hl2 with | [], [_, _, _], _, _ => rfl
  have k_by_best : KBn K fd_by_best ["ring", "web", "start"] 2 ["start"] (fun us ws => gRev us ws) (fun vs zs => gRev vs zs) := F_by_best.kbn0 2 _ gRev gRev_rel fun _ _ _ _ _ _ us ws hl hl2 => match us, ws, hl, hl2 with | [_, _], [_], _, _ => rfl
  have k_why_endless : KBn K fd_why_endless ["ring", "web", "i", "j"] 2 ["j", "i"] (fun us ws => gRev us ws) (fun vs zs => gRev vs zs) := F_why_endless.kbn0 2 _ gRev gRev_rel fun _ _ _ _ _ _ us ws hl hl2 => match us, ws, hl, hl2 with | [_, _], [_, _], _, _ => rfl
  refine F.ok (CX := CX0) sc_told (fun vs H Q E h => ?_) (fun cdv A outer s H vs Q E hr h => ?_)
  · obtain ⟨which, r, v, t, u, o, d, dt, du, res, rfl, _⟩ := h
    rfl
  · obtain ⟨which, r, v, t, u, o, d, dt, du, res, rfl, w0, w8, hA, hv, ht, hu1, hc, q⟩ := h
    have hu := hu_of hr
    have hu64 := hr.units
    have hr_need_web := hr.mono (by decide : 10 ≤ 11)
    have hr_by_states := hr.mono (by decide : 11 ≤ 11)
    have hr_by_rounds := hr.mono (by decide : 11 ≤ 11)
    have hr_by_best := hr.mono (by decide : 11 ≤ 11)
    have hr_paper := hr.mono (by decide : 11 ≤ 11)
    have hr_check := hr.mono (by decide : 11 ≤ 11)
    have hr_why_endless := hr.mono (by decide : 11 ≤ 11)
    have hr_path_weight := hr.mono (by decide : 11 ≤ 11)
    have hr_word := hr.mono (by decide : 1 ≤ 11)
    refine ⟨_, (pss_cons (ps_asg (pe_tup (pa_cons pe_non (pa_cons pe_non pa_nil))) (pg_tup rfl (pgs_cons (pg_name (i := 5) sc_told.nd rfl (Or.inl rfl)) (pgs_cons (pg_name (i := 6) sc_told.nd rfl (Or.inl rfl)) pgs_nil))))
      (pss_cons (ps_try_manyV (i := 7) (Wout := fun _ _ _ _ => False) rfl rfl rfl sc_told.nd rfl rfl takes0 (fun W pn xe tk _ => pss_one (ps_if (pt_cmpR op_eq (pv 0) pe_int (nomark _)) (pss_one (ps_set (i := 5) sc_told.nd rfl (Or.inl rfl) (pe_callS G_need_web hr_need_web rfl g_need_web F_need_web.kp b_need_web (fun σ => passAt tk σ) (by exact (pa_cons (pv 1) (pa_cons (pv 2) pa_nil)))))) (pss_one (ps_if (pt_cmpR op_eq (pv 0) pe_int (nomark _)) (pss_one (ps_set (i := 5) sc_told.nd rfl (Or.inl rfl) (pe_callN0S G_by_states hr_by_states rfl g_by_states F_by_states.kp k_by_states (fun σ => passAt tk σ) (by exact (pk_cons (pv 2) (pk_cons (pv 1) pk_nil)))))) (pss_one (ps_if (pt_cmpR op_eq (pv 0) pe_int (nomark _)) (pss_one (ps_set (i := 5) sc_told.nd rfl (Or.inl rfl) (pe_callN0S G_by_rounds hr_by_rounds rfl g_by_rounds F_by_rounds.kp k_by_rounds (fun σ => passAt tk σ) (by exact (pk_cons (pv 3) (pk_cons (pv 2) (pk_cons (pv 1) pk_nil))))))) (pss_one (ps_if (pt_cmpR op_eq (pv 0) pe_int (nomark _)) (pss_one (ps_set (i := 5) sc_told.nd rfl (Or.inl rfl) (pe_callNS G_by_best hr_by_best rfl g_by_best F_by_best.kp k_by_best (fun σ => passAt tk σ) (by exact (pa_cons (pv 1) (pa_cons (pv 2) pa_nil))) (by exact (pk_cons (pv 3) pk_nil))))) (pss_one (ps_if (pt_cmpR op_eq (pv 0) pe_int (nomark _)) (pss_one (ps_set (i := 5) sc_told.nd rfl (Or.inl rfl) (pe_callS G_why_endless hr_why_endless rfl g_why_endless F_why_endless.kp b_why_endless (fun σ => passAt tk σ) (by exact (pa_cons (pv 1) (pa_cons (pv 2) (pa_cons (pv 3) (pa_cons (pv 4) pa_nil)))))))) (pss_one (ps_if (pt_cmpR op_eq (pv 0) pe_int (nomark _)) (pss_one (ps_set (i := 5) sc_told.nd rfl (Or.inl rfl) (pe_callNS G_why_endless hr_why_endless rfl g_why_endless F_why_endless.kp k_why_endless (fun σ => passAt tk σ) (by exact (pa_cons (pv 1) (pa_cons (pv 2) pa_nil))) (by exact (pk_cons (pv 3) (pk_cons (pv 4) pk_nil)))))) (pss_one (ps_if (pt_cmpR op_eq (pv 0) pe_int (nomark _)) (pss_one (ps_set (i := 5) sc_told.nd rfl (Or.inl rfl) (pe_callS G_paper hr_paper rfl g_paper F_paper.kp b_paper (fun σ => passAt tk σ) (by exact (pa_cons (pv 1) (pa_cons (pv 2) (pa_cons (pv 3) pa_nil))))))) (pss_one (ps_if (pt_cmpR op_eq (pv 0) pe_int (nomark _)) (pss_one (ps_set (i := 5) sc_told.nd rfl (Or.inl rfl) (pe_callS G_check hr_check rfl g_check F_check.kp b_check (fun σ => passAt tk σ) (by exact (pa_cons (pv 1) (pa_cons (pv 2) (pa_cons (pv 3) (pa_cons (pe_lst pa_nil) (pa_cons (pe_lst pa_nil) pa_nil))))))))) (pss_one (ps_set (i := 5) sc_told.nd rfl (Or.inl rfl) (pe_callS G_path_weight hr_path_weight rfl g_path_weight F_path_weight.kp b_path_weight (fun σ => passAt tk σ) (by exact (pa_cons (pv 1) (pa_cons (pv 2) (pa_cons (pv 3) pa_nil))))))))))))))))))))))) (.cons ⟨rfl, by decide, .inl W.gF⟩ (fun a oe cls d pn _ _ => pss_one (ps_set (i := 6) sc_told.nd rfl (Or.inl rfl) (pv 7))) (.cons ⟨rfl, by decide, .inl W.gU⟩ (fun a oe cls d pn _ _ => pss_one (ps_set (i := 6) sc_told.nd rfl (Or.inl rfl) (pv 7))) .nil)))
      (pss_one (ps_ret (pe_ifExp (pt_cmpR op_isN (pv 6) pe_non (nomark _)) (pe_tup (pa_cons pe_str (pa_cons (pv 5) pa_nil))) (pe_call G_word hr_word rfl g_word F_word.kp b_word .nil pass0 (pa_cons (pv 6) pa_nil))))))), ?_⟩
    have hwh : which = 0 ∨ which = 1 ∨ which = 2 ∨ which = 3 ∨ which = 4 ∨ which = 5 ∨ which = 6 ∨ which = 7 ∨ which = 8 := by omega
    have last : ∀ {G : Hp} {a d' : Addr} {D : Ends} {i : Nat}, D.rt = Q → Ex H G → G a = some (exV a (B.cls i) d') → G d' = some (.xd (msgOf i)) → i < 5 → res = some i → tRet (tIf (tTest (tOp (fun x y H Q => y = .non ∧ Q (.bl (decide (x = V.non))) H) (tVar 6) (tC .non))) (tTup (tCons (tC (.str "told")) (tCons (tVar 5) tNil))) (tCall (spWord K B) [] E0 (tCons (tVar 6) tNil))) D [some (.int which), some r, some v, some t, some u, some .non, some (.ref a), none] G := fun {G a d' D i} hQ e hA hDd hi hres => by
      refine r_if (b := false) (et_test (ev_op (ev_var rfl) ev_c (fun H1 _ Q q => ⟨rfl, q H1 (Ex.refl H1)⟩))) (fun hb => (by cases hb)) (fun _ H1 e1 => ?_)
      refine ⟨_, rfl, a, d', i, rfl, e1 _ _ hA, e1 _ _ hDd, hi, fun x H2 e2 ho => ?_⟩
      rw [hQ]
      refine q x H2 ((e.trans e1).trans e2) ?_
      rw [hres]
      exact ho.to fun p hp => fresh_back (e.trans e1) hp
    refine asg_any ⟨by show 2 ≤ sizeLine; decide, fun tp htp => ⟨tp, _, rfl, st_of upd_same, rfl, _, _, rfl, _, _, rfl, rfl, ?_⟩⟩
    have e0 := Ex.new (o := .tup [.non, .non]) htp
    generalize upd H tp (.tup [.non, .non]) = G0 at e0 ⊢
    have hA1 : ∀ i, verd o d = some i → res = some i ∧ i < 5 := fun i hi => by
      rcases hc with ⟨_, _, hn⟩ | ⟨i', hr', hcs⟩
      · rw [hi] at hn
        cases hn
      · rcases hcs with h | ⟨_, _, _, hn, _⟩ | ⟨_, _, n, ss, l, hn, _⟩
        · rw [hi] at h
          cases h
          exact ⟨hr', verd_lt hi⟩
        · rw [hi] at hn
          cases hn
        · rw [hi] at hn
          cases hn
    have hA3 : verd o d = none → 2 ≤ which → which ≤ 7 → res = some 3 ∧ okSt d (dNum dt) = false ∧ okSt d (dNum du) = true := fun hn h2 h7 => by
      rcases hc with ⟨_, h0, _⟩ | ⟨i', hr', hcs⟩
      · omega
      · rcases hcs with h | ⟨rfl, _, _, _, h1, h2'⟩ | ⟨_, h8, _⟩
        · rw [hn] at h
          cases h
        · exact ⟨hr', h1, h2'⟩
        · omega
    have vS : 2 ≤ which → which ≤ 7 → ∃ i, verdS o d (dNum dt) = some i ∧ res = some i ∧ i < 5 := fun h2 h7 => by
      cases hn : verd o d with
      | some i =>
        obtain ⟨h1, h3⟩ := hA1 i hn
        exact ⟨i, by unfold verdS; rw [hn], h1, h3⟩
      | none =>
        obtain ⟨h1, h3, _⟩ := hA3 hn h2 h7
        exact ⟨3, by unfold verdS; rw [hn]; exact if_neg (by rw [h3]; decide), h1, by decide⟩
    have vT : 2 ≤ which → which ≤ 7 → ∃ i, verdT o d (dNum dt) (dNum du) = some i ∧ res = some i ∧ i < 5 := fun h2 h7 => by
      obtain ⟨i, h1, h3⟩ := vS h2 h7
      exact ⟨i, by unfold verdT; rw [h1], h3⟩
    have vU : 2 ≤ which → which ≤ 7 → ∃ i, verdT o d (dNum du) (dNum dt) = some i ∧ res = some i ∧ i < 5 := fun h2 h7 => by
      cases hn : verd o d with
      | some i =>
        obtain ⟨h1, h3⟩ := hA1 i hn
        exact ⟨i, by unfold verdT verdS; rw [hn], h1, h3⟩
      | none =>
        obtain ⟨h1, h3, h4⟩ := hA3 hn h2 h7
        refine ⟨3, ?_, h1, by decide⟩
        unfold verdT verdS
        rw [hn]
        dsimp only
        rw [if_pos h4]
        exact if_neg (by rw [h3]; decide)
    rcases hwh with rfl | rfl | rfl | rfl | rfl | rfl | rfl | rfl | rfl
    · refine s_if (b := true) (et_is (et_test (ev_eqI (ev_var rfl) ev_c)) (by decide)) (fun _ G1 f1 => ?_) (fun hb => (by cases hb))
      have eG := (e0.trans f1)
      refine ⟨_, rfl, _, rfl, r, v, o, d, rfl, hA.ex eG, hv.ex eG, fun hn H2 e2 => ?_, fun i hi0 H' d' e hd' => ?_⟩
      · have hres : res = none := by
          rcases hc with ⟨h, _⟩ | ⟨i', hr', hcs⟩
          · exact h
          · rcases hcs with h | ⟨_, h2, _⟩ | ⟨_, h8, _⟩
            · rw [hn] at h
              cases h
            · omega
            · omega
        change tRet (tIf (tTest (tOp (fun x y H Q => y = .non ∧ Q (.bl (decide (x = V.non))) H) (tVar 6) (tC .non))) (tTup (tCons (tC (.str "told")) (tCons (tVar 5) tNil))) (tCall (spWord K B) [] E0 (tCons (tVar 6) tNil))) _ [some (.int 0), some r, some v, some t, some u, some .non, some .non, none] H2
        refine r_if (b := true) (et_test (ev_op (ev_var rfl) ev_c (fun H1 _ Q q => ⟨rfl, q H1 (Ex.refl H1)⟩))) (fun _ H3 e3 => ?_) (fun hb => (by cases hb))
        rw [hres] at q
        exact s_retO (evo_tup (eoa_cons (evo_ev ev_c (.str _)) (eoa_cons (evo_ev (ev_var rfl) .non) eoa_nil)) (by show 2 ≤ 100000; decide)) fun x H4 e4 ho => q x H4 (((eG.trans e2).trans e3).trans e4) ho
      · obtain ⟨hres, hi⟩ := hA1 i hi0
        refine ⟨!decide (i = 1), W.exF i hi, fun _ => ⟨B.cls i, d', rfl, rfl, fun a ha => ?_⟩, fun hb => ?_⟩
        · have da : d' ≠ a := fun z => by rw [← z, upd_same] at ha; cases ha
          exact ⟨_, rfl, last rfl (((eG.trans e).trans (Ex.new (o := .xd (msgOf i)) hd')).trans (Ex.new (o := exV a (B.cls i) d') ha)) upd_same (by rw [upd_ne da, upd_same]) hi hres⟩
        · have h1 : i = 1 := by simpa using hb
          first
            | (subst h1
               refine ⟨true, W.exU, fun _ => ⟨B.cC, d', rfl, rfl, fun a ha => ?_⟩, fun h => (by cases h)⟩
               have da : d' ≠ a := fun z => by rw [← z, upd_same] at ha; cases ha
               exact ⟨_, rfl, last (i := 1) rfl (((eG.trans e).trans (Ex.new (o := .xd (msgOf 1)) hd')).trans (Ex.new (o := exV a B.cC d') ha)) upd_same (by rw [upd_ne da, upd_same]) hi hres⟩)
            | exact absurd h1 (by decide)
    · refine s_if (b := false) (et_is (et_test (ev_eqI (ev_var rfl) ev_c)) (by decide)) (fun hb => (by cases hb)) (fun _ G1 f1 => ?_)
      refine s_if (b := true) (et_is (et_test (ev_eqI (ev_var rfl) ev_c)) (by decide)) (fun _ G2 f2 => ?_) (fun hb => (by cases hb))
      have eG := ((e0.trans f1).trans f2)
      obtain ⟨i, hi0, hres, hi⟩ : ∃ i, verd o d = some i ∧ res = some i ∧ i < 5 := by
        cases hn : verd o d with
        | some i => exact ⟨i, rfl, hA1 i hn⟩
        | none =>
          exfalso
          rcases hc with ⟨_, h0, _⟩ | ⟨i', hr', hcs⟩
          · omega
          · rcases hcs with h | ⟨_, h2, _⟩ | ⟨_, h8, _⟩
            · rw [hn] at h
              cases h
            · omega
            · omega
      refine ⟨_, rfl, _, rfl, rfl, rfl, r, v, o, d, i, rfl, hA.ex eG, hv.ex eG, hi0, fun H' d' e hd' => ?_⟩
      refine ⟨!decide (i = 1), W.exF i hi, fun _ => ⟨B.cls i, d', rfl, rfl, fun a ha => ?_⟩, fun hb => ?_⟩
      · have da : d' ≠ a := fun z => by rw [← z, upd_same] at ha; cases ha
        exact ⟨_, rfl, last rfl (((eG.trans e).trans (Ex.new (o := .xd (msgOf i)) hd')).trans (Ex.new (o := exV a (B.cls i) d') ha)) upd_same (by rw [upd_ne da, upd_same]) hi hres⟩
      · have h1 : i = 1 := by simpa using hb
        first
          | (subst h1
             refine ⟨true, W.exU, fun _ => ⟨B.cC, d', rfl, rfl, fun a ha => ?_⟩, fun h => (by cases h)⟩
             have da : d' ≠ a := fun z => by rw [← z, upd_same] at ha; cases ha
             exact ⟨_, rfl, last (i := 1) rfl (((eG.trans e).trans (Ex.new (o := .xd (msgOf 1)) hd')).trans (Ex.new (o := exV a B.cC d') ha)) upd_same (by rw [upd_ne da, upd_same]) hi hres⟩)
          | exact absurd h1 (by decide)
    · refine s_if (b := false) (et_is (et_test (ev_eqI (ev_var rfl) ev_c)) (by decide)) (fun hb => (by cases hb)) (fun _ G1 f1 => ?_)
      refine s_if (b := false) (et_is (et_test (ev_eqI (ev_var rfl) ev_c)) (by decide)) (fun hb => (by cases hb)) (fun _ G2 f2 => ?_)
      refine s_if (b := true) (et_is (et_test (ev_eqI (ev_var rfl) ev_c)) (by decide)) (fun _ G3 f3 => ?_) (fun hb => (by cases hb))
      have eG := (((e0.trans f1).trans f2).trans f3)
      obtain ⟨i, hi0, hres, hi⟩ := vS (by decide) (by decide)
      refine ⟨_, rfl, _, rfl, _, rfl, rfl, rfl, r, v, t, o, d, dNum dt, i, rfl, hA.ex eG, hv.ex eG, (ht.ex eG).num, hi0, fun H' d' e hd' => ?_⟩
      refine ⟨!decide (i = 1), W.exF i hi, fun _ => ⟨B.cls i, d', rfl, rfl, fun a ha => ?_⟩, fun hb => ?_⟩
      · have da : d' ≠ a := fun z => by rw [← z, upd_same] at ha; cases ha
        exact ⟨_, rfl, last rfl (((eG.trans e).trans (Ex.new (o := .xd (msgOf i)) hd')).trans (Ex.new (o := exV a (B.cls i) d') ha)) upd_same (by rw [upd_ne da, upd_same]) hi hres⟩
      · have h1 : i = 1 := by simpa using hb
        first
          | (subst h1
             refine ⟨true, W.exU, fun _ => ⟨B.cC, d', rfl, rfl, fun a ha => ?_⟩, fun h => (by cases h)⟩
             have da : d' ≠ a := fun z => by rw [← z, upd_same] at ha; cases ha
             exact ⟨_, rfl, last (i := 1) rfl (((eG.trans e).trans (Ex.new (o := .xd (msgOf 1)) hd')).trans (Ex.new (o := exV a B.cC d') ha)) upd_same (by rw [upd_ne da, upd_same]) hi hres⟩)
          | exact absurd h1 (by decide)
    · refine s_if (b := false) (et_is (et_test (ev_eqI (ev_var rfl) ev_c)) (by decide)) (fun hb => (by cases hb)) (fun _ G1 f1 => ?_)
      refine s_if (b := false) (et_is (et_test (ev_eqI (ev_var rfl) ev_c)) (by decide)) (fun hb => (by cases hb)) (fun _ G2 f2 => ?_)
      refine s_if (b := false) (et_is (et_test (ev_eqI (ev_var rfl) ev_c)) (by decide)) (fun hb => (by cases hb)) (fun _ G3 f3 => ?_)
      refine s_if (b := true) (et_is (et_test (ev_eqI (ev_var rfl) ev_c)) (by decide)) (fun _ G4 f4 => ?_) (fun hb => (by cases hb))
      have eG := ((((e0.trans f1).trans f2).trans f3).trans f4)
      obtain ⟨i, hi0, hres, hi⟩ := vS (by decide) (by decide)
      refine ⟨_, rfl, _, rfl, _, rfl, rfl, rfl, r, v, t, o, d, dNum dt, i, rfl, hA.ex eG, hv.ex eG, (ht.ex eG).num, hi0, fun H' d' e hd' => ?_⟩
      refine ⟨!decide (i = 1), W.exF i hi, fun _ => ⟨B.cls i, d', rfl, rfl, fun a ha => ?_⟩, fun hb => ?_⟩
      · have da : d' ≠ a := fun z => by rw [← z, upd_same] at ha; cases ha
        exact ⟨_, rfl, last rfl (((eG.trans e).trans (Ex.new (o := .xd (msgOf i)) hd')).trans (Ex.new (o := exV a (B.cls i) d') ha)) upd_same (by rw [upd_ne da, upd_same]) hi hres⟩
      · have h1 : i = 1 := by simpa using hb
        first
          | (subst h1
             refine ⟨true, W.exU, fun _ => ⟨B.cC, d', rfl, rfl, fun a ha => ?_⟩, fun h => (by cases h)⟩
             have da : d' ≠ a := fun z => by rw [← z, upd_same] at ha; cases ha
             exact ⟨_, rfl, last (i := 1) rfl (((eG.trans e).trans (Ex.new (o := .xd (msgOf 1)) hd')).trans (Ex.new (o := exV a B.cC d') ha)) upd_same (by rw [upd_ne da, upd_same]) hi hres⟩)
          | exact absurd h1 (by decide)
    · refine s_if (b := false) (et_is (et_test (ev_eqI (ev_var rfl) ev_c)) (by decide)) (fun hb => (by cases hb)) (fun _ G1 f1 => ?_)
      refine s_if (b := false) (et_is (et_test (ev_eqI (ev_var rfl) ev_c)) (by decide)) (fun hb => (by cases hb)) (fun _ G2 f2 => ?_)
      refine s_if (b := false) (et_is (et_test (ev_eqI (ev_var rfl) ev_c)) (by decide)) (fun hb => (by cases hb)) (fun _ G3 f3 => ?_)
      refine s_if (b := false) (et_is (et_test (ev_eqI (ev_var rfl) ev_c)) (by decide)) (fun hb => (by cases hb)) (fun _ G4 f4 => ?_)
      refine s_if (b := true) (et_is (et_test (ev_eqI (ev_var rfl) ev_c)) (by decide)) (fun _ G5 f5 => ?_) (fun hb => (by cases hb))
      have eG := (((((e0.trans f1).trans f2).trans f3).trans f4).trans f5)
      obtain ⟨i, hi0, hres, hi⟩ := vT (by decide) (by decide)
      refine ⟨_, rfl, _, rfl, _, rfl, _, rfl, r, v, t, u, o, d, dNum dt, dNum du, i, rfl, hA.ex eG, hv.ex eG, (ht.ex eG).num, (hu1.ex eG).num, hi0, fun H' d' e hd' => ?_⟩
      refine ⟨!decide (i = 1), W.exF i hi, fun _ => ⟨B.cls i, d', rfl, rfl, fun a ha => ?_⟩, fun hb => ?_⟩
      · have da : d' ≠ a := fun z => by rw [← z, upd_same] at ha; cases ha
        exact ⟨_, rfl, last rfl (((eG.trans e).trans (Ex.new (o := .xd (msgOf i)) hd')).trans (Ex.new (o := exV a (B.cls i) d') ha)) upd_same (by rw [upd_ne da, upd_same]) hi hres⟩
      · have h1 : i = 1 := by simpa using hb
        first
          | (subst h1
             refine ⟨true, W.exU, fun _ => ⟨B.cC, d', rfl, rfl, fun a ha => ?_⟩, fun h => (by cases h)⟩
             have da : d' ≠ a := fun z => by rw [← z, upd_same] at ha; cases ha
             exact ⟨_, rfl, last (i := 1) rfl (((eG.trans e).trans (Ex.new (o := .xd (msgOf 1)) hd')).trans (Ex.new (o := exV a B.cC d') ha)) upd_same (by rw [upd_ne da, upd_same]) hi hres⟩)
          | exact absurd h1 (by decide)
    · refine s_if (b := false) (et_is (et_test (ev_eqI (ev_var rfl) ev_c)) (by decide)) (fun hb => (by cases hb)) (fun _ G1 f1 => ?_)
      refine s_if (b := false) (et_is (et_test (ev_eqI (ev_var rfl) ev_c)) (by decide)) (fun hb => (by cases hb)) (fun _ G2 f2 => ?_)
      refine s_if (b := false) (et_is (et_test (ev_eqI (ev_var rfl) ev_c)) (by decide)) (fun hb => (by cases hb)) (fun _ G3 f3 => ?_)
      refine s_if (b := false) (et_is (et_test (ev_eqI (ev_var rfl) ev_c)) (by decide)) (fun hb => (by cases hb)) (fun _ G4 f4 => ?_)
      refine s_if (b := false) (et_is (et_test (ev_eqI (ev_var rfl) ev_c)) (by decide)) (fun hb => (by cases hb)) (fun _ G5 f5 => ?_)
      refine s_if (b := true) (et_is (et_test (ev_eqI (ev_var rfl) ev_c)) (by decide)) (fun _ G6 f6 => ?_) (fun hb => (by cases hb))
      have eG := ((((((e0.trans f1).trans f2).trans f3).trans f4).trans f5).trans f6)
      obtain ⟨i, hi0, hres, hi⟩ := vU (by decide) (by decide)
      refine ⟨_, rfl, _, rfl, _, rfl, _, rfl, rfl, rfl, r, v, u, t, o, d, dNum du, dNum dt, i, rfl, hA.ex eG, hv.ex eG, (hu1.ex eG).num, (ht.ex eG).num, hi0, fun H' d' e hd' => ?_⟩
      refine ⟨!decide (i = 1), W.exF i hi, fun _ => ⟨B.cls i, d', rfl, rfl, fun a ha => ?_⟩, fun hb => ?_⟩
      · have da : d' ≠ a := fun z => by rw [← z, upd_same] at ha; cases ha
        exact ⟨_, rfl, last rfl (((eG.trans e).trans (Ex.new (o := .xd (msgOf i)) hd')).trans (Ex.new (o := exV a (B.cls i) d') ha)) upd_same (by rw [upd_ne da, upd_same]) hi hres⟩
      · have h1 : i = 1 := by simpa using hb
        first
          | (subst h1
             refine ⟨true, W.exU, fun _ => ⟨B.cC, d', rfl, rfl, fun a ha => ?_⟩, fun h => (by cases h)⟩
             have da : d' ≠ a := fun z => by rw [← z, upd_same] at ha; cases ha
             exact ⟨_, rfl, last (i := 1) rfl (((eG.trans e).trans (Ex.new (o := .xd (msgOf 1)) hd')).trans (Ex.new (o := exV a B.cC d') ha)) upd_same (by rw [upd_ne da, upd_same]) hi hres⟩)
          | exact absurd h1 (by decide)
    · refine s_if (b := false) (et_is (et_test (ev_eqI (ev_var rfl) ev_c)) (by decide)) (fun hb => (by cases hb)) (fun _ G1 f1 => ?_)
      refine s_if (b := false) (et_is (et_test (ev_eqI (ev_var rfl) ev_c)) (by decide)) (fun hb => (by cases hb)) (fun _ G2 f2 => ?_)
      refine s_if (b := false) (et_is (et_test (ev_eqI (ev_var rfl) ev_c)) (by decide)) (fun hb => (by cases hb)) (fun _ G3 f3 => ?_)
      refine s_if (b := false) (et_is (et_test (ev_eqI (ev_var rfl) ev_c)) (by decide)) (fun hb => (by cases hb)) (fun _ G4 f4 => ?_)
      refine s_if (b := false) (et_is (et_test (ev_eqI (ev_var rfl) ev_c)) (by decide)) (fun hb => (by cases hb)) (fun _ G5 f5 => ?_)
      refine s_if (b := false) (et_is (et_test (ev_eqI (ev_var rfl) ev_c)) (by decide)) (fun hb => (by cases hb)) (fun _ G6 f6 => ?_)
      refine s_if (b := true) (et_is (et_test (ev_eqI (ev_var rfl) ev_c)) (by decide)) (fun _ G7 f7 => ?_) (fun hb => (by cases hb))
      have eG := (((((((e0.trans f1).trans f2).trans f3).trans f4).trans f5).trans f6).trans f7)
      obtain ⟨i, hi0, hres, hi⟩ := vS (by decide) (by decide)
      refine ⟨_, rfl, _, rfl, _, rfl, r, v, t, o, d, dNum dt, i, rfl, hA.ex eG, hv.ex eG, (ht.ex eG).num, hi0, fun H' d' e hd' => ?_⟩
      refine ⟨!decide (i = 1), W.exF i hi, fun _ => ⟨B.cls i, d', rfl, rfl, fun a ha => ?_⟩, fun hb => ?_⟩
      · have da : d' ≠ a := fun z => by rw [← z, upd_same] at ha; cases ha
        exact ⟨_, rfl, last rfl (((eG.trans e).trans (Ex.new (o := .xd (msgOf i)) hd')).trans (Ex.new (o := exV a (B.cls i) d') ha)) upd_same (by rw [upd_ne da, upd_same]) hi hres⟩
      · have h1 : i = 1 := by simpa using hb
        first
          | (subst h1
             refine ⟨true, W.exU, fun _ => ⟨B.cC, d', rfl, rfl, fun a ha => ?_⟩, fun h => (by cases h)⟩
             have da : d' ≠ a := fun z => by rw [← z, upd_same] at ha; cases ha
             exact ⟨_, rfl, last (i := 1) rfl (((eG.trans e).trans (Ex.new (o := .xd (msgOf 1)) hd')).trans (Ex.new (o := exV a B.cC d') ha)) upd_same (by rw [upd_ne da, upd_same]) hi hres⟩)
          | exact absurd h1 (by decide)
    · refine s_if (b := false) (et_is (et_test (ev_eqI (ev_var rfl) ev_c)) (by decide)) (fun hb => (by cases hb)) (fun _ G1 f1 => ?_)
      refine s_if (b := false) (et_is (et_test (ev_eqI (ev_var rfl) ev_c)) (by decide)) (fun hb => (by cases hb)) (fun _ G2 f2 => ?_)
      refine s_if (b := false) (et_is (et_test (ev_eqI (ev_var rfl) ev_c)) (by decide)) (fun hb => (by cases hb)) (fun _ G3 f3 => ?_)
      refine s_if (b := false) (et_is (et_test (ev_eqI (ev_var rfl) ev_c)) (by decide)) (fun hb => (by cases hb)) (fun _ G4 f4 => ?_)
      refine s_if (b := false) (et_is (et_test (ev_eqI (ev_var rfl) ev_c)) (by decide)) (fun hb => (by cases hb)) (fun _ G5 f5 => ?_)
      refine s_if (b := false) (et_is (et_test (ev_eqI (ev_var rfl) ev_c)) (by decide)) (fun hb => (by cases hb)) (fun _ G6 f6 => ?_)
      refine s_if (b := false) (et_is (et_test (ev_eqI (ev_var rfl) ev_c)) (by decide)) (fun hb => (by cases hb)) (fun _ G7 f7 => ?_)
      refine s_if (b := true) (et_is (et_test (ev_eqI (ev_var rfl) ev_c)) (by decide)) (fun _ G8 f8 => ?_) (fun hb => (by cases hb))
      have eG := ((((((((e0.trans f1).trans f2).trans f3).trans f4).trans f5).trans f6).trans f7).trans f8)
      obtain ⟨i, hi0, hres, hi⟩ := vS (by decide) (by decide)
      refine ⟨_, rfl, _, rfl, _, rfl, by show 0 ≤ sizeLine; decide, fun l3 hl3 => ⟨by show 0 ≤ sizeLine; decide, fun l4 hl4 => ?_⟩⟩
      replace eG := (eG.trans (Ex.new (o := .lst []) hl3)).trans (Ex.new (o := .lst []) hl4)
      refine ⟨r, v, t, .ref l3, .ref l4, o, d, dNum dt, i, rfl, hA.ex eG, hv.ex eG, (ht.ex eG).num, hi0, fun H' d' e hd' => ?_⟩
      refine ⟨!decide (i = 1), W.exF i hi, fun _ => ⟨B.cls i, d', rfl, rfl, fun a ha => ?_⟩, fun hb => ?_⟩
      · have da : d' ≠ a := fun z => by rw [← z, upd_same] at ha; cases ha
        exact ⟨_, rfl, last rfl (((eG.trans e).trans (Ex.new (o := .xd (msgOf i)) hd')).trans (Ex.new (o := exV a (B.cls i) d') ha)) upd_same (by rw [upd_ne da, upd_same]) hi hres⟩
      · have h1 : i = 1 := by simpa using hb
        first
          | (subst h1
             refine ⟨true, W.exU, fun _ => ⟨B.cC, d', rfl, rfl, fun a ha => ?_⟩, fun h => (by cases h)⟩
             have da : d' ≠ a := fun z => by rw [← z, upd_same] at ha; cases ha
             exact ⟨_, rfl, last (i := 1) rfl (((eG.trans e).trans (Ex.new (o := .xd (msgOf 1)) hd')).trans (Ex.new (o := exV a B.cC d') ha)) upd_same (by rw [upd_ne da, upd_same]) hi hres⟩)
          | exact absurd h1 (by decide)
    · refine s_if (b := false) (et_is (et_test (ev_eqI (ev_var rfl) ev_c)) (by decide)) (fun hb => (by cases hb)) (fun _ G1 f1 => ?_)
      refine s_if (b := false) (et_is (et_test (ev_eqI (ev_var rfl) ev_c)) (by decide)) (fun hb => (by cases hb)) (fun _ G2 f2 => ?_)
      refine s_if (b := false) (et_is (et_test (ev_eqI (ev_var rfl) ev_c)) (by decide)) (fun hb => (by cases hb)) (fun _ G3 f3 => ?_)
      refine s_if (b := false) (et_is (et_test (ev_eqI (ev_var rfl) ev_c)) (by decide)) (fun hb => (by cases hb)) (fun _ G4 f4 => ?_)
      refine s_if (b := false) (et_is (et_test (ev_eqI (ev_var rfl) ev_c)) (by decide)) (fun hb => (by cases hb)) (fun _ G5 f5 => ?_)
      refine s_if (b := false) (et_is (et_test (ev_eqI (ev_var rfl) ev_c)) (by decide)) (fun hb => (by cases hb)) (fun _ G6 f6 => ?_)
      refine s_if (b := false) (et_is (et_test (ev_eqI (ev_var rfl) ev_c)) (by decide)) (fun hb => (by cases hb)) (fun _ G7 f7 => ?_)
      refine s_if (b := false) (et_is (et_test (ev_eqI (ev_var rfl) ev_c)) (by decide)) (fun hb => (by cases hb)) (fun _ G8 f8 => ?_)
      have eG := ((((((((e0.trans f1).trans f2).trans f3).trans f4).trans f5).trans f6).trans f7).trans f8)
      refine ⟨_, rfl, _, rfl, _, rfl, r, v, t, o, d, rfl, hA.ex eG, hv.ex eG, ?_⟩
      cases hn : verd o d with
      | some i =>
        obtain ⟨hres, hi⟩ := hA1 i hn
        refine .inl ⟨i, rfl, fun H' d' e hd' => ?_⟩
        refine ⟨!decide (i = 1), W.exF i hi, fun _ => ⟨B.cls i, d', rfl, rfl, fun a ha => ?_⟩, fun hb => ?_⟩
        · have da : d' ≠ a := fun z => by rw [← z, upd_same] at ha; cases ha
          exact ⟨_, rfl, last rfl (((eG.trans e).trans (Ex.new (o := .xd (msgOf i)) hd')).trans (Ex.new (o := exV a (B.cls i) d') ha)) upd_same (by rw [upd_ne da, upd_same]) hi hres⟩
        · have h1 : i = 1 := by simpa using hb
          first
            | (subst h1
               refine ⟨true, W.exU, fun _ => ⟨B.cC, d', rfl, rfl, fun a ha => ?_⟩, fun h => (by cases h)⟩
               have da : d' ≠ a := fun z => by rw [← z, upd_same] at ha; cases ha
               exact ⟨_, rfl, last (i := 1) rfl (((eG.trans e).trans (Ex.new (o := .xd (msgOf 1)) hd')).trans (Ex.new (o := exV a B.cC d') ha)) upd_same (by rw [upd_ne da, upd_same]) hi hres⟩)
            | exact absurd h1 (by decide)
      | none =>
        have hi : 4 < 5 := by decide
        obtain ⟨hres, n, ss, l, hd8, hD8, hP8, hb8⟩ : res = some 4 ∧ ∃ (n : Nat) (ss : List Step) (l : Line), d = webD n ss ∧ DtAt H v (webD n ss) ∧ PathAt K H t l ∧ (isPathB ss l = false ∨ lineLen l = 0) := by
          rcases hc with ⟨_, h0, _⟩ | ⟨i', hr', hcs⟩
          · omega
          · rcases hcs with h | ⟨_, _, h7, _⟩ | ⟨rfl, _, n, ss, l, _, h1, h2, h3, h4⟩
            · rw [hn] at h
              cases h
            · omega
            · exact ⟨hr', n, ss, l, h1, h2, h3, h4⟩
        refine .inr ⟨n, ss, l, rfl, hd8, hD8.ex eG, hP8.up eG, hb8, fun H' d' e hd' => ?_⟩
        refine ⟨!decide (4 = 1), W.exF 4 hi, fun _ => ⟨B.cls 4, d', rfl, rfl, fun a ha => ?_⟩, fun hb => ?_⟩
        · have da : d' ≠ a := fun z => by rw [← z, upd_same] at ha; cases ha
          exact ⟨_, rfl, last rfl (((eG.trans e).trans (Ex.new (o := .xd (msgOf 4)) hd')).trans (Ex.new (o := exV a (B.cls 4) d') ha)) upd_same (by rw [upd_ne da, upd_same]) hi hres⟩
        · have h1 : 4 = 1 := by simpa using hb
          first
            | (subst h1
               refine ⟨true, W.exU, fun _ => ⟨B.cC, d', rfl, rfl, fun a ha => ?_⟩, fun h => (by cases h)⟩
               have da : d' ≠ a := fun z => by rw [← z, upd_same] at ha; cases ha
               exact ⟨_, rfl, last (i := 1) rfl (((eG.trans e).trans (Ex.new (o := .xd (msgOf 1)) hd')).trans (Ex.new (o := exV a B.cC d') ha)) upd_same (by rw [upd_ne da, upd_same]) hi hres⟩)
            | exact absurd h1 (by decide)
end
end D1
end
section
set_option Elab.async false
set_option linter.all false
set_option maxRecDepth 100000
set_option maxHeartbeats 4000000
/-! WJ: refused in order: things that are none -/
namespace D1
open PySem L2 Evl RZ ClX PySem.VX
def spRMade (C : KC) (CR : Addr) : Sp := fun vs H Q _ => ∃ (s : V) (k : RK), vs = [s] ∧ RingAt C CR H s k ∧ ∀ x H', Ex H H' → DtAt H' x (madeD k) → Q x H'
def noRing (k : RK) : List PyData := [.none, .int 0, .str "count", madeD k, .list [madeD k], .tuple [], .bool true, madeD k]
def noWeb (k : RK) (n : Nat) (D : List PyData) : List PyData := [.none, .int 5, .tuple [], .str "web", .list [.int (n : Int), .tuple D], .tuple ([PyData.int (n : Int), .tuple D].take 1), .tuple ([PyData.int (n : Int), .tuple D] ++ [.int 0]), .tuple [.int 0, .tuple []], .tuple [.int 13, .tuple []], .tuple [.int 1, .tuple [.tuple [.int 0, .int 1, oneD k]]]]
theorem noWeb_bad {k : RK} {n : Nat} {D : List PyData} : ∀ d ∈ noWeb k n D, isWebB k d = false := by
  intro d hd
  simp only [noWeb, List.mem_cons, List.not_mem_nil, or_false] at hd
  rcases hd with rfl | rfl | rfl | rfl | rfl | rfl | rfl | rfl | rfl | rfl <;> rfl
def numsL (n : Nat) : List PyData := [.int (-1), .int (n : Int), .none, .bool true, .str "0", .int ((10 : Int) ^ (20 : Int).toNat), .tuple [.int 0], .list [.int 0]]
theorem nums_bad {n : Nat} (n12 : n ≤ 12) : ∀ d ∈ numsL n, whO 0 ((n : Int) - 1) (dNum d) = false := by
  have h : ∀ i : Int, (i < 0 ∨ (n : Int) - 1 < i) → whO 0 ((n : Int) - 1) (some i) = false := fun i hi => by
    show (decide ((0 : Int) ≤ i) && decide (i ≤ (n : Int) - 1)) = false
    rcases hi with h | h
    · rw [decide_eq_false (by omega : ¬ (0 : Int) ≤ i)]
      rfl
    · rw [decide_eq_false (by omega : ¬ i ≤ (n : Int) - 1), Bool.and_false]
  intro d hd
  simp only [numsL, List.mem_cons, List.not_mem_nil, or_false] at hd
  rcases hd with rfl | rfl | rfl | rfl | rfl | rfl | rfl | rfl
  · exact h _ (by omega)
  · exact h _ (by omega)
  · rfl
  · rfl
  · rfl
  · refine h _ (.inr ?_)
    have : (100 : Int) < (10 : Int) ^ (20 : Int).toNat := by decide
    omega
  · rfl
  · rfl
def linesL (len : Nat) : List PyData := [.list [], .tuple [], .list [.int (len : Int)], .tuple [.int (-1)], .none, .str "0", .int 0, .list [.bool true]]
theorem line_bad {K : PySem.W.Frag} {S : Addr → Prop} {H : Hp} {v : V} {ss : List Step} {d : PyData} (hd : d ∈ linesL ss.length) (h : OdAt S H v d) : ∃ l : Line, PathAt K H v l ∧ (isPathB ss l = false ∨ lineLen l = 0) := by
  have no : ∀ {d : PyData}, OdAt S H v d → dTu d = false → dLs d = false → ∃ l : Line, PathAt K H v l ∧ (isPathB ss l = false ∨ lineLen l = 0) := fun {d} h h1 h2 => by
    have t := h.tells (K := K)
    rw [h1, h2] at t
    exact ⟨none, ⟨_, _, _, t⟩, .inl rfl⟩
  have one : ∀ {a : Addr} {q : Bool} {u : V} {x : PyData}, H a = some (objQ q [u]) → OdAt S H u x → numB ss.length (dNum x) = false → ∃ l : Line, PathAt K H (.ref a) l ∧ (isPathB ss l = false ∨ lineLen l = 0) := fun {a q u x} ha hu hb => ⟨some [dNum x], ⟨a, q, [u], rfl, ha, ⟨hu.num, True.intro⟩, by show 1 ≤ 1000; decide⟩, .inl (by
    show (((numB ss.length (dNum x)) && true) && _) = false
    rw [hb]
    rfl)⟩
  simp only [linesL, List.mem_cons, List.not_mem_nil, or_false] at hd
  rcases hd with rfl | rfl | rfl | rfl | rfl | rfl | rfl | rfl
  · cases h with
    | lst ha _ hr =>
      cases hr
      exact ⟨some [], ⟨_, true, [], rfl, ha, True.intro, by show 0 ≤ 1000; decide⟩, .inr rfl⟩
  · cases h with
    | tup ha hr =>
      cases hr
      exact ⟨some [], ⟨_, false, [], rfl, ha, True.intro, by show 0 ≤ 1000; decide⟩, .inr rfl⟩
  · cases h with
    | lst ha _ hr =>
      cases hr with
      | cons hu hz =>
        cases hz
        refine one (q := true) ha hu ?_
        show (decide ((0 : Int) ≤ (ss.length : Int)) && decide ((ss.length : Int) ≤ (ss.length : Int) - 1)) = false
        rw [decide_eq_false (by omega : ¬ (ss.length : Int) ≤ (ss.length : Int) - 1), Bool.and_false]
  · cases h with
    | tup ha hr =>
      cases hr with
      | cons hu hz =>
        cases hz
        exact one (q := false) ha hu rfl
  · exact no h rfl rfl
  · exact no h rfl rfl
  · exact no h rfl rfl
  · cases h with
    | lst ha _ hr =>
      cases hr with
      | cons hu hz =>
        cases hz
        exact one (q := true) ha hu rfl
/-- a web that is good -/
theorem web_good {k : RK} {n : Nat} {ss : List Step} (h : WebOk k n ss) : isWebB k (webD n ss) = true := by
  have n1 := h.n1
  have n12 := h.n12
  have l80 := h.len
  have wh : ∀ i : Nat, i < n → whO 0 ((n : Int) - 1) (some (i : Int)) = true := fun i hi => by
    show (decide ((0 : Int) ≤ (i : Int)) && decide ((i : Int) ≤ (n : Int) - 1)) = true
    rw [decide_eq_true (by omega : (0 : Int) ≤ (i : Int)), decide_eq_true (by omega : (i : Int) ≤ (n : Int) - 1)]
    rfl
  have hs : (ss.map stepD).all (isStepB k (n : Int)) = true := by
    rw [List.all_eq_true]
    intro d hd
    obtain ⟨s, hs, rfl⟩ := List.mem_map.mp hd
    obtain ⟨h1, h2, h3⟩ := h.at_ s hs
    show (whO 0 ((n : Int) - 1) (some (s.1 : Int)) && (whO 0 ((n : Int) - 1) (some (s.2.1 : Int)) && goodB k s.2.2)) = true
    rw [wh _ h1, wh _ h2, h3]
    rfl
  show (whO 1 12 (some (n : Int)) && (true && (decide ((ss.map stepD).length ≤ 80) && (ss.map stepD).all (isStepB k (n : Int))))) = true
  rw [hs, decide_eq_true (by rw [List.length_map]; omega : (ss.map stepD).length ≤ 80)]
  show (decide ((1 : Int) ≤ (n : Int)) && decide ((n : Int) ≤ 12) && (true && (true && true))) = true
  rw [decide_eq_true (by omega : (1 : Int) ≤ (n : Int)), decide_eq_true (by omega : (n : Int) ≤ 12)]
  rfl
/-- words told, to be compared -/
theorem word_dp {K : PySem.W.Frag} {S : Addr → Prop} {H : Hp} {v : V} {i : Nat} (h : OdAt S H v (wordD i)) : Dp K H v (wordD i) := by
  unfold wordD at h ⊢
  obtain ⟨a, u, x, y, rfl, ha, h1, h2, h3⟩ := h.three
  obtain rfl := h1.str_inv
  cases h2 with
  | lst hb _ hr =>
    cases hr with
    | cons h4 h5 =>
      cases h5
      obtain rfl := h4.str_inv
      refine .tup (.inl (.inl ha)) (.cons (.str _) (.cons (Dp.exD hb (.cons (.str _) .nil)) (.cons ?_ .nil)))
      by_cases h0 : i = 0
      · rw [if_pos h0] at h3 ⊢
        obtain rfl := h3.str_inv
        exact .str _
      · rw [if_neg h0] at h3 ⊢
        obtain rfl := h3.non_inv
        exact .non
section
variable {K : PySem.W.Frag} {σ : L2.St} {H H0 : Hp} {te : TE} {ds : List PyData}
/-- x = [..][draw(N)] -/
theorem q_pick {m pc pg : Addr} {cs : List Int} {i0 j N i : Nat} {z : TS} {D : Ends} (hD0 : DS m pc pg cs i0 H0) (hD : DS m pc pg cs j H) (hj : j ≤ 100000) (h : EvO (fun p => H0 p = none) te σ H (.list ds)) (hN : ds.length = N) (n0 : 0 < N) (n1 : N < 1000) (hm : σ[0]? = some (some (.ref m)))
    (k : ∀ v d G, RD m pc pg cs (j + 1) H G → d ∈ ds → OdAt (fun p => H0 p = none) G v d → z D (σ.set i (some v)) G) : tSeq (tAsg (tOp (rIxL K) te (tCall spNext [] E0 (tCons (tVar 0) (tCons (tC (.int (N : Int))) tNil)))) (gName i)) z D σ H := by
  refine asg_step (h H (Ex.refl H) _ fun v H1 e1 hv => ?_)
  have hD1 := RD.ofEx hD e1
  refine ⟨_, hm, m, pc, pg, cs, j, (N : Int), rfl, hD1.inv, hj, by omega, small_log (by omega), fun x' G x0 x1 r => ?_⟩
  obtain ⟨x, rfl⟩ : ∃ y : Nat, x' = (y : Int) := ⟨x'.toNat, by omega⟩
  have hv := hv.mv (r.kps hD0 hD1.inv)
  have hx : x < ds.length := by omega
  have hxe : ds[x]? = some ds[x] := List.getElem?_eq_getElem hx
  cases hv with
  | lst hA _ hr =>
    obtain ⟨w, h1, h2⟩ := od_at hr hxe
    exact ⟨_, _, (x : Int), w, rfl, rfl, sq_of hA, h1, k w _ G (hD1.then r) (List.getElem_mem hx) h2⟩
end
section
variable {P : Program} {w : World} {K : PySem.W.Frag} {mg : Str → Option Value} {base : Heap}
abbrev s_Ring_made : Stmt := meth 49 2
theorem sc_Ring_made : FnScope ["self"] ["self"] (defScope s_Ring_made) := ⟨rfl, rfl, rfl, by decide +kernel, rfl, by decide +kernel, by decide +kernel⟩
theorem ok_Ring_made {f : Addr} {fd : FuncData} (F : FnM K "Ring" "made" s_Ring_made f fd) {C : KC} {CR : Addr} (T : RingF K CR) : FnOk P w K mg base (CX0) 1 f fd ["self"] (spRMade C CR) := by
  refine F.ok (CX := CX0) sc_Ring_made (fun vs H Q E h => ?_) (fun cdv A outer s H vs Q E hr h => ?_)
  · obtain ⟨s, k, rfl, _⟩ := h
    rfl
  · obtain ⟨s, k, rfl, hR, q⟩ := h
    have hu := hu_of hr
    have hu64 := hr.units
    refine ⟨_, PSs.nox (pss_one (ps_ret (pe_fld (pv 0) rfl))), ?_⟩
    obtain ⟨r, dr, fr, m, x, rfl, h2, h3, h4, h5, h6, h7⟩ := hR
    exact s_ret (ev_fldK (ev_var rfl) h2 T.ok (by decide) h3) fun H1 e1 => q m H1 e1 (h4.ex e1)
end
end D1
end
section
set_option Elab.async false
set_option linter.all false
set_option maxRecDepth 100000
set_option maxHeartbeats 4000000
/-! WK: lists of words, grown -/
namespace D1
open PySem L2 Evl RZ ClX PySem.VX
mutual
theorem OdAt.live' {S : Addr → Prop} {H : Hp} : ∀ (d : PyData) (v : V), OdAt S H v d → OdAt (fun p => S p ∧ H p ≠ none) H v d
  | .tuple ds, _, h => by
    cases h with
    | tup h r => exact .tup h (OdAll.live' ds _ r)
  | .list ds, _, h => by
    cases h with
    | lst h s r => exact .lst h ⟨s, by rw [h]; exact fun z => by cases z⟩ (OdAll.live' ds _ r)
  | .none, _, h => by
    cases h
    exact .non
  | .bool _, _, h => by
    cases h
    exact .bl _
  | .int _, _, h => by
    cases h
    exact .int _
  | .str _, _, h => by
    cases h
    exact .str _
  | .dict _, _, h => by
    cases h with
    | dic h s => exact .dic h ⟨s, by rw [h]; exact fun z => by cases z⟩
theorem OdAll.live' {S : Addr → Prop} {H : Hp} : ∀ (ds : List PyData) (us : List V), OdAll S H us ds → OdAll (fun p => S p ∧ H p ≠ none) H us ds
  | [], _, h => by
    cases h
    exact .nil
  | d :: ds, _, h => by
    cases h with
    | cons h r => exact .cons (OdAt.live' d _ h) (OdAll.live' ds _ r)
end
/-- what lies is elsewhere than what is new -/
theorem OdAll.off {S : Addr → Prop} {H : Hp} {us : List V} {ds : List PyData} (h : OdAll S H us ds) {p : Addr} (hp : H p = none) : OdAll (fun a => S a ∧ a ≠ p) H us ds := (OdAll.live' ds us h).to fun a ha => ⟨ha.1, fun z => ha.2 (by rw [z]; exact hp)⟩
section
variable {K : PySem.W.Frag} {S : Addr → Prop} {σ : L2.St} {H : Hp} {te ta tb : TE} {t : TA} {ds es : List PyData} {Q : VK}
/-- a new list -/
def NewL (S : Addr → Prop) (te : TE) (σ : L2.St) (H : Hp) (ds : List PyData) : Prop := ∀ Q : VK, (∀ T xs H', Ex H H' → H T = none → H' T = some (.lst xs) → OdAll (fun a => S a ∧ a ≠ T) H' xs ds → Q (.ref T) H') → te σ H Q
theorem newL_lst (h : EvOA S t σ H ds) (hl : ds.length ≤ 100000) : NewL S (tLst t) σ H ds := fun Q q => h H (Ex.refl H) _ fun vs H2 e2 hv => ⟨by
  have h1 : (100000 : Nat) ≤ sizeLine := by decide
  have h2 := hv.len
  omega, fun p hp => q p vs _ (e2.trans (Ex.new hp)) (fresh_back e2 hp) upd_same ((hv.off hp).exO (Ex.new hp))⟩
/-- x + [..], x a list -/
theorem newL_cat {i : Nat} {A : Addr} {xs : List V} (hi : σ[i]? = some (some (.ref A))) (hA : H A = some (.lst xs)) (hx : OdAll S H xs ds) (h : EvOA S t σ H es) (hl : ds.length + es.length ≤ 100000) : NewL S (tOp rCat (tVar i) (tLst t)) σ H (ds ++ es) := fun Q q => ⟨_, hi, h H (Ex.refl H) _ fun vs H2 e2 hv => ⟨by
  have h1 : (100000 : Nat) ≤ sizeLine := by decide
  have h2 := hv.len
  omega, fun p hp => by
    have h1 : (100000 : Nat) ≤ sizeLine := by decide
    have l1 := hx.len
    have l2 := hv.len
    have e3 := Ex.new (o := .lst vs) hp
    refine ⟨A, p, xs, vs, rfl, rfl, (e2.trans e3) _ _ hA, upd_same, by omega, fun U hU => ?_⟩
    have e4 := Ex.new (o := .lst (xs ++ vs)) hU
    have ha := ((hx.exO (e2.trans e3)).app (hv.exO e3)).off hU
    exact q U _ _ ((e2.trans e3).trans e4) (fresh_back (e2.trans e3) hU) upd_same (ha.exO e4)⟩⟩
theorem q_new {i : Nat} {z : TS} {D : Ends} (h : NewL S te σ H ds) (k : ∀ T xs H', Ex H H' → H T = none → H' T = some (.lst xs) → OdAll (fun a => S a ∧ a ≠ T) H' xs ds → z D (σ.set i (some (.ref T))) H') : tSeq (tAsg te (gName i)) z D σ H := asg_step (h _ k)
/-- [x] * 2 + [..] -/
theorem newL_rep2 {d : PyData} {t2 : TA} (h : EvOA S t σ H [d]) (h2 : EvOA S t2 σ H es) (hl : es.length ≤ 1000) : NewL S (tOp rCat (tOp rRep (tLst t) (tC (.int 2))) (tLst t2)) σ H ([d, d] ++ es) := fun Q q => h H (Ex.refl H) _ fun vs H2 e2 hv => by
  have h1 : (100000 : Nat) ≤ sizeLine := by decide
  cases hv with
  | cons hd hz =>
    cases hz
    rename_i u
    refine ⟨by show 1 ≤ sizeLine; omega, fun p hp => ?_⟩
    have e3 := Ex.new (o := .lst [u]) hp
    refine ⟨p, 2, [u], rfl, rfl, upd_same, by decide, by decide, by show 1 * 2 ≤ sizeLine; omega, fun p2 hp2 => ?_⟩
    have e4 := Ex.new (o := .lst (List.replicate (2 : Int).toNat [u]).flatten) hp2
    have e24 := (e2.trans e3).trans e4
    refine h2 _ e24 _ fun ws H3 e5 hw => ⟨by
      have := hw.len
      omega, fun p3 hp3 => ?_⟩
    have e6 := Ex.new (o := .lst ws) hp3
    have l2 := hw.len
    refine ⟨p2, p3, _, ws, rfl, rfl, (e5.trans e6) _ _ upd_same, upd_same, by show 2 + ws.length ≤ sizeLine; omega, fun U hU => ?_⟩
    have e7 := Ex.new (o := .lst ((List.replicate (2 : Int).toNat [u]).flatten ++ ws)) hU
    have eA := ((e24.trans e5).trans e6)
    have hd3 := hd.ex ((e3.trans e4).trans (e5.trans e6))
    have ha : OdAll S _ ([u, u] ++ ws) ([d, d] ++ es) := (OdAll.cons hd3 (.cons hd3 .nil)).app (hw.exO e6)
    exact q U _ _ (eA.trans e7) (fresh_back eA hU) upd_same ((ha.off hU).exO e7)
end
end D1
end
section
set_option Elab.async false
set_option linter.all false
set_option maxRecDepth 100000
set_option maxHeartbeats 4000000
/-! WL: refused in order -/
namespace D1
open PySem L2 Evl RZ ClX PySem.VX
theorem kps_upd {S : Addr → Prop} {G : Hp} {T : Addr} {xs : List V} {ob : HO} (hT : G T = some (.lst xs)) : KpS (fun a => S a ∧ a ≠ T) G (upd G T ob) := fun a u h ha => by
  have : a ≠ T := by
    rcases h with h | h
    · exact h.2
    · intro z
      rw [z, hT] at ha
      cases ha
      cases h
  rw [upd_ne this]
  exact ha
theorem words_dp {K : PySem.W.Frag} {S : Addr → Prop} {H : Hp} : ∀ {us : List V} {is : List Nat}, OdAll S H us (is.map wordD) → DpAll K H us (is.map wordD)
  | _, [], h => by
    cases h
    exact .nil
  | _, i :: is, h => by
    cases h with
    | cons h r => exact .cons (word_dp h) (words_dp r)
def spInOrder : Sp := fun vs H Q _ => ∃ (m pc pg : Addr) (cs : List Int) (j : Nat) (mv wv : V) (k : RK) (n : Nat) (ss : List Step) (which : Int), vs = [.ref m, mv, wv, .int which] ∧ DS m pc pg cs j H ∧ j + 20 ≤ 100000 ∧ DtAt H mv (madeD k) ∧ k.depth < 3 ∧ k.ok ∧ k.clsd = true ∧ DtAt H wv (webD n ss) ∧ WebOk k n ss ∧ 0 ≤ which ∧ which ≤ 8 ∧ ∀ H', RD m pc pg cs (j + 20) H H' → Q (.bl true) H'
theorem Case.ex {K : PySem.W.Frag} {H H' : Hp} (e : Ex H H') {which : Int} {o : Option RK} {v t : V} {d dt du : PyData} {i : Nat} (h : Case K H which o v t d dt du i) : Case K H' which o v t d dt du i := by
  rcases h with h | h | ⟨h1, h2, n, ss, l, h3, h4, h5, h6, h7⟩
  · exact .inl h
  · exact .inr (.inl h)
  · exact .inr (.inr ⟨h1, h2, n, ss, l, h3, h4, h5.ex e, h6.up e, h7⟩)
section
variable {P : Program} {w : World} {K : PySem.W.Frag} {mg : Str → Option Value} {base : Heap}
abbrev s_in_order : Stmt := top 131
theorem sc_in_order : FnScope ["_law_draw_here", "_law_made", "_law_net", "_law_which", "_law_base", "_law_shut", "_law_no_ring", "_law_no_web", "_law_bad", "_law_many", "_law_numbers", "_law_lines", "_law_odd", "_law_told_here", "_law_due"] ["_law_draw_here", "_law_made", "_law_net", "_law_which"] (defScope s_in_order) := ⟨rfl, rfl, rfl, by decide +kernel, rfl, by decide +kernel, by decide +kernel⟩
theorem ok_in_order {f : Addr} {fd : FuncData} (F : FnP K "_law_in_order" s_in_order f fd) {C : KC} {CR : Addr} (T : RingF K CR) {f_next : Addr} {fd_next : FuncData} (F_next : FnP K "_law_next" s_next f_next fd_next) (g_next : mg "_law_next" = some (.ref f_next)) (G_next : FnOk P w K mg base (CX0) 2 f_next fd_next ["_law_draw_here", "_law_many"] (spNext)) {f_one : Addr} {fd_one : FuncData} (F_one : FnP K "_law_one" s_one f_one fd_one) (g_one : mg "_law_one" = some (.ref f_one)) (G_one : FnOk P w K mg base (CX0) 4 f_one fd_one ["_law_made"] (spLOne 3)) {f_ring_of : Addr} {fd_ring_of : FuncData} (F_ring_of : FnP K "ring_of" s_ring_of f_ring_of fd_ring_of) (g_ring_of : mg "ring_of" = some (.ref f_ring_of)) (G_ring_of : FnOk P w K mg base (CX0) 13 f_ring_of fd_ring_of ["made"] (spRingOf C CR)) {f_open : Addr} {fd_open : FuncData} (F_open : FnP K "_law_open" s_open f_open fd_open) (g_open : mg "_law_open" = some (.ref f_open)) (G_open : FnOk P w K mg base (CX0) 3 f_open fd_open ["_law_draw_here", "_law_made"] (spOpen)) {f_told : Addr} {fd_told : FuncData} (F_told : FnP K "_law_told" s_told f_told fd_told) (g_told : mg "_law_told" = some (.ref f_told)) (G_told : FnOk P w K mg base (CX0) 12 f_told fd_told ["_law_which", "_law_base", "_law_net", "_law_odd", "_law_good_here"] (spTold K C CR)) {f_made : Addr} {fd_made : FuncData} (m_made : Meth K CR "made" f_made) (b_made : Binds K fd_made ["self"] []) (G_made : FnOk P w K mg base CX0 1 f_made fd_made ["self"] (spRMade C CR)) (z_list : mg "list" = none) (z_len : mg "len" = none) : FnOk P w K mg base (CX0) 14 f fd ["_law_draw_here", "_law_made", "_law_net", "_law_which"] (spInOrder) := by
  have b_next : Binds K fd_next ["_law_draw_here", "_law_many"] [] := F_next.bindsN fun _ _ _ _ _ _ us hl => match us, hl with | [_, _], _ => rfl
  have b_one : Binds K fd_one ["_law_made"] [] := F_one.bindsN fun _ _ _ _ _ _ us hl => match us, hl with | [_], _ => rfl
  have b_ring_of : Binds K fd_ring_of ["made"] [] := F_ring_of.bindsN fun _ _ _ _ _ _ us hl => match us, hl with | [_], _ => rfl
  have b_open : Binds K fd_open ["_law_draw_here", "_law_made"] [] := F_open.bindsN fun _ _ _ _ _ _ us hl => match us, hl with | [_, _], _ => rfl
  have b_told : Binds K fd_told ["_law_which", "_law_base", "_law_net", "_law_odd", "_law_good_here"] [] := F_told.bindsN fun _ _ _ _ _ _ us hl => match us, hl with | [_, _, _, _, _], _ => rfl
  refine F.ok (CX := CX0) sc_in_order (fun vs H Q E h => ?_) (fun cdv A outer s H vs Q E hr h => ?_)
  · obtain ⟨m, pc, pg, cs, j, mv, wv, k, n, ss, which, rfl, _⟩ := h
    rfl
  · obtain ⟨m, pc, pg, cs, j, mv, wv, k, n, ss, which, rfl, hD, hj, hM, hk3, hok', hc, hW, hok, w0, w8, q⟩ := h
    have hu := hu_of hr
    have hu64 := hr.units
    have hr_next := hr.mono (by decide : 2 ≤ 13)
    have hr_one := hr.mono (by decide : 4 ≤ 13)
    have hr_ring_of := hr.mono (by decide : 13 ≤ 13)
    have hr_open := hr.mono (by decide : 3 ≤ 13)
    have hr_told := hr.mono (by decide : 12 ≤ 13)
    have hr_made := hr.mono (by decide : 1 ≤ 13)
    refine ⟨_, PSs.nox (pss_cons (ps_par (i := 4) (j := 5) (by rfl) sc_in_order.nd rfl rfl (by decide) rfl rfl (pa_cons (pe_call G_ring_of hr_ring_of rfl g_ring_of F_ring_of.kp b_ring_of .nil pass0 (pa_cons (pv 1) pa_nil)) (pa_cons (pe_call G_ring_of hr_ring_of rfl g_ring_of F_ring_of.kp b_ring_of .nil pass0 (pa_cons (pe_call G_open hr_open rfl g_open F_open.kp b_open .nil pass0 (pa_cons (pv 0) (pa_cons (pv 1) pa_nil))) pa_nil)) pa_nil)) (by rfl))
      (pss_cons (ps_set (i := 6) sc_in_order.nd rfl (Or.inl rfl) (pe_ix ix_list (pe_lst (pa_cons pe_non (pa_cons pe_int (pa_cons pe_str (pa_cons (pv 1) (pa_cons (pe_lst (pa_cons (pv 1) pa_nil)) (pa_cons (pe_tup pa_nil) (pa_cons pe_bl (pa_cons (pe_meth0 (C := CR) (pv 4) T.ok.cls m_made G_made hr_made b_made .nil pass0) pa_nil))))))))) (pe_call G_next hr_next rfl g_next F_next.kp b_next .nil pass0 (pa_cons (pv 0) (pa_cons pe_int pa_nil))) (fun _ _ => rfl)))
      (pss_cons (ps_set (i := 7) sc_in_order.nd rfl (Or.inl rfl) (pe_lst (pa_cons pe_non (pa_cons pe_int (pa_cons (pe_tup pa_nil) (pa_cons pe_str (pa_cons (pe_callTy call_list_of (by rfl) z_list PyProof.Rows.boot_list (pa_cons (pv 2) pa_nil)) (pa_cons (pe_slice sl_tupA (pv 2) po_none (po_some pe_int)) (pa_cons (pe_op op_catA (pv 2) (pe_tup (pa_cons pe_int pa_nil))) (pa_cons (pe_tup (pa_cons pe_int (pa_cons (pe_tup pa_nil) pa_nil))) (pa_cons (pe_tup (pa_cons pe_int (pa_cons (pe_tup pa_nil) pa_nil))) (pa_cons (pe_tup (pa_cons pe_int (pa_cons (pe_tup (pa_cons (pe_tup (pa_cons pe_int (pa_cons pe_int (pa_cons (pe_call G_one hr_one rfl g_one F_one.kp b_one .nil pass0 (pa_cons (pv 1) pa_nil)) pa_nil)))) pa_nil)) pa_nil))) pa_nil))))))))))))
      (pss_cons (ps_set (i := 8) sc_in_order.nd rfl (Or.inl rfl) (pe_ix ix_list (pv 7) (pe_call G_next hr_next rfl g_next F_next.kp b_next .nil pass0 (pa_cons (pv 0) (pa_cons pe_int pa_nil))) (fun _ _ => rfl)))
      (pss_cons (ps_set (i := 9) sc_in_order.nd rfl (Or.inl rfl) (pe_callB call_len_seq (by rfl) z_len PySem.boot_len (pa_cons (pe_ix ix_tup (pv 2) pe_int (fun _ _ => rfl)) pa_nil)))
      (pss_cons (ps_set (i := 10) sc_in_order.nd rfl (Or.inl rfl) (pe_lst (pa_cons (pe_un un_neg pe_int) (pa_cons (pe_ix ix_tup (pv 2) pe_int (fun _ _ => rfl)) (pa_cons pe_non (pa_cons pe_bl (pa_cons pe_str (pa_cons (pe_op op_pow pe_int pe_int) (pa_cons (pe_tup (pa_cons pe_int pa_nil)) (pa_cons (pe_lst (pa_cons pe_int pa_nil)) pa_nil))))))))))
      (pss_cons (ps_set (i := 11) sc_in_order.nd rfl (Or.inl rfl) (pe_lst (pa_cons (pe_lst pa_nil) (pa_cons (pe_tup pa_nil) (pa_cons (pe_lst (pa_cons (pv 9) pa_nil)) (pa_cons (pe_tup (pa_cons (pe_un un_neg pe_int) pa_nil)) (pa_cons pe_non (pa_cons pe_str (pa_cons pe_int (pa_cons (pe_lst (pa_cons pe_bl pa_nil)) pa_nil))))))))))
      (pss_cons (ps_set (i := 12) sc_in_order.nd rfl (Or.inl rfl) (pe_ix ix_list (pe_ifExp (pt_cmpR op_eq (pv 3) pe_int (nomark _)) (pv 11) (pv 10)) (pe_call G_next hr_next rfl g_next F_next.kp b_next .nil pass0 (pa_cons (pv 0) (pa_cons pe_int pa_nil))) (fun _ _ => rfl)))
      (pss_cons (ps_set (i := 13) sc_in_order.nd rfl (Or.inl rfl) (pe_lst (pa_cons (pe_call G_told hr_told rfl g_told F_told.kp b_told .nil pass0 (pa_cons (pv 3) (pa_cons (pv 6) (pa_cons (pv 8) (pa_cons (pv 12) (pa_cons pe_int pa_nil)))))) (pa_cons (pe_call G_told hr_told rfl g_told F_told.kp b_told .nil pass0 (pa_cons (pv 3) (pa_cons (pv 6) (pa_cons (pv 2) (pa_cons pe_int (pa_cons pe_int pa_nil)))))) pa_nil))))
      (pss_cons (ps_set (i := 13) sc_in_order.nd rfl (Or.inl rfl) (pe_op op_cat (pv 13) (pe_lst (pa_cons (pe_call G_told hr_told rfl g_told F_told.kp b_told .nil pass0 (pa_cons (pv 3) (pa_cons (pv 5) (pa_cons (pv 8) (pa_cons (pv 12) (pa_cons pe_int pa_nil)))))) (pa_cons (pe_call G_told hr_told rfl g_told F_told.kp b_told .nil pass0 (pa_cons (pv 3) (pa_cons (pv 4) (pa_cons (pv 8) (pa_cons (pv 12) (pa_cons pe_int pa_nil)))))) pa_nil)))))
      (pss_cons (ps_set (i := 14) sc_in_order.nd rfl (Or.inl rfl) (pe_op op_cat (pe_op op_rep (pe_lst (pa_cons (pe_tup (pa_cons pe_str (pa_cons (pe_lst (pa_cons pe_str pa_nil)) (pa_cons pe_str pa_nil)))) pa_nil)) pe_int) (pe_lst (pa_cons (pe_tup (pa_cons pe_str (pa_cons (pe_lst (pa_cons pe_str pa_nil)) (pa_cons pe_non pa_nil)))) (pa_cons (pe_tup (pa_cons pe_str (pa_cons (pe_lst (pa_cons pe_str pa_nil)) (pa_cons pe_non pa_nil)))) pa_nil)))))
      (pss_cons (ps_if (pt_cmpR op_gt (pv 3) pe_int (nomark _)) (pss_cons (ps_expr (pe_bm PySem.F.plainAttrs_list PySem.F.slot_list_append PySem.F.type_list_append mt_append (pv 13) (pa_cons (pe_call G_told hr_told rfl g_told F_told.kp b_told .nil pass0 (pa_cons (pv 3) (pa_cons (pv 4) (pa_cons (pv 2) (pa_cons (pv 12) (pa_cons pe_int pa_nil)))))) pa_nil)))
      (pss_one (ps_expr (pe_bm PySem.F.plainAttrs_list PySem.F.slot_list_append PySem.F.type_list_append mt_append (pv 14) (pa_cons (pe_tup (pa_cons pe_str (pa_cons (pe_lst (pa_cons (pe_ifExp (pt_cmpR op_eq (pv 3) pe_int (nomark _)) pe_str pe_str) pa_nil)) (pa_cons pe_non pa_nil)))) pa_nil))))) pss_nil)
      (pss_one (ps_ret (pe_cmpR (op_eqD hu64) (pv 13) (pv 14) (nomark _)))))))))))))))), ?_⟩
    obtain ⟨a, p1, us, rfl, ha, hp1, hus, hlen⟩ := web_at hW
    have n1 := hok.n1
    have n12 := hok.n12
    have l80 := hok.len
    obtain ⟨D, hDd⟩ : ∃ D : List PyData, D = ss.map stepD := ⟨_, rfl⟩
    have hgood := web_good hok
    have hwd : webD n ss = .tuple [.int (n : Int), .tuple D] := by rw [hDd]; rfl
    refine par_step ⟨_, rfl, mv, k, rfl, hM, hok', by omega, fun rb H1 e1 hRb => ⟨_, rfl, _, rfl, m, pc, pg, cs, j, mv, k, rfl, (RD.ofEx hD e1).inv, by omega, hM.ex e1, by omega, hok', fun vo ko H2 r2 hvo oko dko cko => ⟨vo, ko, rfl, hvo, oko, dko, fun rs H3 e3 hRs => ⟨_, _, rfl, ?_⟩⟩⟩⟩
    have r02 : RD m pc pg cs (j + 10) H H2 := (RD.ofEx hD e1).then r2
    have r03 : RD m pc pg cs (j + 10) H H3 := r02.then (.ofEx r02.inv e3)
    have hRb3 : RingAt C CR H3 rb k := (hRb.kp (r2.kp (RD.ofEx hD e1).inv)).ex e3
    have kp3 : Kp H H3 := r03.kp hD
    have hS3 : ∀ p, H3 p = none → H p = none := fun p hp => r03.bak hD hp
    have hm3 : OdAt (fun p => H p = none) H3 mv (madeD k) := (hM.kp kp3).od
    have made3 : ∀ {s6 s7 s8 s9 s10 s11 s12 s13 s14 : Option V}, EvO (fun p => H p = none) (tMeth CR "made" (spRMade C CR) [] E0 (tVar 4) tNil) [some (.ref m), some mv, some (.ref a), some (.int which), some rb, some rs, s6, s7, s8, s9, s10, s11, s12, s13, s14] H3 (madeD k) := fun {s6 s7 s8 s9 s10 s11 s12 s13 s14} G e Q' q' => by
      obtain ⟨r', dr, fr, hr', hr2, hn⟩ := (hRb3.ex e).no (m := ("made" : Str)) (by decide)
      exact ⟨_, rfl, r', dr, fr, hr', hr2, hn, rb, k, by rw [hr']; rfl, hRb3.ex e, fun x G2 e2 hx => q' x G2 e2 hx.od⟩
    refine q_pick (ds := noRing k) hD r03.inv (by omega) ((evo_lst hS3 (eoa_cons (evo_ev ev_c .non) (eoa_cons (evo_ev ev_c (.int _)) (eoa_cons (evo_ev ev_c (.str _)) (eoa_cons (evo_ev (ev_var rfl) hm3) (eoa_cons (evo_lst hS3 (eoa_cons (evo_ev (ev_var rfl) hm3) eoa_nil) (by show 1 ≤ 100000; decide)) (eoa_cons (evo_tup eoa_nil (by decide)) (eoa_cons (evo_ev ev_c (.bl true)) (eoa_cons made3 eoa_nil)))))))) (by show 8 ≤ 100000; decide))) rfl (by decide) (by decide) rfl fun v6 d6 G1 r4 hd6 hv6 => ?_
    change tSeq _ _ _ [some (.ref m), some mv, some (.ref a), some (.int which), some rb, some rs, some v6, none, none, none, none, none, none, none, none] G1
    have r01 : RD m pc pg cs (j + 11) H G1 := r03.then r4
    have kp1 : Kp H G1 := r01.kp hD
    have hS1 : ∀ p, G1 p = none → H p = none := fun p hp => r01.bak hD hp
    have haO : OdAt (fun p => H p = none) G1 (.ref a) (.tuple [.int (n : Int), .tuple D]) := by rw [← hwd]; exact (hW.kp kp1).od
    have wE : ∀ {s7 s8 s9 s10 s11 s12 s13 s14 : Option V}, EvO (fun p => H p = none) (tVar 2) [some (.ref m), some mv, some (.ref a), some (.int which), some rb, some rs, some v6, s7, s8, s9, s10, s11, s12, s13, s14] G1 (.tuple [.int (n : Int), .tuple D]) := fun {s7 s8 s9 s10 s11 s12 s13 s14} => evo_ev (ev_var rfl) haO
    have oneE : ∀ {s7 s8 s9 s10 s11 s12 s13 s14 : Option V}, EvO (fun p => H p = none) (tCall (spLOne 3) [] E0 (tCons (tVar 1) tNil)) [some (.ref m), some mv, some (.ref a), some (.int which), some rb, some rs, some v6, s7, s8, s9, s10, s11, s12, s13, s14] G1 (oneD k) := fun {s7 s8 s9 s10 s11 s12 s13 s14} G e Q' q' => ⟨_, rfl, mv, k, rfl, (hM.kp kp1).ex e, hk3, hok', hc, fun x G' e' hx => q' x G' e' hx.od⟩
    refine q_asgO (d := .list (noWeb k n D)) ((evo_lst hS1 (eoa_cons (evo_ev ev_c .non) (eoa_cons (evo_ev ev_c (.int _)) (eoa_cons (evo_tup eoa_nil (by decide)) (eoa_cons (evo_ev ev_c (.str _)) (eoa_cons (evo_listOf hS1 wE) (eoa_cons (evo_take (n := 1) wE ev_c) (eoa_cons (evo_cat wE (evo_tup (eoa_cons (evo_ev ev_c (.int _)) eoa_nil) (by show 1 ≤ 100000; decide)) (by show 2 + 1 ≤ 100000; decide)) (eoa_cons (evo_tup (eoa_cons (evo_ev ev_c (.int _)) (eoa_cons (evo_tup eoa_nil (by decide)) eoa_nil)) (by show 2 ≤ 100000; decide)) (eoa_cons (evo_tup (eoa_cons (evo_ev ev_c (.int _)) (eoa_cons (evo_tup eoa_nil (by decide)) eoa_nil)) (by show 2 ≤ 100000; decide)) (eoa_cons (evo_tup (eoa_cons (evo_ev ev_c (.int _)) (eoa_cons (evo_tup (eoa_cons (evo_tup (eoa_cons (evo_ev ev_c (.int _)) (eoa_cons (evo_ev ev_c (.int _)) (eoa_cons oneE eoa_nil))) (by show 3 ≤ 100000; decide)) eoa_nil) (by show 1 ≤ 100000; decide)) eoa_nil)) (by show 2 ≤ 100000; decide)) eoa_nil)))))))))) (by show 10 ≤ 100000; decide))) fun v7 G2 f2 h7 => ?_
    refine q_pick (ds := noWeb k n D) hD (RD.ofEx r01.inv f2).inv (by omega) (evo_ev (ev_var rfl) h7) rfl (by decide) (by decide) rfl fun v8 d8 G3 r5 hd8 hv8 => ?_
    have r02' := r01.then (.ofEx r01.inv f2)
    have r03' : RD m pc pg cs (j + 12) H G3 := r02'.then r5
    have hv63 := (hv6.ex f2).mv (r5.kps hD r02'.inv)
    have kp33 : Kp H G3 := r03'.kp hD
    have hS33 : ∀ p, G3 p = none → H p = none := fun p hp => r03'.bak hD hp
    change tSeq _ _ _ [some (.ref m), some mv, some (.ref a), some (.int which), some rb, some rs, some v6, some v7, some v8, none, none, none, none, none, none] G3
    refine q_asg (v := .int (ss.length : Int)) (ev_is (ev_lenT (ev_op (ev_var rfl) ev_c (rv_ixT (st_of (kp33.tup ha)) (v := .ref p1) rfl)) (st_of (kp33.tup hp1))) (by rw [hlen])) fun G4 f4 => ?_
    have hS4 : ∀ p, G4 p = none → H p = none := fun p hp => hS33 p (fresh_back f4 hp)
    refine q_asgO (d := .list (numsL n)) ((evo_lst hS4 (eoa_cons (evo_ev (ev_un ev_c rv_neg) (.int _)) (eoa_cons (evo_ev (ev_op (ev_var rfl) ev_c (rv_ixT (st_of (f4 _ _ (kp33.tup ha))) (v := .int (n : Int)) rfl)) (.int _)) (eoa_cons (evo_ev ev_c .non) (eoa_cons (evo_ev ev_c (.bl true)) (eoa_cons (evo_ev ev_c (.str _)) (eoa_cons (evo_ev (ev_op ev_c ev_c (rv_I ⟨by decide, by decide, by decide⟩)) (.int _)) (eoa_cons (evo_tup (eoa_cons (evo_ev ev_c (.int _)) eoa_nil) (by show 1 ≤ 100000; decide)) (eoa_cons (evo_lst hS4 (eoa_cons (evo_ev ev_c (.int _)) eoa_nil) (by show 1 ≤ 100000; decide)) eoa_nil)))))))) (by show 8 ≤ 100000; decide))) fun v10 G5 f5 h10 => ?_
    have hS5 : ∀ p, G5 p = none → H p = none := fun p hp => hS4 p (fresh_back f5 hp)
    refine q_asgO (d := .list (linesL ss.length)) ((evo_lst hS5 (eoa_cons (evo_lst hS5 eoa_nil (by decide)) (eoa_cons (evo_tup eoa_nil (by decide)) (eoa_cons (evo_lst hS5 (eoa_cons (evo_ev (ev_var rfl) (.int _)) eoa_nil) (by show 1 ≤ 100000; decide)) (eoa_cons (evo_tup (eoa_cons (evo_ev (ev_un ev_c rv_neg) (.int _)) eoa_nil) (by show 1 ≤ 100000; decide)) (eoa_cons (evo_ev ev_c .non) (eoa_cons (evo_ev ev_c (.str _)) (eoa_cons (evo_ev ev_c (.int _)) (eoa_cons (evo_lst hS5 (eoa_cons (evo_ev ev_c (.bl true)) eoa_nil) (by show 1 ≤ 100000; decide)) eoa_nil)))))))) (by show 8 ≤ 100000; decide))) fun v11 G6 f6 h11 => ?_
    have f36 := (f4.trans f5).trans f6
    have r06 : RD m pc pg cs (j + 12) H G6 := r03'.then (.ofEx r03'.inv f36)
    have hv66 := hv63.ex f36
    have hv86 := hv8.ex f36
    have hbad : isWebB k d8 = false := noWeb_bad _ hd8
    have hverd : verd (some k) (webD n ss) = none := by
      show (if k.clsd = true then (if isWebB k (webD n ss) = true then none else some 2) else some 1) = none
      rw [if_pos hc, if_pos hgood]
    change tSeq _ _ _ [some (.ref m), some mv, some (.ref a), some (.int which), some rb, some rs, some v6, some v7, some v8, some (.int (ss.length : Int)), some v10, some v11, none, none, none] G6
    refine q_pick (ds := if which = 8 then linesL ss.length else numsL n) (N := 8) hD r06.inv (by omega) (by
      by_cases h8 : which = 8
      · rw [if_pos h8]
        exact evo_ev (ev_if (b := true) (et_is (et_test (ev_eqI (ev_var rfl) ev_c)) (by rw [h8]; rfl)) (fun _ => ev_var rfl) (fun hb => (by cases hb))) h11
      · rw [if_neg h8]
        exact evo_ev (ev_if (b := false) (et_is (et_test (ev_eqI (ev_var rfl) ev_c)) (beq_eq_false_iff_ne.mpr h8)) (fun hb => (by cases hb)) (fun _ => ev_var rfl)) (h10.ex f6)) (by split <;> rfl) (by decide) (by decide) rfl fun v12 d12 G7 r7 hd12 hv12 => ?_
    have rG : RD m pc pg cs (j + 13) H G7 := r06.then r7
    have kp7 : Kp H G7 := rG.kp hD
    have hS7 : ∀ p, G7 p = none → H p = none := fun p hp => rG.bak hD hp
    obtain ⟨i5, hi5⟩ : ∃ i5 : Nat, i5 = if which = 8 then 4 else 3 := ⟨_, rfl⟩
    have hcase : 1 < which → Case K G7 which (some k) (.ref a) v12 (webD n ss) d12 (.int 0) i5 := fun hw => by
      rw [hi5]
      by_cases h8 : which = 8
      · rw [if_pos h8] at hd12 ⊢
        obtain ⟨l, hl1, hl2⟩ := line_bad (K := K) (ss := ss) hd12 hv12
        exact .inr (.inr ⟨rfl, h8, n, ss, l, hverd, rfl, hW.kp kp7, hl1, hl2⟩)
      · rw [if_neg h8] at hd12 ⊢
        refine .inr (.inl ⟨rfl, by omega, by omega, hverd, nums_bad n12 _ hd12, ?_⟩)
        show (decide ((0 : Int) ≤ 0) && decide ((0 : Int) ≤ (n : Int) - 1)) = true
        rw [decide_eq_true (by omega : (0 : Int) ≤ (n : Int) - 1)]
        rfl
    change tSeq _ _ _ [some (.ref m), some mv, some (.ref a), some (.int which), some rb, some rs, some v6, some v7, some v8, some (.int (ss.length : Int)), some v10, some v11, some v12, none, none] G7
    have h67 := hv66.mv (r7.kps hD r06.inv)
    have h87 := hv86.mv (r7.kps hD r06.inv)
    have hR7 : RingAt C CR G7 rb k := (((hRb3.kp (r4.kp r03.inv)).ex f2).kp (r5.kp r02'.inv)).ex f36 |>.kp (r7.kp r06.inv)
    have hs7 : RingAt C CR G7 rs ko := (((hRs.kp (r4.kp r03.inv)).ex f2).kp (r5.kp r02'.inv)).ex f36 |>.kp (r7.kp r06.inv)
    have hw7 : OdAt (fun p => H p = none) G7 (.ref a) (webD n ss) := (hW.kp kp7).od
    have v1 : verd (some ko) d8 = some 1 := if_neg (by rw [cko]; decide)
    have v2 : verd (some k) d8 = some 2 := by
      show (if k.clsd = true then (if isWebB k d8 = true then none else some 2) else some 1) = some 2
      rw [if_pos hc, if_neg (by rw [hbad]; decide)]
    have tell : ∀ {G G' : Hp}, Ex G7 G → Ex G G' → ∀ {v t u : V} {o : Option RK} {r : V} {d dt du : PyData} {i : Nat} {Q' : VK}, ArgR C CR G7 r o → OdAt (fun p => H p = none) G7 v d → OdAt (fun p => H p = none) G7 t dt → OdAt (fun p => H p = none) G7 u du → (∀ G'', Ex G7 G'' → Case K G'' which o v t d dt du i) → (∀ x H', Ex G' H' → OdAt (fun p => H p = none) H' x (wordD i) → Q' x H') → spTold K C CR [.int which, r, v, t, u] G' Q' E0 := fun {G G'} e e' {v t u o r d dt du i Q'} hA hv ht hu' hC q' => ⟨which, r, v, t, u, o, d, dt, du, some i, rfl, w0, w8, hA.ex (e.trans e'), (hv.ex (e.trans e')).any, (ht.ex (e.trans e')).any, (hu'.ex (e.trans e')).any, .inr ⟨i, rfl, hC _ (e.trans e')⟩, fun x G2 e2 ho => q' x G2 e2 (ho.to fun p hp => hS7 p (fresh_back (e.trans e') hp))⟩
    refine q_new (S := fun p => H p = none) (newL_lst (ds := [wordD 0, wordD 0]) (eoa_cons (d := wordD 0) (fun G e Q' q' => ⟨_, rfl, _, rfl, _, rfl, _, rfl, tell (Ex.refl G7) e (o := none) ⟨d6, h67.any⟩ h87 hv12 (.int 0) (fun _ _ => .inl rfl) q'⟩) (eoa_cons (d := wordD 0) (fun G e Q' q' => ⟨_, rfl, _, rfl, _, rfl, tell (Ex.refl G7) e (o := none) ⟨d6, h67.any⟩ hw7 (.int 0) (.int 0) (fun _ _ => .inl rfl) q'⟩) eoa_nil)) (by show 2 ≤ 100000; decide)) fun T0 xs0 G8 f8 hT0 hL0 hO0 => ?_
    refine q_new (S := fun p => H p = none) (newL_cat (i := 13) (ds := [wordD 0, wordD 0]) (es := [wordD 1, wordD 2]) rfl hL0 (hO0.to fun _ h => h.1) (eoa_cons (d := wordD 1) (fun G e Q' q' => ⟨_, rfl, _, rfl, _, rfl, _, rfl, tell f8 e (o := some ko) ⟨hs7, dko⟩ h87 hv12 (.int 0) (fun _ _ => .inl v1) q'⟩) (eoa_cons (d := wordD 2) (fun G e Q' q' => ⟨_, rfl, _, rfl, _, rfl, _, rfl, tell f8 e (o := some k) ⟨hR7, by omega⟩ h87 hv12 (.int 0) (fun _ _ => .inl v2) q'⟩) eoa_nil)) (by show 4 ≤ 100000; decide)) fun T xs G9 f9 hT hL hO => ?_
    have hS9 : ∀ p, G9 p = none → H p = none := fun p hp => hS7 p (fresh_back (f8.trans f9) hp)
    refine q_new (S := fun p => G9 p = none) (newL_rep2 (d := wordD 0) (es := [wordD 1, wordD 2]) (eoa_cons (d := wordD 0) ((evo_tup (eoa_cons (evo_ev ev_c (.str _)) (eoa_cons (evo_lst (fun _ hp => hp) (eoa_cons (evo_ev ev_c (.str _)) eoa_nil) (by show 1 ≤ 100000; decide)) (eoa_cons (evo_ev ev_c (.str _)) eoa_nil))) (by show 3 ≤ 100000; decide))) eoa_nil) (eoa_cons (d := wordD 1) ((evo_tup (eoa_cons (evo_ev ev_c (.str _)) (eoa_cons (evo_lst (fun _ hp => hp) (eoa_cons (evo_ev ev_c (.str _)) eoa_nil) (by show 1 ≤ 100000; decide)) (eoa_cons (evo_ev ev_c .non) eoa_nil))) (by show 3 ≤ 100000; decide))) (eoa_cons (d := wordD 2) ((evo_tup (eoa_cons (evo_ev ev_c (.str _)) (eoa_cons (evo_lst (fun _ hp => hp) (eoa_cons (evo_ev ev_c (.str _)) eoa_nil) (by show 1 ≤ 100000; decide)) (eoa_cons (evo_ev ev_c .non) eoa_nil))) (by show 3 ≤ 100000; decide))) eoa_nil)) (by show 2 ≤ 1000; decide)) fun U ys G10 f10 hU hLU hOU => ?_
    change tSeq _ _ _ [some (.ref m), some mv, some (.ref a), some (.int which), some rb, some rs, some v6, some v7, some v8, some (.int (ss.length : Int)), some v10, some v11, some v12, some (.ref T), some (.ref U)] G10
    have hTU : T ≠ U := fun z => by rw [z] at hL; rw [hL] at hU; cases hU
    have f7A : Ex G7 G10 := (f8.trans f9).trans f10
    have hL10 := f10 _ _ hL
    have hHT : H T = none := hS7 T (fresh_back f8 hT)
    have hHU : H U = none := hS9 U hU
    have oT : OdAll (fun p => p ≠ U ∧ p ≠ T) G10 xs ([0, 0, 1, 2].map wordD) := ((hO.off hU).exO f10).to fun p h => ⟨h.2, h.1.2⟩
    have oU : OdAll (fun p => p ≠ U ∧ p ≠ T) G10 ys ([0, 0, 1, 2].map wordD) := hOU.to fun p h => ⟨h.2, fun z => by rw [z, hL] at h; cases h.1⟩
    have fin : ∀ {G : Hp} {xs ys : List V} {is : List Nat}, RD m pc pg cs (j + 13) H G → G T = some (.lst xs) → G U = some (.lst ys) → OdAll Any G xs (is.map wordD) → OdAll Any G ys (is.map wordD) → SeqAt.shaped (.list (is.map wordD)) = true → PyData.eqv (.list (is.map wordD)) (.list (is.map wordD)) = true → tRet (tOp (rEqD K) (tVar 13) (tVar 14)) { nx := fun _ H' => Q .non H', rt := Q } [some (.ref m), some mv, some (.ref a), some (.int which), some rb, some rs, some v6, some v7, some v8, some (.int (ss.length : Int)), some v10, some v11, some v12, some (.ref T), some (.ref U)] G := fun {G xs ys is} r h1 h2 hx hy sh he => s_ret (v := .bl true) (ev_is (ev_op (ev_var rfl) (ev_var rfl) (fun H1 e Q' q' => ⟨_, _, Dp.exD (e _ _ h1) (words_dp (hx.exO e)), Dp.exD (e _ _ h2) (words_dp (hy.exO e)), sh, sh, q' H1 (Ex.refl H1)⟩)) (by rw [he])) fun H' e => q H' (RD.up (r.then (.ofEx r.inv e)) (by omega))
    have rA : ∀ {G : Hp}, Ex G10 G → RD m pc pg cs (j + 13) H G := fun {G} e => rG.then (.ofEx rG.inv (f7A.trans e))
    refine q_when (b := decide (1 < which)) (et_test (ev_gtI (ev_var rfl) ev_c)) (fun hw G11 f11 => ?_) (fun hw G11 f11 => ?_)
    · have hw' : 1 < which := of_decide_eq_true hw
      have fA := f7A.trans f11
      have hT11 := f11 _ _ hL10
      have hU11 := f11 _ _ hLU
      have i5c : i5 = 3 ∨ i5 = 4 := by
        rw [hi5]
        split
        · exact .inr rfl
        · exact .inl rfl
      have lx : xs.length = 4 := hO.len
      have ly : ys.length = 4 := hOU.len
      have big : (100000 : Nat) ≤ sizeLine := by decide
      refine ⟨_, rfl, .inl ⟨rfl, _, sq_of hT11⟩, _, rfl, _, rfl, _, rfl, _, rfl, which, rb, .ref a, v12, .int 0, some k, webD n ss, d12, .int 0, some i5, rfl, w0, w8, ⟨hR7.ex fA, by omega⟩, (hw7.ex fA).any, (hv12.ex fA).any, .int 0, .inr ⟨i5, rfl, (hcase hw').ex fA⟩, fun x5 G12 f12 hx5 => ⟨T, xs, x5, rfl, rfl, f12 _ _ hT11, by omega, ?_⟩⟩
      have oT12 : OdAll (fun p => p ≠ U ∧ p ≠ T) G12 (xs ++ [x5]) ([0, 0, 1, 2, i5].map wordD) := (oT.exO (f11.trans f12)).app (.cons (hx5.to fun p hp => ⟨fun z => (by rw [z, hU11] at hp; cases hp), fun z => (by rw [z, hT11] at hp; cases hp)⟩) .nil)
      have oU12 := oU.exO (f11.trans f12)
      have hU12 := f12 _ _ hU11
      have hT12 := f12 _ _ hT11
      have r13 : RD m pc pg cs (j + 13) H (upd G12 T (.lst (xs ++ [x5]))) := RD.set (rA (f11.trans f12)) hD hHT
      have oT13 := oT12.mv (kps_upd (ob := .lst (xs ++ [x5])) hT12)
      have oU13 := oU12.mv (kps_upd (ob := .lst (xs ++ [x5])) hT12)
      have hT13 : (upd G12 T (.lst (xs ++ [x5]))) T = some (.lst (xs ++ [x5])) := upd_same
      have hU13 : (upd G12 T (.lst (xs ++ [x5]))) U = some (.lst ys) := by rw [upd_ne (Ne.symm hTU)]; exact hU12
      generalize (upd G12 T (.lst (xs ++ [x5]))) = G13 at r13 oT13 oU13 hT13 hU13 ⊢
      have dueE : EvO (fun p => G13 p = none) (tTup (tCons (tC (.str "refused")) (tCons (tLst (tCons (tIf (tTest (tOp rEq (tVar 3) (tC (.int 8)))) (tC (.str "path")) (tC (.str "number"))) tNil)) (tCons (tC .non) tNil)))) [some (.ref m), some mv, some (.ref a), some (.int which), some rb, some rs, some v6, some v7, some v8, some (.int (ss.length : Int)), some v10, some v11, some v12, some (.ref T), some (.ref U)] G13 (wordD i5) := by
        by_cases h8 : which = 8
        · have : i5 = 4 := by rw [hi5, if_pos h8]
          subst this
          exact evo_tup (ds := [.str "refused", .list [.str "path"], .none]) (eoa_cons (evo_ev ev_c (.str _)) (eoa_cons (evo_lst (fun _ hp => hp) (eoa_cons (evo_ev (ev_if (b := true) (et_is (et_test (ev_eqI (ev_var rfl) ev_c)) (by rw [h8]; rfl)) (fun _ => ev_c) (fun hb => (by cases hb))) (.str _)) eoa_nil) (by show 1 ≤ 100000; decide)) (eoa_cons (evo_ev ev_c .non) eoa_nil))) (by show 3 ≤ 100000; decide)
        · have : i5 = 3 := by rw [hi5, if_neg h8]
          subst this
          exact evo_tup (ds := [.str "refused", .list [.str "number"], .none]) (eoa_cons (evo_ev ev_c (.str _)) (eoa_cons (evo_lst (fun _ hp => hp) (eoa_cons (evo_ev (ev_if (b := false) (et_is (et_test (ev_eqI (ev_var rfl) ev_c)) (beq_eq_false_iff_ne.mpr h8)) (fun hb => (by cases hb)) (fun _ => ev_c)) (.str _)) eoa_nil) (by show 1 ≤ 100000; decide)) (eoa_cons (evo_ev ev_c .non) eoa_nil))) (by show 3 ≤ 100000; decide)
      refine ⟨_, rfl, .inl ⟨rfl, _, sq_of hU13⟩, dueE G13 (Ex.refl G13) _ fun y5 G14 f14 hy5 => ⟨U, ys, y5, rfl, rfl, f14 _ _ hU13, by omega, ?_⟩⟩
      have hU14 := f14 _ _ hU13
      have hT14 := f14 _ _ hT13
      have oT14 : OdAll (fun p => p ≠ T ∧ p ≠ U) G14 _ _ := (oT13.exO f14).to fun p h => ⟨h.2, h.1⟩
      have oU14 : OdAll (fun p => p ≠ T ∧ p ≠ U) G14 (ys ++ [y5]) ([0, 0, 1, 2, i5].map wordD) := ((oU13.exO f14).to fun p h => (⟨h.2, h.1⟩ : p ≠ T ∧ p ≠ U)).app (.cons (hy5.to fun p hp => ⟨fun z => (by rw [z, hT13] at hp; cases hp), fun z => (by rw [z, hU13] at hp; cases hp)⟩) .nil)
      have r15 : RD m pc pg cs (j + 13) H (upd G14 U (.lst (ys ++ [y5]))) := RD.set (r13.then (.ofEx r13.inv f14)) hD hHU
      exact fin (is := [0, 0, 1, 2, i5]) r15 (by rw [upd_ne hTU]; exact hT14) upd_same ((oT14.mv (kps_upd hU14)).to fun _ _ => True.intro) ((oU14.mv (kps_upd hU14)).to fun _ _ => True.intro) (by rcases i5c with rfl | rfl <;> decide +kernel) (by rcases i5c with rfl | rfl <;> decide +kernel)
    · exact fin (is := [0, 0, 1, 2]) (rA f11) (f11 _ _ hL10) (f11 _ _ hLU) ((oT.exO f11).to fun _ _ => True.intro) ((oU.exO f11).to fun _ _ => True.intro) (by decide +kernel) (by decide +kernel)
end
end D1
end
section
set_option Elab.async false
set_option linter.all false
set_option maxRecDepth 100000
set_option maxHeartbeats 4000000
/-! WM: the law -/
namespace D1
open PySem L2 Evl RZ ClX PySem.VX
def spLaw (K : PySem.W.Frag) : Sp := fun vs H Q _ => ∃ (a : Addr) (ns : List Int), vs = [.ref a] ∧ SqL K H a (ns.map V.int) ∧ ns.length ≤ 63 ∧ ∀ H', Q (.bl true) H'
theorem RD.exOf {m pc pg : Addr} {cs : List Int} {j : Nat} {H Hd G : Hp} (e : Ex H Hd) (r : RD m pc pg cs j Hd G) (hm : H m = none) (hg : H pg = none) : Ex H G := fun b o h => r.keep b o (fun hc => by
  rcases hc with rfl | rfl
  · rw [hm] at h
    cases h
  · rw [hg] at h
    cases h) (e b o h)
theorem rg9 : ∀ j : Fin 64, Builtin.Range.small 0 (j.val : Int) 9 = true ∧ Builtin.Range.rangeSize 0 (j.val : Int) 9 = (j.val + 8) / 9 := by decide +kernel
theorem web_shc2 {k : RK} (hc : k.clsd = true) (hd : k.depth < 3) {n : Nat} {ss : List Step} (hok : WebOk k n ss) (hs : ∀ s ∈ ss, Sz 140 s.2.2) : ShC (webD n ss) 8 16500 := by
  have hD : SmlA 80 (ss.map stepD) := ⟨by rw [List.length_map]; exact hok.len, fun d hd' => by
    obtain ⟨s, hs', rfl⟩ := List.mem_map.mp hd'
    obtain ⟨es, h1, h2, h3⟩ := step_el hc hd hok.n12 (hok.at_ s hs').1 (hok.at_ s hs').2.1 (hok.at_ s hs').2.2 (hs s hs')
    rw [h1]
    exact sml_tup (by omega) h3⟩
  have h2 := (big_tup (by decide) hD).2
  exact ((ShC.tuple (k := 6) (n := 16400) (.cons (n := 0) (.int (by have := hok.n12; rw [Int.natAbs_natCast]; exact Nat.lt_of_le_of_lt this (by decide))) (.cons h2 (ShCA.nil (n := 0)) (Nat.le_refl _)) (by decide)))).up (by decide) (by decide)
section
variable {P : Program} {w : World} {K : PySem.W.Frag} {mg : Str → Option Value} {base : Heap}
abbrev s_law : Stmt := top 132
theorem sc_law : FnScope ["_law_script", "_law_k", "_law_draw_here", "_law_way", "_law_which", "_law_size", "_law_made", "_law_base", "_law_net", "_law_spoilt_here", "_law_kept", "_law_due"] ["_law_script"] (defScope s_law) := ⟨rfl, rfl, rfl, by decide +kernel, rfl, by decide +kernel, by decide +kernel⟩
theorem ok_law {f : Addr} {fd : FuncData} (F : FnP K "law" s_law f fd) {C : KC} {CR : Addr} {B : Bads} (hK : SysK K) {f_draw : Addr} {fd_draw : FuncData} (F_draw : FnP K "_law_draw" s_draw f_draw fd_draw) (g_draw : mg "_law_draw" = some (.ref f_draw)) (G_draw : FnOk P w K mg base (CX0) 1 f_draw fd_draw ["_law_script", "_law_k"] (spDraw K)) {f_next : Addr} {fd_next : FuncData} (F_next : FnP K "_law_next" s_next f_next fd_next) (g_next : mg "_law_next" = some (.ref f_next)) (G_next : FnOk P w K mg base (CX0) 2 f_next fd_next ["_law_draw_here", "_law_many"] (spNext)) {f_ring : Addr} {fd_ring : FuncData} (F_ring : FnP K "_law_ring" s_ring f_ring fd_ring) (g_ring : mg "_law_ring" = some (.ref f_ring)) (G_ring : FnOk P w K mg base (CX0) 5 f_ring fd_ring ["_law_draw_here", "_law_deep"] (spLRing 3)) {f_web : Addr} {fd_web : FuncData} (F_web : FnP K "_law_web" s_web f_web fd_web) (g_web : mg "_law_web" = some (.ref f_web)) (G_web : FnOk P w K mg base (CX0) 8 f_web fd_web ["_law_draw_here", "_law_made", "_law_most", "_law_many"] (spLWeb)) {f_ring_of : Addr} {fd_ring_of : FuncData} (F_ring_of : FnP K "ring_of" s_ring_of f_ring_of fd_ring_of) (g_ring_of : mg "ring_of" = some (.ref f_ring_of)) (G_ring_of : FnOk P w K mg base (CX0) 13 f_ring_of fd_ring_of ["made"] (spRingOf C CR)) {f_spoilt : Addr} {fd_spoilt : FuncData} (F_spoilt : FnP K "_law_spoilt" s_spoilt f_spoilt fd_spoilt) (g_spoilt : mg "_law_spoilt" = some (.ref f_spoilt)) (G_spoilt : FnOk P w K mg base (CX0) 5 f_spoilt fd_spoilt ["_law_draw_here", "_law_made", "_law_net", "_law_way"] (spSpoilt)) {f_need_web : Addr} {fd_need_web : FuncData} (F_need_web : FnP K "need_web" s_need_web f_need_web fd_need_web) (g_need_web : mg "need_web" = some (.ref f_need_web)) (G_need_web : FnOk P w K mg base (L2.CX P w) 10 f_need_web fd_need_web ["ring", "web"] (spNeedWeb C CR B)) {f_in_order : Addr} {fd_in_order : FuncData} (F_in_order : FnP K "_law_in_order" s_in_order f_in_order fd_in_order) (g_in_order : mg "_law_in_order" = some (.ref f_in_order)) (G_in_order : FnOk P w K mg base (CX0) 14 f_in_order fd_in_order ["_law_draw_here", "_law_made", "_law_net", "_law_which"] (spInOrder)) {f_is_web : Addr} {fd_is_web : FuncData} (F_is_web : FnP K "_law_is_web" s_is_web f_is_web fd_is_web) (g_is_web : mg "_law_is_web" = some (.ref f_is_web)) (G_is_web : FnOk P w K mg base (CX0) 7 f_is_web fd_is_web ["_law_made", "_law_thing"] (spLIsWeb)) {f_told : Addr} {fd_told : FuncData} (F_told : FnP K "_law_told" s_told f_told fd_told) (g_told : mg "_law_told" = some (.ref f_told)) (G_told : FnOk P w K mg base (CX0) 12 f_told fd_told ["_law_which", "_law_base", "_law_net", "_law_odd", "_law_good_here"] (spTold K C CR)) (z_len : mg "len" = none) (z_range : mg "range" = none) (z_max : mg "max" = none) (z_min : mg "min" = none) (z_repr : mg "repr" = none) : FnG P w K mg base CX0 15 f fd ["_law_script"] (spLaw K) := by
  have b_draw : Binds K fd_draw ["_law_script", "_law_k"] [] := F_draw.bindsN fun _ _ _ _ _ _ us hl => match us, hl with | [_, _], _ => rfl
  have b_next : Binds K fd_next ["_law_draw_here", "_law_many"] [] := F_next.bindsN fun _ _ _ _ _ _ us hl => match us, hl with | [_, _], _ => rfl
  have b_ring : Binds K fd_ring ["_law_draw_here", "_law_deep"] [] := F_ring.bindsN fun _ _ _ _ _ _ us hl => match us, hl with | [_, _], _ => rfl
  have b_web : Binds K fd_web ["_law_draw_here", "_law_made", "_law_most", "_law_many"] [] := F_web.bindsN fun _ _ _ _ _ _ us hl => match us, hl with | [_, _, _, _], _ => rfl
  have b_ring_of : Binds K fd_ring_of ["made"] [] := F_ring_of.bindsN fun _ _ _ _ _ _ us hl => match us, hl with | [_], _ => rfl
  have b_spoilt : Binds K fd_spoilt ["_law_draw_here", "_law_made", "_law_net", "_law_way"] [] := F_spoilt.bindsN fun _ _ _ _ _ _ us hl => match us, hl with | [_, _, _, _], _ => rfl
  have b_need_web : Binds K fd_need_web ["ring", "web"] [] := F_need_web.bindsN fun _ _ _ _ _ _ us hl => match us, hl with | [_, _], _ => rfl
  have b_in_order : Binds K fd_in_order ["_law_draw_here", "_law_made", "_law_net", "_law_which"] [] := F_in_order.bindsN fun _ _ _ _ _ _ us hl => match us, hl with | [_, _, _, _], _ => rfl
  have b_is_web : Binds K fd_is_web ["_law_made", "_law_thing"] [] := F_is_web.bindsN fun _ _ _ _ _ _ us hl => match us, hl with | [_, _], _ => rfl
  have b_told : Binds K fd_told ["_law_which", "_law_base", "_law_net", "_law_odd", "_law_good_here"] [] := F_told.bindsN fun _ _ _ _ _ _ us hl => match us, hl with | [_, _, _, _, _], _ => rfl
  refine Fun.okG F.asFun sc_law (fun vs H Q E h => ?_) (fun cdv A outer s H vs Q E hr hG h => ?_)
  · obtain ⟨a, ns, rfl, _⟩ := h
    rfl
  · obtain ⟨a, ns, rfl, hS, hl, q⟩ := h
    have hu := hu_of hr
    have hu64 := hr.units
    have hr_draw := hr.mono (by decide : 1 ≤ 14)
    have hr_next := hr.mono (by decide : 2 ≤ 14)
    have hr_ring := hr.mono (by decide : 5 ≤ 14)
    have hr_web := hr.mono (by decide : 8 ≤ 14)
    have hr_ring_of := hr.mono (by decide : 13 ≤ 14)
    have hr_spoilt := hr.mono (by decide : 5 ≤ 14)
    have hr_need_web := hr.mono (by decide : 10 ≤ 14)
    have hr_in_order := hr.mono (by decide : 14 ≤ 14)
    have hr_is_web := hr.mono (by decide : 7 ≤ 14)
    have hr_told := hr.mono (by decide : 12 ≤ 14)
    refine ⟨_, PSs.nox (pss_cons (ps_for PassesOwn.never rfl (pi_range3 rfl z_range (pa_cons pe_int (pa_cons (pe_callB (call_max2 rfl) (by rfl) z_max PyProof.Rows.boot_max (pa_cons pe_int (pa_cons (pe_callB (call_min2 rfl) (by rfl) z_min PyProof.Rows.boot_min (pa_cons pe_int (pa_cons (pe_callB call_len_seq (by rfl) z_len PySem.boot_len (pa_cons (pv 0) pa_nil)) pa_nil))) pa_nil))) (pa_cons pe_int pa_nil)))) (pg_name (i := 1) sc_law.nd rfl (Or.inl rfl)) (pss_cons (ps_set (i := 2) sc_law.nd rfl (Or.inl rfl) (pe_call G_draw hr_draw rfl g_draw F_draw.kp b_draw .nil pass0 (pa_cons (pv 0) (pa_cons (pv 1) pa_nil))))
      (pss_cons (ps_par3 (i := 3) (j := 4) (l := 5) (by rfl) sc_law.nd rfl rfl rfl (by decide) (by decide) (by decide) rfl rfl rfl (pa_cons (pe_call G_next hr_next rfl g_next F_next.kp b_next .nil pass0 (pa_cons (pv 2) (pa_cons pe_int pa_nil))) (pa_cons (pe_call G_next hr_next rfl g_next F_next.kp b_next .nil pass0 (pa_cons (pv 2) (pa_cons pe_int pa_nil))) (pa_cons (pe_op op_fdiv (pe_call G_next hr_next rfl g_next F_next.kp b_next .nil pass0 (pa_cons (pv 2) (pa_cons pe_int pa_nil))) pe_int) pa_nil))) (by rfl))
      (pss_cons (ps_set (i := 6) sc_law.nd rfl (Or.inl rfl) (pe_call G_ring hr_ring rfl g_ring F_ring.kp b_ring .nil pass0 (pa_cons (pv 2) (pa_cons pe_int pa_nil))))
      (pss_cons (ps_par (i := 7) (j := 8) (by rfl) sc_law.nd rfl rfl (by decide) rfl rfl (pa_cons (pe_call G_ring_of hr_ring_of rfl g_ring_of F_ring_of.kp b_ring_of .nil pass0 (pa_cons (pv 6) pa_nil)) (pa_cons (pe_call G_web hr_web rfl g_web F_web.kp b_web .nil pass0 (pa_cons (pv 2) (pa_cons (pv 6) (pa_cons (pe_ix ix_list (pe_lst (pa_cons pe_int (pa_cons pe_int pa_nil))) (pv 5) (fun _ _ => rfl)) (pa_cons (pe_ix ix_list (pe_lst (pa_cons pe_int (pa_cons pe_int pa_nil))) (pv 5) (fun _ _ => rfl)) pa_nil))))) pa_nil)) (by rfl))
      (pss_cons (ps_set (i := 9) sc_law.nd rfl (Or.inl rfl) (pe_call G_spoilt hr_spoilt rfl g_spoilt F_spoilt.kp b_spoilt .nil pass0 (pa_cons (pv 2) (pa_cons (pv 6) (pa_cons (pv 8) (pa_cons (pv 3) pa_nil))))))
      (pss_cons (ps_set (i := 10) sc_law.nd rfl (Or.inl rfl) (pe_callB (call_reprO hK hG hu64) (by rfl) z_repr (by decide +kernel) (pa_cons (pe_lst (pa_cons (pv 8) (pa_cons (pv 9) pa_nil))) pa_nil)))
      (pss_cons (ps_if (PW.pt (pw_or (pt_cmpR op_notN (pe_call G_need_web hr_need_web rfl g_need_web F_need_web.kp b_need_web .nil passNo (pa_cons (pv 7) (pa_cons (pv 8) pa_nil))) pe_non (nomark _)) (pw_or1 (pt_not (pt_val (pe_call G_in_order hr_in_order rfl g_in_order F_in_order.kp b_in_order .nil pass0 (pa_cons (pv 2) (pa_cons (pv 6) (pa_cons (pv 8) (pa_cons (pv 4) pa_nil)))))))))) (pss_one (ps_ret pe_bl)) pss_nil)
      (pss_cons (ps_set (i := 11) sc_law.nd rfl (Or.inl rfl) (pe_ifExp (pt_val (pe_call G_is_web hr_is_web rfl g_is_web F_is_web.kp b_is_web .nil pass0 (pa_cons (pv 6) (pa_cons (pv 9) pa_nil)))) (pe_tup (pa_cons pe_str (pa_cons pe_non pa_nil))) (pe_tup (pa_cons pe_str (pa_cons (pe_lst (pa_cons pe_str pa_nil)) (pa_cons pe_non pa_nil))))))
      (pss_one (ps_if (PW.pt (pw_or (pt_cmpR (op_neD hu64) (pe_call G_told hr_told rfl g_told F_told.kp b_told .nil pass0 (pa_cons pe_int (pa_cons (pv 7) (pa_cons (pv 9) (pa_cons pe_int (pa_cons pe_int pa_nil)))))) (pv 11) (nomark _)) (pw_or1 (pt_cmpR op_ne (pe_callB (call_reprO hK hG hu64) (by rfl) z_repr (by decide +kernel) (pa_cons (pe_lst (pa_cons (pv 8) (pa_cons (pv 9) pa_nil))) pa_nil)) (pv 10) (nomark _))))) (pss_one (ps_ret pe_bl)) pss_nil)))))))))))
      (pss_one (ps_ret pe_bl))), ?_⟩
    obtain ⟨u, hu1, hu2, hu3⟩ : ∃ u : Fin 64, (if (if ((ns.map V.int).length : Int) < 63 then ((ns.map V.int).length : Int) else 63) > 1 then (if ((ns.map V.int).length : Int) < 63 then ((ns.map V.int).length : Int) else 63) else 1) = (u.val : Int) ∧ 1 ≤ u.val ∧ (ns ≠ [] → u.val ≤ ns.length) := by
      rw [List.length_map]
      rcases Nat.eq_zero_or_pos ns.length with h0 | h0
      · refine ⟨1, ?_, by decide, fun h => absurd (List.length_eq_zero_iff.mp h0) h⟩
        rw [h0]
        rfl
      · refine ⟨⟨ns.length, by omega⟩, ?_, h0, fun _ => Nat.le_refl _⟩
        show _ = (ns.length : Int)
        split <;> split <;> omega
    refine ⟨_, rfl, a, _, rfl, .inl hS, 63, _, rfl, 1, _, rfl, 0, _, 9, (u.val + 8) / 9, rfl, ?_, ?_⟩
    · rw [hu1]
      exact ⟨by decide, by decide, (rg9 u).1, (rg9 u).2⟩
    refine for_it (walk_rangeC (lo := 0) (c := 9) (n := (u.val + 8) / 9)) (fun i σ' G => ∃ s1 s2 s3 s4 s5 s6 s7 s8 s9 s10 s11 : Option V, σ' = [some (.ref a), s1, s2, s3, s4, s5, s6, s7, s8, s9, s10, s11] ∧ Ex H G) ⟨_, _, _, _, _, _, _, _, _, _, _, rfl, Ex.refl H⟩ (fun _ _ _ _ _ => True.intro) ?_ (fun σ' G _ => q G)
    rintro i x' σ' _ G hi ⟨s1, s2, s3, s4, s5, s6, s7, s8, s9, s10, s11, rfl, eG⟩ ⟨rfl, rfl⟩
    have hk : 9 * i < u.val := by omega
    have u63 : u.val ≤ 63 := by omega
    have hkc : (0 : Int) + (i : Int) * 9 = ((9 * i : Nat) : Int) := by omega
    refine asg_step ⟨_, rfl, _, rfl, a, ns, 9 * i, congrArg (fun z => [V.ref a, V.int z]) hkc, ex_l eG hS, hl, fun h => Nat.lt_of_lt_of_le hk (hu3 h), by omega, fun m pc pg cs H2 e2 hm hpc hpg hD => ?_⟩
    obtain ⟨j, hj⟩ : ∃ j, j = 64 * (9 * i) := ⟨_, rfl⟩
    rw [← hj] at hD
    have hj2 : j ≤ 4032 := by omega
    refine par3_step ⟨_, rfl, m, pc, pg, cs, j, 8, rfl, hD, by omega, by decide, by decide, fun way H3 w0 w1 r3 => ⟨_, rfl, m, pc, pg, cs, j + 1, 9, rfl, r3.inv, by omega, by decide, by decide, fun wh H4 y0 y1 r4 => ⟨_, rfl, m, pc, pg, cs, j + 2, 8, rfl, r4.inv, by omega, by decide, by decide, fun sz H5 z0 z1 r5 => ⟨sz, 7, rfl, rfl, ⟨by decide, by decide⟩, ⟨_, _, _, rfl, ?_⟩⟩⟩⟩⟩
    obtain ⟨s, hs, hs2⟩ : ∃ s : Nat, sz / 7 = (s : Int) ∧ s ≤ 1 := ⟨(sz / 7).toNat, by omega, by omega⟩
    have rA : RD m pc pg cs (j + 3) H2 H5 := (r3.then r4).then r5
    change tSeq _ _ _ [some (.ref a), some (.int ((0 : Int) + (i : Int) * 9)), some (.ref m), some (.int way), some (.int wh), some (.int (sz / 7)), s6, s7, s8, s9, s10, s11] H5
    rw [hs]
    refine asg_step ⟨_, rfl, m, pc, pg, cs, j + 3, 2, rfl, by decide, rA.inv, by show j + 3 + costR 2 ≤ 100000; rw [show costR 2 = 15 by rfl]; omega, fun k mv H6 ok hc dk r6 hM => ?_⟩
    have rB : RD m pc pg cs (j + 3 + costR 2) H2 H6 := rA.then r6
    have hdk : k.depth < 3 := by omega
    obtain ⟨mo, ma, at1, at2, mo1, mo2, ma2⟩ : ∃ mo ma : Nat, atI [V.int 4, .int 12] (s : Int) = some (.int (mo : Int)) ∧ atI [V.int 8, .int 80] (s : Int) = some (.int (ma : Int)) ∧ 1 ≤ mo ∧ mo ≤ 12 ∧ ma ≤ 80 := by
      have h2 : s = 0 ∨ s = 1 := by omega
      rcases h2 with rfl | rfl
      · exact ⟨4, 8, rfl, rfl, by decide, by decide, by decide⟩
      · exact ⟨12, 80, rfl, rfl, by decide, by decide, by decide⟩
    refine par_step ⟨_, rfl, mv, k, rfl, hM, ok, by omega, fun r H7 e7 hR => ⟨_, rfl, _, rfl, by show 2 ≤ sizeLine; decide, fun l1 hl1 => ⟨_, rfl, l1, _, (s : Int), .int (mo : Int), rfl, rfl, sq_of upd_same, at1, by show 2 ≤ sizeLine; decide, fun l2 hl2 => ⟨_, rfl, l2, _, (s : Int), .int (ma : Int), rfl, rfl, sq_of upd_same, at2, ?_⟩⟩⟩⟩
    have e79 := e7.trans ((Ex.new (o := .lst [.int 4, .int 12]) hl1).trans (Ex.new (o := .lst [.int 8, .int 80]) hl2))
    have rC := rB.then (.ofEx rB.inv e79)
    have hR9 := hR.ex ((Ex.new (o := .lst [.int 4, .int 12]) hl1).trans (Ex.new (o := .lst [.int 8, .int 80]) hl2))
    refine ⟨m, pc, pg, cs, j + 3 + costR 2, mv, k, mo, ma, rfl, rC.inv, by rw [show costR 2 = 15 by rfl]; omega, hM.ex e79, hdk, ok, hc, mo1, mo2, ma2, fun nv n ss H10 r10 hW hok hsz hn hss => ⟨_, _, rfl, ?_⟩⟩
    have kpA : Kp H6 H10 := (Kp.ex e79).trans (r10.kp rC.inv)
    have rD := rC.then r10
    have hM10 := hM.kp kpA
    have hR10 := hR9.kp (r10.kp rC.inv)
    refine asg_step ⟨_, rfl, _, rfl, _, rfl, _, rfl, m, pc, pg, cs, j + 3 + costR 2 + 2000, mv, nv, k, n, ss, way, rfl, rD.inv, by rw [show costR 2 = 15 by rfl]; omega, hM10, hdk, ok, hc, hW, hok, hsz, fun sv d H11 r11 hsv hbig => ?_⟩
    have rE := rD.then r11
    have kpB := r11.kp rD.inv
    have hW11 := hW.kp kpB
    have hM11 := hM10.kp kpB
    have hR11 := hR10.kp kpB
    obtain ⟨zr, hzr⟩ : ∃ zr, zr = PyData.shown (.list [webD n ss, d]) := ⟨_, rfl⟩
    have shc : ShC (.list [webD n ss, d]) 9 80000 := .list (k := 8) (.cons (n := 16500) (web_shc2 hc hdk hok hsz) (.cons (n := 36000) hbig.sh (ShCA.nil (n := 0)) (Nat.le_refl _)) (by decide))
    have rep : ∀ {G : Hp} {Q' : VK} {l : Addr}, DtAt G nv (webD n ss) → OdAt Any G sv d → G l = some (.lst [nv, sv]) → Q' (.str zr) G → rReprO [.ref l] G Q' := fun {G Q' l} hw hs hl k => by
      subst hzr
      exact ⟨l, _, rfl, .lst hl True.intro (.cons hw.od (.cons hs .nil)), shc.fs, Nat.le_trans shc.fd (by decide), shc.fits (Nat.le_refl _), k⟩
    refine asg_step ⟨_, rfl, _, rfl, by show 2 ≤ sizeLine; decide, fun l hl => ?_⟩
    dsimp only [tNil]
    have el := Ex.new (o := .lst [nv, sv]) hl
    refine rep (hW11.ex el) ((hsv.to fun _ _ => True.intro).ex el) upd_same ?_
    generalize (upd H11 l (.lst [nv, sv])) = H12 at el ⊢
    have rF := rE.then (.ofEx rE.inv el)
    have hWw := web_good hok
    have hverd : verd (some k) (webD n ss) = none := by
      show (if k.clsd = true then (if isWebB k (webD n ss) = true then none else some 2) else some 1) = none
      rw [if_pos hc, if_pos hWw]
    refine (id ?_ : tSeq _ _ _ [some (.ref a), some (.int ((0 : Int) + (i : Int) * 9)), some (.ref m), some (.int way), some (.int wh), some (.int (s : Int)), some mv, some r, some nv, some sv, some (.str zr), s11] H12)
    refine ⟨_, rfl, _, rfl, r, nv, some k, webD n ss, rfl, ⟨hR11.ex el, by omega⟩, (hW11.ex el).od, fun _ H13 e13 => ?_, fun i' h' => absurd (hverd.symm.trans h') (by simp)⟩
    refine ⟨rfl, _, rfl, no_of (by rw [decide_eq_true (rfl : V.non = V.non)]; rfl) ?_⟩
    have rG := rF.then (.ofEx rF.inv e13)
    have eB := el.trans e13
    refine ⟨_, rfl, _, rfl, _, rfl, _, rfl, m, pc, pg, cs, j + 3 + costR 2 + 2000 + 10, mv, nv, k, n, ss, wh, rfl, rG.inv, by rw [show costR 2 = 15 by rfl]; omega, hM11.ex eB, hdk, ok, hc, hW11.ex eB, hok, y0, by omega, fun H14 r14 => ?_⟩
    have rH := rG.then r14
    have kpC : Kp H11 H14 := (Kp.ex eB).trans (r14.kp rG.inv)
    refine ⟨true, rfl, no_of rfl ?_⟩
    have hvd : verd (some k) d = if isWebB k d = true then none else some 2 := by
      show (if k.clsd = true then (if isWebB k d = true then none else some 2) else some 1) = _
      rw [if_pos hc]
    have hsv14 : OdAt Any H14 sv d := by
      exact ((hsv.ex eB).mv (RD.kps rD.inv rG.inv r14)).to fun _ _ => True.intro
    have hdue : EvO (fun p => H14 p = none) (tIf (tB (tCall spLIsWeb [] E0 (tCons (tVar 6) (tCons (tVar 9) tNil)))) (tTup (tCons (tC (.str "told")) (tCons (tC .non) tNil))) (tTup (tCons (tC (.str "refused")) (tCons (tLst (tCons (tC (.str "web")) tNil)) (tCons (tC .non) tNil))))) [some (.ref a), some (.int ((0 : Int) + (i : Int) * 9)), some (.ref m), some (.int way), some (.int wh), some (.int (s : Int)), some mv, some r, some nv, some sv, some (.str zr), s11] H14 (resD (verd (some k) d)) := by
      rw [hvd]
      by_cases hw : isWebB k d = true
      · rw [if_pos hw]
        intro G e Q' q'
        refine ⟨_, rfl, _, rfl, mv, sv, k, d, rfl, (hM11.kp kpC).ex e, hdk, ok, hc, hsv14.ex e, Sz.up hbig.sz (by decide), fun G2 e2 => ?_⟩
        refine ⟨_, rfl, yes_of hw ?_⟩
        exact evo_tup (ds := [.str "told", .none]) (eoa_cons (evo_ev ev_c (.str _)) (eoa_cons (evo_ev ev_c .non) eoa_nil)) (by show 2 ≤ 100000; decide) G2 (e.trans e2) _ fun v G3 e3 h => q' v G3 (e2.trans e3) h
      · rw [if_neg hw]
        intro G e Q' q'
        refine ⟨_, rfl, _, rfl, mv, sv, k, d, rfl, (hM11.kp kpC).ex e, hdk, ok, hc, hsv14.ex e, Sz.up hbig.sz (by decide), fun G2 e2 => ?_⟩
        refine ⟨_, rfl, no_of (Bool.not_eq_true _ ▸ hw) ?_⟩
        exact evo_tup (ds := [.str "refused", .list [.str "web"], .none]) (eoa_cons (evo_ev ev_c (.str _)) (eoa_cons (evo_lst (fun _ hp => hp) (eoa_cons (evo_ev ev_c (.str _)) eoa_nil) (by show 1 ≤ 100000; decide)) (eoa_cons (evo_ev ev_c .non) eoa_nil))) (by show 3 ≤ 100000; decide) G2 (e.trans e2) _ fun v G3 e3 h => q' v G3 (e2.trans e3) h
    refine q_asgO hdue fun dv H15 e15 hdv => ?_
    have hW15 : DtAt H15 nv (webD n ss) := (hW11.kp kpC).ex e15
    have hsv15 : OdAt Any H15 sv d := hsv14.ex e15
    have hR15 : RingAt C CR H15 r k := (hR11.kp kpC).ex e15
    have rI := rH.then (.ofEx rH.inv e15)
    refine s_when (b := false || false) (et_or (fun G e Q' q' => ?_) fun _ => et_test (ev_neS (x := zr) (fun G e Q' q' => ⟨_, rfl, _, rfl, by show 2 ≤ sizeLine; decide, fun l hl => rep (hW15.ex (e.trans (Ex.new hl))) (hsv15.ex (e.trans (Ex.new hl))) upd_same (q' _ (Ex.new hl))⟩) (ev_var rfl))) (fun hb => (by cases hb)) (fun _ H16 e16 => ⟨_, _, _, _, _, _, _, _, _, _, _, rfl, RD.exOf (eG.trans e2) (rI.then (.ofEx rI.inv e16)) (fresh_back eG hm) (fresh_back eG hpg)⟩)
    refine ⟨_, rfl, _, rfl, 0, r, sv, .int 0, .int 0, some k, d, .int 0, .int 0, verd (some k) d, rfl, by decide, by decide, ⟨hR15.ex e, by omega⟩, hsv15.ex e, .int _, .int _, ?_, fun x G1 g1 hx => ?_⟩
    · cases hv : verd (some k) d with
      | none => exact .inl ⟨rfl, rfl, rfl⟩
      | some i' => exact .inr ⟨i', rfl, .inl hv⟩
    have hDp : ∀ {G2 : Hp} {S : Addr → Prop} {v : V}, OdAt S G2 v (resD (verd (some k) d)) → Dp K G2 v (resD (verd (some k) d)) := fun {G2 S v} h => by
      cases hv : verd (some k) d with
      | none => rw [hv] at h; cases h with | tup h1 h2 => exact .tup (st_of h1) (by cases h2 with | cons a b => cases b with | cons c e => cases a; cases c; cases e; exact .cons (.str _) (.cons .non .nil))
      | some i' => rw [hv] at h; exact word_dp h
    have hsh : SeqAt.shaped (resD (verd (some k) d)) = true ∧ PyData.eqv (resD (verd (some k) d)) (resD (verd (some k) d)) = true := by
      rw [hvd]
      split <;> exact ⟨by decide +kernel, by decide +kernel⟩
    exact ⟨dv, rfl, _, _, hDp hx, hDp (hdv.ex (e.trans g1)), hsh.1, hsh.1, _, rfl, by rw [hsh.2]; exact q' G1 g1⟩
end
end D1
end
section
set_option Elab.async false
set_option linter.all false
set_option maxRecDepth 100000
set_option maxHeartbeats 4000000
/-! K15: what is asked of the written part, as one Bool -/
namespace D1
open PySem L2 PySem.VX Evl
theorem xbB_ok {K : PySem.W.Frag} {C : Addr} {bmB : List Value} {newId : String} {fn : List Str} (h : xbB K C bmB newId fn = true) : XB K bmB newId C fn := by
  unfold xbB at h
  obtain ⟨h1, h⟩ := Bool.and_eq_true_iff.mp h
  obtain ⟨h2, h⟩ := Bool.and_eq_true_iff.mp h
  obtain ⟨h3, h⟩ := Bool.and_eq_true_iff.mp h
  obtain ⟨h4, h⟩ := Bool.and_eq_true_iff.mp h
  obtain ⟨h5, h⟩ := Bool.and_eq_true_iff.mp h
  obtain ⟨h6, h⟩ := Bool.and_eq_true_iff.mp h
  obtain ⟨h7, h⟩ := Bool.and_eq_true_iff.mp h
  obtain ⟨h8, h⟩ := Bool.and_eq_true_iff.mp h
  obtain ⟨h9, h⟩ := Bool.and_eq_true_iff.mp h
  obtain ⟨h10, h⟩ := Bool.and_eq_true_iff.mp h
  obtain ⟨h11, h12⟩ := Bool.and_eq_true_iff.mp h
  exact ⟨h1, h2, h3, of_decide_eq_true h4, of_decide_eq_true h5, of_decide_eq_true h6, of_decide_eq_true h7, of_decide_eq_true h8, fun f hf => of_decide_eq_true (List.all_eq_true.mp h9 f hf), h10, of_decide_eq_true h11, of_decide_eq_true h12⟩
section
variable {prog : Program} {w : World} {K : PySem.W.Frag} {mg : Str → Option Value} {C fI : Addr} {bmB : List Value} {B newId initId : String} {qual nm : Str} {fd : FuncData}
theorem own_what (FB : ExcBaseFacts B newId initId bmB) (SF : StoreFacts B bmB "object.__setattr__" "object") (T : XB K bmB newId C [("what" : Str)]) (g : mg nm = some (.ref C)) (iC : PySem.W.findIn K (.ref C) "__init__" = some (some (.ref fI))) (tI : PySem.W.typeIn K (.ref fI) = some (.type "function"))
    (D : Ini1 K fI qual "what" fd) : OwnX prog w K mg nm C [("what" : Str)] := by
  have bp : ∀ (s : Shared) (x v : Value), BindsTo s fd ⟨[x, v], []⟩ [("self", x), ("what", v)] := fun s x v => by
    obtain ⟨oc, od, doc, pm, an, cdv, ct, osl, p1, p2, q1, q2, q3, q4, rfl, _⟩ := D.ex
    exact .of_eq (by first | rfl | with_unfolding_all rfl)
  have bk : ∀ (s : Shared) (x v : Value), BindsTo s fd ⟨[x], [("what", v)]⟩ [("self", x), ("what", v)] := fun s x v => by
    obtain ⟨oc, od, doc, pm, an, cdv, ct, osl, p1, p2, q1, q2, q3, q4, rfl, _⟩ := D.ex
    exact .of_eq (by first | rfl | with_unfolding_all rfl)
  refine ⟨g, ⟨bmB, B, newId, initId, fI, FB, T, iC, tI, fun us hl => ?_, fun us hl => ?_⟩, by decide⟩
  · match us, hl with
    | [v], _ => exact fun A R s x t0 X hlim hx hnx hroom hq => init_what SF T D X hlim hx hroom (bp s _ v) hq
  · match us, hl with
    | [v], _ => exact fun A R s x t0 X hlim hx hnx hroom hq => init_what SF T D X hlim hx hroom (bk s _ v) hq
theorem own_why (FB : ExcBaseFacts B newId initId bmB) (SF : StoreFacts B bmB "object.__setattr__" "object") (T : XB K bmB newId C [("why" : Str)]) (g : mg nm = some (.ref C)) (iC : PySem.W.findIn K (.ref C) "__init__" = some (some (.ref fI))) (tI : PySem.W.typeIn K (.ref fI) = some (.type "function"))
    (D : Ini1 K fI qual "why" fd) : OwnX prog w K mg nm C [("why" : Str)] := by
  have bp : ∀ (s : Shared) (x v : Value), BindsTo s fd ⟨[x, v], []⟩ [("self", x), ("why", v)] := fun s x v => by
    obtain ⟨oc, od, doc, pm, an, cdv, ct, osl, p1, p2, q1, q2, q3, q4, rfl, _⟩ := D.ex
    exact .of_eq (by first | rfl | with_unfolding_all rfl)
  have bk : ∀ (s : Shared) (x v : Value), BindsTo s fd ⟨[x], [("why", v)]⟩ [("self", x), ("why", v)] := fun s x v => by
    obtain ⟨oc, od, doc, pm, an, cdv, ct, osl, p1, p2, q1, q2, q3, q4, rfl, _⟩ := D.ex
    exact .of_eq (by first | rfl | with_unfolding_all rfl)
  refine ⟨g, ⟨bmB, B, newId, initId, fI, FB, T, iC, tI, fun us hl => ?_, fun us hl => ?_⟩, by decide⟩
  · match us, hl with
    | [v], _ => exact fun A R s x t0 X hlim hx hnx hroom hq => init_why SF T D X hlim hx hroom (bp s _ v) hq
  · match us, hl with
    | [v], _ => exact fun A R s x t0 X hlim hx hnx hroom hq => init_why SF T D X hlim hx hroom (bk s _ v) hq
theorem own_two (FB : ExcBaseFacts B newId initId bmB) (SF : StoreFacts B bmB "object.__setattr__" "object") (T : XB K bmB newId C [("rule" : Str), ("things" : Str)]) (g : mg nm = some (.ref C)) (iC : PySem.W.findIn K (.ref C) "__init__" = some (some (.ref fI))) (tI : PySem.W.typeIn K (.ref fI) = some (.type "function"))
    (D : Ini2 K fI qual fd) : OwnX prog w K mg nm C [("rule" : Str), ("things" : Str)] := by
  have bp : ∀ (s : Shared) (x v u : Value), BindsTo s fd ⟨[x, v, u], []⟩ [("self", x), ("rule", v), ("things", u)] := fun s x v u => by
    obtain ⟨oc, od, doc, pm, an, cdv, ct, osl, p1, p2, p3, q1, q2, q3, q4, r1, r2, r3, r4, rfl, _⟩ := D.ex
    exact .of_eq (by first | rfl | with_unfolding_all rfl)
  have bk : ∀ (s : Shared) (x v u : Value), BindsTo s fd ⟨[x], [("things", u), ("rule", v)]⟩ [("self", x), ("rule", v), ("things", u)] := fun s x v u => by
    obtain ⟨oc, od, doc, pm, an, cdv, ct, osl, p1, p2, p3, q1, q2, q3, q4, r1, r2, r3, r4, rfl, _⟩ := D.ex
    exact .of_eq (by first | rfl | with_unfolding_all rfl)
  refine ⟨g, ⟨bmB, B, newId, initId, fI, FB, T, iC, tI, fun us hl => ?_, fun us hl => ?_⟩, by decide⟩
  · match us, hl with
    | [v, u], _ => exact fun A R s x t0 X hlim hx hnx hroom hq => init_two SF T D X hlim hx hnx hroom (bp s _ v u) hq
  · match us, hl with
    | [u, v], _ => exact fun A R s x t0 X hlim hx hnx hroom hq => init_two SF T D X hlim hx hnx hroom (bk s _ v u) hq
end
open He
theorem kwN_ok {K : PySem.W.Frag} {p : Str × Option Str} {oc : Value} {od : Option Addr} {osl : Array (Option Value)} {x q : Str} {pa : Arguments} {b : List Stmt} {sc : Scope} {dV kV doc pm cd ct : Value} {an : Option Addr}
    (lk : K.lookup (fAd K p) = some ⟨oc, od, .func (PySem.W.fnOf x q pa b sc dV kV doc pm an cd ct), osl⟩) (h : kwN K p = true) : kV = .none := by
  unfold kwN at h
  rw [lk] at h
  cases kV with
  | none => rfl
  | _ => cases h
theorem exc_of {K : PySem.W.Frag} {C : Addr} {bm : List Value} {nw : String} {fn : List Str} (T : XB K bm nw C fn) (h : excB K = true) : ExcC K C := by
  obtain ⟨c1, c2⟩ := Bool.and_eq_true_iff.mp h
  exact ⟨T.ga, T.gg, T.exc, T.hd, T.ca, of_decide_eq_true c1, of_decide_eq_true c2, T.mo⟩
/-- the tuple at a -/
theorem tupK_ok {K : PySem.W.Frag} {a : Addr} {vs : List V} (h : tupK K a vs = true) (H : Hp) : SqT K H a vs := by
  unfold tupK at h
  cases q : K.lookup a with
  | none =>
    rw [q] at h
    cases h
  | some o =>
    obtain ⟨oc, od, dt, osl⟩ := o
    rw [q] at h
    cases oc with
    | type c =>
      cases dt with
      | seq its n =>
        obtain ⟨h1, h2⟩ := ba (show (decide (c = "tuple") && (decide (its.size ≤ sizeLine) && relAll vs its.toList)) = true from h)
        obtain ⟨h3, h4⟩ := ba h2
        exact .inr ⟨_, its, n, q, congrArg Value.type (of_decide_eq_true h1), rfl, of_decide_eq_true h3, relAll_ok h4⟩
      | _ => cases h
    | _ => cases dt <;> cases h
/-- what the written part says of the sizes -/
theorem sizes_of {K : PySem.W.Frag} {w : World} {mg : Str → Option Value} {es : Array DictEntry} {n : Nat} (g : mg "_SIZES" = some (.ref (ga K "_SIZES"))) (D : KDict K w (ga K "_SIZES") es n) (h : sizesB K = true) : SizesC K w mg (ga K "_SIZES") es n (szA K "lot") (szA K "rest") (szA K "terms") := by
  obtain ⟨h1, h⟩ := ba h
  obtain ⟨h2, h⟩ := ba h
  obtain ⟨h3, h⟩ := ba h
  obtain ⟨h4, h5⟩ := ba h
  have hs := List.all_eq_true.mp h2
  refine ⟨g, D, fun k hk => ?_, eqO_ok (hs "lot" (by simp)), eqO_ok (hs "rest" (by simp)), eqO_ok (hs "terms" (by simp)), tupK_ok h3, tupK_ok h4, tupK_ok h5⟩
  refine eqO_ok (List.all_eq_true.mp h1 _ ?_)
  cases k with
  | lot n => cases hk
  | rest n => cases hk
  | terms n => cases hk
  | _ => simp [nameOf]
theorem rules_of {K : PySem.W.Frag} {mg : Str → Option Value} (g : mg "_RULES" = some (.ref (ga K "_RULES"))) (h : rulesB K = true) : RulesAt K mg (ga K "_RULES") (tR K) (fR K) := by
  obtain ⟨h1, h⟩ := ba h
  obtain ⟨h2, h3⟩ := ba h
  refine ⟨g, tupK_ok h1, fun i hi => ?_, fun i j hi hj e => ?_⟩
  · have h5 := tupK_ok (List.all_eq_true.mp h2 i (List.mem_range.mpr hi))
    have e1 : rnmK.getD i "" = rname i := by
      match i, hi with
      | 0, _ => rfl
      | 1, _ => rfl
      | 2, _ => rfl
      | 3, _ => rfl
      | 4, _ => rfl
      | 5, _ => rfl
      | 6, _ => rfl
      | 7, _ => rfl
    have e2 : aryK.getD i 0 = (arity i : Int) := by
      match i, hi with
      | 0, _ => rfl
      | 1, _ => rfl
      | 2, _ => rfl
      | 3, _ => rfl
      | 4, _ => rfl
      | 5, _ => rfl
      | 6, _ => rfl
      | 7, _ => rfl
    rw [e1, e2] at h5
    exact h5
  have h4 := List.all_eq_true.mp (List.all_eq_true.mp h3 i (List.mem_range.mpr hi)) j (List.mem_range.mpr hj)
  rcases (Bool.or_eq_true _ _).mp h4 with h5 | h5
  · exact of_decide_eq_true h5
  · rw [decide_eq_true e] at h5
    cases h5
theorem notr_of {K : PySem.W.Frag} (h : notrB K = true) : NotR K (ga K "Ring") := by
  have hs := fun x hx => of_decide_eq_true (List.all_eq_true.mp h x hx)
  exact ⟨hs "NoneType" (by simp), hs "bool" (by simp), hs "int" (by simp), hs "str" (by simp), hs "tuple" (by simp), hs "list" (by simp), hs "dict" (by simp)⟩
theorem okC_of {K : PySem.W.Frag} {x : Str} (c : (Fa.cls x).ok K = true) (h : noB K x = true) : OkC K (ga K x) := ⟨cls_ok c, fun f hf => eqO_ok (List.all_eq_true.mp h f hf)⟩
theorem meth_of {K : PySem.W.Frag} {x m : Str} {p : Str × Option Str} (h : methB K x m p = true) : Meth K (ga K x) m (fAd K p) := by
  obtain ⟨h1, h⟩ := ba h
  obtain ⟨h2, h3⟩ := ba h
  exact ⟨eqO_ok h1, h2, h3⟩
theorem mths_of {K : PySem.W.Frag} (h : mthsB K = true) (x m c : Str) (hm : (x, m, c) ∈ mths) : Meth K (ga K x) m (fAd K (c, some m)) := meth_of (List.all_eq_true.mp h _ hm)
theorem base_of {K : PySem.W.Frag} {mg : Str → Option Value} {x : Str} {p : Str × Option Str} (g : mg x = some (.ref (ga K x))) (h : baseB K x p = true) : BaseI K mg x (fAd K p) := by
  obtain ⟨h1, h⟩ := ba h
  obtain ⟨h2, h3⟩ := ba h
  refine ⟨_, _, g, ⟨h1, eqO_ok h2⟩, ?_⟩
  cases q : PySem.W.findCls K (.ref (ga K x)) (.type "type") "__init__" with
  | none =>
    rw [q] at h3
    cases h3
  | some r =>
    rw [q] at h3
    cases r with
    | val u =>
      cases u with
      | ref a =>
        have e : a = fAd K p := of_decide_eq_true h3
        subst e
        exact ⟨q, rfl⟩
      | _ => cases h3
    | _ => cases h3
theorem ring_ofE {K : PySem.W.Frag} (ok : OkC K (ga K "Ring")) (hx : excB K = true) (h : ringB K = true) : RingF K (ga K "Ring") := by
  obtain ⟨c1, c2⟩ := Bool.and_eq_true_iff.mp hx
  obtain ⟨h1, h⟩ := ba h
  obtain ⟨h2, h3⟩ := ba h
  exact { ok := ok, hgn := of_decide_eq_true c1, htk := of_decide_eq_true c2, hcl := eqO_ok h1, hmo := of_decide_eq_true h2, rr := of_decide_eq_true h3 }
/-- the classes of kinds -/
theorem kc_of {K : PySem.W.Frag} (h : kcB K = true) (hc : ∀ x ∈ (["Truth", "Count", "Bounded", "Narrow", "Share", "Lot", "Pair", "Rest", "Terms", "Table"] : List Str), (Fa.cls x).ok K = true) : ClsK K (kcOf K) := by
  obtain ⟨h1, h2⟩ := ba h
  refine ⟨of_decide_eq_true h1, fun c hcm => ?_⟩
  have hm : ∃ x ∈ (["Truth", "Count", "Bounded", "Narrow", "Share", "Lot", "Pair", "Rest", "Terms", "Table"] : List Str), c = ga K x := by
    have : c = ga K "Truth" ∨ c = ga K "Count" ∨ c = ga K "Bounded" ∨ c = ga K "Narrow" ∨ c = ga K "Share" ∨ c = ga K "Lot" ∨ c = ga K "Pair" ∨ c = ga K "Rest" ∨ c = ga K "Terms" ∨ c = ga K "Table" := by simpa [KC.all, kcOf] using hcm
    rcases this with h | h | h | h | h | h | h | h | h | h
    · exact ⟨_, by simp, h⟩
    · exact ⟨_, by simp, h⟩
    · exact ⟨_, by simp, h⟩
    · exact ⟨_, by simp, h⟩
    · exact ⟨_, by simp, h⟩
    · exact ⟨_, by simp, h⟩
    · exact ⟨_, by simp, h⟩
    · exact ⟨_, by simp, h⟩
    · exact ⟨_, by simp, h⟩
    · exact ⟨_, by simp, h⟩
  obtain ⟨x, hx, rfl⟩ := hm
  exact okC_of (hc x hx) (List.all_eq_true.mp h2 x hx)
/-- a family over the classes -/
theorem fam_mem {α : Type} {d : α} : ∀ {l : List (Addr × α)}, (l.map Prod.fst).Nodup → ∀ p ∈ l, fam d l p.1 = p.2
  | (a, x) :: r, nd, p, hp => by
    have nd : (a :: r.map Prod.fst).Nodup := nd
    rw [List.nodup_cons] at nd
    rcases List.mem_cons.mp hp with rfl | hp
    · exact if_pos rfl
    · have : p.1 ≠ a := fun e => nd.1 (e ▸ List.mem_map_of_mem hp)
      exact (if_neg this).trans (fam_mem nd.2 p hp)
theorem fam_all {α : Type} {d : α} {l : List (Addr × α)} {M : Addr → α → Prop} (nd : (l.map Prod.fst).Nodup) (h : ∀ p ∈ l, M p.1 p.2) : ∀ c ∈ l.map Prod.fst, M c (fam d l c) := fun c hc => by
  obtain ⟨p, hp, rfl⟩ := List.mem_map.mp hc
  rw [fam_mem nd p hp]
  exact h p hp
section
variable {prog : Program} {w : World} {K : PySem.W.Frag} {mg : Str → Option Value} {C fI : Addr} {bmB : List Value} {B newId initId : String} {qual nm : Str} {fd : FuncData}
end
theorem famW_of {K : PySem.W.Frag} {mg : Str → Option Value} (gR : mg "BadRing" = some (.ref (ga K "BadRing"))) (gC : mg "NotClosed" = some (.ref (ga K "NotClosed"))) (gW : mg "BadWeb" = some (.ref (ga K "BadWeb"))) (gN : mg "BadNumber" = some (.ref (ga K "BadNumber"))) (gP : mg "BadPath" = some (.ref (ga K "BadPath"))) (gO : mg "NoOrder" = some (.ref (ga K "NoOrder"))) (gF : mg "Refused" = some (.ref (ga K "Refused"))) (gU : mg "Unreckoned" = some (.ref (ga K "Unreckoned"))) (ec : ∀ i, i < 5 → ExcC K ((⟨ga K "BadRing", ga K "NotClosed", ga K "BadWeb", ga K "BadNumber", ga K "BadPath"⟩ : Bads).cls i)) (h : famWB K = true) : FamW K mg (⟨ga K "BadRing", ga K "NotClosed", ga K "BadWeb", ga K "BadNumber", ga K "BadPath"⟩ : Bads) (ga K "NoOrder") (ga K "Refused") (ga K "Unreckoned") := by
  obtain ⟨h1, h⟩ := ba h
  obtain ⟨h2, h3⟩ := ba h
  refine ⟨gR, gC, gW, gN, gP, gO, gF, gU, ec, fun i j hi hj => ?_, fun i hi => ?_, of_decide_eq_true h3⟩
  · have h4 := of_decide_eq_true (List.all_eq_true.mp (List.all_eq_true.mp h1 i (List.mem_range.mpr hi)) j (List.mem_range.mpr hj))
    match i, hi, j, hj with
    | 0, _, 0, _ => exact h4
    | 0, _, 1, _ => exact h4
    | 0, _, 2, _ => exact h4
    | 0, _, 3, _ => exact h4
    | 0, _, 4, _ => exact h4
    | 0, _, 5, _ => exact h4
    | 1, _, 0, _ => exact h4
    | 1, _, 1, _ => exact h4
    | 1, _, 2, _ => exact h4
    | 1, _, 3, _ => exact h4
    | 1, _, 4, _ => exact h4
    | 1, _, 5, _ => exact h4
    | 2, _, 0, _ => exact h4
    | 2, _, 1, _ => exact h4
    | 2, _, 2, _ => exact h4
    | 2, _, 3, _ => exact h4
    | 2, _, 4, _ => exact h4
    | 2, _, 5, _ => exact h4
    | 3, _, 0, _ => exact h4
    | 3, _, 1, _ => exact h4
    | 3, _, 2, _ => exact h4
    | 3, _, 3, _ => exact h4
    | 3, _, 4, _ => exact h4
    | 3, _, 5, _ => exact h4
    | 4, _, 0, _ => exact h4
    | 4, _, 1, _ => exact h4
    | 4, _, 2, _ => exact h4
    | 4, _, 3, _ => exact h4
    | 4, _, 4, _ => exact h4
    | 4, _, 5, _ => exact h4
  · have h4 := of_decide_eq_true (List.all_eq_true.mp h2 i (List.mem_range.mpr hi))
    match i, hi with
    | 0, _ => exact h4
    | 1, _ => exact h4
    | 2, _ => exact h4
    | 3, _ => exact h4
    | 4, _ => exact h4
end D1
end
section
set_option Elab.async false
set_option linter.all false
set_option maxRecDepth 100000
set_option maxHeartbeats 4000000
/-! S15: the end -/
namespace D1
open PySem PySem.Spec PyProof.Rows L2 PySem.VX
theorem ini1_BadRing {K : PySem.W.Frag} {fd : FuncData} (F : FnM K "BadRing" "__init__" (meth 4 0) (He.fAd K ("BadRing", some "__init__")) fd) (h : kwN K ("BadRing", some "__init__") = true) : Ini1 K (He.fAd K ("BadRing", some "__init__")) ("BadRing" ++ "." ++ "__init__") "what" fd := by
  obtain ⟨oc, od, dV, kV, doc, pm, an, cdv, ct, osl, rfl, lk, hcd, hD, _⟩ := F.ex
  obtain rfl := kwN_ok lk h
  rcases hD with ⟨_, rfl⟩ | ⟨hn, _⟩
  · exact ⟨⟨oc, od, doc, pm, an, cdv, ct, osl, _, _, _, _, _, _, rfl, lk, hcd⟩⟩
  · exact absurd rfl hn
theorem ini1_NotClosed {K : PySem.W.Frag} {fd : FuncData} (F : FnM K "NotClosed" "__init__" (meth 13 0) (He.fAd K ("NotClosed", some "__init__")) fd) (h : kwN K ("NotClosed", some "__init__") = true) : Ini1 K (He.fAd K ("NotClosed", some "__init__")) ("NotClosed" ++ "." ++ "__init__") "why" fd := by
  obtain ⟨oc, od, dV, kV, doc, pm, an, cdv, ct, osl, rfl, lk, hcd, hD, _⟩ := F.ex
  obtain rfl := kwN_ok lk h
  rcases hD with ⟨_, rfl⟩ | ⟨hn, _⟩
  · exact ⟨⟨oc, od, doc, pm, an, cdv, ct, osl, _, _, _, _, _, _, rfl, lk, hcd⟩⟩
  · exact absurd rfl hn
theorem ini1_BadWeb {K : PySem.W.Frag} {fd : FuncData} (F : FnM K "BadWeb" "__init__" (meth 8 0) (He.fAd K ("BadWeb", some "__init__")) fd) (h : kwN K ("BadWeb", some "__init__") = true) : Ini1 K (He.fAd K ("BadWeb", some "__init__")) ("BadWeb" ++ "." ++ "__init__") "why" fd := by
  obtain ⟨oc, od, dV, kV, doc, pm, an, cdv, ct, osl, rfl, lk, hcd, hD, _⟩ := F.ex
  obtain rfl := kwN_ok lk h
  rcases hD with ⟨_, rfl⟩ | ⟨hn, _⟩
  · exact ⟨⟨oc, od, doc, pm, an, cdv, ct, osl, _, _, _, _, _, _, rfl, lk, hcd⟩⟩
  · exact absurd rfl hn
theorem ini1_BadNumber {K : PySem.W.Frag} {fd : FuncData} (F : FnM K "BadNumber" "__init__" (meth 7 0) (He.fAd K ("BadNumber", some "__init__")) fd) (h : kwN K ("BadNumber", some "__init__") = true) : Ini1 K (He.fAd K ("BadNumber", some "__init__")) ("BadNumber" ++ "." ++ "__init__") "why" fd := by
  obtain ⟨oc, od, dV, kV, doc, pm, an, cdv, ct, osl, rfl, lk, hcd, hD, _⟩ := F.ex
  obtain rfl := kwN_ok lk h
  rcases hD with ⟨_, rfl⟩ | ⟨hn, _⟩
  · exact ⟨⟨oc, od, doc, pm, an, cdv, ct, osl, _, _, _, _, _, _, rfl, lk, hcd⟩⟩
  · exact absurd rfl hn
theorem ini1_BadPath {K : PySem.W.Frag} {fd : FuncData} (F : FnM K "BadPath" "__init__" (meth 9 0) (He.fAd K ("BadPath", some "__init__")) fd) (h : kwN K ("BadPath", some "__init__") = true) : Ini1 K (He.fAd K ("BadPath", some "__init__")) ("BadPath" ++ "." ++ "__init__") "why" fd := by
  obtain ⟨oc, od, dV, kV, doc, pm, an, cdv, ct, osl, rfl, lk, hcd, hD, _⟩ := F.ex
  obtain rfl := kwN_ok lk h
  rcases hD with ⟨_, rfl⟩ | ⟨hn, _⟩
  · exact ⟨⟨oc, od, doc, pm, an, cdv, ct, osl, _, _, _, _, _, _, rfl, lk, hcd⟩⟩
  · exact absurd rfl hn
theorem facts {P : Program} {w : World} {K : PySem.W.Frag} {h : Heap} {mg : Str → Option Value} {f : Addr} (X : K.In h) (G : h.Ns mainGlobals mg) (hfa : mg ("law" : Str) = some (.ref f)) (cc : W15.SaysL w K) :
    ∃ fd : FuncData, (∀ (s : Shared) (v : Value), BindsTo s fd ⟨[v], []⟩ [("_law_script", v)]) ∧ ∀ base : Heap, K.In base → base.Ns mainGlobals mg → FnG P w K mg base CX0 15 f fd ["_law_script"] (spLaw K) := by
  have c : He.SaysD W15.fa W15.fn K := cc.d
  obtain ⟨fd_is_number, F_is_number⟩ := c.def_ 0 rfl
  obtain ⟨fd_is_whole, F_is_whole⟩ := c.def_ 1 rfl
  obtain ⟨fd_kind_of, F_kind_of⟩ := c.def_ 2 rfl
  obtain ⟨fd__sized_kind, F__sized_kind⟩ := c.def_ 3 rfl
  obtain ⟨fd__bare_kind, F__bare_kind⟩ := c.def_ 4 rfl
  obtain ⟨fd_need_ring, F_need_ring⟩ := c.def_ 5 rfl
  obtain ⟨fd_need_web, F_need_web⟩ := c.def_ 6 rfl
  obtain ⟨fd__is_web, F__is_web⟩ := c.def_ 7 rfl
  obtain ⟨fd__is_step, F__is_step⟩ := c.def_ 8 rfl
  obtain ⟨fd_need_state, F_need_state⟩ := c.def_ 9 rfl
  obtain ⟨fd_is_path, F_is_path⟩ := c.def_ 10 rfl
  obtain ⟨fd_path_weight, F_path_weight⟩ := c.def_ 11 rfl
  obtain ⟨fd_by_states, F_by_states⟩ := c.def_ 12 rfl
  obtain ⟨fd_by_best, F_by_best⟩ := c.def_ 13 rfl
  obtain ⟨fd__sum_turned, F__sum_turned⟩ := c.def_ 14 rfl
  obtain ⟨fd__sum_joined, F__sum_joined⟩ := c.def_ 15 rfl
  obtain ⟨fd__zero, F__zero⟩ := c.def_ 16 rfl
  obtain ⟨fd__product_turned, F__product_turned⟩ := c.def_ 17 rfl
  obtain ⟨fd__product_joined, F__product_joined⟩ := c.def_ 18 rfl
  obtain ⟨fd__one, F__one⟩ := c.def_ 19 rfl
  obtain ⟨fd__nought, F__nought⟩ := c.def_ 20 rfl
  obtain ⟨fd__spread, F__spread⟩ := c.def_ 21 rfl
  obtain ⟨fd__joined, F__joined⟩ := c.def_ 22 rfl
  obtain ⟨fd_first_broken, F_first_broken⟩ := c.def_ 23 rfl
  obtain ⟨fd__rows, F__rows⟩ := c.def_ 24 rfl
  obtain ⟨fd_ring_of, F_ring_of⟩ := c.def_ 25 rfl
  obtain ⟨fd__has_form, F__has_form⟩ := c.def_ 26 rfl
  obtain ⟨fd__are_tables, F__are_tables⟩ := c.def_ 27 rfl
  obtain ⟨fd__is_table, F__is_table⟩ := c.def_ 28 rfl
  obtain ⟨fd__is_row, F__is_row⟩ := c.def_ 29 rfl
  obtain ⟨fd__tables, F__tables⟩ := c.def_ 30 rfl
  obtain ⟨fd_by_rounds, F_by_rounds⟩ := c.def_ 31 rfl
  obtain ⟨fd_why_endless, F_why_endless⟩ := c.def_ 32 rfl
  obtain ⟨fd_paper, F_paper⟩ := c.def_ 33 rfl
  obtain ⟨fd_check, F_check⟩ := c.def_ 34 rfl
  obtain ⟨fd_mixed, F_mixed⟩ := c.def_ 35 rfl
  obtain ⟨fd_draw, F_draw⟩ := c.def_ 36 rfl
  obtain ⟨fd_next, F_next⟩ := c.def_ 37 rfl
  obtain ⟨fd_ring, F_ring⟩ := c.def_ 38 rfl
  obtain ⟨fd_zero, F_zero⟩ := c.def_ 39 rfl
  obtain ⟨fd_one, F_one⟩ := c.def_ 40 rfl
  obtain ⟨fd_lowest, F_lowest⟩ := c.def_ 41 rfl
  obtain ⟨fd_weight, F_weight⟩ := c.def_ 42 rfl
  obtain ⟨fd_turned, F_turned⟩ := c.def_ 43 rfl
  obtain ⟨fd_web, F_web⟩ := c.def_ 44 rfl
  obtain ⟨fd_whole, F_whole⟩ := c.def_ 45 rfl
  obtain ⟨fd_good, F_good⟩ := c.def_ 46 rfl
  obtain ⟨fd_is_web, F_is_web⟩ := c.def_ 47 rfl
  obtain ⟨fd_spoilt, F_spoilt⟩ := c.def_ 48 rfl
  obtain ⟨fd_open, F_open⟩ := c.def_ 49 rfl
  obtain ⟨fd_word, F_word⟩ := c.def_ 50 rfl
  obtain ⟨fd_told, F_told⟩ := c.def_ 51 rfl
  obtain ⟨fd_in_order, F_in_order⟩ := c.def_ 52 rfl
  obtain ⟨fd_law, F_law⟩ := c.def_ 53 rfl
  obtain ⟨fd_Kind_init, F_Kind_init⟩ := c.def_ 54 rfl
  obtain ⟨fd_Counted_init, F_Counted_init⟩ := c.def_ 55 rfl
  obtain ⟨fd_Finite_init, F_Finite_init⟩ := c.def_ 56 rfl
  obtain ⟨fd_Truth_init, F_Truth_init⟩ := c.def_ 57 rfl
  obtain ⟨fd_Count_init, F_Count_init⟩ := c.def_ 58 rfl
  obtain ⟨fd_Bounded_init, F_Bounded_init⟩ := c.def_ 59 rfl
  obtain ⟨fd_Narrow_init, F_Narrow_init⟩ := c.def_ 60 rfl
  obtain ⟨fd_Share_init, F_Share_init⟩ := c.def_ 61 rfl
  obtain ⟨fd_Lot_init, F_Lot_init⟩ := c.def_ 62 rfl
  obtain ⟨fd_Pair_init, F_Pair_init⟩ := c.def_ 63 rfl
  obtain ⟨fd_Rest_init, F_Rest_init⟩ := c.def_ 64 rfl
  obtain ⟨fd_Terms_init, F_Terms_init⟩ := c.def_ 65 rfl
  obtain ⟨fd_Table_init, F_Table_init⟩ := c.def_ 66 rfl
  obtain ⟨fd_Ring_init, F_Ring_init⟩ := c.def_ 67 rfl
  obtain ⟨fd_BadRing_init, F_BadRing_init⟩ := c.def_ 68 rfl
  obtain ⟨fd_NotClosed_init, F_NotClosed_init⟩ := c.def_ 69 rfl
  obtain ⟨fd_BadWeb_init, F_BadWeb_init⟩ := c.def_ 70 rfl
  obtain ⟨fd_BadNumber_init, F_BadNumber_init⟩ := c.def_ 71 rfl
  obtain ⟨fd_BadPath_init, F_BadPath_init⟩ := c.def_ 72 rfl
  obtain ⟨fd_Kind_text, F_Kind_text⟩ := c.def_ 73 rfl
  obtain ⟨fd_Kind_zero, F_Kind_zero⟩ := c.def_ 74 rfl
  obtain ⟨fd_Kind_one, F_Kind_one⟩ := c.def_ 75 rfl
  obtain ⟨fd_Kind_closed, F_Kind_closed⟩ := c.def_ 76 rfl
  obtain ⟨fd_Endless_closed, F_Endless_closed⟩ := c.def_ 77 rfl
  obtain ⟨fd_Topped_closed, F_Topped_closed⟩ := c.def_ 78 rfl
  obtain ⟨fd_Pair_closed, F_Pair_closed⟩ := c.def_ 79 rfl
  obtain ⟨fd_Counted_fits, F_Counted_fits⟩ := c.def_ 80 rfl
  obtain ⟨fd_Bounded_fits, F_Bounded_fits⟩ := c.def_ 81 rfl
  obtain ⟨fd_Finite_fits, F_Finite_fits⟩ := c.def_ 82 rfl
  obtain ⟨fd_Counted_good, F_Counted_good⟩ := c.def_ 83 rfl
  obtain ⟨fd_Truth_good, F_Truth_good⟩ := c.def_ 84 rfl
  obtain ⟨fd_Share_good, F_Share_good⟩ := c.def_ 85 rfl
  obtain ⟨fd_Lot_good, F_Lot_good⟩ := c.def_ 86 rfl
  obtain ⟨fd_Pair_good, F_Pair_good⟩ := c.def_ 87 rfl
  obtain ⟨fd_Terms_good, F_Terms_good⟩ := c.def_ 88 rfl
  obtain ⟨fd_Ring_made, F_Ring_made⟩ := c.def_ 89 rfl
  obtain ⟨fd_Ring_is_closed, F_Ring_is_closed⟩ := c.def_ 90 rfl
  obtain ⟨fd_Ring_good, F_Ring_good⟩ := c.def_ 91 rfl
  have g_is_number := He.glo_ok X G (c.fact 0 (f := .glo "is_number") rfl)
  have g_is_whole := He.glo_ok X G (c.fact 1 (f := .glo "is_whole") rfl)
  have g_kind_of := He.glo_ok X G (c.fact 2 (f := .glo "kind_of") rfl)
  have g__sized_kind := He.glo_ok X G (c.fact 3 (f := .glo "_sized_kind") rfl)
  have g__bare_kind := He.glo_ok X G (c.fact 4 (f := .glo "_bare_kind") rfl)
  have g_need_ring := He.glo_ok X G (c.fact 5 (f := .glo "need_ring") rfl)
  have g_need_web := He.glo_ok X G (c.fact 6 (f := .glo "need_web") rfl)
  have g__is_web := He.glo_ok X G (c.fact 7 (f := .glo "_is_web") rfl)
  have g__is_step := He.glo_ok X G (c.fact 8 (f := .glo "_is_step") rfl)
  have g_need_state := He.glo_ok X G (c.fact 9 (f := .glo "need_state") rfl)
  have g_is_path := He.glo_ok X G (c.fact 10 (f := .glo "is_path") rfl)
  have g_path_weight := He.glo_ok X G (c.fact 11 (f := .glo "path_weight") rfl)
  have g_by_states := He.glo_ok X G (c.fact 12 (f := .glo "by_states") rfl)
  have g_by_best := He.glo_ok X G (c.fact 13 (f := .glo "by_best") rfl)
  have g__joined := He.glo_ok X G (c.fact 14 (f := .glo "_joined") rfl)
  have g_first_broken := He.glo_ok X G (c.fact 15 (f := .glo "first_broken") rfl)
  have g__rows := He.glo_ok X G (c.fact 16 (f := .glo "_rows") rfl)
  have g_ring_of := He.glo_ok X G (c.fact 17 (f := .glo "ring_of") rfl)
  have g__has_form := He.glo_ok X G (c.fact 18 (f := .glo "_has_form") rfl)
  have g__are_tables := He.glo_ok X G (c.fact 19 (f := .glo "_are_tables") rfl)
  have g__is_table := He.glo_ok X G (c.fact 20 (f := .glo "_is_table") rfl)
  have g__is_row := He.glo_ok X G (c.fact 21 (f := .glo "_is_row") rfl)
  have g__tables := He.glo_ok X G (c.fact 22 (f := .glo "_tables") rfl)
  have g_by_rounds := He.glo_ok X G (c.fact 23 (f := .glo "by_rounds") rfl)
  have g_why_endless := He.glo_ok X G (c.fact 24 (f := .glo "why_endless") rfl)
  have g_paper := He.glo_ok X G (c.fact 25 (f := .glo "paper") rfl)
  have g_check := He.glo_ok X G (c.fact 26 (f := .glo "check") rfl)
  have g_mixed := He.glo_ok X G (c.fact 27 (f := .glo "_law_mixed") rfl)
  have g_draw := He.glo_ok X G (c.fact 28 (f := .glo "_law_draw") rfl)
  have g_next := He.glo_ok X G (c.fact 29 (f := .glo "_law_next") rfl)
  have g_ring := He.glo_ok X G (c.fact 30 (f := .glo "_law_ring") rfl)
  have g_zero := He.glo_ok X G (c.fact 31 (f := .glo "_law_zero") rfl)
  have g_one := He.glo_ok X G (c.fact 32 (f := .glo "_law_one") rfl)
  have g_lowest := He.glo_ok X G (c.fact 33 (f := .glo "_law_lowest") rfl)
  have g_weight := He.glo_ok X G (c.fact 34 (f := .glo "_law_weight") rfl)
  have g_turned := He.glo_ok X G (c.fact 35 (f := .glo "_law_turned") rfl)
  have g_web := He.glo_ok X G (c.fact 36 (f := .glo "_law_web") rfl)
  have g_whole := He.glo_ok X G (c.fact 37 (f := .glo "_law_whole") rfl)
  have g_good := He.glo_ok X G (c.fact 38 (f := .glo "_law_good") rfl)
  have g_is_web := He.glo_ok X G (c.fact 39 (f := .glo "_law_is_web") rfl)
  have g_spoilt := He.glo_ok X G (c.fact 40 (f := .glo "_law_spoilt") rfl)
  have g_open := He.glo_ok X G (c.fact 41 (f := .glo "_law_open") rfl)
  have g_word := He.glo_ok X G (c.fact 42 (f := .glo "_law_word") rfl)
  have g_told := He.glo_ok X G (c.fact 43 (f := .glo "_law_told") rfl)
  have g_in_order := He.glo_ok X G (c.fact 44 (f := .glo "_law_in_order") rfl)
  have g_law := He.glo_ok X G (c.fact 45 (f := .glo "law") rfl)
  have g_Refused := He.glo_ok X G (c.fact 46 (f := .glo "Refused") rfl)
  have g_BadRing := He.glo_ok X G (c.fact 47 (f := .glo "BadRing") rfl)
  have g_BadNumber := He.glo_ok X G (c.fact 48 (f := .glo "BadNumber") rfl)
  have g_BadWeb := He.glo_ok X G (c.fact 49 (f := .glo "BadWeb") rfl)
  have g_BadPath := He.glo_ok X G (c.fact 50 (f := .glo "BadPath") rfl)
  have g_Unreckoned := He.glo_ok X G (c.fact 51 (f := .glo "Unreckoned") rfl)
  have g_NoOrder := He.glo_ok X G (c.fact 52 (f := .glo "NoOrder") rfl)
  have g_NotClosed := He.glo_ok X G (c.fact 53 (f := .glo "NotClosed") rfl)
  have g_Kind := He.glo_ok X G (c.fact 54 (f := .glo "Kind") rfl)
  have g_Counted := He.glo_ok X G (c.fact 55 (f := .glo "Counted") rfl)
  have g_Endless := He.glo_ok X G (c.fact 56 (f := .glo "Endless") rfl)
  have g_Count := He.glo_ok X G (c.fact 57 (f := .glo "Count") rfl)
  have g_Bounded := He.glo_ok X G (c.fact 58 (f := .glo "Bounded") rfl)
  have g_Narrow := He.glo_ok X G (c.fact 59 (f := .glo "Narrow") rfl)
  have g_Finite := He.glo_ok X G (c.fact 60 (f := .glo "Finite") rfl)
  have g_Rest := He.glo_ok X G (c.fact 61 (f := .glo "Rest") rfl)
  have g_Table := He.glo_ok X G (c.fact 62 (f := .glo "Table") rfl)
  have g_Pair := He.glo_ok X G (c.fact 63 (f := .glo "Pair") rfl)
  have g_Terms := He.glo_ok X G (c.fact 64 (f := .glo "Terms") rfl)
  have g_Topped := He.glo_ok X G (c.fact 65 (f := .glo "Topped") rfl)
  have g_Truth := He.glo_ok X G (c.fact 66 (f := .glo "Truth") rfl)
  have g_Share := He.glo_ok X G (c.fact 67 (f := .glo "Share") rfl)
  have g_Lot := He.glo_ok X G (c.fact 68 (f := .glo "Lot") rfl)
  have g_Ring := He.glo_ok X G (c.fact 69 (f := .glo "Ring") rfl)
  obtain ⟨t_STATES, g_STATES⟩ := He.int_ok X G (c.fact 70 (f := .int "_STATES" 12) rfl)
  obtain ⟨t_STEPS, g_STEPS⟩ := He.int_ok X G (c.fact 71 (f := .int "_STEPS" 80) rfl)
  obtain ⟨t_PAIRS, g_PAIRS⟩ := He.int_ok X G (c.fact 72 (f := .int "_PAIRS" 3) rfl)
  have z_all := He.free_ok X G (c.fact 73 (f := .free "all") rfl)
  have z_bool := He.free_ok X G (c.fact 74 (f := .free "bool") rfl)
  have z_int := He.free_ok X G (c.fact 75 (f := .free "int") rfl)
  have z_isinstance := He.free_ok X G (c.fact 76 (f := .free "isinstance") rfl)
  have z_len := He.free_ok X G (c.fact 77 (f := .free "len") rfl)
  have z_list := He.free_ok X G (c.fact 78 (f := .free "list") rfl)
  have z_max := He.free_ok X G (c.fact 79 (f := .free "max") rfl)
  have z_min := He.free_ok X G (c.fact 80 (f := .free "min") rfl)
  have z_range := He.free_ok X G (c.fact 81 (f := .free "range") rfl)
  have z_repr := He.free_ok X G (c.fact 82 (f := .free "repr") rfl)
  have z_str := He.free_ok X G (c.fact 83 (f := .free "str") rfl)
  have z_tuple := He.free_ok X G (c.fact 84 (f := .free "tuple") rfl)
  have z_zip := He.free_ok X G (c.fact 85 (f := .free "zip") rfl)
  have g__BARE := He.glo_ok X G (c.fact 86 (f := .glo "_BARE") rfl)
  have g__SIZES := He.glo_ok X G (c.fact 87 (f := .glo "_SIZES") rfl)
  have g__THINGS := He.glo_ok X G (c.fact 88 (f := .glo "_THINGS") rfl)
  have g__RULES := He.glo_ok X G (c.fact 89 (f := .glo "_RULES") rfl)
  have c_Truth := c.fact 90 (f := .cls "Truth") rfl
  have c_Count := c.fact 91 (f := .cls "Count") rfl
  have c_Bounded := c.fact 92 (f := .cls "Bounded") rfl
  have c_Narrow := c.fact 93 (f := .cls "Narrow") rfl
  have c_Share := c.fact 94 (f := .cls "Share") rfl
  have c_Lot := c.fact 95 (f := .cls "Lot") rfl
  have c_Pair := c.fact 96 (f := .cls "Pair") rfl
  have c_Rest := c.fact 97 (f := .cls "Rest") rfl
  have c_Terms := c.fact 98 (f := .cls "Terms") rfl
  have c_Table := c.fact 99 (f := .cls "Table") rfl
  have c_Ring := c.fact 100 (f := .cls "Ring") rfl
  have M_Truth := He.mkr_ok (c.fact 101 (f := .mkr "Truth") rfl)
  have M_Count := He.mkr_ok (c.fact 102 (f := .mkr "Count") rfl)
  have M_Bounded := He.mkr_ok (c.fact 103 (f := .mkr "Bounded") rfl)
  have M_Narrow := He.mkr_ok (c.fact 104 (f := .mkr "Narrow") rfl)
  have M_Share := He.mkr_ok (c.fact 105 (f := .mkr "Share") rfl)
  have M_Lot := He.mkr_ok (c.fact 106 (f := .mkr "Lot") rfl)
  have M_Pair := He.mkr_ok (c.fact 107 (f := .mkr "Pair") rfl)
  have M_Rest := He.mkr_ok (c.fact 108 (f := .mkr "Rest") rfl)
  have M_Terms := He.mkr_ok (c.fact 109 (f := .mkr "Terms") rfl)
  have M_Table := He.mkr_ok (c.fact 110 (f := .mkr "Table") rfl)
  have M_Ring := He.mkr_ok (c.fact 111 (f := .mkr "Ring") rfl)
  have hex := cc.more
  obtain ⟨hexA, hex⟩ := Bool.and_eq_true_iff.mp hex
  obtain ⟨x_BadRing, hexA⟩ := Bool.and_eq_true_iff.mp hexA
  obtain ⟨i_BadRing, hexA⟩ := Bool.and_eq_true_iff.mp hexA
  obtain ⟨x_NotClosed, hexA⟩ := Bool.and_eq_true_iff.mp hexA
  obtain ⟨i_NotClosed, hexA⟩ := Bool.and_eq_true_iff.mp hexA
  obtain ⟨x_BadWeb, hexA⟩ := Bool.and_eq_true_iff.mp hexA
  obtain ⟨i_BadWeb, hexA⟩ := Bool.and_eq_true_iff.mp hexA
  obtain ⟨x_BadNumber, hexA⟩ := Bool.and_eq_true_iff.mp hexA
  obtain ⟨i_BadNumber, hexA⟩ := Bool.and_eq_true_iff.mp hexA
  obtain ⟨x_BadPath, hexA⟩ := Bool.and_eq_true_iff.mp hexA
  obtain ⟨i_BadPath, hexA⟩ := Bool.and_eq_true_iff.mp hexA
  obtain ⟨x_W, hexA⟩ := Bool.and_eq_true_iff.mp hexA
  obtain ⟨x_sys, hexA⟩ := Bool.and_eq_true_iff.mp hexA
  obtain ⟨x_E, x_G⟩ := Bool.and_eq_true_iff.mp hexA
  obtain ⟨n_R, hex⟩ := Bool.and_eq_true_iff.mp hex
  obtain ⟨x_K, hex⟩ := Bool.and_eq_true_iff.mp hex
  obtain ⟨x_S, hex⟩ := Bool.and_eq_true_iff.mp hex
  obtain ⟨x_B, hex⟩ := Bool.and_eq_true_iff.mp hex
  obtain ⟨x_M, hex⟩ := Bool.and_eq_true_iff.mp hex
  obtain ⟨x_RU, hex⟩ := Bool.and_eq_true_iff.mp hex
  obtain ⟨x_TH, hex⟩ := Bool.and_eq_true_iff.mp hex
  obtain ⟨x_NR, hex⟩ := Bool.and_eq_true_iff.mp hex
  obtain ⟨x_gcd, hex⟩ := Bool.and_eq_true_iff.mp hex
  obtain ⟨b_Kind, hex⟩ := Bool.and_eq_true_iff.mp hex
  obtain ⟨b_Topped, hex⟩ := Bool.and_eq_true_iff.mp hex
  obtain ⟨b_Endless, hex⟩ := Bool.and_eq_true_iff.mp hex
  obtain ⟨b_Counted, b_Finite⟩ := Bool.and_eq_true_iff.mp hex
  have X_BadRing := xbB_ok x_BadRing
  obtain ⟨v1_BadRing, i_BadRing⟩ := Bool.and_eq_true_iff.mp i_BadRing
  obtain ⟨v2_BadRing, v3_BadRing⟩ := Bool.and_eq_true_iff.mp i_BadRing
  have O_BadRing : OwnX P w K mg "BadRing" (He.ga K "BadRing") [("what" : Str)] := own_what F.excBase_ValueError F.store_ValueError X_BadRing g_BadRing (of_decide_eq_true v2_BadRing) (of_decide_eq_true v3_BadRing) (ini1_BadRing F_BadRing_init v1_BadRing)
  have X_NotClosed := xbB_ok x_NotClosed
  obtain ⟨v1_NotClosed, i_NotClosed⟩ := Bool.and_eq_true_iff.mp i_NotClosed
  obtain ⟨v2_NotClosed, v3_NotClosed⟩ := Bool.and_eq_true_iff.mp i_NotClosed
  have O_NotClosed : OwnX P w K mg "NotClosed" (He.ga K "NotClosed") [("why" : Str)] := own_why F.excBase_ArithmeticError F.store_ArithmeticError X_NotClosed g_NotClosed (of_decide_eq_true v2_NotClosed) (of_decide_eq_true v3_NotClosed) (ini1_NotClosed F_NotClosed_init v1_NotClosed)
  have X_BadWeb := xbB_ok x_BadWeb
  obtain ⟨v1_BadWeb, i_BadWeb⟩ := Bool.and_eq_true_iff.mp i_BadWeb
  obtain ⟨v2_BadWeb, v3_BadWeb⟩ := Bool.and_eq_true_iff.mp i_BadWeb
  have O_BadWeb : OwnX P w K mg "BadWeb" (He.ga K "BadWeb") [("why" : Str)] := own_why F.excBase_ValueError F.store_ValueError X_BadWeb g_BadWeb (of_decide_eq_true v2_BadWeb) (of_decide_eq_true v3_BadWeb) (ini1_BadWeb F_BadWeb_init v1_BadWeb)
  have X_BadNumber := xbB_ok x_BadNumber
  obtain ⟨v1_BadNumber, i_BadNumber⟩ := Bool.and_eq_true_iff.mp i_BadNumber
  obtain ⟨v2_BadNumber, v3_BadNumber⟩ := Bool.and_eq_true_iff.mp i_BadNumber
  have O_BadNumber : OwnX P w K mg "BadNumber" (He.ga K "BadNumber") [("why" : Str)] := own_why F.excBase_ValueError F.store_ValueError X_BadNumber g_BadNumber (of_decide_eq_true v2_BadNumber) (of_decide_eq_true v3_BadNumber) (ini1_BadNumber F_BadNumber_init v1_BadNumber)
  have X_BadPath := xbB_ok x_BadPath
  obtain ⟨v1_BadPath, i_BadPath⟩ := Bool.and_eq_true_iff.mp i_BadPath
  obtain ⟨v2_BadPath, v3_BadPath⟩ := Bool.and_eq_true_iff.mp i_BadPath
  have O_BadPath : OwnX P w K mg "BadPath" (He.ga K "BadPath") [("why" : Str)] := own_why F.excBase_ValueError F.store_ValueError X_BadPath g_BadPath (of_decide_eq_true v2_BadPath) (of_decide_eq_true v3_BadPath) (ini1_BadPath F_BadPath_init v1_BadPath)
  have FW := famW_of g_BadRing g_NotClosed g_BadWeb g_BadNumber g_BadPath g_NoOrder g_Refused g_Unreckoned (fun i hi => match i, hi with
    | 0, _ => exc_of X_BadRing x_E
    | 1, _ => exc_of X_NotClosed x_E
    | 2, _ => exc_of X_BadWeb x_E
    | 3, _ => exc_of X_BadNumber x_E
    | 4, _ => exc_of X_BadPath x_E
    ) x_W
  have hsys : SysK K := Option.isSome_iff_exists.mp x_sys
  have okR := okC_of c_Ring n_R
  have TR := ring_ofE okR x_E x_G
  have T := kc_of x_K (fun x hx => by
    have hx : x = "Truth" ∨ x = "Count" ∨ x = "Bounded" ∨ x = "Narrow" ∨ x = "Share" ∨ x = "Lot" ∨ x = "Pair" ∨ x = "Rest" ∨ x = "Terms" ∨ x = "Table" := by simpa using hx
    rcases hx with rfl | rfl | rfl | rfl | rfl | rfl | rfl | rfl | rfl | rfl <;> assumption)
  have RU := rules_of g__RULES x_RU
  have TH : ThingsK K mg (He.ga K "_THINGS") := ⟨g__THINGS, tupK_ok x_TH⟩
  have NR := notr_of x_NR
  have BA : BareK K mg (He.ga K "_BARE") := ⟨g__BARE, tupK_ok x_B⟩
  obtain ⟨es, nS, KD⟩ := He.dicW_ok cc.tab
  have SZ := sizes_of g__SIZES KD x_S
  have MM := mths_of x_M
  have B_Kind := base_of g_Kind b_Kind
  have B_Topped := base_of g_Topped b_Topped
  have B_Endless := base_of g_Endless b_Endless
  have B_Counted := base_of g_Counted b_Counted
  have B_Finite := base_of g_Finite b_Finite
  have g_gcd : mg "gcd" = some (.builtin "math.gcd") := PySem.W.mg_of X G (He.eqO_ok x_gcd)
  have b_Kind_init : L2.Binds K fd_Kind_init ["self", "text", "zero", "one"] [] := F_Kind_init.bindsN fun _ _ _ _ _ _ us hl => match us, hl with | [_, _, _, _], _ => rfl
  have b_Counted_init : L2.Binds K fd_Counted_init ["self", "text", "zero", "one", "others"] [] := F_Counted_init.bindsN fun _ _ _ _ _ _ us hl => match us, hl with | [_, _, _, _, _], _ => rfl
  have b_Finite_init : L2.Binds K fd_Finite_init ["self", "text", "size"] [] := F_Finite_init.bindsN fun _ _ _ _ _ _ us hl => match us, hl with | [_, _, _], _ => rfl
  have b_Truth_init : L2.Binds K fd_Truth_init ["self"] [] := F_Truth_init.bindsN fun _ _ _ _ _ _ us hl => match us, hl with | [_], _ => rfl
  have b_Count_init : L2.Binds K fd_Count_init ["self"] [] := F_Count_init.bindsN fun _ _ _ _ _ _ us hl => match us, hl with | [_], _ => rfl
  have b_Bounded_init : L2.Binds K fd_Bounded_init ["self", "text", "sign"] [] := F_Bounded_init.bindsN fun _ _ _ _ _ _ us hl => match us, hl with | [_, _, _], _ => rfl
  have b_Narrow_init : L2.Binds K fd_Narrow_init ["self"] [] := F_Narrow_init.bindsN fun _ _ _ _ _ _ us hl => match us, hl with | [_], _ => rfl
  have b_Share_init : L2.Binds K fd_Share_init ["self"] [] := F_Share_init.bindsN fun _ _ _ _ _ _ us hl => match us, hl with | [_], _ => rfl
  have b_Lot_init : L2.Binds K fd_Lot_init ["self", "size"] [] := F_Lot_init.bindsN fun _ _ _ _ _ _ us hl => match us, hl with | [_, _], _ => rfl
  have b_Pair_init : L2.Binds K fd_Pair_init ["self", "left", "right"] [] := F_Pair_init.bindsN fun _ _ _ _ _ _ us hl => match us, hl with | [_, _, _], _ => rfl
  have b_Rest_init : L2.Binds K fd_Rest_init ["self", "divisor"] [] := F_Rest_init.bindsN fun _ _ _ _ _ _ us hl => match us, hl with | [_, _], _ => rfl
  have b_Terms_init : L2.Binds K fd_Terms_init ["self", "unknowns"] [] := F_Terms_init.bindsN fun _ _ _ _ _ _ us hl => match us, hl with | [_, _], _ => rfl
  have b_Table_init : L2.Binds K fd_Table_init ["self", "sums", "products"] [] := F_Table_init.bindsN fun _ _ _ _ _ _ us hl => match us, hl with | [_, _, _], _ => rfl
  have b_Ring_init : L2.Binds K fd_Ring_init ["self", "made"] [] := F_Ring_init.bindsN fun _ _ _ _ _ _ us hl => match us, hl with | [_, _], _ => rfl
  have b_Kind_text : L2.Binds K fd_Kind_text ["self"] [] := F_Kind_text.bindsN fun _ _ _ _ _ _ us hl => match us, hl with | [_], _ => rfl
  have b_Kind_zero : L2.Binds K fd_Kind_zero ["self"] [] := F_Kind_zero.bindsN fun _ _ _ _ _ _ us hl => match us, hl with | [_], _ => rfl
  have b_Kind_one : L2.Binds K fd_Kind_one ["self"] [] := F_Kind_one.bindsN fun _ _ _ _ _ _ us hl => match us, hl with | [_], _ => rfl
  have b_Kind_closed : L2.Binds K fd_Kind_closed ["self"] [] := F_Kind_closed.bindsN fun _ _ _ _ _ _ us hl => match us, hl with | [_], _ => rfl
  have b_Endless_closed : L2.Binds K fd_Endless_closed ["self"] [] := F_Endless_closed.bindsN fun _ _ _ _ _ _ us hl => match us, hl with | [_], _ => rfl
  have b_Topped_closed : L2.Binds K fd_Topped_closed ["self"] [] := F_Topped_closed.bindsN fun _ _ _ _ _ _ us hl => match us, hl with | [_], _ => rfl
  have b_Pair_closed : L2.Binds K fd_Pair_closed ["self"] [] := F_Pair_closed.bindsN fun _ _ _ _ _ _ us hl => match us, hl with | [_], _ => rfl
  have b_Counted_fits : L2.Binds K fd_Counted_fits ["self", "number"] [] := F_Counted_fits.bindsN fun _ _ _ _ _ _ us hl => match us, hl with | [_, _], _ => rfl
  have b_Bounded_fits : L2.Binds K fd_Bounded_fits ["self", "number"] [] := F_Bounded_fits.bindsN fun _ _ _ _ _ _ us hl => match us, hl with | [_, _], _ => rfl
  have b_Finite_fits : L2.Binds K fd_Finite_fits ["self", "number"] [] := F_Finite_fits.bindsN fun _ _ _ _ _ _ us hl => match us, hl with | [_, _], _ => rfl
  have b_Counted_good : L2.Binds K fd_Counted_good ["self", "thing"] [] := F_Counted_good.bindsN fun _ _ _ _ _ _ us hl => match us, hl with | [_, _], _ => rfl
  have b_Truth_good : L2.Binds K fd_Truth_good ["self", "thing"] [] := F_Truth_good.bindsN fun _ _ _ _ _ _ us hl => match us, hl with | [_, _], _ => rfl
  have b_Share_good : L2.Binds K fd_Share_good ["self", "thing"] [] := F_Share_good.bindsN fun _ _ _ _ _ _ us hl => match us, hl with | [_, _], _ => rfl
  have b_Lot_good : L2.Binds K fd_Lot_good ["self", "thing"] [] := F_Lot_good.bindsN fun _ _ _ _ _ _ us hl => match us, hl with | [_, _], _ => rfl
  have b_Pair_good : L2.Binds K fd_Pair_good ["self", "thing"] [] := F_Pair_good.bindsN fun _ _ _ _ _ _ us hl => match us, hl with | [_, _], _ => rfl
  have b_Terms_good : L2.Binds K fd_Terms_good ["self", "thing"] [] := F_Terms_good.bindsN fun _ _ _ _ _ _ us hl => match us, hl with | [_, _], _ => rfl
  have b_Ring_made : L2.Binds K fd_Ring_made ["self"] [] := F_Ring_made.bindsN fun _ _ _ _ _ _ us hl => match us, hl with | [_], _ => rfl
  have b_Ring_is_closed : L2.Binds K fd_Ring_is_closed ["self"] [] := F_Ring_is_closed.bindsN fun _ _ _ _ _ _ us hl => match us, hl with | [_], _ => rfl
  have b_Ring_good : L2.Binds K fd_Ring_good ["self", "thing"] [] := F_Ring_good.bindsN fun _ _ _ _ _ _ us hl => match us, hl with | [_, _], _ => rfl
  have m_Truth_good : Meth K (He.ga K "Truth") "good" (He.fAd K ("Truth", some "good")) := MM "Truth" "good" "Truth" (by decide)
  have m_Count_good : Meth K (He.ga K "Count") "good" (He.fAd K ("Counted", some "good")) := MM "Count" "good" "Counted" (by decide)
  have m_Bounded_good : Meth K (He.ga K "Bounded") "good" (He.fAd K ("Counted", some "good")) := MM "Bounded" "good" "Counted" (by decide)
  have m_Narrow_good : Meth K (He.ga K "Narrow") "good" (He.fAd K ("Counted", some "good")) := MM "Narrow" "good" "Counted" (by decide)
  have m_Share_good : Meth K (He.ga K "Share") "good" (He.fAd K ("Share", some "good")) := MM "Share" "good" "Share" (by decide)
  have m_Lot_good : Meth K (He.ga K "Lot") "good" (He.fAd K ("Lot", some "good")) := MM "Lot" "good" "Lot" (by decide)
  have m_Pair_good : Meth K (He.ga K "Pair") "good" (He.fAd K ("Pair", some "good")) := MM "Pair" "good" "Pair" (by decide)
  have m_Rest_good : Meth K (He.ga K "Rest") "good" (He.fAd K ("Counted", some "good")) := MM "Rest" "good" "Counted" (by decide)
  have m_Terms_good : Meth K (He.ga K "Terms") "good" (He.fAd K ("Terms", some "good")) := MM "Terms" "good" "Terms" (by decide)
  have m_Table_good : Meth K (He.ga K "Table") "good" (He.fAd K ("Counted", some "good")) := MM "Table" "good" "Counted" (by decide)
  have m_Truth_closed : Meth K (He.ga K "Truth") "closed" (He.fAd K ("Topped", some "closed")) := MM "Truth" "closed" "Topped" (by decide)
  have m_Count_closed : Meth K (He.ga K "Count") "closed" (He.fAd K ("Endless", some "closed")) := MM "Count" "closed" "Endless" (by decide)
  have m_Bounded_closed : Meth K (He.ga K "Bounded") "closed" (He.fAd K ("Endless", some "closed")) := MM "Bounded" "closed" "Endless" (by decide)
  have m_Narrow_closed : Meth K (He.ga K "Narrow") "closed" (He.fAd K ("Endless", some "closed")) := MM "Narrow" "closed" "Endless" (by decide)
  have m_Share_closed : Meth K (He.ga K "Share") "closed" (He.fAd K ("Topped", some "closed")) := MM "Share" "closed" "Topped" (by decide)
  have m_Lot_closed : Meth K (He.ga K "Lot") "closed" (He.fAd K ("Topped", some "closed")) := MM "Lot" "closed" "Topped" (by decide)
  have m_Pair_closed : Meth K (He.ga K "Pair") "closed" (He.fAd K ("Pair", some "closed")) := MM "Pair" "closed" "Pair" (by decide)
  have m_Rest_closed : Meth K (He.ga K "Rest") "closed" (He.fAd K ("Kind", some "closed")) := MM "Rest" "closed" "Kind" (by decide)
  have m_Terms_closed : Meth K (He.ga K "Terms") "closed" (He.fAd K ("Kind", some "closed")) := MM "Terms" "closed" "Kind" (by decide)
  have m_Table_closed : Meth K (He.ga K "Table") "closed" (He.fAd K ("Kind", some "closed")) := MM "Table" "closed" "Kind" (by decide)
  have m_Truth_one : Meth K (He.ga K "Truth") "one" (He.fAd K ("Kind", some "one")) := MM "Truth" "one" "Kind" (by decide)
  have m_Count_one : Meth K (He.ga K "Count") "one" (He.fAd K ("Kind", some "one")) := MM "Count" "one" "Kind" (by decide)
  have m_Bounded_one : Meth K (He.ga K "Bounded") "one" (He.fAd K ("Kind", some "one")) := MM "Bounded" "one" "Kind" (by decide)
  have m_Narrow_one : Meth K (He.ga K "Narrow") "one" (He.fAd K ("Kind", some "one")) := MM "Narrow" "one" "Kind" (by decide)
  have m_Share_one : Meth K (He.ga K "Share") "one" (He.fAd K ("Kind", some "one")) := MM "Share" "one" "Kind" (by decide)
  have m_Lot_one : Meth K (He.ga K "Lot") "one" (He.fAd K ("Kind", some "one")) := MM "Lot" "one" "Kind" (by decide)
  have m_Pair_one : Meth K (He.ga K "Pair") "one" (He.fAd K ("Kind", some "one")) := MM "Pair" "one" "Kind" (by decide)
  have m_Rest_one : Meth K (He.ga K "Rest") "one" (He.fAd K ("Kind", some "one")) := MM "Rest" "one" "Kind" (by decide)
  have m_Terms_one : Meth K (He.ga K "Terms") "one" (He.fAd K ("Kind", some "one")) := MM "Terms" "one" "Kind" (by decide)
  have m_Table_one : Meth K (He.ga K "Table") "one" (He.fAd K ("Kind", some "one")) := MM "Table" "one" "Kind" (by decide)
  have m_Truth_zero : Meth K (He.ga K "Truth") "zero" (He.fAd K ("Kind", some "zero")) := MM "Truth" "zero" "Kind" (by decide)
  have m_Count_zero : Meth K (He.ga K "Count") "zero" (He.fAd K ("Kind", some "zero")) := MM "Count" "zero" "Kind" (by decide)
  have m_Bounded_zero : Meth K (He.ga K "Bounded") "zero" (He.fAd K ("Kind", some "zero")) := MM "Bounded" "zero" "Kind" (by decide)
  have m_Narrow_zero : Meth K (He.ga K "Narrow") "zero" (He.fAd K ("Kind", some "zero")) := MM "Narrow" "zero" "Kind" (by decide)
  have m_Share_zero : Meth K (He.ga K "Share") "zero" (He.fAd K ("Kind", some "zero")) := MM "Share" "zero" "Kind" (by decide)
  have m_Lot_zero : Meth K (He.ga K "Lot") "zero" (He.fAd K ("Kind", some "zero")) := MM "Lot" "zero" "Kind" (by decide)
  have m_Pair_zero : Meth K (He.ga K "Pair") "zero" (He.fAd K ("Kind", some "zero")) := MM "Pair" "zero" "Kind" (by decide)
  have m_Rest_zero : Meth K (He.ga K "Rest") "zero" (He.fAd K ("Kind", some "zero")) := MM "Rest" "zero" "Kind" (by decide)
  have m_Terms_zero : Meth K (He.ga K "Terms") "zero" (He.fAd K ("Kind", some "zero")) := MM "Terms" "zero" "Kind" (by decide)
  have m_Table_zero : Meth K (He.ga K "Table") "zero" (He.fAd K ("Kind", some "zero")) := MM "Table" "zero" "Kind" (by decide)
  have m_Truth_text : Meth K (He.ga K "Truth") "text" (He.fAd K ("Kind", some "text")) := MM "Truth" "text" "Kind" (by decide)
  have m_Count_text : Meth K (He.ga K "Count") "text" (He.fAd K ("Kind", some "text")) := MM "Count" "text" "Kind" (by decide)
  have m_Bounded_text : Meth K (He.ga K "Bounded") "text" (He.fAd K ("Kind", some "text")) := MM "Bounded" "text" "Kind" (by decide)
  have m_Narrow_text : Meth K (He.ga K "Narrow") "text" (He.fAd K ("Kind", some "text")) := MM "Narrow" "text" "Kind" (by decide)
  have m_Share_text : Meth K (He.ga K "Share") "text" (He.fAd K ("Kind", some "text")) := MM "Share" "text" "Kind" (by decide)
  have m_Lot_text : Meth K (He.ga K "Lot") "text" (He.fAd K ("Kind", some "text")) := MM "Lot" "text" "Kind" (by decide)
  have m_Pair_text : Meth K (He.ga K "Pair") "text" (He.fAd K ("Kind", some "text")) := MM "Pair" "text" "Kind" (by decide)
  have m_Rest_text : Meth K (He.ga K "Rest") "text" (He.fAd K ("Kind", some "text")) := MM "Rest" "text" "Kind" (by decide)
  have m_Terms_text : Meth K (He.ga K "Terms") "text" (He.fAd K ("Kind", some "text")) := MM "Terms" "text" "Kind" (by decide)
  have m_Table_text : Meth K (He.ga K "Table") "text" (He.fAd K ("Kind", some "text")) := MM "Table" "text" "Kind" (by decide)
  have m_Ring_made : Meth K (He.ga K "Ring") "made" (He.fAd K ("Ring", some "made")) := MM "Ring" "made" "Ring" (by decide)
  have m_Ring_is_closed : Meth K (He.ga K "Ring") "is_closed" (He.fAd K ("Ring", some "is_closed")) := MM "Ring" "is_closed" "Ring" (by decide)
  have m_Ring_good : Meth K (He.ga K "Ring") "good" (He.fAd K ("Ring", some "good")) := MM "Ring" "good" "Ring" (by decide)
  have m_Count_fits : Meth K (He.ga K "Count") "fits" (He.fAd K ("Counted", some "fits")) := MM "Count" "fits" "Counted" (by decide)
  have m_Bounded_fits : Meth K (He.ga K "Bounded") "fits" (He.fAd K ("Bounded", some "fits")) := MM "Bounded" "fits" "Bounded" (by decide)
  have m_Narrow_fits : Meth K (He.ga K "Narrow") "fits" (He.fAd K ("Counted", some "fits")) := MM "Narrow" "fits" "Counted" (by decide)
  have m_Rest_fits : Meth K (He.ga K "Rest") "fits" (He.fAd K ("Finite", some "fits")) := MM "Rest" "fits" "Finite" (by decide)
  have m_Table_fits : Meth K (He.ga K "Table") "fits" (He.fAd K ("Finite", some "fits")) := MM "Table" "fits" "Finite" (by decide)
  have e := hfa.symm.trans g_law
  cases e
  have b := FunD.bindsA (ps := ["_law_script"]) F_law fun _ _ _ _ _ _ us hl => match us, hl with | [_], _ => rfl
  refine ⟨fd_law, fun s v => b s [v] rfl, fun base _ _ => ?_⟩
  have G_is_number : FnOk P w K mg base (CX0) 1 _ _ ["thing"] (spNum K) := ok_is_number F_is_number z_isinstance z_int z_bool
  have G_is_whole : FnOk P w K mg base (CX0) 2 _ _ ["thing", "least", "most"] (spWhole K) := ok_is_whole F_is_whole F_is_number g_is_number G_is_number
  have G_Kind_one : ∀ d : Nat, ∀ c : Addr, FnOk P w K mg base (CX0) 1 _ _ ["self"] (spOne (kcOf K) d c) := fun d => fun c => ok_Kind_one F_Kind_one T d
  have G_Kind_zero : ∀ d : Nat, ∀ c : Addr, FnOk P w K mg base (CX0) 1 _ _ ["self"] (spZero (kcOf K) d c) := fun d => fun c => ok_Kind_zero F_Kind_zero T d
  have G_Kind_text : ∀ d : Nat, ∀ c : Addr, FnOk P w K mg base (CX0) 1 _ _ ["self"] (spText (kcOf K) d c) := fun d => fun c => ok_Kind_text F_Kind_text T d
  have held1 : ∀ {k : Nat} {m : Str} {c : Addr} {s : Sp}, HeldM P w K mg base k m c s → ∀ e sp, (fun e => if e = c then some s else none) e = some sp → HeldM P w K mg base k m e sp := fun {k m c s} H e sp h => by
    have h : (if e = c then some s else none) = some sp := h
    by_cases he : e = c
    · rw [if_pos he] at h
      have hs : s = sp := Option.some.inj h
      rw [← hs, he]
      exact H
    · rw [if_neg he] at h
      cases h
  have mem10 : ∀ c ∈ (kcOf K).all, c = He.ga K "Truth" ∨ c = He.ga K "Count" ∨ c = He.ga K "Bounded" ∨ c = He.ga K "Narrow" ∨ c = He.ga K "Share" ∨ c = He.ga K "Lot" ∨ c = He.ga K "Pair" ∨ c = He.ga K "Rest" ∨ c = He.ga K "Terms" ∨ c = He.ga K "Table" := fun c hc => by simpa [KC.all, kcOf] using hc
  have okc : ∀ k : RK, OkC K ((kcOf K).cls k) := fun k => T.cls (k := k) rfl
  have clsx : ∀ {i : Nat} {c : Addr} {k : RK}, (kcOf K).all[i]? = some c → (kcOf K).cls k = c → idx k = i := fun hi h => KC.idx_of T.nd hi h
  have A_one : ∀ d e sp, SK (kcOf K) (spOne (kcOf K) d) e = some sp → HeldM P w K mg base 1 "one" e sp := fun d => all_one T b_Kind_one G_Kind_one (fun c hc => by rcases mem10 c hc with rfl | rfl | rfl | rfl | rfl | rfl | rfl | rfl | rfl | rfl <;> assumption) d
  have A_zero : ∀ d e sp, SK (kcOf K) (spZero (kcOf K) d) e = some sp → HeldM P w K mg base 1 "zero" e sp := fun d => all_zero T b_Kind_zero G_Kind_zero (fun c hc => by rcases mem10 c hc with rfl | rfl | rfl | rfl | rfl | rfl | rfl | rfl | rfl | rfl <;> assumption) d
  have A_text : ∀ d e sp, SK (kcOf K) (spText (kcOf K) d) e = some sp → HeldM P w K mg base 1 "text" e sp := fun d => all_text T b_Kind_text G_Kind_text (fun c hc => by rcases mem10 c hc with rfl | rfl | rfl | rfl | rfl | rfl | rfl | rfl | rfl | rfl <;> assumption) d
  let l_closed : List (Addr × (Addr × FuncData)) := [((kcOf K).tr, (He.fAd K ("Topped", some "closed"), fd_Topped_closed)), ((kcOf K).co, (He.fAd K ("Endless", some "closed"), fd_Endless_closed)), ((kcOf K).bo, (He.fAd K ("Endless", some "closed"), fd_Endless_closed)), ((kcOf K).na, (He.fAd K ("Endless", some "closed"), fd_Endless_closed)), ((kcOf K).sh, (He.fAd K ("Topped", some "closed"), fd_Topped_closed)), ((kcOf K).lo, (He.fAd K ("Topped", some "closed"), fd_Topped_closed)), ((kcOf K).pa, (He.fAd K ("Pair", some "closed"), fd_Pair_closed)), ((kcOf K).re, (He.fAd K ("Kind", some "closed"), fd_Kind_closed)), ((kcOf K).te, (He.fAd K ("Kind", some "closed"), fd_Kind_closed)), ((kcOf K).ta, (He.fAd K ("Kind", some "closed"), fd_Kind_closed))]
  have m_all_closed := fam_all (d := ((0 : Addr), fd_law)) (l := l_closed) (M := fun c x => Meth K c "closed" x.1) T.nd (by
    intro p hp
    simp only [l_closed, List.mem_cons, List.not_mem_nil, or_false] at hp
    rcases hp with rfl | rfl | rfl | rfl | rfl | rfl | rfl | rfl | rfl | rfl <;> assumption)
  have b_all_closed := fam_all (d := ((0 : Addr), fd_law)) (l := l_closed) (M := fun c x => L2.Binds K x.2 ["self"] []) T.nd (by
    intro p hp
    simp only [l_closed, List.mem_cons, List.not_mem_nil, or_false] at hp
    rcases hp with rfl | rfl | rfl | rfl | rfl | rfl | rfl | rfl | rfl | rfl <;> assumption)
  have A_closed : ∀ d e sp, SK (kcOf K) (spClosed (kcOf K) d) e = some sp → HeldM P w K mg base (d + 1) "closed" e sp := all_closed T (f := fun c => (fam ((0 : Addr), fd_law) l_closed c).1) (fd := fun c => (fam ((0 : Addr), fd_law) l_closed c).2) m_all_closed b_all_closed (fun d => fam_all (d := ((0 : Addr), fd_law)) (l := l_closed) (M := fun c x => c ≠ (kcOf K).pa → FnOk P w K mg base CX0 1 x.1 x.2 ["self"] (spClosed (kcOf K) d c)) T.nd (by
    intro p hp
    simp only [l_closed, List.mem_cons, List.not_mem_nil, or_false] at hp
    rcases hp with rfl | rfl | rfl | rfl | rfl | rfl | rfl | rfl | rfl | rfl <;> intro hp
    · exact ok_Topped_closed F_Topped_closed d (c := (kcOf K).tr) (fun k h => by have hi := clsx (i := 0) rfl h; cases k <;> first | rfl | cases hi)
    · exact ok_Endless_closed F_Endless_closed d (c := (kcOf K).co) (fun k h => by have hi := clsx (i := 1) rfl h; cases k <;> first | rfl | cases hi)
    · exact ok_Endless_closed F_Endless_closed d (c := (kcOf K).bo) (fun k h => by have hi := clsx (i := 2) rfl h; cases k <;> first | rfl | cases hi)
    · exact ok_Endless_closed F_Endless_closed d (c := (kcOf K).na) (fun k h => by have hi := clsx (i := 3) rfl h; cases k <;> first | rfl | cases hi)
    · exact ok_Topped_closed F_Topped_closed d (c := (kcOf K).sh) (fun k h => by have hi := clsx (i := 4) rfl h; cases k <;> first | rfl | cases hi)
    · exact ok_Topped_closed F_Topped_closed d (c := (kcOf K).lo) (fun k h => by have hi := clsx (i := 5) rfl h; cases k <;> first | rfl | cases hi)
    · exact absurd rfl hp
    · exact ok_Kind_closed F_Kind_closed d (c := (kcOf K).re) (fun k h => by have hi := clsx (i := 7) rfl h; cases k <;> first | rfl | cases hi)
    · exact ok_Kind_closed F_Kind_closed d (c := (kcOf K).te) (fun k h => by have hi := clsx (i := 8) rfl h; cases k <;> first | rfl | cases hi)
    · exact ok_Kind_closed F_Kind_closed d (c := (kcOf K).ta) (fun k h => by have hi := clsx (i := 9) rfl h; cases k <;> first | rfl | cases hi)
    )) (fun d HA => by
    have e := fam_mem (d := ((0 : Addr), fd_law)) (l := l_closed) T.nd ((kcOf K).pa, (He.fAd K ("Pair", some "closed"), fd_Pair_closed)) (by simp [l_closed])
    dsimp only at e ⊢
    rw [e]
    exact ok_Pair_closed F_Pair_closed T HA)
  let l_good : List (Addr × (Addr × FuncData)) := [((kcOf K).tr, (He.fAd K ("Truth", some "good"), fd_Truth_good)), ((kcOf K).co, (He.fAd K ("Counted", some "good"), fd_Counted_good)), ((kcOf K).bo, (He.fAd K ("Counted", some "good"), fd_Counted_good)), ((kcOf K).na, (He.fAd K ("Counted", some "good"), fd_Counted_good)), ((kcOf K).sh, (He.fAd K ("Share", some "good"), fd_Share_good)), ((kcOf K).lo, (He.fAd K ("Lot", some "good"), fd_Lot_good)), ((kcOf K).pa, (He.fAd K ("Pair", some "good"), fd_Pair_good)), ((kcOf K).re, (He.fAd K ("Counted", some "good"), fd_Counted_good)), ((kcOf K).te, (He.fAd K ("Terms", some "good"), fd_Terms_good)), ((kcOf K).ta, (He.fAd K ("Counted", some "good"), fd_Counted_good))]
  have m_all_good := fam_all (d := ((0 : Addr), fd_law)) (l := l_good) (M := fun c x => Meth K c "good" x.1) T.nd (by
    intro p hp
    simp only [l_good, List.mem_cons, List.not_mem_nil, or_false] at hp
    rcases hp with rfl | rfl | rfl | rfl | rfl | rfl | rfl | rfl | rfl | rfl <;> assumption)
  have b_all_good := fam_all (d := ((0 : Addr), fd_law)) (l := l_good) (M := fun c x => L2.Binds K x.2 ["self", "thing"] []) T.nd (by
    intro p hp
    simp only [l_good, List.mem_cons, List.not_mem_nil, or_false] at hp
    rcases hp with rfl | rfl | rfl | rfl | rfl | rfl | rfl | rfl | rfl | rfl <;> assumption)
  have G_Truth_good : ∀ d : Nat, FnOk P w K mg base (CX0) 1 _ _ ["self", "thing"] (spGood (kcOf K) d (kcOf K).tr) := fun d => ok_Truth_good F_Truth_good T.nd d z_isinstance z_bool
  have G_Share_good : ∀ d : Nat, FnOk P w K mg base (CX0) 2 _ _ ["self", "thing"] (spGood (kcOf K) d (kcOf K).sh) := fun d => ok_Share_good F_Share_good F_is_number g_is_number G_is_number T.nd d g_gcd z_isinstance z_tuple z_len
  have H_co : HeldM P w K mg base 1 "fits" (kcOf K).co (spFits (kcOf K) (kcOf K).co) := ⟨(okc .count).cls, _, fd_Counted_fits, _, m_Count_fits, ok_Counted_fits F_Counted_fits T.nd (.inl rfl), b_Counted_fits⟩
  have H_na : HeldM P w K mg base 1 "fits" (kcOf K).na (spFits (kcOf K) (kcOf K).na) := ⟨(okc .narrow).cls, _, fd_Counted_fits, _, m_Narrow_fits, ok_Counted_fits F_Counted_fits T.nd (.inr rfl), b_Counted_fits⟩
  have H_bo : HeldM P w K mg base 1 "fits" (kcOf K).bo (spFits (kcOf K) (kcOf K).bo) := ⟨(okc .least).cls, _, fd_Bounded_fits, _, m_Bounded_fits, ok_Bounded_fits F_Bounded_fits T.nd , b_Bounded_fits⟩
  have H_re : HeldM P w K mg base 1 "fits" (kcOf K).re (spFits (kcOf K) (kcOf K).re) := ⟨(okc (.rest 2)).cls, _, fd_Finite_fits, _, m_Rest_fits, ok_Finite_fits F_Finite_fits T (.inl rfl), b_Finite_fits⟩
  have H_ta : HeldM P w K mg base 1 "fits" (kcOf K).ta (spFits (kcOf K) (kcOf K).ta) := ⟨(okc (.tab [] [])).cls, _, fd_Finite_fits, _, m_Table_fits, ok_Finite_fits F_Finite_fits T (.inr rfl), b_Finite_fits⟩
  have H_lo : ∀ d, HeldM P w K mg base 1 "one" (kcOf K).lo (spOne (kcOf K) d (kcOf K).lo) := fun d => ⟨(okc (.lot 1)).cls, _, fd_Kind_one, _, m_Lot_one, G_Kind_one d _, b_Kind_one⟩
  have A_good : ∀ d e sp, SK (kcOf K) (spGood (kcOf K) d) e = some sp → HeldM P w K mg base (d + 2) "good" e sp := all_good T (f := fun c => (fam ((0 : Addr), fd_law) l_good c).1) (fd := fun c => (fam ((0 : Addr), fd_law) l_good c).2) m_all_good b_all_good (fun d => fam_all (d := ((0 : Addr), fd_law)) (l := l_good) (M := fun c x => c ≠ (kcOf K).pa → FnOk P w K mg base CX0 2 x.1 x.2 ["self", "thing"] (spGood (kcOf K) d c)) T.nd (by
    intro p hp
    simp only [l_good, List.mem_cons, List.not_mem_nil, or_false] at hp
    rcases hp with rfl | rfl | rfl | rfl | rfl | rfl | rfl | rfl | rfl | rfl <;> intro hp
    · exact (G_Truth_good d).mono (by decide : 1 ≤ 2)
    · exact ok_Counted_good F_Counted_good F_is_number g_is_number G_is_number T d (.inl rfl) (held1 H_co) z_isinstance z_str
    · exact ok_Counted_good F_Counted_good F_is_number g_is_number G_is_number T d (.inr (.inl rfl)) (held1 H_bo) z_isinstance z_str
    · exact ok_Counted_good F_Counted_good F_is_number g_is_number G_is_number T d (.inr (.inr (.inl rfl))) (held1 H_na) z_isinstance z_str
    · exact G_Share_good d
    · exact ok_Lot_good F_Lot_good F_is_number g_is_number G_is_number T.nd d (held1 (H_lo d)) 
    · exact absurd rfl hp
    · exact ok_Counted_good F_Counted_good F_is_number g_is_number G_is_number T d (.inr (.inr (.inr (.inl rfl)))) (held1 H_re) z_isinstance z_str
    · refine fn_never fun vs H Q E hv => ?_
      obtain ⟨s, k, x, dx, rfl, hK, hc, hd, hf, _⟩ := hv
      have hi := clsx (i := 8) rfl hc
      cases k <;> first | (cases hf; done) | (cases hi; done)
    · exact ok_Counted_good F_Counted_good F_is_number g_is_number G_is_number T d (.inr (.inr (.inr (.inr rfl)))) (held1 H_ta) z_isinstance z_str
    )) (fun d HA => by
    have e := fam_mem (d := ((0 : Addr), fd_law)) (l := l_good) T.nd ((kcOf K).pa, (He.fAd K ("Pair", some "good"), fd_Pair_good)) (by simp [l_good])
    dsimp only at e ⊢
    rw [e]
    exact ok_Pair_good F_Pair_good T HA z_isinstance z_tuple z_len)
  have G_Kind_init : FnOk P w K mg base (CX0) 1 _ _ ["self", "text", "zero", "one"] (spKind K) := ok_Kind_init F_Kind_init
  have G_Counted_init : FnOk P w K mg base (CX0) 2 _ _ ["self", "text", "zero", "one", "others"] (spCounted K) := ok_Counted_init F_Counted_init F_Kind_init G_Kind_init B_Kind
  have G_Count_init : FnOk P w K mg base (CX0) 3 _ _ ["self"] (spMk (kcOf K) .count []) := ok_Count_init F_Count_init F_Counted_init G_Counted_init B_Endless T
  have G_Narrow_init : FnOk P w K mg base (CX0) 3 _ _ ["self"] (spMk (kcOf K) .narrow []) := ok_Narrow_init F_Narrow_init F_Counted_init G_Counted_init B_Endless T
  have G_Bounded_init : FnOk P w K mg base (CX0) 3 _ _ ["self", "text", "sign"] (spMkBound (kcOf K)) := ok_Bounded_init F_Bounded_init F_Counted_init G_Counted_init B_Endless T
  have G_Truth_init : FnOk P w K mg base (CX0) 2 _ _ ["self"] (spMk (kcOf K) .truth []) := ok_Truth_init F_Truth_init F_Kind_init G_Kind_init B_Topped T
  have G_Share_init : FnOk P w K mg base (CX0) 2 _ _ ["self"] (spMk (kcOf K) .share []) := ok_Share_init F_Share_init F_Kind_init G_Kind_init B_Topped T
  have G_Lot_init : FnOk P w K mg base (CX0) 2 _ _ ["self", "size"] (spMkLot (kcOf K)) := ok_Lot_init F_Lot_init F_Kind_init G_Kind_init B_Topped T
  have G_Finite_init : FnOk P w K mg base CX0 3 _ _ ["self", "text", "size"] (spFinite K) := ok_Finite_init F_Finite_init F_Counted_init G_Counted_init B_Counted
  have G_Table_init : FnOk P w K mg base CX0 4 _ _ ["self", "sums", "products"] (spTabI K) := ok_Table_init F_Table_init F_Finite_init G_Finite_init B_Finite z_str z_len
  have G_Rest_init : FnOk P w K mg base (CX0) 4 _ _ ["self", "divisor"] (spMkRest (kcOf K)) := ok_Rest_init F_Rest_init F_Finite_init G_Finite_init B_Finite T
  have G_Terms_init : FnOk P w K mg base (CX0) 2 _ _ ["self", "unknowns"] (spMkTerms (kcOf K)) := ok_Terms_init F_Terms_init F_Kind_init G_Kind_init B_Kind T
  have G_Table_init := mk_tab T G_Table_init
  have G_Pair_init : FnOk P w K mg base (CX0) 2 _ _ ["self", "left", "right"] (spMkPair (kcOf K)) := ok_Pair_init F_Pair_init F_Kind_init G_Kind_init B_Kind T (A_text 4) (A_zero 4) (A_one 4)
  have G__joined : FnOk P w K mg base CX0 1 _ _ ["table", "things"] spJoin := ok__joined F__joined
  have G__sum_turned : FnOk P w K mg base CX0 1 _ _ ["sums", "products", "things"] (spHold 0) := ok__sum_turned F__sum_turned
  have G__product_turned : FnOk P w K mg base CX0 1 _ _ ["sums", "products", "things"] (spHold 3) := ok__product_turned F__product_turned
  have G__sum_joined : FnOk P w K mg base CX0 2 _ _ ["sums", "products", "things"] (spHold 1) := ok__sum_joined F__sum_joined F__joined g__joined
  have G__product_joined : FnOk P w K mg base CX0 2 _ _ ["sums", "products", "things"] (spHold 4) := ok__product_joined F__product_joined F__joined g__joined
  have G__zero : FnOk P w K mg base CX0 1 _ _ ["sums", "products", "things"] (spHold 2) := ok__zero F__zero
  have G__one : FnOk P w K mg base CX0 1 _ _ ["sums", "products", "things"] (spHold 5) := ok__one F__one
  have G__nought : FnOk P w K mg base CX0 1 _ _ ["sums", "products", "things"] (spHold 6) := ok__nought F__nought
  have G__spread : FnOk P w K mg base CX0 1 _ _ ["sums", "products", "things"] (spHold 7) := ok__spread F__spread
  have G__rows : FnOk P w K mg base CX0 1 _ _ ["size", "many"] spRows := ok__rows F__rows z_range
  have hA8 : ∀ f sp, spOf8 (fR K) f = some sp → Held P w K mg base 2 f sp := fun f sp hs => by
    unfold spOf8 at hs
    obtain ⟨i, hi, rfl⟩ := Option.map_eq_some_iff.mp hs
    have h8 := List.mem_range.mp (List.mem_of_find?_eq_some hi)
    have he := List.find?_some (p := fun j => decide (fR K j = f)) hi
    obtain rfl := of_decide_eq_true he
    match i, h8 with
    | 0, _ => exact ⟨fd__sum_turned, ["sums", "products", "things"], (G__sum_turned).mono (by decide), F__sum_turned.kp, F__sum_turned.bindsN fun _ _ _ _ _ _ us hl => match us, hl with | [_, _, _], _ => rfl⟩
    | 1, _ => exact ⟨fd__sum_joined, ["sums", "products", "things"], G__sum_joined, F__sum_joined.kp, F__sum_joined.bindsN fun _ _ _ _ _ _ us hl => match us, hl with | [_, _, _], _ => rfl⟩
    | 2, _ => exact ⟨fd__zero, ["sums", "products", "things"], (G__zero).mono (by decide), F__zero.kp, F__zero.bindsN fun _ _ _ _ _ _ us hl => match us, hl with | [_, _, _], _ => rfl⟩
    | 3, _ => exact ⟨fd__product_turned, ["sums", "products", "things"], (G__product_turned).mono (by decide), F__product_turned.kp, F__product_turned.bindsN fun _ _ _ _ _ _ us hl => match us, hl with | [_, _, _], _ => rfl⟩
    | 4, _ => exact ⟨fd__product_joined, ["sums", "products", "things"], G__product_joined, F__product_joined.kp, F__product_joined.bindsN fun _ _ _ _ _ _ us hl => match us, hl with | [_, _, _], _ => rfl⟩
    | 5, _ => exact ⟨fd__one, ["sums", "products", "things"], (G__one).mono (by decide), F__one.kp, F__one.bindsN fun _ _ _ _ _ _ us hl => match us, hl with | [_, _, _], _ => rfl⟩
    | 6, _ => exact ⟨fd__nought, ["sums", "products", "things"], (G__nought).mono (by decide), F__nought.kp, F__nought.bindsN fun _ _ _ _ _ _ us hl => match us, hl with | [_, _, _], _ => rfl⟩
    | 7, _ => exact ⟨fd__spread, ["sums", "products", "things"], (G__spread).mono (by decide), F__spread.kp, F__spread.bindsN fun _ _ _ _ _ _ us hl => match us, hl with | [_, _, _], _ => rfl⟩
  have G_first_broken : FnOk P w K mg base CX0 3 _ _ ["sums", "products"] spFirst := ok_first_broken F_first_broken F__rows g__rows G__rows RU hA8 z_len
  have G__is_row : FnOk P w K mg base CX0 3 _ _ ["thing", "size"] spRowOk := ok__is_row F__is_row F_is_whole g_is_whole G_is_whole z_isinstance z_tuple z_len z_all
  have G__is_table : FnOk P w K mg base CX0 4 _ _ ["thing", "size"] spTabOk := ok__is_table F__is_table F__is_row g__is_row G__is_row z_isinstance z_tuple z_len z_all
  have G__are_tables : FnOk P w K mg base CX0 5 _ _ ["sums", "products"] spTwoOk := ok__are_tables F__are_tables F_is_whole g_is_whole G_is_whole F__is_table g__is_table G__is_table TH z_isinstance z_tuple z_len
  have G__bare_kind : FnOk P w K mg base (CX0) 5 _ _ ["name"] (spBare (kcOf K)) := ok__bare_kind F__bare_kind b_Truth_init G_Truth_init M_Truth g_Truth b_Count_init G_Count_init M_Count g_Count b_Bounded_init G_Bounded_init M_Bounded g_Bounded b_Narrow_init G_Narrow_init M_Narrow g_Narrow b_Share_init G_Share_init M_Share g_Share
  have G__sized_kind : FnOk P w K mg base (CX0) 6 _ _ ["name", "size"] (spSized (kcOf K)) := ok__sized_kind F__sized_kind b_Lot_init G_Lot_init M_Lot g_Lot b_Rest_init G_Rest_init M_Rest g_Rest b_Terms_init G_Terms_init M_Terms g_Terms
  have G_kind_of : FnOk P w K mg base CX0 10 _ _ ["made"] (spKindOf (kcOf K) 4) := ok_kind_of F_kind_of g_kind_of b_Pair_init G_Pair_init M_Pair g_Pair b_Table_init G_Table_init M_Table g_Table F__bare_kind g__bare_kind G__bare_kind F__sized_kind g__sized_kind G__sized_kind z_len 4 (by decide)
  have G_Ring_init : FnOk P w K mg base (CX0) 11 _ _ ["self", "made"] (spRingI (kcOf K) (He.ga K "Ring")) := ok_Ring_init F_Ring_init okR F_kind_of g_kind_of G_kind_of
  have G__has_form : FnOk P w K mg base CX0 9 _ _ ["made", "deep"] (spForm 4) := ok__has_form F__has_form g__has_form F_is_whole g_is_whole G_is_whole F__are_tables g__are_tables G__are_tables SZ BA z_isinstance z_tuple z_len z_str 4
  have G__tables : FnOk P w K mg base CX0 4 _ _ ["made"] (spTabs 4) := ok__tables F__tables g__tables 4 (by decide)
  have G_ring_of : FnOk P w K mg base (CX0) 13 _ _ ["made"] (spRingOf (kcOf K) (He.ga K "Ring")) := ok_ring_of F_ring_of F__has_form g__has_form G__has_form F__tables g__tables G__tables F_first_broken g_first_broken G_first_broken b_Ring_init G_Ring_init M_Ring g_Ring g_PAIRS
  have G_Ring_is_closed : FnOk P w K mg base (CX0) 6 _ _ ["self"] (spRClosed (kcOf K) (He.ga K "Ring")) := ok_Ring_is_closed F_Ring_is_closed TR (A_closed 4)
  have G_Ring_good : FnOk P w K mg base (CX0) 7 _ _ ["self", "thing"] (spRGood (kcOf K) (He.ga K "Ring")) := ok_Ring_good F_Ring_good TR (A_good 4)
  have G_Ring_made : FnOk P w K mg base (CX0) 1 _ _ ["self"] (spRMade (kcOf K) (He.ga K "Ring")) := ok_Ring_made F_Ring_made TR
  have G_need_ring : FnOk P w K mg base (L2.CX P w) 2 _ _ ["thing"] (spNeedRing (kcOf K) (He.ga K "Ring") (⟨He.ga K "BadRing", He.ga K "NotClosed", He.ga K "BadWeb", He.ga K "BadNumber", He.ga K "BadPath"⟩ : Bads)) := ok_need_ring F_need_ring TR NR O_BadRing g_Ring z_isinstance
  have G__is_step : FnOk P w K mg base (CX0) 8 _ _ ["ring", "states", "step"] (spIsStep (kcOf K) (He.ga K "Ring")) := ok__is_step F__is_step TR F_is_whole g_is_whole G_is_whole m_Ring_good b_Ring_good G_Ring_good z_isinstance z_tuple z_len
  have G__is_web : FnOk P w K mg base (CX0) 9 _ _ ["ring", "web"] (spIsWeb (kcOf K) (He.ga K "Ring")) := ok__is_web F__is_web TR F_is_whole g_is_whole G_is_whole F__is_step g__is_step G__is_step g_STATES g_STEPS z_isinstance z_tuple z_len z_all
  have G_need_web : FnOk P w K mg base (L2.CX P w) 10 _ _ ["ring", "web"] (spNeedWeb (kcOf K) (He.ga K "Ring") (⟨He.ga K "BadRing", He.ga K "NotClosed", He.ga K "BadWeb", He.ga K "BadNumber", He.ga K "BadPath"⟩ : Bads)) := ok_need_web F_need_web TR O_NotClosed O_BadWeb F_need_ring g_need_ring G_need_ring F__is_web g__is_web G__is_web m_Ring_is_closed b_Ring_is_closed G_Ring_is_closed
  have G_need_state : FnOk P w K mg base (L2.CX P w) 3 _ _ ["web", "thing"] (spNeedState K (⟨He.ga K "BadRing", He.ga K "NotClosed", He.ga K "BadWeb", He.ga K "BadNumber", He.ga K "BadPath"⟩ : Bads)) := ok_need_state F_need_state F_is_whole g_is_whole G_is_whole O_BadNumber
  have G_by_states : FnOk P w K mg base (L2.CX P w) 11 _ _ ["ring", "web"] (spRef1 (kcOf K) (He.ga K "Ring") (⟨He.ga K "BadRing", He.ga K "NotClosed", He.ga K "BadWeb", He.ga K "BadNumber", He.ga K "BadPath"⟩ : Bads)) := ok_by_states F_by_states F_need_web g_need_web G_need_web
  have G_by_rounds : FnOk P w K mg base (L2.CX P w) 11 _ _ ["ring", "web", "start"] (spRef2 K (kcOf K) (He.ga K "Ring") (⟨He.ga K "BadRing", He.ga K "NotClosed", He.ga K "BadWeb", He.ga K "BadNumber", He.ga K "BadPath"⟩ : Bads)) := ok_by_rounds F_by_rounds F_need_web g_need_web G_need_web F_need_state g_need_state G_need_state
  have G_by_best : FnOk P w K mg base (L2.CX P w) 11 _ _ ["ring", "web", "start"] (spRef2 K (kcOf K) (He.ga K "Ring") (⟨He.ga K "BadRing", He.ga K "NotClosed", He.ga K "BadWeb", He.ga K "BadNumber", He.ga K "BadPath"⟩ : Bads)) := ok_by_best F_by_best F_need_web g_need_web G_need_web F_need_state g_need_state G_need_state
  have G_paper : FnOk P w K mg base (L2.CX P w) 11 _ _ ["ring", "web", "start"] (spRef2 K (kcOf K) (He.ga K "Ring") (⟨He.ga K "BadRing", He.ga K "NotClosed", He.ga K "BadWeb", He.ga K "BadNumber", He.ga K "BadPath"⟩ : Bads)) := ok_paper F_paper F_need_web g_need_web G_need_web F_need_state g_need_state G_need_state
  have G_check : FnOk P w K mg base (L2.CX P w) 11 _ _ ["ring", "web", "start", "row", "paper"] (spRef3 K (kcOf K) (He.ga K "Ring") (⟨He.ga K "BadRing", He.ga K "NotClosed", He.ga K "BadWeb", He.ga K "BadNumber", He.ga K "BadPath"⟩ : Bads)) := ok_check F_check F_need_web g_need_web G_need_web F_need_state g_need_state G_need_state
  have G_why_endless : FnOk P w K mg base (L2.CX P w) 11 _ _ ["ring", "web", "i", "j"] (spRef4 K (kcOf K) (He.ga K "Ring") (⟨He.ga K "BadRing", He.ga K "NotClosed", He.ga K "BadWeb", He.ga K "BadNumber", He.ga K "BadPath"⟩ : Bads)) := ok_why_endless F_why_endless F_need_web g_need_web G_need_web F_need_state g_need_state G_need_state
  have G_is_path : FnOk P w K mg base (CX0) 3 _ _ ["steps", "path"] (spIsPath K) := ok_is_path F_is_path F_is_whole g_is_whole G_is_whole z_isinstance z_tuple z_list z_len z_all z_zip
  have G_path_weight : FnOk P w K mg base (L2.CX P w) 11 _ _ ["ring", "web", "path"] (spRef5 K (kcOf K) (He.ga K "Ring") (⟨He.ga K "BadRing", He.ga K "NotClosed", He.ga K "BadWeb", He.ga K "BadNumber", He.ga K "BadPath"⟩ : Bads)) := ok_path_weight F_path_weight F_need_web g_need_web G_need_web F_is_path g_is_path G_is_path O_BadPath z_len
  have G_mixed : FnOk P w K mg base (CX0) 1 _ _ ["_law_cell", "_law_k"] (spMixed) := ok_mixed F_mixed
  have G_draw : FnOk P w K mg base (CX0) 1 _ _ ["_law_script", "_law_k"] (spDraw K) := ok_draw F_draw
  have G_next : FnOk P w K mg base (CX0) 2 _ _ ["_law_draw_here", "_law_many"] (spNext) := ok_next F_next F_mixed g_mixed G_mixed z_len
  have G_zero : FnOk P w K mg base CX0 4 _ _ ["_law_made"] (spLZero 3) := ok_zero F_zero g_zero 3
  have G_one : FnOk P w K mg base CX0 4 _ _ ["_law_made"] (spLOne 3) := ok_one F_one g_one 3
  have G_ring : FnOk P w K mg base CX0 5 _ _ ["_law_draw_here", "_law_deep"] (spLRing 3) := ok_ring F_ring g_ring F_next g_next G_next 3
  have G_lowest : FnOk P w K mg base (CX0) 1 _ _ ["_law_top", "_law_bottom"] (spLowest) := ok_lowest F_lowest
  have G_weight : FnOk P w K mg base CX0 7 _ _ ["_law_draw_here", "_law_made", "_law_mood", "_law_lift"] (spLWeight 3) := ok_weight F_weight g_weight F_next g_next G_next F_lowest g_lowest G_lowest F_zero g_zero G_zero z_min 3
  have G_turned : FnOk P w K mg base (CX0) 3 _ _ ["_law_draw_here", "_law_many"] (spTurned) := ok_turned F_turned F_next g_next G_next z_list z_range z_len
  have G_web : FnOk P w K mg base (CX0) 8 _ _ ["_law_draw_here", "_law_made", "_law_most", "_law_many"] (spLWeb) := ok_web F_web F_next g_next G_next F_turned g_turned G_turned F_weight g_weight G_weight z_list z_range z_len z_tuple z_min z_max
  have G_whole : FnOk P w K mg base (CX0) 1 _ _ ["_law_thing", "_law_least", "_law_most"] (spLWhole K) := ok_whole F_whole z_isinstance z_int z_bool
  have G_good : ∀ g : Nat, FnOk P w K mg base CX0 (g + 3) _ _ ["_law_made", "_law_thing"] (spLGood g) := ok_good F_good g_good F_lowest g_lowest G_lowest z_isinstance z_tuple z_bool z_str z_int z_len z_all
  have G_is_web : FnOk P w K mg base (CX0) 7 _ _ ["_law_made", "_law_thing"] (spLIsWeb) := ok_is_web F_is_web F_whole g_whole G_whole F_good g_good (G_good 3) z_isinstance z_tuple z_len
  have G_spoilt : FnOk P w K mg base (CX0) 5 _ _ ["_law_draw_here", "_law_made", "_law_net", "_law_way"] (spSpoilt) := ok_spoilt F_spoilt F_next g_next G_next F_one g_one G_one z_list z_max z_len
  have G_open : FnOk P w K mg base (CX0) 3 _ _ ["_law_draw_here", "_law_made"] (spOpen) := ok_open F_open F_next g_next G_next
  have G_word : FnOk P w K mg base (CX0) 1 _ _ ["_law_error"] (spWord K (⟨He.ga K "BadRing", He.ga K "NotClosed", He.ga K "BadWeb", He.ga K "BadNumber", He.ga K "BadPath"⟩ : Bads)) := ok_word F_word FW O_BadRing z_isinstance
  have G_told : FnOk P w K mg base (CX0) 12 _ _ ["_law_which", "_law_base", "_law_net", "_law_odd", "_law_good_here"] (spTold K (kcOf K) (He.ga K "Ring")) := ok_told F_told FW F_need_web g_need_web G_need_web F_by_states g_by_states G_by_states F_by_rounds g_by_rounds G_by_rounds F_by_best g_by_best G_by_best F_paper g_paper G_paper F_check g_check G_check F_why_endless g_why_endless G_why_endless F_path_weight g_path_weight G_path_weight F_word g_word G_word
  have G_in_order : FnOk P w K mg base (CX0) 14 _ _ ["_law_draw_here", "_law_made", "_law_net", "_law_which"] (spInOrder) := ok_in_order F_in_order TR F_next g_next G_next F_one g_one G_one F_ring_of g_ring_of G_ring_of F_open g_open G_open F_told g_told G_told m_Ring_made b_Ring_made G_Ring_made z_list z_len
  exact ok_law F_law hsys F_draw g_draw G_draw F_next g_next G_next F_ring g_ring G_ring F_web g_web G_web F_ring_of g_ring_of G_ring_of F_spoilt g_spoilt G_spoilt F_need_web g_need_web G_need_web F_in_order g_in_order G_in_order F_is_web g_is_web G_is_web F_told g_told G_told z_len z_range z_max z_min z_repr
theorem walk15 {l : PySem.W.OpenLaw} {q : Program} {loose : List Str} {XP : (Str → Option Value) → Heap → Prop} {YP : World → Heap → Prop} {d : DefRec} (hn : l.most = some 63) (hdf : d.params.defaults = [])
    (F : ∀ (w : World) (mg : Str → Option Value) (fa : Addr) (h : Heap), YP w h → h.Ns mainGlobals mg → mg d.name = some (.ref fa) →
      ∃ K : PySem.W.Frag, K.In h ∧ ∃ fd : FuncData, (∀ (s : Shared) (u : Value), BindsTo s fd ⟨[u], []⟩ [("_law_script", u)]) ∧ ∀ base : Heap, K.In base → base.Ns mainGlobals mg → FnG l.prog w K mg base CX0 15 fa fd ["_law_script"] (spLaw K)) :
    PySem.W.WalkO q loose XP YP l.row.toRowW d [] (fun f vs => PySem.call f vs) := by
  refine Att.attach_callB hn hdf fun w s₀ s₁ mg mb fa o pm cd doc a vs ns G Y ho hd hcd hmg hobj hints hlen hbits hg => ?_
  obtain ⟨K, KX, fd, hb, hF⟩ := F w mg fa _ Y G.T.g hmg
  exact law_callG KX G.T.g G.T.b G.T.builtins G.T.nolimit hg hobj hints (Nat.le_trans hlen (by decide)) ⟨rfl, by decide, by decide⟩ hF hb (fun H hH hS => ⟨a, ns, rfl, hS, hlen, fun _ => rfl⟩) fun H e s' z => z
end D1
open PySem PySem.W PySem.Calls PyProof.Rows
set_option maxHeartbeats 0
theorem PySem.Challenge.cw_semirail_k15_what_is_a_web_holds : PySem.Challenge.rw_semirail_k15_what_is_a_web.Holds := by
  w_on; o_law
  refine HandSHeadRun.head_imp (r := OpenLaw.row PySem.Challenge.rw_semirail_k15_what_is_a_web) (q := view (OpenLaw.row PySem.Challenge.rw_semirail_k15_what_is_a_web).prog [0, 132]) (H := W15.hk) (ob := W15.ob) (M := 20000) (loose := W15.names) (d := HandSHeadRun.topDef (OpenLaw.row PySem.Challenge.rw_semirail_k15_what_is_a_web).prog 132) (kwd := []) W15.ob_eq
    W15.run (by kernel_rfl) (by kernel_rfl) (by kernel_rfl) (by rfl) (by first | assumption | decide +kernel) (by decide +kernel) ⟨rfl, rfl, rfl, rfl, rfl, by decide +kernel⟩ ?hw ?hc
  case hw => w_witness2
  case hc =>
    refine D1.walk15 (l := PySem.Challenge.rw_semirail_k15_what_is_a_web) rfl (by kernel_rfl) ?F
    intro w mg fa h Y G hmg0
    obtain ⟨K, KX, c⟩ := Y
    have hmg : mg ("law" : PySem.Str) = some (.ref fa) := by
      have e : (HandSHeadRun.topDef (OpenLaw.row PySem.Challenge.rw_semirail_k15_what_is_a_web).prog 132).name = ("law" : PySem.Str) := by kernel_rfl
      rw [← e]
      exact hmg0
    exact ⟨K, KX, D1.facts (P := (PySem.Challenge.rw_semirail_k15_what_is_a_web).prog) (w := w) KX G hmg c⟩
end
