import PyProof.Rows.All
import Wide.All
import OpenK.AllK
import Wide.FinOn
import HandS.Head0
import HandS.Head1
import HandS.Head2
import HandS.Head3
import HandS.HeadEnd
import HandS.HeadHook1
import HandS.HeadHook2
import HandS.HeadHook3
import HandS.HeadHook4
import HandS.ExcField
import HandS.ForMost
import HandS.ForExc
import HandS.Defaults
import KE.KExcInit
import Wide.Once
import KE.KStateDown
import PyProof.EqAt
import PyProof.EqKinds
import PyProof.TupleCall
import PyProof.ReprRoads
import HandS.Walk
import HandS.Evl
import HandS.StrMore
import HandS.Wide
import HandS.SortInts
import HandS.Zip
import HandS.IsInst
import HandS.NoneIn
import HandS.Star
import HandS.CallLocal
import HandS.Style
import HandS.TupAny
import HandS.Conv
import KE.GoesZip
import KE.GoesMore
import HandS.FStr
import PyProof.FString3
import PyProof.FString2
import HandS.ClsMeth
import HandS.ExcInit
import HandS.ExcValue
import KE.KExcIs
import HandS.ExcIs
import HandS.OwnEq
import HandS.SlotsOwn
import PyProof.InstNe
import HandS.HotCalls
import HandS.RaiseMore
import PyProof.P3Eq
import HandS.EndBits
import HandS.HeadWalk
import PySem.Challenge.RW_semirail_k09_tables_made_and_refused
section
set_option Elab.async false
set_option linter.all false
set_option maxRecDepth 100000
set_option maxHeartbeats 4000000
/-! HH: what the head looks at -/
namespace D1
open PySem L2
abbrev theProg : Program := PySem.Challenge.pw_semirail_k09_tables_made_and_refused
def top (i : Nat) : Stmt := theProg.main.body.getD i (.Pass ⟨0, 0, 0, 0⟩)
abbrev FnP (K : PySem.W.Frag) (x : Str) (st : Stmt) (f : Addr) (fd : FuncData) : Prop := FunD K x x (defArgs st) (defBody st) (defScope st) [] [] f fd
def clsBody (s : Stmt) : List Stmt := match s with
  | .ClassDef _ _ _ b _ _ _ _ _ _ _ => b
  | _ => []
def meth (i j : Nat) : Stmt := (clsBody (top i)).getD j (.Pass ⟨0, 0, 0, 0⟩)
abbrev FnM (K : PySem.W.Frag) (c x : Str) (st : Stmt) (f : Addr) (fd : FuncData) : Prop := FunD K x (c ++ "." ++ x) (defArgs st) (defBody st) (defScope st) [] [] f fd
def fields : List Str := ["_text", "_zero", "_one", "_others", "_size", "_sums", "_products", "_left", "_right", "_made", "_kind"]
def arity : Nat → Nat
  | 0 => 2 | 1 => 3 | 2 => 1 | 3 => 2 | 4 => 3 | 5 => 1 | 6 => 1 | _ => 3
def rname : Nat → Str
  | 0 => "sum turned" | 1 => "sum joined" | 2 => "zero" | 3 => "product turned" | 4 => "product joined" | 5 => "one" | 6 => "nought" | _ => "spread"
open He
open PySem.W in
def xbB (K : Frag) (C : Addr) (bmB : List Value) (newId : String) (fn : List Str) : Bool :=
  excInitIn K C bmB newId && (excOver K C bmB && (hasDictIn K C && (decide (findIn K (.ref C) "__setattr__" = some (some (.builtin "object.__setattr__"))) && (decide (findIn K (.ref C) "__getattribute__" = some (some (.builtin "BaseException.__getattribute__"))) &&
    (decide (findIn K (.ref C) "__getattr__" = some none) && (decide (findIn K (.ref C) "__class__" = some (some (.builtin "object.__class__"))) && (decide (mroIn K C (.type "object") = some true) && (fn.all (fun f => decide (findIn K (.ref C) f = some none)) &&
      (keepIn K (.ref C) && (decide (subIn K (.ref C) (.type "BaseException") = some true) && decide (typeIn K (.ref C) = some (.type "type"))))))))))))
def bmA : List Value := [.type "ArithmeticError", .type "Exception", .type "BaseException", .type "object"]
def bmV : List Value := [.type "ValueError", .type "Exception", .type "BaseException", .type "object"]
def kwN (K : PySem.W.Frag) (p : Str × Option Str) : Bool := match K.lookup (fAd K p) with
  | some ⟨_, _, .func fd, _⟩ => (match fd.kwdefaults with
    | .none => true
    | _ => false)
  | _ => false
def iniB (K : PySem.W.Frag) (x : Str) : Bool := kwN K (x, some "__init__") && (decide (PySem.W.findIn K (.ref (ga K x)) "__init__" = some (some (.ref (fAd K (x, some "__init__"))))) && decide (PySem.W.typeIn K (.ref (fAd K (x, some "__init__"))) = some (.type "function")))
def excB (K : PySem.W.Frag) : Bool := decide (PySem.W.specialIn K (.builtin "object.__class__") "__get__" = some (some (.builtin "getset_descriptor.__get__"))) && decide (PySem.W.takesIn K (.builtin "object.__class__") = some true)
def tupK (K : PySem.W.Frag) (a : Addr) (vs : List V) : Bool := match K.lookup a with
  | some ⟨.type c, _, .seq its _, _⟩ => decide (c = "tuple") && (decide (its.size ≤ sizeLine) && relAll vs its.toList)
  | _ => false
def itemA (K : PySem.W.Frag) (a : Addr) (i : Nat) : Addr := match K.lookup a with
  | some ⟨_, _, .seq its _, _⟩ => (match its.toList[i]? with
    | some (.ref b) => b
    | _ => 0)
  | _ => 0
def rns : List Str := ["_sum_turned", "_sum_joined", "_zero", "_product_turned", "_product_joined", "_one", "_nought", "_spread"]
def fR (K : PySem.W.Frag) (i : Nat) : Addr := ga K (rns.getD i "_zero")
def tR (K : PySem.W.Frag) (i : Nat) : Addr := itemA K (ga K "_RULES") i
def rulesB (K : PySem.W.Frag) : Bool := tupK K (ga K "_RULES") ((List.range 8).map fun i => V.ref (tR K i)) && ((List.range 8).all (fun i => tupK K (tR K i) [.str (rname i), .int (arity i), .ref (fR K i)]) && (List.range 8).all fun i => (List.range 8).all fun j => decide (i = j) || !decide (fR K i = fR K j))
def thingsB (K : PySem.W.Frag) : Bool := tupK K (ga K "_THINGS") [.int 2, .int 6]
def sizesB (K : PySem.W.Frag) : Bool := eqO (PySem.W.nsIn K (ga K "_SIZES") "table") (some none) && (eqO (PySem.W.nsIn K (ga K "_SIZES") "tables") (some none) && eqO (PySem.W.nsIn K (ga K "_SIZES") "pair") (some none))
def bareB (K : PySem.W.Frag) : Bool := tupK K (ga K "_BARE") [.str "truth", .str "count", .str "least", .str "most", .str "narrow", .str "share"]
def noB (K : PySem.W.Frag) (x : Str) : Bool := fields.all fun f => eqO (PySem.W.findIn K (.ref (ga K x)) f) (some none)
def methB (K : PySem.W.Frag) (x m : Str) (p : Str × Option Str) : Bool := eqO (PySem.W.findIn K (.ref (ga K x)) m) (some (some (.ref (fAd K p)))) && (PySem.W.isFn K (.ref (fAd K p)) && PySem.W.keepIn K (.ref (fAd K p)))
def mths : List (Str × Str × Str) := [("Table", "good", "Counted"), ("Table", "fits", "Finite"), ("Table", "plus", "Table"), ("Table", "times", "Table"), ("Ring", "need", "Ring"), ("Ring", "made", "Ring"), ("Ring", "plus", "Ring"), ("Ring", "times", "Ring"), ("Table", "text", "Kind"), ("Truth", "text", "Kind"), ("Pair", "text", "Kind"), ("Table", "zero", "Kind"), ("Truth", "zero", "Kind"), ("Pair", "zero", "Kind"), ("Table", "one", "Kind"), ("Truth", "one", "Kind"), ("Pair", "one", "Kind"), ("Table", "closed", "Kind"), ("Table", "few", "Finite"), ("Ring", "star", "Ring"), ("Ring", "many", "Ring"), ("Ring", "power", "Ring"), ("Ring", "total", "Ring"), ("Ring", "product", "Ring"), ("Ring", "_need_list", "Ring"), ("Ring", "written", "Ring"), ("Ring", "zero", "Ring"), ("Ring", "one", "Ring"), ("Ring", "is_closed", "Ring"), ("Ring", "is_few", "Ring"), ("Ring", "good", "Ring")]
def mthsB (K : PySem.W.Frag) : Bool := mths.all fun t => methB K t.1 t.2.1 (t.2.2, some t.2.1)
def baseB (K : PySem.W.Frag) (x : Str) (p : Str × Option Str) : Bool := PySem.W.readsIn K (ga K x) (.type "type") && (eqO (PySem.W.specialIn K (.ref (ga K x)) "__getattribute__") (some (some (.builtin "type.__getattribute__"))) && (match PySem.W.findCls K (.ref (ga K x)) (.type "type") "__init__" with
  | some (.val (.ref a)) => decide (a = fAd K p)
  | _ => false))
def famB (K : PySem.W.Frag) (cR cB cW aF aU aK : Addr) : Bool := xfB K cR && (decide (PySem.W.exmOne K (.ref cR) (.ref cB) = some false) && (decide (PySem.W.exmOne K (.ref cR) (.ref cR) = some true) && (decide (PySem.W.exmOne K (.ref cW) (.ref cW) = some true) && (decide (PySem.W.kitOne K (.ref cR) (.ref aF) = some true) && (decide (PySem.W.kitOne K (.ref cR) (.type "ValueError") = some true) && (decide (PySem.W.kitOne K (.ref cR) (.ref aU) = some false) && (decide (PySem.W.kitOne K (.ref cR) (.ref aK) = some false) && (decide (PySem.W.kitOne K (.ref cW) (.ref aF) = some true) && (decide (PySem.W.kitOne K (.ref cW) (.type "ValueError") = some true) && (decide (PySem.W.kitOne K (.ref cW) (.ref aU) = some false) && (decide (PySem.W.kitOne K (.ref cW) (.ref aK) = some false) && (decide (PySem.W.kitOne K (.ref cR) (.ref cW) = some false) && (decide (PySem.W.kitOne K (.ref cW) (.ref cR) = some false))))))))))))))
def ringB (K : PySem.W.Frag) : Bool := eqO (PySem.W.findIn K (.ref (ga K "Ring")) "__class__") (some (some (.builtin "object.__class__"))) && (decide (PySem.W.mroIn K (ga K "Ring") (.type "object") = some true) && (decide (PySem.W.kitOne K (.ref (ga K "Ring")) (.type "int") = some false) && (decide (PySem.W.kitOne K (.ref (ga K "Ring")) (.type "bool") = some false) && (decide (PySem.W.kitOne K (.ref (ga K "Ring")) (.type "str") = some false) && (decide (PySem.W.kitOne K (.ref (ga K "Ring")) (.type "tuple") = some false) && (decide (PySem.W.kitOne K (.ref (ga K "Ring")) (.ref (ga K "Ring")) = some true) && (decide (PySem.W.kitOne K (.type "tuple") (.ref (ga K "Ring")) = some false) && (PySem.W.notFirst K (ga K "Ring") (.ref (ga K "Ring")) && (PySem.W.notFirst K (ga K "Ring") (.type "tuple") && (eqO (PySem.W.findIn K (.ref (ga K "Ring")) "__eq__") (some (some (.ref (fAd K ("Ring", some "__eq__"))))) && (PySem.W.isFn K (.ref (fAd K ("Ring", some "__eq__"))) && (eqO (PySem.W.findIn K (.ref (ga K "Ring")) "__ne__") (some (some (.builtin "object.__ne__")))))))))))))))
def ex (K : PySem.W.Frag) : Bool := xbB K (ga K "BadRing") bmV "ValueError.__new__" [("what" : Str)] && (xbB K (ga K "BadTable") bmV "ValueError.__new__" [("rule" : Str), ("things" : Str)] && (xbB K (ga K "BadWeight") bmV "ValueError.__new__" [("why" : Str)] && (iniB K "BadRing" && (iniB K "BadTable" && (iniB K "BadWeight" && (excB K && (famB K (ga K "BadRing") (ga K "BadTable") (ga K "BadWeight") (ga K "Refused") (ga K "Unreckoned") (ga K "Unknown") && (ringB K && (rulesB K && (thingsB K && (bareB K && (sizesB K && (noB K "Ring" && (noB K "Table" && (noB K "Truth" && (noB K "Pair" && (mthsB K && (baseB K "Kind" ("Kind", some "__init__") && (baseB K "Topped" ("Kind", some "__init__") && (baseB K "Counted" ("Counted", some "__init__") && (baseB K "Finite" ("Finite", some "__init__"))))))))))))))))))))))
end D1
end
section
set_option Elab.async false
set_option linter.all false
set_option maxRecDepth 100000
set_option maxHeartbeats 0
/-! H09: the head -/
namespace W09
open PySem PySem.Spec PyProof.Rows L2
abbrev top (i : Nat) : Stmt := D1.top i
def dd (x : Str) (i : Nat) : He.DefD := ⟨(x, none), x, x, defArgs (top i), defBody (top i), defScope (top i), [], []⟩
def dm (c x : Str) (i j : Nat) : He.DefD := ⟨(c, some x), x, c ++ "." ++ x, defArgs (D1.meth i j), defBody (D1.meth i j), defScope (D1.meth i j), [], []⟩
def dmd (c x : Str) (i j : Nat) (ds : List He.Dv) : He.DefD := ⟨(c, some x), x, c ++ "." ++ x, defArgs (D1.meth i j), defBody (D1.meth i j), defScope (D1.meth i j), ds, []⟩
def names_0 : List PySem.Str := ["_wall", "Refused", "BadRing", "BadTable", "BadWeight", "BadNumber", "Unreckoned", "NoStar", "Unknown", "total_of", "product_of", "many_of", "power_of", "LONG", "is_number", "is_whole", "Kind", "Counted", "Endless", "Count", "Bounded", "Narrow", "Finite", "Rest", "Table"]
def names_1 : List PySem.Str := ["Pair", "Terms", "_gathered", "_summed", "Topped", "Truth", "Share", "Lot", "kind_of", "_sized_kind", "_bare_kind", "Ring", "_need_count", "_sum_turned", "_sum_joined", "_zero", "_product_turned", "_product_joined", "_one", "_nought", "_spread", "_joined", "_RULES", "first_broken", "_rows"]
def names_2 : List PySem.Str := ["_BARE", "_SIZES", "_THINGS", "_PAIRS", "ring_of", "_has_form", "_are_tables", "_is_table", "_is_row", "_tables", "_law_mixed", "_law_folded", "_law_draw", "_law_begun", "_law_base", "_law_table", "_law_family", "_law_made", "_law_answer", "_law_weighed", "_law_put", "_law_rows", "_law_spoilt", "_law_tables_hold"]
def names : List PySem.Str := names_0 ++ names_1 ++ names_2
def fn_0 : List He.DefD := [dd "is_number" 18, dd "is_whole" 19, dd "kind_of" 43, dd "_bare_kind" 45, dd "_sum_turned" 50, dd "_sum_joined" 51, dd "_zero" 52, dd "_product_turned" 53, dd "_product_joined" 54, dd "_one" 55, dd "_nought" 56, dd "_spread" 57, dd "_joined" 58, dd "first_broken" 60, dd "_rows" 61, dd "ring_of" 67, dd "_has_form" 68, dd "_are_tables" 69, dd "_is_table" 70, dd "_is_row" 71, dd "_tables" 72, dd "_law_mixed" 74, dd "_law_folded" 75, dd "_law_draw" 76, dd "_law_begun" 77]
def fn_1 : List He.DefD := [dd "_law_base" 78, dd "_law_table" 79, dd "_law_family" 80, dd "_law_made" 81, dd "_law_answer" 82, dd "_law_weighed" 83, dd "_law_put" 84, dd "_law_rows" 85, dd "_law_spoilt" 86, dd "_law_tables_hold" 87, dd "law" 88]
def fn_2 : List He.DefD := [dm "Kind" "__init__" 21 0, dm "Counted" "__init__" 22 0, dm "Finite" "__init__" 29 0, dm "Truth" "__init__" 39 0, dm "Table" "__init__" 31 0, dm "Kind" "text" 21 1, dm "Kind" "zero" 21 2, dm "Kind" "one" 21 3, dm "Finite" "fits" 29 2, dm "Table" "plus" 31 1, dm "Table" "times" 31 2, dm "Counted" "good" 22 1, dm "Ring" "need" 47 8, dm "Ring" "made" 47 2, dm "Ring" "plus" 47 9, dm "Ring" "times" 47 10, dm "Pair" "__init__" 33 0, dm "Ring" "__init__" 47 0, dm "BadRing" "__init__" 4 0, dm "BadTable" "__init__" 5 0, dm "BadWeight" "__init__" 6 0, dm "Ring" "star" 47 11, dmd "Ring" "many" 47 12 [.int 2], dmd "Ring" "power" 47 13 [.int 2], dm "Ring" "total" 47 14, dm "Ring" "product" 47 15, dm "Ring" "_need_list" 47 16, dm "Ring" "written" 47 17, dm "Kind" "closed" 21 4, dm "Finite" "few" 29 1, dm "Ring" "zero" 47 3, dm "Ring" "one" 47 4, dm "Ring" "is_closed" 47 5, dm "Ring" "is_few" 47 6, dm "Ring" "good" 47 7, dm "Ring" "__eq__" 47 19]
def fn : List He.DefD := fn_0 ++ fn_1 ++ fn_2
def fa_0 : List He.Fa := [.glo "is_number", .glo "is_whole", .glo "kind_of", .glo "_bare_kind", .glo "_joined", .glo "first_broken", .glo "_rows", .glo "ring_of", .glo "_has_form", .glo "_are_tables", .glo "_is_table", .glo "_is_row", .glo "_tables", .glo "_law_mixed", .glo "_law_folded", .glo "_law_draw", .glo "_law_begun", .glo "_law_base", .glo "_law_table", .glo "_law_family", .glo "_law_made", .glo "_law_answer", .glo "_law_weighed", .glo "_law_put", .glo "_law_rows"]
def fa_1 : List He.Fa := [.glo "_law_spoilt", .glo "_law_tables_hold", .glo "law", .glo "Refused", .glo "BadRing", .glo "BadTable", .glo "BadWeight", .glo "Unreckoned", .glo "Unknown", .glo "Kind", .glo "Counted", .glo "Finite", .glo "Table", .glo "Pair", .glo "Topped", .glo "Truth", .glo "Ring", .int "_PAIRS" 3, .free "ValueError", .free "all", .free "bool", .free "enumerate", .free "int", .free "isinstance", .free "len"]
def fa_2 : List He.Fa := [.free "list", .free "max", .free "min", .free "range", .free "repr", .free "str", .free "tuple"]
def fa_3 : List He.Fa := [.glo "_RULES", .glo "_BARE", .glo "_SIZES", .glo "_THINGS", .cls "Ring", .cls "Table", .cls "Truth", .cls "Pair", .mkr "Ring", .mkr "Table", .mkr "Truth", .mkr "Pair"]
def fa : List He.Fa := fa_0 ++ fa_1 ++ fa_2 ++ fa_3
abbrev R : PySem.W.OpenRow := PySem.W.OpenLaw.row PySem.Challenge.rw_semirail_k09_tables_made_and_refused
/-! the addresses that the facts ask for, level by level, no class's bases -/
def outs (g : Addr → Option Obj) (a : Addr) : List Addr := match g a with
  | some o => (match o.data with
    | .func fd => He.refV fd.code ++ He.refV fd.defaults ++ He.refV fd.kwdefaults ++ fd.closure.map (·.2)
    | .cls cd => [cd.ns]
    | .seq its _ => its.toList.flatMap He.refV
    | .dict es _ => es.toList.flatMap fun e => He.refV e.val
    | .fields vs => vs.toList.flatMap He.refV
    | .cell (some v) => He.refV v
    | _ => [])
  | none => []
def levs (g : Addr → Option Obj) : Nat → List Addr → List Addr
  | 0, _ => []
  | n + 1, l => l ++ levs g n (l.flatMap (outs g))
def adrs (g : Addr → Option Obj) : List Addr := cStatics :: levs g 7 [mainGlobals]
def frK (g : Addr → Option Obj) : PySem.W.Frag := He.frG g (adrs g)
def keys : List Str := ["lot", "rest", "terms"]
structure SaysL (w : World) (K : PySem.W.Frag) : Prop where
  d : He.SaysD fa fn K
  more : D1.ex K = true
  tab : He.dicW K (He.ga K "_SIZES") = some (He.keysIn w.params keys)
abbrev AlL : Type := He.AlD × (Bool × Option (List (Option (Str × Int))))
def obsK (K : PySem.W.Frag) : AlL := (He.obsD fa fn K, (D1.ex K, He.dicW K (He.ga K "_SIZES")))
def obsL (g : Addr → Option Obj) : AlL := obsK (frK g)
def hk : PySem.W.Hook where
  α := AlL
  obs := fun s => obsL s.heap.get?
  val := fun w => (He.valD fn, (true, some (He.keysIn w.params keys)))
  says := fun w h => ∃ K : PySem.W.Frag, K.In h ∧ SaysL w K
  of := fun _ _ e => ⟨_, He.frG_in, congrArg (fun z : AlL => z.1) e, congrArg (fun z : AlL => z.2.1) e, congrArg (fun z : AlL => z.2.2) e⟩
  keeps := fun _ _ _ ⟨K, hK, c⟩ k => ⟨K, PySem.W.Frag.In.keeps hK k, c⟩
theorem obsL_eq {g : Addr → Option Obj} {s : Shared} (h : ∀ a, g a = s.heap.get? a) : obsL g = hk.obs s := by
  have e : g = s.heap.get? := funext h
  rw [e] <;> rfl
def ob (s : PySem.W.SharedT) : AlL := obsL (HandSHeadRun.getT s)
theorem ob_eq (s : PySem.W.SharedT) : ob s = hk.obs s.abs := obsL_eq (HandSHeadRun.getT_eq s)
/-- the run of the top, and one thing told of its end -/
noncomputable def told {α : Type} (w : World) (g : Shared × PySem.W.SharedT → α) : Option α := (HandSHeadRun.wholeF (fun p => HandSHeadRun.stepQ (HandSHeadRun.denQ HandSHeadRun.tabQ) p w) HandSHeadRun.fenceQ 20000 R.prog).map g
abbrev wf (w : World) (b : Bool) : World := w.withFollow "special-get-raises" b
end W09
end
section
set_option Elab.async false
set_option linter.all false
set_option maxRecDepth 100000
set_option maxHeartbeats 0
/-! H09b: what the run of the top tells, in three parts for each of the two worlds -/
namespace W09
open PySem PySem.Spec PyProof.Rows L2
abbrev q09 : Program := PySem.W.view R.prog [0, 88]
theorem join3 {α β γ δ ε : Type} {x : Option α} {f : α → β} {g : α → γ} {o : α → δ} {e : α → ε} {b : β} {c : γ} {d : δ} {k : ε} (h1 : x.map (fun a => (f a, g a)) = some (b, c)) (h2 : x.map o = some d) (h3 : x.map e = some k) : x.map (fun a => (f a, g a, o a, e a)) = some (b, c, d, k) := by
  cases x with
  | none => cases h2
  | some a =>
    have h1' := Option.some.inj h1
    obtain ⟨rfl, rfl⟩ := Prod.mk.inj h1'
    obtain rfl := Option.some.inj h2
    obtain rfl := Option.some.inj h3
    rfl
theorem l_f (w : World) : told (wf w false) (fun x => (HandSHeadRun.looksF R.prog x.1.heap x.2.abs, HandSHeadRun.seenQ q09 names (importedModules R.prog.main.body) (fun s => PySem.W.xlAt q09 [] s && PySem.W.recOk R.toRowW.records s) x.2.abs)) = some (true, PySem.W.openGood q09 names) := by
  unfold told
  kernel_rfl
theorem o_f (w : World) : told (wf w false) (fun x => He.obsD fa fn (frK (HandSHeadRun.getT x.2))) = some (He.valD fn) := by
  unfold told
  kernel_rfl
theorem e_f (w : World) : told (wf w false) (fun x => (D1.ex (frK (HandSHeadRun.getT x.2)), He.dicW (frK (HandSHeadRun.getT x.2)) (He.ga (frK (HandSHeadRun.getT x.2)) "_SIZES"))) = some (true, some (He.keysIn (wf w false).params keys)) := by
  unfold told
  kernel_rfl
theorem run_f (w : World) : HandSHeadRun.RunEqI R (PySem.W.view R.prog [0, 88]) hk ob 20000 names (wf w false) := by
  unfold HandSHeadRun.RunEqI
  exact join3 (l_f w) (o_f w) (e_f w)
theorem l_t (w : World) : told (wf w true) (fun x => (HandSHeadRun.looksF R.prog x.1.heap x.2.abs, HandSHeadRun.seenQ q09 names (importedModules R.prog.main.body) (fun s => PySem.W.xlAt q09 [] s && PySem.W.recOk R.toRowW.records s) x.2.abs)) = some (true, PySem.W.openGood q09 names) := by
  unfold told
  kernel_rfl
theorem o_t (w : World) : told (wf w true) (fun x => He.obsD fa fn (frK (HandSHeadRun.getT x.2))) = some (He.valD fn) := by
  unfold told
  kernel_rfl
theorem e_t (w : World) : told (wf w true) (fun x => (D1.ex (frK (HandSHeadRun.getT x.2)), He.dicW (frK (HandSHeadRun.getT x.2)) (He.ga (frK (HandSHeadRun.getT x.2)) "_SIZES"))) = some (true, some (He.keysIn (wf w true).params keys)) := by
  unfold told
  kernel_rfl
theorem run_t (w : World) : HandSHeadRun.RunEqI R (PySem.W.view R.prog [0, 88]) hk ob 20000 names (wf w true) := by
  unfold HandSHeadRun.RunEqI
  exact join3 (l_t w) (o_t w) (e_t w)
theorem run (w : World) : HandSHeadRun.RunEqI R (PySem.W.view R.prog [0, 88]) hk ob 20000 names w := PySem.W.byRow2 "special-get-raises" (P := fun w => HandSHeadRun.RunEqI R (PySem.W.view R.prog [0, 88]) hk ob 20000 names w) run_f run_t w
end W09
end
section
set_option Elab.async false
set_option linter.all false
set_option maxRecDepth 100000
set_option maxHeartbeats 4000000
/-! B0: frames: what may change (mut) with an invariant (inv) of it -/
namespace D1
open PySem L2 Evl
/-- addresses that may change, and what is always true of them -/
structure Fr where
  chg : Addr → Prop
  inv : Hp → Prop
  mono : ∀ H H', Ex H H' → inv H → inv H'
  live : ∀ H b, inv H → chg b → H b ≠ none
/-- from H to H': the invariant holds behind, all else stays -/
structure Fr.R (F : Fr) (H H' : Hp) : Prop where
  inv : F.inv H'
  keep : ∀ b o, ¬F.chg b → H b = some o → H' b = some o
theorem Fr.R.trans {F : Fr} {H H1 H2 : Hp} (a : F.R H H1) (b : F.R H1 H2) : F.R H H2 := ⟨b.inv, fun c o n e => b.keep c o n (a.keep c o n e)⟩
theorem Fr.R.refl {F : Fr} {H : Hp} (h : F.inv H) : F.R H H := ⟨h, fun _ _ _ e => e⟩
theorem Fr.R.ex {F : Fr} {H H' : Hp} (h : F.inv H) (e : Ex H H') : F.R H H' := ⟨F.mono H H' e h, fun b o _ x => e b o x⟩
theorem Fr.R.new {F : Fr} {H : Hp} {p : Addr} {o : HO} (h : F.inv H) (hp : H p = none) : F.R H (upd H p o) := .ex h (.new hp)
theorem Fr.fresh {F : Fr} {H : Hp} {p : Addr} (h : F.inv H) (hp : H p = none) : ¬F.chg p := fun m => F.live H p h m hp
/-- an object of one's own changes -/
theorem Fr.R.set {F : Fr} {H H1 : Hp} {p : Addr} {o : HO} (hinv : F.inv (upd H1 p o)) (r : F.R H H1) (hp : H p = none) : F.R H (upd H1 p o) := ⟨hinv, fun b u n e => by
  rw [upd_ne (ne_of_none e hp)]
  exact r.keep b u n e⟩
theorem yes_of {c : Bool} {A B : Prop} (hc : c = true) (h : A) : if c = true then A else B := by
  rw [if_pos hc]
  exact h
theorem no_of {c : Bool} {A B : Prop} (hc : c = false) (h : B) : if c = true then A else B := by
  rw [hc, if_neg Bool.false_ne_true]
  exact h
theorem atI_of {xs : List V} {i : Int} {v : V} (h0 : 0 ≤ i) (h : xs[i.toNat]? = some v) : atI xs i = some v := by
  have e1 : i = (i.toNat : Int) := by omega
  generalize i.toNat = j at e1 h
  subst e1
  exact atI_nat h
theorem seq0 {n : Nat} (h : 0 < n) : seqIndex? 0 n = some 0 := by
  unfold seqIndex?
  first
    | rfl
    | simp [h]
/-! ### the state of draws: "at" is at most j -/
def MD (L C : Addr) (k : Int) : List (Key × V) := [(.inr "cells", .ref C), (.inr "left", .ref L), (.inr "at", .int k)]
structure MS (m L C : Addr) (j : Int) (H : Hp) : Prop where
  ne : L ≠ C
  ex : ∃ (ls cs : List Int) (k : Int), H m = some (.dK (MD L C k)) ∧ H L = some (.lst (ls.map V.int)) ∧ H C = some (.lst (cs.map V.int)) ∧ cs.length = 61 ∧ ls.length ≤ 63 ∧ 0 ≤ k ∧ k ≤ j
theorem MS.up {m L C : Addr} {i j : Int} {H : Hp} (h : MS m L C i H) (e : i ≤ j) : MS m L C j H := by
  obtain ⟨n, ls, cs, k, h1, h2, h3, h4, h5, h6, h7⟩ := h
  exact ⟨n, ls, cs, k, h1, h2, h3, h4, h5, h6, Int.le_trans h7 e⟩
def frM (m L C : Addr) (j : Int) : Fr where
  chg := fun b => b = m ∨ b = L
  inv := MS m L C j
  mono := fun H H' e h => by
    obtain ⟨n, ls, cs, k, h1, h2, h3, q⟩ := h
    exact ⟨n, ls, cs, k, e _ _ h1, e _ _ h2, e _ _ h3, q⟩
  live := fun H b h => by
    obtain ⟨n, ls, cs, k, h1, h2, h3, q⟩ := h
    rintro (rfl | rfl)
    · rw [h1]
      exact Option.some_ne_none _
    · rw [h2]
      exact Option.some_ne_none _
theorem up {m L C : Addr} {i j : Int} {H H' : Hp} (r : (frM m L C i).R H H') (e : i ≤ j) : (frM m L C j).R H H' := ⟨MS.up r.inv e, r.keep⟩
/-- one behind the other, at any levels -/
theorem and_then {m L C : Addr} {i j : Int} {H H1 H2 : Hp} (a : (frM m L C i).R H H1) (b : (frM m L C j).R H1 H2) : (frM m L C j).R H H2 := ⟨b.inv, fun c o n e => b.keep c o n (a.keep c o n e)⟩
theorem put_at {L C : Addr} {k x : Int} : putK (MD L C k) (.inr "at") (.int x) = MD L C x := rfl
theorem put_left {L L2 C : Addr} {k : Int} : putK (MD L C k) (.inr "left") (.ref L2) = MD L2 C k := rfl
/-! ### // by a divisor of any size up to 2 ^ 64 -/
def CDivL (i j : Int) : Prop := 0 < j ∧ j < 2 ^ 64
theorem op_fdivL {X : Cx} : OpR X (binaryOp .FloorDiv) (rI CDivL fun i j => .int (i / j)) := opI fun i j _ _ _ _ _ hc q => by
  have h1 : (0 : Int) < j := hc.1
  have h2 : j < 2 ^ 64 := hc.2
  refine PyProof.Rows.floordiv_int (by omega) (by rw [Int.fdiv_eq_ediv_of_nonneg i (by omega)]; exact q) (.inl (PyProof.noPylong_of_log2 ?_))
  have h0 : j.natAbs ≠ 0 := by omega
  have h3 : j.natAbs < 2 ^ 64 := by omega
  have := (Nat.log2_lt h0).mpr h3
  omega
end D1
end
section
set_option Elab.async false
set_option linter.all false
set_option maxRecDepth 100000
set_option maxHeartbeats 4000000
/-! D1: the draws -/
namespace D1
open PySem L2 Evl
abbrev s_mixed : Stmt := top 74
theorem sc_mixed : FnScope ["_law_cell", "_law_k", "_law_high", "_law_number"] ["_law_cell", "_law_k"] (defScope s_mixed) := ⟨rfl, rfl, rfl, by decide +kernel, rfl, by decide +kernel, by decide +kernel⟩
/-! ### what is reckoned -/
def spMix : Sp := fun vs H Q _ => ∃ (c k : Int), vs = [.int c, .int k] ∧ 0 ≤ k ∧ k < 2 ^ 60 ∧ ∀ i : Int, Q (.int i) H
section
variable {P : Program} {w : World} {K : PySem.W.Frag} {mg : Str → Option Value} {base : Heap}
theorem ok_mixed {f : Addr} {fd : FuncData} (F : FnP K "_law_mixed" s_mixed f fd) : FnOk P w K mg base CX0 1 f fd ["_law_cell", "_law_k"] spMix := by
  refine F.ok sc_mixed (fun vs H Q E h => ?_) (fun cdv A outer s H vs Q E hr h => ?_)
  · obtain ⟨c, k, rfl, _⟩ := h
    rfl
  · obtain ⟨c, k, rfl, h0, h1, q⟩ := h
    refine ⟨_, PSs.nox (pss_cons (ps_set (i := 2) sc_mixed.nd rfl (Or.inl rfl) (pe_op op_mul (pe_op op_fdivL (pv 0) pe_int) (pe_op op_add (pv 1) pe_int)))
      (pss_cons (ps_set (i := 3) sc_mixed.nd rfl (Or.inl rfl) (pe_op op_mod (pe_op op_mul (pe_op op_add (pe_op op_add (pe_op op_add (pe_op op_add (pv 0) (pv 2)) (pe_op op_mul (pe_op op_mul pe_int (pv 1)) (pv 1))) (pe_op op_mul pe_int (pv 1))) pe_int) pe_int) pe_int))
      (pss_one (ps_ret (pe_op op_fdivL (pe_op op_mod (pe_op op_mul (pv 3) pe_int) pe_int) pe_int))))), ?_⟩
    refine ⟨_, rfl, _, _, rfl, rfl, ⟨by first | decide | omega, by first | decide | omega⟩, _, rfl, _, _, rfl, rfl, _, _, rfl, rfl, (by first | exact Or.inl ⟨by decide, by decide⟩ | exact Or.inr ⟨by decide, by decide⟩ | exact Or.inl ⟨by omega, by omega⟩ | exact Or.inr ⟨by omega, by omega⟩), ?_⟩
    refine ⟨_, rfl, _, rfl, _, _, rfl, rfl, _, rfl, _, _, rfl, rfl, (by first | exact Or.inl ⟨by decide, by decide⟩ | exact Or.inr ⟨by decide, by decide⟩ | exact Or.inl ⟨by omega, by omega⟩ | exact Or.inr ⟨by omega, by omega⟩), _, rfl, _, _, rfl, rfl, (by first | exact Or.inl ⟨by decide, by decide⟩ | exact Or.inr ⟨by decide, by decide⟩ | exact Or.inl ⟨by omega, by omega⟩ | exact Or.inr ⟨by omega, by omega⟩), _, _, rfl, rfl, _, rfl, _, _, rfl, rfl, (by first | exact Or.inl ⟨by decide, by decide⟩ | exact Or.inr ⟨by decide, by decide⟩ | exact Or.inl ⟨by omega, by omega⟩ | exact Or.inr ⟨by omega, by omega⟩), _, _, rfl, rfl, _, _, rfl, rfl, _, _, rfl, rfl, (by first | exact Or.inl ⟨by decide, by decide⟩ | exact Or.inr ⟨by decide, by decide⟩ | exact Or.inl ⟨by omega, by omega⟩ | exact Or.inr ⟨by omega, by omega⟩), _, _, rfl, rfl, (by first | decide | omega | (show (0 : Int) < _; decide) | (show (0 : Int) < _; omega)), ?_⟩
    refine ⟨_, rfl, _, _, rfl, rfl, (by first | exact Or.inl ⟨by decide, by decide⟩ | exact Or.inr ⟨by decide, by decide⟩ | exact Or.inl ⟨by omega, by omega⟩ | exact Or.inr ⟨by omega, by omega⟩), _, _, rfl, rfl, (by first | decide | omega | (show (0 : Int) < _; decide) | (show (0 : Int) < _; omega)), _, _, rfl, rfl, ⟨by first | decide | omega, by first | decide | omega⟩, ?_⟩
    exact q _
/-! ### _law_draw -/
def spDraw : Sp := fun vs H Q _ => ∃ (m L C : Addr) (n j : Int), vs = [.ref m, .int n] ∧ MS m L C j H ∧ j < 2 ^ 50 ∧ 0 < n ∧ n < 1000000 ∧ ∀ (d : Int) H', 0 ≤ d → d < n → (frM m L C (j + 1)).R H H' → Q (.int d) H'
theorem dp_ints {K : PySem.W.Frag} {H : Hp} : ∀ ls : List Int, DpAll K H (ls.map V.int) (ls.map PyData.int)
  | [] => .nil
  | _ :: r => .cons (.int _) (dp_ints r)
theorem eqv_nil (ls : List Int) : PyData.eqv (.list (ls.map PyData.int)) (.list []) = ls.isEmpty := by
  cases ls <;> rfl
theorem ixN_of {n : Nat} {i : Int} (h0 : 0 ≤ i) (h : i.toNat < n) : ixN n i = some i.toNat := by
  have e1 : i = (i.toNat : Int) := by omega
  generalize i.toNat = j at e1 h
  subst e1
  exact ixN_nat h
abbrev s_draw : Stmt := top 76
theorem sc_draw : FnScope ["_law_m", "_law_many", "_law_k", "_law_at", "_law_cell"] ["_law_m", "_law_many"] (defScope s_draw) := ⟨rfl, rfl, rfl, by decide +kernel, rfl, by decide +kernel, by decide +kernel⟩
theorem ok_draw {f f_mixed : Addr} {fd fd_mixed : FuncData} (F : FnP K "_law_draw" s_draw f fd) (F_mixed : FnP K "_law_mixed" s_mixed f_mixed fd_mixed) (g_mixed : mg "_law_mixed" = some (.ref f_mixed)) (z_len : mg "len" = none) : FnOk P w K mg base CX0 2 f fd ["_law_m", "_law_many"] spDraw := by
  have G_mixed : FnOk P w K mg base CX0 1 f_mixed fd_mixed ["_law_cell", "_law_k"] spMix := ok_mixed F_mixed
  have b_mixed : Binds K fd_mixed ["_law_cell", "_law_k"] [] := F_mixed.bindsN fun _ _ _ _ _ _ us hl => match us, hl with | [_, _], _ => rfl
  refine F.ok sc_draw (fun vs H Q E h => ?_) (fun cdv A outer s H vs Q E hr h => ?_)
  · obtain ⟨m, L, C, n, j, rfl, _⟩ := h
    rfl
  · obtain ⟨m, L, C, n, j, rfl, ⟨nLC, ls, cs, k, hm, hL, hC, hc, hl, k0, kj⟩, hj, n0, n1, q⟩ := h
    have hu := hu_of hr
    have hr_mixed := hr
    refine ⟨_, PSs.nox (pss_cons (ps_set (i := 2) sc_draw.nd rfl (Or.inl rfl) (pe_dget hu (pv 0) pe_str (fun _ _ => rfl)))
      (pss_cons (ps_dput hu (pv 0) pe_str (pe_op op_add (pv 2) pe_int) rfl)
      (pss_cons (ps_if (pt_cmpR (op_neD hr.units) (pe_dget hu (pv 0) pe_str (fun _ _ => rfl)) (pe_lst pa_nil) (nomark _)) (pss_cons (ps_set (i := 3) sc_draw.nd rfl (Or.inl rfl) (pe_op op_mod (pv 2) (pe_callB call_len_seq (by rfl) z_len PySem.boot_len (pa_cons (pe_dget hu (pv 0) pe_str (fun _ _ => rfl)) pa_nil))))
      (pss_cons (ps_set (i := 4) sc_draw.nd rfl (Or.inl rfl) (pe_ix ix_list (pe_dget hu (pv 0) pe_str (fun _ _ => rfl)) (pv 3) (fun _ _ => rfl)))
      (pss_one (ps_if (pt_cmpR op_gt (pv 4) pe_int (nomark _)) (pss_cons (ps_asg (pe_op op_fdivL (pv 4) (pv 1)) (pg_sub (pe_dget hu (pv 0) pe_str (fun _ _ => rfl)) (pv 3) set_list))
      (pss_one (ps_ret (pe_op op_mod (pv 4) (pv 1))))) pss_nil)))) pss_nil)
      (pss_one (ps_ret (pe_op op_mod (pe_call G_mixed hr_mixed rfl g_mixed F_mixed.kp b_mixed .nil pass0 (pa_cons (pe_call G_mixed hr_mixed rfl g_mixed F_mixed.kp b_mixed .nil pass0 (pa_cons (pe_op op_add (pe_ix ix_list (pe_dget hu (pv 0) pe_str (fun _ _ => rfl)) (pe_op op_mod (pv 2) pe_int) (fun _ _ => rfl)) (pe_op op_mul pe_int (pe_op op_fdivL (pv 2) pe_int))) (pa_cons (pv 2) pa_nil))) (pa_cons (pe_op op_add (pv 2) pe_int) pa_nil))) (pv 1))))))), ?_⟩
    have nmL : m ≠ L := fun z => by
      rw [z, hL] at hm
      cases hm
    have nmC : m ≠ C := fun z => by
      rw [z, hC] at hm
      cases hm
    refine ⟨_, rfl, m, .int k, rfl, DGet.k (k := .inr "at") hm, _, rfl, _, _, rfl, rfl, _, rfl, m, _, rfl, DPut.k (k := .inr "at") hm (by show 3 < sizeLine; decide), ?_⟩
    rw [put_at]
    have hm1 : (upd H m (.dK (MD L C (k + 1)))) m = some (.dK (MD L C (k + 1))) := upd_same
    have hL1 : (upd H m (.dK (MD L C (k + 1)))) L = some (.lst (ls.map V.int)) := by rw [upd_ne (Ne.symm nmL)]; exact hL
    have hC1 : (upd H m (.dK (MD L C (k + 1)))) C = some (.lst (cs.map V.int)) := by rw [upd_ne (Ne.symm nmC)]; exact hC
    refine ⟨_, rfl, m, .ref L, rfl, DGet.k (k := .inr "left") hm1, (by show 0 ≤ sizeLine; decide), fun e he => ?_⟩
    have eL : L ≠ e := ne_of_none hL1 he
    refine ⟨.list (ls.map PyData.int), .list [], .lst (.inl (.inl (by rw [upd_ne eL]; exact hL1))) (dp_ints ls), .lst (.inl (.inl upd_same)) .nil, PySem.W.shaped_ints ls, rfl, _, rfl, ?_⟩
    rw [eqv_nil]
    have me : m ≠ e := ne_of_none hm1 he
    have Ce : C ≠ e := ne_of_none hC1 he
    have hm2 : (upd (upd H m (.dK (MD L C (k + 1)))) e (.lst [])) m = some (.dK (MD L C (k + 1))) := by rw [upd_ne me]; exact hm1
    have hL2 : (upd (upd H m (.dK (MD L C (k + 1)))) e (.lst [])) L = some (.lst (ls.map V.int)) := by rw [upd_ne eL]; exact hL1
    have hC2 : (upd (upd H m (.dK (MD L C (k + 1)))) e (.lst [])) C = some (.lst (cs.map V.int)) := by rw [upd_ne Ce]; exact hC1
    have kp2 : ∀ b o, ¬(b = m ∨ b = L) → H b = some o → (upd (upd H m (.dK (MD L C (k + 1)))) e (.lst [])) b = some o := fun b o nb ho => by
      have h1 : (upd H m (.dK (MD L C (k + 1)))) b = some o := by rw [upd_ne (fun z => nb (.inl z))]; exact ho
      rw [upd_ne (ne_of_none h1 he)]
      exact h1
    have k61 : 0 ≤ k % 61 ∧ k % 61 < 61 := ⟨Int.emod_nonneg _ (by decide), Int.emod_lt_of_pos _ (by decide)⟩
    have at61 : ∃ c, atI (cs.map V.int) (k % 61) = some (.int c) := by
      have hi : (k % 61).toNat < cs.length := by omega
      exact ⟨cs[(k % 61).toNat], atI_of k61.1 (by rw [List.getElem?_map, List.getElem?_eq_getElem hi]; rfl)⟩
    obtain ⟨c1, c1e⟩ := at61
    generalize hG : (upd (upd H m (.dK (MD L C (k + 1)))) e (.lst [])) = G at hm2 hL2 hC2 kp2 ⊢
    have k1 : k + 1 ≤ j + 1 := by omega
    have fin : ∀ (d : Int) H', 0 ≤ d → d < n → MS m L C (j + 1) H' → (∀ b o, ¬(b = m ∨ b = L) → H b = some o → H' b = some o) → Q (.int d) H' := fun d H' d0 d1 a b => q d _ d0 d1 ⟨a, b⟩
    have last : ∀ T : VK, (∀ v, T v G → True) → True := fun _ _ => trivial
    cases ls with
    | nil =>
      refine no_of rfl ?_
      refine ⟨_, rfl, m, .ref C, rfl, DGet.k (k := .inr "cells") hm2, _, rfl, _, _, rfl, rfl, (by show (0 : Int) < 61; decide), C, _, _, _, rfl, rfl, SqL.of hC2, c1e, _, rfl, _, _, rfl, rfl, ⟨by decide, by decide⟩, _, _, rfl, rfl, .inl ⟨by decide, by decide⟩, _, _, rfl, rfl, _, rfl, _, _, rfl, k0, (by omega), fun i1 => ?_⟩
      refine ⟨_, rfl, _, _, rfl, rfl, _, _, rfl, (by omega), (by omega), fun i2 => ?_⟩
      refine ⟨_, rfl, _, _, rfl, rfl, n0, ?_⟩
      exact fin _ _ (Int.emod_nonneg _ (by omega)) (Int.emod_lt_of_pos _ n0) ⟨nLC, [], cs, k + 1, hm2, hL2, hC2, hc, by simp, by omega, k1⟩ kp2
    | cons c0 ls =>
      refine yes_of rfl ?_
      have hn : ((c0 :: ls).map V.int).length = ls.length + 1 := by simp
      have hl1 : ls.length ≤ 62 := by
        have := hl
        simp only [List.length_cons] at this
        omega
      have r0 : 0 ≤ k % ((ls.length + 1 : Nat) : Int) := Int.emod_nonneg _ (by omega)
      have r1 : k % ((ls.length + 1 : Nat) : Int) < ((ls.length + 1 : Nat) : Int) := Int.emod_lt_of_pos _ (by omega)
      have hi : (k % ((ls.length + 1 : Nat) : Int)).toNat < (c0 :: ls).length := by
        show _ < ls.length + 1
        omega
      obtain ⟨c, ce⟩ : ∃ c, atI ((c0 :: ls).map V.int) (k % ((ls.length + 1 : Nat) : Int)) = some (.int c) := ⟨(c0 :: ls)[(k % ((ls.length + 1 : Nat) : Int)).toNat], atI_of r0 (by rw [List.getElem?_map, List.getElem?_eq_getElem hi]; rfl)⟩
      refine ⟨_, rfl, _, rfl, m, .ref L, rfl, DGet.k (k := .inr "left") hm2, L, _, rfl, .inl (SqL.of hL2), _, _, rfl, rfl, (by rw [hn]; omega), ?_⟩
      rw [hn]
      refine ⟨_, rfl, m, .ref L, rfl, DGet.k (k := .inr "left") hm2, _, rfl, L, _, _, _, rfl, rfl, SqL.of hL2, ce, _, rfl, _, _, rfl, rfl, _, rfl, ?_⟩
      by_cases hq : (0 : Int) < c
      · refine yes_of (decide_eq_true hq) ?_
        refine ⟨_, rfl, _, rfl, _, _, rfl, rfl, ⟨n0, by omega⟩, _, rfl, m, .ref L, rfl, DGet.k (k := .inr "left") hm2, _, rfl, L, _, _, _, rfl, rfl, hL2, ixN_of r0 (by rw [List.length_map]; exact hi), ?_⟩
        refine ⟨_, rfl, _, rfl, _, _, rfl, rfl, n0, ?_⟩
        refine fin _ _ (Int.emod_nonneg _ (by omega)) (Int.emod_lt_of_pos _ n0) ⟨nLC, (c0 :: ls).set (k % ((ls.length + 1 : Nat) : Int)).toNat (c / n), cs, k + 1, ?_, ?_, ?_, hc, ?_, by omega, k1⟩ fun b o nb ho => ?_
        · rw [upd_ne nmL]
          exact hm2
        · rw [upd_same, List.map_set]
        · rw [upd_ne (Ne.symm nLC)]
          exact hC2
        · rw [List.length_set]
          exact hl
        · rw [upd_ne (fun z => nb (.inr z))]
          exact kp2 b o nb ho
      · refine no_of (decide_eq_false hq) ?_
        refine ⟨_, rfl, m, .ref C, rfl, DGet.k (k := .inr "cells") hm2, _, rfl, _, _, rfl, rfl, (by show (0 : Int) < 61; decide), C, _, _, _, rfl, rfl, SqL.of hC2, c1e, _, rfl, _, _, rfl, rfl, ⟨by decide, by decide⟩, _, _, rfl, rfl, .inl ⟨by decide, by decide⟩, _, _, rfl, rfl, _, rfl, _, _, rfl, k0, (by omega), fun i1 => ?_⟩
        refine ⟨_, rfl, _, _, rfl, rfl, _, _, rfl, (by omega), (by omega), fun i2 => ?_⟩
        refine ⟨_, rfl, _, _, rfl, rfl, n0, ?_⟩
        exact fin _ _ (Int.emod_nonneg _ (by omega)) (Int.emod_lt_of_pos _ n0) ⟨nLC, c0 :: ls, cs, k + 1, hm2, hL2, hC2, hc, hl, by omega, k1⟩ kp2
end
end D1
end
section
set_option Elab.async false
set_option linter.all false
set_option maxRecDepth 100000
set_option maxHeartbeats 4000000
/-! D2: _law_folded, _law_begun -/
namespace D1
open PySem L2 Evl
section
variable {P : Program} {w : World} {K : PySem.W.Frag} {mg : Str → Option Value} {base : Heap}
theorem int_at {ns : List Int} {i : Nat} {x : V} (h : (ns.map V.int)[i]? = some x) : x = V.int (ns.getD i 0) := by
  rw [List.getElem?_map] at h
  obtain ⟨c, e1, e⟩ := Option.map_eq_some_iff.mp h
  rw [← e, List.getD_eq_getElem?_getD, e1]
  rfl
theorem el_is {te : TE} {σ : L2.St} {H : Hp} {xs ys : List V} (h : EvL te σ H xs) (e : xs = ys) : EvL te σ H ys := by
  rw [← e]
  exact h
def tab61 : List Int := (List.range 61).map fun (k : Nat) => (101 : Int) + 3 * (k : Int)
abbrev s_folded : Stmt := top 75
theorem sc_folded : FnScope ["_law_script", "_law_k", "_law_found", "_law_cell"] ["_law_script"] (defScope s_folded) := ⟨rfl, rfl, rfl, by decide +kernel, rfl, by decide +kernel, by decide +kernel⟩
def spFolded (K : PySem.W.Frag) : Sp := fun vs H Q _ => ∃ (a : Addr) (ns : List Int), vs = [.ref a] ∧ SqL K H a (ns.map V.int) ∧ ∀ (C : Addr) (cs : List Int) H', Ex H H' → H C = none → H' C = some (.lst (cs.map V.int)) → cs.length = 61 → Q (.ref C) H'
theorem ok_folded {f : Addr} {fd : FuncData} (F : FnP K "_law_folded" s_folded f fd) (z_range : mg "range" = none) (z_enumerate : mg "enumerate" = none) : FnOk P w K mg base CX0 1 f fd ["_law_script"] (spFolded K) := by
  refine F.ok sc_folded (fun vs H Q E h => ?_) (fun cdv A outer s H vs Q E hr h => ?_)
  · obtain ⟨a, ns, rfl, _⟩ := h
    rfl
  · obtain ⟨a, ns, rfl, hS, q⟩ := h
    have hu := hu_of hr
    refine ⟨_, PSs.nox (pss_cons (ps_setLc (i := 2) (own := [("_law_k", 1)]) (g := gName 1) (tt := tYes) (by rfl) sc_folded.nd rfl rfl (sw_true rfl rfl rfl (by decide +kernel)) (pi_range1 rfl z_range (pa_cons pe_int pa_nil)) (blkOk_by (own := [("_law_k", 1)]) (N := ["_law_script", "_law_k", "_law_found", "_law_cell"]) (sc := defScope s_folded) (by decide +kernel)) (fun _ _ _ _ _ => pg_name (i := 1) sc_folded.nd rfl (Or.inl rfl)) (fun _ _ _ _ _ => pts_nil) (fun _ _ _ _ _ => pe_op op_add pe_int (pe_op op_mul pe_int (pv 1))))
      (pss_cons (ps_for PassesOwn.never rfl (pi_enum (by rfl) z_enumerate (pa_cons (pv 0) pa_nil)) (pg_tup rfl (pgs_cons (pg_name (i := 1) sc_folded.nd rfl (Or.inl rfl)) (pgs_cons (pg_name (i := 3) sc_folded.nd rfl (Or.inl rfl)) pgs_nil))) (pss_one (ps_asg (pe_op op_mod (pe_op op_add (pe_op op_mul (pe_ix ix_list (pv 2) (pe_op op_mod (pv 1) pe_int) (fun _ _ => rfl)) pe_int) (pv 3)) pe_int) (pg_sub (pv 2) (pe_op op_mod (pv 1) pe_int) set_list))))
      (pss_cons (ps_for PassesOwn.never rfl (pi_range2 rfl z_range (pa_cons pe_int (pa_cons pe_int pa_nil))) (pg_name (i := 1) sc_folded.nd rfl (Or.inl rfl)) (pss_one (ps_asg (pe_op op_mod (pe_op op_add (pe_ix ix_list (pv 2) (pv 1) (fun _ _ => rfl)) (pe_op op_mul (pe_ix ix_list (pv 2) (pe_op op_sub (pv 1) pe_int) (fun _ _ => rfl)) pe_int)) pe_int) (pg_sub (pv 2) (pv 1) set_list))))
      (pss_one (ps_ret (pv 2)))))), ?_⟩
    refine q_asgL (xs := (tab61.map V.int)) (el_is (el_lcR1 (j := 1) (vs := [1]) (n := 61) (fun _ => true) (fun k => V.int (101 + 3 * (k : Int))) (ea_cons ev_c ea_nil) (by decide) (fun x => rfl) (fun k H4 _ _ H5 _ Q' q => q H5 (Ex.refl H5)) (fun k H4 _ _ _ => ev_op ev_c (ev_op ev_c (ev_var rfl) (rv_I (.inl ⟨by decide, by decide⟩))) rv_I0)) rfl) fun D G hD e1 hG => ?_
    have hSG : ∀ {G'}, Ex G G' → SqL K G' a (ns.map V.int) := fun e => ex_l (e1.trans e) hS
    refine ⟨_, rfl, a, ns.map V.int, rfl, hSG (Ex.refl G), for_it (walk_enum (K := K) (a := a) (xs := ns.map V.int)) (fun t σ' H' => ∃ x1 x3 cs, σ' = [some (.ref a), x1, some (.ref D), x3] ∧ Ex H H' ∧ H' D = some (.lst (cs.map V.int)) ∧ cs.length = 61)
      ⟨none, none, tab61, rfl, e1, hG, rfl⟩ (fun i σ' H' _ h => ?_) ?_ ?_⟩
    · obtain ⟨x1, x3, cs, rfl, e2, _⟩ := h
      exact ex_l e2 hS
    · rintro i x σ' H1 H2 hi ⟨x1, x3, cs, rfl, e2, hD2, hc⟩ ⟨T, y, z, rfl, hT, rfl, hy, hz⟩
      obtain rfl : V.int (i : Nat) = y := Option.some.inj hy
      obtain ⟨c, rfl⟩ : ∃ c : Int, z = .int c := by
        have hz2 : (ns.map V.int)[i]? = some z := hz
        rw [List.getElem?_map] at hz2
        obtain ⟨c, _, e⟩ := Option.map_eq_some_iff.mp hz2
        exact ⟨c, e.symm⟩
      have DT : D ≠ T := ne_of_none hD2 hT
      have hD3 : (upd H1 T (.tup [.int (i : Nat), .int c])) D = some (.lst (cs.map V.int)) := by rw [upd_ne DT]; exact hD2
      have i63 : 0 ≤ (i : Int) % 61 ∧ (i : Int) % 61 < 61 := ⟨Int.emod_nonneg _ (by decide), Int.emod_lt_of_pos _ (by decide)⟩
      have hj : ((i : Int) % 61).toNat < cs.length := by omega
      refine ⟨T, _, rfl, .inl (.inl upd_same), rfl, _, _, rfl, _, _, rfl, rfl, ?_⟩
      refine ⟨_, rfl, _, rfl, _, _, rfl, rfl, (by show (0 : Int) < 61; decide), D, _, _, _, rfl, rfl, SqL.of hD3, atI_of i63.1 (by rw [List.getElem?_map, List.getElem?_eq_getElem hj]; rfl), _, _, rfl, rfl, .inr ⟨by decide, by decide⟩, _, rfl, _, _, rfl, rfl, _, _, rfl, rfl, (by show (0 : Int) < 2305843009213693951; decide), ?_⟩
      refine ⟨_, rfl, _, rfl, _, _, rfl, rfl, (by show (0 : Int) < 61; decide), D, _, _, ((i : Int) % 61).toNat, rfl, rfl, hD3, ixN_of i63.1 (by rw [List.length_map]; omega), _, _, cs.set ((i : Int) % 61).toNat ((cs[((i : Int) % 61).toNat] * 40692 + c) % 2305843009213693951), rfl, ?_, ?_, ?_⟩
      · exact Ex.mut (e2.trans (Ex.new hT)) hD
      · rw [upd_same, List.map_set]
      · rw [List.length_set]
        exact hc
    · rintro σ' G2 ⟨x1, x3, cs, rfl, e2, hD2, hc⟩
      refine ⟨_, _, rfl, ⟨by decide, by decide, by decide, by decide⟩, for_it (walk_range (lo := 1) (n := 60)) (fun t σ' H' => ∃ x1 x3 cs, σ' = [some (.ref a), x1, some (.ref D), x3] ∧ Ex H H' ∧ H' D = some (.lst (cs.map V.int)) ∧ cs.length = 61) ⟨x1, x3, cs, rfl, e2, hD2, hc⟩ (fun _ _ _ _ _ => True.intro) ?_ ?_⟩
      · rintro i x σ' _ H1 hi ⟨x1, x3, cs, rfl, e2, hD2, hc⟩ ⟨rfl, rfl⟩
        have g1 : ∀ j : Int, 0 ≤ j → j < 61 → ∃ c, atI (cs.map V.int) j = some (.int c) := fun j j0 j1 => by
          have hj : j.toNat < cs.length := by omega
          exact ⟨cs[j.toNat], atI_of j0 (by rw [List.getElem?_map, List.getElem?_eq_getElem hj]; rfl)⟩
        obtain ⟨c1, h1⟩ := g1 (1 + (i : Int)) (by omega) (by omega)
        obtain ⟨c2, h2⟩ := g1 (1 + (i : Int) - 1) (by omega) (by omega)
        refine ⟨_, rfl, _, rfl, D, _, _, _, rfl, rfl, SqL.of hD2, h1, _, rfl, _, rfl, _, _, rfl, rfl, D, _, _, _, rfl, rfl, SqL.of hD2, h2, _, _, rfl, rfl, .inr ⟨by decide, by decide⟩, _, _, rfl, rfl, _, _, rfl, rfl, (by show (0 : Int) < 2305843009213693951; decide), ?_⟩
        refine ⟨_, rfl, _, rfl, D, _, _, (1 + (i : Int)).toNat, rfl, rfl, hD2, ixN_of (by omega) (by rw [List.length_map]; omega), _, _, cs.set (1 + (i : Int)).toNat ((c1 + c2 * 39373) % 2305843009213693951), rfl, ?_, ?_, ?_⟩
        · exact Ex.mut e2 hD
        · rw [upd_same, List.map_set]
        · rw [List.length_set]
          exact hc
      · rintro σ' G3 ⟨x1, x3, cs, rfl, e2, hD2, hc⟩
        exact ⟨_, rfl, q D cs _ e2 hD hD2 hc⟩
abbrev s_begun : Stmt := top 77
theorem sc_begun : FnScope ["_law_script", "_law_m", "_law_cell"] ["_law_script"] (defScope s_begun) := ⟨rfl, rfl, rfl, by decide +kernel, rfl, by decide +kernel, by decide +kernel⟩
def spBegun (K : PySem.W.Frag) : Sp := fun vs H Q _ => ∃ (a : Addr) (ns : List Int), vs = [.ref a] ∧ SqL K H a (ns.map V.int) ∧ ns.length ≤ 63 ∧ ∀ m L C H', Ex H H' → H m = none → H L = none → H C = none → MS m L C 0 H' → Q (.ref m) H'
theorem ok_begun {f f_folded : Addr} {fd fd_folded : FuncData} (F : FnP K "_law_begun" s_begun f fd) (F_folded : FnP K "_law_folded" s_folded f_folded fd_folded) (g_folded : mg "_law_folded" = some (.ref f_folded)) (z_range : mg "range" = none) (z_enumerate : mg "enumerate" = none) : FnOk P w K mg base CX0 2 f fd ["_law_script"] (spBegun K) := by
  have G_folded : FnOk P w K mg base CX0 1 f_folded fd_folded ["_law_script"] (spFolded K) := ok_folded F_folded z_range z_enumerate
  have b_folded : Binds K fd_folded ["_law_script"] [] := F_folded.bindsN fun _ _ _ _ _ _ us hl => match us, hl with | [_], _ => rfl
  refine F.ok sc_begun (fun vs H Q E h => ?_) (fun cdv A outer s H vs Q E hr h => ?_)
  · obtain ⟨a, ns, rfl, _⟩ := h
    rfl
  · obtain ⟨a, ns, rfl, hS, hl, q⟩ := h
    have hu := hu_of hr
    have hr_folded := hr
    refine ⟨_, PSs.nox (pss_cons (ps_set (i := 1) sc_begun.nd rfl (Or.inl rfl) (pe_disp (pps_cons pe_str (pe_call G_folded hr_folded rfl g_folded F_folded.kp b_folded .nil pass0 (pa_cons (pv 0) pa_nil)) (pps_cons pe_str (pe_lst pa_nil) (pps_cons pe_str pe_int pps_nil))) (by rfl) (by rfl) (fun z => by cases z) (by decide)))
      (pss_cons (ps_dput hu (pv 1) pe_str (pe_lc (own := [("_law_cell", 2)]) (g := gName 2) (tt := tYes) (by rfl) sc_begun.nd (pi_list (pv 0)) (blkOk_by (own := [("_law_cell", 2)]) (N := ["_law_script", "_law_m", "_law_cell"]) (sc := defScope s_begun) (by decide +kernel)) (fun _ _ _ _ _ => pg_name (i := 2) sc_begun.nd rfl (Or.inl rfl)) (fun _ _ _ _ _ => pts_nil) (fun _ _ _ _ _ => pe_ifExp (pt_cmpR op_ge (pv 2) (pe_op op_pow pe_int pe_int) (nomark _)) (pv 2) pe_int)) rfl)
      (pss_one (ps_ret (pv 1))))), ?_⟩
    intro p hp
    rw [tPairs]
    show tC (V.str "cells") [some (.ref a), none, none] (upd H p (.dK [])) _
    refine (show ∀ T : VK, T (V.str "cells") (upd H p (.dK [])) → tC (V.str "cells") [some (.ref a), none, none] (upd H p (.dK [])) T from fun T h => h) _ ?_
    have hSp := ex_l (Ex.new (o := .dK []) hp) hS
    refine ⟨_, rfl, a, ns, rfl, hSp, fun C cs H1 e1 hC0 hC hc => ?_⟩
    have nCp : C ≠ p := fun z => by
      rw [z, upd_same] at hC0
      cases hC0
    refine ⟨Nat.zero_le _, fun L0 hL0 => ?_⟩
    have hp1 : H1 p = some (.dK []) := e1 _ _ upd_same
    have p0 : p ≠ L0 := ne_of_none hp1 hL0
    have C0 : C ≠ L0 := ne_of_none hC hL0
    have e2 : Ex H (upd H1 L0 (.lst [])) := ((Ex.new hp).trans e1).trans (Ex.new hL0)
    refine ⟨by rw [upd_ne p0]; exact hp1, MD L0 C 0, rfl, (by show 3 ≤ 15; decide), ?_⟩
    generalize hG : (upd (upd H1 L0 (.lst [])) p (.dK (mergeK [] (MD L0 C 0)))) = G
    have eG : Ex H G := hG ▸ Ex.mut e2 hp
    have hpG : G p = some (.dK (MD L0 C 0)) := by
      rw [← hG, upd_same]
      rfl
    have hCG : G C = some (.lst (cs.map V.int)) := by rw [← hG, upd_ne nCp, upd_ne C0]; exact hC
    dsimp only [gName, tSeq, sDPut]
    show tLc (iList K (tVar 0)) (gName 2) tYes _ [2] [some (.ref a), some (.ref p), none] G _
    refine el_lcL (K := K) (σ := [some (.ref a), some (.ref p), none]) (a := a) (xs := ns.map V.int) (j := 2) (vs := [2]) (fun _ => true) (fun i => V.int (if (1000000000000000000 : Int) ≤ ns.getD i 0 then ns.getD i 0 else 0)) (ev_var (i := 0) rfl) (ex_l eG hS) (by rw [List.length_map]; omega) (by intro x; rfl) ?_ ?_ _ (Ex.refl _) _ fun Lp G3 hLp e4 hL3 => ?_
    · intro i x H4 _ _ H5 e Q' q
      exact q H5 (Ex.refl H5)
    · intro i x H5 _ hx _
      have e5 : x = V.int (ns.getD i 0) := int_at hx
      subst e5
      generalize ns.getD i 0 = c
      refine ev_if (b := decide ((1000000000000000000 : Int) ≤ c)) (et_test (ev_op (ev_var rfl) (ev_op ev_c ev_c (rv_I ⟨by decide, by decide, by decide⟩)) rv_I0)) (fun h => ?_) (fun h => ?_)
      · rw [if_pos (of_decide_eq_true h)]
        exact ev_var rfl
      · rw [if_neg (of_decide_eq_false h)]
        exact ev_c
    · have pL : p ≠ Lp := ne_of_none hpG hLp
      have hp3 : G3 p = some (.dK (MD L0 C 0)) := e4 _ _ hpG
      have CL : C ≠ Lp := ne_of_none hCG hLp
      refine ⟨_, rfl, p, _, rfl, DPut.k (k := .inr "left") hp3 (by show 3 < sizeLine; decide), ?_⟩
      rw [put_left]
      refine ⟨_, rfl, q p Lp C _ (Ex.mut (eG.trans e4) hp) hp (fresh_back eG hLp) (fresh_back (Ex.new hp) hC0) ⟨Ne.symm CL, (List.range ns.length).map (fun i => if (1000000000000000000 : Int) ≤ ns.getD i 0 then ns.getD i 0 else 0), cs, 0, upd_same, ?_, ?_, hc, ?_, by decide, by decide⟩⟩
      · rw [upd_ne (Ne.symm pL), hL3]
        unfold given
        rw [List.map_map, List.length_map, List.filter_eq_self.mpr (fun _ _ => rfl)]
        rfl
      · rw [upd_ne nCp]
        exact e4 _ _ hCG
      · rw [List.length_map, List.length_range]
        exact hl
end
end D1
end
section
set_option Elab.async false
set_option linter.all false
set_option maxRecDepth 100000
set_option maxHeartbeats 4000000
/-! D3: tables, and the eight rules of the program -/
namespace D1
open PySem L2 Evl
abbrev Tb := List (List Int)
/-- the thing at a row and a place -/
def cell (t : Tb) (a b : Int) : Int := (t.getD a.toNat []).getD b.toNat 0
structure Sq (n : Nat) (t : Tb) : Prop where
  len : t.length = n
  row : ∀ r ∈ t, r.length = n ∧ ∀ x ∈ r, 0 ≤ x ∧ x < (n : Int)
theorem Sq.at {n : Nat} {t : Tb} (s : Sq n t) {a : Int} (h0 : 0 ≤ a) (h1 : a < n) : ∃ r, t[a.toNat]? = some r ∧ r.length = n ∧ ∀ x ∈ r, 0 ≤ x ∧ x < (n : Int) := by
  have hi : a.toNat < t.length := by have := s.len; omega
  exact ⟨t[a.toNat], List.getElem?_eq_getElem hi, s.row _ (List.getElem_mem hi)⟩
theorem Sq.cell {n : Nat} {t : Tb} (s : Sq n t) {a b : Int} (a0 : 0 ≤ a) (a1 : a < n) (b0 : 0 ≤ b) (b1 : b < n) : 0 ≤ cell t a b ∧ cell t a b < n := by
  obtain ⟨r, hr, hl, hx⟩ := s.at a0 a1
  have hg : t.getD a.toNat [] = r := by rw [List.getD_eq_getElem?_getD, hr]; rfl
  unfold D1.cell
  rw [hg, List.getD_eq_getElem?_getD]
  have hj : b.toNat < r.length := by omega
  rw [List.getElem?_eq_getElem hj, Option.getD_some]
  exact hx _ (List.getElem_mem hj)
/-- a table of rows as it lies -/
def TabAt (H : Hp) (p : Addr) (t : Tb) : Prop := ∃ rs : List Addr, H p = some (.tup (rs.map V.ref)) ∧ rs.length = t.length ∧ ∀ (i : Nat) r row, rs[i]? = some r → t[i]? = some row → H r = some (.tup (row.map V.int))
theorem TabAt.ex {H H' : Hp} {p : Addr} {t : Tb} (h : TabAt H p t) (e : Ex H H') : TabAt H' p t := by
  obtain ⟨rs, h1, h2, h3⟩ := h
  exact ⟨rs, e _ _ h1, h2, fun i r row a b => e _ _ (h3 i r row a b)⟩
section
variable {K : PySem.W.Frag} {σ : L2.St} {H : Hp} {tp ta tb : TE}
theorem ev_cell {p : Addr} {t : Tb} {n : Nat} {a b : Int} (hp : Ev tp σ H (.ref p)) (ha : Ev ta σ H (.int a)) (hb : Ev tb σ H (.int b)) (ht : TabAt H p t) (s : Sq n t) (a0 : 0 ≤ a) (a1 : a < n) (b0 : 0 ≤ b) (b1 : b < n) :
    Ev (tOp (rIxT K) (tOp (rIxT K) tp ta) tb) σ H (.int (cell t a b)) := by
  obtain ⟨rs, h1, h2, h3⟩ := ht
  obtain ⟨r, hr, hl, hx⟩ := s.at a0 a1
  have hi : a.toNat < rs.length := by have := s.len; omega
  have hR : rs[a.toNat]? = some rs[a.toNat] := List.getElem?_eq_getElem hi
  have hj : b.toNat < r.length := by omega
  have hc : cell t a b = r[b.toNat] := by
    have hg : t.getD a.toNat [] = r := by rw [List.getD_eq_getElem?_getD, hr]; rfl
    unfold cell
    rw [hg, List.getD_eq_getElem?_getD, List.getElem?_eq_getElem hj, Option.getD_some]
  rw [hc]
  exact ev_op (ev_op hp ha (rv_ixT (.inl (.inl h1)) (atI_of a0 (by rw [List.getElem?_map, hR]; rfl)))) hb (rv_ixT (.inl (.inl (h3 _ _ _ hR hr))) (atI_of b0 (by rw [List.getElem?_map, List.getElem?_eq_getElem hj]; rfl)))
end
/-! ### the rules -/
def g0 (row : List Int) : Int := row.getD 0 0
def g1 (row : List Int) : Int := row.getD 1 0
def g2 (row : List Int) : Int := row.getD 2 0
def turned (t : Tb) (row : List Int) : Bool := cell t (g0 row) (g1 row) == cell t (g1 row) (g0 row)
def joined (t : Tb) (row : List Int) : Bool := cell t (cell t (g0 row) (g1 row)) (g2 row) == cell t (g0 row) (cell t (g1 row) (g2 row))
def spread (S P : Tb) (row : List Int) : Bool := cell P (g0 row) (cell S (g1 row) (g2 row)) == cell S (cell P (g0 row) (g1 row)) (cell P (g0 row) (g2 row))
def holdsB : Nat → Tb → Tb → List Int → Bool
  | 0, S, _, row => turned S row
  | 1, S, _, row => joined S row
  | 2, S, _, row => cell S 0 (g0 row) == g0 row
  | 3, _, P, row => turned P row
  | 4, _, P, row => joined P row
  | 5, _, P, row => cell P 1 (g0 row) == g0 row
  | 6, _, P, row => cell P 0 (g0 row) == 0
  | _, S, P, row => spread S P row
/-- a row of so many things -/
def RowN (n k : Nat) (row : List Int) : Prop := row.length = k ∧ ∀ x ∈ row, 0 ≤ x ∧ x < (n : Int)
structure Two (n : Nat) (H : Hp) (p q : Addr) (S P : Tb) : Prop where
  two : 2 ≤ n
  s : TabAt H p S
  p : TabAt H q P
  sq : Sq n S
  pq : Sq n P
theorem Two.ex {n : Nat} {H H' : Hp} {p q : Addr} {S P : Tb} (h : Two n H p q S P) (e : Ex H H') : Two n H' p q S P := ⟨h.two, h.s.ex e, h.p.ex e, h.sq, h.pq⟩
/-- what a rule's function promises -/
def spHold (i : Nat) : Sp := fun vs H Q _ => ∃ (p q r : Addr) (n : Nat) (S P : Tb) (row : List Int), vs = [.ref p, .ref q, .ref r] ∧ Two n H p q S P ∧ H r = some (.tup (row.map V.int)) ∧ RowN n (arity i) row ∧ ∀ H', Ex H H' → Q (.bl (holdsB i S P row)) H'
def spJoin : Sp := fun vs H Q _ => ∃ (p r : Addr) (n : Nat) (S : Tb) (row : List Int), vs = [.ref p, .ref r] ∧ TabAt H p S ∧ Sq n S ∧ H r = some (.tup (row.map V.int)) ∧ RowN n 3 row ∧ ∀ H', Ex H H' → Q (.bl (joined S row)) H'
theorem row1 {n : Nat} {row : List Int} (h : RowN n 1 row) : ∃ a, row = [a] ∧ 0 ≤ a ∧ a < (n : Int) := by
  obtain ⟨hl, hx⟩ := h
  match row, hl with
  | [a], _ => exact ⟨a, rfl, hx a (by simp)⟩
theorem row2 {n : Nat} {row : List Int} (h : RowN n 2 row) : ∃ a b, row = [a, b] ∧ (0 ≤ a ∧ a < (n : Int)) ∧ (0 ≤ b ∧ b < (n : Int)) := by
  obtain ⟨hl, hx⟩ := h
  match row, hl with
  | [a, b], _ => exact ⟨a, b, rfl, hx a (by simp), hx b (by simp)⟩
theorem row3 {n : Nat} {row : List Int} (h : RowN n 3 row) : ∃ a b c, row = [a, b, c] ∧ (0 ≤ a ∧ a < (n : Int)) ∧ (0 ≤ b ∧ b < (n : Int)) ∧ (0 ≤ c ∧ c < (n : Int)) := by
  obtain ⟨hl, hx⟩ := h
  match row, hl with
  | [a, b, c], _ => exact ⟨a, b, c, rfl, hx a (by simp), hx b (by simp), hx c (by simp)⟩
theorem ev_eqI {σ : L2.St} {H : Hp} {ta tb : TE} {x y : Int} (ha : Ev ta σ H (.int x)) (hb : Ev tb σ H (.int y)) : Ev (tOp rEq ta tb) σ H (.bl (x == y)) := by
  have h := ev_op ha hb (rv_eq (x := .int x) (y := .int y) rfl)
  rw [dec_int] at h
  exact h
section
variable {P : Program} {w : World} {K : PySem.W.Frag} {mg : Str → Option Value} {base : Heap}
abbrev s__joined : Stmt := top 58
theorem sc__joined : FnScope ["table", "things", "a", "b", "c"] ["table", "things"] (defScope s__joined) := ⟨rfl, rfl, rfl, by decide +kernel, rfl, by decide +kernel, by decide +kernel⟩
theorem ok__joined {f : Addr} {fd : FuncData} (F : FnP K "_joined" s__joined f fd) : FnOk P w K mg base CX0 1 f fd ["table", "things"] spJoin := by
  refine F.ok sc__joined (fun vs H Q E h => ?_) (fun cdv A outer s H vs Q E hr h => ?_)
  · obtain ⟨p, r, n, S, row, rfl, _⟩ := h
    rfl
  · obtain ⟨p, r, n, S, row, rfl, hS, sS, hr', hrow, q⟩ := h
    refine ⟨_, PSs.nox (pss_cons (ps_asg (pv 1) (pg_tup rfl (pgs_cons (pg_name (i := 2) sc__joined.nd rfl (Or.inl rfl)) (pgs_cons (pg_name (i := 3) sc__joined.nd rfl (Or.inl rfl)) (pgs_cons (pg_name (i := 4) sc__joined.nd rfl (Or.inl rfl)) pgs_nil)))))
      (pss_one (ps_ret (pe_cmpR op_eq (pe_ix ix_tup (pe_ix ix_tup (pv 0) (pe_ix ix_tup (pe_ix ix_tup (pv 0) (pv 2) (fun _ _ => rfl)) (pv 3) (fun _ _ => rfl)) (fun _ _ => rfl)) (pv 4) (fun _ _ => rfl)) (pe_ix ix_tup (pe_ix ix_tup (pv 0) (pv 2) (fun _ _ => rfl)) (pe_ix ix_tup (pe_ix ix_tup (pv 0) (pv 3) (fun _ _ => rfl)) (pv 4) (fun _ _ => rfl)) (fun _ _ => rfl)) (nomark _))))), ?_⟩
    obtain ⟨a, b, c, rfl, ⟨a0, a1⟩, ⟨b0, b1⟩, ⟨c0, c1⟩⟩ := row3 hrow
    refine ⟨_, rfl, r, _, rfl, .inl (.inl hr'), rfl, _, _, rfl, _, _, rfl, _, _, rfl, rfl, ?_⟩
    have ab := sS.cell a0 a1 b0 b1
    have bc := sS.cell b0 b1 c0 c1
    exact ev_eqI (ev_cell (ev_var rfl) (ev_cell (ev_var rfl) (ev_var rfl) (ev_var rfl) hS sS a0 a1 b0 b1) (ev_var rfl) hS sS ab.1 ab.2 c0 c1) (ev_cell (ev_var rfl) (ev_var rfl) (ev_cell (ev_var rfl) (ev_var rfl) (ev_var rfl) hS sS b0 b1 c0 c1) hS sS a0 a1 bc.1 bc.2) H (Ex.refl H) _ fun H' e => q H' e
abbrev s__sum_turned : Stmt := top 50
theorem sc__sum_turned : FnScope ["sums", "products", "things", "a", "b"] ["sums", "products", "things"] (defScope s__sum_turned) := ⟨rfl, rfl, rfl, by decide +kernel, rfl, by decide +kernel, by decide +kernel⟩
theorem ok__sum_turned {f : Addr} {fd : FuncData} (F : FnP K "_sum_turned" s__sum_turned f fd) : FnOk P w K mg base CX0 1 f fd ["sums", "products", "things"] (spHold 0) := by
  refine F.ok sc__sum_turned (fun vs H Q E h => ?_) (fun cdv A outer s H vs Q E hr h => ?_)
  · obtain ⟨p, q, r, n, S, P, row, rfl, _⟩ := h
    rfl
  · obtain ⟨p, q', r, n, S, P, row, rfl, T, hr', hrow, q⟩ := h
    refine ⟨_, PSs.nox (pss_cons (ps_asg (pv 2) (pg_tup rfl (pgs_cons (pg_name (i := 3) sc__sum_turned.nd rfl (Or.inl rfl)) (pgs_cons (pg_name (i := 4) sc__sum_turned.nd rfl (Or.inl rfl)) pgs_nil))))
      (pss_one (ps_ret (pe_cmpR op_eq (pe_ix ix_tup (pe_ix ix_tup (pv 0) (pv 3) (fun _ _ => rfl)) (pv 4) (fun _ _ => rfl)) (pe_ix ix_tup (pe_ix ix_tup (pv 0) (pv 4) (fun _ _ => rfl)) (pv 3) (fun _ _ => rfl)) (nomark _))))), ?_⟩
    have n2 := T.two
    obtain ⟨a, b, rfl, ⟨a0, a1⟩, ⟨b0, b1⟩⟩ := row2 hrow
    refine ⟨_, rfl, r, _, rfl, .inl (.inl hr'), rfl, _, _, rfl, _, _, rfl, rfl, ?_⟩
    exact ev_eqI (ev_cell (ev_var rfl) (ev_var rfl) (ev_var rfl) T.s T.sq a0 a1 b0 b1) (ev_cell (ev_var rfl) (ev_var rfl) (ev_var rfl) T.s T.sq b0 b1 a0 a1) H (Ex.refl H) _ fun H' e => q H' e
abbrev s__product_turned : Stmt := top 53
theorem sc__product_turned : FnScope ["sums", "products", "things", "a", "b"] ["sums", "products", "things"] (defScope s__product_turned) := ⟨rfl, rfl, rfl, by decide +kernel, rfl, by decide +kernel, by decide +kernel⟩
theorem ok__product_turned {f : Addr} {fd : FuncData} (F : FnP K "_product_turned" s__product_turned f fd) : FnOk P w K mg base CX0 1 f fd ["sums", "products", "things"] (spHold 3) := by
  refine F.ok sc__product_turned (fun vs H Q E h => ?_) (fun cdv A outer s H vs Q E hr h => ?_)
  · obtain ⟨p, q, r, n, S, P, row, rfl, _⟩ := h
    rfl
  · obtain ⟨p, q', r, n, S, P, row, rfl, T, hr', hrow, q⟩ := h
    refine ⟨_, PSs.nox (pss_cons (ps_asg (pv 2) (pg_tup rfl (pgs_cons (pg_name (i := 3) sc__product_turned.nd rfl (Or.inl rfl)) (pgs_cons (pg_name (i := 4) sc__product_turned.nd rfl (Or.inl rfl)) pgs_nil))))
      (pss_one (ps_ret (pe_cmpR op_eq (pe_ix ix_tup (pe_ix ix_tup (pv 1) (pv 3) (fun _ _ => rfl)) (pv 4) (fun _ _ => rfl)) (pe_ix ix_tup (pe_ix ix_tup (pv 1) (pv 4) (fun _ _ => rfl)) (pv 3) (fun _ _ => rfl)) (nomark _))))), ?_⟩
    have n2 := T.two
    obtain ⟨a, b, rfl, ⟨a0, a1⟩, ⟨b0, b1⟩⟩ := row2 hrow
    refine ⟨_, rfl, r, _, rfl, .inl (.inl hr'), rfl, _, _, rfl, _, _, rfl, rfl, ?_⟩
    exact ev_eqI (ev_cell (ev_var rfl) (ev_var rfl) (ev_var rfl) T.p T.pq a0 a1 b0 b1) (ev_cell (ev_var rfl) (ev_var rfl) (ev_var rfl) T.p T.pq b0 b1 a0 a1) H (Ex.refl H) _ fun H' e => q H' e
abbrev s__sum_joined : Stmt := top 51
theorem sc__sum_joined : FnScope ["sums", "products", "things"] ["sums", "products", "things"] (defScope s__sum_joined) := ⟨rfl, rfl, rfl, by decide +kernel, rfl, by decide +kernel, by decide +kernel⟩
theorem ok__sum_joined {f f__joined : Addr} {fd fd__joined : FuncData} (F : FnP K "_sum_joined" s__sum_joined f fd) (F__joined : FnP K "_joined" s__joined f__joined fd__joined) (g__joined : mg "_joined" = some (.ref f__joined)) : FnOk P w K mg base CX0 2 f fd ["sums", "products", "things"] (spHold 1) := by
  have G__joined : FnOk P w K mg base CX0 1 f__joined fd__joined ["table", "things"] spJoin := ok__joined F__joined
  have b__joined : Binds K fd__joined ["table", "things"] [] := F__joined.bindsN fun _ _ _ _ _ _ us hl => match us, hl with | [_, _], _ => rfl
  refine F.ok sc__sum_joined (fun vs H Q E h => ?_) (fun cdv A outer s H vs Q E hr h => ?_)
  · obtain ⟨p, q, r, n, S, P, row, rfl, _⟩ := h
    rfl
  · obtain ⟨p, q', r, n, S, P, row, rfl, T, hr', hrow, q⟩ := h
    have hr__joined := hr
    refine ⟨_, PSs.nox (pss_one (ps_ret (pe_call G__joined hr__joined rfl g__joined F__joined.kp b__joined .nil pass0 (pa_cons (pv 0) (pa_cons (pv 2) pa_nil))))), ?_⟩
    have n2 := T.two
    exact ⟨_, rfl, _, rfl, p, r, n, _, row, rfl, T.s, T.sq, hr', hrow, fun H' e => q H' e⟩
abbrev s__product_joined : Stmt := top 54
theorem sc__product_joined : FnScope ["sums", "products", "things"] ["sums", "products", "things"] (defScope s__product_joined) := ⟨rfl, rfl, rfl, by decide +kernel, rfl, by decide +kernel, by decide +kernel⟩
theorem ok__product_joined {f f__joined : Addr} {fd fd__joined : FuncData} (F : FnP K "_product_joined" s__product_joined f fd) (F__joined : FnP K "_joined" s__joined f__joined fd__joined) (g__joined : mg "_joined" = some (.ref f__joined)) : FnOk P w K mg base CX0 2 f fd ["sums", "products", "things"] (spHold 4) := by
  have G__joined : FnOk P w K mg base CX0 1 f__joined fd__joined ["table", "things"] spJoin := ok__joined F__joined
  have b__joined : Binds K fd__joined ["table", "things"] [] := F__joined.bindsN fun _ _ _ _ _ _ us hl => match us, hl with | [_, _], _ => rfl
  refine F.ok sc__product_joined (fun vs H Q E h => ?_) (fun cdv A outer s H vs Q E hr h => ?_)
  · obtain ⟨p, q, r, n, S, P, row, rfl, _⟩ := h
    rfl
  · obtain ⟨p, q', r, n, S, P, row, rfl, T, hr', hrow, q⟩ := h
    have hr__joined := hr
    refine ⟨_, PSs.nox (pss_one (ps_ret (pe_call G__joined hr__joined rfl g__joined F__joined.kp b__joined .nil pass0 (pa_cons (pv 1) (pa_cons (pv 2) pa_nil))))), ?_⟩
    have n2 := T.two
    exact ⟨_, rfl, _, rfl, q', r, n, _, row, rfl, T.p, T.pq, hr', hrow, fun H' e => q H' e⟩
abbrev s__zero : Stmt := top 52
theorem sc__zero : FnScope ["sums", "products", "things"] ["sums", "products", "things"] (defScope s__zero) := ⟨rfl, rfl, rfl, by decide +kernel, rfl, by decide +kernel, by decide +kernel⟩
theorem ok__zero {f : Addr} {fd : FuncData} (F : FnP K "_zero" s__zero f fd) : FnOk P w K mg base CX0 1 f fd ["sums", "products", "things"] (spHold 2) := by
  refine F.ok sc__zero (fun vs H Q E h => ?_) (fun cdv A outer s H vs Q E hr h => ?_)
  · obtain ⟨p, q, r, n, S, P, row, rfl, _⟩ := h
    rfl
  · obtain ⟨p, q', r, n, S, P, row, rfl, T, hr', hrow, q⟩ := h
    refine ⟨_, PSs.nox (pss_one (ps_ret (pe_cmpR op_eq (pe_ix ix_tup (pe_ix ix_tup (pv 0) pe_int (fun _ _ => rfl)) (pe_ix ix_tup (pv 2) pe_int (fun _ _ => rfl)) (fun _ _ => rfl)) (pe_ix ix_tup (pv 2) pe_int (fun _ _ => rfl)) (nomark _)))), ?_⟩
    have n2 := T.two
    obtain ⟨a, rfl, a0, a1⟩ := row1 hrow
    exact ev_eqI (ev_cell (ev_var rfl) ev_c (ev_op (ev_var rfl) ev_c (rv_ixT (.inl (.inl hr')) (atI_of (by decide) rfl))) T.s T.sq (by omega) (by omega) a0 a1) (ev_op (ev_var rfl) ev_c (rv_ixT (.inl (.inl hr')) (atI_of (by decide) rfl))) H (Ex.refl H) _ fun H' e => q H' e
abbrev s__one : Stmt := top 55
theorem sc__one : FnScope ["sums", "products", "things"] ["sums", "products", "things"] (defScope s__one) := ⟨rfl, rfl, rfl, by decide +kernel, rfl, by decide +kernel, by decide +kernel⟩
theorem ok__one {f : Addr} {fd : FuncData} (F : FnP K "_one" s__one f fd) : FnOk P w K mg base CX0 1 f fd ["sums", "products", "things"] (spHold 5) := by
  refine F.ok sc__one (fun vs H Q E h => ?_) (fun cdv A outer s H vs Q E hr h => ?_)
  · obtain ⟨p, q, r, n, S, P, row, rfl, _⟩ := h
    rfl
  · obtain ⟨p, q', r, n, S, P, row, rfl, T, hr', hrow, q⟩ := h
    refine ⟨_, PSs.nox (pss_one (ps_ret (pe_cmpR op_eq (pe_ix ix_tup (pe_ix ix_tup (pv 1) pe_int (fun _ _ => rfl)) (pe_ix ix_tup (pv 2) pe_int (fun _ _ => rfl)) (fun _ _ => rfl)) (pe_ix ix_tup (pv 2) pe_int (fun _ _ => rfl)) (nomark _)))), ?_⟩
    have n2 := T.two
    obtain ⟨a, rfl, a0, a1⟩ := row1 hrow
    exact ev_eqI (ev_cell (ev_var rfl) ev_c (ev_op (ev_var rfl) ev_c (rv_ixT (.inl (.inl hr')) (atI_of (by decide) rfl))) T.p T.pq (by omega) (by omega) a0 a1) (ev_op (ev_var rfl) ev_c (rv_ixT (.inl (.inl hr')) (atI_of (by decide) rfl))) H (Ex.refl H) _ fun H' e => q H' e
abbrev s__nought : Stmt := top 56
theorem sc__nought : FnScope ["sums", "products", "things"] ["sums", "products", "things"] (defScope s__nought) := ⟨rfl, rfl, rfl, by decide +kernel, rfl, by decide +kernel, by decide +kernel⟩
theorem ok__nought {f : Addr} {fd : FuncData} (F : FnP K "_nought" s__nought f fd) : FnOk P w K mg base CX0 1 f fd ["sums", "products", "things"] (spHold 6) := by
  refine F.ok sc__nought (fun vs H Q E h => ?_) (fun cdv A outer s H vs Q E hr h => ?_)
  · obtain ⟨p, q, r, n, S, P, row, rfl, _⟩ := h
    rfl
  · obtain ⟨p, q', r, n, S, P, row, rfl, T, hr', hrow, q⟩ := h
    refine ⟨_, PSs.nox (pss_one (ps_ret (pe_cmpR op_eq (pe_ix ix_tup (pe_ix ix_tup (pv 1) pe_int (fun _ _ => rfl)) (pe_ix ix_tup (pv 2) pe_int (fun _ _ => rfl)) (fun _ _ => rfl)) pe_int (nomark _)))), ?_⟩
    have n2 := T.two
    obtain ⟨a, rfl, a0, a1⟩ := row1 hrow
    exact ev_eqI (ev_cell (ev_var rfl) ev_c (ev_op (ev_var rfl) ev_c (rv_ixT (.inl (.inl hr')) (atI_of (by decide) rfl))) T.p T.pq (by omega) (by omega) a0 a1) ev_c H (Ex.refl H) _ fun H' e => q H' e
abbrev s__spread : Stmt := top 57
theorem sc__spread : FnScope ["sums", "products", "things", "a", "b", "c"] ["sums", "products", "things"] (defScope s__spread) := ⟨rfl, rfl, rfl, by decide +kernel, rfl, by decide +kernel, by decide +kernel⟩
theorem ok__spread {f : Addr} {fd : FuncData} (F : FnP K "_spread" s__spread f fd) : FnOk P w K mg base CX0 1 f fd ["sums", "products", "things"] (spHold 7) := by
  refine F.ok sc__spread (fun vs H Q E h => ?_) (fun cdv A outer s H vs Q E hr h => ?_)
  · obtain ⟨p, q, r, n, S, P, row, rfl, _⟩ := h
    rfl
  · obtain ⟨p, q', r, n, S, P, row, rfl, T, hr', hrow, q⟩ := h
    refine ⟨_, PSs.nox (pss_cons (ps_asg (pv 2) (pg_tup rfl (pgs_cons (pg_name (i := 3) sc__spread.nd rfl (Or.inl rfl)) (pgs_cons (pg_name (i := 4) sc__spread.nd rfl (Or.inl rfl)) (pgs_cons (pg_name (i := 5) sc__spread.nd rfl (Or.inl rfl)) pgs_nil)))))
      (pss_one (ps_ret (pe_cmpR op_eq (pe_ix ix_tup (pe_ix ix_tup (pv 1) (pv 3) (fun _ _ => rfl)) (pe_ix ix_tup (pe_ix ix_tup (pv 0) (pv 4) (fun _ _ => rfl)) (pv 5) (fun _ _ => rfl)) (fun _ _ => rfl)) (pe_ix ix_tup (pe_ix ix_tup (pv 0) (pe_ix ix_tup (pe_ix ix_tup (pv 1) (pv 3) (fun _ _ => rfl)) (pv 4) (fun _ _ => rfl)) (fun _ _ => rfl)) (pe_ix ix_tup (pe_ix ix_tup (pv 1) (pv 3) (fun _ _ => rfl)) (pv 5) (fun _ _ => rfl)) (fun _ _ => rfl)) (nomark _))))), ?_⟩
    have n2 := T.two
    obtain ⟨a, b, c, rfl, ⟨a0, a1⟩, ⟨b0, b1⟩, ⟨c0, c1⟩⟩ := row3 hrow
    refine ⟨_, rfl, r, _, rfl, .inl (.inl hr'), rfl, _, _, rfl, _, _, rfl, _, _, rfl, rfl, ?_⟩
    have ab := T.pq.cell a0 a1 b0 b1
    have ac := T.pq.cell a0 a1 c0 c1
    have bc := T.sq.cell b0 b1 c0 c1
    exact ev_eqI (ev_cell (ev_var rfl) (ev_var rfl) (ev_cell (ev_var rfl) (ev_var rfl) (ev_var rfl) T.s T.sq b0 b1 c0 c1) T.p T.pq a0 a1 bc.1 bc.2) (ev_cell (ev_var rfl) (ev_cell (ev_var rfl) (ev_var rfl) (ev_var rfl) T.p T.pq a0 a1 b0 b1) (ev_cell (ev_var rfl) (ev_var rfl) (ev_var rfl) T.p T.pq a0 a1 c0 c1) T.s T.sq ab.1 ab.2 ac.1 ac.2) H (Ex.refl H) _ fun H' e => q H' e
end
end D1
end
section
set_option Elab.async false
set_option linter.all false
set_option maxRecDepth 100000
set_option maxHeartbeats 4000000
/-! D4: all rows of so many things -/
namespace D1
open PySem L2 Evl
theorem turns_it {J : It} {n : Nat} {G : Hp → Prop} {Y : Nat → Hp → V → Hp → Prop} (w : Walk J n G Y) {Qd : Hp → Prop} {H1 : Hp} {B : V → Hp → (Hp → Prop) → Prop} (Pv : Nat → Hp → Prop) (h0 : Pv 0 H1) (hG : ∀ i H, i ≤ n → Pv i H → G H)
    (hs : ∀ i x H H', i < n → Pv i H → Y i H x H' → B x H' (Pv (i + 1))) (hd : ∀ H, Pv n H → Qd H) :
    ∃ W : Nat → Nat → Hp → Prop, (∃ m, W 0 m H1) ∧ ∀ i m H, W i m H → (J.stop i H ∧ Qd H) ∨ (J.go i H ∧ ∃ Nx : Hp → Prop, (∀ H', Nx H' → ∃ m', m' < m ∧ W (i + 1) m' H') ∧ ∀ x H', J.yld i H x H' → B x H' Nx) := by
  refine ⟨fun i m H => m = n - i ∧ i ≤ n ∧ Pv i H, ⟨n, by simp, Nat.zero_le _, h0⟩, ?_⟩
  rintro i m H ⟨rfl, hi, p⟩
  have q := hG i H hi p
  by_cases hlt : i < n
  · refine .inr ⟨w.goes i H hlt q, Pv (i + 1), fun H' p' => ⟨n - (i + 1), by omega, rfl, hlt, p'⟩, fun x H' y => hs i x H H' hlt p (w.yields i H x H' hlt q y)⟩
  · have e : i = n := by omega
    subst e
    exact .inl ⟨w.stops H q, hd H p⟩
theorem tyes_go {σ : L2.St} {H : Hp} {P : Bool → Hp → Prop} (h : P true H) : tYes σ H P := h
def RowsAt (H : Hp) (rs : List Addr) (t : Tb) : Prop := rs.length = t.length ∧ ∀ (i : Nat) r row, rs[i]? = some r → t[i]? = some row → H r = some (.tup (row.map V.int))
theorem RowsAt.ex {H H' : Hp} {rs : List Addr} {t : Tb} (h : RowsAt H rs t) (e : Ex H H') : RowsAt H' rs t := ⟨h.1, fun i r row a b => e _ _ (h.2 i r row a b)⟩
theorem RowsAt.nil {H : Hp} : RowsAt H [] [] := ⟨rfl, fun i r row a _ => by simp at a⟩
theorem RowsAt.push {H : Hp} {rs : List Addr} {t : Tb} {r : Addr} {row : List Int} (h : RowsAt H rs t) (hr : H r = some (.tup (row.map V.int))) : RowsAt H (rs ++ [r]) (t ++ [row]) := by
  obtain ⟨h1, h2⟩ := h
  refine ⟨by simp [h1], fun i r' row' a b => ?_⟩
  by_cases hi : i < rs.length
  · rw [List.getElem?_append_left hi] at a
    rw [List.getElem?_append_left (by omega)] at b
    exact h2 i r' row' a b
  · rw [List.getElem?_append_right (by omega)] at a
    rw [List.getElem?_append_right (by omega)] at b
    have h3 : i - rs.length = 0 := by
      by_cases h4 : i - rs.length = 0
      · exact h4
      · rw [List.getElem?_eq_none (by simp; omega)] at a
        cases a
    rw [h3] at a
    have h5 : i - t.length = 0 := by omega
    rw [h5] at b
    have e1 : r = r' := by simpa using a
    have e2 : row = row' := by simpa using b
    rw [← e1, ← e2]
    exact hr
theorem RowsAt.upd {H : Hp} {rs : List Addr} {t : Tb} {D : Addr} {acc : List V} {o : HO} (h : RowsAt H rs t) (hD : H D = some (.lst acc)) : RowsAt (upd H D o) rs t := ⟨h.1, fun i r row a b => by
  have e := h.2 i r row a b
  rw [upd_ne (fun z => by rw [z, hD] at e; cases e)]
  exact e⟩
/-- each row, with each thing behind -/
def ext (rows : Tb) (n : Nat) : Tb := rows.flatMap fun row => (List.range n).map fun (x : Nat) => row ++ [(x : Int)]
def rowsN (n : Nat) : Nat → Tb
  | 0 => [[]]
  | k + 1 => ext (rowsN n k) n
theorem ext_len (rows : Tb) (n : Nat) : (ext rows n).length = rows.length * n := by
  unfold ext
  induction rows with
  | nil => simp
  | cons r rows ih => rw [List.flatMap_cons, List.length_append, ih, List.length_map, List.length_range, List.length_cons, Nat.succ_mul]; omega
theorem rowsN_len (n k : Nat) : (rowsN n k).length = n ^ k := by
  induction k with
  | zero => rfl
  | succ k ih => rw [rowsN, ext_len, ih, Nat.pow_succ]
theorem rowsN_in {n k : Nat} {row : List Int} (h : row ∈ rowsN n k) : RowN n k row := by
  induction k generalizing row with
  | zero =>
    simp [rowsN] at h
    subst h
    exact ⟨rfl, fun x hx => by simp at hx⟩
  | succ k ih =>
    rw [rowsN] at h
    unfold ext at h
    obtain ⟨r, hr, h2⟩ := List.mem_flatMap.mp h
    obtain ⟨x, hx, rfl⟩ := List.mem_map.mp h2
    obtain ⟨l1, l2⟩ := ih hr
    have hx2 := List.mem_range.mp hx
    refine ⟨by simp [l1], fun y hy => ?_⟩
    rcases List.mem_append.mp hy with h3 | h3
    · exact l2 y h3
    · simp at h3
      subst h3
      omega
theorem ext_take {rows : Tb} {n i : Nat} {row : List Int} (h : rows[i]? = some row) : ext (rows.take (i + 1)) n = ext (rows.take i) n ++ (List.range n).map fun (x : Nat) => row ++ [(x : Int)] := by
  unfold ext
  rw [List.take_succ, h, List.flatMap_append]
  simp
theorem ext_full {rows : Tb} {n : Nat} : ext (rows.take rows.length) n = ext rows n := by rw [List.take_length]
theorem small_pow {n k : Nat} (hn : n ≤ 6) (hk : k ≤ 3) : n ^ k ≤ 216 := by
  have h1 : n ^ k ≤ 6 ^ k := Nat.pow_le_pow_left hn k
  have h2 : 6 ^ k ≤ 6 ^ 3 := Nat.pow_le_pow_right (by decide) hk
  have : (6 : Nat) ^ 3 = 216 := by decide
  omega
section
variable {P : Program} {w : World} {K : PySem.W.Frag} {mg : Str → Option Value} {base : Heap}
def spRows : Sp := fun vs H Q _ => ∃ (n k : Nat), vs = [.int n, .int k] ∧ n ≤ 6 ∧ k ≤ 3 ∧ ∀ (D : Addr) (rs : List Addr) H', Ex H H' → H D = none → H' D = some (.lst (rs.map V.ref)) → RowsAt H' rs (rowsN n k) → Q (.ref D) H'
abbrev s__rows : Stmt := top 61
theorem sc__rows : FnScope ["size", "many", "rows", "_", "row", "thing"] ["size", "many"] (defScope s__rows) := ⟨rfl, rfl, rfl, by decide +kernel, rfl, by decide +kernel, by decide +kernel⟩
theorem ok__rows {f : Addr} {fd : FuncData} (F : FnP K "_rows" s__rows f fd) (z_range : mg "range" = none) : FnOk P w K mg base CX0 1 f fd ["size", "many"] spRows := by
  refine F.ok sc__rows (fun vs H Q E h => ?_) (fun cdv A outer s H vs Q E hr h => ?_)
  · obtain ⟨n, k, rfl, _⟩ := h
    rfl
  · obtain ⟨n, k, rfl, hn, hk, q⟩ := h
    refine ⟨_, PSs.nox (pss_cons (ps_set (i := 2) sc__rows.nd rfl (Or.inl rfl) (pe_lst (pa_cons (pe_tup pa_nil) pa_nil)))
      (pss_cons (ps_for PassesOwn.never rfl (pi_range1 rfl z_range (pa_cons (pv 1) pa_nil)) (pg_name (i := 3) sc__rows.nd rfl (Or.inl rfl)) (pss_one (ps_setLc2 (i := 2) (own := [("row", 4), ("thing", 5)]) (vs1 := [5]) (g := gName 4) (g1 := gName 5) (tt := tYes) (tt1 := tYes) (te := tTup (StX.tStar K (tVar 4) (tCons (tVar 5) tNil))) (by rfl) sc__rows.nd rfl rfl (sw_true rfl rfl rfl (by decide +kernel)) (pi_list (pv 2)) (blkOk_by (own := [("row", 4), ("thing", 5)]) (N := ["size", "many", "rows", "_", "row", "thing"]) (sc := defScope s__rows) (by decide +kernel)) (by decide) (fun _ _ _ _ _ => pg_name (i := 4) sc__rows.nd rfl (Or.inl rfl)) (fun _ _ _ _ _ => pts_nil) (fun _ _ _ _ _ => pi_range1 rfl z_range (pa_cons (pv 0) pa_nil)) (fun _ _ _ _ _ => pg_name (i := 5) sc__rows.nd rfl (Or.inl rfl)) (fun _ _ _ _ _ => pts_nil) (fun _ _ _ _ _ => pe_tup (StX.pa_star (pv 4) (pa_cons (pv 5) pa_nil))))))
      (pss_one (ps_ret (pv 2))))), ?_⟩
    refine ⟨Nat.zero_le _, fun p0 hp0 => ⟨by show 1 ≤ sizeLine; decide, fun D hD => ?_⟩⟩
    have e0 := (Ex.new (o := .tup []) hp0).trans (Ex.new (o := .lst [.ref p0]) hD)
    have hD0 := fresh_back (Ex.new (o := .tup []) hp0) hD
    refine ⟨_, rfl, k, rfl, by omega, by omega, for_it (walk_range (lo := 0) (n := ((k : Nat) : Int).toNat)) (fun i σ' H' => ∃ x D rs, σ' = [some (.int n), some (.int k), some (.ref D), x, none, none] ∧ Ex H H' ∧ H D = none ∧ H' D = some (.lst (rs.map V.ref)) ∧ RowsAt H' rs (rowsN n i)) ⟨none, D, [p0], rfl, e0, hD0, upd_same, ?_⟩ (fun _ _ _ _ _ => True.intro) ?_ ?_⟩
    · refine RowsAt.push (rs := []) (t := []) RowsAt.nil ?_
      rw [upd_ne (fun z => by rw [← z, upd_same] at hD; cases hD)]
      exact upd_same
    · rintro i x σ' _ H1 hi ⟨x3, D1, rs, rfl, e1, hD1, hL, hR⟩ ⟨rfl, rfl⟩
      have hrl : rs.length = n ^ i := by rw [hR.1, rowsN_len]
      have sp : n ^ (i + 1) ≤ 216 := small_pow hn (by omega)
      refine ⟨_, rfl, D1, rfl, ⟨_, SqL.of hL⟩, fun D2 hD2 => ?_⟩
      refine turns_it (walk_list (K := K) (a := D1) (xs := rs.map V.ref)) (fun m G => Ex H1 G ∧ ∃ rs2, G D2 = some (.lst (rs2.map V.ref)) ∧ RowsAt G rs2 (ext ((rowsN n i).take m) n)) ⟨Ex.new hD2, [], upd_same, RowsAt.nil⟩ (fun m G _ h => ex_l h.1 (SqL.of hL)) ?_ ?_
      · rintro m x _ G hm ⟨eG, rs2, hG, hR2⟩ ⟨rfl, hx⟩
        have hx2 : (rs.map V.ref)[m]? = some x := hx
        rw [List.getElem?_map] at hx2
        obtain ⟨r, hr1, rfl⟩ := Option.map_eq_some_iff.mp hx2
        have hm2 : m < (rowsN n i).length := by
          have := (List.getElem?_eq_some_iff.mp hr1).1
          rw [← hR.1]
          exact this
        have hrow := List.getElem?_eq_getElem hm2
        generalize (rowsN n i)[m] = row at hrow
        have hr2 : ∀ {G'}, Ex H1 G' → G' r = some (.tup (row.map V.int)) := fun e => e _ _ (hR.2 m r row hr1 hrow)
        refine ⟨rfl, tyes_go (yes_of rfl ?_)⟩
        refine ⟨_, rfl, n, rfl, by omega, by omega, ?_⟩
        refine turns_it (walk_range (lo := 0) (n := ((n : Nat) : Int).toNat)) (fun j G' => Ex H1 G' ∧ ∃ rs3, G' D2 = some (.lst (rs3.map V.ref)) ∧ RowsAt G' rs3 (ext ((rowsN n i).take m) n ++ (List.range j).map fun (x : Nat) => row ++ [(x : Int)])) ⟨eG, rs2, hG, by simpa using hR2⟩ (fun _ _ _ _ => True.intro) ?_ ?_
        · rintro j x _ G' hj ⟨eG', rs3, hG', hR3⟩ ⟨rfl, rfl⟩
          refine ⟨rfl, tyes_go (yes_of rfl ?_)⟩
          refine ⟨_, rfl, r, _, rfl, .inl (.inl (.inl (hr2 eG'))), _, rfl, ?_, fun p hp => ?_⟩
          · have hrl2 := (rowsN_in (List.mem_of_getElem? hrow)).1
            refine Nat.le_trans ?_ (by decide : 4 ≤ sizeLine)
            show (row.map V.int ++ [_]).length ≤ 4
            rw [List.length_append, List.length_map, hrl2]
            show i + 1 ≤ 4
            omega
          · have hl3 : rs3.length < sizeLine := by
              refine Nat.lt_of_le_of_lt ?_ (by decide : 216 < sizeLine)
              rw [hR3.1, List.length_append, ext_len, List.length_map, List.length_range, List.length_take, Nat.min_eq_left (by omega)]
              have h1 : (m + 1) * n ≤ n ^ i * n := Nat.mul_le_mul_right n (by rw [rowsN_len] at hm2; omega)
              rw [← Nat.pow_succ, Nat.succ_mul] at h1
              have hj2 : j < n := by omega
              have sp2 : n ^ i.succ ≤ 216 := sp
              omega
            refine ⟨_, by rw [upd_ne (ne_of_none hG' hp)]; exact hG', by rw [List.length_map]; exact hl3, Ex.mut (eG'.trans (Ex.new hp)) hD2, rs3 ++ [p], by rw [upd_same, List.map_append]; rfl, ?_⟩
            rw [List.range_succ, List.map_append, ← List.append_assoc]
            refine RowsAt.upd (acc := rs3.map V.ref) (RowsAt.push (hR3.ex (Ex.new hp)) ?_) (by rw [upd_ne (ne_of_none hG' hp)]; exact hG')
            rw [upd_same, List.map_append]
            simp
        · rintro G' ⟨eG', rs3, hG', hR3⟩
          refine ⟨eG', rs3, hG', ?_⟩
          rw [ext_take hrow]
          exact hR3
      · rintro G ⟨eG, rs2, hG, hR2⟩
        refine ⟨_, D2, rs2, rfl, e1.trans eG, fresh_back e1 hD2, hG, ?_⟩
        rw [List.length_map, hR.1, ext_full] at hR2
        exact hR2
    · rintro σ' G ⟨x3, D1, rs, rfl, e1, hD1, hL, hR⟩
      exact ⟨_, rfl, q D1 rs G e1 hD1 hL hR⟩
end
end D1
end
section
set_option Elab.async false
set_option linter.all false
set_option maxRecDepth 100000
set_option maxHeartbeats 4000000
/-! D5: the law's own rows of things -/
namespace D1
open PySem L2 Evl
theorem RowsAt.append {H : Hp} {rs rs' : List Addr} {t t' : Tb} (h : RowsAt H rs t) (h' : RowsAt H rs' t') : RowsAt H (rs ++ rs') (t ++ t') := by
  obtain ⟨h1, h2⟩ := h
  obtain ⟨h3, h4⟩ := h'
  refine ⟨by simp [h1, h3], fun i r row a b => ?_⟩
  by_cases hi : i < rs.length
  · rw [List.getElem?_append_left hi] at a
    rw [List.getElem?_append_left (by omega)] at b
    exact h2 i r row a b
  · rw [List.getElem?_append_right (by omega)] at a
    rw [List.getElem?_append_right (by omega), ← h1] at b
    exact h4 _ r row a b
end D1
end
section
set_option Elab.async false
set_option linter.all false
set_option maxRecDepth 100000
set_option maxHeartbeats 4000000
/-! D6: the law's own look at a rule -/
namespace D1
open PySem L2 Evl
def spLook : Sp := fun vs H Q _ => ∃ (p q r : Addr) (n i : Nat) (S P : Tb) (row : List Int), vs = [.ref p, .ref q, .str (rname i), .ref r] ∧ i < 8 ∧ Two n H p q S P ∧ H r = some (.tup (row.map V.int)) ∧ RowN n (arity i) row ∧ ∀ H', Ex H H' → Q (.bl (holdsB i S P row)) H'
end D1
end
section
set_option Elab.async false
set_option linter.all false
set_option maxRecDepth 100000
set_option maxHeartbeats 4000000
/-! Z2: zip over a list and a tuple -/
namespace RZ
open PySem PySem.Spec PyProof.Rows L2
def ItzLT (K : PySem.W.Frag) (a b : Addr) : It :=
  ⟨fun i H => ∃ (xs ys : List V) (x y : V), SqL K H a xs ∧ SqT K H b ys ∧ xs[i]? = some x ∧ ys[i]? = some y,
    fun i H v H' => ∃ T x y, v = .ref T ∧ H T = none ∧ H' = upd H T (.tup [x, y]) ∧ (∀ xs, SqL K H a xs → xs[i]? = some x) ∧ ∀ ys, SqT K H b ys → ys[i]? = some y,
    fun i H => ∃ xs ys : List V, SqL K H a xs ∧ SqT K H b ys ∧ i ≤ xs.length ∧ i ≤ ys.length ∧ (i = xs.length ∨ i = ys.length)⟩
theorem sepLT {z TI TO i1 i2 a b : Addr} (D : ZipApart z TI TO i1 i2 a b) (h1 : a ≠ b → True) (ab : i1 ≠ b) (ba : i2 ≠ a) : ZipSep2 z TI TO i1 i2 [i1, a] [i2, b] :=
  ⟨D.TIz, D.TOz, D.TITO, D.TIi1, by simp, by simp [Ne.symm D.i1z, Ne.symm D.l1z], by simp [D.TOi1, Ne.symm D.l1TO], D.TIi2, by simp, by simp [Ne.symm D.i2z, Ne.symm D.l2z], by simp [D.TOi2, Ne.symm D.l2TO], by simp [D.i12, ab], by simp [Ne.symm D.i12, ba]⟩
theorem turn_zipLT {P : Program} {w : World} {K : PySem.W.Frag} {elts : List Expr} {kk : Nat} {tpos : Pos} {a b z TI TO i1 i2 : Addr} (D : ZipApart z TI TO i1 i2 a b) :
    Turn P w K (.Tuple elts kk tpos) (ItzLT K a b) [z, TI, TO, i1, i2] z (fun i h => IsZip h z TI TO .none ∧ IsPair h TI (.ref i1) (.ref i2) ∧ (∃ x y, IsPair h TO x y) ∧ h.IsListIter i1 a i ∧ h.IsTupleIter i2 b i) where
  mem := by simp
  obj := fun i h st c hc => by
    obtain ⟨hz, hTI, ⟨x, y, hTO⟩, ⟨o1, e1, _, d1⟩, ⟨o2, e2, _, d2⟩⟩ := st
    have e' : c = z ∨ c = TI ∨ c = TO ∨ c = i1 ∨ c = i2 := by simpa using hc
    rcases e' with q | q | q | q | q
    · rw [q]; exact ⟨_, hz, fun v q => nomatch q⟩
    · rw [q]; exact ⟨_, hTI, fun v q => nomatch q⟩
    · rw [q]; exact ⟨_, hTO, fun v q => nomatch q⟩
    · rw [q]; exact ⟨o1, e1, fun v q => by rw [d1] at q; cases q⟩
    · rw [q]; exact ⟨o2, e2, fun v q => by rw [d2] at q; cases q⟩
  keep := fun i h h' st k => by
    obtain ⟨hz, hTI, ⟨x, y, hTO⟩, h1, h2⟩ := st
    exact ⟨k z (by simp) _ hz, k TI (by simp) _ hTI, ⟨x, y, k TO (by simp) _ hTO⟩, h1.at fun o q => k i1 (by simp) o q, h2.at fun o q => k i2 (by simp) o q⟩
  item := by
    intro X hP hw hK hc i pins s σ H E I hf st hg
    subst hP hw hK
    obtain ⟨hz, hTI, ⟨x0, y0, hTO⟩, h1, h2⟩ := st
    obtain ⟨xs, ys, x, y, hqx, hqy, hx, hy⟩ := hg
    obtain ⟨its, rv, p, _⟩ := I.list hqx
    obtain ⟨its2, rv2, p2, _⟩ := I.tuple hqy
    obtain ⟨u, hu, ru⟩ := rv.get hx
    obtain ⟨u2, hu2, ru2⟩ := rv2.get hy
    have hzl : z < s.heap.objs.size := Heap.lt_size hz
    have S : ZipSep2 z TI TO i1 i2 [i1, a] [i2, b] := sepLT D (fun _ => trivial) (Ne.symm D.l2i1) (Ne.symm D.l1i2)
    have L1 : s.heap.IsList a its.toArray := p.isList
    have L2 : s.heap.IsTuple b its2.toArray := p2
    have q1 : its.toArray[i]? = some u := by simpa using hu
    have q2 : its2.toArray[i]? = some u2 := by simpa using hu2
    have n1 : i < its.toArray.size := by
      obtain ⟨h, _⟩ := Array.getElem?_eq_some_iff.mp q1
      exact h
    have n2 : i < its2.toArray.size := by
      obtain ⟨h, _⟩ := Array.getElem?_eq_some_iff.mp q2
      exact h
    refine wpAny_pyNext_zipD2_item (St1 := fun i h => h.IsListIter i1 a i ∧ h.IsList a its.toArray) (St2 := fun i h => h.IsTupleIter i2 b i ∧ h.IsTuple b its2.toArray) S (Draws.list (A := X.A.in1) (show X.A.in1.handled = none from I.ok.hd hc) i1 a D.l1i1 its.toArray) (Draws.tuple (A := X.A.in1) (show X.A.in1.handled = none from I.ok.hd hc) i2 b D.l2i2 its2.toArray) hz hTI hTO ⟨h1, L1⟩ ⟨h2, L2⟩ n1 n2 fun v1 v2 h' tk e1 e2 z' TO' h1' h2' hT hsz hk => ?_
    have ev1 : u = v1 := Option.some.inj (q1.symm.trans e1)
    have ev2 : u2 = v2 := Option.some.inj (q2.symm.trans e2)
    subst ev1 ev2
    refine ⟨_, rfl, wpAny_letOwnedTupleGo_zip (s := { s with heap := h', toks := tk }) z' fun h'' z'' sb => ?_⟩
    have hT2 : h''.get? s.heap.objs.size = some { cls := .type "tuple", data := .seq #[u, u2] } := (sb.2 _ (Nat.ne_of_gt hzl)).trans hT
    have new : ObjOk X.prog X.w (upd H s.heap.objs.size (.tup [x, y])) h'' s.heap.objs.size (.tup [x, y]) :=
      ⟨by show 2 ≤ sizeLine; decide, [u, u2], .cons ru (.cons ru2 .nil), ⟨_, hT2, rfl, _, rfl⟩⟩
    have I1 : Inv X pins σ (upd H s.heap.objs.size (.tup [x, y])) { s with heap := h'', toks := tk } :=
      I.turnedNew (t' := tk) (ch := [z, TI, TO, i1, i2]) (fun c o hb q => (sb.2 c (fun q' => hb (by simp [q']))).trans (hk c o (fun q' => hb (by simp [q'])) (fun q' => hb (by simp [q'])) (fun q' => hb (by simp [q'])) (fun q' => hb (by simp [q'])) q)) hf (Nat.le_refl _) new
    refine ⟨.ref s.heap.objs.size, _, I1, rfl, ⟨_, x, y, rfl, I.hok.fresh (Nat.le_refl _), rfl, fun l hl => by rw [I.list_inj hl hqx]; exact hx, fun l hl => by rw [I.tuple_inj hl hqy]; exact hy⟩, ⟨z'', ?_, ⟨u, u2, ?_⟩, ?_, ?_⟩, fun c hcm => ?_⟩
    · exact (sb.2 _ D.TIz).trans (hk _ _ D.TIz D.TITO D.TIi1 D.TIi2 hTI)
    · exact (sb.2 _ D.TOz).trans TO'
    · exact h1'.1.at fun o q => (sb.2 _ D.i1z).trans q
    · exact h2'.1.at fun o q => (sb.2 _ D.i2z).trans q
    · have hlt : c < s.heap.objs.size := by
        have e' : c = z ∨ c = TI ∨ c = TO ∨ c = i1 ∨ c = i2 := by simpa using hcm
        rcases e' with q | q | q | q | q
        · rw [q]; exact hzl
        · rw [q]; exact Heap.lt_size hTI
        · rw [q]; exact Heap.lt_size hTO
        · rw [q]; obtain ⟨_, e1, _⟩ := h1; exact Heap.lt_size e1
        · rw [q]; obtain ⟨_, e2, _⟩ := h2; exact Heap.lt_size e2
      rw [upd_ne (Nat.ne_of_lt hlt)]
      exact (hf c hcm).1
  done := by
    intro X hP hw hK hc i pins s σ H E I hf st hg
    subst hP hw hK
    obtain ⟨hz, hTI, ⟨x0, y0, hTO⟩, h1, h2⟩ := st
    obtain ⟨xs, ys, hqx, hqy, le1, le2, hend⟩ := hg
    obtain ⟨its, rv, p, _⟩ := I.list hqx
    obtain ⟨its2, rv2, p2, _⟩ := I.tuple hqy
    have l1 := rv.length
    have l2 := rv2.length
    have S : ZipSep2 z TI TO i1 i2 [i1, a] [i2, b] := sepLT D (fun _ => trivial) (Ne.symm D.l2i1) (Ne.symm D.l1i2)
    have L1 : s.heap.IsList a its.toArray := p.isList
    have L2 : s.heap.IsTuple b its2.toArray := p2
    have s1 : its.toArray.size = its.length := List.size_toArray
    have s2 : its2.toArray.size = its2.length := List.size_toArray
    exact wpAny_pyNext_zipD2_end (St1 := fun i h => h.IsListIter i1 a i ∧ h.IsList a its.toArray) (St2 := fun i h => h.IsTupleIter i2 b i ∧ h.IsTuple b its2.toArray) S (Draws.list (A := X.A.in1) (show X.A.in1.handled = none from I.ok.hd hc) i1 a D.l1i1 its.toArray) (Draws.tuple (A := X.A.in1) (show X.A.in1.handled = none from I.ok.hd hc) i2 b D.l2i2 its2.toArray) hz hTI hTO ⟨h1, L1⟩ ⟨h2, L2⟩ (by omega) (by omega) (by omega) fun h' tk hk => ⟨rfl, I.turnedL (t' := tk) (ch := [z, TI, TO, i1, i2]) (fun c o hb q =>
      hk c o (fun q' => hb (by simp [q'])) (fun q' => hb (by simp [q'])) (fun q' => hb (by simp [q'])) (fun q' => hb (by simp [q'])) q) hf⟩
  self := fun A i s Q E st h => wpAny_pyIter_zip st.1 h
def iZipLT (K : PySem.W.Frag) (ta : TA) : TI := fun σ H R => ta σ H fun vs H1 => ∃ a b xs ys, vs = [.ref a, .ref b] ∧ SqL K H1 a xs ∧ SqT K H1 b ys ∧ R (ItzLT K a b) H1
theorem pi_zipLT {X : Cx} {e e2 : Expr} {ta : TA} {p pos tpos : Pos} {elts : List Expr} {kk : Nat} (hg : Gl X "zip") (hm : X.mg "zip" = none) (ha : PA X [e, e2] ta)
    (hs : starEach [e, e2] X.env = (false, eval e X.env) :: starEach [e2] X.env := by rfl) (hpl : (backTo pos (starEach [e2] X.env)).any (·.1) = false := by rfl) :
    PI X (.Tuple elts kk tpos) (.Call (.Name "zip" p) [e, e2] [] pos) (iZipLT X.K ta) := by
  refine ⟨fun pins s σ H R I h => ?_⟩
  refine Call_ (ld_blt I hg hm PyProof.Rows.boot_zip (PyProof.Rows.callWith_type1 (thn (ha.run pos pins s σ H _ I h) fun us s1 ⟨vs, H1, I1, r1, q1⟩ => ?_) hs hpl))
  obtain ⟨a, b, xs, ys, ex, hqx, hqy, q⟩ := q1
  subst ex
  cases r1 with
  | cons r rr =>
    cases rr with
    | cons r' rr =>
      cases rr
      cases r
      cases r'
      have fresh5 : ∀ c, c ∈ [s1.heap.objs.size + 4, s1.heap.objs.size + 2, s1.heap.objs.size + 3, s1.heap.objs.size, s1.heap.objs.size + 1] → FpOk X pins H1 c := fun c hcm => by
        have e' : c = s1.heap.objs.size + 4 ∨ c = s1.heap.objs.size + 2 ∨ c = s1.heap.objs.size + 3 ∨ c = s1.heap.objs.size ∨ c = s1.heap.objs.size + 1 := by simpa using hcm
        have hle : s1.heap.objs.size ≤ c := by
          rcases e' with z | z | z | z | z
          · rw [z]; exact Nat.le_add_right _ _
          · rw [z]; exact Nat.le_add_right _ _
          · rw [z]; exact Nat.le_add_right _ _
          · rw [z]; exact Nat.le_refl _
          · rw [z]; exact Nat.le_add_right _ _
        exact I1.fpOk hle (I1.hok.fresh hle)
      obtain ⟨its, rv, p1, _⟩ := I1.list hqx
      obtain ⟨its2, rv2, p2, _⟩ := I1.tuple hqy
      obtain ⟨o2, ho2, _⟩ := id p2
      refine zip_begins2 (begins_list a its.toArray) (begins_tuple b its2.toArray) p1.isList (show s1.heap.IsTuple b its2.toArray from p2) fun h' hz hTI hTO h1 h2 hsz hk => wpAny_pyIter_zip hz ?_
      have I2 : Inv X pins σ H1 { s1 with heap := h' } := I1.kept (t' := s1.toks) hk
      exact ⟨s1.heap.objs.size + 4, [s1.heap.objs.size + 4, s1.heap.objs.size + 2, s1.heap.objs.size + 3, s1.heap.objs.size, s1.heap.objs.size + 1], _, _, H1, rfl, I2, turn_zipLT (PySem.W.ktu_apart s1.heap.objs.size a b p1.lt (Heap.lt_size ho2)), ⟨hz, hTI, ⟨_, _, hTO⟩, ⟨_, h1, rfl, rfl⟩, ⟨_, h2, rfl, rfl⟩⟩, fresh5, q⟩
theorem walk_zipLT {K : PySem.W.Frag} {a b : Addr} {xs ys : List V} (hl : xs.length = ys.length) : Walk (ItzLT K a b) xs.length (fun H => SqL K H a xs ∧ SqT K H b ys) (fun i H v H' => ∃ T x y, v = .ref T ∧ H T = none ∧ H' = upd H T (.tup [x, y]) ∧ xs[i]? = some x ∧ ys[i]? = some y) :=
  ⟨fun i H hi q => ⟨xs, ys, xs[i], ys[i], q.1, q.2, List.getElem?_eq_getElem hi, List.getElem?_eq_getElem (by omega)⟩, fun H q => ⟨xs, ys, q.1, q.2, Nat.le_refl _, by omega, .inl rfl⟩, fun i H v H' hi q y => by
    obtain ⟨T, x, y, e1, e2, e3, e4, e5⟩ := y
    exact ⟨T, x, y, e1, e2, e3, e4 xs q.1, e5 ys q.2⟩⟩
end RZ
end
section
set_option Elab.async false
set_option linter.all false
set_option maxRecDepth 100000
set_option maxHeartbeats 4000000
/-! D7: the first rule that is broken, by the law -/
namespace D1
open PySem L2 Evl RZ
/-- the first rule that some rows break, and the first such row -/
def Fb (n : Nat) (S P : Tb) : Option (Nat × List Int) → Prop
  | none => ∀ i, i < 8 → ∀ row ∈ rowsN n (arity i), holdsB i S P row = true
  | some (i, row) => i < 8 ∧ (∀ j, j < i → ∀ row' ∈ rowsN n (arity j), holdsB j S P row' = true) ∧ ∃ m : Nat, (rowsN n (arity i))[m]? = some row ∧ (∀ m' : Nat, m' < m → ∀ row', (rowsN n (arity i))[m']? = some row' → holdsB i S P row' = true) ∧ holdsB i S P row = false
theorem Fb.unique {n : Nat} {S P : Tb} {o o' : Option (Nat × List Int)} (h : Fb n S P o) (h' : Fb n S P o') : o = o' := by
  have non : ∀ {i : Nat} {row : List Int}, Fb n S P none → Fb n S P (some (i, row)) → False := fun {i row} a b => by
    obtain ⟨hi, _, m, hm, _, hf⟩ := b
    have := a i hi row (List.mem_of_getElem? hm)
    rw [hf] at this
    cases this
  cases o with
  | none =>
    cases o' with
    | none => rfl
    | some x => exact (non h h').elim
  | some x =>
    cases o' with
    | none => exact (non h' h).elim
    | some y =>
      obtain ⟨i, row⟩ := x
      obtain ⟨j, row'⟩ := y
      obtain ⟨hi, ai, m, hm, bm, hf⟩ := h
      obtain ⟨hj, aj, m', hm', bm', hf'⟩ := h'
      have e1 : i = j := by
        rcases Nat.lt_trichotomy i j with c | c | c
        · have := aj i c row (List.mem_of_getElem? hm)
          rw [hf] at this
          cases this
        · exact c
        · have := ai j c row' (List.mem_of_getElem? hm')
          rw [hf'] at this
          cases this
      subst e1
      have e2 : m = m' := by
        rcases Nat.lt_trichotomy m m' with c | c | c
        · have := bm' m c row hm
          rw [hf] at this
          cases this
        · exact c
        · have := bm m' c row' hm'
          rw [hf'] at this
          cases this
      subst e2
      rw [hm] at hm'
      cases hm'
      rfl
/-- what the law tells: [] or [rule, things] -/
def BrokAt (H : Hp) (D : Addr) : Option (Nat × List Int) → Prop
  | none => H D = some (.lst [])
  | some (i, row) => ∃ r, H D = some (.lst [.str (rname i), .ref r]) ∧ H r = some (.tup (row.map V.int))
theorem BrokAt.ex {H H' : Hp} {D : Addr} {o : Option (Nat × List Int)} (h : BrokAt H D o) (e : Ex H H') : BrokAt H' D o := by
  cases o with
  | none => exact e _ _ h
  | some x =>
    obtain ⟨i, row⟩ := x
    obtain ⟨r, h1, h2⟩ := h
    exact ⟨r, e _ _ h1, e _ _ h2⟩
def MadeAt (H : Hp) (a p q : Addr) : Prop := H a = some (.tup [.str "table", .ref p, .ref q])
def spBroken : Sp := fun vs H Q _ => ∃ (a p q : Addr) (n : Nat) (S P : Tb), vs = [.ref a] ∧ MadeAt H a p q ∧ Two n H p q S P ∧ n ≤ 6 ∧ ∀ (D : Addr) (o : Option (Nat × List Int)) H', Ex H H' → H D = none → Fb n S P o → BrokAt H' D o → Q (.ref D) H'
def names8 : List V := (List.range 8).map fun i => V.str (rname i)
def ars8 : List V := (List.range 8).map fun i => V.int (arity i)
theorem names8_at {i : Nat} {x : V} (h : names8[i]? = some x) : i < 8 ∧ x = V.str (rname i) := by
  unfold names8 at h
  rw [List.getElem?_map] at h
  obtain ⟨j, h1, rfl⟩ := Option.map_eq_some_iff.mp h
  obtain ⟨h2, h3⟩ := List.getElem?_eq_some_iff.mp h1
  rw [List.getElem_range] at h3
  rw [List.length_range] at h2
  rw [← h3]
  exact ⟨by omega, rfl⟩
theorem ars8_at {i : Nat} {x : V} (h : ars8[i]? = some x) : x = V.int (arity i) := by
  unfold ars8 at h
  rw [List.getElem?_map] at h
  obtain ⟨j, h1, rfl⟩ := Option.map_eq_some_iff.mp h
  obtain ⟨h2, h3⟩ := List.getElem?_eq_some_iff.mp h1
  rw [List.getElem_range] at h3
  rw [h3]
theorem arity_le (i : Nat) : arity i ≤ 3 := by
  unfold arity
  split <;> decide
end D1
end
section
set_option Elab.async false
set_option linter.all false
set_option maxRecDepth 100000
set_option maxHeartbeats 4000000
/-! D8: the first rule that is broken, by the program -/
namespace D1
open PySem L2 Evl RZ
structure RulesAt (K : PySem.W.Frag) (mg : Str → Option Value) (aR : Addr) (ts fs : Nat → Addr) : Prop where
  g : mg "_RULES" = some (.ref aR)
  all : ∀ H, SqT K H aR ((List.range 8).map fun i => V.ref (ts i))
  row : ∀ i, i < 8 → ∀ H, SqT K H (ts i) [.str (rname i), .int (arity i), .ref (fs i)]
  inj : ∀ i j, i < 8 → j < 8 → fs i = fs j → i = j
/-- the promise that goes with a def's address -/
def spOf8 (fs : Nat → Addr) (f : Addr) : Option Sp := ((List.range 8).find? fun i => decide (fs i = f)).map spHold
theorem spOf8_is {K : PySem.W.Frag} {mg : Str → Option Value} {aR : Addr} {ts fs : Nat → Addr} (R : RulesAt K mg aR ts fs) {i : Nat} (hi : i < 8) : spOf8 fs (fs i) = some (spHold i) := by
  unfold spOf8
  cases h : (List.range 8).find? fun j => decide (fs j = fs i) with
  | none =>
    have := List.find?_eq_none.mp h i (List.mem_range.mpr hi)
    simp at this
  | some j =>
    have h0 : decide (fs j = fs i) = true := List.find?_some (p := fun j => decide (fs j = fs i)) h
    have h1 := of_decide_eq_true h0
    have h2 := List.mem_range.mp (List.mem_of_find?_eq_some h)
    rw [R.inj j i h2 hi h1]
    rfl
theorem spOf8_in {fs : Nat → Addr} {f : Addr} {sp : Sp} (h : spOf8 fs f = some sp) : ∃ i, i < 8 ∧ f = fs i ∧ sp = spHold i := by
  unfold spOf8 at h
  obtain ⟨j, h1, h2⟩ := Option.map_eq_some_iff.mp h
  have h0 : decide (fs j = f) = true := List.find?_some (p := fun j => decide (fs j = f)) h1
  have h3 := of_decide_eq_true h0
  have h4 := List.mem_range.mp (List.mem_of_find?_eq_some h1)
  exact ⟨j, h4, h3.symm, h2.symm⟩
/-- what the program tells: None or (rule, things) -/
def FirstAt (H : Hp) (v : V) : Option (Nat × List Int) → Prop
  | none => v = .non
  | some (i, row) => ∃ D r, v = .ref D ∧ H D = some (.tup [.str (rname i), .ref r]) ∧ H r = some (.tup (row.map V.int))
def spFirst : Sp := fun vs H Q _ => ∃ (p q : Addr) (n : Nat) (S P : Tb), vs = [.ref p, .ref q] ∧ Two n H p q S P ∧ n ≤ 6 ∧ ∀ (v : V) (o : Option (Nat × List Int)) H', Ex H H' → Fb n S P o → FirstAt H' v o → Q v H'
section
variable {P : Program} {w : World} {K : PySem.W.Frag} {mg : Str → Option Value} {base : Heap}
abbrev s_first_broken : Stmt := top 60
theorem sc_first_broken : FnScope ["sums", "products", "rule", "many", "holds", "things"] ["sums", "products"] (defScope s_first_broken) := ⟨rfl, rfl, rfl, by decide +kernel, rfl, by decide +kernel, by decide +kernel⟩
theorem ok_first_broken {f : Addr} {fd : FuncData} (F : FnP K "first_broken" s_first_broken f fd) {f__rows : Addr} {fd__rows : FuncData} (F__rows : FnP K "_rows" s__rows f__rows fd__rows) (g__rows : mg "_rows" = some (.ref f__rows)) (G__rows : FnOk P w K mg base CX0 1 f__rows fd__rows ["size", "many"] spRows) {aR : Addr} {ts fs : Nat → Addr} (R : RulesAt K mg aR ts fs) (hA : ∀ f sp, spOf8 fs f = some sp → Held P w K mg base 2 f sp) (z_len : mg "len" = none) : FnOk P w K mg base CX0 3 f fd ["sums", "products"] spFirst := by
  have b__rows : Binds K fd__rows ["size", "many"] [] := F__rows.bindsN fun _ _ _ _ _ _ us hl => match us, hl with | [_, _], _ => rfl
  refine F.ok sc_first_broken (fun vs H Q E h => ?_) (fun cdv A outer s H vs Q E hr h => ?_)
  · obtain ⟨p, q, n, S, P, rfl, _⟩ := h
    rfl
  · obtain ⟨p, q', n, S, M, rfl, T, hn, q⟩ := h
    have hr__rows := hr.mono (by decide : 1 ≤ 2)
    have hr_holds := hr
    refine ⟨_, PSs.nox (pss_cons (ps_for PassesOwn.never rfl (pi_tup (pe_glob (v := .ref aR) rfl R.g rfl)) (pg_tup rfl (pgs_cons (pg_name (i := 2) sc_first_broken.nd rfl (Or.inl rfl)) (pgs_cons (pg_name (i := 3) sc_first_broken.nd rfl (Or.inl rfl)) (pgs_cons (pg_name (i := 4) sc_first_broken.nd rfl (Or.inl rfl)) pgs_nil)))) (pss_one (ps_for PassesOwn.never rfl (pi_list (pe_call G__rows hr__rows rfl g__rows F__rows.kp b__rows .nil pass0 (pa_cons (pe_callB call_len_seq (by rfl) z_len PySem.boot_len (pa_cons (pv 0) pa_nil)) (pa_cons (pv 3) pa_nil)))) (pg_name (i := 5) sc_first_broken.nd rfl (Or.inl rfl)) (pss_one (ps_if (pt_not (pt_val (pe_callA (i := 4) (S := spOf8 fs) hA hr_holds rfl (by first | exact .inl rfl | exact .inr (.inl rfl) | decide) (pa_cons (pv 0) (pa_cons (pv 1) (pa_cons (pv 5) pa_nil)))))) (pss_one (ps_ret (pe_tup (pa_cons (pv 2) (pa_cons (pv 5) pa_nil))))) pss_nil)))))
      (pss_one (ps_ret pe_non))), ?_⟩
    refine ⟨aR, rfl, ⟨_, R.all H⟩, ?_⟩
    refine for_it (walk_tup (K := K) (a := aR) (xs := (List.range 8).map fun i => V.ref (ts i))) (fun i σ' H' => ∃ x2 x3 x4 x5, σ' = [some (.ref p), some (.ref q'), x2, x3, x4, x5] ∧ Ex H H' ∧ ∀ j, j < i → ∀ row ∈ rowsN n (arity j), holdsB j S M row = true) ⟨none, none, none, none, rfl, Ex.refl H, fun j hj => by omega⟩ (fun i σ' H' _ h => R.all H') ?_ ?_
    · rintro i x σ' _ H2 hi ⟨x2, x3, x4, x5, rfl, e4, hall⟩ ⟨rfl, hx⟩
      have i8 : i < 8 := hi
      obtain rfl : x = V.ref (ts i) := by
        have hx2 : ((List.range 8).map fun i => V.ref (ts i))[i]? = some x := hx
        rw [List.getElem?_map, List.getElem?_range i8] at hx2
        exact (Option.some.inj hx2).symm
      refine ⟨ts i, _, rfl, R.row i i8 H2, rfl, _, _, rfl, _, _, rfl, _, _, rfl, rfl, ?_⟩
      have T2 := T.ex e4
      obtain ⟨rsS, hrsS, hrsl, hrsr⟩ := T2.s
      refine ⟨_, rfl, p, _, rfl, .inr (.inl (.inl hrsS)), _, rfl, n, arity i, ?_, hn, arity_le i, fun D2 rs H3 e5 hD2 hL hR => ?_⟩
      · rw [List.length_map, hrsl, T2.sq.len]
        rfl
      refine ⟨D2, rfl, ⟨_, SqL.of hL⟩, ?_⟩
      refine for_it (walk_list (K := K) (a := D2) (xs := rs.map V.ref)) (fun m σ' G => ∃ x5, σ' = [some (.ref p), some (.ref q'), some (.str (rname i)), some (.int (arity i)), some (.ref (fs i)), x5] ∧ Ex H3 G ∧ ∀ m' : Nat, m' < m → ∀ row', (rowsN n (arity i))[m']? = some row' → holdsB i S M row' = true) ⟨x5, rfl, Ex.refl H3, fun m' h => by omega⟩ (fun m σ' G _ h => ?_) ?_ ?_
      · obtain ⟨_, _, h, _⟩ := h
        exact ex_l h (SqL.of hL)
      · rintro m x σ' _ G hm ⟨x5, rfl, eG, hm'⟩ ⟨rfl, hx⟩
        have hx2 : (rs.map V.ref)[m]? = some x := hx
        rw [List.getElem?_map] at hx2
        obtain ⟨r, hr1, rfl⟩ := Option.map_eq_some_iff.mp hx2
        have hm2 : m < (rowsN n (arity i)).length := by
          have := (List.getElem?_eq_some_iff.mp hr1).1
          rw [← hR.1]
          exact this
        have hrow := List.getElem?_eq_getElem hm2
        generalize (rowsN n (arity i))[m] = row at hrow
        have hr2 : G r = some (.tup (row.map V.int)) := eG _ _ (hR.2 m r row hr1 hrow)
        have TG := T2.ex (e5.trans eG)
        refine ⟨fs i, _, rfl, spOf8_is R i8, _, rfl, _, rfl, _, rfl, p, q', r, n, S, M, row, rfl, TG, hr2, rowsN_in (List.mem_of_getElem? hrow), fun G2 eG2 => ⟨_, rfl, ?_⟩⟩
        have eA := (e4.trans e5).trans (eG.trans eG2)
        cases hb : holdsB i S M row with
        | false =>
          refine yes_of rfl ?_
          refine ⟨_, rfl, _, rfl, by show 2 ≤ sizeLine; decide, fun Dl hDl => ?_⟩
          refine q (.ref Dl) (some (i, row)) _ (eA.trans (Ex.new hDl)) ⟨i8, hall, m, hrow, hm', hb⟩ ⟨Dl, r, rfl, upd_same, ?_⟩
          rw [upd_ne (ne_of_none (eG2 _ _ hr2) hDl)]
          exact eG2 _ _ hr2
        | true =>
          refine no_of rfl ?_
          refine ⟨_, rfl, eG.trans eG2, fun m' h1 row' h2 => ?_⟩
          by_cases hmm : m' < m
          · exact hm' m' hmm row' h2
          · obtain rfl : m' = m := by omega
            rw [hrow] at h2
            cases h2
            exact hb
      · rintro σ' G ⟨x5, rfl, eG, hm'⟩
        refine ⟨_, _, _, _, rfl, (e4.trans e5).trans eG, fun j hj row hrow => ?_⟩
        by_cases hji : j < i
        · exact hall j hji row hrow
        · obtain rfl : j = i := by omega
          obtain ⟨m, hm1, hm2⟩ := List.mem_iff_getElem.mp hrow
          refine hm' m ?_ row (by rw [List.getElem?_eq_getElem hm1, hm2])
          rw [List.length_map, hR.1]
          exact hm1
    · rintro σ' G ⟨x2, x3, x4, x5, rfl, e4, hall⟩
      exact q .non none _ e4 (fun i hi => hall i hi) rfl
end
end D1
end
section
set_option Elab.async false
set_option linter.all false
set_option maxRecDepth 100000
set_option maxHeartbeats 4000000
/-! Z1: zip over two texts of signs below 128 -/
namespace RZ
open PySem PySem.Spec PyProof.Rows L2
def ItzS (x y : Str) : It :=
  ⟨fun i _ => i < x.cps.size ∧ i < y.cps.size,
    fun i H v H' => ∃ T c d, v = .ref T ∧ H T = none ∧ H' = upd H T (.tup [.str ⟨#[c]⟩, .str ⟨#[d]⟩]) ∧ x.cps[i]? = some c ∧ y.cps[i]? = some d,
    fun i _ => i ≤ x.cps.size ∧ i ≤ y.cps.size ∧ (i = x.cps.size ∨ i = y.cps.size)⟩
theorem turn_zipS {P : Program} {w : World} {K : PySem.W.Frag} {elts : List Expr} {kk : Nat} {tpos : Pos} {z TI TO i1 i2 : Addr} {x y : Str} {t1 t2 : Tok} (S : ZipSep2 z TI TO i1 i2 [i1] [i2]) :
    Turn P w K (.Tuple elts kk tpos) (ItzS x y) [z, TI, TO, i1, i2] z (fun i h => IsZip h z TI TO .none ∧ IsPair h TI (.ref i1) (.ref i2) ∧ (∃ a b, IsPair h TO a b) ∧ h.IsStrIter i1 "str_ascii_iterator" x t1 i ∧ h.IsStrIter i2 "str_ascii_iterator" y t2 i) where
  mem := by simp
  obj := fun i h st c hc => by
    obtain ⟨hz, hTI, ⟨a, b, hTO⟩, ⟨o1, e1, _, d1⟩, ⟨o2, e2, _, d2⟩⟩ := st
    have e' : c = z ∨ c = TI ∨ c = TO ∨ c = i1 ∨ c = i2 := by simpa using hc
    rcases e' with q | q | q | q | q
    · rw [q]; exact ⟨_, hz, fun v q => nomatch q⟩
    · rw [q]; exact ⟨_, hTI, fun v q => nomatch q⟩
    · rw [q]; exact ⟨_, hTO, fun v q => nomatch q⟩
    · rw [q]; exact ⟨o1, e1, fun v q => by rw [d1] at q; cases q⟩
    · rw [q]; exact ⟨o2, e2, fun v q => by rw [d2] at q; cases q⟩
  keep := fun i h h' st k => by
    obtain ⟨hz, hTI, ⟨a, b, hTO⟩, ⟨o1, e1, r1⟩, ⟨o2, e2, r2⟩⟩ := st
    exact ⟨k z (by simp) _ hz, k TI (by simp) _ hTI, ⟨a, b, k TO (by simp) _ hTO⟩, ⟨o1, k i1 (by simp) o1 e1, r1⟩, ⟨o2, k i2 (by simp) o2 e2, r2⟩⟩
  item := by
    intro X hP hw hK hc i pins s σ H E I hf st hg
    subst hP hw hK
    obtain ⟨hz, hTI, ⟨x0, y0, hTO⟩, h1, h2⟩ := st
    have hzl : z < s.heap.objs.size := Heap.lt_size hz
    refine wpAny_pyNext_zipD2_item (St1 := fun i h => h.IsStrIter i1 "str_ascii_iterator" x t1 i) (St2 := fun i h => h.IsStrIter i2 "str_ascii_iterator" y t2 i) S (Draws.strAscii (A := X.A.in1) (show X.A.in1.handled = none from I.ok.hd hc) i1 x t1) (Draws.strAscii (A := X.A.in1) (show X.A.in1.handled = none from I.ok.hd hc) i2 y t2) hz hTI hTO h1 h2 hg.1 hg.2 fun u u2 h' tk p1 p2 z' TO' h1' h2' hT hsz hk => ?_
    obtain ⟨c, k1, hcx, rfl⟩ := p1
    obtain ⟨d, k2, hdy, rfl⟩ := p2
    refine ⟨_, rfl, wpAny_letOwnedTupleGo_zip (s := { s with heap := h', toks := tk }) z' fun h'' z'' sb => ?_⟩
    have hT2 : h''.get? s.heap.objs.size = some { cls := .type "tuple", data := .seq #[.str ⟨#[c]⟩ k1, .str ⟨#[d]⟩ k2] } := (sb.2 _ (Nat.ne_of_gt hzl)).trans hT
    have new : ObjOk X.prog X.w (upd H s.heap.objs.size (.tup [.str ⟨#[c]⟩, .str ⟨#[d]⟩])) h'' s.heap.objs.size (.tup [.str ⟨#[c]⟩, .str ⟨#[d]⟩]) :=
      ⟨by show 2 ≤ sizeLine; decide, [.str ⟨#[c]⟩ k1, .str ⟨#[d]⟩ k2], .cons ⟨k1, rfl⟩ (.cons ⟨k2, rfl⟩ .nil), ⟨_, hT2, rfl, _, rfl⟩⟩
    have I1 : Inv X pins σ (upd H s.heap.objs.size (.tup [.str ⟨#[c]⟩, .str ⟨#[d]⟩])) { s with heap := h'', toks := tk } :=
      I.turnedNew (t' := tk) (ch := [z, TI, TO, i1, i2]) (fun c o hb q => (sb.2 c (fun q' => hb (by simp [q']))).trans (hk c o (fun q' => hb (by simp [q'])) (fun q' => hb (by simp [q'])) (fun q' => hb (by simp [q'])) (fun q' => hb (by simp [q'])) q)) hf (Nat.le_refl _) new
    refine ⟨.ref s.heap.objs.size, _, I1, rfl, ⟨_, c, d, rfl, I.hok.fresh (Nat.le_refl _), rfl, hcx, hdy⟩, ⟨z'', ?_, ⟨.str ⟨#[c]⟩ k1, .str ⟨#[d]⟩ k2, ?_⟩, ?_, ?_⟩, fun c hcm => ?_⟩
    · exact (sb.2 _ S.TIz).trans (hk _ _ S.TIz S.TITO S.TIi1 S.TIi2 hTI)
    · exact (sb.2 _ S.TOz).trans TO'
    · obtain ⟨o, e, r⟩ := h1'
      exact ⟨o, (sb.2 _ (Ne.symm S.zi1)).trans e, r⟩
    · obtain ⟨o, e, r⟩ := h2'
      exact ⟨o, (sb.2 _ (Ne.symm S.zi2)).trans e, r⟩
    · have hlt : c < s.heap.objs.size := by
        have e' : c = z ∨ c = TI ∨ c = TO ∨ c = i1 ∨ c = i2 := by simpa using hcm
        rcases e' with q | q | q | q | q
        · rw [q]; exact hzl
        · rw [q]; exact Heap.lt_size hTI
        · rw [q]; exact Heap.lt_size hTO
        · rw [q]; obtain ⟨_, e1, _⟩ := h1; exact Heap.lt_size e1
        · rw [q]; obtain ⟨_, e2, _⟩ := h2; exact Heap.lt_size e2
      rw [upd_ne (Nat.ne_of_lt hlt)]
      exact (hf c hcm).1
  done := by
    intro X hP hw hK hc i pins s σ H E I hf st hg
    subst hP hw hK
    obtain ⟨hz, hTI, ⟨x0, y0, hTO⟩, h1, h2⟩ := st
    exact wpAny_pyNext_zipD2_end (St1 := fun i h => h.IsStrIter i1 "str_ascii_iterator" x t1 i) (St2 := fun i h => h.IsStrIter i2 "str_ascii_iterator" y t2 i) S (Draws.strAscii (A := X.A.in1) (show X.A.in1.handled = none from I.ok.hd hc) i1 x t1) (Draws.strAscii (A := X.A.in1) (show X.A.in1.handled = none from I.ok.hd hc) i2 y t2) hz hTI hTO h1 h2 hg.1 hg.2.1 hg.2.2 fun h' tk hk => ⟨rfl, I.turnedL (t' := tk) (ch := [z, TI, TO, i1, i2]) (fun c o hb q =>
      hk c o (fun q' => hb (by simp [q'])) (fun q' => hb (by simp [q'])) (fun q' => hb (by simp [q'])) (fun q' => hb (by simp [q'])) q) hf⟩
  self := fun A i s Q E st h => wpAny_pyIter_zip st.1 h
abbrev zipSH1 (h : Heap) (x : Str) (t1 : Tok) : Heap := h.push { cls := .type "str_ascii_iterator", data := .fields #[.str x t1, .int 0 0] }
abbrev zipSH2 (h : Heap) (x y : Str) (t1 t2 : Tok) : Heap := (zipSH1 h x t1).push { cls := .type "str_ascii_iterator", data := .fields #[.str y t2, .int 0 0] }
abbrev zipSH3 (h : Heap) (x y : Str) (t1 t2 : Tok) : Heap := (zipSH2 h x y t1 t2).push { cls := .type "tuple", data := .seq #[.ref h.objs.size, .ref (zipSH1 h x t1).objs.size] }
abbrev zipSH4 (h : Heap) (x y : Str) (t1 t2 : Tok) : Heap := (zipSH3 h x y t1 t2).push { cls := .type "tuple", data := .seq #[.none, .none] }
abbrev zipSH5 (h : Heap) (x y : Str) (t1 t2 : Tok) : Heap := (zipSH4 h x y t1 t2).push { cls := .type "zip", data := .fields #[.none, .bool false, .bool false, .ref (zipSH2 h x y t1 t2).objs.size, .ref (zipSH3 h x y t1 t2).objs.size] }
theorem meets_zipS_new (x y : Str) (t1 t2 : Tok) (hx : x.cps.all (· < 128) = true) (hy : y.cps.all (· < 128) = true) :
    Meets (Builtin.«zip.__new__» ⟨[.type "zip", .str x t1, .str y t2], []⟩) (fun _ R s => R (.ok (.ret (.ref (zipSH4 s.heap x y t1 t2).objs.size))) { s with heap := zipSH5 s.heap x y t1 t2 }) :=
  .of_wp fun prog w A R s h => by
    obtain ⟨hp, g, d, tk, os⟩ := s
    have hsub := sub_zip
    wp_walk using wpAny_pyIter_ascii hx, wpAny_pyIter_ascii hy
    exact ⟨_, rfl, h⟩
section
variable {prog : Program} {w : World} {A : Around} {E : Value → Shared → Prop} {s : Shared}
theorem call_zipS {x y : Str} {t1 t2 : Tok} {Q : Value → Shared → Prop} (hx : x.cps.all (· < 128) = true) (hy : y.cps.all (· < 128) = true)
    (h : ∀ h', IsZip h' (s.heap.objs.size + 4) (s.heap.objs.size + 2) (s.heap.objs.size + 3) .none → IsPair h' (s.heap.objs.size + 2) (.ref s.heap.objs.size) (.ref (s.heap.objs.size + 1)) →
      IsPair h' (s.heap.objs.size + 3) .none .none → h'.IsStrIter s.heap.objs.size "str_ascii_iterator" x t1 0 → h'.IsStrIter (s.heap.objs.size + 1) "str_ascii_iterator" y t2 0 → h'.objs.size = s.heap.objs.size + 5 →
      (∀ c o, s.heap.get? c = some o → h'.get? c = some o) → Q (.ref (s.heap.objs.size + 4)) { s with heap := h' }) :
    wpAny (model prog w) A (call (.type "zip") [.str x t1, .str y t2]) Q E s := by
  refine callType_new F.called_zip (by decide) (F.typeCall_zip_2 _ _) (F.newCall_zip_2 _ _) (fun obj => F.args_object_init_3 obj _ _) F.entry_zip_new
    (meets_zipS_new x y t1 t2 hx hy) ?_
  have z1 : (zipSH1 s.heap x t1).objs.size = s.heap.objs.size + 1 := Heap.size_push ..
  have z2 : (zipSH2 s.heap x y t1 t2).objs.size = s.heap.objs.size + 2 := by rw [Heap.size_push, z1]
  have z3 : (zipSH3 s.heap x y t1 t2).objs.size = s.heap.objs.size + 3 := by rw [Heap.size_push, z2]
  have z4 : (zipSH4 s.heap x y t1 t2).objs.size = s.heap.objs.size + 4 := by rw [Heap.size_push, z3]
  have z5 : (zipSH5 s.heap x y t1 t2).objs.size = s.heap.objs.size + 5 := by rw [Heap.size_push, z4]
  have g5 : (zipSH5 s.heap x y t1 t2).get? (zipSH4 s.heap x y t1 t2).objs.size = some _ := Heap.get?_push_size _ rfl
  have g4 : (zipSH5 s.heap x y t1 t2).get? (zipSH3 s.heap x y t1 t2).objs.size = some _ := Heap.get?_push_of_some _ (Heap.get?_push_size _ rfl)
  have g3 : (zipSH5 s.heap x y t1 t2).get? (zipSH2 s.heap x y t1 t2).objs.size = some _ := Heap.get?_push_of_some _ (Heap.get?_push_of_some _ (Heap.get?_push_size _ rfl))
  have g2 : (zipSH5 s.heap x y t1 t2).get? (zipSH1 s.heap x t1).objs.size = some _ := Heap.get?_push_of_some _ (Heap.get?_push_of_some _ (Heap.get?_push_of_some _ (Heap.get?_push_size _ rfl)))
  have g1 : (zipSH5 s.heap x y t1 t2).get? s.heap.objs.size = some _ := Heap.get?_push_of_some _ (Heap.get?_push_of_some _ (Heap.get?_push_of_some _ (Heap.get?_push_of_some _ (Heap.get?_push_size _ rfl))))
  rw [z2, z3, z4] at g5
  rw [z1, z2] at g3
  rw [z3] at g4
  rw [z1] at g2
  rw [z4]
  show _ ∧ _
  exact ⟨⟨_, g5, rfl⟩, h _ g5 g3 g4 ⟨_, g1, rfl, rfl⟩ ⟨_, g2, rfl, rfl⟩ z5 fun c o x =>
    Heap.get?_push_of_some _ (Heap.get?_push_of_some _ (Heap.get?_push_of_some _ (Heap.get?_push_of_some _ (Heap.get?_push_of_some _ x))))⟩
end
theorem sepS (n : Nat) : ZipSep2 (n + 4) (n + 2) (n + 3) n (n + 1) [n] [n + 1] :=
  ⟨by simp, by simp, by simp, by simp, by simp, by simp, by simp, by simp, by simp, by simp, by simp, by simp, by simp⟩
def iZipS (ta : TA) : TI := fun σ H R => ta σ H fun vs H1 => ∃ x y, vs = [.str x, .str y] ∧ x.cps.all (· < 128) = true ∧ y.cps.all (· < 128) = true ∧ R (ItzS x y) H1
theorem pi_zipS {X : Cx} {e e2 : Expr} {ta : TA} {p pos tpos : Pos} {elts : List Expr} {kk : Nat} (hg : Gl X "zip") (hm : X.mg "zip" = none) (ha : PA X [e, e2] ta)
    (hs : starEach [e, e2] X.env = (false, eval e X.env) :: starEach [e2] X.env := by rfl) (hpl : (backTo pos (starEach [e2] X.env)).any (·.1) = false := by rfl) :
    PI X (.Tuple elts kk tpos) (.Call (.Name "zip" p) [e, e2] [] pos) (iZipS ta) := by
  refine ⟨fun pins s σ H R I h => ?_⟩
  refine Call_ (ld_blt I hg hm PyProof.Rows.boot_zip (PyProof.Rows.callWith_type1 (thn (ha.run pos pins s σ H _ I h) fun us s1 ⟨vs, H1, I1, r1, q1⟩ => ?_) hs hpl))
  obtain ⟨x, y, ex, hx, hy, q⟩ := q1
  subst ex
  obtain ⟨u1, u2, rfl, ⟨t1, rfl⟩, ⟨t2, rfl⟩⟩ := vals2 r1
  have fresh5 : ∀ c, c ∈ [s1.heap.objs.size + 4, s1.heap.objs.size + 2, s1.heap.objs.size + 3, s1.heap.objs.size, s1.heap.objs.size + 1] → FpOk X pins H1 c := fun c hcm => by
    have e' : c = s1.heap.objs.size + 4 ∨ c = s1.heap.objs.size + 2 ∨ c = s1.heap.objs.size + 3 ∨ c = s1.heap.objs.size ∨ c = s1.heap.objs.size + 1 := by simpa using hcm
    have hle : s1.heap.objs.size ≤ c := by
      rcases e' with z | z | z | z | z
      · rw [z]; exact Nat.le_add_right _ _
      · rw [z]; exact Nat.le_add_right _ _
      · rw [z]; exact Nat.le_add_right _ _
      · rw [z]; exact Nat.le_refl _
      · rw [z]; exact Nat.le_add_right _ _
    exact I1.fpOk hle (I1.hok.fresh hle)
  refine call_zipS hx hy fun h' hz hTI hTO h1 h2 hsz hk => wpAny_pyIter_zip hz ?_
  have I2 : Inv X pins σ H1 { s1 with heap := h' } := I1.kept (t' := s1.toks) hk
  exact ⟨s1.heap.objs.size + 4, [s1.heap.objs.size + 4, s1.heap.objs.size + 2, s1.heap.objs.size + 3, s1.heap.objs.size, s1.heap.objs.size + 1], _, _, H1, rfl, I2,
    turn_zipS (sepS _), ⟨hz, hTI, ⟨_, _, hTO⟩, h1, h2⟩, fresh5, q⟩
theorem walk_zipS {x y : Str} : Walk (ItzS x y) (min x.cps.size y.cps.size) (fun _ => True) (fun i H v H' => ∃ T c d, v = .ref T ∧ H T = none ∧ H' = upd H T (.tup [.str ⟨#[c]⟩, .str ⟨#[d]⟩]) ∧ x.cps[i]? = some c ∧ y.cps[i]? = some d) :=
  ⟨fun i H hi _ => ⟨by omega, by omega⟩, fun H _ => ⟨by omega, by omega, by omega⟩, fun _ _ _ _ _ _ y => y⟩
end RZ
end
section
set_option Elab.async false
set_option linter.all false
set_option maxRecDepth 100000
set_option maxHeartbeats 4000000
/-! E1: what readings evaluate to: texts, zip, isinstance -/
namespace Evl
open PySem L2 RZ
section
variable {K : PySem.W.Frag} {σ : L2.St} {H H' : Hp} {ta tb te tx tl : TE} {t u : TT} {x y z v : V} {r : R2}
/-- [e for c in s], s a text -/
theorem el_lcS {z : Str} {j : Nat} {vs : List Nat} (f : Nat → V) (h : Ev tl σ H (.str z)) (hz : z.cps.size ≤ 40000) (hw : ∀ x, wipe ((wipe σ vs).set j (some x)) vs = wipe σ vs)
    (he : ∀ (i c : Nat) H1, Ex H H1 → z.cps[i]? = some c → Ev te ((wipe σ vs).set j (some (.str ⟨#[c]⟩))) H1 (f i)) :
    EvL (tLc (iStr tl) (gName j) tYes te vs) σ H (given z.cps.size (fun _ => true) f) := fun H0 e Q q => h H0 e _ fun H1 e1 => ⟨z, rfl, fun Dl hD =>
  lc_it (walk_str (z := z)) (Cw H1 (fun _ => true) f Dl) ⟨hD, Ex.new hD, upd_same⟩ (fun _ _ _ _ => trivial) (fun i x H5 H6 hi p y => by
    obtain ⟨rfl, c, hc, rfl⟩ := y
    exact ⟨hw _, cw_turn (f := fun _ => true) p (by omega) (fun H4 _ Q' q => q H4 (Ex.refl H4)) (fun _ => he i c H1 (e.trans e1) hc)⟩) (fun H' p => q Dl H' (fresh_back e1 p.1) (e1.trans p.2.1) p.2.2)⟩
/-- [e for c, d in zip(s, s2)], s and s2 texts -/
theorem el_lcZ {a b : Str} {ta : TA} {j k : Nat} {vs : List Nat} (f : Nat → V) (h : EvA ta σ H [.str a, .str b]) (ha : a.cps.all (· < 128) = true) (hb : b.cps.all (· < 128) = true) (hz : a.cps.size ≤ 40000) (hw : ∀ x y, wipe (((wipe σ vs).set j (some x)).set k (some y)) vs = wipe σ vs)
    (he : ∀ (i c d : Nat) H1, Ex H H1 → a.cps[i]? = some c → b.cps[i]? = some d → Ev te (((wipe σ vs).set j (some (.str ⟨#[c]⟩))).set k (some (.str ⟨#[d]⟩))) H1 (f i)) :
    EvL (tLc (iZipS ta) (gTup K 2 (gCons (gName j) (gCons (gName k) gNil))) tYes te vs) σ H (given (min a.cps.size b.cps.size) (fun _ => true) f) := fun H0 e Q q => h H0 e _ fun H1 e1 => ⟨a, b, rfl, ha, hb, fun Dl hD =>
  lc_it (walk_zipS (x := a) (y := b)) (Cw H1 (fun _ => true) f Dl) ⟨hD, Ex.new hD, upd_same⟩ (fun _ _ _ _ => trivial) (fun i x H5 H6 hi p y => by
    obtain ⟨T, c, d, rfl, hT, rfl, hc, hd⟩ := y
    have p2 : Cw H1 (fun _ => true) f Dl i (upd H5 T (.tup [.str ⟨#[c]⟩, .str ⟨#[d]⟩])) := ⟨p.1, p.2.1.trans (Ex.new hT), by rw [upd_ne (ne_of_none p.2.2 hT)]; exact p.2.2⟩
    exact ⟨T, _, rfl, .inl (.inl upd_same), rfl, _, _, rfl, _, _, rfl, rfl, hw _ _, cw_turn (f := fun _ => true) p2 (by omega) (fun H4 _ Q' q => q H4 (Ex.refl H4)) (fun _ => he i c d H1 (e.trans e1) hc hd)⟩) (fun H' p => q Dl H' (fresh_back e1 p.1) (e1.trans p.2.1) p.2.2)⟩
/-- all(a new list of bools) -/
theorem ev_all {bs : List Bool} (h : EvL ta σ H (bs.map V.bl)) : Ev (tCB (rAll K) (tCons ta tNil)) σ H (.bl (bs.all id)) := fun H1 e Q q =>
  h H1 e _ fun p H2 _ e2 hp => ⟨p, bs, rfl, sq_of hp, q H2 e2⟩
theorem given_map (n : Nat) (g : Nat → Bool) : given n (fun _ => true) (fun i => V.bl (g i)) = (((List.range n).map g).map V.bl) := by
  unfold given
  rw [List.filter_eq_self.mpr (fun _ _ => rfl), List.map_map]
  rfl
theorem all_range (n : Nat) (g : Nat → Bool) : ((List.range n).map g).all id = (List.range n).all g := by
  rw [List.all_map]
  rfl
theorem all_getD {f : Nat → Bool} : ∀ l : List Nat, ((List.range l.length).all fun i => f (l.getD i 0)) = l.all f := by
  intro l
  rw [Bool.eq_iff_iff, List.all_eq_true, List.all_eq_true]
  constructor
  · intro h x hx
    obtain ⟨i, hi, rfl⟩ := List.mem_iff_getElem.mp hx
    have := h i (List.mem_range.mpr hi)
    rw [List.getD_eq_getElem?_getD, List.getElem?_eq_getElem hi] at this
    exact this
  · intro h i hi
    have hi2 := List.mem_range.mp hi
    rw [List.getD_eq_getElem?_getD, List.getElem?_eq_getElem hi2]
    exact h _ (List.getElem_mem hi2)
end
end Evl
end
section
set_option Elab.async false
set_option linter.all false
set_option maxRecDepth 100000
set_option maxHeartbeats 4000000
/-! E2: [e for x in xs for c in s] -/
namespace Evl
open PySem L2 RZ
section
variable {K : PySem.W.Frag} {σ : L2.St} {H H' : Hp} {ta tb te tx tl ts : TE} {t u : TT} {x y z v : V} {r : R2}
def acc2 (f : Nat → Nat → V) (n m : Nat) : List V := (List.range n).flatMap fun i => (List.range m).map fun j => f i j
theorem acc2_succ (f : Nat → Nat → V) (n m : Nat) : acc2 f (n + 1) m = acc2 f n m ++ (List.range m).map fun j => f n j := by
  unfold acc2
  rw [List.range_succ, List.flatMap_append]
  simp
theorem acc2_len (f : Nat → Nat → V) (n m : Nat) : (acc2 f n m).length = n * m := by
  induction n with
  | zero => simp [acc2]
  | succ n ih => rw [acc2_succ, List.length_append, ih, List.length_map, List.length_range, Nat.succ_mul]
theorem tyes_go {σ : L2.St} {H : Hp} {P : Bool → Hp → Prop} (h : P true H) : tYes σ H P := h
theorem el_lc2LS {a : Addr} {xs : List V} {z : Str} {j k : Nat} {vs vs1 : List Nat} (f : Nat → Nat → V) (h : Ev tl σ H (.ref a)) (hx : SqL K H a xs) (hz : xs.length ≤ 4000) (hz2 : z.cps.size ≤ 100)
    (hw : ∀ x, wipe ((wipe σ vs).set j (some x)) vs = wipe σ vs) (hw1 : ∀ x y, wipe ((wipe ((wipe σ vs).set j (some x)) vs1).set k (some y)) vs1 = wipe ((wipe σ vs).set j (some x)) vs1)
    (hs : ∀ (i : Nat) (x : V) H1, Ex H H1 → xs[i]? = some x → Ev ts ((wipe σ vs).set j (some x)) H1 (.str z))
    (he : ∀ (i : Nat) (x : V) (m c : Nat) H1, Ex H H1 → xs[i]? = some x → z.cps[m]? = some c → Ev te ((wipe ((wipe σ vs).set j (some x)) vs1).set k (some (.str ⟨#[c]⟩))) H1 (f i m)) :
    EvL (tLc2 (iList K tl) (gName j) tYes (iStr ts) (gName k) tYes te vs vs1) σ H (acc2 f xs.length z.cps.size) := fun H0 e Q q => h H0 e _ fun H1 e1 => ⟨a, rfl, ⟨xs, ex_l (e.trans e1) hx⟩, fun D hD => by
  have hH := e.trans e1
  refine ⟨fun i m G => m = xs.length - i ∧ i ≤ xs.length ∧ Ex H1 G ∧ G D = some (.lst (acc2 f i z.cps.size)), ⟨xs.length, by simp, Nat.zero_le _, Ex.new hD, by rw [upd_same]; rfl⟩, ?_⟩
  rintro i m G ⟨rfl, hi, eG, hG⟩
  have hxG : SqL K G a xs := ex_l (hH.trans eG) hx
  by_cases hlt : i < xs.length
  · refine .inr ⟨walk_list.goes i G hlt hxG, fun G' => Ex H1 G' ∧ G' D = some (.lst (acc2 f (i + 1) z.cps.size)), fun G' p => ⟨xs.length - (i + 1), by omega, rfl, hlt, p.1, p.2⟩, fun x G' y => ?_⟩
    obtain ⟨rfl, hxi⟩ := walk_list.yields i G x G' hlt hxG y
    refine ⟨hw x, ?_⟩
    refine tyes_go (D1.yes_of rfl ?_)
    refine hs i x G' (hH.trans eG) hxi G' (Ex.refl G') _ fun G2 e2 => ⟨z, rfl, ?_⟩
    refine ⟨fun m2 k2 G3 => k2 = z.cps.size - m2 ∧ m2 ≤ z.cps.size ∧ Ex H1 G3 ∧ G3 D = some (.lst (acc2 f i z.cps.size ++ (List.range m2).map fun j => f i j)), ⟨z.cps.size, by simp, Nat.zero_le _, eG.trans e2, by rw [e2 _ _ hG]; simp⟩, ?_⟩
    rintro m2 k2 G3 ⟨rfl, hm2, eG3, hG3⟩
    by_cases hlt2 : m2 < z.cps.size
    · refine .inr ⟨walk_str.goes m2 G3 hlt2 trivial, fun G' => Ex H1 G' ∧ G' D = some (.lst (acc2 f i z.cps.size ++ (List.range (m2 + 1)).map fun j => f i j)), fun G' p => ⟨z.cps.size - (m2 + 1), by omega, rfl, hlt2, p.1, p.2⟩, fun x2 G4 y2 => ?_⟩
      obtain ⟨rfl, c, hc, rfl⟩ := walk_str.yields m2 G3 x2 G4 hlt2 trivial y2
      refine ⟨hw1 x _, ?_⟩
      refine tyes_go (D1.yes_of rfl ?_)
      refine he i x m2 c G4 (hH.trans eG3) hxi hc G4 (Ex.refl G4) _ fun G5 e5 => ⟨_, e5 _ _ hG3, ?_, ?_, ?_⟩
      · rw [List.length_append, acc2_len, List.length_map, List.length_range]
        refine Nat.lt_of_lt_of_le ?_ (by decide : 1000000 ≤ sizeLine)
        have : i * z.cps.size ≤ 4000 * 100 := Nat.mul_le_mul (by omega) hz2
        omega
      · exact Ex.mut (eG3.trans e5) hD
      · rw [upd_same, List.range_succ, List.map_append, List.append_assoc]
        rfl
    · have em : m2 = z.cps.size := by omega
      subst em
      refine .inl ⟨walk_str.stops G3 trivial, eG3, ?_⟩
      rw [acc2_succ]
      exact hG3
  · have ei : i = xs.length := by omega
    subst ei
    exact .inl ⟨walk_list.stops G hxG, q D G (fresh_back e1 hD) (e1.trans eG) hG⟩⟩
end
end Evl
end
section
set_option Elab.async false
set_option linter.all false
set_option maxRecDepth 100000
set_option maxHeartbeats 4000000
/-! D9: the form of tables -/
namespace D1
open PySem L2 Evl RZ
section
variable {K : PySem.W.Frag} {σ : L2.St} {H : Hp} {tx tl te : TE} {x : V}
theorem ev_isi {T U : String} {b : Bool} (hx : Ev tx σ H x) (ty : ∀ H1, Ex H H1 → TyX K H1 x (.type T)) (k : PySem.W.kitOne K (.type T) (.type U) = some b) (c : ClsV (.ty U) (.type U)) : Ev (tCB (rIsi K) (tCons tx (tCons (tC (.ty U)) tNil))) σ H (.bl b) := fun H1 e Q q =>
  hx H1 e _ fun H2 e2 => ⟨x, .ty U, .type T, .type U, b, rfl, c, ty H2 (e.trans e2), k, q H2 e2⟩
theorem ev_lenT {p : Addr} {ys : List V} (hx : Ev tx σ H (.ref p)) (h : SqT K H p ys) : Ev (tCB (fun xs H Q => ∃ p ys, xs = [V.ref p] ∧ (SqL K H p ys ∨ SqT K H p ys) ∧ Q (.int ys.length) H) (tCons tx tNil)) σ H (.int ys.length) := fun H1 e Q q =>
  hx H1 e _ fun H2 e2 => ⟨p, ys, rfl, .inr (ex_t (e.trans e2) h), q H2 e2⟩
theorem ev_neI {ta tb : TE} {a b : Int} (ha : Ev ta σ H (.int a)) (hb : Ev tb σ H (.int b)) : Ev (tOp rNe ta tb) σ H (.bl (!(a == b))) := by
  have h := ev_op ha hb (show RV rNe (.int a) (.int b) H (.bl (!decide (V.int a = V.int b))) from fun H1 _ _ q => ⟨rfl, q H1 (Ex.refl H1)⟩)
  rw [dec_int] at h
  exact h
theorem tup_ty {H : Hp} {a : Addr} {xs : List V} (h : H a = some (.tup xs)) : ∀ H1, Ex H H1 → TyX K H1 (.ref a) (.type "tuple") := fun H1 e => .base (.tup (e _ _ h))
theorem kit_tt : PySem.W.kitOne K (.type "tuple") (.type "tuple") = some true := kit_ty (show kitB _ _ = some true by decide +kernel)
theorem kit_ii : PySem.W.kitOne K (.type "int") (.type "int") = some true := kit_ty (show kitB _ _ = some true by decide +kernel)
theorem kit_ib : PySem.W.kitOne K (.type "int") (.type "bool") = some false := kit_ty (show kitB _ _ = some false by decide +kernel)
theorem kit_ss : PySem.W.kitOne K (.type "str") (.type "str") = some true := kit_ty (show kitB _ _ = some true by decide +kernel)
/-- [e for x in t], t a tuple -/
theorem el_lcT {a : Addr} {xs : List V} {j : Nat} {vs : List Nat} (v : Nat → V) (h : Ev tl σ H (.ref a)) (hx : SqT K H a xs) (hz : xs.length ≤ 40000) (hw : ∀ x, wipe ((wipe σ vs).set j (some x)) vs = wipe σ vs)
    (he : ∀ (i : Nat) (x : V) H1, Ex H H1 → xs[i]? = some x → Ev te ((wipe σ vs).set j (some x)) H1 (v i)) :
    EvL (tLc (iTup K tl) (gName j) tYes te vs) σ H (given xs.length (fun _ => true) v) := fun H0 e Q q => h H0 e _ fun H1 e1 => ⟨a, rfl, ⟨xs, ex_t (e.trans e1) hx⟩, fun Dl hD =>
  lc_it (walk_tup (xs := xs)) (Cw H1 (fun _ => true) v Dl) ⟨hD, Ex.new hD, upd_same⟩ (fun i H' _ p => ex_t ((e.trans e1).trans p.2.1) hx) (fun i x H5 H6 hi p y => by
    obtain ⟨rfl, hx⟩ := y
    exact ⟨hw _, cw_turn (f := fun _ => true) p (by omega) (fun H4 _ Q' q => q H4 (Ex.refl H4)) (fun _ => he i x H1 (e.trans e1) hx)⟩) (fun H' p => q Dl H' (fresh_back e1 p.1) (e1.trans p.2.1) p.2.2)⟩
def within (a b i : Int) : Bool := decide (a ≤ i) && decide (i ≤ b)
theorem ev_chainLe {ta tb tc : TE} {a b c : Int} (ha : Ev ta σ H (.int a)) (hb : Ev tb σ H (.int b)) (hc : Ev tc σ H (.int c)) : Ev (tChain (rI0 fun i j => .bl (decide (i ≤ j))) (rI0 fun i j => .bl (decide (i ≤ j))) ta tb tc) σ H (.bl (within a c b)) := fun H1 e Q q =>
  ha H1 e _ fun H2 e2 => hb H2 (e.trans e2) _ fun H3 e3 => ⟨a, b, rfl, rfl, _, rfl, by
    unfold within at q
    cases hk : decide (a ≤ b) with
    | true =>
      rw [hk, Bool.true_and] at q
      refine yes_of rfl (hc H3 ((e.trans e2).trans e3) _ fun H4 e4 => ⟨b, c, rfl, rfl, q H4 ((e2.trans e3).trans e4)⟩)
    | false =>
      rw [hk, Bool.false_and] at q
      exact no_of rfl (q H3 (e2.trans e3))⟩
/-- all([e for x in t]) -/
theorem ev_allT {a : Addr} {xs : List V} {j : Nat} {vs : List Nat} (g : Nat → Bool) (h : Ev tl σ H (.ref a)) (hx : SqT K H a xs) (hz : xs.length ≤ 40000) (hw : ∀ x, wipe ((wipe σ vs).set j (some x)) vs = wipe σ vs)
    (he : ∀ (i : Nat) (x : V) H1, Ex H H1 → xs[i]? = some x → Ev te ((wipe σ vs).set j (some x)) H1 (.bl (g i))) :
    Ev (tCB (rAll K) (tCons (tLc (iTup K tl) (gName j) tYes te vs) tNil)) σ H (.bl ((List.range xs.length).all g)) := by
  have h1 := el_lcT (fun i => V.bl (g i)) h hx hz hw he
  rw [given_map] at h1
  have h2 := ev_all (K := K) h1
  rw [Evl.all_range] at h2
  exact h2
theorem all_rangeD {α : Type} {f : α → Bool} {d : α} (l : List α) : ((List.range l.length).all fun i => f (l.getD i d)) = l.all f := by
  rw [Bool.eq_iff_iff, List.all_eq_true, List.all_eq_true]
  constructor
  · intro h x hx
    obtain ⟨i, hi, rfl⟩ := List.mem_iff_getElem.mp hx
    have := h i (List.mem_range.mpr hi)
    rw [List.getD_eq_getElem?_getD, List.getElem?_eq_getElem hi] at this
    exact this
  · intro h i hi
    have hi2 := List.mem_range.mp hi
    rw [List.getD_eq_getElem?_getD, List.getElem?_eq_getElem hi2]
    exact h _ (List.getElem_mem hi2)
end
section
variable {P : Program} {w : World} {K : PySem.W.Frag} {mg : Str → Option Value} {base : Heap}
def spNumI : Sp := fun vs H Q _ => ∃ i : Int, vs = [.int i] ∧ ∀ H', Ex H H' → Q (.bl true) H'
def spWholeI : Sp := fun vs H Q _ => ∃ i a b : Int, vs = [.int i, .int a, .int b] ∧ ∀ H', Ex H H' → Q (.bl (within a b i)) H'
def rowOk (n : Nat) (row : List Int) : Bool := decide (row.length = n) && row.all fun i => within 0 ((n : Int) - 1) i
def tabOk (n : Nat) (t : Tb) : Bool := decide (t.length = n) && t.all (rowOk n)
def twoOk (S M : Tb) : Bool := (decide (2 ≤ S.length) && decide (S.length ≤ 6)) && (tabOk S.length S && tabOk S.length M)
def spRowOk : Sp := fun vs H Q _ => ∃ (r : Addr) (n : Nat) (row : List Int), vs = [.ref r, .int n] ∧ H r = some (.tup (row.map V.int)) ∧ row.length ≤ 40000 ∧ ∀ H', Ex H H' → Q (.bl (rowOk n row)) H'
def spTabOk : Sp := fun vs H Q _ => ∃ (p : Addr) (n : Nat) (t : Tb), vs = [.ref p, .int n] ∧ TabAt H p t ∧ t.length ≤ 40000 ∧ (∀ row ∈ t, row.length ≤ 40000) ∧ ∀ H', Ex H H' → Q (.bl (tabOk n t)) H'
def spTwoOk : Sp := fun vs H Q _ => ∃ (p q : Addr) (S M : Tb), vs = [.ref p, .ref q] ∧ TabAt H p S ∧ TabAt H q M ∧ (∀ t, t = S ∨ t = M → t.length ≤ 40000 ∧ ∀ row ∈ t, row.length ≤ 40000) ∧ ∀ H', Ex H H' → Q (.bl (twoOk S M)) H'
abbrev s_is_number : Stmt := top 18
theorem sc_is_number : FnScope ["thing"] ["thing"] (defScope s_is_number) := ⟨rfl, rfl, rfl, by decide +kernel, rfl, by decide +kernel, by decide +kernel⟩
theorem ok_is_number {f : Addr} {fd : FuncData} (F : FnP K "is_number" s_is_number f fd) (z_isinstance : mg "isinstance" = none) (z_int : mg "int" = none) (z_bool : mg "bool" = none) : FnOk P w K mg base CX0 1 f fd ["thing"] spNumI := by
  refine F.ok sc_is_number (fun vs H Q E h => ?_) (fun cdv A outer s H vs Q E hr h => ?_)
  · obtain ⟨i, rfl, _⟩ := h
    rfl
  · obtain ⟨i, rfl, q⟩ := h
    have hu := hu_of hr
    have hu64 := hr.units
    refine ⟨_, PSs.nox (pss_one (ps_ret (pe_and (pe_callB call_isi (by rfl) z_isinstance PyProof.Rows.boot_isinstance (pa_cons (pv 0) (pa_cons (pe_bltn (v := .ty "int") rfl z_int (by decide +kernel) rfl) pa_nil))) (pe_one (pe_not (pe_callB call_isi (by rfl) z_isinstance PyProof.Rows.boot_isinstance (pa_cons (pv 0) (pa_cons (pe_bltn (v := .ty "bool") rfl z_bool (by decide +kernel) rfl) pa_nil)))))))), ?_⟩
    exact s_ret (D := { nx := fun _ H' => Q .non H', rt := Q }) (ev_is (ev_andV (ev_isi (T := "int") (ev_var rfl) (fun _ _ => .base (.int i)) kit_ii (.ty "int")) (fun _ => ev_notV (ev_isi (T := "int") (ev_var rfl) (fun _ _ => .base (.int i)) kit_ib (.ty "bool")))) rfl) fun H' e => q H' e
abbrev s_is_whole : Stmt := top 19
theorem sc_is_whole : FnScope ["thing", "least", "most"] ["thing", "least", "most"] (defScope s_is_whole) := ⟨rfl, rfl, rfl, by decide +kernel, rfl, by decide +kernel, by decide +kernel⟩
theorem ok_is_whole {f : Addr} {fd : FuncData} (F : FnP K "is_whole" s_is_whole f fd) {f_is_number : Addr} {fd_is_number : FuncData} (F_is_number : FnP K "is_number" s_is_number f_is_number fd_is_number) (g_is_number : mg "is_number" = some (.ref f_is_number)) (G_is_number : FnOk P w K mg base CX0 1 f_is_number fd_is_number ["thing"] spNumI) : FnOk P w K mg base CX0 2 f fd ["thing", "least", "most"] spWholeI := by
  have b_is_number : Binds K fd_is_number ["thing"] [] := F_is_number.bindsN fun _ _ _ _ _ _ us hl => match us, hl with | [_], _ => rfl
  refine F.ok sc_is_whole (fun vs H Q E h => ?_) (fun cdv A outer s H vs Q E hr h => ?_)
  · obtain ⟨i, a, b, rfl, _⟩ := h
    rfl
  · obtain ⟨i, a, b, rfl, q⟩ := h
    have hu := hu_of hr
    have hu64 := hr.units
    have hr_is_number := hr.mono (by decide : 1 ≤ 1)
    refine ⟨_, PSs.nox (pss_one (ps_ret (pe_and (pe_call G_is_number hr_is_number rfl g_is_number F_is_number.kp b_is_number .nil pass0 (pa_cons (pv 0) pa_nil)) (pe_one (pe_chain op_le op_le (pv 1) (pv 0) (pv 2)))))), ?_⟩
    exact s_ret (D := { nx := fun _ H' => Q .non H', rt := Q }) (ev_is (ev_andV (ev_call (z := .bl true) (ea_cons (ev_var rfl) ea_nil) fun H1 e1 Q' q' E' => ⟨i, rfl, fun H2 e2 => q' H2 e2⟩) (fun _ => ev_chainLe (ev_var rfl) (ev_var rfl) (ev_var rfl))) rfl) fun H' e => q H' e
abbrev s__is_row : Stmt := top 71
theorem sc__is_row : FnScope ["thing", "size", "place"] ["thing", "size"] (defScope s__is_row) := ⟨rfl, rfl, rfl, by decide +kernel, rfl, by decide +kernel, by decide +kernel⟩
theorem ok__is_row {f : Addr} {fd : FuncData} (F : FnP K "_is_row" s__is_row f fd) {f_is_whole : Addr} {fd_is_whole : FuncData} (F_is_whole : FnP K "is_whole" s_is_whole f_is_whole fd_is_whole) (g_is_whole : mg "is_whole" = some (.ref f_is_whole)) (G_is_whole : FnOk P w K mg base CX0 2 f_is_whole fd_is_whole ["thing", "least", "most"] spWholeI) (z_isinstance : mg "isinstance" = none) (z_tuple : mg "tuple" = none) (z_len : mg "len" = none) (z_all : mg "all" = none) : FnOk P w K mg base CX0 3 f fd ["thing", "size"] spRowOk := by
  have b_is_whole : Binds K fd_is_whole ["thing", "least", "most"] [] := F_is_whole.bindsN fun _ _ _ _ _ _ us hl => match us, hl with | [_, _, _], _ => rfl
  refine F.ok sc__is_row (fun vs H Q E h => ?_) (fun cdv A outer s H vs Q E hr h => ?_)
  · obtain ⟨r, n, row, rfl, _⟩ := h
    rfl
  · obtain ⟨r, n, row, rfl, hr0, hl, q⟩ := h
    have hu := hu_of hr
    have hu64 := hr.units
    have hr_is_whole := hr.mono (by decide : 2 ≤ 2)
    refine ⟨_, PSs.nox (pss_cons (ps_if (PW.pt (pw_or (pt_not (pt_val (pe_callB call_isi (by rfl) z_isinstance PyProof.Rows.boot_isinstance (pa_cons (pv 0) (pa_cons (pe_bltn (v := .ty "tuple") rfl z_tuple (by decide +kernel) rfl) pa_nil))))) (pw_or1 (pt_cmpR op_ne (pe_callB call_len_seq (by rfl) z_len PySem.boot_len (pa_cons (pv 0) pa_nil)) (pv 1) (nomark _))))) (pss_one (ps_ret pe_bl)) pss_nil)
      (pss_one (ps_ret (pe_callB (cr_all rfl) (by rfl) z_all PyProof.Rows.boot_all (pa_cons (pe_lc (own := [("place", 2)]) (g := gName 2) (tt := tYes) (by rfl) sc__is_row.nd (pi_tup (pv 0)) (blkOk_by (own := [("place", 2)]) (N := ["thing", "size", "place"]) (sc := defScope s__is_row) (by decide +kernel)) (fun _ _ _ _ _ => pg_name (i := 2) sc__is_row.nd rfl (Or.inl rfl)) (fun _ _ _ _ _ => pts_nil) (fun _ _ _ _ _ => pe_call G_is_whole hr_is_whole rfl g_is_whole F_is_whole.kp b_is_whole .nil pass0 (pa_cons (pv 2) (pa_cons pe_int (pa_cons (pe_op op_sub (pv 1) pe_int) pa_nil))))) pa_nil))))), ?_⟩
    have hS : SqT K H r (row.map V.int) := .inl (.inl hr0)
    refine q_when (b := !decide (row.length = n)) (et_is (et_or (et_not (et_B (ev_isi (T := "tuple") (ev_var rfl) (tup_ty hr0) kit_tt (.ty "tuple")))) (fun _ => et_test (ev_neI (ev_lenT (ev_var rfl) hS) (ev_var rfl)))) ?_) (fun hb H1 e1 => ?_) (fun hb H1 e1 => ?_)
    · rw [List.length_map]
      show (false || !((row.length : Int) == (n : Int))) = _
      by_cases h : row.length = n
      · rw [decide_eq_true h, h]
        simp
      · rw [decide_eq_false h]
        have : ((row.length : Int) == (n : Int)) = false := by
          rw [beq_eq_false_iff_ne]
          omega
        rw [this]
        rfl
    · refine s_ret ev_c fun H2 e2 => ?_
      have e : rowOk n row = false := by
        unfold rowOk
        have : decide (row.length = n) = false := by simpa using hb
        rw [this, Bool.false_and]
      rw [e] at q
      exact q H2 (e1.trans e2)
    · refine s_ret (ev_allT (j := 2) (vs := [2]) (fun i => within 0 ((n : Int) - 1) (row.getD i 0)) (ev_var rfl) (ex_t e1 hS) (by rw [List.length_map]; omega) (fun x => rfl) ?_) ?_
      · intro i x H2 _ hx
        obtain rfl := int_at hx
        exact ev_call (ea_cons (ev_var rfl) (ea_cons ev_c (ea_cons (ev_op (ev_var rfl) ev_c rv_I0) ea_nil))) fun H3 e3 Q' q' E' => ⟨_, _, _, rfl, fun H4 e4 => q' H4 e4⟩
      · intro H2 e2
        have e : rowOk n row = (List.range (row.map V.int).length).all fun i => within 0 ((n : Int) - 1) (row.getD i 0) := by
          unfold rowOk
          have : decide (row.length = n) = true := by simpa using hb
          rw [this, Bool.true_and, List.length_map, all_rangeD]
        rw [← e]
        exact q H2 (e1.trans e2)
abbrev s__is_table : Stmt := top 70
theorem sc__is_table : FnScope ["thing", "size", "row"] ["thing", "size"] (defScope s__is_table) := ⟨rfl, rfl, rfl, by decide +kernel, rfl, by decide +kernel, by decide +kernel⟩
theorem ok__is_table {f : Addr} {fd : FuncData} (F : FnP K "_is_table" s__is_table f fd) {f__is_row : Addr} {fd__is_row : FuncData} (F__is_row : FnP K "_is_row" s__is_row f__is_row fd__is_row) (g__is_row : mg "_is_row" = some (.ref f__is_row)) (G__is_row : FnOk P w K mg base CX0 3 f__is_row fd__is_row ["thing", "size"] spRowOk) (z_isinstance : mg "isinstance" = none) (z_tuple : mg "tuple" = none) (z_len : mg "len" = none) (z_all : mg "all" = none) : FnOk P w K mg base CX0 4 f fd ["thing", "size"] spTabOk := by
  have b__is_row : Binds K fd__is_row ["thing", "size"] [] := F__is_row.bindsN fun _ _ _ _ _ _ us hl => match us, hl with | [_, _], _ => rfl
  refine F.ok sc__is_table (fun vs H Q E h => ?_) (fun cdv A outer s H vs Q E hr h => ?_)
  · obtain ⟨p, n, t, rfl, _⟩ := h
    rfl
  · obtain ⟨p, n, t, rfl, hT, hl, hll, q⟩ := h
    have hu := hu_of hr
    have hu64 := hr.units
    have hr__is_row := hr.mono (by decide : 3 ≤ 3)
    refine ⟨_, PSs.nox (pss_cons (ps_if (PW.pt (pw_or (pt_not (pt_val (pe_callB call_isi (by rfl) z_isinstance PyProof.Rows.boot_isinstance (pa_cons (pv 0) (pa_cons (pe_bltn (v := .ty "tuple") rfl z_tuple (by decide +kernel) rfl) pa_nil))))) (pw_or1 (pt_cmpR op_ne (pe_callB call_len_seq (by rfl) z_len PySem.boot_len (pa_cons (pv 0) pa_nil)) (pv 1) (nomark _))))) (pss_one (ps_ret pe_bl)) pss_nil)
      (pss_one (ps_ret (pe_callB (cr_all rfl) (by rfl) z_all PyProof.Rows.boot_all (pa_cons (pe_lc (own := [("row", 2)]) (g := gName 2) (tt := tYes) (by rfl) sc__is_table.nd (pi_tup (pv 0)) (blkOk_by (own := [("row", 2)]) (N := ["thing", "size", "row"]) (sc := defScope s__is_table) (by decide +kernel)) (fun _ _ _ _ _ => pg_name (i := 2) sc__is_table.nd rfl (Or.inl rfl)) (fun _ _ _ _ _ => pts_nil) (fun _ _ _ _ _ => pe_call G__is_row hr__is_row rfl g__is_row F__is_row.kp b__is_row .nil pass0 (pa_cons (pv 2) (pa_cons (pv 1) pa_nil)))) pa_nil))))), ?_⟩
    obtain ⟨rs, hp, hrl, hrr⟩ := id hT
    have hS : SqT K H p (rs.map V.ref) := .inl (.inl hp)
    refine q_when (b := !decide (t.length = n)) (et_is (et_or (et_not (et_B (ev_isi (T := "tuple") (ev_var rfl) (tup_ty hp) kit_tt (.ty "tuple")))) (fun _ => et_test (ev_neI (ev_lenT (ev_var rfl) hS) (ev_var rfl)))) ?_) (fun hb H1 e1 => ?_) (fun hb H1 e1 => ?_)
    · rw [List.length_map, hrl]
      show (false || !((t.length : Int) == (n : Int))) = _
      by_cases h : t.length = n
      · rw [decide_eq_true h, h]
        simp
      · rw [decide_eq_false h]
        have : ((t.length : Int) == (n : Int)) = false := by
          rw [beq_eq_false_iff_ne]
          omega
        rw [this]
        rfl
    · refine s_ret ev_c fun H2 e2 => ?_
      have e : tabOk n t = false := by
        unfold tabOk
        have : decide (t.length = n) = false := by simpa using hb
        rw [this, Bool.false_and]
      rw [e] at q
      exact q H2 (e1.trans e2)
    · refine s_ret (ev_allT (j := 2) (vs := [2]) (fun i => rowOk n (t.getD i [])) (ev_var rfl) (ex_t e1 hS) (by rw [List.length_map]; omega) (fun x => rfl) ?_) ?_
      · intro i x H2 e2 hx
        rw [List.getElem?_map] at hx
        obtain ⟨r, hr1, rfl⟩ := Option.map_eq_some_iff.mp hx
        have hi : i < t.length := by
          have := (List.getElem?_eq_some_iff.mp hr1).1
          omega
        have hrow := List.getElem?_eq_getElem hi
        have hg : t.getD i [] = t[i] := by
          rw [List.getD_eq_getElem?_getD, hrow]
          rfl
        rw [hg]
        have hm := hll t[i] (List.getElem_mem hi)
        have hat := hrr i r t[i] hr1 hrow
        exact ev_call (ea_cons (ev_var rfl) (ea_cons (ev_var rfl) ea_nil)) fun H3 e3 Q' q' E' => ⟨r, n, t[i], rfl, (e1.trans (e2.trans e3)) _ _ hat, hm, fun H4 e4 => q' H4 e4⟩
      · intro H2 e2
        have e : tabOk n t = (List.range (rs.map V.ref).length).all fun i => rowOk n (t.getD i []) := by
          unfold tabOk
          have : decide (t.length = n) = true := by simpa using hb
          rw [this, Bool.true_and, List.length_map, hrl, all_rangeD]
        rw [← e]
        exact q H2 (e1.trans e2)
structure ThingsK (K : PySem.W.Frag) (mg : Str → Option Value) (aT : Addr) : Prop where
  g : mg "_THINGS" = some (.ref aT)
  at_ : ∀ H, SqT K H aT [.int 2, .int 6]
abbrev s__are_tables : Stmt := top 69
theorem sc__are_tables : FnScope ["sums", "products"] ["sums", "products"] (defScope s__are_tables) := ⟨rfl, rfl, rfl, by decide +kernel, rfl, by decide +kernel, by decide +kernel⟩
theorem ok__are_tables {f : Addr} {fd : FuncData} (F : FnP K "_are_tables" s__are_tables f fd) {f_is_whole : Addr} {fd_is_whole : FuncData} (F_is_whole : FnP K "is_whole" s_is_whole f_is_whole fd_is_whole) (g_is_whole : mg "is_whole" = some (.ref f_is_whole)) (G_is_whole : FnOk P w K mg base CX0 2 f_is_whole fd_is_whole ["thing", "least", "most"] spWholeI) {f__is_table : Addr} {fd__is_table : FuncData} (F__is_table : FnP K "_is_table" s__is_table f__is_table fd__is_table) (g__is_table : mg "_is_table" = some (.ref f__is_table)) (G__is_table : FnOk P w K mg base CX0 4 f__is_table fd__is_table ["thing", "size"] spTabOk) {aT : Addr} (TH : ThingsK K mg aT) (z_isinstance : mg "isinstance" = none) (z_tuple : mg "tuple" = none) (z_len : mg "len" = none) : FnOk P w K mg base CX0 5 f fd ["sums", "products"] spTwoOk := by
  have b_is_whole : Binds K fd_is_whole ["thing", "least", "most"] [] := F_is_whole.bindsN fun _ _ _ _ _ _ us hl => match us, hl with | [_, _, _], _ => rfl
  have b__is_table : Binds K fd__is_table ["thing", "size"] [] := F__is_table.bindsN fun _ _ _ _ _ _ us hl => match us, hl with | [_, _], _ => rfl
  refine F.ok sc__are_tables (fun vs H Q E h => ?_) (fun cdv A outer s H vs Q E hr h => ?_)
  · obtain ⟨p, q, S, M, rfl, _⟩ := h
    rfl
  · obtain ⟨p, q', S, M, rfl, hS, hM, hl, q⟩ := h
    have hu := hu_of hr
    have hu64 := hr.units
    have hr_is_whole := hr.mono (by decide : 2 ≤ 4)
    have hr__is_table := hr.mono (by decide : 4 ≤ 4)
    refine ⟨_, PSs.nox (pss_cons (ps_if (PW.pt (pw_or (pt_not (pt_val (pe_callB call_isi (by rfl) z_isinstance PyProof.Rows.boot_isinstance (pa_cons (pv 0) (pa_cons (pe_bltn (v := .ty "tuple") rfl z_tuple (by decide +kernel) rfl) pa_nil))))) (pw_or1 (pt_not (pt_val (pe_call G_is_whole hr_is_whole rfl g_is_whole F_is_whole.kp b_is_whole .nil pass0 (pa_cons (pe_callB call_len_seq (by rfl) z_len PySem.boot_len (pa_cons (pv 0) pa_nil)) (pa_cons (pe_ix ix_tup (pe_glob (v := .ref aT) rfl TH.g rfl) pe_int (fun _ _ => rfl)) (pa_cons (pe_ix ix_tup (pe_glob (v := .ref aT) rfl TH.g rfl) pe_int (fun _ _ => rfl)) pa_nil))))))))) (pss_one (ps_ret pe_bl)) pss_nil)
      (pss_one (ps_ret (pe_and (pe_call G__is_table hr__is_table rfl g__is_table F__is_table.kp b__is_table .nil pass0 (pa_cons (pv 0) (pa_cons (pe_callB call_len_seq (by rfl) z_len PySem.boot_len (pa_cons (pv 0) pa_nil)) pa_nil))) (pe_one (pe_call G__is_table hr__is_table rfl g__is_table F__is_table.kp b__is_table .nil pass0 (pa_cons (pv 1) (pa_cons (pe_callB call_len_seq (by rfl) z_len PySem.boot_len (pa_cons (pv 0) pa_nil)) pa_nil)))))))), ?_⟩
    obtain ⟨rs, hp, hrl, hrr⟩ := id hS
    have hSq : SqT K H p (rs.map V.ref) := .inl (.inl hp)
    have hlen : ((rs.map V.ref).length : Int) = (S.length : Int) := by rw [List.length_map, hrl]
    refine q_when (b := !(decide (2 ≤ S.length) && decide (S.length ≤ 6))) (et_is (et_or (et_not (et_B (ev_isi (T := "tuple") (ev_var rfl) (tup_ty hp) kit_tt (.ty "tuple")))) (fun _ => et_not (et_B (ev_call (z := .bl (within 2 6 (S.length : Int))) (ea_cons (ev_lenT (ev_var rfl) hSq) (ea_cons (ev_op ev_c ev_c (rv_ixT (TH.at_ H) (v := .int 2) rfl)) (ea_cons (ev_op ev_c ev_c (rv_ixT (TH.at_ H) (v := .int 6) rfl)) ea_nil))) fun H1 e1 Q' q' E' => ⟨_, _, _, by rw [hlen]; rfl, fun H2 e2 => q' H2 e2⟩)))) ?_) (fun hb H1 e1 => ?_) (fun hb H1 e1 => ?_)
    · show (false || !within 2 6 (S.length : Int)) = _
      unfold within
      have h1 : decide ((2 : Int) ≤ (S.length : Int)) = decide (2 ≤ S.length) := by rw [decide_eq_decide]; omega
      have h2 : decide ((S.length : Int) ≤ 6) = decide (S.length ≤ 6) := by rw [decide_eq_decide]; omega
      rw [h1, h2, Bool.false_or]
    · refine s_ret ev_c fun H2 e2 => ?_
      have e : twoOk S M = false := by
        unfold twoOk
        have h1 : (decide (2 ≤ S.length) && decide (S.length ≤ 6)) = false := by rw [Bool.not_eq_true'] at hb; exact hb
        rw [h1, Bool.false_and]
      rw [e] at q
      exact q H2 (e1.trans e2)
    · have h1 : (decide (2 ≤ S.length) && decide (S.length ≤ 6)) = true := by rw [Bool.not_eq_false'] at hb; exact hb
      have e : twoOk S M = (tabOk S.length S && tabOk S.length M) := by
        unfold twoOk
        rw [h1, Bool.true_and]
      rw [e] at q
      have lS := hl S (.inl rfl)
      have lM := hl M (.inr rfl)
      refine s_ret (ev_andV (a := tabOk S.length S) (b := tabOk S.length M) (ev_call (ea_cons (ev_var rfl) (ea_cons (ev_lenT (ev_var rfl) (ex_t e1 hSq)) ea_nil)) fun H2 e2 Q' q' E' => ⟨p, S.length, S, by rw [hlen]; rfl, hS.ex (e1.trans e2), lS.1, lS.2, fun H3 e3 => q' H3 e3⟩) (fun _ => ev_call (ea_cons (ev_var rfl) (ea_cons (ev_lenT (ev_var rfl) (ex_t e1 hSq)) ea_nil)) fun H2 e2 Q' k' E' => ⟨q', S.length, M, by rw [hlen]; rfl, hM.ex (e1.trans e2), lM.1, lM.2, fun H3 e3 => k' H3 e3⟩)) fun H2 e2 => q H2 (e1.trans e2)
end
end D1
end
section
set_option Elab.async false
set_option linter.all false
set_option maxRecDepth 100000
set_option maxHeartbeats 4000000
/-! D10: tuples of which rings are made; the tables in them -/
namespace D1
open PySem L2 Evl RZ
/-- what the law hands in -/
inductive Mk where
  | tab (S M : Tb)
  | truth
  | rest (k : Int)
  | pair (a b : Mk)
def Mk.depth : Mk → Nat
  | .pair a b => max a.depth b.depth + 1
  | _ => 0
/-- as it lies -/
def MkAt (H : Hp) : V → Mk → Prop
  | v, .tab S M => ∃ a p q, v = .ref a ∧ H a = some (.tup [.str "table", .ref p, .ref q]) ∧ TabAt H p S ∧ TabAt H q M
  | v, .truth => ∃ a, v = .ref a ∧ H a = some (.tup [.str "truth"])
  | v, .rest k => ∃ a, v = .ref a ∧ H a = some (.tup [.str "rest", .int k])
  | v, .pair x y => ∃ a u u', v = .ref a ∧ H a = some (.tup [.str "pair", u, u']) ∧ MkAt H u x ∧ MkAt H u' y
theorem MkAt.ex {H H' : Hp} (e : Ex H H') : ∀ {m : Mk} {v : V}, MkAt H v m → MkAt H' v m
  | .tab S M, v, ⟨a, p, q, h1, h2, h3, h4⟩ => ⟨a, p, q, h1, e _ _ h2, h3.ex e, h4.ex e⟩
  | .truth, v, ⟨a, h1, h2⟩ => ⟨a, h1, e _ _ h2⟩
  | .rest k, v, ⟨a, h1, h2⟩ => ⟨a, h1, e _ _ h2⟩
  | .pair x y, v, ⟨a, u, u', h1, h2, h3, h4⟩ => ⟨a, u, u', h1, e _ _ h2, MkAt.ex e h3, MkAt.ex e h4⟩
/-- the tables, from the left -/
def Mk.tabs : Mk → List (Tb × Tb)
  | .tab S M => [(S, M)]
  | .pair a b => a.tabs ++ b.tabs
  | _ => []
/-- a list of pairs of tables as it lies -/
def PrsAt (H : Hp) (rs : List Addr) (ts : List (Tb × Tb)) : Prop := rs.length = ts.length ∧ ∀ (i : Nat) r t, rs[i]? = some r → ts[i]? = some t → ∃ p q, H r = some (.tup [.ref p, .ref q]) ∧ TabAt H p t.1 ∧ TabAt H q t.2
theorem PrsAt.ex {H H' : Hp} {rs : List Addr} {ts : List (Tb × Tb)} (h : PrsAt H rs ts) (e : Ex H H') : PrsAt H' rs ts := ⟨h.1, fun i r t a b => by
  obtain ⟨p, q, h1, h2, h3⟩ := h.2 i r t a b
  exact ⟨p, q, e _ _ h1, h2.ex e, h3.ex e⟩⟩
theorem PrsAt.append {H : Hp} {rs rs' : List Addr} {t t' : List (Tb × Tb)} (h : PrsAt H rs t) (h' : PrsAt H rs' t') : PrsAt H (rs ++ rs') (t ++ t') := by
  obtain ⟨h1, h2⟩ := h
  obtain ⟨h3, h4⟩ := h'
  refine ⟨by simp [h1, h3], fun i r row a b => ?_⟩
  by_cases hi : i < rs.length
  · rw [List.getElem?_append_left hi] at a
    rw [List.getElem?_append_left (by omega)] at b
    exact h2 i r row a b
  · rw [List.getElem?_append_right (by omega)] at a
    rw [List.getElem?_append_right (by omega), ← h1] at b
    exact h4 _ r row a b
theorem tabs_len : ∀ m : Mk, m.tabs.length ≤ 2 ^ m.depth
  | .tab S M => Nat.le_refl _
  | .truth => Nat.zero_le _
  | .rest k => Nat.zero_le _
  | .pair a b => by
    have h1 := tabs_len a
    have h2 := tabs_len b
    show (a.tabs ++ b.tabs).length ≤ 2 ^ (max a.depth b.depth + 1)
    have h3 : 2 ^ a.depth ≤ 2 ^ max a.depth b.depth := Nat.pow_le_pow_right (by decide) (Nat.le_max_left _ _)
    have h4 : 2 ^ b.depth ≤ 2 ^ max a.depth b.depth := Nat.pow_le_pow_right (by decide) (Nat.le_max_right _ _)
    rw [List.length_append, Nat.pow_succ]
    omega
def spTables (d : Nat) : Sp := fun vs H Q _ => ∃ (v : V) (m : Mk), vs = [v] ∧ MkAt H v m ∧ m.depth < d ∧ ∀ (D : Addr) (rs : List Addr) H', Ex H H' → H D = none → H' D = some (.lst (rs.map V.ref)) → PrsAt H' rs m.tabs → Q (.ref D) H'
section
variable {P : Program} {w : World} {K : PySem.W.Frag} {mg : Str → Option Value} {base : Heap}
abbrev s__tables : Stmt := top 72
theorem sc__tables : FnScope ["made"] ["made"] (defScope s__tables) := ⟨rfl, rfl, rfl, by decide +kernel, rfl, by decide +kernel, by decide +kernel⟩
theorem ok__tables {f : Addr} {fd : FuncData} (F : FnP K "_tables" s__tables f fd) (g__tables : mg "_tables" = some (.ref f)) : ∀ d : Nat, d ≤ 10 → FnOk P w K mg base CX0 d f fd ["made"] (spTables d) := by
  have F__tables := F
  have b__tables : Binds K fd ["made"] [] := F.bindsN fun _ _ _ _ _ _ us hl => match us, hl with | [_], _ => rfl
  intro d
  induction d with
  | zero =>
    intro _
    refine ⟨fun vs H Q E h => ?_, fun A outer s H args us vs Q E hr e0 hb r h => ?_⟩
    · obtain ⟨v, m, _, _, h, _⟩ := h
      exact absurd h (Nat.not_lt_zero _)
    · obtain ⟨v, m, _, _, h, _⟩ := h
      exact absurd h (Nat.not_lt_zero _)
  | succ d ih =>
    intro hd
    have G__tables := ih (by omega)
    refine F.ok sc__tables (fun vs H Q E h => ?_) (fun cdv A outer s H vs Q E hr h => ?_)
    · obtain ⟨v, m, rfl, _⟩ := h
      rfl
    · obtain ⟨v, m, rfl, hM, hdep, q⟩ := h
      have hr__tables := hr
      refine ⟨_, PSs.nox (pss_cons (ps_if (pt_cmpR op_eq (pe_ix ix_tup (pv 0) pe_int (fun _ _ => rfl)) pe_str (nomark _)) (pss_one (ps_ret (pe_lst (pa_cons (pe_tup (pa_cons (pe_ix ix_tup (pv 0) pe_int (fun _ _ => rfl)) (pa_cons (pe_ix ix_tup (pv 0) pe_int (fun _ _ => rfl)) pa_nil))) pa_nil)))) pss_nil)
      (pss_cons (ps_if (pt_cmpR op_eq (pe_ix ix_tup (pv 0) pe_int (fun _ _ => rfl)) pe_str (nomark _)) (pss_one (ps_ret (pe_lst (StX.pa_star (pe_call G__tables hr__tables rfl g__tables F__tables.kp b__tables .nil pass0 (pa_cons (pe_ix ix_tup (pv 0) pe_int (fun _ _ => rfl)) pa_nil)) (StX.pa_star (pe_call G__tables hr__tables rfl g__tables F__tables.kp b__tables .nil pass0 (pa_cons (pe_ix ix_tup (pv 0) pe_int (fun _ _ => rfl)) pa_nil)) pa_nil))))) pss_nil)
      (pss_one (ps_ret (pe_lst pa_nil))))), ?_⟩
      cases m with
      | tab S M =>
        obtain ⟨a, p, q', rfl, ha, hS, hT⟩ := hM
        refine ⟨_, rfl, a, _, _, _, rfl, rfl, .inl (.inl ha), rfl, rfl, _, rfl, yes_of (by first | rfl | (rw [dec_str]; rfl)) ?_⟩
        refine ⟨_, rfl, a, _, _, _, rfl, rfl, .inl (.inl ha), rfl, _, rfl, a, _, _, _, rfl, rfl, .inl (.inl ha), rfl, by show 2 ≤ sizeLine; decide, fun r hr0 => ⟨by show 1 ≤ sizeLine; decide, fun D hD => ?_⟩⟩
        have e1 := (Ex.new (o := .tup [.ref p, .ref q']) hr0).trans (Ex.new (o := .lst [.ref r]) hD)
        refine q D [r] _ e1 (fresh_back (Ex.new hr0) hD) upd_same ⟨rfl, fun i r' t h1 h2 => ?_⟩
        match i, h1, h2 with
        | 0, h1, h2 =>
          cases h1
          cases h2
          exact ⟨p, q', (Ex.new (o := .lst [.ref r]) hD) _ _ upd_same, hS.ex e1, hT.ex e1⟩
        | i + 1, h1, _ => simp at h1
      | truth =>
        obtain ⟨a, rfl, ha⟩ := hM
        refine ⟨_, rfl, a, _, _, _, rfl, rfl, .inl (.inl ha), rfl, rfl, _, rfl, no_of (by first | rfl | (rw [dec_str]; rfl)) ?_⟩
        refine ⟨_, rfl, a, _, _, _, rfl, rfl, .inl (.inl ha), rfl, rfl, _, rfl, no_of (by first | rfl | (rw [dec_str]; rfl)) ?_⟩
        exact ⟨Nat.zero_le _, fun D hD => q D [] _ (Ex.new hD) hD upd_same ⟨rfl, fun i r t h1 _ => by simp at h1⟩⟩
      | rest k =>
        obtain ⟨a, rfl, ha⟩ := hM
        refine ⟨_, rfl, a, _, _, _, rfl, rfl, .inl (.inl ha), rfl, rfl, _, rfl, no_of (by first | rfl | (rw [dec_str]; rfl)) ?_⟩
        refine ⟨_, rfl, a, _, _, _, rfl, rfl, .inl (.inl ha), rfl, rfl, _, rfl, no_of (by first | rfl | (rw [dec_str]; rfl)) ?_⟩
        exact ⟨Nat.zero_le _, fun D hD => q D [] _ (Ex.new hD) hD upd_same ⟨rfl, fun i r t h1 _ => by simp at h1⟩⟩
      | pair x y =>
        obtain ⟨a, u, u', rfl, ha, hx, hy⟩ := hM
        have hdep2 : max x.depth y.depth + 1 < d + 1 := hdep
        have lx := tabs_len x
        have ly := tabs_len y
        have px : 2 ^ x.depth ≤ 2 ^ 10 := Nat.pow_le_pow_right (by decide) (by omega)
        have py : 2 ^ y.depth ≤ 2 ^ 10 := Nat.pow_le_pow_right (by decide) (by omega)
        have p10 : (2 : Nat) ^ 10 = 1024 := by decide
        refine ⟨_, rfl, a, _, _, _, rfl, rfl, .inl (.inl ha), rfl, rfl, _, rfl, no_of (by first | rfl | (rw [dec_str]; rfl)) ?_⟩
        refine ⟨_, rfl, a, _, _, _, rfl, rfl, .inl (.inl ha), rfl, rfl, _, rfl, yes_of (by first | rfl | (rw [dec_str]; rfl)) ?_⟩
        refine ⟨_, rfl, a, _, _, _, rfl, rfl, .inl (.inl ha), rfl, u, x, rfl, hx, by omega, fun D1 rs1 H1 e1 hD1 hL1 hP1 => ⟨D1, _, rfl, .inr (SqL.of hL1), ?_⟩⟩
        have ha1 := e1 _ _ ha
        refine ⟨_, rfl, a, _, _, _, rfl, rfl, .inl (.inl ha1), rfl, u', y, rfl, hy.ex e1, by omega, fun D2 rs2 H2 e2 hD2 hL2 hP2 => ⟨D2, _, rfl, .inr (SqL.of hL2), ?_⟩⟩
        refine ⟨?_, fun D hD => ?_⟩
        · refine Nat.le_trans ?_ (by decide : 4096 ≤ sizeLine)
          rw [List.append_nil, List.length_append, List.length_map, List.length_map, hP1.1, hP2.1]
          omega
        · have e3 := (e1.trans e2).trans (Ex.new (o := .lst ((rs1 ++ rs2).map V.ref)) hD)
          have eq : rs1.map V.ref ++ (rs2.map V.ref ++ []) = (rs1 ++ rs2).map V.ref := by rw [List.append_nil, List.map_append]
          rw [eq]
          exact q D (rs1 ++ rs2) _ e3 (fresh_back (e1.trans e2) hD) upd_same (PrsAt.append ((hP1.ex e2).ex (Ex.new hD)) (hP2.ex (Ex.new hD)))
end
end D1
end
section
set_option Elab.async false
set_option linter.all false
set_option maxRecDepth 100000
set_option maxHeartbeats 4000000
/-! D11: whether a tuple has a ring's form -/
namespace D1
open PySem L2 Evl RZ
def Mk.name : Mk → Str
  | .tab _ _ => "table" | .truth => "truth" | .rest _ => "rest" | .pair _ _ => "pair"
/-- of a length that may be listed -/
def Mk.small : Mk → Prop
  | .tab S M => ∀ t, t = S ∨ t = M → t.length ≤ 40000 ∧ ∀ row ∈ t, row.length ≤ 40000
  | .pair a b => a.small ∧ b.small
  | _ => True
def formB : Mk → Nat → Bool
  | .tab S M, _ => twoOk S M
  | .truth, _ => true
  | .rest k, _ => within 2 1000 k
  | .pair _ _, 0 => false
  | .pair x y, k + 1 => formB x k && formB y k
structure SizesK (K : PySem.W.Frag) (w : World) (mg : Str → Option Value) (d : Addr) (es : Array DictEntry) (n : Nat) (a2 : Addr) : Prop where
  g : mg "_SIZES" = some (.ref d)
  D : KDict K w d es n
  tab : PySem.W.nsIn K d "table" = some none
  pair : PySem.W.nsIn K d "pair" = some none
  truth : PySem.W.nsIn K d "truth" = some none
  rest : PySem.W.nsIn K d "rest" = some (some (.ref a2))
  two : ∀ H, SqT K H a2 [.int 2, .int 1000]
structure BareK (K : PySem.W.Frag) (mg : Str → Option Value) (aB : Addr) : Prop where
  g : mg "_BARE" = some (.ref aB)
  at_ : ∀ H, SqT K H aB [.str "truth", .str "count", .str "least", .str "most", .str "narrow", .str "share"]
theorem ev_eqS {σ : L2.St} {H : Hp} {ta tb : TE} {x y : Str} (ha : Ev ta σ H (.str x)) (hb : Ev tb σ H (.str y)) : Ev (tOp rEq ta tb) σ H (.bl (x == y)) := by
  have h := ev_op ha hb (rv_eq (x := .str x) (y := .str y) rfl)
  rw [dec_str] at h
  exact h
theorem ev_gtI {σ : L2.St} {H : Hp} {ta tb : TE} {x y : Int} (ha : Ev ta σ H (.int x)) (hb : Ev tb σ H (.int y)) : Ev (tOp (rI0 fun i j => .bl (decide (j < i))) ta tb) σ H (.bl (decide (y < x))) := ev_op ha hb rv_I0
def spForm (d : Nat) : Sp := fun vs H Q _ => ∃ (v : V) (m : Mk) (k : Nat), vs = [v, .int k] ∧ MkAt H v m ∧ m.depth < d ∧ m.small ∧ ∀ H', Ex H H' → Q (.bl (formB m k)) H'
section
variable {P : Program} {w : World} {K : PySem.W.Frag} {mg : Str → Option Value} {base : Heap}
abbrev s__has_form : Stmt := top 68
theorem sc__has_form : FnScope ["made", "deep", "name", "least", "most"] ["made", "deep"] (defScope s__has_form) := ⟨rfl, rfl, rfl, by decide +kernel, rfl, by decide +kernel, by decide +kernel⟩
theorem ok__has_form {f : Addr} {fd : FuncData} (F : FnP K "_has_form" s__has_form f fd) (g__has_form : mg "_has_form" = some (.ref f)) {f_is_whole : Addr} {fd_is_whole : FuncData} (F_is_whole : FnP K "is_whole" s_is_whole f_is_whole fd_is_whole) (g_is_whole : mg "is_whole" = some (.ref f_is_whole)) (G_is_whole : FnOk P w K mg base CX0 2 f_is_whole fd_is_whole ["thing", "least", "most"] spWholeI) {f__are_tables : Addr} {fd__are_tables : FuncData} (F__are_tables : FnP K "_are_tables" s__are_tables f__are_tables fd__are_tables) (g__are_tables : mg "_are_tables" = some (.ref f__are_tables)) (G__are_tables : FnOk P w K mg base CX0 5 f__are_tables fd__are_tables ["sums", "products"] spTwoOk) {dS aS2 aB : Addr} {es : Array DictEntry} {nS : Nat} (SZ : SizesK K w mg dS es nS aS2) (BA : BareK K mg aB) (z_isinstance : mg "isinstance" = none) (z_tuple : mg "tuple" = none) (z_len : mg "len" = none) (z_str : mg "str" = none) : ∀ d : Nat, FnOk P w K mg base CX0 (d + 5) f fd ["made", "deep"] (spForm d) := by
  have F__has_form := F
  have b__has_form : Binds K fd ["made", "deep"] [] := F.bindsN fun _ _ _ _ _ _ us hl => match us, hl with | [_, _], _ => rfl
  have b_is_whole : Binds K fd_is_whole ["thing", "least", "most"] [] := F_is_whole.bindsN fun _ _ _ _ _ _ us hl => match us, hl with | [_, _, _], _ => rfl
  have b__are_tables : Binds K fd__are_tables ["sums", "products"] [] := F__are_tables.bindsN fun _ _ _ _ _ _ us hl => match us, hl with | [_, _], _ => rfl
  intro d
  induction d with
  | zero =>
    refine ⟨fun vs H Q E h => ?_, fun A outer s H args us vs Q E hr e0 hb r h => ?_⟩
    · obtain ⟨v, m, k, _, _, h, _⟩ := h
      exact absurd h (Nat.not_lt_zero _)
    · obtain ⟨v, m, k, _, _, h, _⟩ := h
      exact absurd h (Nat.not_lt_zero _)
  | succ d ih =>
    have G__has_form := ih
    refine F.ok sc__has_form (fun vs H Q E h => ?_) (fun cdv A outer s H vs Q E hr h => ?_)
    · obtain ⟨v, m, k, rfl, _⟩ := h
      rfl
    · obtain ⟨v, m, k, rfl, hM, hdep, hsm, q⟩ := h
      have hu := hu_of hr
      have hr__has_form := hr
      have hr_is_whole := hr.mono (by omega : 2 ≤ d + 5)
      have hr__are_tables := hr.mono (by omega : 5 ≤ d + 5)
      refine ⟨_, PSs.nox (pss_cons (ps_if (PW.pt (pw_or (pt_not (pt_val (pe_callB call_isi (by rfl) z_isinstance PyProof.Rows.boot_isinstance (pa_cons (pv 0) (pa_cons (pe_bltn (v := .ty "tuple") rfl z_tuple (by decide +kernel) rfl) pa_nil))))) (pw_or (pt_cmpR op_eq (pe_callB call_len_seq (by rfl) z_len PySem.boot_len (pa_cons (pv 0) pa_nil)) pe_int (nomark _)) (pw_or1 (pt_not (pt_val (pe_callB call_isi (by rfl) z_isinstance PyProof.Rows.boot_isinstance (pa_cons (pe_ix ix_tup (pv 0) pe_int (fun _ _ => rfl)) (pa_cons (pe_bltn (v := .ty "str") rfl z_str (by decide +kernel) rfl) pa_nil))))))))) (pss_one (ps_ret pe_bl)) pss_nil)
      (pss_cons (ps_set (i := 2) sc__has_form.nd rfl (Or.inl rfl) (pe_ix ix_tup (pv 0) pe_int (fun _ _ => rfl)))
      (pss_cons (ps_if (pt_cmpR (op_in_kd SZ.D) (pv 2) (pe_glob (v := .ref dS) rfl SZ.g rfl) (by rfl)) (pss_cons (ps_asg (pe_ix ix_kdict (pe_glob (v := .ref dS) rfl SZ.g rfl) (pv 2) (fun _ _ => rfl)) (pg_tup rfl (pgs_cons (pg_name (i := 3) sc__has_form.nd rfl (Or.inl rfl)) (pgs_cons (pg_name (i := 4) sc__has_form.nd rfl (Or.inl rfl)) pgs_nil))))
      (pss_one (ps_ret (pe_and (pe_cmpR op_eq (pe_callB call_len_seq (by rfl) z_len PySem.boot_len (pa_cons (pv 0) pa_nil)) pe_int (nomark _)) (pe_one (pe_call G_is_whole hr_is_whole rfl g_is_whole F_is_whole.kp b_is_whole .nil pass0 (pa_cons (pe_ix ix_tup (pv 0) pe_int (fun _ _ => rfl)) (pa_cons (pv 3) (pa_cons (pv 4) pa_nil))))))))) pss_nil)
      (pss_cons (ps_if (PW.pt (pw_and (pt_cmpR op_eq (pe_callB call_len_seq (by rfl) z_len PySem.boot_len (pa_cons (pv 0) pa_nil)) pe_int (nomark _)) (pw_and1 (pt_cmpR op_eq (pv 2) pe_str (nomark _))))) (pss_one (ps_ret (pe_call G__are_tables hr__are_tables rfl g__are_tables F__are_tables.kp b__are_tables .nil pass0 (pa_cons (pe_ix ix_tup (pv 0) pe_int (fun _ _ => rfl)) (pa_cons (pe_ix ix_tup (pv 0) pe_int (fun _ _ => rfl)) pa_nil))))) pss_nil)
      (pss_cons (ps_if (PW.pt (pw_and (pt_cmpR op_eq (pe_callB call_len_seq (by rfl) z_len PySem.boot_len (pa_cons (pv 0) pa_nil)) pe_int (nomark _)) (pw_and1 (pt_cmpR op_eq (pv 2) pe_str (nomark _))))) (pss_one (ps_ret (pe_and (pe_cmpR op_gt (pv 1) pe_int (nomark _)) (pe_and (pe_call G__has_form hr__has_form rfl g__has_form F__has_form.kp b__has_form .nil pass0 (pa_cons (pe_ix ix_tup (pv 0) pe_int (fun _ _ => rfl)) (pa_cons (pe_op op_sub (pv 1) pe_int) pa_nil))) (pe_one (pe_call G__has_form hr__has_form rfl g__has_form F__has_form.kp b__has_form .nil pass0 (pa_cons (pe_ix ix_tup (pv 0) pe_int (fun _ _ => rfl)) (pa_cons (pe_op op_sub (pv 1) pe_int) pa_nil)))))))) pss_nil)
      (pss_one (ps_ret (pe_and (pe_cmpR op_eq (pe_callB call_len_seq (by rfl) z_len PySem.boot_len (pa_cons (pv 0) pa_nil)) pe_int (nomark _)) (pe_one (pe_cmpR op_in_seq (pv 2) (pe_glob (v := .ref aB) rfl BA.g rfl) (by rfl))))))))))), ?_⟩
      obtain ⟨a, xs, rfl, ha, hnm⟩ : ∃ (a : Addr) (xs : List V), v = .ref a ∧ H a = some (.tup (.str m.name :: xs)) ∧ True := by
        cases m with
        | tab S M =>
          obtain ⟨a, p, q', rfl, ha, _⟩ := hM
          exact ⟨a, _, rfl, ha, trivial⟩
        | truth =>
          obtain ⟨a, rfl, ha⟩ := hM
          exact ⟨a, _, rfl, ha, trivial⟩
        | rest k =>
          obtain ⟨a, rfl, ha⟩ := hM
          exact ⟨a, _, rfl, ha, trivial⟩
        | pair x y =>
          obtain ⟨a, u, u', rfl, ha, _⟩ := hM
          exact ⟨a, _, rfl, ha, trivial⟩
      have hS : SqT K H a (.str m.name :: xs) := .inl (.inl ha)
      refine q_when (b := false) (et_is (et_or (et_not (et_B (ev_isi (T := "tuple") (ev_var rfl) (tup_ty ha) kit_tt (.ty "tuple")))) (fun _ => et_or (a := false) (et_is (et_test (ev_eqI (ev_lenT (ev_var rfl) hS) ev_c)) ?_) (fun _ => et_not (et_B (ev_isi (T := "str") (ev_op (ev_var rfl) ev_c (rv_ixT hS (v := .str m.name) (atI_of (Int.le_refl 0) rfl))) (fun H1 _ => .base (.str _)) kit_ss (.ty "str")))))) rfl) (fun hb => (by cases hb)) (fun _ H1 e1 => ?_)
      · rw [beq_eq_false_iff_ne]
        show ((xs.length + 1 : Nat) : Int) ≠ 0
        omega
      refine q_asg (ev_op (ev_var rfl) ev_c (rv_ixT (ex_t e1 hS) (v := .str m.name) (atI_of (Int.le_refl 0) rfl))) fun H2 e2 => ?_
      have e3 := e1.trans e2
      have hS2 := ex_t e3 hS
      cases m with
      | tab S M =>
        obtain ⟨a', p, q', e, ha', hT1, hT2⟩ := hM
        cases e
        obtain rfl : xs = [.ref p, .ref q'] := by
          have := ha.symm.trans ha'
          cases this
          rfl
        refine q_when (b := false) (et_test (ev_op (ev_var rfl) ev_c fun H3 _ Q' k => ⟨_, none, rfl, rfl, SZ.tab, k H3 (Ex.refl H3)⟩)) (fun hb => (by cases hb)) (fun _ H3 e4 => ?_)
        refine q_when (b := true) (et_is (et_and (a := true) (b := true) (et_is (et_test (ev_eqI (ev_lenT (ev_var rfl) (ex_t e4 hS2)) ev_c)) rfl) (fun _ => et_is (et_test (ev_eqS (ev_var rfl) ev_c)) rfl)) rfl) (fun _ H4 e5 => ?_) (fun hb => (by cases hb))
        have e6 := (e3.trans e4).trans e5
        refine s_ret (ev_call (z := .bl (twoOk S M)) (ea_cons (ev_op (ev_var rfl) ev_c (rv_ixT (ex_t e6 hS) (v := .ref p) rfl)) (ea_cons (ev_op (ev_var rfl) ev_c (rv_ixT (ex_t e6 hS) (v := .ref q') rfl)) ea_nil)) fun H5 e7 Q' k' E' => ⟨p, q', S, M, rfl, hT1.ex (e6.trans e7), hT2.ex (e6.trans e7), hsm, fun H6 e8 => k' H6 e8⟩) fun H5 e7 => q H5 (e6.trans e7)
      | truth =>
        obtain ⟨a', e, ha'⟩ := hM
        cases e
        obtain rfl : xs = [] := by
          have := ha.symm.trans ha'
          cases this
          rfl
        refine q_when (b := false) (et_test (ev_op (ev_var rfl) ev_c fun H3 _ Q' k => ⟨_, none, rfl, rfl, SZ.truth, k H3 (Ex.refl H3)⟩)) (fun hb => (by cases hb)) (fun _ H3 e4 => ?_)
        refine q_when (b := false) (et_is (et_and (a := false) (b := false) (et_is (et_test (ev_eqI (ev_lenT (ev_var rfl) (ex_t (e3.trans e4) hS)) ev_c)) rfl) (fun hb => (by cases hb))) rfl) (fun hb => (by cases hb)) (fun _ H4 e5 => ?_)
        refine q_when (b := false) (et_is (et_and (a := false) (b := false) (et_is (et_test (ev_eqI (ev_lenT (ev_var rfl) (ex_t ((e3.trans e4).trans e5) hS)) ev_c)) rfl) (fun hb => (by cases hb))) rfl) (fun hb => (by cases hb)) (fun _ H5 e6 => ?_)
        have e7 := ((e3.trans e4).trans e5).trans e6
        refine s_ret (ev_andV (a := true) (b := true) (ev_is (ev_eqI (ev_lenT (ev_var rfl) (ex_t e7 hS)) ev_c) rfl) (fun _ => ev_is (ev_op (ev_var rfl) ev_c (rv_inT (BA.at_ H5) rfl rfl)) rfl)) fun H6 e8 => q H6 (e7.trans e8)
      | rest i =>
        obtain ⟨a', e, ha'⟩ := hM
        cases e
        obtain rfl : xs = [.int i] := by
          have := ha.symm.trans ha'
          cases this
          rfl
        refine q_when (b := true) (et_test (ev_op (ev_var rfl) ev_c fun H3 _ Q' k => ⟨_, some (.ref aS2), rfl, rfl, SZ.rest, k H3 (Ex.refl H3)⟩)) (fun _ H3 e4 => ?_) (fun hb => (by cases hb))
        refine ⟨_, rfl, dS, _, .ref aS2, rfl, rfl, ⟨es, nS, .ref aS2, SZ.D.at_, SZ.D.lit, SZ.rest, rfl⟩, aS2, _, rfl, SZ.two _, rfl, _, _, rfl, _, _, rfl, rfl, ?_⟩
        have e7 := e3.trans e4
        refine s_ret (ev_andV (a := true) (b := within 2 1000 i) (ev_is (ev_eqI (ev_lenT (ev_var rfl) (ex_t e7 hS)) ev_c) rfl) (fun _ => ev_call (ea_cons (ev_op (ev_var rfl) ev_c (rv_ixT (ex_t e7 hS) (v := .int i) rfl)) (ea_cons (ev_var rfl) (ea_cons (ev_var rfl) ea_nil))) fun H5 e8 Q' k' E' => ⟨_, _, _, rfl, fun H6 e9 => k' H6 e9⟩)) fun H6 e8 => q H6 (e7.trans e8)
      | pair x y =>
        obtain ⟨a', u, u', e, ha', hx, hy⟩ := hM
        cases e
        obtain rfl : xs = [u, u'] := by
          have := ha.symm.trans ha'
          cases this
          rfl
        have hdep2 : max x.depth y.depth + 1 < d + 1 := hdep
        have sx : x.small := hsm.1
        have sy : y.small := hsm.2
        refine q_when (b := false) (et_test (ev_op (ev_var rfl) ev_c fun H3 _ Q' k => ⟨_, none, rfl, rfl, SZ.pair, k H3 (Ex.refl H3)⟩)) (fun hb => (by cases hb)) (fun _ H3 e4 => ?_)
        refine q_when (b := false) (et_is (et_and (a := true) (b := false) (et_is (et_test (ev_eqI (ev_lenT (ev_var rfl) (ex_t e4 hS2)) ev_c)) rfl) (fun _ => et_is (et_test (ev_eqS (ev_var rfl) ev_c)) rfl)) rfl) (fun hb => (by cases hb)) (fun _ H4 e5 => ?_)
        have e6 := (e3.trans e4).trans e5
        refine q_when (b := true) (et_is (et_and (a := true) (b := true) (et_is (et_test (ev_eqI (ev_lenT (ev_var rfl) (ex_t e6 hS)) ev_c)) rfl) (fun _ => et_is (et_test (ev_eqS (ev_var rfl) ev_c)) rfl)) rfl) (fun _ H5 e7 => ?_) (fun hb => (by cases hb))
        have e8 := e6.trans e7
        cases k with
        | zero =>
          refine s_ret (ev_andV (a := false) (b := false) (ev_is (ev_gtI (ev_var rfl) ev_c) rfl) (fun hb => (by cases hb))) fun H6 e9 => q H6 (e8.trans e9)
        | succ k =>
          refine s_ret (ev_andV (a := true) (b := formB x k && formB y k) (ev_is (ev_gtI (ev_var rfl) ev_c) (by rw [decide_eq_true (by omega)])) (fun _ => ev_andV (a := formB x k) (b := formB y k) (ev_call (ea_cons (ev_op (ev_var rfl) ev_c (rv_ixT (ex_t e8 hS) (v := u) rfl)) (ea_cons (ev_op (ev_var rfl) ev_c rv_I0) ea_nil)) fun H6 e9 Q' k' E' => ⟨u, x, k, ?_, hx.ex (e8.trans e9), by omega, sx, fun H7 e10 => k' H7 e10⟩) (fun _ => ev_call (ea_cons (ev_op (ev_var rfl) ev_c (rv_ixT (ex_t e8 hS) (v := u') rfl)) (ea_cons (ev_op (ev_var rfl) ev_c rv_I0) ea_nil)) fun H6 e9 Q' k' E' => ⟨u', y, k, ?_, hy.ex (e8.trans e9), by omega, sy, fun H7 e10 => k' H7 e10⟩))) fun H6 e9 => q H6 (e8.trans e9)
          · show [u, V.int (((k + 1 : Nat) : Int) - 1)] = [u, V.int (k : Int)]
            have : ((k + 1 : Nat) : Int) - 1 = (k : Int) := by omega
            rw [this]
          · show [u', V.int (((k + 1 : Nat) : Int) - 1)] = [u', V.int (k : Int)]
            have : ((k + 1 : Nat) : Int) - 1 = (k : Int) := by omega
            rw [this]
end
end D1
end
section
set_option Elab.async false
set_option linter.all false
set_option maxRecDepth 100000
set_option maxHeartbeats 4000000
/-! G1: good tables, by their numbers -/
namespace D1
open PySem
def rk (s a : Int) : Int := if a = 0 then 0 else if a = 1 then s - 1 else a - 1
def unrk (s v : Int) : Int := if v = 0 then 0 else if v = s - 1 then 1 else v + 1
def bt (a : Int) : Int := ([0, 3, 1, 2] : List Int).getD a.toNat 0
def tb (a : Int) : Int := ([0, 2, 3, 1] : List Int).getD a.toNat 0
/-- a sum, or a product, of a good table -/
def baseV (way s p a b : Int) (sm : Bool) : Int :=
  if way < 2 then
    if (if sm = true then a + b else a * b) < s then (if sm = true then a + b else a * b) else s - p + ((if sm = true then a + b else a * b) - s) % p
  else if way = 4 then (if sm = true then tb (Builtin.bitOr (bt a) (bt b)) else tb (Builtin.bitAnd (bt a) (bt b)))
  else if way = 5 then (if sm = true then Builtin.bitXor a b else if a = 0 ∨ b = 0 then 0 else 1 + (a + b - 2) % 3)
  else if sm = true then unrk s (if rk s b > rk s a then rk s b else rk s a)
  else unrk s (if way = 2 then (if rk s b < rk s a then rk s b else rk s a) else (if rk s a + rk s b - s + 1 > 0 then rk s a + rk s b - s + 1 else 0))
def rg (n : Nat) : List Int := (List.range n).map fun (i : Nat) => (i : Int)
/-- the eight rules, of a sum and a product on 0 .. n-1 -/
def goodF (n : Nat) (f g : Int → Int → Int) : Bool :=
  (rg n).all fun a => decide (f 0 a = a) && (decide (g 1 a = a) && (decide (g 0 a = 0) && (rg n).all fun b =>
    decide (f a b = f b a) && (decide (g a b = g b a) && ((decide (0 ≤ f a b ∧ f a b < n) && decide (0 ≤ g a b ∧ g a b < n)) && (rg n).all fun c =>
      decide (f (f a b) c = f a (f b c)) && (decide (g (g a b) c = g a (g b c)) && decide (g a (f b c) = f (g a b) (g a c)))))))
def tabF (n : Nat) (f : Int → Int → Int) : List (List Int) := (rg n).map fun a => (rg n).map fun b => f a b
def atF (t : List (List Int)) (a b : Int) : Int := (t.getD a.toNat []).getD b.toNat 0
/-- the numbers once looked up -/
def goodT (n : Nat) (t u : List (List Int)) : Bool := goodF n (atF t) (atF u)
def allWays : Bool := (rg 6).all fun w => (List.range 7).all fun s => (rg 7).all fun p => if (2 ≤ s ∧ 1 ≤ p ∧ p ≤ s ∧ (3 < w → s = 4)) then goodT s (tabF s fun a b => baseV w s p a b true) (tabF s fun a b => baseV w s p a b false) else true
theorem allWays_true : allWays = true := by decide +kernel
end D1
end
section
set_option Elab.async false
set_option linter.all false
set_option maxRecDepth 100000
set_option maxHeartbeats 4000000
/-! Y1: {i:b} of small numbers -/
namespace D1
open PySem Sem
open Builtin Builtin.Str Builtin.Int
def binS (i : Nat) : PySem.Str := ⟨((Nat.toDigits 2 i).map Char.toNat).toArray⟩
theorem wp_nameCut {M : Model} {A : Around} {E : Value → Shared → Prop} {s : Shared} {v : Value} {T : String} {Q : String → Shared → Prop} (hT : s.TypeIs v T)
    (hn : (Value.type T == Value.type "builtin_function_or_method") = false := by decide) (h : ∀ n, Q n s) : wpAny M A (typeNameOfCut 200 v) Q E s := by
  unfold typeNameOfCut shownTypeOf
  refine wpAny_bind (wpAny_bind (wpAny_typeOf hT ?_))
  simp only [hn, Bool.false_eq_true, if_false]
  exact wpAny_pure (wpAny_pure (h _))
theorem gives_nameCut {v : Value} {T : String} {k : String → Sem Fin} {m : Made} (hT : ∀ s : Shared, s.TypeIs v T)
    (hn : (Value.type T == Value.type "builtin_function_or_method") = false) (g : ∀ n, Gives (k n) m) : Gives (do let n ← typeNameOfCut 200 v; k n) m :=
  fun prog w A R s hq => wpAny_bind (wp_nameCut (hT s) hn fun n => g n prog w A R s hq)
/-- what is left behind the names of the two -/
theorem gives_b_step {a : Int} {t u : Tok} {y : PySem.Str} {k : String → Sem Fin} (e : «int.__format__» ⟨[.int a t, .str "b" u], []⟩ = (do let _ ← typeNameOf (.str "b" u); let n ← typeNameOfCut 200 (.int a t); k n)) (g : ∀ n, k n = (Made.str y).tree) : Gives («int.__format__» ⟨[.int a t, .str "b" u], []⟩) (.str y) := by
  rw [e]
  exact gives_after_typeNameOf (T := "str") (fun s => typeIs_str s _ _) (by decide) fun _ => gives_nameCut (T := "int") (fun s => typeIs_int s _ _) (by decide) fun n => .of_eq (g n)
def bX (i : Nat) : { y : PySem.Str // ∀ t u, Gives («int.__format__» ⟨[.int (i : Int) t, .str "b" u], []⟩) (.str y) } := ⟨_, fun _ _ => gives_b_step rfl fun _ => rfl⟩
theorem bX_eq : ∀ i : Fin 61, (bX i.val).1 = binS i.val := by decide +kernel
theorem gives_b {i : Nat} (hi : i ≤ 60) (t u : Tok) : Gives («int.__format__» ⟨[.int (i : Int) t, .str "b" u], []⟩) (.str (binS i)) := by
  have h := (bX i).2 t u
  have e := bX_eq ⟨i, by omega⟩
  dsimp only at e
  rw [e] at h
  exact h
theorem binS_signs : ∀ i : Fin 61, (binS i.val).cps.toList.all (fun c => c == 48 || c == 49) = true ∧ (binS i.val).length ≤ 6 := by decide +kernel
end D1
namespace L2
open PySem PySem.Spec PyProof.Rows
section
variable {X : Cx}
/-- {x:b}, x of 0 .. 60 -/
def tFmtB (te ts : TE) : TE := fun σ H Q => te σ H fun x H1 => ts σ H1 fun y H2 => ∃ i : Nat, x = .int (i : Int) ∧ y = .str "b" ∧ i ≤ 60 ∧ Q (.str (D1.binS i)) H2
theorem pe_fmtB {e spec : Expr} {te ts : TE} {pos : Pos} (he : PE X e te) (hs : PE X spec ts) : PE X (.FormattedValue e (-1) (some spec) pos) (tFmtB te ts) := by
  refine ⟨fun pins s σ H Q I h => ?_⟩
  refine wpAny_FormattedValue_spec (thn (he.run pins s σ H _ I h) fun v s1 hv => ?_)
  obtain ⟨x, H1, I1, r1, q⟩ := hv
  refine thn (hs.run pins s1 σ H1 _ I1 q) fun r s2 hr => ?_
  obtain ⟨y, H2, I2, r2, i, rfl, rfl, hi, q⟩ := hr
  obtain ⟨t, rfl⟩ := r1
  obtain ⟨u, rfl⟩ := r2
  have hl := (D1.binS_signs ⟨i, by omega⟩).2
  exact ⟨_, _, rfl, wpAny_formatField_spec (by decide) (fun s' => typeIs_int s' _ _) F.slot_int_format F.entry_int_format F.args_int_format_2 (fun w => D1.gives_b hi t w) ⟨.str (D1.binS i), H2, I2.tok _, ⟨_, rfl⟩, q⟩ (by decide) (Nat.le_trans hl (by decide))⟩
end
end L2
end
section
set_option Elab.async false
set_option linter.all false
set_option maxRecDepth 100000
set_option maxHeartbeats 4000000
/-! G2: good tables, and the same by other numbers -/
namespace D1
open PySem
def In (n : Nat) (a : Int) : Prop := 0 ≤ a ∧ a < (n : Int)
structure GoodG (n : Nat) (f g : Int → Int → Int) : Prop where
  s0 : ∀ a, In n a → f 0 a = a
  m1 : ∀ a, In n a → g 1 a = a
  m0 : ∀ a, In n a → g 0 a = 0
  sc : ∀ a b, In n a → In n b → f a b = f b a
  mc : ∀ a b, In n a → In n b → g a b = g b a
  si : ∀ a b, In n a → In n b → In n (f a b)
  mi : ∀ a b, In n a → In n b → In n (g a b)
  sa : ∀ a b c, In n a → In n b → In n c → f (f a b) c = f a (f b c)
  ma : ∀ a b c, In n a → In n b → In n c → g (g a b) c = g a (g b c)
  sp : ∀ a b c, In n a → In n b → In n c → g a (f b c) = f (g a b) (g a c)
theorem mem_rg {n : Nat} {a : Int} : a ∈ rg n ↔ In n a := by
  constructor
  · intro h
    obtain ⟨i, hi, rfl⟩ := List.mem_map.mp h
    have := List.mem_range.mp hi
    exact ⟨by omega, by omega⟩
  · intro h
    obtain ⟨h0, h1⟩ := h
    exact List.mem_map.mpr ⟨a.toNat, List.mem_range.mpr (by omega), by omega⟩
theorem good_of {n : Nat} {f g : Int → Int → Int} (h : goodF n f g = true) : GoodG n f g := by
  have h1 := fun a (ha : In n a) => List.all_eq_true.mp h a (mem_rg.mpr ha)
  simp only [Bool.and_eq_true, decide_eq_true_eq, List.all_eq_true] at h1
  refine ⟨fun a ha => (h1 a ha).1, fun a ha => (h1 a ha).2.1, fun a ha => (h1 a ha).2.2.1, fun a b ha hb => ((h1 a ha).2.2.2 b (mem_rg.mpr hb)).1, fun a b ha hb => ((h1 a ha).2.2.2 b (mem_rg.mpr hb)).2.1, fun a b ha hb => ((h1 a ha).2.2.2 b (mem_rg.mpr hb)).2.2.1.1, fun a b ha hb => ((h1 a ha).2.2.2 b (mem_rg.mpr hb)).2.2.1.2, fun a b c ha hb hc => (((h1 a ha).2.2.2 b (mem_rg.mpr hb)).2.2.2 c (mem_rg.mpr hc)).1, fun a b c ha hb hc => (((h1 a ha).2.2.2 b (mem_rg.mpr hb)).2.2.2 c (mem_rg.mpr hc)).2.1, fun a b c ha hb hc => (((h1 a ha).2.2.2 b (mem_rg.mpr hb)).2.2.2 c (mem_rg.mpr hc)).2.2⟩
theorem rg_get {n : Nat} {α : Type} {F : Int → α} {d : α} {a : Int} (h : In n a) : ((rg n).map F).getD a.toNat d = F a := by
  obtain ⟨h0, h1⟩ := h
  have hl : a.toNat < (List.range n).length := by rw [List.length_range]; omega
  unfold rg
  rw [List.map_map, List.getD_eq_getElem?_getD, List.getElem?_map, List.getElem?_eq_getElem hl, List.getElem_range]
  show F ((a.toNat : Nat) : Int) = F a
  rw [show ((a.toNat : Nat) : Int) = a by omega]
theorem at_tabF {n : Nat} {f : Int → Int → Int} {a b : Int} (ha : In n a) (hb : In n b) : atF (tabF n f) a b = f a b := by
  unfold atF tabF
  rw [rg_get ha, rg_get hb]
theorem GoodG.congr {n : Nat} {f g f' g' : Int → Int → Int} (n2 : 2 ≤ n) (h : GoodG n f g) (e : ∀ a b, In n a → In n b → f' a b = f a b) (e' : ∀ a b, In n a → In n b → g' a b = g a b) : GoodG n f' g' := by
  have i0 : In n 0 := ⟨by omega, by omega⟩
  have i1 : In n 1 := ⟨by omega, by omega⟩
  refine ⟨fun a ha => by rw [e _ _ i0 ha]; exact h.s0 a ha, fun a ha => by rw [e' _ _ i1 ha]; exact h.m1 a ha, fun a ha => by rw [e' _ _ i0 ha]; exact h.m0 a ha, fun a b ha hb => by rw [e _ _ ha hb, e _ _ hb ha]; exact h.sc a b ha hb, fun a b ha hb => by rw [e' _ _ ha hb, e' _ _ hb ha]; exact h.mc a b ha hb, fun a b ha hb => by rw [e _ _ ha hb]; exact h.si a b ha hb, fun a b ha hb => by rw [e' _ _ ha hb]; exact h.mi a b ha hb, fun a b c ha hb hc => ?_, fun a b c ha hb hc => ?_, fun a b c ha hb hc => ?_⟩
  · rw [e _ _ ha hb, e _ _ hb hc, e _ _ (h.si a b ha hb) hc, e _ _ ha (h.si b c hb hc)]
    exact h.sa a b c ha hb hc
  · rw [e' _ _ ha hb, e' _ _ hb hc, e' _ _ (h.mi a b ha hb) hc, e' _ _ ha (h.mi b c hb hc)]
    exact h.ma a b c ha hb hc
  · rw [e _ _ hb hc, e' _ _ ha hb, e' _ _ ha hc, e' _ _ ha (h.si b c hb hc), e _ _ (h.mi a b ha hb) (h.mi a c ha hc)]
    exact h.sp a b c ha hb hc
theorem base_good {way per : Int} {n : Nat} (w0 : 0 ≤ way) (w1 : way < 6) (n2 : 2 ≤ n) (n6 : n ≤ 6) (p0 : 1 ≤ per) (p1 : per ≤ n) (hw : 3 < way → n = 4) : GoodG n (fun a b => baseV way n per a b true) (fun a b => baseV way n per a b false) := by
  have h := allWays_true
  unfold allWays at h
  have h1 := List.all_eq_true.mp h way (mem_rg.mpr ⟨w0, w1⟩)
  have h2 := List.all_eq_true.mp h1 n (List.mem_range.mpr (by omega))
  have h3 := List.all_eq_true.mp h2 per (mem_rg.mpr ⟨by omega, by show per < ((7 : Nat) : Int); omega⟩)
  have h4 : (2 ≤ n ∧ 1 ≤ per ∧ per ≤ n ∧ (3 < way → n = 4)) := ⟨n2, p0, p1, hw⟩
  rw [if_pos h4] at h3
  exact (good_of h3).congr n2 (fun a b ha hb => (at_tabF (f := fun a b => baseV way n per a b true) ha hb).symm) fun a b ha hb => (at_tabF (f := fun a b => baseV way n per a b false) ha hb).symm
/-- the same by other numbers -/
theorem GoodG.by {n : Nat} {f g f' g' : Int → Int → Int} {F : Int → Int} (n2 : 2 ≤ n) (h : GoodG n f g) (F0 : F 0 = 0) (F1 : F 1 = 1) (fi : ∀ a, In n a → In n (F a)) (su : ∀ x, In n x → ∃ a, In n a ∧ F a = x)
    (e : ∀ a b, In n a → In n b → f' (F a) (F b) = F (f a b)) (e' : ∀ a b, In n a → In n b → g' (F a) (F b) = F (g a b)) : GoodG n f' g' := by
  have i0 : In n 0 := ⟨by omega, by omega⟩
  have i1 : In n 1 := ⟨by omega, by omega⟩
  refine ⟨fun x hx => ?_, fun x hx => ?_, fun x hx => ?_, fun x y hx hy => ?_, fun x y hx hy => ?_, fun x y hx hy => ?_, fun x y hx hy => ?_, fun x y z hx hy hz => ?_, fun x y z hx hy hz => ?_, fun x y z hx hy hz => ?_⟩
  · obtain ⟨a, ha, rfl⟩ := su x hx
    have := e 0 a i0 ha
    rw [F0, h.s0 a ha] at this
    exact this
  · obtain ⟨a, ha, rfl⟩ := su x hx
    have := e' 1 a i1 ha
    rw [F1, h.m1 a ha] at this
    exact this
  · obtain ⟨a, ha, rfl⟩ := su x hx
    have := e' 0 a i0 ha
    rw [F0, h.m0 a ha, F0] at this
    exact this
  · obtain ⟨a, ha, rfl⟩ := su x hx
    obtain ⟨b, hb, rfl⟩ := su y hy
    rw [e a b ha hb, e b a hb ha, h.sc a b ha hb]
  · obtain ⟨a, ha, rfl⟩ := su x hx
    obtain ⟨b, hb, rfl⟩ := su y hy
    rw [e' a b ha hb, e' b a hb ha, h.mc a b ha hb]
  · obtain ⟨a, ha, rfl⟩ := su x hx
    obtain ⟨b, hb, rfl⟩ := su y hy
    rw [e a b ha hb]
    exact fi _ (h.si a b ha hb)
  · obtain ⟨a, ha, rfl⟩ := su x hx
    obtain ⟨b, hb, rfl⟩ := su y hy
    rw [e' a b ha hb]
    exact fi _ (h.mi a b ha hb)
  · obtain ⟨a, ha, rfl⟩ := su x hx
    obtain ⟨b, hb, rfl⟩ := su y hy
    obtain ⟨c, hc, rfl⟩ := su z hz
    rw [e a b ha hb, e b c hb hc, e _ c (h.si a b ha hb) hc, e a _ ha (h.si b c hb hc), h.sa a b c ha hb hc]
  · obtain ⟨a, ha, rfl⟩ := su x hx
    obtain ⟨b, hb, rfl⟩ := su y hy
    obtain ⟨c, hc, rfl⟩ := su z hz
    rw [e' a b ha hb, e' b c hb hc, e' _ c (h.mi a b ha hb) hc, e' a _ ha (h.mi b c hb hc), h.ma a b c ha hb hc]
  · obtain ⟨a, ha, rfl⟩ := su x hx
    obtain ⟨b, hb, rfl⟩ := su y hy
    obtain ⟨c, hc, rfl⟩ := su z hz
    rw [e b c hb hc, e' a b ha hb, e' a c ha hc, e' a _ ha (h.si b c hb hc), e _ _ (h.mi a b ha hb) (h.mi a c ha hc), h.sp a b c ha hb hc]
abbrev GoodT (n : Nat) (S M : Tb) : Prop := GoodG n (cell S) (cell M)
theorem GoodT.fb {n : Nat} {S M : Tb} (n2 : 2 ≤ n) (h : GoodT n S M) : Fb n S M none := by
  have i0 : In n 0 := ⟨by omega, by omega⟩
  have i1 : In n 1 := ⟨by omega, by omega⟩
  intro i hi row hr
  have hN := rowsN_in hr
  match i, hi with
  | 0, _ =>
    obtain ⟨a, b, rfl, ha, hb⟩ := row2 hN
    exact beq_iff_eq.mpr (h.sc a b ha hb)
  | 1, _ =>
    obtain ⟨a, b, c, rfl, ha, hb, hc⟩ := row3 hN
    exact beq_iff_eq.mpr (h.sa a b c ha hb hc)
  | 2, _ =>
    obtain ⟨a, rfl, ha⟩ := row1 hN
    exact beq_iff_eq.mpr (h.s0 a ha)
  | 3, _ =>
    obtain ⟨a, b, rfl, ha, hb⟩ := row2 hN
    exact beq_iff_eq.mpr (h.mc a b ha hb)
  | 4, _ =>
    obtain ⟨a, b, c, rfl, ha, hb, hc⟩ := row3 hN
    exact beq_iff_eq.mpr (h.ma a b c ha hb hc)
  | 5, _ =>
    obtain ⟨a, rfl, ha⟩ := row1 hN
    exact beq_iff_eq.mpr (h.m1 a ha)
  | 6, _ =>
    obtain ⟨a, rfl, ha⟩ := row1 hN
    exact beq_iff_eq.mpr (h.m0 a ha)
  | 7, _ =>
    obtain ⟨a, b, c, rfl, ha, hb, hc⟩ := row3 hN
    exact beq_iff_eq.mpr (h.sp a b c ha hb hc)
end D1
end
section
set_option Elab.async false
set_option linter.all false
set_option maxRecDepth 100000
set_option maxHeartbeats 4000000
/-! D12: _law_base: any thing of the side -/
namespace D1
open PySem L2 Evl RZ
def spBase : Sp := fun vs H Q _ => ∃ (way side per a b : Int) (s : Bool), vs = [.int way, .int side, .int per, .int a, .int b, .bl s] ∧ (0 ≤ way ∧ way < 6) ∧ (2 ≤ side ∧ side ≤ 6) ∧ (1 ≤ per ∧ per ≤ side) ∧ (3 < way → side = 4) ∧ (0 ≤ a ∧ a < side) ∧ (0 ≤ b ∧ b < side) ∧ ∀ H', Ex H H' → Q (.int (baseV way side per a b s)) H'
theorem inV0 (a b : Int) : inV (.int 0) [.int a, .int b] = true ↔ (a = 0 ∨ b = 0) := by
  show (a == 0 || (b == 0 || false)) = true ↔ _
  rw [Bool.or_false, Bool.or_eq_true, beq_iff_eq, beq_iff_eq]
def rkV (side : Int) : List V := [.int 0, .int (side - 1)] ++ rgV 1 (side - 1)
theorem rk_at0 : ∀ (s : Fin 7), 2 ≤ s.val → ∀ a : Fin 7, a.val < s.val → atI (rkV (s.val : Int)) (a.val : Int) = some (V.int (rk (s.val : Int) (a.val : Int))) ∧ 0 ≤ rk (s.val : Int) (a.val : Int) ∧ rk (s.val : Int) (a.val : Int) < s.val := by decide +kernel
theorem rk_ix0 : ∀ (s : Fin 7), 2 ≤ s.val → ∀ v : Fin 7, v.val < s.val → (rkV (s.val : Int))[(unrk (s.val : Int) (v.val : Int)).toNat]? = some (V.int (v.val : Int)) ∧ 0 ≤ unrk (s.val : Int) (v.val : Int) ∧ unrk (s.val : Int) (v.val : Int) < s.val ∧ ∀ m : Fin 7, m.val < (unrk (s.val : Int) (v.val : Int)).toNat → (match (rkV (s.val : Int))[m.val]? with | some z => eqV z (V.int (v.val : Int)) | none => false) = false := by decide +kernel
theorem rk_at {side a : Int} (s0 : 2 ≤ side) (s1 : side ≤ 6) (a0 : 0 ≤ a) (a1 : a < side) : 0 ≤ rk side a ∧ rk side a < side ∧ atI (rkV side) a = some (V.int (rk side a)) := by
  obtain ⟨h1, h2, h3⟩ := rk_at0 ⟨side.toNat, by omega⟩ (by show 2 ≤ side.toNat; omega) ⟨a.toNat, by omega⟩ (by show a.toNat < side.toNat; omega)
  have e1 : ((side.toNat : Nat) : Int) = side := by omega
  have e2 : ((a.toNat : Nat) : Int) = a := by omega
  simp only [e1, e2] at h1 h2 h3
  exact ⟨h2, h3, h1⟩
theorem rk_ix {side v : Int} (s0 : 2 ≤ side) (s1 : side ≤ 6) (v0 : 0 ≤ v) (v1 : v < side) : ∃ j : Nat, (j : Int) = unrk side v ∧ (j : Int) < side ∧ (rkV side)[j]? = some (V.int v) ∧ ∀ (m : Nat) (z : V), m < j → (rkV side)[m]? = some z → eqV z (V.int v) = false := by
  obtain ⟨h1, h2, h3, h4⟩ := rk_ix0 ⟨side.toNat, by omega⟩ (by show 2 ≤ side.toNat; omega) ⟨v.toNat, by omega⟩ (by show v.toNat < side.toNat; omega)
  have e1 : ((side.toNat : Nat) : Int) = side := by omega
  have e2 : ((v.toNat : Nat) : Int) = v := by omega
  simp only [e1, e2] at h1 h2 h3 h4
  refine ⟨(unrk side v).toNat, by omega, by omega, h1, fun m z hm hz => ?_⟩
  have h5 := h4 ⟨m, by omega⟩ hm
  simp only [hz] at h5
  exact h5
theorem or4 : ∀ i j : Fin 4, atI [V.int 0, .int 2, .int 3, .int 1] (Builtin.bitOr (bt i.val) (bt j.val)) = some (V.int (tb (Builtin.bitOr (bt i.val) (bt j.val)))) := by decide +kernel
theorem and4 : ∀ i j : Fin 4, atI [V.int 0, .int 2, .int 3, .int 1] (Builtin.bitAnd (bt i.val) (bt j.val)) = some (V.int (tb (Builtin.bitAnd (bt i.val) (bt j.val)))) := by decide +kernel
theorem bits4 : ∀ i : Fin 4, atI [V.int 0, .int 3, .int 1, .int 2] (i.val : Int) = some (V.int (bt (i.val : Int))) := by decide +kernel
theorem rk_flat (side : Int) : (rkV side).all flatV = true := by
  rw [List.all_eq_true]
  intro x hx
  unfold rkV rgV at hx
  rcases List.mem_append.mp hx with h | h
  · simp at h
    rcases h with rfl | rfl <;> rfl
  · obtain ⟨i, _, rfl⟩ := List.mem_map.mp h
    rfl
section
variable {K : PySem.W.Frag} {σ : L2.St} {H : Hp} {ta tb : TE}
theorem ev_max {a b : Int} (ha : Ev ta σ H (.int a)) (hb : Ev tb σ H (.int b)) : Ev (tCB (fun xs H Q => ∃ i j, xs = [V.int i, V.int j] ∧ Q (V.int (if j > i then j else i)) H) (tCons ta (tCons tb tNil))) σ H (.int (if b > a then b else a)) := fun H1 e Q q =>
  ha H1 e _ fun H2 e2 => hb H2 (e.trans e2) _ fun H3 e3 => ⟨a, b, rfl, q H3 (e2.trans e3)⟩
theorem ev_min {a b : Int} (ha : Ev ta σ H (.int a)) (hb : Ev tb σ H (.int b)) : Ev (tCB (fun xs H Q => ∃ i j, xs = [V.int i, V.int j] ∧ Q (V.int (if j < i then j else i)) H) (tCons ta (tCons tb tNil))) σ H (.int (if b < a then b else a)) := fun H1 e Q q =>
  ha H1 e _ fun H2 e2 => hb H2 (e.trans e2) _ fun H3 e3 => ⟨a, b, rfl, q H3 (e2.trans e3)⟩
theorem ev_index {p : Addr} {ys : List V} {v : Int} {j : Nat} (ha : Ev ta σ H (.ref p)) (hb : Ev tb σ H (.int v)) (hp : H p = some (.lst ys)) (fl : ys.all flatV = true) (hj : ys[j]? = some (.int v)) (hn : ∀ (m : Nat) (z : V), m < j → ys[m]? = some z → eqV z (.int v) = false) :
    Ev (tBM K "list" (rIndex K) ta (tCons tb tNil)) σ H (.int (j : Int)) := fun H1 e Q q =>
  ha H1 e _ fun H2 e2 => ⟨.inl ⟨rfl, _, SqL.of ((e.trans e2) _ _ hp)⟩, hb H2 (e.trans e2) _ fun H3 e3 => ⟨p, ys, .int v, j, .int v, rfl, rfl, SqL.of ((e.trans (e2.trans e3)) _ _ hp), rfl, fl, hj, by simp [eqV], hn, q H3 (e2.trans e3)⟩⟩
end
theorem nat4 {a : Int} (h0 : 0 ≤ a) (h1 : a < 4) : ∃ i : Fin 4, a = (i.val : Int) := ⟨⟨a.toNat, by omega⟩, by show a = ((a.toNat : Nat) : Int); omega⟩
section
variable {P : Program} {w : World} {K : PySem.W.Frag} {mg : Str → Option Value} {base : Heap}
abbrev s_base : Stmt := top 78
theorem sc_base : FnScope ["_law_way", "_law_side", "_law_period", "_law_a", "_law_b", "_law_is_sum", "_law_x", "_law_bits", "_law_ranks", "_law_one"] ["_law_way", "_law_side", "_law_period", "_law_a", "_law_b", "_law_is_sum"] (defScope s_base) := ⟨rfl, rfl, rfl, by decide +kernel, rfl, by decide +kernel, by decide +kernel⟩
theorem ok_base {f : Addr} {fd : FuncData} (F : FnP K "_law_base" s_base f fd) (z_list : mg "list" = none) (z_range : mg "range" = none) (z_max : mg "max" = none) (z_min : mg "min" = none) : FnOk P w K mg base CX0 1 f fd ["_law_way", "_law_side", "_law_period", "_law_a", "_law_b", "_law_is_sum"] spBase := by
  refine F.ok sc_base (fun vs H Q E h => ?_) (fun cdv A outer s H vs Q E hr h => ?_)
  · obtain ⟨way, side, per, a, b, s, rfl, _⟩ := h
    rfl
  · obtain ⟨way, side, per, a, b, sm, rfl, ⟨w0, w1⟩, ⟨s0, s1⟩, ⟨p0, p1⟩, hw, ⟨a0, a1⟩, ⟨b0, b1⟩, q⟩ := h
    have hu := hu_of hr
    have hu64 := hr.units
    refine ⟨_, PSs.nox (pss_cons (ps_if (pt_cmpR op_lt (pv 0) pe_int (nomark _)) (pss_cons (ps_set (i := 6) sc_base.nd rfl (Or.inl rfl) (pe_ifExp (pt_val (pv 5)) (pe_op op_add (pv 3) (pv 4)) (pe_op op_mul (pv 3) (pv 4))))
      (pss_one (ps_ret (pe_ifExp (pt_cmpR op_lt (pv 6) (pv 1) (nomark _)) (pv 6) (pe_op op_add (pe_op op_sub (pv 1) (pv 2)) (pe_op op_mod (pe_op op_sub (pv 6) (pv 1)) (pv 2))))))) pss_nil)
      (pss_cons (ps_if (pt_cmpR op_eq (pv 0) pe_int (nomark _)) (pss_cons (ps_set (i := 7) sc_base.nd rfl (Or.inl rfl) (pe_lst (pa_cons pe_int (pa_cons pe_int (pa_cons pe_int (pa_cons pe_int pa_nil))))))
      (pss_one (ps_ret (pe_ix ix_list (pe_lst (pa_cons pe_int (pa_cons pe_int (pa_cons pe_int (pa_cons pe_int pa_nil))))) (pe_ifExp (pt_val (pv 5)) (pe_op op_or (pe_ix ix_list (pv 7) (pv 3) (fun _ _ => rfl)) (pe_ix ix_list (pv 7) (pv 4) (fun _ _ => rfl))) (pe_op op_and (pe_ix ix_list (pv 7) (pv 3) (fun _ _ => rfl)) (pe_ix ix_list (pv 7) (pv 4) (fun _ _ => rfl)))) (fun _ _ => rfl))))) pss_nil)
      (pss_cons (ps_if (pt_cmpR op_eq (pv 0) pe_int (nomark _)) (pss_one (ps_ret (pe_ifExp (pt_val (pv 5)) (pe_op op_xor (pv 3) (pv 4)) (pe_ifExp (pt_cmpR op_in_seq pe_int (pe_tup (pa_cons (pv 3) (pa_cons (pv 4) pa_nil))) (by rfl)) pe_int (pe_op op_add pe_int (pe_op op_mod (pe_op op_sub (pe_op op_add (pv 3) (pv 4)) pe_int) pe_int)))))) pss_nil)
      (pss_cons (ps_set (i := 8) sc_base.nd rfl (Or.inl rfl) (pe_op op_cat (pe_lst (pa_cons pe_int (pa_cons (pe_op op_sub (pv 1) pe_int) pa_nil))) (pe_listRg rfl rfl z_list (prg_2 rfl z_range pe_int (pe_op op_sub (pv 1) pe_int)))))
      (pss_cons (ps_if (pt_val (pv 5)) (pss_one (ps_ret (pe_bm PySem.F.plainAttrs_list PySem.F.slot_list_index PySem.F.type_list_index mt_index (pv 8) (pa_cons (pe_callB (call_max2 rfl) (by rfl) z_max PyProof.Rows.boot_max (pa_cons (pe_ix ix_list (pv 8) (pv 3) (fun _ _ => rfl)) (pa_cons (pe_ix ix_list (pv 8) (pv 4) (fun _ _ => rfl)) pa_nil))) pa_nil)))) pss_nil)
      (pss_cons (ps_set (i := 9) sc_base.nd rfl (Or.inl rfl) (pe_ifExp (pt_cmpR op_eq (pv 0) pe_int (nomark _)) (pe_callB (call_min2 rfl) (by rfl) z_min PyProof.Rows.boot_min (pa_cons (pe_ix ix_list (pv 8) (pv 3) (fun _ _ => rfl)) (pa_cons (pe_ix ix_list (pv 8) (pv 4) (fun _ _ => rfl)) pa_nil))) (pe_callB (call_max2 rfl) (by rfl) z_max PyProof.Rows.boot_max (pa_cons pe_int (pa_cons (pe_op op_add (pe_op op_sub (pe_op op_add (pe_ix ix_list (pv 8) (pv 3) (fun _ _ => rfl)) (pe_ix ix_list (pv 8) (pv 4) (fun _ _ => rfl))) (pv 1)) pe_int) pa_nil)))))
      (pss_one (ps_ret (pe_bm PySem.F.plainAttrs_list PySem.F.slot_list_index PySem.F.type_list_index mt_index (pv 8) (pa_cons (pv 9) pa_nil)))))))))), ?_⟩
    refine q_when (et_test (ev_op (ev_var rfl) ev_c rv_I0)) (fun hb H1 e1 => ?_) (fun hb H1 e1 => ?_)
    · have ab0 : 0 ≤ a * b := Int.mul_nonneg a0 b0
      obtain ⟨x, x0, hx⟩ : ∃ x : Int, 0 ≤ x ∧ x = if sm = true then a + b else a * b := ⟨_, by split <;> omega, rfl⟩
      refine q_asg (v := .int x) (ev_if (b := sm) (et_B (ev_var rfl)) (fun h => ?_) (fun h => ?_)) fun H2 e2 => ?_
      · rw [hx, if_pos h]
        exact ev_op (ev_var rfl) (ev_var rfl) rv_I0
      · rw [hx, if_neg (by rw [h]; exact Bool.false_ne_true)]
        exact ev_op (ev_var rfl) (ev_var rfl) (rv_I (.inl ⟨by omega, by omega⟩))
      · have m0 : 0 ≤ (x - side) % per := Int.emod_nonneg _ (by omega)
        have m1 : (x - side) % per < per := Int.emod_lt_of_pos _ (by omega)
        refine s_ret (v := .int (if x < side then x else side - per + (x - side) % per)) (ev_if (b := decide (x < side)) (et_test (ev_op (ev_var rfl) (ev_var rfl) rv_I0)) (fun h => ?_) (fun h => ?_)) fun H3 e3 => by
          have h := q H3 ((e1.trans e2).trans e3)
          unfold baseV at h
          rw [if_pos (by simpa using hb), ← hx] at h
          exact h
        · rw [if_pos (of_decide_eq_true h)]
          exact ev_var rfl
        · rw [if_neg (of_decide_eq_false h)]
          exact ev_op (ev_op (ev_var rfl) (ev_var rfl) rv_I0) (ev_op (ev_op (ev_var rfl) (ev_var rfl) rv_I0) (ev_var rfl) (rv_I (by show (0 : Int) < per; omega))) rv_I0
    · refine q_when (et_is (et_test (ev_eqI (ev_var rfl) ev_c)) rfl) (fun hb4 H2 e2 => ?_) (fun hb4 H2 e2 => ?_)
      · have w4 : way = 4 := by simpa using hb4
        obtain rfl := hw (by omega)
        obtain ⟨i, rfl⟩ := nat4 a0 a1
        obtain ⟨j, rfl⟩ := nat4 b0 b1
        refine q_asgL (el_lst (ea_cons ev_c (ea_cons ev_c (ea_cons ev_c (ea_cons ev_c ea_nil)))) (by decide)) fun B H3 hB e3 hB3 => ?_
        have hBB : ∀ {G}, Ex H3 G → SqL K G B [V.int 0, .int 3, .int 1, .int 2] := fun e => ex_l e (SqL.of hB3)
        have eA := (e1.trans e2).trans e3
        cases sm with
        | true =>
          have hd := or4 i j
          have hq : baseV way 4 per i.val j.val true = tb (Builtin.bitOr (bt i.val) (bt j.val)) := by unfold baseV; rw [if_neg (by omega), if_pos w4, if_pos rfl]
          refine s_ret (ev_opL1 (el_lst (ea_cons ev_c (ea_cons ev_c (ea_cons ev_c (ea_cons ev_c ea_nil)))) (by decide)) (fun H4 e4 => ev_if (b := true) (et_B (ev_var rfl)) (fun _ => ev_op (ev_op (ev_var rfl) (ev_var rfl) (rv_ixL (hBB e4) (bits4 i))) (ev_op (ev_var rfl) (ev_var rfl) (rv_ixL (hBB e4) (bits4 j))) rv_I0) (fun h => (by cases h))) (fun p H4 hp e4 => rv_ixL (SqL.of hp) hd)) fun H4 e4 => by
            have h := q H4 (eA.trans e4)
            rw [hq] at h
            exact h
        | false =>
          have hd := and4 i j
          have hq : baseV way 4 per i.val j.val false = tb (Builtin.bitAnd (bt i.val) (bt j.val)) := by unfold baseV; rw [if_neg (by omega), if_pos w4, if_neg (by decide)]
          refine s_ret (ev_opL1 (el_lst (ea_cons ev_c (ea_cons ev_c (ea_cons ev_c (ea_cons ev_c ea_nil)))) (by decide)) (fun H4 e4 => ev_if (b := false) (et_B (ev_var rfl)) (fun h => (by cases h)) (fun _ => ev_op (ev_op (ev_var rfl) (ev_var rfl) (rv_ixL (hBB e4) (bits4 i))) (ev_op (ev_var rfl) (ev_var rfl) (rv_ixL (hBB e4) (bits4 j))) rv_I0)) (fun p H4 hp e4 => rv_ixL (SqL.of hp) hd)) fun H4 e4 => by
            have h := q H4 (eA.trans e4)
            rw [hq] at h
            exact h
      · refine q_when (et_is (et_test (ev_eqI (ev_var rfl) ev_c)) rfl) (fun hb5 H3 e3 => ?_) (fun hb5 H3 e3 => ?_)
        · have w5 : way = 5 := by simpa using hb5
          obtain rfl := hw (by omega)
          have eA := (e1.trans e2).trans e3
          cases sm with
          | true =>
            refine s_ret (v := .int (Builtin.bitXor a b)) (ev_if (b := true) (et_B (ev_var rfl)) (fun _ => ?_) (fun h => (by cases h))) fun H4 e4 => by
              have h := q H4 (eA.trans e4)
              unfold baseV at h
              rw [if_neg (by omega), if_neg (by omega), if_pos w5, if_pos rfl] at h
              exact h
            exact ev_op (ev_var rfl) (ev_var rfl) rv_I0
          | false =>
            obtain ⟨z, hz⟩ : ∃ z : Bool, z = inV (.int 0) [.int a, .int b] := ⟨_, rfl⟩
            have m0 : 0 ≤ (a + b - 2) % 3 := Int.emod_nonneg _ (by omega)
            have m1 : (a + b - 2) % 3 < 3 := Int.emod_lt_of_pos _ (by omega)
            refine s_ret (v := .int (if z = true then 0 else 1 + (a + b - 2) % 3)) (ev_if (b := false) (et_B (ev_var rfl)) (fun h => (by cases h)) (fun _ => ev_if (b := z) (et_test (ev_is (ev_opV ev_c (eu_tup (ea_cons (ev_var rfl) (ea_cons (ev_var rfl) ea_nil)) (by show 2 ≤ 100000; decide)) (fun p H4 hp e4 => rv_inT (.inl (.inl hp)) rfl rfl)) (by rw [hz]; rfl))) (fun h => ?_) (fun h => ?_))) fun H4 e4 => by
              have h := q H4 (eA.trans e4)
              unfold baseV at h
              rw [if_neg (by omega), if_neg (by omega), if_pos w5, if_neg (by decide)] at h
              have hzz : (z = true) = (a = 0 ∨ b = 0) := by
                rw [hz]
                exact propext (inV0 a b)
              simp only [hzz]
              exact h
            · rw [if_pos h]
              exact ev_c
            · rw [if_neg (by rw [h]; exact Bool.false_ne_true)]
              exact ev_op ev_c (ev_op (ev_op (ev_op (ev_var rfl) (ev_var rfl) rv_I0) ev_c rv_I0) ev_c (rv_I (by show (0 : Int) < 3; decide))) rv_I0
        · have eA := (e1.trans e2).trans e3
          obtain ⟨ra0, ra1, hra⟩ := rk_at s0 s1 a0 a1
          obtain ⟨rb0, rb1, hrb⟩ := rk_at s0 s1 b0 b1
          have hq : ∀ sm, baseV way side per a b sm = if sm = true then unrk side (if rk side b > rk side a then rk side b else rk side a) else unrk side (if way = 2 then (if rk side b < rk side a then rk side b else rk side a) else (if rk side a + rk side b - side + 1 > 0 then rk side a + rk side b - side + 1 else 0)) := fun sm => by
            unfold baseV
            rw [if_neg (by simpa using hb), if_neg (by simpa using hb4), if_neg (by simpa using hb5)]
          generalize rk side a = ra at ra0 ra1 hra hq
          generalize rk side b = rb at rb0 rb1 hrb hq
          have rgl : (rgV 1 (side - 1)).length ≤ 4 := by rw [rgV_length]; omega
          refine ⟨_, rfl, _, _, rfl, rfl, by show 2 ≤ sizeLine; decide, fun A1 hA1 => ⟨_, rfl, _, _, rfl, rfl, 1, side - 1, rfl, rfl, RgOk.of_le (by omega) (by omega) (by omega) (by omega), fun A2 hA2 => ⟨A1, A2, [.int 0, .int (side - 1)], rgV 1 (side - 1), rfl, rfl, ?_, upd_same, ?_, fun R hR => ?_⟩⟩⟩
          · rw [upd_ne (fun z => by rw [← z, upd_same] at hA2; cases hA2)]
            exact upd_same
          · refine Nat.le_trans ?_ (by decide : 6 ≤ sizeLine)
            show 2 + _ ≤ 6
            omega
          · have eB := ((eA.trans (Ex.new (o := .lst [.int 0, .int (side - 1)]) hA1)).trans (Ex.new (o := .lst (rgV 1 (side - 1))) hA2)).trans (Ex.new (o := .lst (rkV side)) hR)
            have hRR : (upd (upd (upd H3 A1 (.lst [.int 0, .int (side - 1)])) A2 (.lst (rgV 1 (side - 1)))) R (.lst (rkV side))) R = some (.lst (rkV side)) := upd_same
            show tSeq _ _ _ _ (upd (upd (upd H3 A1 (.lst [.int 0, .int (side - 1)])) A2 (.lst (rgV 1 (side - 1)))) R (.lst (rkV side)))
            generalize upd (upd (upd H3 A1 (.lst [.int 0, .int (side - 1)])) A2 (.lst (rgV 1 (side - 1)))) R (.lst (rkV side)) = G at eB hRR ⊢
            have hS : ∀ {G'}, Ex G G' → SqL K G' R (rkV side) := fun e => ex_l e (SqL.of hRR)
            refine q_when (b := sm) (et_B (ev_var rfl)) (fun _ G1 e4 => ?_) (fun _ G1 e4 => ?_)
            · obtain ⟨j, ju, j1, hj, hn⟩ := rk_ix (v := if rb > ra then rb else ra) s0 s1 (by split <;> omega) (by split <;> omega)
              exact s_ret (v := .int (j : Int)) (ev_index (ev_var rfl) (ev_max (ev_op (ev_var rfl) (ev_var rfl) (rv_ixL (hS e4) hra)) (ev_op (ev_var rfl) (ev_var rfl) (rv_ixL (hS e4) hrb))) (e4 _ _ hRR) (rk_flat side) hj hn) fun G2 e5 => by
                have h := q G2 ((eB.trans e4).trans e5)
                rw [hq, if_pos (by assumption), ← ju] at h
                exact h
            · obtain ⟨c, c0, c1, hc⟩ : ∃ c : Int, 0 ≤ c ∧ c < side ∧ c = if way = 2 then (if rb < ra then rb else ra) else (if ra + rb - side + 1 > 0 then ra + rb - side + 1 else 0) := ⟨_, by split <;> split <;> omega, by split <;> split <;> omega, rfl⟩
              refine q_asg (v := .int c) (ev_if (b := way == 2) (et_test (ev_eqI (ev_var rfl) ev_c)) (fun h => ?_) (fun h => ?_)) fun G2 e5 => ?_
              · have h2 : way = 2 := by simpa using h
                rw [hc, if_pos h2]
                exact ev_min (ev_op (ev_var rfl) (ev_var rfl) (rv_ixL (hS e4) hra)) (ev_op (ev_var rfl) (ev_var rfl) (rv_ixL (hS e4) hrb))
              · have h2 : ¬way = 2 := by simpa using h
                rw [hc, if_neg h2]
                exact ev_max ev_c (ev_op (ev_op (ev_op (ev_op (ev_var rfl) (ev_var rfl) (rv_ixL (hS e4) hra)) (ev_op (ev_var rfl) (ev_var rfl) (rv_ixL (hS e4) hrb)) rv_I0) (ev_var rfl) rv_I0) ev_c rv_I0)
              · obtain ⟨j, ju, j1, hj, hn⟩ := rk_ix s0 s1 c0 c1
                exact s_ret (v := .int (j : Int)) (ev_index (ev_var rfl) (ev_var rfl) ((e4.trans e5) _ _ hRR) (rk_flat side) hj hn) fun G3 e6 => by
                  have h := q G3 (((eB.trans e4).trans e5).trans e6)
                  rw [hq, if_neg (by simp_all), ← hc, ← ju] at h
                  exact h
end
end D1
end
section
set_option Elab.async false
set_option linter.all false
set_option maxRecDepth 100000
set_option maxHeartbeats 4000000
/-! D13: _law_any -/
namespace D1
open PySem L2 Evl RZ
section
variable {m L C : Addr} {i j : Int} {H H1 H2 : Hp} {p : Addr} {o : HO}
theorem MS.alive (h : MS m L C j H) : H m ≠ none ∧ H L ≠ none ∧ H C ≠ none := by
  obtain ⟨n, ls, cs, k, h1, h2, h3, q⟩ := h
  exact ⟨by rw [h1]; exact Option.some_ne_none _, by rw [h2]; exact Option.some_ne_none _, by rw [h3]; exact Option.some_ne_none _⟩
theorem MS.upd_ (h : MS m L C j H) (a : m ≠ p) (b : L ≠ p) (c : C ≠ p) : MS m L C j (upd H p o) := by
  obtain ⟨n, ls, cs, k, h1, h2, h3, q⟩ := h
  exact ⟨n, ls, cs, k, by rw [upd_ne a]; exact h1, by rw [upd_ne b]; exact h2, by rw [upd_ne c]; exact h3, q⟩
/-- an object made since H changes -/
theorem own (hM : MS m L C i H) (r : (frM m L C j).R H H1) (hp : H p = none) : (frM m L C j).R H (upd H1 p o) := by
  obtain ⟨a, b, c⟩ := hM.alive
  exact Fr.R.set (MS.upd_ r.inv (fun z => a (z ▸ hp)) (fun z => b (z ▸ hp)) (fun z => c (z ▸ hp))) r hp
theorem rex (r : (frM m L C j).R H H1) (e : Ex H1 H2) : (frM m L C j).R H H2 := r.trans (Fr.R.ex r.inv e)
theorem keepT (hM : MS m L C i H) (r : (frM m L C j).R H H1) {xs : List V} (h : H p = some (.tup xs)) : H1 p = some (.tup xs) := by
  obtain ⟨n, ls, cs, k, h1, h2, h3, q⟩ := hM
  refine r.keep p _ (fun z => ?_) h
  rcases z with z | z
  · rw [z, h1] at h
    cases h
  · rw [z, h2] at h
    cases h
theorem keepN (r : (frM m L C j).R H H1) (h : H p = some o) (a : p ≠ m) (b : p ≠ L) : H1 p = some o := r.keep p o (fun z => z.elim a b) h
theorem RowsAt.fr {rs : List Addr} {t : Tb} (h : RowsAt H rs t) (hM : MS m L C i H) (r : (frM m L C j).R H H1) : RowsAt H1 rs t := ⟨h.1, fun i r' row a b => keepT hM r (h.2 i r' row a b)⟩
theorem TabAt.fr {t : Tb} (h : TabAt H p t) (hM : MS m L C i H) (r : (frM m L C j).R H H1) : TabAt H1 p t := by
  obtain ⟨rs, h1, h2, h3⟩ := h
  exact ⟨rs, keepT hM r h1, h2, fun i r' row a b => keepT hM r (h3 i r' row a b)⟩
theorem TabAt.upd_ {t : Tb} {D : Addr} {acc : List V} (h : TabAt H p t) (hD : H D = some (.lst acc)) : TabAt (upd H D o) p t := by
  obtain ⟨rs, h1, h2⟩ := h
  exact ⟨rs, by rw [upd_ne (fun z => by rw [z, hD] at h1; cases h1)]; exact h1, RowsAt.upd (show RowsAt H rs t from h2) hD⟩
end
end D1
end
section
set_option Elab.async false
set_option linter.all false
set_option maxRecDepth 100000
set_option maxHeartbeats 4000000
/-! D14: tuples of lists of rows -/
namespace D1
open PySem L2 Evl RZ
def RowsLs (H : Hp) (rs : List Addr) (t : Tb) : Prop := rs.length = t.length ∧ ∀ (i : Nat) r row, rs[i]? = some r → t[i]? = some row → H r = some (.lst (row.map V.int))
theorem RowsLs.ex {H H' : Hp} {rs : List Addr} {t : Tb} (h : RowsLs H rs t) (e : Ex H H') : RowsLs H' rs t := ⟨h.1, fun i r row a b => e _ _ (h.2 i r row a b)⟩
section
variable {K : PySem.W.Frag} {σ : L2.St} {H : Hp} {tl : TE}
/-- tuple([tuple(row) for row in rows]) -/
theorem tup_rows {D : Addr} {rs : List Addr} {t : Tb} {j : Nat} {vs : List Nat} {Q : VK} (h : Ev tl σ H (.ref D)) (hD : H D = some (.lst (rs.map V.ref))) (hR : RowsLs H rs t) (hz : rs.length ≤ 40000) (hw : ∀ x, wipe ((wipe σ vs).set j (some x)) vs = wipe σ vs) (hg : ∀ x : V, ((wipe σ vs).set j (some x))[j]? = some (some x))
    (q : ∀ (p : Addr) H', Ex H H' → H p = none → TabAt H' p t → Q (.ref p) H') : tThen (tLc (iList K tl) (gName j) tYes (tThen (tVar j) (kTup K)) vs) (kTup K) σ H Q := by
  refine h H (Ex.refl H) _ fun H1 e1 => ⟨D, rfl, ⟨_, SqL.of (e1 _ _ hD)⟩, fun Dl hDl => ?_⟩
  refine turns_it (walk_list (K := K) (a := D) (xs := rs.map V.ref)) (fun i G => Ex H1 G ∧ ∃ rs2, G Dl = some (.lst (rs2.map V.ref)) ∧ RowsAt G rs2 (t.take i)) ⟨Ex.new hDl, [], upd_same, RowsAt.nil⟩ (fun i G _ p => SqL.of (p.1 _ _ (e1 _ _ hD))) ?_ ?_
  · rintro i x _ G hi ⟨eG, rs2, hG, hR2⟩ ⟨rfl, hx⟩
    have hx2 : (rs.map V.ref)[i]? = some x := hx
    rw [List.getElem?_map] at hx2
    obtain ⟨r, hr1, rfl⟩ := Option.map_eq_some_iff.mp hx2
    have hit : i < t.length := by
      have := (List.getElem?_eq_some_iff.mp hr1).1
      have := hR.1
      omega
    have hrow := List.getElem?_eq_getElem hit
    have hr2 : G r = some (.lst (t[i].map V.int)) := eG _ _ (e1 _ _ (hR.2 i r t[i] hr1 hrow))
    refine ⟨hw _, tyes_go (yes_of rfl ?_)⟩
    refine ⟨_, hg _, .inl ⟨r, _, rfl, SqL.of hr2, fun p hp => ⟨rs2.map V.ref, by rw [upd_ne (ne_of_none hG hp)]; exact hG, ?_, Ex.mut (eG.trans (Ex.new hp)) hDl, rs2 ++ [p], by rw [upd_same, List.map_append]; rfl, ?_⟩⟩⟩
    · rw [List.length_map, hR2.1, List.length_take]
      have := hR.1
      exact Nat.lt_of_le_of_lt (by omega : min i t.length ≤ 40000) (by decide)
    · rw [List.take_succ, hrow]
      exact RowsAt.upd (acc := rs2.map V.ref) (RowsAt.push (hR2.ex (Ex.new hp)) upd_same) (by rw [upd_ne (ne_of_none hG hp)]; exact hG)
  · rintro G ⟨eG, rs2, hG, hR2⟩
    rw [List.length_map, hR.1, List.take_length] at hR2
    refine .inl ⟨Dl, _, rfl, SqL.of hG, fun p hp => q p _ ((e1.trans eG).trans (Ex.new hp)) (fresh_back (e1.trans eG) hp) ⟨rs2, upd_same, (hR2.ex (Ex.new hp))⟩⟩
end
end D1
end
section
set_option Elab.async false
set_option linter.all false
set_option maxRecDepth 100000
set_option maxHeartbeats 4000000
/-! D15: lists of rows that change -/
namespace D1
open PySem L2 Evl RZ
def rLo (K : PySem.W.Frag) : List V → Hp → VK → Prop := fun xs H Q => ∃ p ys, xs = [.ref p] ∧ (SqL K H p ys ∨ SqT K H p ys) ∧ ∀ l, H l = none → Q (.ref l) (upd H l (.lst ys))
theorem call_lo {X : Cx} : CallR X (.type "list") (rLo X.K) := call_list_of
/-- a list of rows of one's own, made since Hs -/
def TabL (Hs H : Hp) (D : Addr) (n : Nat) : Prop := ∃ rs : List Addr, H D = some (.lst (rs.map V.ref)) ∧ rs.length = n ∧ Hs D = none ∧ ∀ r ∈ rs, Hs r = none ∧ ∃ row : List Int, H r = some (.lst (row.map V.int)) ∧ RowN n n row
theorem TabL.ex {Hs H H' : Hp} {D : Addr} {n : Nat} (h : TabL Hs H D n) (e : Ex H H') : TabL Hs H' D n := by
  obtain ⟨rs, h1, h2, h3, h4⟩ := h
  exact ⟨rs, e _ _ h1, h2, h3, fun r hr => ⟨(h4 r hr).1, let ⟨row, a, b⟩ := (h4 r hr).2; ⟨row, e _ _ a, b⟩⟩⟩
theorem TabL.fr {m L C : Addr} {i j : Int} {Hs H H' : Hp} {D : Addr} {n : Nat} (h : TabL Hs H D n) (hM : MS m L C i Hs) (r : (frM m L C j).R H H') : TabL Hs H' D n := by
  obtain ⟨rs, h1, h2, h3, h4⟩ := h
  obtain ⟨am, aL, aC⟩ := hM.alive
  have k : ∀ {b : Addr} {o : HO}, Hs b = none → H b = some o → H' b = some o := fun {b o} hb ho => keepN r ho (fun z => am (z ▸ hb)) (fun z => aL (z ▸ hb))
  exact ⟨rs, k h3 h1, h2, h3, fun r hr => ⟨(h4 r hr).1, let ⟨row, a, b⟩ := (h4 r hr).2; ⟨row, k (h4 r hr).1 a, b⟩⟩⟩
theorem ref_int {n : Nat} {rs : List Addr} {row : List Int} (h0 : 0 < n) (hl : rs.length = n) (e : rs.map V.ref = row.map V.int) : False := by
  cases rs with
  | nil => simp at hl; omega
  | cons r rs =>
    cases row with
    | nil => simp at e
    | cons x row => simp at e
theorem TabL.set {Hs H : Hp} {D r : Addr} {n : Nat} {row : List Int} {j : Nat} {x : Int} (h : TabL Hs H D n) (n0 : 0 < n) (hr : H r = some (.lst (row.map V.int))) (hrow : RowN n n row) (x0 : 0 ≤ x) (x1 : x < n) :
    TabL Hs (upd H r (.lst ((row.map V.int).set j (.int x)))) D n := by
  obtain ⟨rs, h1, h2, h3, h4⟩ := h
  have hD : D ≠ r := fun z => by
    rw [z, hr] at h1
    have e : row.map V.int = rs.map V.ref := by injection (Option.some.inj h1)
    exact ref_int n0 h2 e.symm
  refine ⟨rs, by rw [upd_ne hD]; exact h1, h2, h3, fun r' hr' => ⟨(h4 r' hr').1, ?_⟩⟩
  by_cases hrr : r' = r
  · subst hrr
    refine ⟨row.set j x, by rw [upd_same, List.map_set], by rw [List.length_set]; exact hrow.1, fun y hy => ?_⟩
    rcases List.mem_or_eq_of_mem_set hy with h | h
    · exact hrow.2 y h
    · rw [h]
      exact ⟨x0, x1⟩
  · obtain ⟨row', a, b⟩ := (h4 r' hr').2
    exact ⟨row', by rw [upd_ne hrr]; exact a, b⟩
theorem TabL.rows {Hs H : Hp} {D : Addr} {n : Nat} (h : TabL Hs H D n) : ∃ (rs : List Addr) (t : Tb), H D = some (.lst (rs.map V.ref)) ∧ rs.length = n ∧ RowsLs H rs t ∧ Sq n t := by
  obtain ⟨rs, h1, h2, h3, h4⟩ := h
  have : ∀ rs : List Addr, (∀ r ∈ rs, ∃ row : List Int, H r = some (.lst (row.map V.int)) ∧ RowN n n row) → ∃ t : Tb, RowsLs H rs t ∧ ∀ row ∈ t, RowN n n row := by
    intro rs
    induction rs with
    | nil => exact fun _ => ⟨[], ⟨rfl, fun i r row a _ => by simp at a⟩, fun row h => by simp at h⟩
    | cons r rs ih =>
      intro h
      obtain ⟨row, a, b⟩ := h r (by simp)
      obtain ⟨t, ⟨c1, c2⟩, d⟩ := ih fun r' hr' => h r' (by simp [hr'])
      refine ⟨row :: t, ⟨by simp [c1], fun i r' row' e f => ?_⟩, fun row' hr' => ?_⟩
      · cases i with
        | zero =>
          simp at e f
          rw [← e, ← f]
          exact a
        | succ i =>
          simp at e f
          exact c2 i r' row' e f
      · rcases List.mem_cons.mp hr' with e | e
        · rw [e]
          exact b
        · exact d row' e
  obtain ⟨t, ht, hr⟩ := this rs fun r hr => (h4 r hr).2
  exact ⟨rs, t, h1, h2, ht, by rw [← ht.1]; exact h2, hr⟩
theorem TabL.at {Hs H : Hp} {D : Addr} {n : Nat} (h : TabL Hs H D n) {a : Int} (a0 : 0 ≤ a) (a1 : a < n) : ∃ (rs : List Addr) (r : Addr) (row : List Int), H D = some (.lst (rs.map V.ref)) ∧ atI (rs.map V.ref) a = some (.ref r) ∧ Hs r = none ∧ H r = some (.lst (row.map V.int)) ∧ RowN n n row := by
  obtain ⟨rs, h1, h2, h3, h4⟩ := h
  have hi : a.toNat < rs.length := by omega
  obtain ⟨hn, row, c, d⟩ := h4 rs[a.toNat] (List.getElem_mem hi)
  exact ⟨rs, rs[a.toNat], row, h1, atI_of a0 (by rw [List.getElem?_map, List.getElem?_eq_getElem hi]; rfl), hn, c, d⟩
section
variable {K : PySem.W.Frag} {σ : L2.St} {H : Hp} {tl : TE}
/-- [list(row) for row in table] -/
theorem list_rows {p : Addr} {t : Tb} {n j : Nat} {vs : List Nat} {Q : VK} {Hs : Hp} (h : Ev tl σ H (.ref p)) (hT : TabAt H p t) (s : Sq n t) (hz : n ≤ 40000) (eS : Ex Hs H) (hw : ∀ x, wipe ((wipe σ vs).set j (some x)) vs = wipe σ vs) (hg : ∀ x : V, ((wipe σ vs).set j (some x))[j]? = some (some x))
    (q : ∀ (D : Addr) H', Ex H H' → H D = none → TabL Hs H' D n → Q (.ref D) H') : tLc (iTup K tl) (gName j) tYes (tCB (rLo K) (tCons (tVar j) tNil)) vs σ H Q := by
  obtain ⟨rs, hp, hrl, hrr⟩ := hT
  refine h H (Ex.refl H) _ fun H1 e1 => ⟨p, rfl, ⟨_, .inl (.inl (e1 _ _ hp))⟩, fun Dl hDl => ?_⟩
  have hDH : H Dl = none := fresh_back e1 hDl
  have hDs : Hs Dl = none := fresh_back eS hDH
  refine turns_it (walk_tup (K := K) (a := p) (xs := rs.map V.ref)) (fun i G => Ex H1 G ∧ ∃ rs2 : List Addr, G Dl = some (.lst (rs2.map V.ref)) ∧ rs2.length = i ∧ ∀ r ∈ rs2, Hs r = none ∧ ∃ row : List Int, G r = some (.lst (row.map V.int)) ∧ RowN n n row) ⟨Ex.new hDl, [], upd_same, rfl, fun r hr => by simp at hr⟩ (fun i G _ k => .inl (.inl (k.1 _ _ (e1 _ _ hp)))) ?_ ?_
  · rintro i x _ G hi ⟨eG, rs2, hG, hl2, hR2⟩ ⟨rfl, hx⟩
    have hx2 : (rs.map V.ref)[i]? = some x := hx
    rw [List.getElem?_map] at hx2
    obtain ⟨r, hr1, rfl⟩ := Option.map_eq_some_iff.mp hx2
    have hir : i < rs.length := (List.getElem?_eq_some_iff.mp hr1).1
    have hit : i < t.length := by omega
    have hrow := List.getElem?_eq_getElem hit
    have hr2 : G r = some (.tup (t[i].map V.int)) := eG _ _ (e1 _ _ (hrr i r t[i] hr1 hrow))
    have hN := s.row t[i] (List.getElem_mem hit)
    refine ⟨hw _, tyes_go (yes_of rfl ?_)⟩
    refine ⟨_, hg _, r, _, rfl, .inr (.inl (.inl hr2)), fun l hl => ⟨rs2.map V.ref, by rw [upd_ne (ne_of_none hG hl)]; exact hG, ?_, Ex.mut (eG.trans (Ex.new hl)) hDl, rs2 ++ [l], by rw [upd_same, List.map_append]; rfl, by rw [List.length_append, hl2]; rfl, fun r' hr' => ?_⟩⟩
    · rw [List.length_map]
      have := s.len
      exact Nat.lt_of_le_of_lt (by omega : rs2.length ≤ 40000) (by decide)
    · have lD : l ≠ Dl := fun z => by
        rw [z, hG] at hl
        cases hl
      rcases List.mem_append.mp hr' with h | h
      · obtain ⟨a, row, b, c⟩ := hR2 r' h
        refine ⟨a, row, ?_, c⟩
        have rD : r' ≠ Dl := fun z => by
          rw [z, hG] at b
          have e : rs2.map V.ref = row.map V.int := by injection (Option.some.inj b)
          exact ref_int (n := rs2.length) (by cases rs2 <;> simp at h ⊢) rfl e
        rw [upd_ne rD, upd_ne (ne_of_none b hl)]
        exact b
      · simp at h
        subst h
        refine ⟨fresh_back (eS.trans (e1.trans eG)) hl, t[i], ?_, hN⟩
        rw [upd_ne lD]
        exact upd_same
  · rintro G ⟨eG, rs2, hG, hl2, hR2⟩
    refine q Dl G (e1.trans eG) hDH ⟨rs2, hG, ?_, hDs, hR2⟩
    rw [hl2, List.length_map]
    have := s.len
    omega
/-- tables[at][row][place] = thing -/
theorem set_step {Hs : Hp} {Tt D0 D1 : Addr} {n : Nat} {a b c d e : Nat} {at_ row place thing : Int} {D : Ends} (hT : H Tt = some (.lst [.ref D0, .ref D1])) (T0 : TabL Hs H D0 n) (T1 : TabL Hs H D1 n) (n2 : 2 ≤ n)
    (sa : σ[a]? = some (some (.ref Tt))) (sb : σ[b]? = some (some (.int at_))) (sc : σ[c]? = some (some (.int row))) (sd : σ[d]? = some (some (.int place))) (se : σ[e]? = some (some (.int thing)))
    (ha : 0 ≤ at_ ∧ at_ < 2) (hr : 0 ≤ row ∧ row < n) (hp : 0 ≤ place ∧ place < n) (ht : 0 ≤ thing ∧ thing < n)
    (q : ∀ (r : Addr) (o : HO), Hs r = none → (upd H r o) Tt = some (.lst [.ref D0, .ref D1]) → TabL Hs (upd H r o) D0 n → TabL Hs (upd H r o) D1 n → D.nx σ (upd H r o)) :
    tAsg (tVar e) (gSub (tOp (rIxL K) (tOp (rIxL K) (tVar a) (tVar b)) (tVar c)) (tVar d) rSetL) D σ H := by
  have go : ∀ Dx : Addr, TabL Hs H Dx n → atI [V.ref D0, .ref D1] at_ = some (.ref Dx) → tAsg (tVar e) (gSub (tOp (rIxL K) (tOp (rIxL K) (tVar a) (tVar b)) (tVar c)) (tVar d) rSetL) D σ H := fun Dx TX hat => by
    obtain ⟨rs, r, rw_, h1, h2, h3, h4, h5⟩ := TX.at hr.1 hr.2
    refine ⟨_, se, _, sa, _, sb, Tt, _, _, _, rfl, rfl, SqL.of hT, hat, _, sc, Dx, _, _, _, rfl, rfl, SqL.of h1, h2, _, sd, r, _, _, place.toNat, rfl, rfl, h4, ixN_of hp.1 (by rw [List.length_map, h5.1]; omega), ?_⟩
    refine q r _ h3 ?_ (T0.set (by omega) h4 h5 ht.1 ht.2) (T1.set (by omega) h4 h5 ht.1 ht.2)
    rw [upd_ne (fun z => ?_)]
    · exact hT
    · rw [z, h4] at hT
      have e : rw_.map V.int = [D0, D1].map V.ref := by injection (Option.some.inj hT)
      exact ref_int (n := 2) (by decide) rfl e.symm
  by_cases h0 : at_ = 0
  · subst h0
    exact go D0 T0 rfl
  · obtain rfl : at_ = 1 := by omega
    exact go D1 T1 rfl
end
end D1
end
section
set_option Elab.async false
set_option linter.all false
set_option maxRecDepth 100000
set_option maxHeartbeats 4000000
/-! D16: _law_changed -/
namespace D1
open PySem L2 Evl RZ
theorem cons_step {te : TE} {t : TA} {σ : L2.St} {H : Hp} {Q : List V → Hp → Prop} (h : te σ H fun x H1 => t σ H1 fun xs H2 => Q (x :: xs) H2) : tCons te t σ H Q := h
theorem lst_step {te : TE} {t : TA} {σ : L2.St} {H : Hp} {Q : VK} (h : te σ H fun x H1 => t σ H1 fun xs H2 => (x :: xs).length ≤ sizeLine ∧ ∀ p, H2 p = none → Q (.ref p) (upd H2 p (.lst (x :: xs)))) : tLst (tCons te t) σ H Q := h
end D1
end
section
set_option Elab.async false
set_option linter.all false
set_option maxRecDepth 100000
set_option maxHeartbeats 4000000
/-! G3: lists of rows that change, with what stands in them -/
namespace D1
open PySem L2 Evl RZ
def setT (t : Tb) (a b x : Int) : Tb := t.set a.toNat ((t.getD a.toNat []).set b.toNat x)
def TabC (Hs H : Hp) (D : Addr) (n : Nat) (rs : List Addr) (t : Tb) : Prop :=
  H D = some (.lst (rs.map V.ref)) ∧ rs.length = n ∧ Hs D = none ∧ Sq n t ∧ rs.Nodup ∧ (∀ r ∈ rs, Hs r = none) ∧ RowsLs H rs t
theorem TabC.ex {Hs H H' : Hp} {D : Addr} {n : Nat} {rs : List Addr} {t : Tb} (h : TabC Hs H D n rs t) (e : Ex H H') : TabC Hs H' D n rs t := by
  obtain ⟨h1, h2, h3, h4, h5, h6, h7⟩ := h
  exact ⟨e _ _ h1, h2, h3, h4, h5, h6, h7.ex e⟩
theorem TabC.at {Hs H : Hp} {D : Addr} {n : Nat} {rs : List Addr} {t : Tb} (h : TabC Hs H D n rs t) {a : Int} (a0 : 0 ≤ a) (a1 : a < n) : ∃ (r : Addr) (row : List Int), rs[a.toNat]? = some r ∧ t[a.toNat]? = some row ∧ atI (rs.map V.ref) a = some (.ref r) ∧ r ∈ rs ∧ H r = some (.lst (row.map V.int)) ∧ RowN n n row := by
  obtain ⟨h1, h2, h3, h4, h5, h6, h7⟩ := h
  have hi : a.toNat < rs.length := by omega
  have hj : a.toNat < t.length := by have := h4.len; omega
  have e1 := List.getElem?_eq_getElem hi
  have e2 := List.getElem?_eq_getElem hj
  exact ⟨rs[a.toNat], t[a.toNat], e1, e2, atI_of a0 (by rw [List.getElem?_map, e1]; rfl), List.getElem_mem hi, h7.2 _ _ _ e1 e2, h4.row _ (List.getElem_mem hj)⟩
theorem TabC.ne {Hs H : Hp} {D r : Addr} {n : Nat} {rs : List Addr} {t : Tb} {row : List Int} (h : TabC Hs H D n rs t) (n0 : 0 < n) (hr : H r = some (.lst (row.map V.int))) : D ≠ r := fun z => by
  have h1 := h.1
  rw [z, hr] at h1
  have e : row.map V.int = rs.map V.ref := by injection (Option.some.inj h1)
  exact ref_int n0 h.2.1 e.symm
/-- a row of another list changes -/
theorem TabC.other {Hs H : Hp} {D r : Addr} {n : Nat} {rs : List Addr} {t : Tb} {o : HO} {row : List Int} (h : TabC Hs H D n rs t) (n0 : 0 < n) (hr : H r = some (.lst (row.map V.int))) (hn : r ∉ rs) : TabC Hs (upd H r o) D n rs t := by
  have hD := h.ne n0 hr
  obtain ⟨h1, h2, h3, h4, h5, h6, h7⟩ := h
  refine ⟨by rw [upd_ne hD]; exact h1, h2, h3, h4, h5, h6, h7.1, fun i r' row' a b => ?_⟩
  have ne : r' ≠ r := fun z => hn (z ▸ List.mem_of_getElem? a)
  rw [upd_ne ne]
  exact h7.2 i r' row' a b
theorem setT_sq {n : Nat} {t : Tb} (s : Sq n t) {a b x : Int} (ha : In n a) (hx : In n x) : Sq n (setT t a b x) := by
  obtain ⟨a0, a1⟩ := ha
  have hi : a.toNat < t.length := by have := s.len; omega
  have hg : t.getD a.toNat [] = t[a.toNat] := by rw [List.getD_eq_getElem?_getD, List.getElem?_eq_getElem hi]; rfl
  refine ⟨by unfold setT; rw [List.length_set]; exact s.len, fun r hr => ?_⟩
  unfold setT at hr
  rw [hg] at hr
  have hrow := s.row t[a.toNat] (List.getElem_mem hi)
  rcases List.mem_or_eq_of_mem_set hr with h | h
  · exact s.row r h
  · subst h
    refine ⟨by rw [List.length_set]; exact hrow.1, fun y hy => ?_⟩
    rcases List.mem_or_eq_of_mem_set hy with h | h
    · exact hrow.2 y h
    · rw [h]
      exact hx
theorem cell_setT {n : Nat} {t : Tb} (s : Sq n t) {a b x c d : Int} (ha : In n a) (hb : In n b) (hc : In n c) (hd : In n d) : cell (setT t a b x) c d = if c = a ∧ d = b then x else cell t c d := by
  obtain ⟨a0, a1⟩ := ha
  obtain ⟨b0, b1⟩ := hb
  obtain ⟨c0, c1⟩ := hc
  obtain ⟨d0, d1⟩ := hd
  have hl := s.len
  have hi : a.toNat < t.length := by omega
  have hk : c.toNat < t.length := by omega
  have hg : t.getD a.toNat [] = t[a.toNat] := by rw [List.getD_eq_getElem?_getD, List.getElem?_eq_getElem hi]; rfl
  have ra := (s.row t[a.toNat] (List.getElem_mem hi)).1
  have rc := (s.row t[c.toNat] (List.getElem_mem hk)).1
  unfold cell setT
  rw [hg]
  by_cases hca : c = a
  · subst hca
    have e1 : (t.set c.toNat (t[c.toNat].set b.toNat x)).getD c.toNat [] = t[c.toNat].set b.toNat x := by
      rw [List.getD_eq_getElem?_getD, List.getElem?_set_self hi]
      rfl
    rw [e1]
    by_cases hdb : d = b
    · subst hdb
      rw [if_pos ⟨rfl, rfl⟩, List.getD_eq_getElem?_getD, List.getElem?_set_self (by omega)]
      rfl
    · rw [if_neg (fun z => hdb z.2), List.getD_eq_getElem?_getD, List.getElem?_set_ne (by omega), List.getD_eq_getElem?_getD, List.getD_eq_getElem?_getD, List.getElem?_eq_getElem hi]
      rfl
  · rw [if_neg (fun z => hca z.1)]
    have e1 : (t.set a.toNat (t[a.toNat].set b.toNat x)).getD c.toNat [] = t.getD c.toNat [] := by
      rw [List.getD_eq_getElem?_getD, List.getElem?_set_ne (by omega), List.getD_eq_getElem?_getD]
    rw [e1]
/-- a row of it changes -/
theorem TabC.set {Hs H : Hp} {D r : Addr} {n : Nat} {rs : List Addr} {t : Tb} {row : List Int} {a b x : Int} (h : TabC Hs H D n rs t) (n0 : 0 < n) (ha : In n a) (hx : In n x) (hr : rs[a.toNat]? = some r) (ht : t[a.toNat]? = some row) : TabC Hs (upd H r (.lst ((row.map V.int).set b.toNat (.int x)))) D n rs (setT t a b x) := by
  have hr2 : H r = some (.lst (row.map V.int)) := h.2.2.2.2.2.2.2 _ _ _ hr ht
  have hD := h.ne n0 hr2
  obtain ⟨h1, h2, h3, h4, h5, h6, h7⟩ := h
  refine ⟨by rw [upd_ne hD]; exact h1, h2, h3, setT_sq h4 ha hx, h5, h6, by unfold setT; rw [List.length_set]; exact h7.1, fun i r' row' e f => ?_⟩
  have hg : t.getD a.toNat [] = row := by rw [List.getD_eq_getElem?_getD, ht]; rfl
  unfold setT at f
  rw [hg] at f
  by_cases hi : i = a.toNat
  · subst hi
    have e2 : r' = r := Option.some.inj (e.symm.trans hr)
    subst e2
    have hl : a.toNat < t.length := (List.getElem?_eq_some_iff.mp ht).1
    rw [List.getElem?_set_self hl] at f
    obtain rfl := Option.some.inj f
    rw [upd_same, List.map_set]
  · rw [List.getElem?_set_ne (fun z => hi z.symm)] at f
    have ne : r' ≠ r := fun z => by
      subst z
      have i1 := (List.getElem?_eq_some_iff.mp e)
      have i2 := (List.getElem?_eq_some_iff.mp hr)
      obtain ⟨k1, k2⟩ := i1
      obtain ⟨k3, k4⟩ := i2
      exact hi ((List.getElem_inj h5).mp (k2.trans k4.symm))
    rw [upd_ne ne]
    exact h7.2 i r' row' e f
theorem rep0 (n : Nat) : (List.replicate n [V.int 0]).flatten = (List.replicate n (0 : Int)).map V.int := by
  induction n with
  | zero => rfl
  | succ n ih => rw [List.replicate_succ, List.flatten_cons, ih, List.replicate_succ]; rfl
section
variable {K : PySem.W.Frag} {σ : L2.St} {H : Hp} {te te1 te2 : TE}
/-- [[0] * side for k in range(side)] -/
theorem zero_rowsC {n j s : Nat} {vs : List Nat} {Q : VK} {Hs : Hp} (n1 : 1 ≤ n) (n6 : n ≤ 6) (h0 : σ[s]? = some (some (.int n))) (hs : ∀ x : V, ((wipe σ vs).set j (some x))[s]? = some (some (.int n))) (eS : Ex Hs H) (hw : ∀ x, wipe ((wipe σ vs).set j (some x)) vs = wipe σ vs)
    (q : ∀ (D : Addr) (rs : List Addr) (t : Tb) H', Ex H H' → H D = none → (∀ r ∈ rs, H r = none) → TabC Hs H' D n rs t → Q (.ref D) H') : tLc (iRng1 (tCons (tVar s) tNil)) (gName j) tYes (tOp rRep (tLst (tCons (tC (.int 0)) tNil)) (tVar s)) vs σ H Q := by
  refine ⟨_, h0, (n : Int), rfl, by omega, by omega, fun Dl hDl => ?_⟩
  have hDs : Hs Dl = none := fresh_back eS hDl
  refine turns_it (walk_range (lo := 0) (n := ((n : Nat) : Int).toNat)) (fun i G => Ex H G ∧ ∃ (rs2 : List Addr) (t2 : Tb), G Dl = some (.lst (rs2.map V.ref)) ∧ rs2.length = i ∧ rs2.Nodup ∧ (∀ r ∈ rs2, H r = none) ∧ (∀ row ∈ t2, RowN n n row) ∧ RowsLs G rs2 t2) ⟨Ex.new hDl, [], [], upd_same, rfl, List.nodup_nil, fun r hr => by simp at hr, fun r hr => by simp at hr, rfl, fun i r row a _ => by simp at a⟩ (fun _ _ _ _ => True.intro) ?_ ?_
  · rintro i x _ G hi ⟨eG, rs2, t2, hG, hl2, hnd, hfr, hrow, hR2⟩ ⟨rfl, rfl⟩
    refine ⟨hw _, tyes_go (yes_of rfl ?_)⟩
    refine ⟨by show 1 ≤ sizeLine; decide, fun z hz => ⟨_, hs _, z, _, _, rfl, rfl, upd_same, by omega, by omega, ?_, fun l hl => ?_⟩⟩
    · refine Nat.le_trans ?_ (by decide : 6 ≤ sizeLine)
      show 1 * ((n : Int)).toNat ≤ 6
      omega
    · have hGz : (upd G z (.lst [V.int 0])) Dl = some (.lst (rs2.map V.ref)) := by rw [upd_ne (ne_of_none hG hz)]; exact hG
      have eN := (eG.trans (Ex.new (o := .lst [V.int 0]) hz))
      have lD : l ≠ Dl := fun w => by
        rw [w, hGz] at hl
        cases hl
      have alive : ∀ r ∈ rs2, ∃ row : List Int, G r = some (.lst (row.map V.int)) := fun r hr => by
        obtain ⟨k, hk, rfl⟩ := List.getElem_of_mem hr
        have hk2 : k < t2.length := by have := hR2.1; omega
        exact ⟨_, hR2.2 k _ _ (List.getElem?_eq_getElem hk) (List.getElem?_eq_getElem hk2)⟩
      have lnot : l ∉ rs2 := fun hmem => by
        obtain ⟨row, ha⟩ := alive l hmem
        have h2 : (upd G z (.lst [V.int 0])) l = some (.lst (row.map V.int)) := by rw [upd_ne (ne_of_none ha hz)]; exact ha
        rw [hl] at h2
        cases h2
      refine ⟨rs2.map V.ref, by rw [upd_ne (ne_of_none hGz hl)]; exact hGz, ?_, Ex.mut (eN.trans (Ex.new hl)) hDl, rs2 ++ [l], t2 ++ [List.replicate n 0], by rw [upd_same, List.map_append]; rfl, by rw [List.length_append, hl2]; rfl, ?_, fun r' hr' => ?_, fun row hr' => ?_, ?_⟩
      · rw [List.length_map]
        exact Nat.lt_of_le_of_lt (by omega : rs2.length ≤ 6) (by decide)
      · exact List.nodup_append.mpr ⟨hnd, List.nodup_cons.mpr ⟨fun h => (by simp at h), List.nodup_nil⟩, fun a ha b hb z => by
          rw [List.mem_singleton.mp hb] at z
          exact lnot (z ▸ ha)⟩
      · rcases List.mem_append.mp hr' with h | h
        · exact hfr r' h
        · rw [List.mem_singleton.mp h]
          exact fresh_back eN hl
      · rcases List.mem_append.mp hr' with h | h
        · exact hrow row h
        · rw [List.mem_singleton.mp h]
          refine ⟨by rw [List.length_replicate], fun y hy => ?_⟩
          rw [List.eq_of_mem_replicate hy]
          omega
      · refine ⟨by rw [List.length_append, List.length_append, hR2.1]; rfl, fun k r' row' a b => ?_⟩
        by_cases hk : k < rs2.length
        · rw [List.getElem?_append_left hk] at a
          rw [List.getElem?_append_left (by have := hR2.1; omega)] at b
          have c := hR2.2 k r' row' a b
          have rD : r' ≠ Dl := fun w => by
            rw [w, hG] at c
            have e : rs2.map V.ref = row'.map V.int := by injection (Option.some.inj c)
            exact ref_int (n := rs2.length) (by omega) rfl e
          have c2 : (upd G z (.lst [V.int 0])) r' = some (.lst (row'.map V.int)) := by rw [upd_ne (ne_of_none c hz)]; exact c
          rw [upd_ne rD, upd_ne (ne_of_none c2 hl)]
          exact c2
        · rw [List.getElem?_append_right (by omega)] at a
          rw [List.getElem?_append_right (by have := hR2.1; omega)] at b
          have ek : k - t2.length = k - rs2.length := by rw [hR2.1]
          rw [ek] at b
          generalize k - rs2.length = m at a b
          match m, a, b with
          | 0, a, b =>
            obtain rfl : l = r' := Option.some.inj a
            obtain rfl : List.replicate n 0 = row' := Option.some.inj b
            rw [upd_ne lD, upd_same]
            have e : ((n : Int)).toNat = n := rfl
            rw [e, rep0]
          | _ + 1, a, b => cases a
  · rintro G ⟨eG, rs2, t2, hG, hl2, hnd, hfr, hrow, hR2⟩
    have hl3 : rs2.length = n := hl2
    exact q Dl rs2 t2 G eG hDl hfr ⟨hG, hl3, hDs, ⟨by rw [← hR2.1]; exact hl3, hrow⟩, hnd, fun r hr => fresh_back eS (hfr r hr), hR2⟩
/-- rows[e1][e2] = thing -/
theorem set_cellC {Hs : Hp} {Dx : Addr} {n p : Nat} {rs : List Addr} {t : Tb} {row place thing : Int} {Qn : L2.St → Hp → Prop} (TX : TabC Hs H Dx n rs t) (n1 : 1 ≤ n) (sp : σ[p]? = some (some (.ref Dx))) (h1 : Ev te1 σ H (.int row)) (h2 : ∀ H1, Ex H H1 → Ev te2 σ H1 (.int place))
    (hr : In n row) (hp : In n place) (ht : In n thing)
    (q : ∀ (r : Addr) (o : HO) H2, Ex H H2 → Hs r = none → TabC Hs (upd H2 r o) Dx n rs (setT t row place thing) → (∀ D' rs' t', TabC Hs H2 D' n rs' t' → (∀ r ∈ rs, r ∉ rs') → TabC Hs (upd H2 r o) D' n rs' t') → Qn σ (upd H2 r o)) :
    gSub (tOp (rIxL K) (tVar p) te1) te2 rSetL (.int thing) σ H Qn := by
  obtain ⟨r, rw_, k1, k2, k3, k4, k5, k6⟩ := TX.at hr.1 hr.2
  refine ⟨_, sp, h1 H (Ex.refl H) _ fun H2 e2 => ⟨Dx, _, _, _, rfl, rfl, SqL.of (e2 _ _ TX.1), k3, h2 H2 e2 H2 (Ex.refl H2) _ fun H3 e3 => ⟨r, _, _, place.toNat, rfl, rfl, (e2.trans e3) _ _ k5, ixN_of hp.1 (by rw [List.length_map, k6.1]; have a1 := hp.1; have a2 := hp.2; omega), ?_⟩⟩⟩
  have e := e2.trans e3
  exact q r _ H3 e (TX.2.2.2.2.2.1 r k4) ((TX.ex e).set (by omega) hr ht k1 k2) fun D' rs' t' T' hd => T'.other (by omega) (e _ _ k5) (hd r k4)
end
end D1
end
section
set_option Elab.async false
set_option linter.all false
set_option maxRecDepth 100000
set_option maxHeartbeats 4000000
/-! D17: _law_table -/
namespace D1
open PySem L2 Evl RZ
def spTable : Sp := fun vs H Q _ => ∃ (m L C : Addr) (j : Int), vs = [.ref m] ∧ MS m L C j H ∧ j < 2 ^ 40 ∧ ∀ (v : V) (n : Nat) (S M : Tb) H', (frM m L C (j + 100)).R H H' → 2 ≤ n → n ≤ 6 → Sq n S → Sq n M → GoodT n S M → MkAt H' v (.tab S M) → Q v H'
theorem map_erase : ∀ (l : List Int) (k : Nat), (l.map V.int).eraseIdx k = (l.eraseIdx k).map V.int
  | [], _ => rfl
  | _ :: _, 0 => rfl
  | _ :: l, k + 1 => by
    show V.int _ :: (l.map V.int).eraseIdx k = V.int _ :: (l.eraseIdx k).map V.int
    rw [map_erase l k]
theorem fresh_R {m L C p : Addr} {j : Int} {H H1 : Hp} (r : (frM m L C j).R H H1) (h : H1 p = none) (a : p ≠ m) (b : p ≠ L) : H p = none := by
  cases e : H p with
  | none => rfl
  | some o =>
    have := keepN r e a b
    rw [h] at this
    cases this
def thF (os : List Int) (a : Int) : Int := os.getD a.toNat 0
theorem thF_at {os : List Int} {a : Int} (ha : In os.length a) : os[a.toNat]? = some (thF os a) ∧ thF os a ∈ os := by
  obtain ⟨a0, a1⟩ := ha
  have hi : a.toNat < os.length := by omega
  have e : thF os a = os[a.toNat] := by unfold thF; rw [List.getD_eq_getElem?_getD, List.getElem?_eq_getElem hi]; rfl
  rw [e]
  exact ⟨List.getElem?_eq_getElem hi, List.getElem_mem hi⟩
theorem thF_inj {os : List Int} (nd : os.Nodup) {a b : Int} (ha : In os.length a) (hb : In os.length b) (e : thF os a = thF os b) : a = b := by
  have h1 := (thF_at ha).1
  have h2 := (thF_at hb).1
  rw [e, ← h2] at h1
  obtain ⟨a0, a1⟩ := ha
  obtain ⟨b0, b1⟩ := hb
  have ka : a.toNat < os.length := by omega
  have kb : b.toNat < os.length := by omega
  rw [List.getElem?_eq_getElem ka, List.getElem?_eq_getElem kb] at h1
  have := (List.getElem_inj nd).mp (Option.some.inj h1)
  omega
theorem nodup_rg (n : Nat) : (rg n).Nodup := by
  unfold rg
  rw [List.nodup_iff_pairwise_ne]
  refine List.Pairwise.map _ ?_ (List.nodup_iff_pairwise_ne.mp List.nodup_range)
  intro a b h z
  exact h (by omega)
theorem rg_two {n : Nat} (n2 : 2 ≤ n) (n6 : n ≤ 6) : ([0, 1] : List Int) ++ ((List.range ((n : Int) - 2).toNat).map fun (i : Nat) => (2 : Int) + (i : Int)) = rg n := by
  match n, n2, n6 with
  | 2, _, _ => decide
  | 3, _, _ => decide
  | 4, _, _ => decide
  | 5, _, _ => decide
  | 6, _, _ => decide
theorem eraseIdx_perm : ∀ (l : List Int) (i : Nat) (h : i < l.length), (l[i] :: l.eraseIdx i).Perm l
  | _ :: _, 0, _ => List.Perm.refl _
  | c :: l, i + 1, h => (List.Perm.swap c _ _).trans (List.Perm.cons c (eraseIdx_perm l i (Nat.lt_of_succ_lt_succ h)))
theorem perm_step {os ps : List Int} {r : List Int} {d : Nat} (hd : d < ps.length) (h : (os ++ ps).Perm r) : ((os ++ [ps[d]]) ++ ps.eraseIdx d).Perm r := by
  rw [List.append_assoc]
  exact ((List.Perm.append_left os (eraseIdx_perm ps d hd)).trans h)
theorem ints_at {os : List Int} {n : Nat} {x : Int} (hl : os.length = n) (ho : ∀ x ∈ os, 0 ≤ x ∧ x < (n : Int)) (x0 : 0 ≤ x) (x1 : x < n) : ∃ y : Int, atI (os.map V.int) x = some (.int y) ∧ 0 ≤ y ∧ y < n := by
  have hi : x.toNat < os.length := by omega
  have := ho os[x.toNat] (List.getElem_mem hi)
  exact ⟨os[x.toNat], atI_of x0 (by rw [List.getElem?_map, List.getElem?_eq_getElem hi]; rfl), this.1, this.2⟩
theorem par_step {i j : Nat} {t : TA} {z : TS} {D : Ends} {σ : L2.St} {H : Hp} (h : t σ H fun vs H1 => ∃ v w, vs = [v, w] ∧ z D ((σ.set i (some v)).set j (some w)) H1) : tSeq (tPar i j t) z D σ H := h
theorem ret_tup {t : TA} {D : Ends} {σ : L2.St} {H : Hp} (h : t σ H fun xs H1 => xs.length ≤ sizeLine ∧ ∀ p, H1 p = none → D.rt (.ref p) (upd H1 p (.tup xs))) : tRet (tTup t) D σ H := h
theorem cons_c {v : V} {t : TA} {σ : L2.St} {H : Hp} {Q : List V → Hp → Prop} (h : t σ H fun xs H2 => Q (v :: xs) H2) : tCons (tC v) t σ H Q := h
section
variable {P : Program} {w : World} {K : PySem.W.Frag} {mg : Str → Option Value} {base : Heap}
abbrev s_table : Stmt := top 79
theorem sc_table : FnScope ["_law_m", "_law_way", "_law_side", "_law_period", "_law_order", "_law_pile", "_law_plus", "_law_times", "_law_a", "_law_b", "_law_k", "_law_row"] ["_law_m"] (defScope s_table) := ⟨rfl, rfl, rfl, by decide +kernel, rfl, by decide +kernel, by decide +kernel⟩
theorem ok_table {f : Addr} {fd : FuncData} (F : FnP K "_law_table" s_table f fd) {f_draw : Addr} {fd_draw : FuncData} (F_draw : FnP K "_law_draw" s_draw f_draw fd_draw) (g_draw : mg "_law_draw" = some (.ref f_draw)) (G_draw : FnOk P w K mg base CX0 2 f_draw fd_draw ["_law_m", "_law_many"] spDraw) {f_base : Addr} {fd_base : FuncData} (F_base : FnP K "_law_base" s_base f_base fd_base) (g_base : mg "_law_base" = some (.ref f_base)) (G_base : FnOk P w K mg base CX0 1 f_base fd_base ["_law_way", "_law_side", "_law_period", "_law_a", "_law_b", "_law_is_sum"] spBase) (z_range : mg "range" = none) (z_tuple : mg "tuple" = none) (z_list : mg "list" = none) (z_len : mg "len" = none) : FnOk P w K mg base CX0 3 f fd ["_law_m"] spTable := by
  have b_draw : Binds K fd_draw ["_law_m", "_law_many"] [] := F_draw.bindsN fun _ _ _ _ _ _ us hl => match us, hl with | [_, _], _ => rfl
  have b_base : Binds K fd_base ["_law_way", "_law_side", "_law_period", "_law_a", "_law_b", "_law_is_sum"] [] := F_base.bindsN fun _ _ _ _ _ _ us hl => match us, hl with | [_, _, _, _, _, _], _ => rfl
  refine F.ok sc_table (fun vs H Q E h => ?_) (fun cdv A outer s H vs Q E hr h => ?_)
  · obtain ⟨m, L, C, j, rfl, _⟩ := h
    rfl
  · obtain ⟨m, L, C, j, rfl, hM, hj, q⟩ := h
    have hu := hu_of hr
    have hu64 := hr.units
    have hr_draw := hr
    have hr_base := hr.mono (by decide : 1 ≤ 2)
    have j0 : 0 ≤ j := by
      obtain ⟨_, _, _, k, _, _, _, _, _, h6, h7⟩ := hM
      omega
    refine ⟨_, PSs.nox (pss_cons (ps_asg (pe_tup (pa_cons (pe_call G_draw hr_draw rfl g_draw F_draw.kp b_draw .nil pass0 (pa_cons (pv 0) (pa_cons pe_int pa_nil))) (pa_cons (pe_op op_add pe_int (pe_call G_draw hr_draw rfl g_draw F_draw.kp b_draw .nil pass0 (pa_cons (pv 0) (pa_cons pe_int pa_nil)))) pa_nil))) (pg_tup rfl (pgs_cons (pg_name (i := 1) sc_table.nd rfl (Or.inl rfl)) (pgs_cons (pg_name (i := 2) sc_table.nd rfl (Or.inr rfl)) pgs_nil))))
      (pss_cons (ps_set (i := 2) sc_table.nd rfl (Or.inr rfl) (pe_ifExp (pt_cmpR op_gt (pv 1) pe_int (nomark _)) pe_int (pv 2)))
      (pss_cons (ps_par3 (i := 3) (j := 4) (l := 5) (by rfl) sc_table.nd rfl rfl rfl (by decide) (by decide) (by decide) rfl rfl rfl (pa_cons (pe_op op_add pe_int (pe_call G_draw hr_draw rfl g_draw F_draw.kp b_draw .nil pass0 (pa_cons (pv 0) (pa_cons (pv 2) pa_nil)))) (pa_cons (pe_lst (pa_cons pe_int (pa_cons pe_int pa_nil))) (pa_cons (pe_listRg rfl rfl z_list (prg_2 rfl z_range pe_int (pv 2))) pa_nil))) (by rfl))
      (pss_cons (ps_while PassesOwn.never (pt_cmpR (op_neD hu64) (pv 5) (pe_lst pa_nil) (nomark _)) (pss_one (ps_expr (pe_bm PySem.F.plainAttrs_list PySem.F.slot_list_append PySem.F.type_list_append mt_append (pv 4) (pa_cons (pe_bm PySem.F.plainAttrs_list PySem.F.slot_list_pop PySem.F.type_list_pop mt_popAt (pv 5) (pa_cons (pe_call G_draw hr_draw rfl g_draw F_draw.kp b_draw .nil pass0 (pa_cons (pv 0) (pa_cons (pe_callB call_len_seq (by rfl) z_len PySem.boot_len (pa_cons (pv 5) pa_nil)) pa_nil))) pa_nil)) pa_nil)))))
      (pss_cons (ps_par (i := 6) (j := 7) (by rfl) sc_table.nd rfl rfl (by decide) rfl rfl (pa_cons (pe_lc (own := [("_law_k", 10)]) (g := gName 10) (tt := tYes) (by rfl) sc_table.nd (pi_range1 rfl z_range (pa_cons (pv 2) pa_nil)) (blkOk_by (own := [("_law_k", 10)]) (N := ["_law_m", "_law_way", "_law_side", "_law_period", "_law_order", "_law_pile", "_law_plus", "_law_times", "_law_a", "_law_b", "_law_k", "_law_row"]) (sc := defScope s_table) (by decide +kernel)) (fun _ _ _ _ _ => pg_name (i := 10) sc_table.nd rfl (Or.inl rfl)) (fun _ _ _ _ _ => pts_nil) (fun _ _ _ _ _ => pe_op op_rep (pe_lst (pa_cons pe_int pa_nil)) (pv 2))) (pa_cons (pe_lc (own := [("_law_k", 10)]) (g := gName 10) (tt := tYes) (by rfl) sc_table.nd (pi_range1 rfl z_range (pa_cons (pv 2) pa_nil)) (blkOk_by (own := [("_law_k", 10)]) (N := ["_law_m", "_law_way", "_law_side", "_law_period", "_law_order", "_law_pile", "_law_plus", "_law_times", "_law_a", "_law_b", "_law_k", "_law_row"]) (sc := defScope s_table) (by decide +kernel)) (fun _ _ _ _ _ => pg_name (i := 10) sc_table.nd rfl (Or.inl rfl)) (fun _ _ _ _ _ => pts_nil) (fun _ _ _ _ _ => pe_op op_rep (pe_lst (pa_cons pe_int pa_nil)) (pv 2))) pa_nil)) (by rfl))
      (pss_cons (ps_for PassesOwn.never rfl (pi_range1 rfl z_range (pa_cons (pv 2) pa_nil)) (pg_name (i := 8) sc_table.nd rfl (Or.inl rfl)) (pss_one (ps_for PassesOwn.never rfl (pi_range1 rfl z_range (pa_cons (pv 2) pa_nil)) (pg_name (i := 9) sc_table.nd rfl (Or.inl rfl)) (pss_cons (ps_asg (pe_ix ix_list (pv 4) (pe_call G_base hr_base rfl g_base F_base.kp b_base .nil pass0 (pa_cons (pv 1) (pa_cons (pv 2) (pa_cons (pv 3) (pa_cons (pv 8) (pa_cons (pv 9) (pa_cons pe_bl pa_nil))))))) (fun _ _ => rfl)) (pg_sub (pe_ix ix_list (pv 6) (pe_ix ix_list (pv 4) (pv 8) (fun _ _ => rfl)) (fun _ _ => rfl)) (pe_ix ix_list (pv 4) (pv 9) (fun _ _ => rfl)) set_list))
      (pss_one (ps_asg (pe_ix ix_list (pv 4) (pe_call G_base hr_base rfl g_base F_base.kp b_base .nil pass0 (pa_cons (pv 1) (pa_cons (pv 2) (pa_cons (pv 3) (pa_cons (pv 8) (pa_cons (pv 9) (pa_cons pe_bl pa_nil))))))) (fun _ _ => rfl)) (pg_sub (pe_ix ix_list (pv 7) (pe_ix ix_list (pv 4) (pv 8) (fun _ _ => rfl)) (fun _ _ => rfl)) (pe_ix ix_list (pv 4) (pv 9) (fun _ _ => rfl)) set_list)))))))
      (pss_one (ps_ret (pe_tup (pa_cons pe_str (pa_cons (pe_tupleOf rfl z_tuple (pe_lc (own := [("_law_row", 11)]) (g := gName 11) (tt := tYes) (te := tThen (tVar 11) (kTup K)) (by rfl) sc_table.nd (pi_list (pv 6)) (blkOk_by (own := [("_law_row", 11)]) (N := ["_law_m", "_law_way", "_law_side", "_law_period", "_law_order", "_law_pile", "_law_plus", "_law_times", "_law_a", "_law_b", "_law_k", "_law_row"]) (sc := defScope s_table) (by decide +kernel)) (fun _ _ _ _ _ => pg_name (i := 11) sc_table.nd rfl (Or.inl rfl)) (fun _ _ _ _ _ => pts_nil) (fun _ _ _ _ _ => pe_tupleOf rfl z_tuple (pv 11)))) (pa_cons (pe_tupleOf rfl z_tuple (pe_lc (own := [("_law_row", 11)]) (g := gName 11) (tt := tYes) (te := tThen (tVar 11) (kTup K)) (by rfl) sc_table.nd (pi_list (pv 7)) (blkOk_by (own := [("_law_row", 11)]) (N := ["_law_m", "_law_way", "_law_side", "_law_period", "_law_order", "_law_pile", "_law_plus", "_law_times", "_law_a", "_law_b", "_law_k", "_law_row"]) (sc := defScope s_table) (by decide +kernel)) (fun _ _ _ _ _ => pg_name (i := 11) sc_table.nd rfl (Or.inl rfl)) (fun _ _ _ _ _ => pts_nil) (fun _ _ _ _ _ => pe_tupleOf rfl z_tuple (pv 11)))) pa_nil)))))))))))), ?_⟩
    refine ⟨_, rfl, m, L, C, 6, j, rfl, hM, by omega, by decide, by decide, fun way H1 way0 way1 r1 => ?_⟩
    refine ⟨_, rfl, m, L, C, 5, _, rfl, r1.inv, by omega, by decide, by decide, fun sd H2 sd0 sd1 r2 => ⟨_, _, rfl, rfl, ?_⟩⟩
    refine ⟨by show 2 ≤ sizeLine; decide, fun T0 hT0 => ⟨T0, _, rfl, .inl (.inl upd_same), rfl, _, _, rfl, _, _, rfl, rfl, ?_⟩⟩
    have r3 : (frM m L C (j + 1 + 1)).R H (upd H2 T0 (.tup [.int way, .int (2 + sd)])) := rex (and_then r1 r2) (Ex.new hT0)
    show tSeq _ _ _ [some (.ref m), some (.int way), some (.int (2 + sd)), none, none, none, none, none, none, none, none, none] (upd H2 T0 (.tup [.int way, .int (2 + sd)]))
    generalize upd H2 T0 (.tup [.int way, .int (2 + sd)]) = H3 at r3 ⊢
    obtain ⟨n, hn, n2, n6, n4⟩ : ∃ n : Nat, (if 3 < way then (4 : Int) else 2 + sd) = n ∧ 2 ≤ n ∧ n ≤ 6 ∧ (3 < way → (n : Int) = 4) := ⟨(if 3 < way then (4 : Int) else 2 + sd).toNat, by split <;> omega, by split <;> omega, by split <;> omega, fun h => by rw [if_pos h]; rfl⟩
    refine q_asg (v := .int n) (ev_if (b := decide (3 < way)) (et_test (ev_op (ev_var rfl) ev_c rv_I0)) (fun h => ?_) (fun h => ?_)) fun H4 e4 => ?_
    · rw [← hn, if_pos (of_decide_eq_true h)]
      exact ev_c
    · rw [← hn, if_neg (of_decide_eq_false h)]
      exact ev_var rfl
    have r4 := rex r3 e4
    refine ⟨_, rfl, _, rfl, m, L, C, n, _, rfl, r4.inv, by omega, by omega, by omega, fun pd H5 pd0 pd1 r5 => ⟨_, _, rfl, rfl, ?_⟩⟩
    have r05 := and_then r4 r5
    refine ⟨by show 2 ≤ sizeLine; decide, fun O hO => ⟨_, rfl, 2, (n : Int), rfl, rfl, RgOk.of_le (by omega) (by omega) (by omega) (by omega), fun Pl hPl => ⟨_, _, _, rfl, ?_⟩⟩⟩
    have e6 := (Ex.new (o := .lst [.int 0, .int 1]) hO).trans (Ex.new (o := .lst (rgV 2 n)) hPl)
    have r6 := rex r05 e6
    have hPl5 : H5 Pl = none := fresh_back (Ex.new hO) hPl
    have hOP : O ≠ Pl := fun z => by rw [← z, upd_same] at hPl; cases hPl
    have hO6 : (upd (upd H5 O (.lst [.int 0, .int 1])) Pl (.lst (rgV 2 n))) O = some (.lst (([0, 1] : List Int).map V.int)) := by
      rw [upd_ne hOP]
      exact upd_same
    have hP6 : (upd (upd H5 O (.lst [.int 0, .int 1])) Pl (.lst (rgV 2 n))) Pl = some (.lst (((List.range ((n : Int) - 2).toNat).map fun (i : Nat) => (2 : Int) + (i : Int)).map V.int)) := by
      rw [upd_same]
      unfold rgV
      rw [List.map_map]
      rfl
    obtain ⟨am, aL, aC⟩ := r05.inv.alive
    have om : O ≠ m := fun z => am (z ▸ hO)
    have oL : O ≠ L := fun z => aL (z ▸ hO)
    have oC : O ≠ C := fun z => aC (z ▸ hO)
    have pm : Pl ≠ m := fun z => am (z ▸ hPl5)
    have pL : Pl ≠ L := fun z => aL (z ▸ hPl5)
    have pC : Pl ≠ C := fun z => aC (z ▸ hPl5)
    show tSeq _ _ _ _ (upd (upd H5 O (.lst [.int 0, .int 1])) Pl (.lst (rgV 2 n)))
    generalize upd (upd H5 O (.lst [.int 0, .int 1])) Pl (.lst (rgV 2 n)) = H6 at r6 hO6 hP6 ⊢
    refine ⟨fun k σ' H' => ∃ os ps : List Int, k = ps.length ∧ σ' = [some (.ref m), some (.int way), some (.int n), some (.int (1 + pd)), some (.ref O), some (.ref Pl), none, none, none, none, none, none] ∧ os.length + ps.length = n ∧ (frM m L C (j + 3 + os.length)).R H H' ∧ H' O = some (.lst (os.map V.int)) ∧ H' Pl = some (.lst (ps.map V.int)) ∧ (∀ x ∈ os, 0 ≤ x ∧ x < (n : Int)) ∧ (∀ x ∈ ps, 0 ≤ x ∧ x < (n : Int)) ∧ (∃ z, os = 0 :: 1 :: z) ∧ (os ++ ps).Perm (rg n), ⟨_, [0, 1], _, rfl, rfl, ?_, up r6 (by show j + 1 + 1 + 1 ≤ j + 3 + 2; omega), hO6, hP6, fun x hx => ?_, fun x hx => ?_, ⟨[], rfl⟩, by rw [rg_two n2 n6]⟩, ?_⟩
    · rw [List.length_map, List.length_range]
      show 2 + ((n : Int) - 2).toNat = n
      omega
    · simp at hx
      omega
    · obtain ⟨i, hi, rfl⟩ := List.mem_map.mp hx
      have := List.mem_range.mp hi
      omega
    rintro k σ' H7 ⟨os, ps, rfl, rfl, hl, r7, hO7, hP7, ho, hp, hos, hperm⟩
    refine ⟨_, rfl, Nat.zero_le _, fun e he => ?_⟩
    have Pe : Pl ≠ e := ne_of_none hP7 he
    have Oe : O ≠ e := ne_of_none hO7 he
    have r8 := rex r7 (Ex.new (o := .lst []) he)
    have hO8 : (upd H7 e (.lst [])) O = some (.lst (os.map V.int)) := by rw [upd_ne Oe]; exact hO7
    have hP8 : (upd H7 e (.lst [])) Pl = some (.lst (ps.map V.int)) := by rw [upd_ne Pe]; exact hP7
    refine ⟨.list (ps.map PyData.int), .list [], .lst (.inl (.inl hP8)) (dp_ints ps), .lst (.inl (.inl upd_same)) .nil, PySem.W.shaped_ints ps, rfl, _, rfl, ?_⟩
    rw [eqv_nil]
    generalize upd H7 e (.lst []) = H8 at r8 hO8 hP8 ⊢
    cases ps with
    | cons c ps =>
      refine yes_of rfl ?_
      refine ⟨fun σ' H' => ∃ os' ps' : List Int, ps.length = ps'.length ∧ σ' = [some (.ref m), some (.int way), some (.int n), some (.int (1 + pd)), some (.ref O), some (.ref Pl), none, none, none, none, none, none] ∧ os'.length + ps'.length = n ∧ (frM m L C (j + 3 + os'.length)).R H H' ∧ H' O = some (.lst (os'.map V.int)) ∧ H' Pl = some (.lst (ps'.map V.int)) ∧ (∀ x ∈ os', 0 ≤ x ∧ x < (n : Int)) ∧ (∀ x ∈ ps', 0 ≤ x ∧ x < (n : Int)) ∧ (∃ z, os' = 0 :: 1 :: z) ∧ (os' ++ ps').Perm (rg n), fun σ' H' h => ⟨ps.length, Nat.lt_succ_self _, h⟩, ?_⟩
      have hll : ((c :: ps).map V.int).length = ps.length + 1 := by simp
      have hl2 : os.length + (ps.length + 1) = n := hl
      refine ⟨_, rfl, .inl ⟨rfl, _, SqL.of hO8⟩, ?_⟩
      refine ⟨_, rfl, .inl ⟨rfl, _, SqL.of hP8⟩, _, rfl, _, rfl, Pl, _, rfl, .inl (SqL.of hP8), m, L, C, _, _, rfl, r8.inv, by omega, by rw [hll]; omega, by rw [hll]; omega, fun d H9 d0 d1 r9 => ?_⟩
      rw [hll] at d1
      have hP9 := keepN r9 hP8 pm pL
      have hO9 := keepN r9 hO8 om oL
      have hk : d.toNat < (c :: ps).length := by
        show _ < ps.length + 1
        omega
      have hy := hp (c :: ps)[d.toNat] (List.getElem_mem hk)
      have r09 := and_then r8 r9
      have rP := own (o := .lst (((c :: ps).map V.int).eraseIdx d.toNat)) hM r09 (fresh_R r05 hPl5 pm pL)
      have hO10 : (upd H9 Pl (.lst (((c :: ps).map V.int).eraseIdx d.toNat))) O = some (.lst (os.map V.int)) := by rw [upd_ne hOP]; exact hO9
      refine ⟨Pl, _, d, d.toNat, .int (c :: ps)[d.toNat], rfl, rfl, hP9, by omega, by omega, seqIndex_of d0 (by rw [hll]; exact d1), by rw [List.getElem?_map, List.getElem?_eq_getElem hk]; rfl, O, _, _, rfl, rfl, hO10, by rw [List.length_map]; exact Nat.lt_of_le_of_lt (by omega : os.length ≤ 6) (by decide), ?_⟩
      refine ⟨os ++ [(c :: ps)[d.toNat]], (c :: ps).eraseIdx d.toNat, ?_, rfl, ?_, up (own hM rP (fresh_R r05 hO om oL)) ?_, by rw [upd_same, List.map_append]; rfl, ?_, fun x hx => ?_, fun x hx => ?_, (by obtain ⟨z, rfl⟩ := hos; exact ⟨z ++ [(c :: ps)[d.toNat]], rfl⟩), perm_step hk hperm⟩
      · rw [List.length_eraseIdx_of_lt hk]
        rfl
      · rw [List.length_append, List.length_eraseIdx_of_lt hk]
        show os.length + 1 + (ps.length + 1 - 1) = n
        omega
      · rw [List.length_append]
        show j + 3 + (os.length : Int) + 1 ≤ j + 3 + ((os.length + 1 : Nat) : Int)
        omega
      · rw [upd_ne (Ne.symm hOP), upd_same, map_erase]
      · rcases List.mem_append.mp hx with h | h
        · exact ho x h
        · simp at h
          rw [h]
          exact hy
      · exact hp x (List.mem_of_mem_eraseIdx hx)
    | nil =>
      refine no_of rfl ?_
      have hl2 : os.length = n := by simpa using hl
      have M8 := r8.inv
      have hpn : os.Perm (rg n) := by simpa using hperm
      have hnd : os.Nodup := hpn.nodup_iff.mpr (nodup_rg n)
      have inL : ∀ {x : Int}, In n x → In os.length x := fun h => by rw [hl2]; exact h
      have fi : ∀ x, In n x → In n (thF os x) := fun x hx => mem_rg.mp (hpn.mem_iff.mp (thF_at (inL hx)).2)
      have fat : ∀ {x : Int}, In n x → atI (os.map V.int) x = some (.int (thF os x)) := fun {x} hx => atI_of hx.1 (by rw [List.getElem?_map, (thF_at (inL hx)).1]; rfl)
      have finj : ∀ {x y : Int}, In n x → In n y → thF os x = thF os y → x = y := fun hx hy e => thF_inj hnd (inL hx) (inL hy) e
      have su : ∀ x, In n x → ∃ a, In n a ∧ thF os a = x := fun x hx => by
        obtain ⟨k, hk, e⟩ := List.getElem_of_mem (hpn.mem_iff.mpr (mem_rg.mpr hx))
        refine ⟨(k : Int), ⟨by omega, by omega⟩, ?_⟩
        unfold thF
        rw [show ((k : Int)).toNat = k from rfl, List.getD_eq_getElem?_getD, List.getElem?_eq_getElem hk]
        exact e
      have F0 : thF os 0 = 0 := by obtain ⟨z, rfl⟩ := hos; rfl
      have F1 : thF os 1 = 1 := by obtain ⟨z, rfl⟩ := hos; rfl
      have BG := base_good (way := way) (per := 1 + pd) (n := n) way0 way1 n2 n6 (by omega) (by omega) (fun h => by have := n4 h; omega)
      dsimp only
      refine par_step ?_
      refine cons_step (zero_rowsC (n := n) (j := 10) (s := 2) (vs := [10]) (Hs := H8) (by omega) n6 rfl (by intro x; rfl) (Ex.refl H8) (by intro x; rfl) fun D6 rs6 z6 G1 e1 hD6 f6 T6 => ?_)
      refine cons_step (zero_rowsC (n := n) (j := 10) (s := 2) (vs := [10]) (Hs := H8) (by omega) n6 rfl (by intro x; rfl) e1 (by intro x; rfl) fun D7 rs7 z7 G2 e2 hD7 f7 T7 => ⟨_, _, rfl, ?_⟩)
      have dis : ∀ r ∈ rs6, r ∉ rs7 := fun r h6 h7 => by
        obtain ⟨k, hk, rfl⟩ := List.getElem_of_mem h6
        have hk2 : k < z6.length := by rw [← T6.2.2.2.2.2.2.1]; exact hk
        have h := T6.2.2.2.2.2.2.2 k _ _ (List.getElem?_eq_getElem hk) (List.getElem?_eq_getElem hk2)
        rw [f7 _ h7] at h
        cases h
      have sid : ∀ r ∈ rs7, r ∉ rs6 := fun r h7 h6 => dis r h6 h7
      have rG : (frM m L C (j + 3 + os.length)).R H8 G2 := Fr.R.ex M8 (e1.trans e2)
      refine ⟨_, rfl, (n : Int), rfl, by omega, by omega, for_it (walk_range (lo := 0) (n := ((n : Nat) : Int).toNat)) (fun a σ' H' => ∃ x8 x9 t6 t7, σ' = [some (.ref m), some (.int way), some (.int n), some (.int (1 + pd)), some (.ref O), some (.ref Pl), some (.ref D6), some (.ref D7), x8, x9, none, none] ∧ (frM m L C (j + 3 + os.length)).R H8 H' ∧ TabC H8 H' D6 n rs6 t6 ∧ TabC H8 H' D7 n rs7 t7 ∧ ∀ a' b', In n a' → In n b' → a' < (a : Int) → cell t6 (thF os a') (thF os b') = thF os (baseV way n (1 + pd) a' b' true) ∧ cell t7 (thF os a') (thF os b') = thF os (baseV way n (1 + pd) a' b' false)) ⟨none, none, z6, z7, rfl, rG, T6.ex e2, T7, fun a' b' ha' _ h => absurd h (by have := ha'.1; omega)⟩ (fun _ _ _ _ _ => True.intro) ?_ ?_⟩
      · rintro a x σ' _ Ha ha ⟨x8, x9, t6a, t7a, rfl, ra, T6a, T7a, ca⟩ ⟨rfl, rfl⟩
        have ia : In n (0 + (a : Int)) := ⟨by omega, by omega⟩
        refine ⟨_, rfl, (n : Int), rfl, by omega, by omega, for_it (walk_range (lo := 0) (n := ((n : Nat) : Int).toNat)) (fun b σ' H' => ∃ x9 t6 t7, σ' = [some (.ref m), some (.int way), some (.int n), some (.int (1 + pd)), some (.ref O), some (.ref Pl), some (.ref D6), some (.ref D7), some (.int (0 + (a : Int))), x9, none, none] ∧ (frM m L C (j + 3 + os.length)).R H8 H' ∧ TabC H8 H' D6 n rs6 t6 ∧ TabC H8 H' D7 n rs7 t7 ∧ ∀ a' b', In n a' → In n b' → (a' < (a : Int) ∨ (a' = (a : Int) ∧ b' < (b : Int))) → cell t6 (thF os a') (thF os b') = thF os (baseV way n (1 + pd) a' b' true) ∧ cell t7 (thF os a') (thF os b') = thF os (baseV way n (1 + pd) a' b' false)) ⟨x9, t6a, t7a, rfl, ra, T6a, T7a, fun a' b' ha' hb' h => ca a' b' ha' hb' (by have := hb'.1; omega)⟩ (fun _ _ _ _ _ => True.intro) ?_ ?_⟩
        · rintro b x σ' _ Hb hb ⟨x9, t6, t7, rfl, rb, T6b, T7b, cb⟩ ⟨rfl, rfl⟩
          have ib : In n (0 + (b : Int)) := ⟨by omega, by omega⟩
          have id := BG.si _ _ ia ib
          have id' := BG.mi _ _ ia ib
          refine ⟨_, rfl, _, rfl, _, rfl, _, rfl, _, rfl, _, rfl, way, n, 1 + pd, 0 + (a : Int), 0 + (b : Int), true, rfl, ⟨by omega, by omega⟩, ⟨by omega, by omega⟩, ⟨by omega, by omega⟩, n4, ia, ib, fun G3 e3 => ?_⟩
          have r3 := rex rb e3
          have hO3 := keepN r3 hO8 om oL
          refine ⟨O, _, _, .int (thF os (baseV way n (1 + pd) (0 + (a : Int)) (0 + (b : Int)) true)), rfl, rfl, SqL.of hO3, fat id, ?_⟩
          refine set_cellC (Hs := H8) (T6b.ex e3) (by omega) rfl (ev_op (ev_var rfl) (ev_var rfl) (rv_ixL (SqL.of hO3) (fat ia))) (fun G4 e4 => ev_op (ev_var rfl) (ev_var rfl) (rv_ixL (SqL.of (e4 _ _ hO3)) (fat ib))) (fi _ ia) (fi _ ib) (fi _ id) fun r o G5 e5 hr0 T65 keep => ?_
          have r5 := own (o := o) M8 (rex r3 e5) hr0
          have T75 := keep D7 rs7 t7 ((T7b.ex e3).ex e5) dis
          generalize upd G5 r o = G6 at r5 T65 T75 ⊢
          refine ⟨_, rfl, _, rfl, _, rfl, _, rfl, _, rfl, _, rfl, way, n, 1 + pd, 0 + (a : Int), 0 + (b : Int), false, rfl, ⟨by omega, by omega⟩, ⟨by omega, by omega⟩, ⟨by omega, by omega⟩, n4, ia, ib, fun G7 e7 => ?_⟩
          have r7 := rex r5 e7
          have hO7 := keepN r7 hO8 om oL
          refine ⟨O, _, _, .int (thF os (baseV way n (1 + pd) (0 + (a : Int)) (0 + (b : Int)) false)), rfl, rfl, SqL.of hO7, fat id', ?_⟩
          refine set_cellC (Hs := H8) (T75.ex e7) (by omega) rfl (ev_op (ev_var rfl) (ev_var rfl) (rv_ixL (SqL.of hO7) (fat ia))) (fun G4 e4 => ev_op (ev_var rfl) (ev_var rfl) (rv_ixL (SqL.of (e4 _ _ hO7)) (fat ib))) (fi _ ia) (fi _ ib) (fi _ id') fun r' o' G8 e8 hr0' T78 keep' => ?_
          refine ⟨_, _, _, rfl, own M8 (rex r7 e8) hr0', keep' D6 rs6 _ ((T65.ex e7).ex e8) sid, T78, fun a' b' ha' hb' h => ?_⟩
          rw [cell_setT T6b.2.2.2.1 (fi _ ia) (fi _ ib) (fi _ ha') (fi _ hb'), cell_setT T7b.2.2.2.1 (fi _ ia) (fi _ ib) (fi _ ha') (fi _ hb')]
          by_cases hab : a' = 0 + (a : Int) ∧ b' = 0 + (b : Int)
          · obtain ⟨rfl, rfl⟩ := hab
            rw [if_pos ⟨rfl, rfl⟩, if_pos ⟨rfl, rfl⟩]
            exact ⟨rfl, rfl⟩
          · have hn : ¬(thF os a' = thF os (0 + (a : Int)) ∧ thF os b' = thF os (0 + (b : Int))) := fun z => hab ⟨finj ha' ia z.1, finj hb' ib z.2⟩
            rw [if_neg hn, if_neg hn]
            exact cb a' b' ha' hb' (by omega)
        · rintro σ' Hb ⟨x9, t6, t7, rfl, rb, T6b, T7b, cb⟩
          exact ⟨_, _, _, _, rfl, rb, T6b, T7b, fun a' b' ha' hb' h => cb a' b' ha' hb' (by have := hb'.2; omega)⟩
      · rintro σ' Ha ⟨x8, x9, t0, t1, rfl, ra, T6a, T7a, ca⟩
        have hd0 := T6a.1
        have hr0 := T6a.2.2.2.2.2.2
        have s0 := T6a.2.2.2.1
        dsimp only
        refine ret_tup (cons_c (cons_step (tup_rows (t := t0) (rs := rs6) (ev_var rfl) hd0 hr0 (by have := T6a.2.1; omega) (by intro x; rfl) (by intro x; rfl) fun p0 H9 e9 hp0 hA0 => ?_)))
        have T7c := T7a.ex e9
        have hd1 := T7c.1
        have hr1 := T7c.2.2.2.2.2.2
        have s1 := T7c.2.2.2.1
        refine cons_step (tup_rows (t := t1) (rs := rs7) (ev_var rfl) hd1 hr1 (by have := T7a.2.1; omega) (by intro x; rfl) (by intro x; rfl) fun p1 HA eA hp1 hA1 => ⟨by show 3 ≤ sizeLine; decide, fun b hb => ?_⟩)
        refine q (.ref b) n t0 t1 _ (up (and_then r8 (rex (rex (rex ra e9) eA) (Ex.new hb))) (by omega)) n2 n6 s0 s1 (BG.by n2 F0 F1 fi su (fun a b ha hb => (ca a b ha hb (by have := ha.2; omega)).1) (fun a b ha hb => (ca a b ha hb (by have := ha.2; omega)).2)) ⟨b, p0, p1, rfl, upd_same, (hA0.ex eA).ex (Ex.new hb), hA1.ex (Ex.new hb)⟩
end
end D1
end
section
set_option Elab.async false
set_option linter.all false
set_option maxRecDepth 100000
set_option maxHeartbeats 4000000
/-! D18: Base.m(self, ..); a method of one of several classes -/
namespace D1
open PySem PySem.Spec PyProof.Rows L2 Evl ClX
section
variable {X : Cx} {CX : CXT} {k : Nat} {C g : Addr} {fd : FuncData} {ps : List Str} {sp : Sp} {dvs : List V} {ds : List Value} {E : XK} {m : Str} {o e : Expr} {es : List Expr} {ta : TE} {t : TA} {apos pos : Pos} {mc : Value}
/-- Base.m(self, ..) -/
def tCfn (C : Addr) (sp : Sp) (dvs : List V) (E : XK) (ta : TE) (t : TA) : TE := fun σ H Q => ta σ H fun x H1 => x = .ref C ∧ t σ H1 fun vs H2 => sp (vs ++ dvs) H2 Q E
theorem pe_cfn {pl : Sem Bool} (he : PE X o ta) (r : CRead X.K C mc) (c : CVal X.K C mc m (.ref g) (.ref g)) (F : FnOk X.prog X.w X.K X.mg X.base CX k g fd ps sp) (hr : Room k X.A) (hk : PySem.W.keepIn X.K (.ref g) = true) (hb : Binds X.K fd ps ds) (hd : Vals dvs ds) (hx : Passes CX X E) (ha : PA X (e :: es) t)
    (hst : starEach (e :: es) X.env = (false, eval e X.env) :: starEach es X.env := by rfl) (hpl : (backTo pos (starEach es X.env)).any (·.1) = false := by rfl)
    (ht : eval (.Call (.Attribute o m apos) (e :: es) [] pos) X.env = (do
      let ov ← eval o X.env
      standAt apos.atName
      let (f, first) ← holding [ov] (getMethod ov m pl)
      callWith pos f first (backTo pos (starEach (e :: es) X.env)) (backToKw pos (keywordEach [] X.env))) := by rfl) :
    PE X (.Call (.Attribute o m apos) (e :: es) [] pos) (tCfn C sp dvs E ta t) := by
  refine ⟨fun pins s σ H Q I h => ?_⟩
  refine PySem.W.methodCall_KW (pl := pl) (thn (he.run pins s σ H _ I h) fun u s1 ⟨x, H1, I1, rx, ex, q⟩ => ?_) ht
  subst ex
  obtain rfl : u = Value.ref C := rx
  refine PySem.W.method_cls I1.kIn r.ga (getcval_ok I1 r c fun s2 I2 => ?_)
  refine PySem.W.callWith_K (first := []) (h₀ := X.base) I2.ok.mod.kin hk (thn (ha.run pos pins s2 σ H1 _ I2 q) fun us s3 ⟨vs, H3, I3, r3, q3⟩ => ⟨I3.kIn, ?_⟩) hst hpl
  exact run_fn F hr hb hd hx I3 r3 q3
/-- a class of several, and the promise of its method -/
structure HeldM (P : Program) (w : World) (K : PySem.W.Frag) (mg : Str → Option Value) (base : Heap) (k : Nat) (m : Str) (C : Addr) (sp : Sp) : Prop where
  cls : Cls K C
  ex : ∃ (g : Addr) (fd : FuncData) (ps : List Str), Meth K C m g ∧ FnOk P w K mg base CX0 k g fd ps sp ∧ Binds K fd ps []
def tMethA (m : Str) (S : Addr → Option Sp) (ta : TE) (t : TA) : TE := fun σ H Q => ta σ H fun x H1 => ∃ a C dx fs sp, x = .ref a ∧ S C = some sp ∧ H1 a = some (.ins C dx fs) ∧ fs.lookup m = none ∧ t σ H1 fun vs H2 => sp (x :: vs) H2 Q E0
theorem pe_methA {pl : Sem Bool} {S : Addr → Option Sp} (A : ∀ C sp, S C = some sp → HeldM X.prog X.w X.K X.mg X.base k m C sp) (he : PE X o ta) (hr : Room k X.A) (ha : PA X (e :: es) t)
    (hst : starEach (e :: es) X.env = (false, eval e X.env) :: starEach es X.env := by rfl) (hpl : (backTo pos (starEach es X.env)).any (·.1) = false := by rfl)
    (ht : eval (.Call (.Attribute o m apos) (e :: es) [] pos) X.env = (do
      let ov ← eval o X.env
      standAt apos.atName
      let (f, first) ← holding [ov] (getMethod ov m pl)
      callWith pos f first (backTo pos (starEach (e :: es) X.env)) (backToKw pos (keywordEach [] X.env))) := by rfl) :
    PE X (.Call (.Attribute o m apos) (e :: es) [] pos) (tMethA m S ta t) := by
  refine ⟨fun pins s σ H Q I h => ?_⟩
  refine PySem.W.methodCall_KW (pl := pl) (thn (he.run pins s σ H _ I h) fun u s1 ⟨x, H1, I1, rx, a, C, dx, fs, sp, ex, hS, ea, l, q⟩ => ?_) ht
  subst ex
  obtain rfl : u = Value.ref a := rx
  have HM := A C sp hS
  obtain ⟨g, fd, ps, hm, F, hb⟩ := HM.ex
  refine getmeth_ok I1 ea HM.cls hm l ?_
  refine PySem.W.callWith_K (first := [.ref a]) (h₀ := X.base) I.ok.mod.kin hm.kp (thn (ha.run pos pins s1 σ H1 _ I1 q) fun us s2 ⟨vs, H2, I2, r, q2⟩ => ⟨I2.kIn, ?_⟩) hst hpl
  exact run_fn (dvs := []) (ds := []) (E := E0) (us := .ref a :: us) (vs := .ref a :: vs) F hr hb .nil pass0 I2 (.cons rfl r) (by rw [List.append_nil]; exact q2)
theorem pe_methA0 {pl : Sem Bool} {S : Addr → Option Sp} (A : ∀ C sp, S C = some sp → HeldM X.prog X.w X.K X.mg X.base k m C sp) (he : PE X o ta) (hr : Room k X.A)
    (ht : eval (.Call (.Attribute o m apos) [] [] pos) X.env = (do
      let ov ← eval o X.env
      standAt apos.atName
      let (f, first) ← holding [ov] (getMethod ov m pl)
      callWith pos f first (backTo pos (starEach [] X.env)) (backToKw pos (keywordEach [] X.env))) := by rfl) :
    PE X (.Call (.Attribute o m apos) [] [] pos) (tMethA m S ta tNil) := by
  refine ⟨fun pins s σ H Q I h => ?_⟩
  refine PySem.W.methodCall_KW (pl := pl) (thn (he.run pins s σ H _ I h) fun u s1 ⟨x, H1, I1, rx, a, C, dx, fs, sp, ex, hS, ea, l, q⟩ => ?_) ht
  subst ex
  obtain rfl : u = Value.ref a := rx
  have HM := A C sp hS
  obtain ⟨g, fd, ps, hm, F, hb⟩ := HM.ex
  refine getmeth_ok I1 ea HM.cls hm l ?_
  exact PySem.W.callWith_K0 (first := [.ref a]) I1.kIn hm.kp (run_fn (dvs := []) (ds := []) (E := E0) (us := [.ref a]) (vs := [.ref a]) F hr hb .nil pass0 I1 (.cons rfl .nil) (by rw [List.append_nil]; exact q))
end
end D1
end
section
set_option Elab.async false
set_option linter.all false
set_option maxRecDepth 100000
set_option maxHeartbeats 4000000
/-! D19: how kinds are made -/
namespace D1
open PySem L2 Evl RZ ClX
structure OkC (K : PySem.W.Frag) (C : Addr) : Prop where
  cls : Cls K C
  no : ∀ f ∈ fields, NoAttr K C f
/-- all but a stays -/
def Only (a : Addr) (H H' : Hp) : Prop := ∀ b o, b ≠ a → H b = some o → H' b = some o
theorem Only.upd {a : Addr} {H H1 : Hp} {o : HO} (h : Only a H H1) : Only a H (upd H1 a o) := fun b u n e => by
  rw [upd_ne n]
  exact h b u n e
theorem Only.refl {a : Addr} {H : Hp} : Only a H H := fun _ _ _ e => e
theorem Only.ex {a : Addr} {H H1 H2 : Hp} (h : Only a H H1) (e : Ex H1 H2) : Only a H H2 := fun b u n k => e _ _ (h b u n k)
theorem Only.trans {a : Addr} {H H1 H2 : Hp} (h : Only a H H1) (k : Only a H1 H2) : Only a H H2 := fun b u n e => k b u n (h b u n e)
/-- Base.__init__ read off the class -/
structure BaseI (K : PySem.W.Frag) (mg : Str → Option Value) (x : Str) (g : Addr) : Prop where
  ex : ∃ (C : Addr) (mc : Value), mg x = some (.ref C) ∧ CRead K C mc ∧ CVal K C mc "__init__" (.ref g) (.ref g)
section
variable {P : Program} {w : World} {K : PySem.W.Frag} {mg : Str → Option Value} {base : Heap}
def spKind (K : PySem.W.Frag) : Sp := fun vs H Q _ => ∃ (a C dx : Addr) (fs : List (Str × V)) (t z n : V), vs = [.ref a, t, z, n] ∧ H a = some (.ins C dx fs) ∧ OkC K C ∧ fs.length < 100 ∧ ∀ H', Only a H H' → H' a = some (.ins C dx (putF "_one" n (putF "_zero" z (putF "_text" t fs)))) → Q .non H'
theorem put_len (f : Str) (v : V) : ∀ fs : List (Str × V), (putF f v fs).length ≤ fs.length + 1
  | [] => Nat.le_refl _
  | (g, x) :: r => by
    unfold putF
    split
    · simp
    · have := put_len f v r
      simp only [List.length_cons]
      omega
abbrev s_Kind_init : Stmt := meth 21 0
theorem sc_Kind_init : FnScope ["self", "text", "zero", "one"] ["self", "text", "zero", "one"] (defScope s_Kind_init) := ⟨rfl, rfl, rfl, by decide +kernel, rfl, by decide +kernel, by decide +kernel⟩
theorem ok_Kind_init {f : Addr} {fd : FuncData} (F : FnM K "Kind" "__init__" s_Kind_init f fd) : FnOk P w K mg base CX0 1 f fd ["self", "text", "zero", "one"] (spKind K) := by
  refine F.ok sc_Kind_init (fun vs H Q E h => ?_) (fun cdv A outer s H vs Q E hr h => ?_)
  · obtain ⟨a, C, dx, fs, t, z, n, rfl, _⟩ := h
    rfl
  · obtain ⟨a, C, dx, fs, t, z, n, rfl, ha, ok, hl, q⟩ := h
    refine ⟨_, PSs.nox (pss_cons (ps_fld (pv 0) (pv 1) rfl)
      (pss_cons (ps_fld (pv 0) (pv 2) rfl)
      (pss_one (ps_fld (pv 0) (pv 3) rfl)))), ?_⟩
    have l1 := put_len "_text" t fs
    have l2 := put_len "_zero" z (putF "_text" t fs)
    refine ⟨_, rfl, _, rfl, a, C, dx, fs, rfl, ha, ok.cls, ok.no _ (by decide), by omega, ?_⟩
    refine ⟨_, rfl, _, rfl, a, C, dx, _, rfl, upd_same, ok.cls, ok.no _ (by decide), by omega, ?_⟩
    refine ⟨_, rfl, _, rfl, a, C, dx, _, rfl, upd_same, ok.cls, ok.no _ (by decide), by omega, ?_⟩
    exact q _ (((Only.refl.upd).upd).upd) upd_same
end
end D1
end
section
set_option Elab.async false
set_option linter.all false
set_option maxRecDepth 100000
set_option maxHeartbeats 4000000
/-! D20: Counted, Finite, Truth made -/
namespace D1
open PySem L2 Evl RZ ClX
section
variable {P : Program} {w : World} {K : PySem.W.Frag} {mg : Str → Option Value} {base : Heap}
def fsCounted (t z n o : V) (fs : List (Str × V)) : List (Str × V) := putF "_others" o (putF "_one" n (putF "_zero" z (putF "_text" t fs)))
def spCounted (K : PySem.W.Frag) : Sp := fun vs H Q _ => ∃ (a C dx : Addr) (fs : List (Str × V)) (t z n o : V), vs = [.ref a, t, z, n, o] ∧ H a = some (.ins C dx fs) ∧ OkC K C ∧ fs.length < 50 ∧ ∀ H', Only a H H' → H' a = some (.ins C dx (fsCounted t z n o fs)) → Q .non H'
def spFinite (K : PySem.W.Frag) : Sp := fun vs H Q _ => ∃ (a C dx : Addr) (fs : List (Str × V)) (t s : V), vs = [.ref a, t, s] ∧ H a = some (.ins C dx fs) ∧ OkC K C ∧ fs.length < 40 ∧ ∀ (p : Addr) H', Only a H H' → H p = none → H' p = some (.tup []) → H' a = some (.ins C dx (putF "_size" s (fsCounted t (.int 0) (.int 1) (.ref p) fs))) → Q .non H'
def spTruth (K : PySem.W.Frag) : Sp := fun vs H Q _ => ∃ (a C dx : Addr) (fs : List (Str × V)), vs = [.ref a] ∧ H a = some (.ins C dx fs) ∧ OkC K C ∧ fs.length < 50 ∧ ∀ H', Only a H H' → H' a = some (.ins C dx (putF "_one" (.bl true) (putF "_zero" (.bl false) (putF "_text" (.str "truth") fs)))) → Q .non H'
abbrev s_Counted_init : Stmt := meth 22 0
theorem sc_Counted_init : FnScope ["self", "text", "zero", "one", "others"] ["self", "text", "zero", "one", "others"] (defScope s_Counted_init) := ⟨rfl, rfl, rfl, by decide +kernel, rfl, by decide +kernel, by decide +kernel⟩
theorem ok_Counted_init {f : Addr} {fd : FuncData} (F : FnM K "Counted" "__init__" s_Counted_init f fd) {f_Kind_init : Addr} {fd_Kind_init : FuncData} (F_Kind_init : FnM K "Kind" "__init__" s_Kind_init f_Kind_init fd_Kind_init) (G_Kind_init : FnOk P w K mg base CX0 1 f_Kind_init fd_Kind_init ["self", "text", "zero", "one"] (spKind K)) (B_Kind : BaseI K mg "Kind" f_Kind_init) : FnOk P w K mg base CX0 2 f fd ["self", "text", "zero", "one", "others"] (spCounted K) := by
  obtain ⟨C_Kind, mc_Kind, g_Kind, r_Kind, c_Kind⟩ := B_Kind.ex
  have b_Kind_init : Binds K fd_Kind_init ["self", "text", "zero", "one"] [] := F_Kind_init.bindsN fun _ _ _ _ _ _ us hl => match us, hl with | [_, _, _, _], _ => rfl
  refine F.ok sc_Counted_init (fun vs H Q E h => ?_) (fun cdv A outer s H vs Q E hr h => ?_)
  · obtain ⟨a, C, dx, fs, t, z, n, o, rfl, _⟩ := h
    rfl
  · obtain ⟨a, C, dx, fs, t, z, n, o, rfl, ha, ok, hl, q⟩ := h
    have hu := hu_of hr
    have hu64 := hr.units
    have hr_Kind_init := hr.mono (by decide : 1 ≤ 1)
    refine ⟨_, PSs.nox (pss_cons (ps_expr (pe_cfn (C := C_Kind) (mc := mc_Kind) (pe_glob (v := .ref C_Kind) rfl g_Kind rfl) r_Kind c_Kind G_Kind_init hr_Kind_init F_Kind_init.kp b_Kind_init .nil pass0 (pa_cons (pv 0) (pa_cons (pv 1) (pa_cons (pv 2) (pa_cons (pv 3) pa_nil))))))
      (pss_one (ps_fld (pv 0) (pv 4) rfl))), ?_⟩
    have l1 := put_len "_text" t fs
    have l2 := put_len "_zero" z (putF "_text" t fs)
    have l3 := put_len "_one" n (putF "_zero" z (putF "_text" t fs))
    refine ⟨rfl, _, rfl, _, rfl, _, rfl, _, rfl, a, C, dx, fs, t, z, n, rfl, ha, ok, by omega, fun H1 o1 h1 => ?_⟩
    refine ⟨_, rfl, _, rfl, a, C, dx, _, rfl, h1, ok.cls, ok.no _ (by decide), by omega, ?_⟩
    exact q _ o1.upd upd_same
abbrev s_Finite_init : Stmt := meth 29 0
theorem sc_Finite_init : FnScope ["self", "text", "size"] ["self", "text", "size"] (defScope s_Finite_init) := ⟨rfl, rfl, rfl, by decide +kernel, rfl, by decide +kernel, by decide +kernel⟩
theorem ok_Finite_init {f : Addr} {fd : FuncData} (F : FnM K "Finite" "__init__" s_Finite_init f fd) {f_Counted_init : Addr} {fd_Counted_init : FuncData} (F_Counted_init : FnM K "Counted" "__init__" s_Counted_init f_Counted_init fd_Counted_init) (G_Counted_init : FnOk P w K mg base CX0 2 f_Counted_init fd_Counted_init ["self", "text", "zero", "one", "others"] (spCounted K)) (B_Counted : BaseI K mg "Counted" f_Counted_init) : FnOk P w K mg base CX0 3 f fd ["self", "text", "size"] (spFinite K) := by
  obtain ⟨C_Counted, mc_Counted, g_Counted, r_Counted, c_Counted⟩ := B_Counted.ex
  have b_Counted_init : Binds K fd_Counted_init ["self", "text", "zero", "one", "others"] [] := F_Counted_init.bindsN fun _ _ _ _ _ _ us hl => match us, hl with | [_, _, _, _, _], _ => rfl
  refine F.ok sc_Finite_init (fun vs H Q E h => ?_) (fun cdv A outer s H vs Q E hr h => ?_)
  · obtain ⟨a, C, dx, fs, t, s, rfl, _⟩ := h
    rfl
  · obtain ⟨a, C, dx, fs, t, sz, rfl, ha, ok, hl, q⟩ := h
    have hu := hu_of hr
    have hu64 := hr.units
    have hr_Counted_init := hr.mono (by decide : 2 ≤ 2)
    refine ⟨_, PSs.nox (pss_cons (ps_expr (pe_cfn (C := C_Counted) (mc := mc_Counted) (pe_glob (v := .ref C_Counted) rfl g_Counted rfl) r_Counted c_Counted G_Counted_init hr_Counted_init F_Counted_init.kp b_Counted_init .nil pass0 (pa_cons (pv 0) (pa_cons (pv 1) (pa_cons pe_int (pa_cons pe_int (pa_cons (pe_tup pa_nil) pa_nil)))))))
      (pss_one (ps_fld (pv 0) (pv 2) rfl))), ?_⟩
    refine ⟨rfl, _, rfl, _, rfl, Nat.zero_le _, fun p hp => ?_⟩
    have hpa : a ≠ p := ne_of_none ha hp
    have ha1 : (upd H p (.tup [])) a = some (.ins C dx fs) := by rw [upd_ne hpa]; exact ha
    refine ⟨a, C, dx, fs, t, .int 0, .int 1, .ref p, rfl, ha1, ok, by omega, fun H1 o1 h1 => ?_⟩
    have l1 := put_len "_text" t fs
    have l2 := put_len "_zero" (.int 0) (putF "_text" t fs)
    have l3 := put_len "_one" (.int 1) (putF "_zero" (.int 0) (putF "_text" t fs))
    have l4 : (fsCounted t (.int 0) (.int 1) (.ref p) fs).length ≤ _ := put_len "_others" (.ref p) (putF "_one" (.int 1) (putF "_zero" (.int 0) (putF "_text" t fs)))
    refine ⟨_, rfl, _, rfl, a, C, dx, _, rfl, h1, ok.cls, ok.no _ (by decide), by omega, ?_⟩
    refine q p _ ?_ hp ?_ upd_same
    · exact (Only.trans (fun b o _ e => (Ex.new hp) b o e) o1).upd
    · rw [upd_ne (Ne.symm hpa)]
      exact o1 _ _ (Ne.symm hpa) upd_same
abbrev s_Truth_init : Stmt := meth 39 0
theorem sc_Truth_init : FnScope ["self"] ["self"] (defScope s_Truth_init) := ⟨rfl, rfl, rfl, by decide +kernel, rfl, by decide +kernel, by decide +kernel⟩
theorem ok_Truth_init {f : Addr} {fd : FuncData} (F : FnM K "Truth" "__init__" s_Truth_init f fd) {f_Kind_init : Addr} {fd_Kind_init : FuncData} (F_Kind_init : FnM K "Kind" "__init__" s_Kind_init f_Kind_init fd_Kind_init) (G_Kind_init : FnOk P w K mg base CX0 1 f_Kind_init fd_Kind_init ["self", "text", "zero", "one"] (spKind K)) (B_Topped : BaseI K mg "Topped" f_Kind_init) : FnOk P w K mg base CX0 2 f fd ["self"] (spTruth K) := by
  obtain ⟨C_Topped, mc_Topped, g_Topped, r_Topped, c_Topped⟩ := B_Topped.ex
  have b_Kind_init : Binds K fd_Kind_init ["self", "text", "zero", "one"] [] := F_Kind_init.bindsN fun _ _ _ _ _ _ us hl => match us, hl with | [_, _, _, _], _ => rfl
  refine F.ok sc_Truth_init (fun vs H Q E h => ?_) (fun cdv A outer s H vs Q E hr h => ?_)
  · obtain ⟨a, C, dx, fs, rfl, _⟩ := h
    rfl
  · obtain ⟨a, C, dx, fs, rfl, ha, ok, hl, q⟩ := h
    have hu := hu_of hr
    have hu64 := hr.units
    have hr_Kind_init := hr.mono (by decide : 1 ≤ 1)
    refine ⟨_, PSs.nox (pss_one (ps_expr (pe_cfn (C := C_Topped) (mc := mc_Topped) (pe_glob (v := .ref C_Topped) rfl g_Topped rfl) r_Topped c_Topped G_Kind_init hr_Kind_init F_Kind_init.kp b_Kind_init .nil pass0 (pa_cons (pv 0) (pa_cons pe_str (pa_cons pe_bl (pa_cons pe_bl pa_nil))))))), ?_⟩
    refine ⟨rfl, _, rfl, a, C, dx, fs, _, _, _, rfl, ha, ok, by omega, fun H1 o1 h1 => ?_⟩
    exact q _ o1 h1
end
end D1
end
section
set_option Elab.async false
set_option linter.all false
set_option maxRecDepth 100000
set_option maxHeartbeats 4000000
/-! D21: Table made -/
namespace D1
open PySem L2 Evl RZ ClX
theorem app_len (a b : Str) : (a ++ b).length = a.length + b.length := by
  show (a.cps ++ b.cps).size = a.cps.size + b.cps.size
  rw [Array.size_append]
theorem join_len (y : Str) (n k : Nat) (hy : y.length ≤ k) : ∀ (ps : List Str), (∀ p ∈ ps, p.length ≤ n) → (Str.join y ps).length ≤ ps.length * (n + k)
  | [], _ => Nat.zero_le _
  | [p], h => by
    have := h p List.mem_cons_self
    show p.length ≤ 1 * (n + k)
    omega
  | p :: q :: r, h => by
    have h1 := h p List.mem_cons_self
    have h2 := join_len y n k hy (q :: r) fun z hz => h z (List.mem_cons_of_mem _ hz)
    show ((p ++ y) ++ Str.join y (q :: r)).length ≤ ((q :: r).length + 1) * (n + k)
    rw [app_len, app_len, Nat.succ_mul]
    omega
theorem sum_len (n : Nat) : ∀ (ps : List Str), (∀ p ∈ ps, p.length ≤ n) → (ps.map (·.length)).sum ≤ ps.length * n
  | [], _ => Nat.zero_le _
  | p :: r, h => by
    have h1 := h p List.mem_cons_self
    have h2 := sum_len n r fun z hz => h z (List.mem_cons_of_mem _ hz)
    rw [List.map_cons, List.sum_cons, List.length_cons, Nat.succ_mul]
    omega
theorem dig_len0 : ∀ i : Fin 7, (toString (i.val : Int) : Str).length = 1 := by decide +kernel
theorem dig_len {i : Int} (h0 : 0 ≤ i) (h1 : i < 7) : (toString i : Str).length = 1 := by
  have := dig_len0 ⟨i.toNat, by omega⟩
  have e : ((i.toNat : Nat) : Int) = i := by omega
  simp only [e] at this
  exact this
theorem small_log {i : Int} (h0 : 0 ≤ i) (h1 : i < 7) : i.natAbs.log2 < 1920 := by
  have : i.natAbs.log2 ≤ i.natAbs := Nat.log2_le_self _
  omega
section
variable {P : Program} {w : World} {K : PySem.W.Frag} {mg : Str → Option Value} {base : Heap}
/-- what a table's kind has in it -/
structure TabF (H : Hp) (fs : List (Str × V)) (n : Nat) (p q : Addr) : Prop where
  text : ∃ z : Str, fs.lookup ("_text" : Str) = some (.str z) ∧ z.length ≤ 10000
  zero : fs.lookup ("_zero" : Str) = some (.int 0)
  one : fs.lookup ("_one" : Str) = some (.int 1)
  oth : ∃ e : Addr, fs.lookup ("_others" : Str) = some (.ref e) ∧ H e = some (.tup [])
  size : fs.lookup ("_size" : Str) = some (.int n)
  sums : fs.lookup ("_sums" : Str) = some (.ref p)
  prods : fs.lookup ("_products" : Str) = some (.ref q)
  no : ∀ f, f ∉ fields → fs.lookup f = none
def spTabI (K : PySem.W.Frag) : Sp := fun vs H Q _ => ∃ (a C dx p q : Addr) (n : Nat) (S M : Tb), vs = [.ref a, .ref p, .ref q] ∧ H a = some (.ins C dx []) ∧ OkC K C ∧ Two n H p q S M ∧ n ≤ 6 ∧ ∀ (fs : List (Str × V)) H', Only a H H' → H' a = some (.ins C dx fs) → TabF H' fs n p q → Q .non H'
abbrev s_Table_init : Stmt := meth 31 0
theorem sc_Table_init : FnScope ["self", "sums", "products", "rows", "row", "number"] ["self", "sums", "products"] (defScope s_Table_init) := ⟨rfl, rfl, rfl, by decide +kernel, rfl, by decide +kernel, by decide +kernel⟩
theorem ok_Table_init {f : Addr} {fd : FuncData} (F : FnM K "Table" "__init__" s_Table_init f fd) {f_Finite_init : Addr} {fd_Finite_init : FuncData} (F_Finite_init : FnM K "Finite" "__init__" s_Finite_init f_Finite_init fd_Finite_init) (G_Finite_init : FnOk P w K mg base CX0 3 f_Finite_init fd_Finite_init ["self", "text", "size"] (spFinite K)) (B_Finite : BaseI K mg "Finite" f_Finite_init) (z_str : mg "str" = none) (z_len : mg "len" = none) : FnOk P w K mg base CX0 4 f fd ["self", "sums", "products"] (spTabI K) := by
  obtain ⟨C_Finite, mc_Finite, g_Finite, r_Finite, c_Finite⟩ := B_Finite.ex
  have b_Finite_init : Binds K fd_Finite_init ["self", "text", "size"] [] := F_Finite_init.bindsN fun _ _ _ _ _ _ us hl => match us, hl with | [_, _, _], _ => rfl
  refine F.ok sc_Table_init (fun vs H Q E h => ?_) (fun cdv A outer s H vs Q E hr h => ?_)
  · obtain ⟨a, C, dx, p, q, n, S, M, rfl, _⟩ := h
    rfl
  · obtain ⟨a, C, dx, p, q', n, S, M, rfl, ha, ok, T, hn, q⟩ := h
    have hu := hu_of hr
    have hu64 := hr.units
    have hr_Finite_init := hr.mono (by decide : 3 ≤ 3)
    refine ⟨_, PSs.nox (pss_cons (ps_setLc2 (i := 3) (own := [("row", 4), ("number", 5)]) (vs1 := [5]) (g := gName 4) (g1 := gName 5) (tt := tYes) (tt1 := tYes) (wi1 := iTup K (tVar 4)) (by rfl) sc_Table_init.nd rfl rfl (sw_true rfl rfl rfl (by decide +kernel)) (pi_list (pe_lst (StX.pa_star (pv 1) (StX.pa_star (pv 2) pa_nil)))) (blkOk_by (own := [("row", 4), ("number", 5)]) (N := ["self", "sums", "products", "rows", "row", "number"]) (sc := defScope s_Table_init) (by decide +kernel)) (by decide) (fun _ _ _ _ _ => pg_name (i := 4) sc_Table_init.nd rfl (Or.inl rfl)) (fun _ _ _ _ _ => pts_nil) (fun _ _ _ _ _ => pi_tup (pv 4)) (fun _ _ _ _ _ => pg_name (i := 5) sc_Table_init.nd rfl (Or.inl rfl)) (fun _ _ _ _ _ => pts_nil) (fun _ _ _ _ _ => pe_callTy call_str_int (by rfl) z_str PyProof.Rows.boot_str (pa_cons (pv 5) pa_nil)))
      (pss_cons (ps_expr (pe_cfn (C := C_Finite) (mc := mc_Finite) (pe_glob (v := .ref C_Finite) rfl g_Finite rfl) r_Finite c_Finite G_Finite_init hr_Finite_init F_Finite_init.kp b_Finite_init .nil pass0 (pa_cons (pv 0) (pa_cons (pe_join pe_str (pe_lst (pa_cons pe_str (pa_cons (pe_callTy call_str_int (by rfl) z_str PyProof.Rows.boot_str (pa_cons (pe_callB call_len_seq (by rfl) z_len PySem.boot_len (pa_cons (pv 1) pa_nil)) pa_nil)) (StX.pa_star (pv 3) pa_nil))))) (pa_cons (pe_callB call_len_seq (by rfl) z_len PySem.boot_len (pa_cons (pv 1) pa_nil)) pa_nil)))))
      (pss_cons (ps_fld (pv 0) (pv 1) rfl)
      (pss_one (ps_fld (pv 0) (pv 2) rfl))))), ?_⟩
    obtain ⟨rsS, hp, hrl, hrr⟩ := id T.s
    obtain ⟨rsM, hq, hql, hqr⟩ := id T.p
    have n2 := T.two
    refine ⟨_, rfl, p, _, rfl, .inl (.inl (.inl hp)), _, rfl, q', _, rfl, .inl (.inl (.inl hq)), ?_⟩
    have rows_ok : ∀ (x : V), x ∈ rsS.map V.ref ++ (rsM.map V.ref ++ []) → ∃ (r : Addr) (row : List Int), x = .ref r ∧ H r = some (.tup (row.map V.int)) ∧ RowN n n row := by
      intro x hx
      have look : ∀ (rs : List Addr) (t : Tb), rs.length = t.length → (∀ (i : Nat) r row, rs[i]? = some r → t[i]? = some row → H r = some (.tup (row.map V.int))) → Sq n t → x ∈ rs.map V.ref → ∃ (r : Addr) (row : List Int), x = .ref r ∧ H r = some (.tup (row.map V.int)) ∧ RowN n n row := fun rs t hl hh s hx => by
        obtain ⟨r, hr, rfl⟩ := List.mem_map.mp hx
        obtain ⟨i, hi, rfl⟩ := List.mem_iff_getElem.mp hr
        have hit : i < t.length := by omega
        exact ⟨rs[i], t[i], rfl, hh i _ _ (List.getElem?_eq_getElem hi) (List.getElem?_eq_getElem hit), s.row _ (List.getElem_mem hit)⟩
      rcases List.mem_append.mp hx with h | h
      · exact look rsS S hrl hrr T.sq h
      · rw [List.append_nil] at h
        exact look rsM M hql hqr T.pq h
    have all_len : (rsS.map V.ref ++ (rsM.map V.ref ++ [])).length = n + n := by
      have h1 := T.sq.len
      have h2 := T.pq.len
      rw [List.append_nil, List.length_append, List.length_map, List.length_map]
      omega
    have nn : (n + n) * n ≤ 72 := by
      have : (n + n) * n ≤ 12 * 6 := Nat.mul_le_mul (by omega) hn
      omega
    refine ⟨?_, fun Lp hLp => ⟨Lp, rfl, ⟨_, SqL.of upd_same⟩, fun D hD => ?_⟩⟩
    · rw [all_len]
      exact Nat.le_trans (by omega : n + n ≤ 12) (by decide)
    have eL := Ex.new (o := .lst (rsS.map V.ref ++ (rsM.map V.ref ++ []))) hLp
    have hLL : (upd H Lp (.lst (rsS.map V.ref ++ (rsM.map V.ref ++ [])))) Lp = some (.lst (rsS.map V.ref ++ (rsM.map V.ref ++ []))) := upd_same
    have hlen2 : ∀ x ∈ rsS.map V.ref ++ (rsM.map V.ref ++ []), True := fun _ _ => trivial
    generalize hXS : rsS.map V.ref ++ (rsM.map V.ref ++ []) = XS at rows_ok all_len eL hLL hD ⊢
    generalize upd H Lp (.lst XS) = H1 at eL hLL hD ⊢
    have hDH : H D = none := fresh_back eL hD
    refine turns_it (walk_list (K := K) (a := Lp) (xs := XS)) (fun i G => Ex H1 G ∧ ∃ ys : List Str, G D = some (.lst (ys.map V.str)) ∧ ys.length = i * n ∧ ∀ y ∈ ys, y.length = 1) ⟨Ex.new hD, [], upd_same, by simp, fun y hy => by simp at hy⟩ (fun i G _ k => SqL.of (k.1 _ _ hLL)) ?_ ?_
    · rintro i x _ G hi ⟨eG, ys, hG, hyl, hys⟩ ⟨rfl, hx⟩
      have hx2 : XS[i]? = some x := hx
      obtain ⟨r, row, rfl, hr1, hrow⟩ := rows_ok x (List.mem_of_getElem? hx2)
      have hrG : ∀ {G'}, Ex H1 G' → G' r = some (.tup (row.map V.int)) := fun e => e _ _ (eL _ _ hr1)
      refine ⟨rfl, tyes_go (yes_of rfl ?_)⟩
      refine ⟨_, rfl, r, rfl, ⟨_, .inl (.inl (hrG eG))⟩, ?_⟩
      refine turns_it (walk_tup (K := K) (a := r) (xs := row.map V.int)) (fun m G' => Ex H1 G' ∧ ∃ ys : List Str, G' D = some (.lst (ys.map V.str)) ∧ ys.length = i * n + m ∧ ∀ y ∈ ys, y.length = 1) ⟨eG, ys, hG, by omega, hys⟩ (fun m G' _ k => .inl (.inl (hrG k.1))) ?_ ?_
      · rintro m x _ G' hm ⟨eG', ys', hG', hyl', hys'⟩ ⟨rfl, hx⟩
        have hx3 : (row.map V.int)[m]? = some x := hx
        rw [List.getElem?_map] at hx3
        obtain ⟨c, hc, rfl⟩ := Option.map_eq_some_iff.mp hx3
        have hcr := hrow.2 c (List.mem_of_getElem? hc)
        refine ⟨rfl, tyes_go (yes_of rfl ?_)⟩
        have hmn : m < n := by
          have h1 : m < (row.map V.int).length := hm
          rw [List.length_map, hrow.1] at h1
          exact h1
        have hin : i * n + n ≤ (n + n) * n := by
          have h1 : i < XS.length := hi
          have h2 : (i + 1) * n ≤ (n + n) * n := Nat.mul_le_mul_right n (by omega)
          rw [Nat.succ_mul] at h2
          exact h2
        refine ⟨_, rfl, c, rfl, small_log hcr.1 (by omega), _, hG', ?_, Ex.mut eG' hD, ys' ++ [Str.ofString (toString c)], by rw [upd_same, List.map_append]; rfl, by rw [List.length_append, hyl']; rfl, fun y hy => ?_⟩
        · rw [List.length_map, hyl']
          exact Nat.lt_of_le_of_lt (by omega : i * n + m ≤ 72) (by decide)
        · rcases List.mem_append.mp hy with h | h
          · exact hys' y h
          · simp at h
            rw [h]
            exact dig_len hcr.1 (by omega)
      · rintro G' ⟨eG', ys', hG', hyl', hys'⟩
        refine ⟨eG', ys', hG', ?_, hys'⟩
        rw [hyl', List.length_map, hrow.1, Nat.succ_mul]
    · rintro G ⟨eG, ys, hG, hyl, hys⟩
      rw [all_len] at hyl
      have eHG := eL.trans eG
      have haG : G a = some (.ins C dx []) := eHG _ _ ha
      have hpG : G p = some (.tup (rsS.map V.ref)) := eHG _ _ hp
      have hSl : (rsS.map V.ref).length = n := by
        have := T.sq.len
        rw [List.length_map]
        omega
      refine ⟨rfl, _, rfl, ⟨_, rfl⟩, ?_⟩
      refine ⟨_, rfl, p, _, rfl, .inr (.inl (.inl hpG)), n, by rw [hSl], small_log (by omega) (by omega), _, rfl, D, _, rfl, .inr (SqL.of hG), ?_, fun Lq hLq => ?_⟩
      · show (ys.map V.str ++ []).length + 1 + 1 ≤ sizeLine
        rw [List.append_nil, List.length_map, hyl]
        exact Nat.le_trans (by omega : (n + n) * n + 1 + 1 ≤ 74) (by decide)
      have hq2 : (upd G Lq (.lst (V.str "table" :: V.str (Str.ofString (toString (n : Int))) :: (ys.map V.str ++ [])))) Lq = some (.lst ((("table" : Str) :: Str.ofString (toString (n : Int)) :: ys).map V.str)) := by
        rw [upd_same, List.append_nil]
        rfl
      have eQ := Ex.new (o := .lst (V.str "table" :: V.str (Str.ofString (toString (n : Int))) :: (ys.map V.str ++ []))) hLq
      have ylen : ∀ y ∈ (("table" : Str) :: Str.ofString (toString (n : Int)) :: ys), y.length ≤ 5 := fun y hy => by
        rcases List.mem_cons.mp hy with h | h
        · rw [h]
          decide
        · rcases List.mem_cons.mp h with h | h
          · rw [h, dig_len (by omega) (by omega)]
            decide
          · rw [hys y h]
            decide
      have ycount : (("table" : Str) :: Str.ofString (toString (n : Int)) :: ys).length ≤ 74 := by
        show ys.length + 1 + 1 ≤ 74
        omega
      have zlen : (Str.join (" " : Str) (("table" : Str) :: Str.ofString (toString (n : Int)) :: ys)).length ≤ 10000 := by
        have h1 := join_len (" " : Str) 5 1 (by decide) _ ylen
        have h2 : (("table" : Str) :: Str.ofString (toString (n : Int)) :: ys).length * (5 + 1) ≤ 74 * (5 + 1) := Nat.mul_le_mul_right _ ycount
        omega
      show ∃ b p' ys', _
      refine ⟨_, Lq, _, rfl, rfl, .inl (SqL.of hq2), ?_, ?_⟩
      · have h1 := sum_len 5 _ ylen
        have h2 : (("table" : Str) :: Str.ofString (toString (n : Int)) :: ys).length * 5 ≤ 74 * 5 := Nat.mul_le_mul_right _ ycount
        show _ + _ * 1 ≤ 16777216
        omega
      refine ⟨_, rfl, p, _, rfl, .inr (.inl (.inl (eQ _ _ hpG))), ?_⟩
      rw [hSl]
      refine ⟨a, C, dx, [], _, _, rfl, eQ _ _ haG, ok, by decide, fun e H5 o5 he he5 h5 => ?_⟩
      have oAll : Only a H H5 := fun b o nb hb => o5 b o nb (eQ _ _ (eHG _ _ hb))
      have ea : e ≠ a := fun z => by
        rw [z, eQ _ _ haG] at he
        cases he
      generalize hz0 : Str.join (" " : Str) (("table" : Str) :: Str.ofString (toString (n : Int)) :: ys) = z0 at zlen
      have h5' : H5 a = some (.ins C dx (putF "_size" (.int n) (fsCounted (.str z0) (.int 0) (.int 1) (.ref e) []))) := by
        rw [← hz0]
        have hj : Txt.join (Str.ofString " ") (Str.ofString "table" :: Str.ofString (toString (n : Int)) :: ys) = Str.join (Str.ofString " ") (Str.ofString "table" :: Str.ofString (toString (n : Int)) :: ys) := by
          first
            | exact glued_eq_join _ _
            | exact StrLaws.glued_eq_join _ _
            | exact PySem.StrLaws.glued_eq_join _ _
        rw [hj] at h5
        exact h5
      refine ⟨_, rfl, _, rfl, a, C, dx, _, rfl, h5', ok.cls, ok.no _ (by decide), by (show 5 < 1000; decide), ?_⟩
      refine ⟨_, rfl, _, rfl, a, C, dx, _, rfl, upd_same, ok.cls, ok.no _ (by decide), by (show 6 < 1000; decide), ?_⟩
      refine q _ _ oAll.upd.upd upd_same ⟨⟨z0, rfl, zlen⟩, rfl, rfl, ⟨e, rfl, ?_⟩, rfl, rfl, rfl, fun f hf => ?_⟩
      · rw [upd_ne ea, upd_ne ea]
        exact he5
      · have nf : ∀ g ∈ fields, ¬(f = g) := fun g hg z => hf (z ▸ hg)
        unfold fsCounted
        simp only [lookup_putF]
        rw [if_neg (nf _ (by decide)), if_neg (nf _ (by decide)), if_neg (nf _ (by decide)), if_neg (nf _ (by decide)), if_neg (nf _ (by decide)), if_neg (nf _ (by decide)), if_neg (nf _ (by decide))]
        rfl
end
end D1
end
section
set_option Elab.async false
set_option linter.all false
set_option maxRecDepth 100000
set_option maxHeartbeats 4000000
/-! D22: methods of kinds -/
namespace D1
open PySem L2 Evl RZ ClX
section
variable {P : Program} {w : World} {K : PySem.W.Frag} {mg : Str → Option Value} {base : Heap}
/-- o.f told -/
def spGet (K : PySem.W.Frag) (x : Str) : Sp := fun vs H Q _ => ∃ (a C dx : Addr) (fs : List (Str × V)) (v : V), vs = [.ref a] ∧ H a = some (.ins C dx fs) ∧ OkC K C ∧ fs.lookup x = some v ∧ Q v H
def spFits (K : PySem.W.Frag) : Sp := fun vs H Q _ => ∃ (a C dx : Addr) (fs : List (Str × V)) (i n : Int), vs = [.ref a, .int i] ∧ H a = some (.ins C dx fs) ∧ OkC K C ∧ fs.lookup ("_size" : Str) = some (.int n) ∧ ∀ H', Ex H H' → Q (.bl (decide (0 ≤ i) && decide (i < n))) H'
/-- a sum or a product of a table's kind -/
def spCell (K : PySem.W.Frag) (x : Str) : Sp := fun vs H Q _ => ∃ (a C dx p : Addr) (fs : List (Str × V)) (n : Nat) (t : Tb) (i j : Int), vs = [.ref a, .int i, .int j] ∧ H a = some (.ins C dx fs) ∧ OkC K C ∧ fs.lookup x = some (.ref p) ∧ TabAt H p t ∧ Sq n t ∧ (0 ≤ i ∧ i < n) ∧ (0 ≤ j ∧ j < n) ∧ ∀ H', Ex H H' → Q (.int (cell t i j)) H'
theorem ev_fld {σ : L2.St} {H : Hp} {ta : TE} {a C dx : Addr} {fs : List (Str × V)} {f : Str} {v : V} (h : Ev ta σ H (.ref a)) (ha : H a = some (.ins C dx fs)) (ok : OkC K C) (hf : f ∈ fields) (hl : fs.lookup f = some v) : Ev (tFld K ta f) σ H v := fun H1 e Q q =>
  h H1 e _ fun H2 e2 => ⟨a, C, dx, fs, v, rfl, (e.trans e2) _ _ ha, ok.cls, ok.no f hf, hl, q H2 e2⟩
abbrev s_Kind_text : Stmt := meth 21 1
theorem sc_Kind_text : FnScope ["self"] ["self"] (defScope s_Kind_text) := ⟨rfl, rfl, rfl, by decide +kernel, rfl, by decide +kernel, by decide +kernel⟩
theorem ok_Kind_text {f : Addr} {fd : FuncData} (F : FnM K "Kind" "text" s_Kind_text f fd) : FnOk P w K mg base CX0 1 f fd ["self"] (spGet K "_text") := by
  refine F.ok sc_Kind_text (fun vs H Q E h => ?_) (fun cdv A outer s H vs Q E hr h => ?_)
  · obtain ⟨a, C, dx, fs, v, rfl, _⟩ := h
    rfl
  · obtain ⟨a, C, dx, fs, v, rfl, ha, ok, hl, q⟩ := h
    have hu := hu_of hr
    have hu64 := hr.units
    refine ⟨_, PSs.nox (pss_one (ps_ret (pe_fld (pv 0) rfl))), ?_⟩
    exact ⟨_, rfl, a, C, dx, fs, v, rfl, ha, ok.cls, ok.no _ (by decide), hl, q⟩
abbrev s_Kind_zero : Stmt := meth 21 2
theorem sc_Kind_zero : FnScope ["self"] ["self"] (defScope s_Kind_zero) := ⟨rfl, rfl, rfl, by decide +kernel, rfl, by decide +kernel, by decide +kernel⟩
theorem ok_Kind_zero {f : Addr} {fd : FuncData} (F : FnM K "Kind" "zero" s_Kind_zero f fd) : FnOk P w K mg base CX0 1 f fd ["self"] (spGet K "_zero") := by
  refine F.ok sc_Kind_zero (fun vs H Q E h => ?_) (fun cdv A outer s H vs Q E hr h => ?_)
  · obtain ⟨a, C, dx, fs, v, rfl, _⟩ := h
    rfl
  · obtain ⟨a, C, dx, fs, v, rfl, ha, ok, hl, q⟩ := h
    have hu := hu_of hr
    have hu64 := hr.units
    refine ⟨_, PSs.nox (pss_one (ps_ret (pe_fld (pv 0) rfl))), ?_⟩
    exact ⟨_, rfl, a, C, dx, fs, v, rfl, ha, ok.cls, ok.no _ (by decide), hl, q⟩
abbrev s_Kind_one : Stmt := meth 21 3
theorem sc_Kind_one : FnScope ["self"] ["self"] (defScope s_Kind_one) := ⟨rfl, rfl, rfl, by decide +kernel, rfl, by decide +kernel, by decide +kernel⟩
theorem ok_Kind_one {f : Addr} {fd : FuncData} (F : FnM K "Kind" "one" s_Kind_one f fd) : FnOk P w K mg base CX0 1 f fd ["self"] (spGet K "_one") := by
  refine F.ok sc_Kind_one (fun vs H Q E h => ?_) (fun cdv A outer s H vs Q E hr h => ?_)
  · obtain ⟨a, C, dx, fs, v, rfl, _⟩ := h
    rfl
  · obtain ⟨a, C, dx, fs, v, rfl, ha, ok, hl, q⟩ := h
    have hu := hu_of hr
    have hu64 := hr.units
    refine ⟨_, PSs.nox (pss_one (ps_ret (pe_fld (pv 0) rfl))), ?_⟩
    exact ⟨_, rfl, a, C, dx, fs, v, rfl, ha, ok.cls, ok.no _ (by decide), hl, q⟩
abbrev s_Ring_made : Stmt := meth 47 2
theorem sc_Ring_made : FnScope ["self"] ["self"] (defScope s_Ring_made) := ⟨rfl, rfl, rfl, by decide +kernel, rfl, by decide +kernel, by decide +kernel⟩
theorem ok_Ring_made {f : Addr} {fd : FuncData} (F : FnM K "Ring" "made" s_Ring_made f fd) : FnOk P w K mg base CX0 1 f fd ["self"] (spGet K "_made") := by
  refine F.ok sc_Ring_made (fun vs H Q E h => ?_) (fun cdv A outer s H vs Q E hr h => ?_)
  · obtain ⟨a, C, dx, fs, v, rfl, _⟩ := h
    rfl
  · obtain ⟨a, C, dx, fs, v, rfl, ha, ok, hl, q⟩ := h
    have hu := hu_of hr
    have hu64 := hr.units
    refine ⟨_, PSs.nox (pss_one (ps_ret (pe_fld (pv 0) rfl))), ?_⟩
    exact ⟨_, rfl, a, C, dx, fs, v, rfl, ha, ok.cls, ok.no _ (by decide), hl, q⟩
abbrev s_Finite_fits : Stmt := meth 29 2
theorem sc_Finite_fits : FnScope ["self", "number"] ["self", "number"] (defScope s_Finite_fits) := ⟨rfl, rfl, rfl, by decide +kernel, rfl, by decide +kernel, by decide +kernel⟩
theorem ok_Finite_fits {f : Addr} {fd : FuncData} (F : FnM K "Finite" "fits" s_Finite_fits f fd) : FnOk P w K mg base CX0 1 f fd ["self", "number"] (spFits K) := by
  refine F.ok sc_Finite_fits (fun vs H Q E h => ?_) (fun cdv A outer s H vs Q E hr h => ?_)
  · obtain ⟨a, C, dx, fs, i, n, rfl, _⟩ := h
    rfl
  · obtain ⟨a, C, dx, fs, i, n, rfl, ha, ok, hl, q⟩ := h
    have hu := hu_of hr
    have hu64 := hr.units
    refine ⟨_, PSs.nox (pss_one (ps_ret (pe_chain op_le op_lt pe_int (pv 1) (pe_fld (pv 0) rfl)))), ?_⟩
    refine ⟨_, rfl, _, _, rfl, rfl, _, rfl, ?_⟩
    by_cases h : (0 : Int) ≤ i
    · refine yes_of (decide_eq_true h) ⟨_, rfl, a, C, dx, fs, _, rfl, ha, ok.cls, ok.no _ (by decide), hl, _, _, rfl, rfl, ?_⟩
      have := q H (Ex.refl H)
      rw [decide_eq_true h, Bool.true_and] at this
      exact this
    · refine no_of (decide_eq_false h) ?_
      have := q H (Ex.refl H)
      rw [decide_eq_false h, Bool.false_and] at this
      exact this
abbrev s_Table_plus : Stmt := meth 31 1
theorem sc_Table_plus : FnScope ["self", "a", "b"] ["self", "a", "b"] (defScope s_Table_plus) := ⟨rfl, rfl, rfl, by decide +kernel, rfl, by decide +kernel, by decide +kernel⟩
theorem ok_Table_plus {f : Addr} {fd : FuncData} (F : FnM K "Table" "plus" s_Table_plus f fd) : FnOk P w K mg base CX0 1 f fd ["self", "a", "b"] (spCell K "_sums") := by
  refine F.ok sc_Table_plus (fun vs H Q E h => ?_) (fun cdv A outer s H vs Q E hr h => ?_)
  · obtain ⟨a, C, dx, p, fs, n, t, i, j, rfl, _⟩ := h
    rfl
  · obtain ⟨a, C, dx, p, fs, n, t, i, j, rfl, ha, ok, hl, hT, s, ⟨i0, i1⟩, ⟨j0, j1⟩, q⟩ := h
    have hu := hu_of hr
    have hu64 := hr.units
    refine ⟨_, PSs.nox (pss_one (ps_ret (pe_ix ix_tup (pe_ix ix_tup (pe_fld (pv 0) rfl) (pv 1) (fun _ _ => rfl)) (pv 2) (fun _ _ => rfl)))), ?_⟩
    exact s_ret (D := { nx := fun _ H' => Q .non H', rt := Q }) (ev_cell (ev_fld (ev_var rfl) ha ok (by decide) hl) (ev_var rfl) (ev_var rfl) hT s i0 i1 j0 j1) fun H' e => q H' e
abbrev s_Table_times : Stmt := meth 31 2
theorem sc_Table_times : FnScope ["self", "a", "b"] ["self", "a", "b"] (defScope s_Table_times) := ⟨rfl, rfl, rfl, by decide +kernel, rfl, by decide +kernel, by decide +kernel⟩
theorem ok_Table_times {f : Addr} {fd : FuncData} (F : FnM K "Table" "times" s_Table_times f fd) : FnOk P w K mg base CX0 1 f fd ["self", "a", "b"] (spCell K "_products") := by
  refine F.ok sc_Table_times (fun vs H Q E h => ?_) (fun cdv A outer s H vs Q E hr h => ?_)
  · obtain ⟨a, C, dx, p, fs, n, t, i, j, rfl, _⟩ := h
    rfl
  · obtain ⟨a, C, dx, p, fs, n, t, i, j, rfl, ha, ok, hl, hT, s, ⟨i0, i1⟩, ⟨j0, j1⟩, q⟩ := h
    have hu := hu_of hr
    have hu64 := hr.units
    refine ⟨_, PSs.nox (pss_one (ps_ret (pe_ix ix_tup (pe_ix ix_tup (pe_fld (pv 0) rfl) (pv 1) (fun _ _ => rfl)) (pv 2) (fun _ _ => rfl)))), ?_⟩
    exact s_ret (D := { nx := fun _ H' => Q .non H', rt := Q }) (ev_cell (ev_fld (ev_var rfl) ha ok (by decide) hl) (ev_var rfl) (ev_var rfl) hT s i0 i1 j0 j1) fun H' e => q H' e
def spGood (K : PySem.W.Frag) (C : Addr) : Sp := fun vs H Q _ => ∃ (a dx : Addr) (fs : List (Str × V)) (i : Int) (n : Nat), vs = [.ref a, .int i] ∧ H a = some (.ins C dx fs) ∧ OkC K C ∧ fs.lookup ("_size" : Str) = some (.int n) ∧ fs.lookup ("fits" : Str) = none ∧ ∀ H', Ex H H' → Q (.bl (decide (0 ≤ i) && decide (i < (n : Int)))) H'
abbrev s_Counted_good : Stmt := meth 22 1
theorem sc_Counted_good : FnScope ["self", "thing"] ["self", "thing"] (defScope s_Counted_good) := ⟨rfl, rfl, rfl, by decide +kernel, rfl, by decide +kernel, by decide +kernel⟩
theorem ok_Counted_good {f : Addr} {fd : FuncData} (F : FnM K "Counted" "good" s_Counted_good f fd) {f_is_number : Addr} {fd_is_number : FuncData} (F_is_number : FnP K "is_number" s_is_number f_is_number fd_is_number) (g_is_number : mg "is_number" = some (.ref f_is_number)) (G_is_number : FnOk P w K mg base CX0 1 f_is_number fd_is_number ["thing"] spNumI) {f_Finite_fits : Addr} {fd_Finite_fits : FuncData} (F_Finite_fits : FnM K "Finite" "fits" s_Finite_fits f_Finite_fits fd_Finite_fits) (G_Finite_fits : FnOk P w K mg base CX0 1 f_Finite_fits fd_Finite_fits ["self", "number"] (spFits K)) {C0 : Addr} (ok0 : OkC K C0) (m_fits : Meth K C0 "fits" f_Finite_fits) (z_isinstance : mg "isinstance" = none) (z_str : mg "str" = none) : FnOk P w K mg base CX0 2 f fd ["self", "thing"] (spGood K C0) := by
  have b_is_number : Binds K fd_is_number ["thing"] [] := F_is_number.bindsN fun _ _ _ _ _ _ us hl => match us, hl with | [_], _ => rfl
  have b_Finite_fits : Binds K fd_Finite_fits ["self", "number"] [] := F_Finite_fits.bindsN fun _ _ _ _ _ _ us hl => match us, hl with | [_, _], _ => rfl
  refine F.ok sc_Counted_good (fun vs H Q E h => ?_) (fun cdv A outer s H vs Q E hr h => ?_)
  · obtain ⟨a, dx, fs, i, n, rfl, _⟩ := h
    rfl
  · obtain ⟨a, dx, fs, i, n, rfl, ha, ok, hl, hm, q⟩ := h
    have hu := hu_of hr
    have hu64 := hr.units
    have hr_is_number := hr.mono (by decide : 1 ≤ 1)
    have hr_Finite_fits := hr.mono (by decide : 1 ≤ 1)
    refine ⟨_, PSs.nox (pss_cons (ps_if (pt_val (pe_callB call_isi (by rfl) z_isinstance PyProof.Rows.boot_isinstance (pa_cons (pv 1) (pa_cons (pe_bltn (v := .ty "str") rfl z_str (by decide +kernel) rfl) pa_nil)))) (pss_one (ps_ret (pe_cmpR op_in_seq (pv 1) (pe_fld (pv 0) rfl) (by rfl)))) pss_nil)
      (pss_one (ps_ret (pe_and (pe_call G_is_number hr_is_number rfl g_is_number F_is_number.kp b_is_number .nil pass0 (pa_cons (pv 1) pa_nil)) (pe_one (pe_meth (C := C0) (pv 0) ok0.cls m_fits G_Finite_fits hr_Finite_fits b_Finite_fits .nil pass0 (pa_cons (pv 1) pa_nil))))))), ?_⟩
    have kis : PySem.W.kitOne K (.type "int") (.type "str") = some false := kit_ty (show kitB _ _ = some false by decide +kernel)
    refine q_when (b := false) (et_B (ev_isi (T := "int") (ev_var rfl) (fun _ _ => .base (.int i)) kis (.ty "str"))) (fun hb => (by cases hb)) (fun _ H1 e1 => ?_)
    refine ⟨_, rfl, i, rfl, fun H2 e2 => ⟨_, rfl, yes_of rfl ?_⟩⟩
    exact ⟨_, rfl, a, dx, fs, rfl, (e1.trans e2) _ _ ha, hm, _, rfl, a, C0, dx, fs, i, n, rfl, (e1.trans e2) _ _ ha, ok, hl, fun H3 e3 => q H3 ((e1.trans e2).trans e3)⟩
end
end D1
end
section
set_option Elab.async false
set_option linter.all false
set_option maxRecDepth 100000
set_option maxHeartbeats 4000000
/-! D23: Rings of tables: need, plus, times -/
namespace D1
open PySem L2 Evl RZ ClX
/-- what isn't come to -/
theorem ps_dead {X : Cx} {st : Stmt} : PS X st (fun _ _ _ => False) := ⟨fun _ _ _ _ _ _ h => h.elim⟩
/-- the Ring of a table -/
def RingT (CR CT : Addr) (H : Hp) (v made : V) (n : Nat) (S M : Tb) : Prop := ∃ (r dr k dk p q : Addr) (fr fk : List (Str × V)), v = .ref r ∧ H r = some (.ins CR dr fr) ∧ fr.lookup ("_made" : Str) = some made ∧ fr.lookup ("_kind" : Str) = some (.ref k) ∧ (∀ f, f ∉ fields → fr.lookup f = none) ∧
  H k = some (.ins CT dk fk) ∧ TabF H fk n p q ∧ Two n H p q S M
theorem TabF.ex {H H' : Hp} {fs : List (Str × V)} {n : Nat} {p q : Addr} (h : TabF H fs n p q) (e : Ex H H') : TabF H' fs n p q := ⟨h.text, h.zero, h.one, let ⟨a, b, c⟩ := h.oth; ⟨a, b, e _ _ c⟩, h.size, h.sums, h.prods, h.no⟩
theorem RingT.ex {CR CT : Addr} {H H' : Hp} {v made : V} {n : Nat} {S M : Tb} (h : RingT CR CT H v made n S M) (e : Ex H H') : RingT CR CT H' v made n S M := by
  obtain ⟨r, dr, k, dk, p, q, fr, fk, h1, h2, h3, h4, h5, h6, h7, h8⟩ := h
  exact ⟨r, dr, k, dk, p, q, fr, fk, h1, e _ _ h2, h3, h4, h5, e _ _ h6, h7.ex e, h8.ex e⟩
section
variable {P : Program} {w : World} {K : PySem.W.Frag} {mg : Str → Option Value} {base : Heap}
def spNeed (CR CT : Addr) : Sp := fun vs H Q _ => ∃ (v made : V) (n : Nat) (S M : Tb) (i : Int), vs = [v, .int i] ∧ RingT CR CT H v made n S M ∧ 0 ≤ i ∧ i < n ∧ ∀ H', Ex H H' → Q .non H'
def spRSum (CR CT : Addr) (sum : Bool) : Sp := fun vs H Q _ => ∃ (v made : V) (n : Nat) (S M : Tb) (i j : Int), vs = [v, .int i, .int j] ∧ RingT CR CT H v made n S M ∧ (0 ≤ i ∧ i < n) ∧ (0 ≤ j ∧ j < n) ∧ ∀ H', Ex H H' → Q (.int (cell (if sum = true then S else M) i j)) H'
abbrev s_Ring_need : Stmt := meth 47 8
theorem sc_Ring_need : FnScope ["self", "thing"] ["self", "thing"] (defScope s_Ring_need) := ⟨rfl, rfl, rfl, by decide +kernel, rfl, by decide +kernel, by decide +kernel⟩
theorem ok_Ring_need {f : Addr} {fd : FuncData} (F : FnM K "Ring" "need" s_Ring_need f fd) {CR CT : Addr} (okR : OkC K CR) (okT : OkC K CT) {f_Counted_good : Addr} {fd_Counted_good : FuncData} (F_Counted_good : FnM K "Counted" "good" s_Counted_good f_Counted_good fd_Counted_good) (G_Counted_good : FnOk P w K mg base CX0 2 f_Counted_good fd_Counted_good ["self", "thing"] (spGood K CT)) (m_Counted_good : Meth K CT "good" f_Counted_good) : FnOk P w K mg base CX0 3 f fd ["self", "thing"] (spNeed CR CT) := by
  have b_Counted_good : Binds K fd_Counted_good ["self", "thing"] [] := F_Counted_good.bindsN fun _ _ _ _ _ _ us hl => match us, hl with | [_, _], _ => rfl
  refine F.ok sc_Ring_need (fun vs H Q E h => ?_) (fun cdv A outer s H vs Q E hr h => ?_)
  · obtain ⟨v, made, n, S, M, i, rfl, _⟩ := h
    rfl
  · obtain ⟨v, made, n, S, M, i, rfl, hR, i0, i1, q⟩ := h
    have hu := hu_of hr
    have hu64 := hr.units
    have hr_Counted_good := hr.mono (by decide : 2 ≤ 2)
    refine ⟨_, PSs.nox (pss_one (ps_if (pt_not (pt_val (pe_meth (C := CT) (pe_fld (pv 0) rfl) okT.cls m_Counted_good G_Counted_good hr_Counted_good b_Counted_good .nil pass0 (pa_cons (pv 1) pa_nil)))) (pss_one (ps_dead)) pss_nil)), ?_⟩
    obtain ⟨r, dr, k, dk, p, q', fr, fk, rfl, h2, h3, h4, h5, h6, h7, h8⟩ := hR
    refine ⟨_, rfl, r, CR, dr, fr, _, rfl, h2, okR.cls, okR.no _ (by decide), h4, k, dk, fk, rfl, h6, h7.no _ (by decide), _, rfl, k, dk, fk, i, n, rfl, h6, okT, h7.size, h7.no _ (by decide), fun H1 e1 => ⟨_, rfl, ?_⟩⟩
    rw [decide_eq_true i0, decide_eq_true i1]
    exact no_of rfl (q H1 e1)
abbrev s_Ring_plus : Stmt := meth 47 9
theorem sc_Ring_plus : FnScope ["self", "a", "b"] ["self", "a", "b"] (defScope s_Ring_plus) := ⟨rfl, rfl, rfl, by decide +kernel, rfl, by decide +kernel, by decide +kernel⟩
theorem ok_Ring_plus {f : Addr} {fd : FuncData} (F : FnM K "Ring" "plus" s_Ring_plus f fd) {CR CT : Addr} (okR : OkC K CR) (okT : OkC K CT) {f_Ring_need : Addr} {fd_Ring_need : FuncData} (F_Ring_need : FnM K "Ring" "need" s_Ring_need f_Ring_need fd_Ring_need) (G_Ring_need : FnOk P w K mg base CX0 3 f_Ring_need fd_Ring_need ["self", "thing"] (spNeed CR CT)) (m_Ring_need : Meth K CR "need" f_Ring_need) {f_Table_plus : Addr} {fd_Table_plus : FuncData} (F_Table_plus : FnM K "Table" "plus" s_Table_plus f_Table_plus fd_Table_plus) (G_Table_plus : FnOk P w K mg base CX0 1 f_Table_plus fd_Table_plus ["self", "a", "b"] (spCell K "_sums")) (m_Table_plus : Meth K CT "plus" f_Table_plus) : FnOk P w K mg base CX0 4 f fd ["self", "a", "b"] (spRSum CR CT true) := by
  have b_Ring_need : Binds K fd_Ring_need ["self", "thing"] [] := F_Ring_need.bindsN fun _ _ _ _ _ _ us hl => match us, hl with | [_, _], _ => rfl
  have b_Table_plus : Binds K fd_Table_plus ["self", "a", "b"] [] := F_Table_plus.bindsN fun _ _ _ _ _ _ us hl => match us, hl with | [_, _, _], _ => rfl
  refine F.ok sc_Ring_plus (fun vs H Q E h => ?_) (fun cdv A outer s H vs Q E hr h => ?_)
  · obtain ⟨v, made, n, S, M, i, j, rfl, _⟩ := h
    rfl
  · obtain ⟨v, made, n, S, M, i, j, rfl, hR, ⟨i0, i1⟩, ⟨j0, j1⟩, q⟩ := h
    have hu := hu_of hr
    have hu64 := hr.units
    have hr_Ring_need := hr.mono (by decide : 3 ≤ 3)
    have hr_Table_plus := hr.mono (by decide : 1 ≤ 3)
    refine ⟨_, PSs.nox (pss_cons (ps_expr (pe_meth (C := CR) (pv 0) okR.cls m_Ring_need G_Ring_need hr_Ring_need b_Ring_need .nil pass0 (pa_cons (pv 1) pa_nil)))
      (pss_cons (ps_expr (pe_meth (C := CR) (pv 0) okR.cls m_Ring_need G_Ring_need hr_Ring_need b_Ring_need .nil pass0 (pa_cons (pv 2) pa_nil)))
      (pss_one (ps_ret (pe_meth (C := CT) (pe_fld (pv 0) rfl) okT.cls m_Table_plus G_Table_plus hr_Table_plus b_Table_plus .nil pass0 (pa_cons (pv 1) (pa_cons (pv 2) pa_nil))))))), ?_⟩
    obtain ⟨r, dr, k, dk, p, q', fr, fk, rfl, h2, h3, h4, h5, h6, h7, h8⟩ := id hR
    refine ⟨_, rfl, r, dr, fr, rfl, h2, h5 _ (by decide), _, rfl, .ref r, made, n, S, M, i, rfl, hR, i0, i1, fun H1 e1 => ?_⟩
    refine ⟨_, rfl, r, dr, fr, rfl, e1 _ _ h2, h5 _ (by decide), _, rfl, .ref r, made, n, S, M, j, rfl, hR.ex e1, j0, j1, fun H2 e2 => ?_⟩
    have e3 := e1.trans e2
    refine ⟨_, rfl, r, CR, dr, fr, _, rfl, e3 _ _ h2, okR.cls, okR.no _ (by decide), h4, k, dk, fk, rfl, e3 _ _ h6, h7.no _ (by decide), _, rfl, _, rfl, k, CT, dk, p, fk, n, S, i, j, rfl, e3 _ _ h6, okT, h7.sums, (h8.ex e3).s, h8.sq, ⟨i0, i1⟩, ⟨j0, j1⟩, fun H3 e4 => q H3 (e3.trans e4)⟩
abbrev s_Ring_times : Stmt := meth 47 10
theorem sc_Ring_times : FnScope ["self", "a", "b"] ["self", "a", "b"] (defScope s_Ring_times) := ⟨rfl, rfl, rfl, by decide +kernel, rfl, by decide +kernel, by decide +kernel⟩
theorem ok_Ring_times {f : Addr} {fd : FuncData} (F : FnM K "Ring" "times" s_Ring_times f fd) {CR CT : Addr} (okR : OkC K CR) (okT : OkC K CT) {f_Ring_need : Addr} {fd_Ring_need : FuncData} (F_Ring_need : FnM K "Ring" "need" s_Ring_need f_Ring_need fd_Ring_need) (G_Ring_need : FnOk P w K mg base CX0 3 f_Ring_need fd_Ring_need ["self", "thing"] (spNeed CR CT)) (m_Ring_need : Meth K CR "need" f_Ring_need) {f_Table_times : Addr} {fd_Table_times : FuncData} (F_Table_times : FnM K "Table" "times" s_Table_times f_Table_times fd_Table_times) (G_Table_times : FnOk P w K mg base CX0 1 f_Table_times fd_Table_times ["self", "a", "b"] (spCell K "_products")) (m_Table_times : Meth K CT "times" f_Table_times) : FnOk P w K mg base CX0 4 f fd ["self", "a", "b"] (spRSum CR CT false) := by
  have b_Ring_need : Binds K fd_Ring_need ["self", "thing"] [] := F_Ring_need.bindsN fun _ _ _ _ _ _ us hl => match us, hl with | [_, _], _ => rfl
  have b_Table_times : Binds K fd_Table_times ["self", "a", "b"] [] := F_Table_times.bindsN fun _ _ _ _ _ _ us hl => match us, hl with | [_, _, _], _ => rfl
  refine F.ok sc_Ring_times (fun vs H Q E h => ?_) (fun cdv A outer s H vs Q E hr h => ?_)
  · obtain ⟨v, made, n, S, M, i, j, rfl, _⟩ := h
    rfl
  · obtain ⟨v, made, n, S, M, i, j, rfl, hR, ⟨i0, i1⟩, ⟨j0, j1⟩, q⟩ := h
    have hu := hu_of hr
    have hu64 := hr.units
    have hr_Ring_need := hr.mono (by decide : 3 ≤ 3)
    have hr_Table_times := hr.mono (by decide : 1 ≤ 3)
    refine ⟨_, PSs.nox (pss_cons (ps_expr (pe_meth (C := CR) (pv 0) okR.cls m_Ring_need G_Ring_need hr_Ring_need b_Ring_need .nil pass0 (pa_cons (pv 1) pa_nil)))
      (pss_cons (ps_expr (pe_meth (C := CR) (pv 0) okR.cls m_Ring_need G_Ring_need hr_Ring_need b_Ring_need .nil pass0 (pa_cons (pv 2) pa_nil)))
      (pss_one (ps_ret (pe_meth (C := CT) (pe_fld (pv 0) rfl) okT.cls m_Table_times G_Table_times hr_Table_times b_Table_times .nil pass0 (pa_cons (pv 1) (pa_cons (pv 2) pa_nil))))))), ?_⟩
    obtain ⟨r, dr, k, dk, p, q', fr, fk, rfl, h2, h3, h4, h5, h6, h7, h8⟩ := id hR
    refine ⟨_, rfl, r, dr, fr, rfl, h2, h5 _ (by decide), _, rfl, .ref r, made, n, S, M, i, rfl, hR, i0, i1, fun H1 e1 => ?_⟩
    refine ⟨_, rfl, r, dr, fr, rfl, e1 _ _ h2, h5 _ (by decide), _, rfl, .ref r, made, n, S, M, j, rfl, hR.ex e1, j0, j1, fun H2 e2 => ?_⟩
    have e3 := e1.trans e2
    refine ⟨_, rfl, r, CR, dr, fr, _, rfl, e3 _ _ h2, okR.cls, okR.no _ (by decide), h4, k, dk, fk, rfl, e3 _ _ h6, h7.no _ (by decide), _, rfl, _, rfl, k, CT, dk, q', fk, n, M, i, j, rfl, e3 _ _ h6, okT, h7.prods, (h8.ex e3).p, h8.pq, ⟨i0, i1⟩, ⟨j0, j1⟩, fun H3 e4 => q H3 (e3.trans e4)⟩
end
end D1
end
section
set_option Elab.async false
set_option linter.all false
set_option maxRecDepth 100000
set_option maxHeartbeats 4000000
/-! D24: Pair made -/
namespace D1
open PySem L2 Evl RZ ClX
def Mk.bound : D1.Mk → Nat
  | .tab _ _ => 10000
  | .pair a b => a.bound + b.bound + 6
  | _ => 5
def clsOf (CT CU CP : Addr) : D1.Mk → Addr
  | .tab _ _ => CT
  | .pair _ _ => CP
  | _ => CU
/-- what any kind has in it -/
structure AnyF (fs : List (Str × V)) (b : Nat) : Prop where
  text : ∃ z : Str, fs.lookup ("_text" : Str) = some (.str z) ∧ z.length ≤ b
  zero : ∃ v, fs.lookup ("_zero" : Str) = some v
  one : ∃ v, fs.lookup ("_one" : Str) = some v
  no : ∀ f, f ∉ fields → fs.lookup f = none
def KindAt (CT CU CP : Addr) (H : Hp) (v : V) (m : D1.Mk) : Prop := ∃ (a dx : Addr) (fs : List (Str × V)), v = .ref a ∧ H a = some (.ins (clsOf CT CU CP m) dx fs) ∧ AnyF fs m.bound ∧ ∀ S M, m = .tab S M → ∃ n p q, TabF H fs n p q ∧ Two n H p q S M
theorem KindAt.ex {CT CU CP : Addr} {H H' : Hp} {v : V} {m : D1.Mk} (h : KindAt CT CU CP H v m) (e : Ex H H') : KindAt CT CU CP H' v m := by
  obtain ⟨a, dx, fs, h1, h2, h3, h4⟩ := h
  exact ⟨a, dx, fs, h1, e _ _ h2, h3, fun S M hm => let ⟨n, p, q, x, y⟩ := h4 S M hm; ⟨n, p, q, x.ex e, y.ex e⟩⟩
def S3 (CT CU CP : Addr) (sp : Sp) (C : Addr) : Option Sp := if C = CT ∨ C = CU ∨ C = CP then some sp else none
theorem S3_is {CT CU CP : Addr} {sp : Sp} (m : D1.Mk) : S3 CT CU CP sp (clsOf CT CU CP m) = some sp := by
  unfold S3
  refine if_pos ?_
  cases m
  · exact .inl rfl
  · exact .inr (.inl rfl)
  · exact .inr (.inl rfl)
  · exact .inr (.inr rfl)
theorem slen (a b : Str) : (a ++ b).length = a.length + b.length := app_len a b
section
variable {P : Program} {w : World} {K : PySem.W.Frag} {mg : Str → Option Value} {base : Heap}
def spPairI (K : PySem.W.Frag) (CT CU CP : Addr) : Sp := fun vs H Q _ => ∃ (a dx : Addr) (l r : V) (x y : D1.Mk), vs = [.ref a, l, r] ∧ H a = some (.ins CP dx []) ∧ KindAt CT CU CP H l x ∧ KindAt CT CU CP H r y ∧ x.bound + y.bound ≤ 200000 ∧ ∀ (fs : List (Str × V)) H', Only a H H' → H' a = some (.ins CP dx fs) → AnyF fs (x.bound + y.bound + 6) → Q .non H'
abbrev s_Pair_init : Stmt := meth 33 0
theorem sc_Pair_init : FnScope ["self", "left", "right", "text"] ["self", "left", "right"] (defScope s_Pair_init) := ⟨rfl, rfl, rfl, by decide +kernel, rfl, by decide +kernel, by decide +kernel⟩
theorem ok_Pair_init {f : Addr} {fd : FuncData} (F : FnM K "Pair" "__init__" s_Pair_init f fd) {CT CU CP : Addr} (okT : OkC K CT) (okU : OkC K CU) (okP : OkC K CP) (A_text : ∀ C sp, S3 CT CU CP (spGet K "_text") C = some sp → HeldM P w K mg base 1 "text" C sp) (A_zero : ∀ C sp, S3 CT CU CP (spGet K "_zero") C = some sp → HeldM P w K mg base 1 "zero" C sp) (A_one : ∀ C sp, S3 CT CU CP (spGet K "_one") C = some sp → HeldM P w K mg base 1 "one" C sp) {f_Kind_init : Addr} {fd_Kind_init : FuncData} (F_Kind_init : FnM K "Kind" "__init__" s_Kind_init f_Kind_init fd_Kind_init) (G_Kind_init : FnOk P w K mg base CX0 1 f_Kind_init fd_Kind_init ["self", "text", "zero", "one"] (spKind K)) (B_Kind : BaseI K mg "Kind" f_Kind_init) : FnOk P w K mg base CX0 2 f fd ["self", "left", "right"] (spPairI K CT CU CP) := by
  obtain ⟨C_Kind, mc_Kind, g_Kind, r_Kind, c_Kind⟩ := B_Kind.ex
  have b_Kind_init : Binds K fd_Kind_init ["self", "text", "zero", "one"] [] := F_Kind_init.bindsN fun _ _ _ _ _ _ us hl => match us, hl with | [_, _, _, _], _ => rfl
  refine F.ok sc_Pair_init (fun vs H Q E h => ?_) (fun cdv A outer s H vs Q E hr h => ?_)
  · obtain ⟨a, dx, l, r, x, y, rfl, _⟩ := h
    rfl
  · obtain ⟨a, dx, l, r, x, y, rfl, ha, hl, hr0, hb, q⟩ := h
    have hu := hu_of hr
    have hu64 := hr.units
    have hr_Kind_init := hr.mono (by decide : 1 ≤ 1)
    have hr_get := hr.mono (by decide : 1 ≤ 1)
    refine ⟨_, PSs.nox (pss_cons (ps_set (i := 3) sc_Pair_init.nd rfl (Or.inl rfl) (pe_joined (PJ.cons pe_str (PJ.cons (pe_fmt (pe_methA0 (S := S3 CT CU CP (spGet K "_text")) A_text (pv 1) hr_get)) (PJ.cons pe_str (PJ.cons (pe_fmt (pe_methA0 (S := S3 CT CU CP (spGet K "_text")) A_text (pv 2) hr_get)) PJ.nil))))))
      (pss_cons (ps_expr (pe_cfn (C := C_Kind) (mc := mc_Kind) (pe_glob (v := .ref C_Kind) rfl g_Kind rfl) r_Kind c_Kind G_Kind_init hr_Kind_init F_Kind_init.kp b_Kind_init .nil pass0 (pa_cons (pv 0) (pa_cons (pv 3) (pa_cons (pe_tup (pa_cons (pe_methA0 (S := S3 CT CU CP (spGet K "_zero")) A_zero (pv 1) hr_get) (pa_cons (pe_methA0 (S := S3 CT CU CP (spGet K "_zero")) A_zero (pv 2) hr_get) pa_nil))) (pa_cons (pe_tup (pa_cons (pe_methA0 (S := S3 CT CU CP (spGet K "_one")) A_one (pv 1) hr_get) (pa_cons (pe_methA0 (S := S3 CT CU CP (spGet K "_one")) A_one (pv 2) hr_get) pa_nil))) pa_nil))))))
      (pss_cons (ps_fld (pv 0) (pv 1) rfl)
      (pss_one (ps_fld (pv 0) (pv 2) rfl))))), ?_⟩
    have okm : ∀ m : D1.Mk, OkC K (clsOf CT CU CP m) := fun m => by
      cases m
      · exact okT
      · exact okU
      · exact okU
      · exact okP
    obtain ⟨la, ld, lf, rfl, l1, l2, _⟩ := hl
    obtain ⟨ra, rd, rf, rfl, r1, r2, _⟩ := hr0
    obtain ⟨lz, lt1, lt2⟩ := l2.text
    obtain ⟨rz, rt1, rt2⟩ := r2.text
    obtain ⟨lv0, lz0⟩ := l2.zero
    obtain ⟨rv0, rz0⟩ := r2.zero
    obtain ⟨lv1, lz1⟩ := l2.one
    obtain ⟨rv1, rz1⟩ := r2.one
    have big : (300000 : Nat) ≤ sizeLine := by decide
    have h5 : ("pair " : Str).length = 5 := by decide
    have h1 : (" " : Str).length = 1 := by decide
    have h0 : (Str.empty ++ ("pair " : Str)).length = 5 := by decide
    refine ⟨_, rfl, by rw [h0]; omega, _, rfl, la, _, ld, lf, _, rfl, S3_is x, l1, l2.no _ (by decide), la, _, ld, lf, _, rfl, l1, okm x, lt1, .inl ⟨lz, rfl, by omega, _, rfl, by rw [slen, h0]; omega, ?_⟩⟩
    refine ⟨_, rfl, by rw [slen, slen, h0, h1]; omega, _, rfl, ra, _, rd, rf, _, rfl, S3_is y, r1, r2.no _ (by decide), ra, _, rd, rf, _, rfl, r1, okm y, rt1, .inl ⟨rz, rfl, by omega, _, rfl, by rw [slen, slen, slen, h0, h1]; omega, ?_⟩⟩
    have tl : (((Str.empty ++ ("pair " : Str)) ++ lz) ++ (" " : Str) ++ rz).length ≤ x.bound + y.bound + 6 := by
      rw [slen, slen, slen, h0, h1]
      omega
    generalize hz : ((Str.empty ++ ("pair " : Str)) ++ lz) ++ (" " : Str) ++ rz = z at tl
    refine ⟨rfl, _, rfl, _, rfl, ?_⟩
    refine ⟨_, rfl, la, _, ld, lf, _, rfl, S3_is x, l1, l2.no _ (by decide), la, _, ld, lf, lv0, rfl, l1, okm x, lz0, _, rfl, ra, _, rd, rf, _, rfl, S3_is y, r1, r2.no _ (by decide), ra, _, rd, rf, rv0, rfl, r1, okm y, rz0, by show 2 ≤ sizeLine; decide, fun T0 hT0 => ?_⟩
    have e0 := Ex.new (o := .tup [lv0, rv0]) hT0
    have l3 := e0 _ _ l1
    have r3 := e0 _ _ r1
    refine ⟨_, rfl, la, _, ld, lf, _, rfl, S3_is x, l3, l2.no _ (by decide), la, _, ld, lf, lv1, rfl, l3, okm x, lz1, _, rfl, ra, _, rd, rf, _, rfl, S3_is y, r3, r2.no _ (by decide), ra, _, rd, rf, rv1, rfl, r3, okm y, rz1, by show 2 ≤ sizeLine; decide, fun T1 hT1 => ?_⟩
    have e1 := Ex.new (o := .tup [lv1, rv1]) hT1
    refine ⟨a, CP, dx, [], .str z, .ref T0, .ref T1, rfl, (e0.trans e1) _ _ ha, okP, by decide, fun H1 o1 h1 => ?_⟩
    refine ⟨_, rfl, _, rfl, a, CP, dx, _, rfl, h1, okP.cls, okP.no _ (by decide), by (show 3 < 1000; decide), ?_⟩
    refine ⟨_, rfl, _, rfl, a, CP, dx, _, rfl, upd_same, okP.cls, okP.no _ (by decide), by (show 4 < 1000; decide), ?_⟩
    refine q _ _ (Only.trans (fun b o _ e => (e0.trans e1) b o e) o1).upd.upd upd_same ⟨⟨z, rfl, tl⟩, ⟨_, rfl⟩, ⟨_, rfl⟩, fun f hf => ?_⟩
    have nf : ∀ g ∈ fields, ¬(f = g) := fun g hg z => hf (z ▸ hg)
    simp only [lookup_putF]
    rw [if_neg (nf _ (by decide)), if_neg (nf _ (by decide)), if_neg (nf _ (by decide)), if_neg (nf _ (by decide)), if_neg (nf _ (by decide))]
    rfl
end
end D1
end
section
set_option Elab.async false
set_option linter.all false
set_option maxRecDepth 100000
set_option maxHeartbeats 4000000
/-! D25: kind_of; Ring made -/
namespace D1
open PySem L2 Evl RZ ClX
def Mk.good : D1.Mk → Prop
  | .tab S M => ∃ n, 2 ≤ n ∧ n ≤ 6 ∧ Sq n S ∧ Sq n M
  | .pair a b => a.good ∧ b.good
  | .truth => True
  | .rest _ => False
theorem bound_le : ∀ m : D1.Mk, m.bound + 6 ≤ 10006 * 2 ^ m.depth
  | .tab S M => by
    show 10006 ≤ 10006 * 1
    decide
  | .truth => by
    show 11 ≤ 10006 * 1
    decide
  | .rest k => by
    show 11 ≤ 10006 * 1
    decide
  | .pair a b => by
    have h1 := bound_le a
    have h2 := bound_le b
    show a.bound + b.bound + 6 + 6 ≤ 10006 * 2 ^ (max a.depth b.depth + 1)
    have h3 : 2 ^ a.depth ≤ 2 ^ max a.depth b.depth := Nat.pow_le_pow_right (by decide) (Nat.le_max_left _ _)
    have h4 : 2 ^ b.depth ≤ 2 ^ max a.depth b.depth := Nat.pow_le_pow_right (by decide) (Nat.le_max_right _ _)
    rw [Nat.pow_succ]
    omega
theorem made_ex {H H' : Hp} {x dx C : Addr} (nx : H x = none) (ndx : H dx = none) (o : Only x (upd (upd H dx (.own x)) x (.ins C dx [])) H') : Ex H H' := fun b u e => o b u (ne_of_none e nx) (by rw [upd_ne (ne_of_none e nx), upd_ne (ne_of_none e ndx)]; exact e)
theorem new_ex {H : Hp} {x dx C : Addr} (nx : H x = none) (ndx : H dx = none) : Ex H (upd (upd H dx (.own x)) x (.ins C dx [])) := made_ex nx ndx Only.refl
/-- tuples stay -/
def TupKeep (H H' : Hp) : Prop := ∀ b xs, H b = some (.tup xs) → H' b = some (.tup xs)
theorem TabAt.keep {H H' : Hp} {p : Addr} {t : Tb} (k : TupKeep H H') (h : TabAt H p t) : TabAt H' p t := by
  obtain ⟨rs, h1, h2, h3⟩ := h
  exact ⟨rs, k _ _ h1, h2, fun i r row a b => k _ _ (h3 i r row a b)⟩
theorem MkAt.keep {H H' : Hp} (k : TupKeep H H') : ∀ {m : D1.Mk} {v : V}, MkAt H v m → MkAt H' v m
  | .tab S M, v, ⟨a, p, q, h1, h2, h3, h4⟩ => ⟨a, p, q, h1, k _ _ h2, h3.keep k, h4.keep k⟩
  | .truth, v, ⟨a, h1, h2⟩ => ⟨a, h1, k _ _ h2⟩
  | .rest i, v, ⟨a, h1, h2⟩ => ⟨a, h1, k _ _ h2⟩
  | .pair x y, v, ⟨a, u, u', h1, h2, h3, h4⟩ => ⟨a, u, u', h1, k _ _ h2, MkAt.keep k h3, MkAt.keep k h4⟩
theorem keep_ins {H : Hp} {a C dx : Addr} {fs : List (Str × V)} {o : HO} (h : H a = some (.ins C dx fs)) : TupKeep H (upd H a o) := fun b xs e => by
  rw [upd_ne (fun z => by rw [z, h] at e; cases e)]
  exact e
theorem KindAt.updI {CT CU CP a C dx : Addr} {H : Hp} {v : V} {m : D1.Mk} {fs : List (Str × V)} {o : HO} (h : KindAt CT CU CP H v m) (ha : H a = some (.ins C dx fs)) (hn : fs.lookup ("_text" : Str) = none) : KindAt CT CU CP (upd H a o) v m := by
  obtain ⟨b, db, fb, h1, h2, h3, h4⟩ := h
  have nb : b ≠ a := fun z => by
    obtain ⟨t, ht, _⟩ := h3.text
    rw [z, ha] at h2
    have e : fs = fb := by
      injection (Option.some.inj h2)
    rw [← e, hn] at ht
    cases ht
  have k := keep_ins (o := o) ha
  refine ⟨b, db, fb, h1, by rw [upd_ne nb]; exact h2, h3, fun S M hm => ?_⟩
  obtain ⟨n, p, q, x, y⟩ := h4 S M hm
  exact ⟨n, p, q, ⟨x.text, x.zero, x.one, (let ⟨e, e1, e2⟩ := x.oth; ⟨e, e1, k _ _ e2⟩), x.size, x.sums, x.prods, x.no⟩, y.two, y.s.keep k, y.p.keep k, y.sq, y.pq⟩
section
variable {P : Program} {w : World} {K : PySem.W.Frag} {mg : Str → Option Value} {base : Heap}
def spBare (CT CU CP : Addr) : Sp := fun vs H Q _ => vs = [.str "truth"] ∧ ∀ (k : V) H', Ex H H' → KindAt CT CU CP H' k .truth → Q k H'
def spKindOf (CT CU CP : Addr) (d : Nat) : Sp := fun vs H Q _ => ∃ (v : V) (m : D1.Mk), vs = [v] ∧ MkAt H v m ∧ m.depth < d ∧ m.good ∧ ∀ (k : V) H', Ex H H' → KindAt CT CU CP H' k m → Q k H'
abbrev s__bare_kind : Stmt := top 45
theorem sc__bare_kind : FnScope ["name"] ["name"] (defScope s__bare_kind) := ⟨rfl, rfl, rfl, by decide +kernel, rfl, by decide +kernel, by decide +kernel⟩
theorem ok__bare_kind {f : Addr} {fd : FuncData} (F : FnP K "_bare_kind" s__bare_kind f fd) {CT CU CP : Addr} (okT : OkC K CT) (okU : OkC K CU) (okP : OkC K CP) {f_Truth_init : Addr} {fd_Truth_init : FuncData} (F_Truth_init : FnM K "Truth" "__init__" s_Truth_init f_Truth_init fd_Truth_init) (G_Truth_init : FnOk P w K mg base CX0 2 f_Truth_init fd_Truth_init ["self"] (spTruth K)) (M_U : L2.Mk K CU f_Truth_init) (g_U : mg "Truth" = some (.ref CU)) : FnOk P w K mg base CX0 4 f fd ["name"] (spBare CT CU CP) := by
  have b_Truth_init : Binds K fd_Truth_init ["self"] [] := F_Truth_init.bindsN fun _ _ _ _ _ _ us hl => match us, hl with | [_], _ => rfl
  refine F.ok sc__bare_kind (fun vs H Q E h => ?_) (fun cdv A outer s H vs Q E hr h => ?_)
  · obtain ⟨rfl, _⟩ := h
    rfl
  · obtain ⟨rfl, q⟩ := h
    have hu := hu_of hr
    have hu64 := hr.units
    have hr_Truth_init := hr.mono (by decide : 3 ≤ 3)
    refine ⟨_, PSs.nox (pss_cons (ps_if (pt_cmpR op_eq (pv 0) pe_str (nomark _)) (pss_one (ps_ret (pe_make0 M_U G_Truth_init hr_Truth_init rfl g_U b_Truth_init .nil pass0))) pss_nil)
      (pss_cons (ps_dead)
      (pss_cons (ps_dead)
      (pss_cons (ps_dead)
      (pss_cons (ps_dead)
      (pss_one (ps_dead))))))), ?_⟩
    refine ⟨_, rfl, rfl, _, rfl, yes_of (by first | rfl | (rw [dec_str]; rfl)) ?_⟩
    intro x dx nx ndx nex
    refine ⟨x, CU, dx, [], rfl, upd_same, okU, by decide, fun H' o1 h1 => ⟨rfl, q (.ref x) H' (made_ex nx ndx o1) ⟨x, dx, _, rfl, h1, ⟨⟨"truth", rfl, by decide⟩, ⟨_, rfl⟩, ⟨_, rfl⟩, fun f hf => ?_⟩, fun S M hm => (by cases hm)⟩⟩⟩
    have nf : ∀ g ∈ fields, ¬(f = g) := fun g hg z => hf (z ▸ hg)
    simp only [lookup_putF]
    rw [if_neg (nf _ (by decide)), if_neg (nf _ (by decide)), if_neg (nf _ (by decide))]
    rfl
abbrev s_kind_of : Stmt := top 43
theorem sc_kind_of : FnScope ["made", "name"] ["made"] (defScope s_kind_of) := ⟨rfl, rfl, rfl, by decide +kernel, rfl, by decide +kernel, by decide +kernel⟩
theorem ok_kind_of {f : Addr} {fd : FuncData} (F : FnP K "kind_of" s_kind_of f fd) (g_kind_of : mg "kind_of" = some (.ref f)) {CT CU CP : Addr} (okT : OkC K CT) (okU : OkC K CU) (okP : OkC K CP) {f_Pair_init : Addr} {fd_Pair_init : FuncData} (F_Pair_init : FnM K "Pair" "__init__" s_Pair_init f_Pair_init fd_Pair_init) (G_Pair_init : FnOk P w K mg base CX0 2 f_Pair_init fd_Pair_init ["self", "left", "right"] (spPairI K CT CU CP)) (M_P : L2.Mk K CP f_Pair_init) (g_P : mg "Pair" = some (.ref CP)) {f_Table_init : Addr} {fd_Table_init : FuncData} (F_Table_init : FnM K "Table" "__init__" s_Table_init f_Table_init fd_Table_init) (G_Table_init : FnOk P w K mg base CX0 4 f_Table_init fd_Table_init ["self", "sums", "products"] (spTabI K)) (M_T : L2.Mk K CT f_Table_init) (g_T : mg "Table" = some (.ref CT)) {f__bare_kind : Addr} {fd__bare_kind : FuncData} (F__bare_kind : FnP K "_bare_kind" s__bare_kind f__bare_kind fd__bare_kind) (g__bare_kind : mg "_bare_kind" = some (.ref f__bare_kind)) (G__bare_kind : FnOk P w K mg base CX0 4 f__bare_kind fd__bare_kind ["name"] (spBare CT CU CP)) (z_len : mg "len" = none) : ∀ d : Nat, d ≤ 4 → FnOk P w K mg base CX0 (d + 6) f fd ["made"] (spKindOf CT CU CP d) := by
  have F_kind_of := F
  have b_kind_of : Binds K fd ["made"] [] := F.bindsN fun _ _ _ _ _ _ us hl => match us, hl with | [_], _ => rfl
  have b_Pair_init : Binds K fd_Pair_init ["self", "left", "right"] [] := F_Pair_init.bindsN fun _ _ _ _ _ _ us hl => match us, hl with | [_, _, _], _ => rfl
  have b_Table_init : Binds K fd_Table_init ["self", "sums", "products"] [] := F_Table_init.bindsN fun _ _ _ _ _ _ us hl => match us, hl with | [_, _, _], _ => rfl
  have b__bare_kind : Binds K fd__bare_kind ["name"] [] := F__bare_kind.bindsN fun _ _ _ _ _ _ us hl => match us, hl with | [_], _ => rfl
  intro d
  induction d with
  | zero =>
    intro _
    refine ⟨fun vs H Q E h => ?_, fun A outer s H args us vs Q E hr e0 hb r h => ?_⟩
    · obtain ⟨v, m, _, _, h, _⟩ := h
      exact absurd h (Nat.not_lt_zero _)
    · obtain ⟨v, m, _, _, h, _⟩ := h
      exact absurd h (Nat.not_lt_zero _)
  | succ d ih =>
    intro hd
    have G_kind_of := ih (by omega)
    refine F.ok sc_kind_of (fun vs H Q E h => ?_) (fun cdv A outer s H vs Q E hr h => ?_)
    · obtain ⟨v, m, rfl, _⟩ := h
      rfl
    · obtain ⟨v, m, rfl, hM, hdep, hg, q⟩ := h
      have hr_kind_of := hr
      have hr_Pair_init := hr.mono (by omega : 2 + 1 ≤ d + 6)
      have hr_Table_init := hr.mono (by omega : 4 + 1 ≤ d + 6)
      have hr__bare_kind := hr.mono (by omega : 4 ≤ d + 6)
      refine ⟨_, PSs.nox (pss_cons (ps_set (i := 1) sc_kind_of.nd rfl (Or.inl rfl) (pe_ix ix_tup (pv 0) pe_int (fun _ _ => rfl)))
      (pss_cons (ps_if (pt_cmpR op_eq (pv 1) pe_str (nomark _)) (pss_one (ps_ret (pe_make M_P G_Pair_init hr_Pair_init rfl g_P b_Pair_init .nil pass0 (pa_cons (pe_call G_kind_of hr_kind_of rfl g_kind_of F_kind_of.kp b_kind_of .nil pass0 (pa_cons (pe_ix ix_tup (pv 0) pe_int (fun _ _ => rfl)) pa_nil)) (pa_cons (pe_call G_kind_of hr_kind_of rfl g_kind_of F_kind_of.kp b_kind_of .nil pass0 (pa_cons (pe_ix ix_tup (pv 0) pe_int (fun _ _ => rfl)) pa_nil)) pa_nil))))) pss_nil)
      (pss_cons (ps_if (pt_cmpR op_eq (pv 1) pe_str (nomark _)) (pss_one (ps_ret (pe_make M_T G_Table_init hr_Table_init rfl g_T b_Table_init .nil pass0 (pa_cons (pe_ix ix_tup (pv 0) pe_int (fun _ _ => rfl)) (pa_cons (pe_ix ix_tup (pv 0) pe_int (fun _ _ => rfl)) pa_nil))))) pss_nil)
      (pss_cons (ps_if (pt_cmpR op_eq (pe_callB call_len_seq (by rfl) z_len PySem.boot_len (pa_cons (pv 0) pa_nil)) pe_int (nomark _)) (pss_one (ps_dead)) pss_nil)
      (pss_one (ps_ret (pe_call G__bare_kind hr__bare_kind rfl g__bare_kind F__bare_kind.kp b__bare_kind .nil pass0 (pa_cons (pv 1) pa_nil)))))))), ?_⟩
      cases m with
      | rest k => exact hg.elim
      | truth =>
        obtain ⟨a, rfl, ha⟩ := hM
        refine ⟨_, rfl, a, _, _, _, rfl, rfl, .inl (.inl ha), rfl, ?_⟩
        refine ⟨_, rfl, rfl, _, rfl, no_of (by first | rfl | (rw [dec_str]; rfl)) ?_⟩
        refine ⟨_, rfl, rfl, _, rfl, no_of (by first | rfl | (rw [dec_str]; rfl)) ?_⟩
        refine ⟨_, rfl, a, _, rfl, .inr (.inl (.inl ha)), rfl, _, rfl, no_of (by first | rfl | (rw [dec_int]; rfl)) ?_⟩
        exact ⟨_, rfl, rfl, fun k H' e hk => q k H' e hk⟩
      | tab S M =>
        obtain ⟨n, n2, n6, sS, sM⟩ := hg
        obtain ⟨a, p, p', rfl, ha, hS, hT⟩ := hM
        refine ⟨_, rfl, a, _, _, _, rfl, rfl, .inl (.inl ha), rfl, ?_⟩
        refine ⟨_, rfl, rfl, _, rfl, no_of (by first | rfl | (rw [dec_str]; rfl)) ?_⟩
        refine ⟨_, rfl, rfl, _, rfl, yes_of (by first | rfl | (rw [dec_str]; rfl)) ?_⟩
        refine ⟨_, rfl, a, _, _, _, rfl, rfl, .inl (.inl ha), rfl, _, rfl, a, _, _, _, rfl, rfl, .inl (.inl ha), rfl, ?_⟩
        intro x dx nx ndx nex
        have eN := new_ex (C := CT) nx ndx
        refine ⟨x, CT, dx, p, p', n, S, M, rfl, upd_same, okT, ⟨n2, hS.ex eN, hT.ex eN, sS, sM⟩, n6, fun fs H' o1 h1 hf => ⟨rfl, q (.ref x) H' (made_ex nx ndx o1) ⟨x, dx, fs, rfl, h1, ⟨hf.text, ⟨_, hf.zero⟩, ⟨_, hf.one⟩, hf.no⟩, fun S' M' hm => ?_⟩⟩⟩
        cases hm
        exact ⟨n, p, p', hf, n2, hS.ex (made_ex nx ndx o1), hT.ex (made_ex nx ndx o1), sS, sM⟩
      | pair y z =>
        obtain ⟨a, u, u', rfl, ha, hy, hz⟩ := hM
        have hdep2 : max y.depth z.depth + 1 < d + 1 := hdep
        have b1 := bound_le y
        have b2 := bound_le z
        have p1 : 2 ^ y.depth ≤ 2 ^ 3 := Nat.pow_le_pow_right (by decide) (by omega)
        have p2 : 2 ^ z.depth ≤ 2 ^ 3 := Nat.pow_le_pow_right (by decide) (by omega)
        have p8 : (2 : Nat) ^ 3 = 8 := by decide
        refine ⟨_, rfl, a, _, _, _, rfl, rfl, .inl (.inl ha), rfl, ?_⟩
        refine ⟨_, rfl, rfl, _, rfl, yes_of (by first | rfl | (rw [dec_str]; rfl)) ?_⟩
        refine ⟨_, rfl, a, _, _, _, rfl, rfl, .inl (.inl ha), rfl, u, y, rfl, hy, by omega, hg.1, fun k1 H1 e1 hk1 => ?_⟩
        refine ⟨_, rfl, a, _, _, _, rfl, rfl, .inl (.inl (e1 _ _ ha)), rfl, u', z, rfl, hz.ex e1, by omega, hg.2, fun k2 H2 e2 hk2 => ?_⟩
        intro x dx nx ndx nex
        have eN := new_ex (C := CP) nx ndx
        refine ⟨x, dx, k1, k2, y, z, rfl, upd_same, (hk1.ex e2).ex eN, hk2.ex eN, by omega, fun fs H' o1 h1 hf => ⟨rfl, q (.ref x) H' ((e1.trans e2).trans (made_ex nx ndx o1)) ⟨x, dx, fs, rfl, h1, hf, fun S' M' hm => (by cases hm)⟩⟩⟩
def spRingI (CR CT CU CP : Addr) (d : Nat) : Sp := fun vs H Q _ => ∃ (a dx : Addr) (v : V) (m : D1.Mk), vs = [.ref a, v] ∧ H a = some (.ins CR dx []) ∧ MkAt H v m ∧ m.depth < d ∧ m.good ∧ ∀ (k : V) H', Only a H H' → H' a = some (.ins CR dx [("_made", v), ("_kind", k)]) → KindAt CT CU CP H' k m → Q .non H'
abbrev s_Ring_init : Stmt := meth 47 0
theorem sc_Ring_init : FnScope ["self", "made"] ["self", "made"] (defScope s_Ring_init) := ⟨rfl, rfl, rfl, by decide +kernel, rfl, by decide +kernel, by decide +kernel⟩
theorem ok_Ring_init {f : Addr} {fd : FuncData} (F : FnM K "Ring" "__init__" s_Ring_init f fd) {CT CU CP : Addr} (okT : OkC K CT) (okU : OkC K CU) (okP : OkC K CP) {CR : Addr} (okR : OkC K CR) {f_kind_of : Addr} {fd_kind_of : FuncData} (F_kind_of : FnP K "kind_of" s_kind_of f_kind_of fd_kind_of) (g_kind_of : mg "kind_of" = some (.ref f_kind_of)) (G_kind_of : FnOk P w K mg base CX0 10 f_kind_of fd_kind_of ["made"] (spKindOf CT CU CP 4)) : FnOk P w K mg base CX0 11 f fd ["self", "made"] (spRingI CR CT CU CP 4) := by
  have b_kind_of : Binds K fd_kind_of ["made"] [] := F_kind_of.bindsN fun _ _ _ _ _ _ us hl => match us, hl with | [_], _ => rfl
  refine F.ok sc_Ring_init (fun vs H Q E h => ?_) (fun cdv A outer s H vs Q E hr h => ?_)
  · obtain ⟨a, dx, v, m, rfl, _⟩ := h
    rfl
  · obtain ⟨a, dx, v, m, rfl, ha, hM, hdep, hg, q⟩ := h
    have hu := hu_of hr
    have hu64 := hr.units
    have hr_kind_of := hr.mono (by decide : 10 ≤ 10)
    refine ⟨_, PSs.nox (pss_cons (ps_fld (pv 0) (pv 1) rfl)
      (pss_one (ps_fld (pv 0) (pe_call G_kind_of hr_kind_of rfl g_kind_of F_kind_of.kp b_kind_of .nil pass0 (pa_cons (pv 1) pa_nil)) rfl))), ?_⟩
    refine ⟨_, rfl, _, rfl, a, CR, dx, [], rfl, ha, okR.cls, okR.no _ (by decide), by decide, ?_⟩
    have k1 := keep_ins (o := .ins CR dx (putF "_made" v [])) ha
    refine ⟨_, rfl, v, m, rfl, hM.keep k1, hdep, hg, fun k H2 e hk => ?_⟩
    have ha2 : H2 a = some (.ins CR dx (putF "_made" v [])) := e _ _ upd_same
    refine ⟨_, rfl, a, CR, dx, _, rfl, ha2, okR.cls, okR.no _ (by decide), by (show 1 < 1000; decide), ?_⟩
    exact q k _ ((Only.refl.upd).ex e).upd upd_same (hk.updI ha2 rfl)
end
end D1
end
section
set_option Elab.async false
set_option linter.all false
set_option maxRecDepth 100000
set_option maxHeartbeats 4000000
/-! X1: own exceptions of any of the eleven bases, made with positional arguments and keywords -/
namespace PySem
namespace VX
open PySem.W PySem.Calls PyProof.Rows PySem.HandSPX
section
variable {M : Model} {A : Around} {E : Value → Shared → Prop} {h : Heap} {g : Array GenState} {d : Drawn} {t : Nat} {os : OsState}
variable {nm q : Str} {C N : Addr} {bs bm bmB : List Value} {hdct : Bool} {sn : List Str} {sub : List Value} {ab : Bool} {col : Option Bool} {dd : Option Addr} {k0 k1 k2 k3 k5 : Option Value} {B newId initId : String}
theorem newGuardK (F : ExcBaseFacts B newId initId bmB) (hT : ∀ X : String, bm.contains (.type X) = bmB.contains (.type X)) {rest : List Value} {kw : List (Str × Value)} {Q : Unit → Shared → Prop}
    (hC : h.get? C = some (excClassObj nm q C N bs bm hdct sn sub ab col dd k0 k1 k2 k3 k5 newId)) (hq : Q () ⟨h, g, d, t, os⟩) :
    wpAny M A (checkBuiltinCall newId ⟨.ref C :: rest, kw⟩) Q E ⟨h, g, d, t, os⟩ := by
  have inB : (Value.ref C :: bm).contains (.type B) = true := by rw [List.contains_cons, hT, F.hasB]; exact Bool.or_true _
  have star := F.noStar
  simp only [checkBuiltinCall, F.newKind, F.newSplit, F.newRow]
  repeat (first
    | refine wpAny_loadPart_at hC ?_
    | (refine wpAny_isSubtype_exc hC ?_; rw [inB])
    | refine wpAny_staticBase_exc hC ?_
    | refine wpAny_madeBy_exc hC ?_
    | simp only [bne_self_eq_false, Bool.false_eq_true, if_false]
    | wp_step)
  exact hq
end
section
variable {prog : Program} {w : World} {A : Around} {E : Value → Shared → Prop} {R : Result → Shared → Prop} {h : Heap} {g : Array GenState} {d : Drawn} {t : Nat} {os : OsState}
variable {nm q : Str} {C N : Addr} {bs bm bmB : List Value} {hdct : Bool} {sn : List Str} {sub : List Value} {ab : Bool} {col : Option Bool} {dd : Option Addr} {k0 k1 k2 k3 k5 : Option Value} {B newId initId : String}
theorem newK (F : ExcBaseFacts B newId initId bmB) (hT : ∀ X : String, bm.contains (.type X) = bmB.contains (.type X)) {rest : List Value} {kw : List (Str × Value)}
    (hC : h.get? C = some (excClassObj nm q C N bs bm hdct sn sub ab col dd k0 k1 k2 k3 k5 newId))
    (hq : R (.ok (.ret (.ref (h.objs.size + 1)))) ⟨(h.push (kdv_tup rest)).push (excO C h.objs.size), g, d, t, os⟩) (hrest : rest.length ≤ sizeLine) :
    codeAny (model prog w) A (.builtin newId ⟨.ref C :: rest, kw⟩) R ⟨h, g, d, t, os⟩ := by
  have ends := F.ends
  have inB : (Value.ref C :: bm).contains (.type B) = true := by rw [List.contains_cons, hT, F.hasB]; exact Bool.or_true _
  have inA : (Value.ref C :: bm).contains (.type "AttributeError") = false := by rw [List.contains_cons, hT, F.noAttr] <;> rfl
  have inN : (Value.ref C :: bm).contains (.type "NameError") = false := by rw [List.contains_cons, hT, F.noName] <;> rfl
  refine codeAny_builtinAt F.entry ?_
  unfold Builtin.«BaseException.__new__»
  refine wpAt_bind ?_
  show wpAt _ _ _ (stack >>= _) _ _ _
  refine wpAt_bind (wpAt_stack fun p below => wpAt_of_wpAny ?_)
  wp_walk
  refine wpAt_of_wpAny ?_
  rw [F.owner]
  repeat (first
    | with_reducible refine wpAny_madeHere_exc F.canon hC ?_
    | with_reducible refine wpAny_loadPart_at hC ?_
    | (with_reducible refine wpAny_isSubtype_exc hC ?_; first | rw [inB] | rw [inA] | rw [inN])
    | wp_step)
  show R _ _
  rw [Heap.size_push]
  exact hq
theorem typeCallK (F : ExcBaseFacts B newId initId bmB) (hT : ∀ X : String, bm.contains (.type X) = bmB.contains (.type X)) {rest : List Value} {kw : List (Str × Value)} {fI : Addr} {Q : Fin → Shared → Prop}
    (hC : h.get? C = some (excClassObj nm q C N bs bm hdct sn sub ab col dd k0 k1 k2 k3 k5 newId))
    (hi : W.Looks (model prog w) h (typeLookup (.ref C) "__init__") (some (.ref fI))) (hb : ∀ self, W.Looks (model prog w) h (bindSpecial (.ref fI) self) (.ref fI, [self])) (hrest : rest.length ≤ sizeLine)
    (hq : codeAny (model prog w) A (.call (.ref fI) ⟨.ref (h.objs.size + 1) :: rest, kw⟩)
      (fun r s' => match r with | .ok (.ret v) => v = .none ∧ Q (.done (.ret (.ref (h.objs.size + 1)))) s' | .ok _ => False | .error e => E e s')
      ⟨(h.push (kdv_tup rest)).push (excO C h.objs.size), g, d, t, os⟩) :
    wpAny (model prog w) A (Builtin.«type.__call__» ⟨.ref C :: rest, kw⟩) Q E ⟨h, g, d, t, os⟩ := by
  repeat (first
    | with_reducible refine wpAny_loadPart_at hC ?_
    | with_reducible refine wpAny_madeBy_exc hC ?_
    | wp_step)
  refine codeAny_call_builtin_code (Code.quiet_builtin _ F.quiet) (newGuardK F hT hC ?_)
  refine newK F hT hC ?_ hrest
  show wpAny _ _ _ _ _ _
  have up : ∀ b o, h.get? b = some o → ((h.push (kdv_tup rest)).push (excO C h.objs.size)).get? b = some o := fun b o e => Heap.get?_push_of_some _ (Heap.get?_push_of_some _ e)
  have hC2 := up _ _ hC
  have here : ((h.push (kdv_tup rest)).push (excO C h.objs.size)).get? (h.objs.size + 1) = some (excO C h.objs.size) := by heap_get
  have inC : (Value.ref C :: bm).contains (.ref C) = true := by simp
  have i2 := hi.keeps up
  have b2 := (hb (.ref (h.objs.size + 1))).keeps up
  unfold isInstance
  repeat (first
    | with_reducible refine wpAny_loadPart_at here ?_
    | (with_reducible refine wpAny_isSubtype_exc hC2 ?_; rw [inC])
    | wp_step)
  show wpAny _ _ (typeLookup (.ref C) _) _ _ _
  refine i2.at ?_
  refine wpAny_holding (wpAny_bind (b2.at ?_))
  refine wpAny_bind (wpAny_call (codeAny_mono hq fun r s' z => ?_))
  rcases r with e | (v | _ | _ | _) <;> first | exact z | exact z.elim | skip
  obtain ⟨rfl, z⟩ := z
  first
    | exact wpAny_pure (wpAny_pure z)
    | (wp_walk; exact z)
end
section
variable {prog : Program} {w : World} {A : Around} {E : Value → Shared → Prop} {R : Result → Shared → Prop} {s : Shared} {K : Frag} {C fI : Addr} {bmB : List Value} {B newId initId : String}
/-- C(.., k = v): the object and its args are laid, then the class's own __init__ runs -/
theorem callK (F : ExcBaseFacts B newId initId bmB) (X : K.In s.heap) (q : excInitIn K C bmB newId = true) {rest : List Value} {kw : List (Str × Value)}
    (iC : findIn K (.ref C) "__init__" = some (some (.ref fI))) (tI : typeIn K (.ref fI) = some (.type "function")) (hrest : rest.length ≤ sizeLine)
    (hq : codeAny (model prog w) (A.under (.builtin "type.__call__" ⟨.ref C :: rest, kw⟩)) (.call (.ref fI) ⟨.ref (s.heap.objs.size + 1) :: rest, kw⟩) (W.InitBack (s.heap.objs.size + 1) R)
      { s with heap := (s.heap.push (kdv_tup rest)).push (excO C s.heap.objs.size) }) :
    codeAny (model prog w) A (.call (.ref C) ⟨rest, kw⟩) R s := by
  obtain ⟨nm, N', qn, bs, bm, hdct, sn, sub, ab, col, dd, k0, k1, k2, k3, k5, hC, hT⟩ := excInit_of X q
  have hi : W.Looks (model prog w) s.heap (typeLookup (.ref C) "__init__") (some (.ref fI)) := looks_findIn X iC
  have hb : ∀ self, W.Looks (model prog w) s.heap (bindSpecial (.ref fI) self) (.ref fI, [self]) := fun self => bind_fn X self tI
  obtain ⟨h, g, d, t, os⟩ := s
  have f1 := tc_lookup
  have f2 := tc_bind (.ref C)
  have hTy : (⟨h, g, d, t, os⟩ : Shared).TypeIs (.ref C) "type" := ⟨_, hC, rfl⟩
  refine codeAny_of_tree ?_
  show wpAny _ _ (callAny (.ref C) _) _ _ _
  repeat (any_goals (first | assumption | with_reducible refine wpAny_loadPart_at hC ?_ | wp_step))
  refine ⟨rfl, ?_⟩
  refine codeAny_call_builtin_at (Code.quiet_builtin _ (by decide +kernel)) entry_typeCall (wpAny_check_type_call_sub hC (typeCallK F hT hC hi hb hrest ?_))
  refine codeAny_mono hq fun r s' z => ?_
  rcases r with e | (v | _ | _ | _) <;> exact z
end
end VX
end PySem
end
section
set_option Elab.async false
set_option linter.all false
set_option maxRecDepth 100000
set_option maxHeartbeats 4000000
/-! X2: fields stored into such an exception -/
namespace PySem
namespace VX
open PySem.W PySem.Calls PyProof.Rows PySem.HandSPX
section
open Builtin Builtin.ObjectAttr
variable {prog : Program} {w : World} {A : Around} {R : Result → Shared → Prop} {K : Frag} {hp : Heap} {g : Array GenState} {d : Drawn} {t : Nat} {os : OsState} {C x dx : Addr} {bmB : List Value} {B : String} {name : Str} {tk : Tok} {v : Value} {fv : Array Value} {m0 : Str → Option Value} {nl : List Str}
/-- the first field: the dict is made -/
theorem storeFirst (SF : StoreFacts B bmB "object.__setattr__" "object") (X : K.In hp) (hx : hp.get? x = some { cls := .ref C, data := .fields fv }) (q : excOver K C bmB = true) (hh : hasDictIn K C = true) (ta : takerIn K C name = some none)
    (hq : ∀ h' tk' dx, (∀ b o, b ≠ x → hp.get? b = some o → h'.get? b = some o) → hp.objs.size ≤ dx → dx ≠ x → h'.get? x = some { cls := .ref C, dict := some dx, data := .fields fv } →
      h'.Ns1 dx (fun y => if y = name then some v else none) → R (.ok (.ret .none)) ⟨h', g, d, tk', os⟩) :
    codeAny (model prog w) A (.call (.builtin "object.__setattr__") ⟨[.ref x, .str name tk, v], []⟩) R ⟨hp, g, d, t, os⟩ := by
  obtain ⟨cd, hcd, hd'⟩ := any_some hh
  have lk : W.Looks (model prog w) hp (classData C) cd := looks_clsIn X hcd
  have nx : x ≠ hp.objs.size := Nat.ne_of_lt (Heap.lt_size hx)
  refine osa_openX (od := none) (ox := { cls := .ref C, data := .fields fv }) SF X ⟨hx, rfl, rfl, trivial⟩ q ta fun b => ?_
  show wpAny _ _ (storeInOwnDict (.ref x) (.ref C) (.str name tk) name v b) _ _ _
  obtain ⟨nm, bs, mro, ns, qn, hd, sn, sb, ab, col, del⟩ := cd
  dsimp only at hd'
  subst hd'
  unfold storeInOwnDict ownDictForStores
  repeat (first
    | with_reducible refine store_in_new ?_ ?_
    | with_reducible refine wpAny_loadPart_at hx ?_
    | with_reducible refine lk.at ?_
    | wp_step)
  · exact ⟨_, #[], _, (Heap.get?_update_ne _ _ _ _ nx.symm).trans (Heap.get?_push_at rfl rfl), rfl, fun e he => absurd he (by simp), fun _ => rfl⟩
  · intro h' tk' hn' hs
    have hx1 : (hp.push { cls := .type "dict", data := .dict #[] }).get? x = some { cls := .ref C, data := .fields fv } := Heap.get?_push_of_some _ hx
    refine hq h' tk' hp.objs.size (fun b o hb ho => ?_) (Nat.le_refl _) nx.symm ?_ hn'
    · exact (hs.2 b (Nat.ne_of_lt (Heap.lt_size ho))).trans ((Heap.get?_update_ne _ _ _ _ hb).trans (Heap.get?_push_of_some _ ho))
    · exact (hs.2 x nx).trans (Heap.get?_update_self _ hx1 rfl)
/-- a further field -/
theorem storeNext (SF : StoreFacts B bmB "object.__setattr__" "object") (X : K.In hp) (hx : hp.get? x = some { cls := .ref C, dict := some dx, data := .fields fv }) (hns : hp.Ns1 dx m0) (hw : Within m0 nl) (hz : nl.length ≤ 1000)
    (q : excOver K C bmB = true) (hh : hasDictIn K C = true) (ta : takerIn K C name = some none)
    (hq : ∀ h' tk', (∀ b o, b ≠ dx → hp.get? b = some o → h'.get? b = some o) → h'.Ns1 dx (fun y => if y = name then some v else m0 y) → R (.ok (.ret .none)) ⟨h', g, d, tk', os⟩) :
    codeAny (model prog w) A (.call (.builtin "object.__setattr__") ⟨[.ref x, .str name tk, v], []⟩) R ⟨hp, g, d, t, os⟩ := by
  obtain ⟨oD, esD, epD, hoD, hdD, _⟩ := hns.count hw
  obtain ⟨cd, hcd, hd'⟩ := any_some hh
  have lk : W.Looks (model prog w) hp (classData C) cd := looks_clsIn X hcd
  refine osa_openX (od := some oD) (ox := { cls := .ref C, dict := some dx, data := .fields fv }) SF X ⟨hx, rfl, rfl, hoD⟩ q ta fun b => ?_
  show wpAny _ _ (storeInOwnDict (.ref x) (.ref C) (.str name tk) name v b) _ _ _
  obtain ⟨nm, bs, mro, ns, qn, hd, sn, sb, ab, col, del⟩ := cd
  dsimp only at hd'
  subst hd'
  unfold storeInOwnDict ownDictForStores
  repeat (first
    | with_reducible refine OEX.store_in_old hns hw hz ?_
    | with_reducible refine wpAny_loadPart_at hx ?_
    | with_reducible refine lk.at ?_
    | wp_step)
  intro h' tk' hn' hs
  exact hq h' tk' (fun b o hb ho => (hs.2 b hb).trans ho) hn'
end
end VX
end PySem
end
section
set_option Elab.async false
set_option linter.all false
set_option maxRecDepth 100000
set_option maxHeartbeats 4000000
/-! X3: the program's own __init__s, each a store of its arguments -/
namespace PySem
namespace VX
open PySem.W PySem.Calls PyProof.Rows PySem.HandSPX
/-- what the written part says of an own exception class at C, fields fn, over the built-in base B -/
structure XB (K : Frag) (bmB : List Value) (newId : String) (C : Addr) (fn : List Str) : Prop where
  ini : excInitIn K C bmB newId = true
  over : excOver K C bmB = true
  hd : hasDictIn K C = true
  sa : findIn K (.ref C) "__setattr__" = some (some (.builtin "object.__setattr__"))
  ga : findIn K (.ref C) "__getattribute__" = some (some (.builtin "BaseException.__getattribute__"))
  gg : findIn K (.ref C) "__getattr__" = some none
  ca : findIn K (.ref C) "__class__" = some (some (.builtin "object.__class__"))
  mo : mroIn K C (.type "object") = some true
  no : ∀ f ∈ fn, findIn K (.ref C) f = some none
  keep : keepIn K (.ref C) = true
  exc : subIn K (.ref C) (.type "BaseException") = some true
  ty : typeIn K (.ref C) = some (.type "type")
theorem taker_of {K : Frag} {C : Addr} {f : Str} (h : findIn K (.ref C) f = some none) : takerIn K C f = some none := by
  unfold takerIn
  rw [h]
  rfl
def fS (f : Str) : Scope := { kind := .function, names := [(PySem.Str.ofString "self", .local), (f, .local)], isGenerator := false, isCoroutine := false, more := [] }
def fA (f : Str) (p1 p2 : Pos) : Arguments := { posonlyargs := [], args := [{ arg := "self", annotation := none, pos := p1 }, { arg := f, annotation := none, pos := p2 }], vararg := none, kwonlyargs := [], kw_defaults := [], kwarg := none, defaults := [] }
def fB (f : Str) (q1 q2 q3 q4 : Pos) : List Stmt := [.Assign [.Attribute (.Name "self" q1) f q2] (.Name f q3) q4]
/-- what __init__ leaves of the object at x -/
structure InitLeft (h h' : Heap) (x C dx t1 : Addr) (kvs : List (Str × Value)) : Prop where
  keep : ∀ b o, b ≠ x → h.get? b = some o → h'.get? b = some o
  obj : h'.get? x = some { cls := .ref C, dict := some dx, data := .fields #[.ref t1, .none, .none, .none, .bool false, .none] }
  dbig : h.objs.size ≤ dx
  dne : dx ≠ x
  ns : h'.Ns1 dx (fun y => kvs.lookup y)
theorem look1 (f : Str) (v : Value) : (fun y => if y = f then some v else none) = fun y => ([(f, v)] : List (Str × Value)).lookup y := by
  funext y
  by_cases e : y = f
  · subst e
    simp [List.lookup]
  · have q : (y == f) = false := by simpa using e
    rw [if_neg e]
    simp [List.lookup, q]
theorem look2 (f g : Str) (v u : Value) : (fun y => if y = g then some u else if y = f then some v else none) = fun y => ([(g, u), (f, v)] : List (Str × Value)).lookup y := by
  funext y
  by_cases e : y = g
  · subst e
    simp [List.lookup]
  · have q : (y == g) = false := by simpa using e
    rw [if_neg e]
    have l := congrFun (look1 f v) y
    rw [show (if y = f then some v else none) = _ from l]
    simp [List.lookup, q]
theorem localAt {M : Model} {s : Shared} {name : Str} {scope : Scope} {L a : Addr} {cd : Value} {m : Str → Option Value} {x : Str} {pos : Pos} {v : Value} {Q : Value → Shared → Prop} {A : Around} {E : Value → Shared → Prop}
    (hn : s.heap.Ns L m) (hv : m x = some v) (h : Q v s) (hk : scope.kind = .function := by rfl) (hl : (envOfC name scope L a cd).kindOf x = some .local := by rfl) (hd : (x == ("__debug__" : Str)) = false := by decide) :
    wpAny M A (eval (.Name x pos) (envOfC name scope L a cd)) Q E s := by
  refine wpAny_Name ?_ hd
  exact wpAny_loadName_local hk hl hn hv h
/-- the def of an __init__ with one field -/
structure Ini1 (K : Frag) (fI : Addr) (qual f : Str) (fd : FuncData) : Prop where
  ex : ∃ (oc : Value) (od : Option Addr) (doc pm : Value) (an : Option Addr) (cdv ct : Value) (osl : Array (Option Value)) (p1 p2 q1 q2 q3 q4 : Pos),
    fd = fnOf "__init__" qual (fA f p1 p2) (fB f q1 q2 q3 q4) (fS f) .none .none doc pm an cdv ct ∧ K.lookup fI = some ⟨oc, od, .func fd, osl⟩ ∧ codeIn K cdv qual = true
section
variable {prog : Program} {w : World} {A : Around} {E : Value → Shared → Prop} {R : Result → Shared → Prop} {s : Shared} {K : Frag} {C fI : Addr} {bmB : List Value} {B newId : String} {qual : Str} {fd : FuncData} {args : Args}
theorem init_what (SF : StoreFacts B bmB "object.__setattr__" "object") (T : XB K bmB newId C [("what" : Str)]) (D : Ini1 K fI qual "what" fd) {x t0 : Addr} {v : Value} (X : K.In s.heap) (hlim : s.heap.NoLimit)
    (hx : s.heap.get? x = some (excO C t0)) (hroom : A.depth < recursionLimit) (hb : BindsTo s fd args [("self", .ref x), ("what", v)])
    (hq : ∀ h' tk dx, InitLeft s.heap h' x C dx t0 [("what", v)] → R (.ok (.ret .none)) { s with heap := h', toks := tk }) :
    codeAny (model prog w) A (.call (.ref fI) args) R s := by
  obtain ⟨oc, od, doc, pm, an, cdv, ct, osl, p1, p2, q1, q2, q3, q4, rfl, ho, hcd⟩ := D.ex
  refine Att.call_fn (binds := [("self", .ref x), ("what", v)]) X hlim ho hcd hroom hb (by first | rfl | decide | with_unfolding_all rfl) (fun s1 IC => ?_) rfl rfl rfl
  obtain ⟨h1, tk1, rfl⟩ := IC.toInCall.same
  have up : ∀ b o, s.heap.get? b = some o → h1.get? b = some o := IC.toInCall.keep
  have hn := IC.toInCall.ns
  have X1 : K.In h1 := X.keeps up
  have hx1 := up _ _ hx
  show wpAny _ _ (execs _ _) _ _ _
  refine wpAny_execs_cons (plainObj_wpAny_Assign_Attribute ?_)
  refine localAt (v := v) hn (by first | rfl | with_unfolding_all rfl | kernel_rfl) (localAt (v := .ref x) hn (by first | rfl | with_unfolding_all rfl | kernel_rfl) ?_)
  refine set_plain X1 (ox := excO C t0) (od := none) ⟨hx1, rfl, rfl, trivial⟩ T.sa ?_
  refine storeFirst SF X1 hx1 T.over T.hd (taker_of (T.no _ (List.mem_cons_self ..))) (fun h3 tk3 dx k3 dn dne hx3 hn3 => ?_)
  show wpAny _ _ (execs _ _) _ _ _
  have z : s.heap.objs.size < h1.objs.size := hn.lt
  refine wpAny_execs_nil (hq h3 tk3 dx ⟨fun b o hb e => k3 b o hb (up b o e), hx3, Nat.le_of_lt (Nat.lt_of_lt_of_le z dn), dne, ?_⟩)
  rw [← look1]
  exact hn3
theorem init_why (SF : StoreFacts B bmB "object.__setattr__" "object") (T : XB K bmB newId C [("why" : Str)]) (D : Ini1 K fI qual "why" fd) {x t0 : Addr} {v : Value} (X : K.In s.heap) (hlim : s.heap.NoLimit)
    (hx : s.heap.get? x = some (excO C t0)) (hroom : A.depth < recursionLimit) (hb : BindsTo s fd args [("self", .ref x), ("why", v)])
    (hq : ∀ h' tk dx, InitLeft s.heap h' x C dx t0 [("why", v)] → R (.ok (.ret .none)) { s with heap := h', toks := tk }) :
    codeAny (model prog w) A (.call (.ref fI) args) R s := by
  obtain ⟨oc, od, doc, pm, an, cdv, ct, osl, p1, p2, q1, q2, q3, q4, rfl, ho, hcd⟩ := D.ex
  refine Att.call_fn (binds := [("self", .ref x), ("why", v)]) X hlim ho hcd hroom hb (by first | rfl | decide | with_unfolding_all rfl) (fun s1 IC => ?_) rfl rfl rfl
  obtain ⟨h1, tk1, rfl⟩ := IC.toInCall.same
  have up : ∀ b o, s.heap.get? b = some o → h1.get? b = some o := IC.toInCall.keep
  have hn := IC.toInCall.ns
  have X1 : K.In h1 := X.keeps up
  have hx1 := up _ _ hx
  show wpAny _ _ (execs _ _) _ _ _
  refine wpAny_execs_cons (plainObj_wpAny_Assign_Attribute ?_)
  refine localAt (v := v) hn (by first | rfl | with_unfolding_all rfl | kernel_rfl) (localAt (v := .ref x) hn (by first | rfl | with_unfolding_all rfl | kernel_rfl) ?_)
  refine set_plain X1 (ox := excO C t0) (od := none) ⟨hx1, rfl, rfl, trivial⟩ T.sa ?_
  refine storeFirst SF X1 hx1 T.over T.hd (taker_of (T.no _ (List.mem_cons_self ..))) (fun h3 tk3 dx k3 dn dne hx3 hn3 => ?_)
  show wpAny _ _ (execs _ _) _ _ _
  have z : s.heap.objs.size < h1.objs.size := hn.lt
  refine wpAny_execs_nil (hq h3 tk3 dx ⟨fun b o hb e => k3 b o hb (up b o e), hx3, Nat.le_of_lt (Nat.lt_of_lt_of_le z dn), dne, ?_⟩)
  rw [← look1]
  exact hn3
theorem init_line (SF : StoreFacts B bmB "object.__setattr__" "object") (T : XB K bmB newId C [("line" : Str)]) (D : Ini1 K fI qual "line" fd) {x t0 : Addr} {v : Value} (X : K.In s.heap) (hlim : s.heap.NoLimit)
    (hx : s.heap.get? x = some (excO C t0)) (hroom : A.depth < recursionLimit) (hb : BindsTo s fd args [("self", .ref x), ("line", v)])
    (hq : ∀ h' tk dx, InitLeft s.heap h' x C dx t0 [("line", v)] → R (.ok (.ret .none)) { s with heap := h', toks := tk }) :
    codeAny (model prog w) A (.call (.ref fI) args) R s := by
  obtain ⟨oc, od, doc, pm, an, cdv, ct, osl, p1, p2, q1, q2, q3, q4, rfl, ho, hcd⟩ := D.ex
  refine Att.call_fn (binds := [("self", .ref x), ("line", v)]) X hlim ho hcd hroom hb (by first | rfl | decide | with_unfolding_all rfl) (fun s1 IC => ?_) rfl rfl rfl
  obtain ⟨h1, tk1, rfl⟩ := IC.toInCall.same
  have up : ∀ b o, s.heap.get? b = some o → h1.get? b = some o := IC.toInCall.keep
  have hn := IC.toInCall.ns
  have X1 : K.In h1 := X.keeps up
  have hx1 := up _ _ hx
  show wpAny _ _ (execs _ _) _ _ _
  refine wpAny_execs_cons (plainObj_wpAny_Assign_Attribute ?_)
  refine localAt (v := v) hn (by first | rfl | with_unfolding_all rfl | kernel_rfl) (localAt (v := .ref x) hn (by first | rfl | with_unfolding_all rfl | kernel_rfl) ?_)
  refine set_plain X1 (ox := excO C t0) (od := none) ⟨hx1, rfl, rfl, trivial⟩ T.sa ?_
  refine storeFirst SF X1 hx1 T.over T.hd (taker_of (T.no _ (List.mem_cons_self ..))) (fun h3 tk3 dx k3 dn dne hx3 hn3 => ?_)
  show wpAny _ _ (execs _ _) _ _ _
  have z : s.heap.objs.size < h1.objs.size := hn.lt
  refine wpAny_execs_nil (hq h3 tk3 dx ⟨fun b o hb e => k3 b o hb (up b o e), hx3, Nat.le_of_lt (Nat.lt_of_lt_of_le z dn), dne, ?_⟩)
  rw [← look1]
  exact hn3
theorem init_step (SF : StoreFacts B bmB "object.__setattr__" "object") (T : XB K bmB newId C [("step" : Str)]) (D : Ini1 K fI qual "step" fd) {x t0 : Addr} {v : Value} (X : K.In s.heap) (hlim : s.heap.NoLimit)
    (hx : s.heap.get? x = some (excO C t0)) (hroom : A.depth < recursionLimit) (hb : BindsTo s fd args [("self", .ref x), ("step", v)])
    (hq : ∀ h' tk dx, InitLeft s.heap h' x C dx t0 [("step", v)] → R (.ok (.ret .none)) { s with heap := h', toks := tk }) :
    codeAny (model prog w) A (.call (.ref fI) args) R s := by
  obtain ⟨oc, od, doc, pm, an, cdv, ct, osl, p1, p2, q1, q2, q3, q4, rfl, ho, hcd⟩ := D.ex
  refine Att.call_fn (binds := [("self", .ref x), ("step", v)]) X hlim ho hcd hroom hb (by first | rfl | decide | with_unfolding_all rfl) (fun s1 IC => ?_) rfl rfl rfl
  obtain ⟨h1, tk1, rfl⟩ := IC.toInCall.same
  have up : ∀ b o, s.heap.get? b = some o → h1.get? b = some o := IC.toInCall.keep
  have hn := IC.toInCall.ns
  have X1 : K.In h1 := X.keeps up
  have hx1 := up _ _ hx
  show wpAny _ _ (execs _ _) _ _ _
  refine wpAny_execs_cons (plainObj_wpAny_Assign_Attribute ?_)
  refine localAt (v := v) hn (by first | rfl | with_unfolding_all rfl | kernel_rfl) (localAt (v := .ref x) hn (by first | rfl | with_unfolding_all rfl | kernel_rfl) ?_)
  refine set_plain X1 (ox := excO C t0) (od := none) ⟨hx1, rfl, rfl, trivial⟩ T.sa ?_
  refine storeFirst SF X1 hx1 T.over T.hd (taker_of (T.no _ (List.mem_cons_self ..))) (fun h3 tk3 dx k3 dn dne hx3 hn3 => ?_)
  show wpAny _ _ (execs _ _) _ _ _
  have z : s.heap.objs.size < h1.objs.size := hn.lt
  refine wpAny_execs_nil (hq h3 tk3 dx ⟨fun b o hb e => k3 b o hb (up b o e), hx3, Nat.le_of_lt (Nat.lt_of_lt_of_le z dn), dne, ?_⟩)
  rw [← look1]
  exact hn3
theorem init_most (SF : StoreFacts B bmB "object.__setattr__" "object") (T : XB K bmB newId C [("most" : Str)]) (D : Ini1 K fI qual "most" fd) {x t0 : Addr} {v : Value} (X : K.In s.heap) (hlim : s.heap.NoLimit)
    (hx : s.heap.get? x = some (excO C t0)) (hroom : A.depth < recursionLimit) (hb : BindsTo s fd args [("self", .ref x), ("most", v)])
    (hq : ∀ h' tk dx, InitLeft s.heap h' x C dx t0 [("most", v)] → R (.ok (.ret .none)) { s with heap := h', toks := tk }) :
    codeAny (model prog w) A (.call (.ref fI) args) R s := by
  obtain ⟨oc, od, doc, pm, an, cdv, ct, osl, p1, p2, q1, q2, q3, q4, rfl, ho, hcd⟩ := D.ex
  refine Att.call_fn (binds := [("self", .ref x), ("most", v)]) X hlim ho hcd hroom hb (by first | rfl | decide | with_unfolding_all rfl) (fun s1 IC => ?_) rfl rfl rfl
  obtain ⟨h1, tk1, rfl⟩ := IC.toInCall.same
  have up : ∀ b o, s.heap.get? b = some o → h1.get? b = some o := IC.toInCall.keep
  have hn := IC.toInCall.ns
  have X1 : K.In h1 := X.keeps up
  have hx1 := up _ _ hx
  show wpAny _ _ (execs _ _) _ _ _
  refine wpAny_execs_cons (plainObj_wpAny_Assign_Attribute ?_)
  refine localAt (v := v) hn (by first | rfl | with_unfolding_all rfl | kernel_rfl) (localAt (v := .ref x) hn (by first | rfl | with_unfolding_all rfl | kernel_rfl) ?_)
  refine set_plain X1 (ox := excO C t0) (od := none) ⟨hx1, rfl, rfl, trivial⟩ T.sa ?_
  refine storeFirst SF X1 hx1 T.over T.hd (taker_of (T.no _ (List.mem_cons_self ..))) (fun h3 tk3 dx k3 dn dne hx3 hn3 => ?_)
  show wpAny _ _ (execs _ _) _ _ _
  have z : s.heap.objs.size < h1.objs.size := hn.lt
  refine wpAny_execs_nil (hq h3 tk3 dx ⟨fun b o hb e => k3 b o hb (up b o e), hx3, Nat.le_of_lt (Nat.lt_of_lt_of_le z dn), dne, ?_⟩)
  rw [← look1]
  exact hn3
theorem init_name (SF : StoreFacts B bmB "object.__setattr__" "object") (T : XB K bmB newId C [("name" : Str)]) (D : Ini1 K fI qual "name" fd) {x t0 : Addr} {v : Value} (X : K.In s.heap) (hlim : s.heap.NoLimit)
    (hx : s.heap.get? x = some (excO C t0)) (hroom : A.depth < recursionLimit) (hb : BindsTo s fd args [("self", .ref x), ("name", v)])
    (hq : ∀ h' tk dx, InitLeft s.heap h' x C dx t0 [("name", v)] → R (.ok (.ret .none)) { s with heap := h', toks := tk }) :
    codeAny (model prog w) A (.call (.ref fI) args) R s := by
  obtain ⟨oc, od, doc, pm, an, cdv, ct, osl, p1, p2, q1, q2, q3, q4, rfl, ho, hcd⟩ := D.ex
  refine Att.call_fn (binds := [("self", .ref x), ("name", v)]) X hlim ho hcd hroom hb (by first | rfl | decide | with_unfolding_all rfl) (fun s1 IC => ?_) rfl rfl rfl
  obtain ⟨h1, tk1, rfl⟩ := IC.toInCall.same
  have up : ∀ b o, s.heap.get? b = some o → h1.get? b = some o := IC.toInCall.keep
  have hn := IC.toInCall.ns
  have X1 : K.In h1 := X.keeps up
  have hx1 := up _ _ hx
  show wpAny _ _ (execs _ _) _ _ _
  refine wpAny_execs_cons (plainObj_wpAny_Assign_Attribute ?_)
  refine localAt (v := v) hn (by first | rfl | with_unfolding_all rfl | kernel_rfl) (localAt (v := .ref x) hn (by first | rfl | with_unfolding_all rfl | kernel_rfl) ?_)
  refine set_plain X1 (ox := excO C t0) (od := none) ⟨hx1, rfl, rfl, trivial⟩ T.sa ?_
  refine storeFirst SF X1 hx1 T.over T.hd (taker_of (T.no _ (List.mem_cons_self ..))) (fun h3 tk3 dx k3 dn dne hx3 hn3 => ?_)
  show wpAny _ _ (execs _ _) _ _ _
  have z : s.heap.objs.size < h1.objs.size := hn.lt
  refine wpAny_execs_nil (hq h3 tk3 dx ⟨fun b o hb e => k3 b o hb (up b o e), hx3, Nat.le_of_lt (Nat.lt_of_lt_of_le z dn), dne, ?_⟩)
  rw [← look1]
  exact hn3
theorem init_users (SF : StoreFacts B bmB "object.__setattr__" "object") (T : XB K bmB newId C [("users" : Str)]) (D : Ini1 K fI qual "users" fd) {x t0 : Addr} {v : Value} (X : K.In s.heap) (hlim : s.heap.NoLimit)
    (hx : s.heap.get? x = some (excO C t0)) (hroom : A.depth < recursionLimit) (hb : BindsTo s fd args [("self", .ref x), ("users", v)])
    (hq : ∀ h' tk dx, InitLeft s.heap h' x C dx t0 [("users", v)] → R (.ok (.ret .none)) { s with heap := h', toks := tk }) :
    codeAny (model prog w) A (.call (.ref fI) args) R s := by
  obtain ⟨oc, od, doc, pm, an, cdv, ct, osl, p1, p2, q1, q2, q3, q4, rfl, ho, hcd⟩ := D.ex
  refine Att.call_fn (binds := [("self", .ref x), ("users", v)]) X hlim ho hcd hroom hb (by first | rfl | decide | with_unfolding_all rfl) (fun s1 IC => ?_) rfl rfl rfl
  obtain ⟨h1, tk1, rfl⟩ := IC.toInCall.same
  have up : ∀ b o, s.heap.get? b = some o → h1.get? b = some o := IC.toInCall.keep
  have hn := IC.toInCall.ns
  have X1 : K.In h1 := X.keeps up
  have hx1 := up _ _ hx
  show wpAny _ _ (execs _ _) _ _ _
  refine wpAny_execs_cons (plainObj_wpAny_Assign_Attribute ?_)
  refine localAt (v := v) hn (by first | rfl | with_unfolding_all rfl | kernel_rfl) (localAt (v := .ref x) hn (by first | rfl | with_unfolding_all rfl | kernel_rfl) ?_)
  refine set_plain X1 (ox := excO C t0) (od := none) ⟨hx1, rfl, rfl, trivial⟩ T.sa ?_
  refine storeFirst SF X1 hx1 T.over T.hd (taker_of (T.no _ (List.mem_cons_self ..))) (fun h3 tk3 dx k3 dn dne hx3 hn3 => ?_)
  show wpAny _ _ (execs _ _) _ _ _
  have z : s.heap.objs.size < h1.objs.size := hn.lt
  refine wpAny_execs_nil (hq h3 tk3 dx ⟨fun b o hb e => k3 b o hb (up b o e), hx3, Nat.le_of_lt (Nat.lt_of_lt_of_le z dn), dne, ?_⟩)
  rw [← look1]
  exact hn3
theorem init_circle (SF : StoreFacts B bmB "object.__setattr__" "object") (T : XB K bmB newId C [("circle" : Str)]) (D : Ini1 K fI qual "circle" fd) {x t0 : Addr} {v : Value} (X : K.In s.heap) (hlim : s.heap.NoLimit)
    (hx : s.heap.get? x = some (excO C t0)) (hroom : A.depth < recursionLimit) (hb : BindsTo s fd args [("self", .ref x), ("circle", v)])
    (hq : ∀ h' tk dx, InitLeft s.heap h' x C dx t0 [("circle", v)] → R (.ok (.ret .none)) { s with heap := h', toks := tk }) :
    codeAny (model prog w) A (.call (.ref fI) args) R s := by
  obtain ⟨oc, od, doc, pm, an, cdv, ct, osl, p1, p2, q1, q2, q3, q4, rfl, ho, hcd⟩ := D.ex
  refine Att.call_fn (binds := [("self", .ref x), ("circle", v)]) X hlim ho hcd hroom hb (by first | rfl | decide | with_unfolding_all rfl) (fun s1 IC => ?_) rfl rfl rfl
  obtain ⟨h1, tk1, rfl⟩ := IC.toInCall.same
  have up : ∀ b o, s.heap.get? b = some o → h1.get? b = some o := IC.toInCall.keep
  have hn := IC.toInCall.ns
  have X1 : K.In h1 := X.keeps up
  have hx1 := up _ _ hx
  show wpAny _ _ (execs _ _) _ _ _
  refine wpAny_execs_cons (plainObj_wpAny_Assign_Attribute ?_)
  refine localAt (v := v) hn (by first | rfl | with_unfolding_all rfl | kernel_rfl) (localAt (v := .ref x) hn (by first | rfl | with_unfolding_all rfl | kernel_rfl) ?_)
  refine set_plain X1 (ox := excO C t0) (od := none) ⟨hx1, rfl, rfl, trivial⟩ T.sa ?_
  refine storeFirst SF X1 hx1 T.over T.hd (taker_of (T.no _ (List.mem_cons_self ..))) (fun h3 tk3 dx k3 dn dne hx3 hn3 => ?_)
  show wpAny _ _ (execs _ _) _ _ _
  have z : s.heap.objs.size < h1.objs.size := hn.lt
  refine wpAny_execs_nil (hq h3 tk3 dx ⟨fun b o hb e => k3 b o hb (up b o e), hx3, Nat.le_of_lt (Nat.lt_of_lt_of_le z dn), dne, ?_⟩)
  rw [← look1]
  exact hn3
end
end VX
end PySem
end
section
set_option Elab.async false
set_option linter.all false
set_option maxRecDepth 100000
set_option maxHeartbeats 4000000
/-! X4: two fields; a made exception; raised, or held as a value -/
namespace PySem
namespace VX
open PySem.W PySem.Calls PyProof.Rows PySem.HandSPX
def gS : Scope := { kind := .function, names := [(PySem.Str.ofString "self", .local), (PySem.Str.ofString "rule", .local), (PySem.Str.ofString "things", .local)], isGenerator := false, isCoroutine := false, more := [] }
def gA (p1 p2 p3 : Pos) : Arguments := { posonlyargs := [], args := [{ arg := "self", annotation := none, pos := p1 }, { arg := "rule", annotation := none, pos := p2 }, { arg := "things", annotation := none, pos := p3 }], vararg := none, kwonlyargs := [], kw_defaults := [], kwarg := none, defaults := [] }
def gB (q1 q2 q3 q4 r1 r2 r3 r4 : Pos) : List Stmt := [.Assign [.Attribute (.Name "self" q1) "rule" q2] (.Name "rule" q3) q4, .Assign [.Attribute (.Name "self" r1) "things" r2] (.Name "things" r3) r4]
structure Ini2 (K : Frag) (fI : Addr) (qual : Str) (fd : FuncData) : Prop where
  ex : ∃ (oc : Value) (od : Option Addr) (doc pm : Value) (an : Option Addr) (cdv ct : Value) (osl : Array (Option Value)) (p1 p2 p3 q1 q2 q3 q4 r1 r2 r3 r4 : Pos),
    fd = fnOf "__init__" qual (gA p1 p2 p3) (gB q1 q2 q3 q4 r1 r2 r3 r4) gS .none .none doc pm an cdv ct ∧ K.lookup fI = some ⟨oc, od, .func fd, osl⟩ ∧ codeIn K cdv qual = true
section
variable {prog : Program} {w : World} {A : Around} {E : Value → Shared → Prop} {R : Result → Shared → Prop} {s : Shared} {K : Frag} {C fI : Addr} {bmB : List Value} {B newId initId : String} {fn : List Str} {qual : Str} {fd : FuncData} {args : Args}
theorem keptBut {h h' : Heap} {x : Addr} (X : K.In h) (hx : K.lookup x = none) (k : ∀ b o, b ≠ x → h.get? b = some o → h'.get? b = some o) : K.In h' := fun a o e => by
  refine k a o (fun z => ?_) (X a o e)
  rw [z, hx] at e
  cases e
theorem init_two (SF : StoreFacts B bmB "object.__setattr__" "object") (T : XB K bmB newId C [("rule" : Str), ("things" : Str)]) (D : Ini2 K fI qual fd) {x t0 : Addr} {v u : Value} (X : K.In s.heap) (hlim : s.heap.NoLimit)
    (hx : s.heap.get? x = some (excO C t0)) (hnx : K.lookup x = none) (hroom : A.depth < recursionLimit) (hb : BindsTo s fd args [("self", .ref x), ("rule", v), ("things", u)])
    (hq : ∀ h' tk dx, InitLeft s.heap h' x C dx t0 [("things", u), ("rule", v)] → R (.ok (.ret .none)) { s with heap := h', toks := tk }) :
    codeAny (model prog w) A (.call (.ref fI) args) R s := by
  obtain ⟨oc, od, doc, pm, an, cdv, ct, osl, p1, p2, p3, q1, q2, q3, q4, r1, r2, r3, r4, rfl, ho, hcd⟩ := D.ex
  refine Att.call_fn (binds := [("self", .ref x), ("rule", v), ("things", u)]) X hlim ho hcd hroom hb (by first | rfl | decide | with_unfolding_all rfl) (fun s1 IC => ?_) rfl rfl rfl
  obtain ⟨h1, tk1, rfl⟩ := IC.toInCall.same
  have up : ∀ b o, s.heap.get? b = some o → h1.get? b = some o := IC.toInCall.keep
  have hn := IC.toInCall.ns
  have nL : s.heap.objs.size ≠ x := Nat.ne_of_gt (Heap.lt_size hx)
  have X1 : K.In h1 := X.keeps up
  have hx1 := up _ _ hx
  show wpAny _ _ (execs _ _) _ _ _
  refine wpAny_execs_cons (plainObj_wpAny_Assign_Attribute ?_)
  refine localAt (v := v) hn (by first | rfl | with_unfolding_all rfl | kernel_rfl) (localAt (v := .ref x) hn (by first | rfl | with_unfolding_all rfl | kernel_rfl) ?_)
  refine set_plain X1 (ox := excO C t0) (od := none) ⟨hx1, rfl, rfl, trivial⟩ T.sa ?_
  refine storeFirst SF X1 hx1 T.over T.hd (taker_of (T.no _ (List.mem_cons_self ..))) (fun h3 tk3 dx k3 dn dne hx3 hn3 => ?_)
  have hnL : h3.Ns s.heap.objs.size _ := hn.at' fun o e => k3 _ o nL e
  have X3 : K.In h3 := keptBut X1 hnx k3
  have hw3 : Within (fun y => if y = ("rule" : Str) then some v else none) ["rule"] := Within.cons "rule" v Within.nil
  obtain ⟨oD, _, _, hoD, _, _⟩ := hn3.count hw3
  have z : s.heap.objs.size < h1.objs.size := hn.lt
  show wpAny _ _ (execs _ _) _ _ _
  refine wpAny_execs_cons (plainObj_wpAny_Assign_Attribute ?_)
  refine localAt (v := u) hnL (by first | rfl | with_unfolding_all rfl | kernel_rfl) (localAt (v := .ref x) hnL (by first | rfl | with_unfolding_all rfl | kernel_rfl) ?_)
  refine set_plain X3 (ox := { cls := .ref C, dict := some dx, data := .fields #[.ref t0, .none, .none, .none, .bool false, .none] }) (od := some oD) ⟨hx3, rfl, rfl, hoD⟩ T.sa ?_
  refine storeNext SF X3 hx3 hn3 hw3 (by decide) T.over T.hd (taker_of (T.no _ (List.mem_cons_of_mem _ (List.mem_cons_self ..)))) (fun h4 tk4 k4 hn4 => ?_)
  show wpAny _ _ (execs _ _) _ _ _
  have big : s.heap.objs.size ≤ dx := Nat.le_of_lt (Nat.lt_of_lt_of_le z dn)
  refine wpAny_execs_nil (hq h4 tk4 dx ⟨fun b o hb e => ?_, k4 _ _ (Ne.symm dne) hx3, big, dne, ?_⟩)
  · exact k4 b o (Nat.ne_of_lt (Nat.lt_of_lt_of_le (Heap.lt_size (up b o e)) dn)) (k3 b o hb (up b o e))
  · rw [← look2]
    exact hn4
/-- what the __init__ at fI makes of an exception at x: its fields -/
def InitDoes (prog : Program) (w : World) (K : Frag) (C fI : Addr) (rest : List Value) (kw : List (Str × Value)) (kvs : List (Str × Value)) : Prop :=
  ∀ (A : Around) (R : Result → Shared → Prop) (s : Shared) (x t0 : Addr), K.In s.heap → s.heap.NoLimit → s.heap.get? x = some (excO C t0) → K.lookup x = none → A.depth < recursionLimit →
    (∀ h' tk dx, InitLeft s.heap h' x C dx t0 kvs → R (.ok (.ret .none)) { s with heap := h', toks := tk }) → codeAny (model prog w) A (.call (.ref fI) ⟨.ref x :: rest, kw⟩) R s
/-- a made one -/
structure Made (h h' : Heap) (e C d : Addr) (kvs : List (Str × Value)) : Prop where
  keep : ∀ b o, h.get? b = some o → h'.get? b = some o
  new : h.objs.size ≤ e
  obj : ∃ t, h'.get? e = some { cls := .ref C, dict := some d, data := .fields #[.ref t, .none, .none, .none, .bool false, .none] }
  dbig : h.objs.size ≤ d
  dne : d ≠ e
  ns : h'.Ns1 d (fun y => kvs.lookup y)
theorem made (FB : ExcBaseFacts B newId initId bmB) (T : XB K bmB newId C fn) (iC : findIn K (.ref C) "__init__" = some (some (.ref fI))) (tI : typeIn K (.ref fI) = some (.type "function"))
    {rest : List Value} {kw kvs : List (Str × Value)} (D : InitDoes prog w K C fI rest kw kvs) (hrest : rest.length ≤ sizeLine) (X : K.In s.heap) (hlim : s.heap.NoLimit) (hroom : A.depth + 1 < recursionLimit)
    (hq : ∀ h' tk e d, Made s.heap h' e C d kvs → R (.ok (.ret (.ref e))) { s with heap := h', toks := tk }) : codeAny (model prog w) A (.call (.ref C) ⟨rest, kw⟩) R s := by
  have up : ∀ b o, s.heap.get? b = some o → ((s.heap.push (kdv_tup rest)).push (excO C s.heap.objs.size)).get? b = some o := fun b o e => Heap.get?_push_of_some _ (Heap.get?_push_of_some _ e)
  have here : ((s.heap.push (kdv_tup rest)).push (excO C s.heap.objs.size)).get? (s.heap.objs.size + 1) = some (excO C s.heap.objs.size) := by heap_get
  have nK : K.lookup (s.heap.objs.size + 1) = none := by
    cases e : K.lookup (s.heap.objs.size + 1) with
    | none => rfl
    | some o => exact absurd (Nat.lt_of_succ_lt (Heap.lt_size (X _ _ e))) (Nat.lt_irrefl _)
  refine callK FB X T.ini iC tI hrest ?_
  refine D _ _ _ _ s.heap.objs.size (X.keeps up) (hlim.keeps up) here nK hroom fun h' tk dx L => ⟨rfl, ?_⟩
  have old : ∀ b o, s.heap.get? b = some o → h'.get? b = some o := fun b o e => L.keep b o (Nat.ne_of_lt (Nat.lt_succ_of_lt (Heap.lt_size e))) (up b o e)
  have big : s.heap.objs.size + 1 + 1 ≤ dx := by
    have q := L.dbig
    first
      | (simpa only [Heap.size_push] using q)
      | exact q
      | (rw [Heap.size_push, Heap.size_push] at q; exact q)
  exact hq h' tk (s.heap.objs.size + 1) dx ⟨old, Nat.le_succ _, ⟨_, L.obj⟩, Nat.le_trans (Nat.le_trans (Nat.le_succ _) (Nat.le_succ _)) big, L.dne, L.ns⟩
end
end VX
end PySem
namespace L2
open PySem PySem.Spec PyProof.Rows PySem.VX
/-- an exception of the class at C, its fields in the dict at d -/
def exV (e C d : Addr) : HO := .ext fun h => ∃ (oe : Obj) (vs : Array Value), h.get? e = some oe ∧ oe.cls = .ref C ∧ oe.dict = some d ∧ oe.data = .fields vs
theorem exV_ok {P : Program} {w : World} {H : Hp} {h : Heap} {e C d : Addr} {oe : Obj} {vs : Array Value} (he : h.get? e = some oe) (hc : oe.cls = .ref C) (hd : oe.dict = some d) (hv : oe.data = .fields vs) : ObjOk P w H h e (exV e C d) :=
  ⟨⟨oe, vs, he, hc, hd, hv⟩, ⟨oe, he⟩, fun h1 h2 ⟨o, v, a, b⟩ k => ⟨o, v, k _ a, b⟩⟩
theorem exV_at {P : Program} {w : World} {H : Hp} {h : Heap} {e C d : Addr} (hok : HOk P w H h) (he : H e = some (exV e C d)) : ∃ (oe : Obj) (vs : Array Value), h.get? e = some oe ∧ oe.cls = .ref C ∧ oe.dict = some d ∧ oe.data = .fields vs := by
  have x : ObjOk P w H h e (.ext fun h => ∃ (oe : Obj) (vs : Array Value), h.get? e = some oe ∧ oe.cls = .ref C ∧ oe.dict = some d ∧ oe.data = .fields vs) := hok e _ he
  exact x.1
theorem relO_pairs : ∀ {fs : List (Str × V)} {kvs : List (Str × Value)}, KV fs kvs → ∀ f, RelO (fs.lookup f) (kvs.lookup f)
  | _, _, .nil, _ => True.intro
  | (a, x) :: fs, (b, u) :: kvs, .cons h t, f => by
    obtain ⟨e, r⟩ := h
    have e' : a = b := e
    subst e'
    cases q : (f == a) with
    | true => simp only [List.lookup, q]; exact r
    | false => simp only [List.lookup, q]; exact relO_pairs t f
/-- an own exception class of the text: fn its fields in order -/
structure OwnX (prog : Program) (w : World) (K : PySem.W.Frag) (mg : Str → Option Value) (nm : Str) (C : Addr) (fn : List Str) : Prop where
  g : mg nm = some (.ref C)
  some : ∃ (bmB : List Value) (B newId initId : String) (fI : Addr), ExcBaseFacts B newId initId bmB ∧ XB K bmB newId C fn ∧ PySem.W.findIn K (.ref C) "__init__" = some (some (.ref fI)) ∧ PySem.W.typeIn K (.ref fI) = some (.type "function") ∧
    (∀ us : List Value, us.length = fn.length → InitDoes prog w K C fI us [] (fn.zip us).reverse) ∧ (∀ ws : List Value, ws.length = fn.length → InitDoes prog w K C fI [] (fn.reverse.zip ws) (fn.zip ws.reverse).reverse)
  few : fn.length ≤ 3
theorem kv_zip : ∀ (fn : List Str) {vs : List V} {us : List Value}, Vals vs us → KV (fn.zip vs) (fn.zip us)
  | [], _, _, _ => .nil
  | _ :: _, _, _, .nil => .nil
  | f :: fn, _, _, .cons r t => .cons ⟨rfl, r⟩ (kv_zip fn t)
theorem paired_app {α β : Type} {F : α → β → Prop} : ∀ {a : List α} {b : List β} {c : List α} {d : List β}, Paired F a b → Paired F c d → Paired F (a ++ c) (b ++ d)
  | _, _, _, _, .nil, q => q
  | _, _, _, _, .cons h t, q => .cons h (paired_app t q)
theorem paired_rev {α β : Type} {F : α → β → Prop} : ∀ {a : List α} {b : List β}, Paired F a b → Paired F a.reverse b.reverse
  | _, _, .nil => .nil
  | _, _, .cons h t => by
    rw [List.reverse_cons, List.reverse_cons]
    exact paired_app (paired_rev t) (.cons h .nil)
section
variable {X : Cx} {C : Addr} {nm : Str} {fn : List Str} {ta tk : TA} {p pos : Pos} {k : Nat} {e : Expr} {es : List Expr} {kws : List Keyword}
/-- what was made, as the layer sees it: all old stands, the dict is new and told -/
theorem made_inv {pins : List (Addr × Obj)} {σ : St} {H : Hp} {hp h' : Heap} {g : Array GenState} {dr : Drawn} {tk tk' : Nat} {os : OsState} {a d : Addr} {fs : List (Str × V)} {kvs : List (Str × Value)} (I : Inv X pins σ H ⟨hp, g, dr, tk, os⟩) (M : Made hp h' a C d kvs) (r : KV fs kvs) :
    ∃ G : Heap, Inv X pins σ (upd H d (.xd fs)) ⟨G, g, dr, tk', os⟩ ∧ (∀ b o, G.get? b = some o → h'.get? b = some o) ∧ G.get? a = none ∧ (upd H d (.xd fs)) a = none ∧ H d = none := by
  obtain ⟨G, g1, g2⟩ := restrict h' fun b => decide (b ≠ a)
  have gk : ∀ b, b ≠ a → G.get? b = h'.get? b := fun b hb => g1 b (decide_eq_true hb)
  have ge : G.get? a = none := g2 a (by simp)
  have old : ∀ b o, hp.get? b = some o → G.get? b = some o := fun b o q => (gk b (Nat.ne_of_lt (Nat.lt_of_lt_of_le (Heap.lt_size q) M.new))).trans (M.keep b o q)
  have ob : ObjOk X.prog X.w (upd H d (.xd fs)) G d (.xd fs) := ⟨_, M.ns.at fun o q => (gk d M.dne).trans q, relO_pairs r⟩
  refine ⟨G, I.laid (t' := tk') old M.dbig ob, fun b o q => ?_, ge, ?_, I.hok.fresh M.dbig⟩
  · by_cases hb : b = a
    · rw [hb, ge] at q
      cases q
    · exact (gk b hb).symm.trans q
  · rw [upd_ne (Ne.symm M.dne)]
    exact I.hok.fresh M.new
/-- raise C(e, ..): what is made -/
def tMkX (C : Addr) (fn : List Str) (ta : TA) : St → Hp → XK → Prop := fun σ H Q => ta σ H fun vs H1 => vs.length = fn.length ∧ ∀ d, H1 d = none → Q (.ref C) (some d) (upd H1 d (.xd (fn.zip vs).reverse))
theorem pmk_own1 (O : OwnX X.prog X.w X.K X.mg nm C fn) (hr : Room k X.A) (ha : PA X (e :: es) ta) (hg : Gl X nm) (hdb : (nm == ("__debug__" : Str)) = false := by decide)
    (he : starEach (e :: es) X.env = (false, eval e X.env) :: starEach es X.env := by rfl) (hpl : (backTo pos (starEach es X.env)).any (·.1) = false := by rfl) :
    PMk X (.Call (.Name nm p) (e :: es) [] pos) (tMkX C fn ta) := by
  intro pins s σ H Q I h
  obtain ⟨bmB, B, newId, initId, fI, FB, T, iC, tI, D, _⟩ := O.some
  refine wpAny_Call_Name_kw (ld_glob I hg O.g ?_ hdb)
  refine PySem.W.callWith_K (h₀ := X.base) I.ok.mod.kin T.keep (thn (ha.run pos pins s σ H _ I h) fun us s1 hh => ?_) he hpl
  obtain ⟨vs, H1, I1, r1, hz, q1⟩ := hh
  refine ⟨I1.kIn, ?_⟩
  have hlim := I1.nolimit
  have hl : us.length = fn.length := r1.length.symm.trans hz
  obtain ⟨hp, g, dr, tk, os⟩ := s1
  show wpAny _ _ (call (.ref C) us) _ _ _
  refine wpAny_call (made FB T iC tI (D us hl) (by rw [hl, sizeLine_eq]; have := O.few; omega) I1.kIn hlim (by have := hr.dp; omega) fun h' tk' a d M => ?_)
  obtain ⟨G, J, kG, ge, na, nd⟩ := made_inv (tk' := tk') I1 M (paired_rev (kv_zip fn r1))
  obtain ⟨t, ho⟩ := M.obj
  exact ⟨a, _, _, ⟨G, g, dr, tk', os⟩, _, .ref C, some d, rfl, J, kG, ge, ho, ⟨rfl, rfl⟩, rfl, rfl, na, rfl, I1.bare, raises_own T.exc T.ty, q1 d nd⟩
/-- C(k = v, ..) as a value; the keywords stand in the fields' order turned about -/
def tNewKw (C : Addr) (fn : List Str) (tk : TA) : TE := fun σ H Q => tk σ H fun zs H1 => zs.length = fn.length ∧ ∀ a d, H1 a = none → H1 d = none → d ≠ a → Q (.ref a) (upd (upd H1 d (.xd (fn.zip zs.reverse).reverse)) a (exV a C d))
theorem pe_newKw (O : OwnX X.prog X.w X.K X.mg nm C fn) (hr : Room k X.A) (hkw : PK X kws tk) (hg : Gl X nm) (hdb : (nm == ("__debug__" : Str)) = false := by decide)
    (hall : (backToKw pos (keywordEach kws X.env)).all (·.1.isSome) = true := by rfl) (hks : (backToKw pos (keywordEach kws X.env)).filterMap (·.1) = fn.reverse := by rfl)
    (hpl : ((backTo pos (starEach [] X.env)).any (·.1) || (backToKw pos (keywordEach kws X.env)).any (·.1.isNone)) = false := by rfl) :
    PE X (.Call (.Name nm p) [] kws pos) (tNewKw C fn tk) := by
  refine ⟨fun pins s σ H Q I h => ?_⟩
  obtain ⟨bmB, B, newId, initId, fI, FB, T, iC, tI, _, D⟩ := O.some
  refine wpAny_Call_Name_kw (ld_glob I hg O.g ?_ hdb)
  refine PySem.W.callWith_KW0 (h₀ := X.base) I.ok.mod.kin T.keep hall ?_ hpl
  refine thn (hkw.run pos pins s σ H _ I h) fun ws s1 ⟨zs, H1, I1, rz, hz, q1⟩ => ⟨I1.kIn, ?_⟩
  rw [hks]
  have hlim := I1.nolimit
  have hl : ws.length = fn.length := rz.length.symm.trans hz
  obtain ⟨hp, g, dr, tk', os⟩ := s1
  show wpAny _ _ (call (.ref C) [] (fn.reverse.zip ws)) _ _ _
  refine wpAny_call (made FB T iC tI (D ws hl) (Nat.zero_le _) I1.kIn hlim (by have := hr.dp; omega) fun h' tk2 a d M => ?_)
  obtain ⟨G, J, kG, ge, na, nd⟩ := made_inv (tk' := tk2) I1 M (paired_rev (kv_zip fn (paired_rev rz)))
  obtain ⟨t, ho⟩ := M.obj
  have J2 := J.laidN (h' := h') (t' := tk2) (o := exV a C d) kG ge na (exV_ok ho rfl rfl rfl)
  have na1 : H1 a = none := by rw [upd_ne (Ne.symm M.dne)] at na; exact na
  exact ⟨.ref a, _, J2, rfl, q1 a d na1 nd M.dne⟩
end
end L2
end
section
set_option Elab.async false
set_option linter.all false
set_option maxRecDepth 100000
set_option maxHeartbeats 4000000
/-! X5: try with several clauses «except C as n», behind which the caught exception is told -/
namespace L2
open PySem PySem.Spec PyProof.Rows PySem.VX
section
variable {X : Cx} {pins : List (Addr × Obj)} {σ : St} {H : Hp} {s : Shared}
/-- an object that nobody tells of, new since the def's entry, is told from now on -/
theorem Inv.track {a C d : Addr} {oe : Obj} {vs : Array Value} (I : Inv X pins σ H s) (ho : s.heap.get? a = some oe) (hc : oe.cls = .ref C) (hd : oe.dict = some d) (hv : oe.data = .fields vs) (na : H a = none)
    (n0 : X.s_0.heap.get? a = none) (nL : a ≠ X.env.locals) (np : ∀ p ∈ X.pn ++ pins, p.1 ≠ a) : Inv X pins σ (upd H a (exV a C d)) s := by
  have ne0 : ∀ b o, X.s_0.heap.get? b = some o → b ≠ a := fun b o e z => by
    rw [z, n0] at e
    cases e
  have neS : ∀ b u, H b = some u → b ≠ a := fun b u e => ne_of_none e na
  refine ⟨I.ok, I.os, I.bare, ⟨I.base.keep, I.base.slot, fun b o e n hx => ?_, I.base.there, fun b xs e => ?_, fun b o u e => ?_, fun b ps e => ?_⟩, I.loc, I.cell, ?_, fun x c e => ?_, fun p hp => ?_, fun b u e => ?_, I.len⟩
  · rw [upd_ne (ne0 b o e)]
    exact I.base.free b o e n hx
  · have q := I.base.tups b xs e
    rw [upd_ne (neS b _ q)]
    exact q
  · have q := I.base.frzs b o u e
    rw [upd_ne (neS b _ q)]
    exact q
  · obtain ⟨m, q⟩ := I.base.tbls b ps e
    exact ⟨m, by rw [upd_ne (neS b _ q)]; exact q⟩
  · rw [upd_ne (Ne.symm nL)]
    exact I.free
  · have nc : c ≠ a := fun z => by
      obtain ⟨v, o, e1, e2⟩ := I.cell x c e
      rw [z, ho] at e1
      cases e1
      rw [hv] at e2
      cases e2
    rw [upd_ne nc]
    exact I.freeC x c e
  · obtain ⟨e1, e2, r⟩ := I.pin p hp
    exact ⟨e1, by rw [upd_ne (np p hp)]; exact e2, r⟩
  · by_cases hb : b = a
    · subst hb
      rw [upd_same] at e
      cases e
      exact exV_ok ho hc hd hv
    · rw [upd_ne hb] at e
      refine (I.hok b u e).stay (fun _ _ _ q => q) (fun c q => ?_) fun c xs q => ?_
      · rw [upd_ne (neS c _ q)]
        exact q
      · rw [upd_ne (neS c _ q)]
        exact q
end
/-- the clauses' wishes, one behind the other; n's slot is i -/
def wManyV (K : PySem.W.Frag) (i : Nat) (Wout : WX) (D : Ends) : List (Value × (Addr → Value → Option Addr → TS)) → WX
  | [] => Wout
  | (c, ts) :: r => fun cls d σ H => ∃ b, PySem.W.exmOne K cls c = some b ∧
      (b = true → ∃ C d', cls = .ref C ∧ d = some d' ∧ ∀ a, H a = none → ts a cls d { nx := fun σ' H' => D.nx (σ'.set i none) (upd H' a (exV a C d')), rt := fun v H' => D.rt v H', bk := fun σ' H' => D.bk (σ'.set i none) H', ct := fun σ' H' => D.ct (σ'.set i none) H' } (σ.set i (some (.ref a))) H) ∧
      (b = false → wManyV K i Wout D r cls d σ H)
inductive HdsV (X : Cx) (n : Str) : List ExceptHandler → List (Value × (Addr → Value → Option Addr → TS)) → Prop
  | nil : HdsV X n [] []
  | cons {x : Str} {c : Value} {ts : Addr → Value → Option Addr → TS} {b₀ : Stmt} {suite : List Stmt} {np pos' : Pos} {hds : List ExceptHandler} {l : List (Value × (Addr → Value → Option Addr → TS))} (hc : Names X x c)
      (hsu : ∀ (a : Addr) (oe : Obj) (cls : Value) (d : Option Addr) (pn : List (Addr × Obj)), Zc cls d oe → (∃ vs, oe.data = .fields vs) → PSs (X.suite a ((a, oe) :: pn)) (b₀ :: suite) (ts a cls d)) (r : HdsV X n hds l) :
      HdsV X n (.ExceptHandler (some (.Name x np)) (some n) (b₀ :: suite) pos' :: hds) ((c, ts) :: l)
section
variable {X : Cx} {n : Str} {i : Nat} {body : List Stmt} {h₀ : ExceptHandler} {hds : List ExceptHandler} {l : List (Value × (Addr → Value → Option Addr → TS))} {pos : Pos} {tb : WX → TS} {Wout : WX}
theorem ps_try_manyV (hs : X.stack = X.env :: X.outer) (hf : X.env.frame = some X.env.locals) (hex : X.ex = []) (hN : X.N.Nodup) (hi : X.N[i]? = some n) (hln : X.env.kindOf n = some .local) (tk : Takes X Wout)
    (hb : ∀ (W : WX) (pn : List (Addr × Obj)) (xe : Value → Shared → Prop), Takes (X.tr pn xe) W → PassesOwn (model X.prog X.w) X.A X.env xe → PSs (X.tr pn xe) body (tb W))
    (hh : HdsV X n (h₀ :: hds) l) : PS X (.Try body (h₀ :: hds) [] [] pos) (fun D σ H => tb (wManyV X.K i Wout D l) D σ H) := by
  refine ⟨fun pins s σ H D I h => ?_⟩
  have ok := I.ok
  have frm : X.A.frames = some (X.env :: X.outer) := ok.frames.trans (congrArg some hs)
  have hloc : Loc X.env.scope n := .inl hln
  refine wpAny_Try_except ?_
  refine wpAny_mono ((hb (wManyV X.K i Wout D l) (X.pn ++ pins) (fun e s₁ => wpAny (model X.prog X.w) X.A (noteFrame e X.env) (fun _ s₂ => wpAny (model X.prog X.w) X.A (setFlight e none) (fun _ s₃ =>
    wpAny (model X.prog X.w) X.A (handleBy e X.env (h₀ :: hds)) (SP X pins D) X.xe s₃) X.xe s₂) X.xe s₁) (fun u s' xx => ?_) PassesOwn.looking).run [] s σ H D (I.toTry _) h) (fun f s1 hsp => ?_) (fun _ _ he => he)
  · obtain ⟨a, B, sI, pins', σ', H', cls, d, rfl, J', nb, up, sky, na, os, ag, w⟩ := xx
    have J : Inv X pins σ' H' sI := J'.ofTry ok
    have sky' : Sky B (X.env :: X.outer) a (Zc cls d) X.env.locals s'.heap := by rw [← hs]; exact sky
    show wpAny (model X.prog X.w) X.A (noteFrame (.ref a) X.env) _ _ _
    refine Sky.land Zc.steady frm hf sky' fun h3 fl3 up3 => ?_
    have J3 : Inv X pins σ' H' { s' with heap := h3 } := J.landed nb fl3.1 (up.trans up3) os ag
    obtain ⟨oe3, vs3, he3, hz3, hd3⟩ := fl3.there
    have noFrame : a ∉ frs (X.env :: X.outer) := fun hm => by
      obtain ⟨_, o', e', hnf⟩ := fl3.2.2.1.mem hm
      rw [he3] at e'
      cases e'
      exact hnf _ hd3
    have noStack : a ∉ frs X.stack := by rw [hs]; exact noFrame
    have nL : a ≠ X.env.locals := fun z => noFrame (List.mem_filterMap.mpr ⟨X.env, List.mem_cons_self, by rw [hf, z]⟩)
    have nF : a ∉ X.fs := fun hm => by
      obtain ⟨e, he, q⟩ := List.mem_filterMap.mp hm
      exact noFrame (List.mem_filterMap.mpr ⟨e, List.mem_cons_of_mem _ he, q⟩)
    -- it wasn't there ahead
    have nB : B.get? a = none := fl3.2.1
    have nI : sI.heap.get? a = none := by
      cases e : sI.heap.get? a with
      | none => rfl
      | some o =>
        have z := nb a o e noStack
        rw [nB] at z
        cases z
    have n0 : X.s_0.heap.get? a = none := by
      cases e : X.s_0.heap.get? a with
      | none => rfl
      | some o =>
        obtain ⟨o', z⟩ := J.base.there a o e (by rw [hex]; exact fun z => nomatch z)
        rw [nI] at z
        cases z
    have np : ∀ p ∈ X.pn ++ pins, p.1 ≠ a := fun p hp z => by
      have q := (J.pin p hp).1
      rw [z, nI] at q
      cases q
    have S3 := J3.suite he3 hd3 na nL nF
    have go : ∀ {hds' : List ExceptHandler} {l' : List (Value × (Addr → Value → Option Addr → TS))}, HdsV X n hds' l' → wManyV X.K i Wout D l' cls d σ' H' →
        wpAny (model X.prog X.w) X.A (handleBy (.ref a) X.env hds') (SP X pins D) X.xe { s' with heap := h3 } := by
      intro hds' l' hk
      induction hk with
      | nil =>
        intro w
        refine wpAny_handleBy_nil ?_
        obtain ⟨k1, k2, k3, oe, vs, T, oT, ts', he, hz, hd, h1, hr⟩ := id fl3
        unfold PySem.passOn
        refine wpAny_bind (wpAny_field he hd h1 ?_)
        rw [if_neg (show ¬ ((Value.ref T == Value.none) = true) from by simp)]
        have away : wpAny (model X.prog X.w) X.A (setFlight (.ref a) X.env.frame) (fun _ s4 => wpAny (model X.prog X.w) X.A (throw (.ref a) : Sem Flow) (SP X pins D) X.xe s4) X.xe { s' with heap := h3 } := by
          rw [hf]
          refine HandSPX.setFlight_upZ fl3 fun h4 hh4 up4 => wpAny_throw (tk _ _ ?_)
          exact ⟨a, B, sI, pins, σ', H', cls, d, rfl, J, nb, (up.trans up3).trans up4, .inr (.inr (by rw [hs]; exact hh4)), na, os, ag, w⟩
        first
          | exact wpAny_bind (wpAny_pure (wpAny_bind away))
          | exact wpAny_bind away
      | @cons x c ts b₀ suite np' pos' hds2 l2 hc hsu r ih =>
        intro w
        obtain ⟨b, hb1, hyes, hno⟩ := w
        refine wpAny_handleBy_cons (codeAny_handlers_test ?_) (by intro q; cases q)
        have LT : PySem.W.Looks (model X.prog X.w) h3 (typeOf (.ref a)) cls := fun A Q E s k q => wpAny_typeOf_ref (k _ _ he3) (by rw [hz3.1]; exact q)
        have LM := PySem.W.exm_one (M := model X.prog X.w) (J3.kIn) LT hb1
        have test : ∀ {Q : Value → Shared → Prop} {E : Value → Shared → Prop}, Q c { s' with heap := h3 } → wpAny (model X.prog X.w) (X.A.mark (some (.ref a))) (eval (.Name x np') X.env) Q E { s' with heap := h3 } := fun {Q E} q => by
          obtain ⟨hg, hdbg, hm | ⟨hm, hv, hnn⟩⟩ := hc
          · exact ld_glob (X := X.suite a ((a, oe3) :: (X.pn ++ pins))) S3 hg hm q hdbg
          · exact ld_blt (X := X.suite a ((a, oe3) :: (X.pn ++ pins))) S3 hg hm hv q hnn hdbg
        refine test (LM.here ?_)
        cases b with
        | true =>
          obtain ⟨C, d', rfl, rfl, hyes'⟩ := hyes rfl
          refine codeAny_handlers_suite_as ?_
          refine HandSPX.lands_againZ fl3 fun h4 fl4 up4 => ?_
          have J4 : Inv X pins σ' H' { s' with heap := h4 } := J.landed nb fl4.1 ((up.trans up3).trans up4) os ag
          obtain ⟨oe4, vs4, he4, hz4, hd4⟩ := fl4.there
          have S4 := J4.suite he4 hd4 na nL nF
          refine store_ok (X := X.suite a ((a, oe4) :: (X.pn ++ pins))) (v := .ref a) S4 hN hi hloc rfl (fun s5 S5 => ?_) (.inr hln)
          refine wpAny_mono ((hsu a oe4 (.ref C) (some d') (X.pn ++ pins) hz4 ⟨_, hd4⟩).run [] s5 _ H' _ S5 (hyes' a na)) (fun f s6 hsp => ?_) (fun _ _ z => False.elim z)
          have plain : ∀ {τ : St} {G : Hp} {Q : Shared → Prop}, Inv (X.suite a ((a, oe4) :: (X.pn ++ pins))) [] τ G s6 → (∀ s7, Inv X pins (τ.set i none) G s7 → Q s7) →
              wpAny (model X.prog X.w) X.A (do bindName X.env n .none; unbindBehindTheSuite X.env n pos') (fun _ s7 => Q s7) X.xe s6 := fun {τ G Q} S6 hq => gone_ok (S6.unsuite ok) hN hi hln hq
          cases f with
          | next =>
            obtain ⟨τ, G, S6, q6⟩ := hsp
            obtain ⟨hoa, hna, _⟩ := S6.pin (a, oe4) (List.mem_append_left _ List.mem_cons_self)
            have T6 : Inv X pins τ (upd G a (exV a C d')) s6 := (S6.unsuite ok).track hoa hz4.1 hz4.2 hd4 hna n0 nL np
            exact gone_ok T6 hN hi hln fun s7 J7 => ⟨_, _, J7, q6⟩
          | brk =>
            obtain ⟨τ, G, S6, q6⟩ := hsp
            exact plain S6 fun s7 J7 => ⟨_, _, J7, q6⟩
          | cont =>
            obtain ⟨τ, G, S6, q6⟩ := hsp
            exact plain S6 fun s7 J7 => ⟨_, _, J7, q6⟩
          | ret u =>
            obtain ⟨v6, τ, G, S6, r6, q6⟩ := hsp
            exact plain S6 fun s7 J7 => ⟨_, _, _, J7, r6, q6⟩
        | false =>
          show wpAny _ X.A (handleBy (.ref a) X.env hds2) _ _ _
          exact ih (hno rfl)
    exact go hh w
  · cases f with
    | next =>
      obtain ⟨τ, G, J', q⟩ := hsp
      exact wpAny_execs_nil ⟨τ, G, J'.ofTry ok, q⟩
    | brk =>
      obtain ⟨τ, G, J', q⟩ := hsp
      exact ⟨τ, G, J'.ofTry ok, q⟩
    | cont =>
      obtain ⟨τ, G, J', q⟩ := hsp
      exact ⟨τ, G, J'.ofTry ok, q⟩
    | ret u =>
      obtain ⟨v, τ, G, J', r, q⟩ := hsp
      exact ⟨v, τ, G, J'.ofTry ok, r, q⟩
end
end L2
end
section
set_option Elab.async false
set_option linter.all false
set_option maxRecDepth 100000
set_option maxHeartbeats 4000000
/-! X6: an exception held as a value: its fields, isinstance -/
namespace L2
open PySem PySem.Spec PyProof.Rows PySem.VX
section
variable {X : Cx} {pins : List (Addr × Obj)} {σ : St} {H : Hp} {s : Shared}
theorem exV_inst (I : Inv X pins σ H s) {a C d : Addr} {fs : List (Str × V)} (ea : H a = some (exV a C d)) (ed : H d = some (.xd fs)) :
    ∃ (oe od : Obj) (mA : Str → Option Value), PySem.W.InstAt s.heap a oe C (some od) ∧ (∀ f, RelO (fs.lookup f) (mA f)) ∧ ∀ name, PySem.W.lookIn name od = some (mA name) := by
  obtain ⟨oe, vs, ho, hc, hd, hv⟩ := exV_at I.hok ea
  have hx : ObjOk X.prog X.w H s.heap d (.xd fs) := I.hok d _ ed
  obtain ⟨mA, hns, hr⟩ := hx
  obtain ⟨od, hod, hl⟩ := lookIn_ns hns
  exact ⟨oe, od, mA, ⟨ho, hc, by unfold PySem.W.notCls; rw [hv] <;> rfl, by rw [hd]; exact hod⟩, hr, hl⟩
/-- e.f, e such an exception -/
def tFldV (K : PySem.W.Frag) (f : Str) (te : TE) : TE := fun σ H Q => te σ H fun x H1 => ∃ (a C d : Addr) (fs : List (Str × V)) (v : V), x = .ref a ∧ H1 a = some (exV a C d) ∧ H1 d = some (.xd fs) ∧ XfC K C ∧ PySem.W.findIn K (.ref C) f = some none ∧ fs.lookup f = some v ∧ Q v H1
theorem pe_fldV {e : Expr} {te : TE} {pos : Pos} {n : Str} (he : PE X e te) (hb : attributeBase e n X.env (eval e X.env) = eval e X.env := by rfl) : PE X (.Attribute e n pos) (tFldV X.K n te) := by
  refine ⟨fun pins s σ H Q I h => ?_⟩
  refine attr_of hb (thn (he.run pins s σ H _ I h) fun u s1 hh => ?_)
  obtain ⟨x, H1, I1, rx, a, C, d, fs, v, ex, ea, ed, T, hno, l, q⟩ := hh
  subst ex
  obtain rfl : u = Value.ref a := rx
  obtain ⟨oe, od, mA, J, hr, hl⟩ := exV_inst I1 ea ed
  obtain ⟨u, hu, ru⟩ := RelO.some_of (v := v) (o := mA n) (by rw [← l]; exact hr n)
  exact HandSPX.exc_get I1.kIn J T.ga T.gg T.exC (PySem.W.findObj_own T.hdC hno rfl (by rw [hl, hu])) (handed_of ru) ⟨v, H1, I1.tok _, ru, q⟩
/-- isinstance(e, c), e such an exception -/
def rIsV (K : PySem.W.Frag) : List V → Hp → VK → Prop := fun xs H Q => ∃ (a C d : Addr) (fs : List (Str × V)) (c : V) (cv : Value) (b : Bool), xs = [.ref a, c] ∧ H a = some (exV a C d) ∧ H d = some (.xd fs) ∧ ExcC K C ∧ (∀ u, RelV c u → u = cv) ∧ PySem.W.kitOne K (.ref C) cv = some b ∧ Q (.bl b) H
theorem call_isV : CallR X (.builtin "isinstance") (rIsV X.K) := by
  intro pins s σ H xs us Q I r h
  obtain ⟨a, C, d, fs, c, cv, b, rfl, ea, ed, T, hcv, e, q⟩ := h
  obtain ⟨u, u2, rfl, ru, r2⟩ := vals2 r
  obtain rfl : u = Value.ref a := ru
  have ec := hcv _ r2
  subst ec
  obtain ⟨oe, od, mA, J, _, _⟩ := exV_inst I ea ed
  have hcl : (PySem.W.clsIn X.K C).isSome = true := by
    obtain ⟨cd, hc, _⟩ := PySem.W.any_some T.hd
    rw [hc]
    rfl
  exact PySem.W.kia_one (PySem.W.kitx_exc hcl T.hg T.hk T.hs T.ha T.hn T.ht T.hm) I.kIn J e (fun z => nomatch z) fun tk => ⟨.bl b, H, I.kept (t' := tk) fun _ _ z => z, rfl, q⟩
end
end L2
end
section
set_option Elab.async false
set_option linter.all false
set_option maxRecDepth 100000
set_option maxHeartbeats 4000000
/-! X7: repr of data, in defs that run while no repr does -/
namespace L2
open PySem PySem.Spec PyProof.Rows PySem.VX
theorem guards_deeper {A : Around} {env : Env} : (A.deeper env).guards = A.guards := by
  first
    | rfl
    | (obtain ⟨a, b, c, d, e⟩ := A; rfl)
    | (obtain ⟨a, b, c, d, e⟩ := A; cases d <;> rfl)
/-- a def's promise, where no repr runs around -/
structure FnG (P : Program) (w : World) (K : PySem.W.Frag) (mg : Str → Option Value) (base : Heap) (CX : CXT) (k : Nat) (f : Addr) (fd : FuncData) (ps : List Str) (sp : Sp) : Prop where
  len : ∀ vs H Q E, sp vs H Q E → vs.length = ps.length
  run : ∀ (A : Around) (outer : List Env) (s : Shared) (H : Hp) (args : Args) (us : List Value) (vs : List V) (Q : VK) (E : XK), Room k A → A.guards = some [] → Env0 P w K mg base A outer s H → BindsTo s fd args (ps.zip us) → Vals vs us → sp vs H Q E →
    codeAny (model P w) A (.call (.ref f) args) (CR CX outer P w H s Q E) s
section
variable {P : Program} {w : World} {K : PySem.W.Frag} {mg : Str → Option Value} {base : Heap}
theorem Fun.okG {x qual : Str} {st : Stmt} {f : Addr} {fd : FuncData} {N ps : List Str} {k : Nat} {sp : Sp} (F : Fun K x qual st f fd) (S : FnScope N ps (defScope st)) (len : ∀ vs H Q E, sp vs H Q E → vs.length = ps.length)
    (hbody : ∀ (cdv : Value) (A : Around) (outer : List Env) (s : Shared) (H : Hp) (vs : List V) (Q : VK) (E : XK), Room k (A.deeper (envOfC qual (defScope st) s.heap.objs.size f cdv)) → (A.deeper (envOfC qual (defScope st) s.heap.objs.size f cdv)).guards = some [] → sp vs H Q E →
      ∃ t, PSs (cxOf CX0 P w K mg base N qual (defScope st) f cdv A outer s H E).nox (defBody st) t ∧ t { nx := fun _ H' => Q .non H', rt := Q } (start N vs) H) : FnG P w K mg base CX0 (k + 1) f fd ps sp := by
  obtain ⟨oc, od, kV, doc, pm, an, cdv, ct, osl, rfl, lk, hcd⟩ := F.ex
  refine ⟨len, fun A outer s H args us vs Q E hr hG e0 hb r hsp => ?_⟩
  have hG2 : (A.deeper (envOfC qual (defScope st) s.heap.objs.size f cdv)).guards = some [] := guards_deeper.trans hG
  have hl := len _ _ _ _ hsp
  have KX : K.In s.heap := e0.mod.kin.keeps fun b o e => (e0.bs b o e).1
  have lim : s.heap.NoLimit := e0.mod.nolimit.keeps fun b o e => (e0.bs b o e).1
  have kinds : ∀ y ∈ ps.zip us, (defScope st).names.lookup y.1 = some .local ∨ ((defScope st).names.lookup y.1 = some .cell ∧ ((cellsFrom (s.heap.objs.size + 1) (defScope st).names []).lookup y.1).isSome = true) := by
    rintro ⟨n, v⟩ hy
    rcases S.par n (List.of_mem_zip hy).1 with q | q
    · exact .inl q
    · exact .inr ⟨q, PySem.W.cellsFrom_some _ _ _ (.inl q)⟩
  refine codeAny_call_function hr.depth (KX _ _ lk) rfl S.co S.gen rfl (PySem.W.codeRec_of KX hcd) (hb _ _ _ _ ?_)
  refine wpAny_newFunctionEnv_cells S.kind kinds fun env he s1 x => ?_
  subst he
  refine ⟨lim.keeps x.toInCall.keep, codeAny_func ?_⟩
  obtain ⟨t, ht, hq⟩ := hbody cdv A outer s H vs Q E (hr.deeper _) hG2 hsp
  have I : Inv (cxOf CX0 P w K mg base N qual (defScope st) f cdv A outer s H E) [] (start N vs) H s1 := inv_start S hr.hd e0 hl r x
  refine wpAny_mono (ht.nox.run [] s1 (start N vs) H _ I hq) (fun fl s' hs => ?_) fun _ _ z => z
  have done : ∀ {σ' : St} {H' : Hp} {v : V} {u : Value}, Inv (cxOf CX0 P w K mg base N qual (defScope st) f cdv A outer s H E) [] σ' H' s' → RelV v u → Q v H' → CE outer P w H s Q u s' :=
    fun {σ' H' v u} J rv q => ⟨v, H', J.os, J.bare, J.base, J.hok, rv, q⟩
  cases fl with
  | ret u =>
    obtain ⟨v, σ', H', J, rv, q⟩ := hs
    exact done J rv q
  | next =>
    obtain ⟨σ', H', J, q⟩ := hs
    exact done (v := V.non) (u := Value.none) J rfl q
  | brk => exact False.elim hs.choose_spec.choose_spec.2
  | cont => exact False.elim hs.choose_spec.choose_spec.2
end
section
variable {X : Cx} {CX : CXT} {k : Nat} {f : Addr} {fd : FuncData} {ps : List Str} {sp : Sp} {E : XK} {x : Str} {p pos : Pos} {e : Expr} {es : List Expr} {t : TA} {ds : List Value} {dvs : List V}
/-- f(e, ..), f a def of such a promise -/
theorem pe_callG (F : FnG X.prog X.w X.K X.mg X.base CX k f fd ps sp) (hr : Room k X.A) (hG : X.A.guards = some []) (hg : Gl X x) (hm : X.mg x = some (.ref f)) (hk : PySem.W.keepIn X.K (.ref f) = true) (hb : Binds X.K fd ps ds) (hd : Vals dvs ds) (hx : Passes CX X E)
    (ha : PA X (e :: es) t) (hdb : (x == ("__debug__" : Str)) = false := by decide) (he : starEach (e :: es) X.env = (false, eval e X.env) :: starEach es X.env := by rfl) (hpl : (backTo pos (starEach es X.env)).any (·.1) = false := by rfl) :
    PE X (.Call (.Name x p) (e :: es) [] pos) (tCall sp dvs E t) := by
  refine ⟨fun pins s σ H Q I h => ?_⟩
  refine wpAny_Call_Name_kw (ld_glob I hg hm ?_ hdb)
  refine PySem.W.callWith_K (h₀ := X.base) I.ok.mod.kin hk (thn (ha.run pos pins s σ H _ I h) fun us s1 ⟨vs, H1, I1, r, q⟩ => ⟨I1.kIn, ?_⟩) he hpl
  have r2 : Vals (vs ++ dvs) (us ++ ds) := r.append hd
  have hl : (us ++ ds).length = ps.length := by
    rw [← r2.length]
    exact F.len _ _ _ _ q
  refine wpAny_call (codeAny_mono (F.run X.A X.stack s1 H1 ⟨us, []⟩ (us ++ ds) (vs ++ dvs) Q E hr hG I1.env0 (hb s1 us I1.kIn hl) r2 q) fun r s' hq => ?_)
  cases r with
  | error er => exact hx pins σ H1 s1 er s' I1 hq
  | ok fl =>
    cases fl with
    | ret u => exact I1.after hq
    | next => exact False.elim hq
    | brk => exact False.elim hq
    | cont => exact False.elim hq
/-- repr(x), x a list or tuple of data -/
def rReprD (K : PySem.W.Frag) : List V → Hp → VK → Prop := fun xs H Q => ∃ (a : Addr) (d : PyData), xs = [.ref a] ∧ Dp K H (.ref a) d ∧ d.showable = true ∧ d.hasDict = false ∧ d.depth ≤ 60 ∧ d.shown.length ≤ sizeLine ∧ Q (.str d.shown) H
theorem call_reprD (hG : X.A.guards = some []) (hu : X.A.units + 64 < cLine) : CallR X (.builtin "repr") (rReprD X.K) := by
  intro pins s σ H xs us Q I r h
  obtain ⟨a, d, rfl, hd, hs, hnd, hdp, hz, q⟩ := h
  obtain ⟨u, rfl, ru⟩ := vals1 r
  obtain rfl : u = Value.ref a := ru
  obtain ⟨as, rd⟩ := Dp.reads I d _ _ hd (show RelV (.ref a) (.ref a) from rfl)
  refine repr_of_reads' rd hs (fun z => absurd z (by rw [hnd]; decide)) hG (by omega) (fun _ _ e => e) (fun h' u tk k => ?_) hz
  exact ⟨.str d.shown, H, I.kept (t' := tk) k, ⟨_, rfl⟩, q⟩
end
/-- the law's call, for such a promise of the law -/
theorem law_callG {P : Program} {w : World} {K : PySem.W.Frag} {mg mb : Str → Option Value} {CX : CXT} {k : Nat} {fa a : Addr} {fd : FuncData} {x : Str} {sp : Sp} {s1 : Shared} {vs : List Value} {ns : List Int}
    (KX : K.In s1.heap) (hns : s1.heap.Ns mainGlobals mg) (hb : s1.heap.Ns builtinsNs mb) (hbb : ∀ x : Str, x ≠ "__name__" → mb x = bootBuiltins x) (hlim : s1.heap.NoLimit) (hg : s1.gens = #[])
    (ha : s1.heap.get? a = some { cls := .type "list", data := .seq vs.toArray }) (hi : IntsAre vs ns) (hl : ns.length ≤ sizeLine) (hr : Room k callerA)
    (F : ∀ base : Heap, K.In base → base.Ns mainGlobals mg → FnG P w K mg base CX k fa fd [x] sp) (hbind : ∀ (s : Shared) (u : Value), BindsTo s fd ⟨[u], []⟩ [(x, u)])
    (hsp : ∀ H : Hp, Only H → SqL K H a (ns.map V.int) → sp [.ref a] H (fun v _ => v = .bl true) fun _ _ _ => False)
    (hCX : ∀ H e s', CX [] H s1 (fun _ _ _ => False) e s' → False) :
    codeAny (model P w) callerA (.call (.ref fa) ⟨[.ref a], []⟩) (fun r s' => r = .ok (.ret (.bool true)) ∧ OldK s1.heap s'.heap ∧ s'.os = s1.os ∧ AllBare s'.gens) s1 := by
  have rv := vals_ints hi
  have lenV := hi.length
  have core : ∀ H : Hp, Only H → SqL K H a (ns.map V.int) → HOk P w H s1.heap → (∀ b, H b ≠ none → b = a) → (H a ≠ none → K.lookup a = none) →
      codeAny (model P w) callerA (.call (.ref fa) ⟨[.ref a], []⟩) (fun r s' => r = .ok (.ret (.bool true)) ∧ OldK s1.heap s'.heap ∧ s'.os = s1.os ∧ AllBare s'.gens) s1 := by
    intro H hO hS hok hA hK
    have only : ∀ {b : Addr} {u : HO}, H b = some u → b = a := fun {b u} q => hA b (by rw [q]; exact Option.some_ne_none u)
    have free : ∀ {b : Addr} {o : Obj} {es : Array DictEntry} {ep : Nat}, s1.heap.get? b = some o → o.data = .dict es ep → H b = none := by
      intro b o es ep e d
      cases q : H b with
      | none => rfl
      | some u =>
        have e' := only q
        subst e'
        rw [ha] at e
        cases e
        cases (show Data.seq vs.toArray _ = Data.dict es ep from d)
    have nsK : ∀ {b : Addr} {m : Str → Option Value}, s1.heap.Ns b m → (hidT s1.heap H).Ns b m := fun {b m} ⟨o, es, ep, e, d, r⟩ => ⟨o, es, ep, hidT_get e (free e d), d, r⟩
    have hKb : K.In (hidT s1.heap H) := fun b o e => hidT_get (KX b o e) (by
      cases q : H b with
      | none => rfl
      | some u =>
        have e' := only q
        subst e'
        rw [hK (by rw [q]; exact Option.some_ne_none u)] at e
        cases e)
    have hM : Mod K mg (hidT s1.heap H) := ⟨hKb, nsK hns, ⟨mb, nsK hb, hbb⟩, let ⟨mc, h1, h2⟩ := hlim; ⟨mc, nsK h1, h2⟩⟩
    have none1 : ∀ b : Addr, b ∉ ([] : List Addr) := fun b z => nomatch z
    have e0 : Env0 P w K mg (hidT s1.heap H) callerA [] s1 H := ⟨rfl, hM, fun b o e => of_hidT e, Nat.le_of_eq (hidT_size _ _), trivial, fun b hb => absurd hb (none1 b), hok, .of_eq hg⟩
    refine codeAny_mono ((F _ hKb (nsK hns)).run callerA [] s1 H ⟨[.ref a], []⟩ [.ref a] [.ref a] _ _ hr rfl e0 (hbind s1 (.ref a)) (.cons rfl .nil) (hsp H hO hS)) fun r s' h => ?_
    cases r with
    | error e => exact (hCX H e s' h).elim
    | ok fl =>
      cases fl with
      | next => exact False.elim h
      | brk => exact False.elim h
      | cont => exact False.elim h
      | ret u =>
        obtain ⟨v, H', os, bare, un, hok', r', q⟩ := h
        obtain rfl : v = .bl true := q
        obtain rfl : u = Value.bool true := r'
        refine ⟨rfl, OldK.of_keep fun b o e => ?_, os, bare⟩
        cases q : H b with
        | none => exact un.keep b o e q (none1 b) (none1 b)
        | some u =>
          rcases hO b with z | ⟨ob, xs, z⟩
          · rw [q] at z
            cases z
          · obtain ⟨e1, _⟩ := hok b _ z
            obtain ⟨e2, _⟩ := hok' b _ (un.frzs b ob _ z)
            rw [e] at e1
            cases e1
            exact e2
  cases hk : K.lookup a with
  | some o =>
    have e := KX a o hk
    rw [ha] at e
    cases e
    refine core (fun _ => none) (fun _ => .inl rfl) (.inr ⟨_, vs.toArray, _, hk, rfl, rfl, rfl, by rw [List.size_toArray, lenV]; exact hl, by simpa using rv⟩) (fun b u z => by cases (show (none : Option HO) = some u from z)) (fun b z => absurd rfl z) fun z => absurd rfl z
  | none =>
    refine core (fun b => if b = a then some (.frz { cls := .type "list", data := .seq vs.toArray } (.lst (ns.map V.int))) else none) (fun b => ?_) (.inl (.inr ⟨{ cls := .type "list", data := .seq vs.toArray }, if_pos rfl⟩)) (fun b u z => ?_) (fun b z => ?_) fun _ => hk
    · by_cases hb : b = a
      · exact .inr ⟨_, _, if_pos hb⟩
      · exact .inl (if_neg hb)
    · by_cases hb : b = a
      · cases (if_pos hb).symm.trans z
        subst hb
        exact ⟨ha, by rw [List.length_map]; exact hl, vs, _, rv, ha⟩
      · cases (if_neg hb).symm.trans z
    · by_cases hb : b = a
      · exact hb
      · exact absurd (if_neg hb) z
theorem walk_ofG {l : PySem.W.OpenLaw} {n k : Nat} {q : Program} {loose : List Str} {XP : (Str → Option Value) → Heap → Prop} {YP : World → Heap → Prop} {d : DefRec} {K : Params → PySem.W.Frag} {sp : PySem.W.Frag → Sp} {x : Str}
    (hn : l.most = some n) (hn2 : n ≤ sizeLine) (hdf : d.params.defaults = []) (hr : Room k callerA)
    (hY : ∀ (w : World) (h : Heap), YP w h → (K w.params).In h)
    (F : ∀ (w : World) (mg : Str → Option Value) (fa : Addr) (h : Heap), (K w.params).In h → h.Ns mainGlobals mg → mg d.name = some (.ref fa) →
      ∃ fd : FuncData, (∀ (s : Shared) (u : Value), BindsTo s fd ⟨[u], []⟩ [(x, u)]) ∧ ∀ base : Heap, (K w.params).In base → base.Ns mainGlobals mg → FnG l.prog w (K w.params) mg base CX0 k fa fd [x] (sp (K w.params)))
    (hsp : ∀ (K : PySem.W.Frag) (H : Hp) (a : Addr) (ns : List Int), ns.length ≤ n → Only H → SqL K H a (ns.map V.int) → sp K [.ref a] H (fun v _ => v = .bl true) fun _ _ _ => False) :
    PySem.W.WalkO q loose XP YP l.row.toRowW d [] (fun f vs => PySem.call f vs) := by
  refine Att.attach_call hn hdf fun w s₀ s1 mg mb fa o pm cd doc a vs ns G Y ho hd hcd hmg hobj hints hlen hg => ?_
  have KX := hY w _ Y
  obtain ⟨fd, hb, hF⟩ := F w mg fa _ KX G.T.g hmg
  exact law_callG KX G.T.g G.T.b G.T.builtins G.T.nolimit hg hobj hints (Nat.le_trans hlen hn2) hr hF hb (fun H hO hS => hsp (K w.params) H a ns hlen hO hS) fun H e s' z => z
end L2
end
section
set_option Elab.async false
set_option linter.all false
set_option maxRecDepth 100000
set_option maxHeartbeats 4000000
/-! D26: ring_of -/
namespace D1
open PySem L2 Evl RZ ClX PySem.VX
/-- the first rule that some table breaks, from the left -/
def FbL : List (Tb × Tb) → Option (Nat × List Int) → Prop
  | [], o => o = none
  | (S, M) :: r, o => (∃ x, Fb S.length S M (some x) ∧ o = some x) ∨ (Fb S.length S M none ∧ FbL r o)
def RingM (CR CT CU CP : Addr) (H : Hp) (r made : V) (m : D1.Mk) : Prop := ∃ (a dx : Addr) (k : V), r = .ref a ∧ H a = some (.ins CR dx [("_made", made), ("_kind", k)]) ∧ KindAt CT CU CP H k m
def spRingOf (CR CT CU CP cR cB : Addr) : Sp := fun vs H Q E => ∃ (v : V) (m : D1.Mk), vs = [v] ∧ MkAt H v m ∧ m.depth < 4 ∧ m.small ∧
  (formB m 3 = false → ∀ H' d, Ex H H' → H' d = none → E (.ref cR) (some d) (upd H' d (.xd [("what", .str "form")]))) ∧
  (formB m 3 = true → m.good ∧ (∀ i row, FbL m.tabs (some (i, row)) → ∀ H' d r, Ex H H' → H' d = none → H' r = some (.tup (row.map V.int)) → E (.ref cB) (some d) (upd H' d (.xd [("things", .ref r), ("rule", .str (rname i))]))) ∧
    (FbL m.tabs none → ∀ r H', Ex H H' → RingM CR CT CU CP H' r v m → Q r H'))
theorem good_tabs : ∀ {m : D1.Mk}, m.good → ∀ t ∈ m.tabs, 2 ≤ t.1.length ∧ t.1.length ≤ 6 ∧ Sq t.1.length t.1 ∧ Sq t.1.length t.2
  | .tab S M, ⟨n, h2, h6, s, s'⟩, t, ht => by
    obtain rfl : t = (S, M) := by simpa [Mk.tabs] using ht
    have := s.len
    subst this
    exact ⟨h2, h6, s, s'⟩
  | .truth, _, t, ht => by simp [Mk.tabs] at ht
  | .rest _, h, _, _ => h.elim
  | .pair a b, h, t, ht => by
    rcases List.mem_append.mp (show t ∈ a.tabs ++ b.tabs from ht) with x | x
    · exact good_tabs h.1 t x
    · exact good_tabs h.2 t x
theorem FbL_at : ∀ {ts : List (Tb × Tb)} {i : Nat} {x : Nat × List Int} {t : Tb × Tb}, ts[i]? = some t → (∀ k t', k < i → ts[k]? = some t' → Fb t'.1.length t'.1 t'.2 none) → Fb t.1.length t.1 t.2 (some x) → FbL ts (some x)
  | [], _, _, _, h, _, _ => by simp at h
  | (S, M) :: r, 0, x, t, h, _, hf => by
    simp at h
    subst h
    exact .inl ⟨x, hf, rfl⟩
  | (S, M) :: r, i + 1, x, t, h, hb, hf => .inr ⟨hb 0 (S, M) (by omega) rfl, FbL_at (i := i) (by simpa using h) (fun k t' hk ht => hb (k + 1) t' (by omega) (by simpa using ht)) hf⟩
theorem FbL_none : ∀ {ts : List (Tb × Tb)}, (∀ (k : Nat) t', ts[k]? = some t' → Fb t'.1.length t'.1 t'.2 none) → FbL ts none
  | [], _ => rfl
  | (S, M) :: r, h => .inr ⟨h 0 (S, M) rfl, FbL_none fun k t' ht => h (k + 1) t' (by simpa using ht)⟩
section
variable {P : Program} {w : World} {K : PySem.W.Frag} {mg : Str → Option Value} {base : Heap} {cR cB : Addr}
abbrev s_ring_of : Stmt := top 67
theorem sc_ring_of : FnScope ["made", "sums", "products", "broken"] ["made"] (defScope s_ring_of) := ⟨rfl, rfl, rfl, by decide +kernel, rfl, by decide +kernel, by decide +kernel⟩
theorem ok_ring_of {f : Addr} {fd : FuncData} (F : FnP K "ring_of" s_ring_of f fd) {CT CU CP CR : Addr} (okR : OkC K CR) {f__has_form : Addr} {fd__has_form : FuncData} (F__has_form : FnP K "_has_form" s__has_form f__has_form fd__has_form) (g__has_form : mg "_has_form" = some (.ref f__has_form)) (G__has_form : FnOk P w K mg base CX0 9 f__has_form fd__has_form ["made", "deep"] (spForm 4)) {f__tables : Addr} {fd__tables : FuncData} (F__tables : FnP K "_tables" s__tables f__tables fd__tables) (g__tables : mg "_tables" = some (.ref f__tables)) (G__tables : FnOk P w K mg base CX0 4 f__tables fd__tables ["made"] (spTables 4)) {f_first_broken : Addr} {fd_first_broken : FuncData} (F_first_broken : FnP K "first_broken" s_first_broken f_first_broken fd_first_broken) (g_first_broken : mg "first_broken" = some (.ref f_first_broken)) (G_first_broken : FnOk P w K mg base CX0 3 f_first_broken fd_first_broken ["sums", "products"] (spFirst)) {f_Ring_init : Addr} {fd_Ring_init : FuncData} (F_Ring_init : FnM K "Ring" "__init__" s_Ring_init f_Ring_init fd_Ring_init) (G_Ring_init : FnOk P w K mg base CX0 11 f_Ring_init fd_Ring_init ["self", "made"] (spRingI CR CT CU CP 4)) (M_R : L2.Mk K CR f_Ring_init) (g_R : mg "Ring" = some (.ref CR)) (O_BadRing : OwnX P w K mg "BadRing" cR [("what" : Str)]) (O_BadTable : OwnX P w K mg "BadTable" cB [("rule" : Str), ("things" : Str)]) {tP : Tok} (g_PAIRS : mg "_PAIRS" = some (.int 3 tP)) :
    FnOk P w K mg base (L2.CX P w) 13 f fd ["made"] (spRingOf CR CT CU CP cR cB) := by
  have b__has_form : Binds K fd__has_form ["made", "deep"] [] := F__has_form.bindsN fun _ _ _ _ _ _ us hl => match us, hl with | [_, _], _ => rfl
  have b__tables : Binds K fd__tables ["made"] [] := F__tables.bindsN fun _ _ _ _ _ _ us hl => match us, hl with | [_], _ => rfl
  have b_first_broken : Binds K fd_first_broken ["sums", "products"] [] := F_first_broken.bindsN fun _ _ _ _ _ _ us hl => match us, hl with | [_, _], _ => rfl
  have b_Ring_init : Binds K fd_Ring_init ["self", "made"] [] := F_Ring_init.bindsN fun _ _ _ _ _ _ us hl => match us, hl with | [_, _], _ => rfl
  refine F.ok (CX := L2.CX P w) sc_ring_of (fun vs H Q E h => ?_) (fun cdv A outer s H vs Q E hr h => ?_)
  · obtain ⟨v, m, rfl, _⟩ := h
    rfl
  · obtain ⟨v, m, rfl, hM, hdep, hsm, qF, qT⟩ := h
    have hu := hu_of hr
    have hr__has_form := hr.mono (by decide : 9 ≤ 12)
    have hr__tables := hr.mono (by decide : 4 ≤ 12)
    have hr_first_broken := hr.mono (by decide : 3 ≤ 12)
    have hr_Ring_init := hr.mono (by decide : 11 + 1 ≤ 12)
    refine ⟨_, (pss_cons (ps_if (pt_not (pt_val (pe_call G__has_form hr__has_form rfl g__has_form F__has_form.kp b__has_form .nil pass0 (pa_cons (pv 0) (pa_cons (pe_glob (v := .int 3) rfl g_PAIRS ⟨_, rfl⟩) pa_nil))))) (pss_one (ps_raise (W := fun cls d _ H => E cls d H) rfl (takes_of rfl rfl rfl rfl) (pmk_own1 O_BadRing hr (pa_cons pe_str pa_nil) (by rfl)))) pss_nil)
      (pss_cons (ps_for (passes_of rfl) rfl (pi_list (pe_call G__tables hr__tables rfl g__tables F__tables.kp b__tables .nil pass0 (pa_cons (pv 0) pa_nil))) (pg_tup rfl (pgs_cons (pg_name (i := 1) sc_ring_of.nd rfl (Or.inl rfl)) (pgs_cons (pg_name (i := 2) sc_ring_of.nd rfl (Or.inl rfl)) pgs_nil))) (pss_cons (ps_set (i := 3) sc_ring_of.nd rfl (Or.inl rfl) (pe_call G_first_broken hr_first_broken rfl g_first_broken F_first_broken.kp b_first_broken .nil pass0 (pa_cons (pv 1) (pa_cons (pv 2) pa_nil))))
      (pss_one (ps_if (pt_cmpR op_notN (pv 3) pe_non (nomark _)) (pss_one (ps_raise (W := fun cls d _ H => E cls d H) rfl (takes_of rfl rfl rfl rfl) (pmk_own1 O_BadTable hr (pa_cons (pe_ix ix_tup (pv 3) pe_int (fun _ _ => rfl)) (pa_cons (pe_ix ix_tup (pv 3) pe_int (fun _ _ => rfl)) pa_nil)) (by rfl)))) pss_nil))))
      (pss_one (ps_ret (pe_make M_R G_Ring_init hr_Ring_init rfl g_R b_Ring_init .nil pass0 (pa_cons (pv 0) pa_nil)))))), ?_⟩
    refine q_when (b := !formB m 3) (et_not (et_B (ev_call (z := .bl (formB m 3)) (ea_cons (ev_var rfl) (ea_cons ev_c ea_nil)) fun H1 e1 Q' k' E' => ⟨v, m, 3, rfl, hM.ex e1, hdep, hsm, fun H2 e2 => k' H2 e2⟩))) (fun hb H1 e1 => ⟨rfl, fun d hd => qF (by simpa using hb) H1 d e1 hd⟩) (fun hb H1 e1 => ?_)
    obtain ⟨hg, qB, qR⟩ := qT (by simpa using hb)
    have hgt := good_tabs hg
    refine ⟨_, rfl, v, m, rfl, hM.ex e1, hdep, fun D rs H2 e2 hD hL hP => ⟨D, rfl, ⟨_, SqL.of hL⟩, ?_⟩⟩
    have e12 := e1.trans e2
    refine for_it (walk_list (K := K) (a := D) (xs := rs.map V.ref)) (fun i σ' G => ∃ x1 x2 x3, σ' = [some v, x1, x2, x3] ∧ Ex H2 G ∧ ∀ (k : Nat) t', k < i → m.tabs[k]? = some t' → Fb t'.1.length t'.1 t'.2 none) ⟨none, none, none, rfl, Ex.refl H2, fun k t' h => by omega⟩ (fun i σ' G _ h => ?_) ?_ ?_
    · obtain ⟨_, _, _, _, h, _⟩ := h
      exact ex_l h (SqL.of hL)
    · rintro i x σ' _ G hi ⟨x1, x2, x3, rfl, eG, hall⟩ ⟨rfl, hx⟩
      have hx2 : (rs.map V.ref)[i]? = some x := hx
      rw [List.getElem?_map] at hx2
      obtain ⟨r, hr1, rfl⟩ := Option.map_eq_some_iff.mp hx2
      have hit : i < m.tabs.length := by
        have := (List.getElem?_eq_some_iff.mp hr1).1
        have := hP.1
        omega
      have ht := List.getElem?_eq_getElem hit
      obtain ⟨p, q', hr2, hp, hq⟩ := hP.2 i r _ hr1 ht
      obtain ⟨t2, t6, ts, tm⟩ := hgt _ (List.getElem_mem hit)
      generalize m.tabs[i] = t at ht hp hq t2 t6 ts tm
      refine ⟨r, _, rfl, .inl (.inl (eG _ _ hr2)), rfl, _, _, rfl, _, _, rfl, rfl, ?_⟩
      refine ⟨_, rfl, _, rfl, p, q', t.1.length, t.1, t.2, rfl, ⟨t2, hp.ex eG, hq.ex eG, ts, tm⟩, t6, fun b o G2 e3 hfb hfa => ?_⟩
      cases o with
      | none =>
        obtain rfl : b = .non := hfa
        refine ⟨_, rfl, rfl, _, rfl, no_of (by first | rfl | simp) ?_⟩
        refine ⟨_, _, _, rfl, eG.trans e3, fun k t' hk hkt => ?_⟩
        by_cases hki : k < i
        · exact hall k t' hki hkt
        · obtain rfl : k = i := by omega
          rw [ht] at hkt
          cases hkt
          exact hfb
      | some z =>
        obtain ⟨j, row⟩ := z
        obtain ⟨Db, rb, rfl, hDb, hrb⟩ := hfa
        refine ⟨_, rfl, rfl, _, rfl, yes_of (by first | rfl | simp) ?_⟩
        refine ⟨_, rfl, Db, _, _, _, rfl, rfl, .inl (.inl hDb), rfl, _, rfl, Db, _, _, _, rfl, rfl, .inl (.inl hDb), rfl, rfl, fun d hd => ?_⟩
        exact qB j row (FbL_at ht (fun k t' hk hkt => hall k t' hk hkt) hfb) G2 d rb ((e12.trans eG).trans e3) hd hrb
    · rintro σ' G ⟨x1, x2, x3, rfl, eG, hall⟩
      have hlen : (rs.map V.ref).length = m.tabs.length := by rw [List.length_map, hP.1]
      have hn : FbL m.tabs none := FbL_none fun k t' hk => hall k t' (by rw [hlen]; exact (List.getElem?_eq_some_iff.mp hk).1) hk
      refine ⟨_, rfl, ?_⟩
      intro x dx nx ndx nex
      have eN := new_ex (C := CR) nx ndx
      exact ⟨x, dx, v, m, rfl, upd_same, hM.ex ((e12.trans eG).trans eN), hdep, hg, fun k H' o1 h1 hk => ⟨rfl, qR hn (.ref x) H' ((e12.trans eG).trans (made_ex nx ndx o1)) ⟨x, dx, k, rfl, h1, hk⟩⟩⟩
end
end D1
end
section
set_option Elab.async false
set_option linter.all false
set_option maxRecDepth 100000
set_option maxHeartbeats 4000000
/-! X8: try with several clauses .. as n, the exceptions let go behind each suite -/
namespace L2
open PySem PySem.Spec PyProof.Rows PySem.VX
/-- the clauses' wishes, one behind the other; n's slot is i -/
def wManyN (K : PySem.W.Frag) (i : Nat) (Wout : WX) (D : Ends) : List (Value × (Addr → Value → Option Addr → TS)) → WX
  | [] => Wout
  | (c, ts) :: r => fun cls d σ H => ∃ b, PySem.W.exmOne K cls c = some b ∧
      (b = true → ∃ C d', cls = .ref C ∧ d = some d' ∧ ∀ a, H a = none → ts a cls d { nx := fun σ' H' => D.nx (σ'.set i none) H', rt := fun v H' => D.rt v H', bk := fun σ' H' => D.bk (σ'.set i none) H', ct := fun σ' H' => D.ct (σ'.set i none) H' } (σ.set i (some (.ref a))) H) ∧
      (b = false → wManyN K i Wout D r cls d σ H)
inductive HdsN (X : Cx) (n : Str) : List ExceptHandler → List (Value × (Addr → Value → Option Addr → TS)) → Prop
  | nil : HdsN X n [] []
  | cons {x : Str} {c : Value} {ts : Addr → Value → Option Addr → TS} {b₀ : Stmt} {suite : List Stmt} {np pos' : Pos} {hds : List ExceptHandler} {l : List (Value × (Addr → Value → Option Addr → TS))} (hc : Names X x c)
      (hsu : ∀ (a : Addr) (oe : Obj) (cls : Value) (d : Option Addr) (pn : List (Addr × Obj)), Zc cls d oe → (∃ vs, oe.data = .fields vs) → PSs (X.suite a ((a, oe) :: pn)) (b₀ :: suite) (ts a cls d)) (r : HdsN X n hds l) :
      HdsN X n (.ExceptHandler (some (.Name x np)) (some n) (b₀ :: suite) pos' :: hds) ((c, ts) :: l)
section
variable {X : Cx} {n : Str} {i : Nat} {body : List Stmt} {h₀ : ExceptHandler} {hds : List ExceptHandler} {l : List (Value × (Addr → Value → Option Addr → TS))} {pos : Pos} {tb : WX → TS} {Wout : WX}
theorem ps_try_manyN (hs : X.stack = X.env :: X.outer) (hf : X.env.frame = some X.env.locals) (hex : X.ex = []) (hN : X.N.Nodup) (hi : X.N[i]? = some n) (hln : X.env.kindOf n = some .local) (tk : Takes X Wout)
    (hb : ∀ (W : WX) (pn : List (Addr × Obj)) (xe : Value → Shared → Prop), Takes (X.tr pn xe) W → PassesOwn (model X.prog X.w) X.A X.env xe → PSs (X.tr pn xe) body (tb W))
    (hh : HdsN X n (h₀ :: hds) l) : PS X (.Try body (h₀ :: hds) [] [] pos) (fun D σ H => tb (wManyN X.K i Wout D l) D σ H) := by
  refine ⟨fun pins s σ H D I h => ?_⟩
  have ok := I.ok
  have frm : X.A.frames = some (X.env :: X.outer) := ok.frames.trans (congrArg some hs)
  have hloc : Loc X.env.scope n := .inl hln
  refine wpAny_Try_except ?_
  refine wpAny_mono ((hb (wManyN X.K i Wout D l) (X.pn ++ pins) (fun e s₁ => wpAny (model X.prog X.w) X.A (noteFrame e X.env) (fun _ s₂ => wpAny (model X.prog X.w) X.A (setFlight e none) (fun _ s₃ =>
    wpAny (model X.prog X.w) X.A (handleBy e X.env (h₀ :: hds)) (SP X pins D) X.xe s₃) X.xe s₂) X.xe s₁) (fun u s' xx => ?_) PassesOwn.looking).run [] s σ H D (I.toTry _) h) (fun f s1 hsp => ?_) (fun _ _ he => he)
  · obtain ⟨a, B, sI, pins', σ', H', cls, d, rfl, J', nb, up, sky, na, os, ag, w⟩ := xx
    have J : Inv X pins σ' H' sI := J'.ofTry ok
    have sky' : Sky B (X.env :: X.outer) a (Zc cls d) X.env.locals s'.heap := by rw [← hs]; exact sky
    show wpAny (model X.prog X.w) X.A (noteFrame (.ref a) X.env) _ _ _
    refine Sky.land Zc.steady frm hf sky' fun h3 fl3 up3 => ?_
    have J3 : Inv X pins σ' H' { s' with heap := h3 } := J.landed nb fl3.1 (up.trans up3) os ag
    obtain ⟨oe3, vs3, he3, hz3, hd3⟩ := fl3.there
    have noFrame : a ∉ frs (X.env :: X.outer) := fun hm => by
      obtain ⟨_, o', e', hnf⟩ := fl3.2.2.1.mem hm
      rw [he3] at e'
      cases e'
      exact hnf _ hd3
    have noStack : a ∉ frs X.stack := by rw [hs]; exact noFrame
    have nL : a ≠ X.env.locals := fun z => noFrame (List.mem_filterMap.mpr ⟨X.env, List.mem_cons_self, by rw [hf, z]⟩)
    have nF : a ∉ X.fs := fun hm => by
      obtain ⟨e, he, q⟩ := List.mem_filterMap.mp hm
      exact noFrame (List.mem_filterMap.mpr ⟨e, List.mem_cons_of_mem _ he, q⟩)
    -- it wasn't there ahead
    have nB : B.get? a = none := fl3.2.1
    have nI : sI.heap.get? a = none := by
      cases e : sI.heap.get? a with
      | none => rfl
      | some o =>
        have z := nb a o e noStack
        rw [nB] at z
        cases z
    have n0 : X.s_0.heap.get? a = none := by
      cases e : X.s_0.heap.get? a with
      | none => rfl
      | some o =>
        obtain ⟨o', z⟩ := J.base.there a o e (by rw [hex]; exact fun z => nomatch z)
        rw [nI] at z
        cases z
    have np : ∀ p ∈ X.pn ++ pins, p.1 ≠ a := fun p hp z => by
      have q := (J.pin p hp).1
      rw [z, nI] at q
      cases q
    have S3 := J3.suite he3 hd3 na nL nF
    have go : ∀ {hds' : List ExceptHandler} {l' : List (Value × (Addr → Value → Option Addr → TS))}, HdsN X n hds' l' → wManyN X.K i Wout D l' cls d σ' H' →
        wpAny (model X.prog X.w) X.A (handleBy (.ref a) X.env hds') (SP X pins D) X.xe { s' with heap := h3 } := by
      intro hds' l' hk
      induction hk with
      | nil =>
        intro w
        refine wpAny_handleBy_nil ?_
        obtain ⟨k1, k2, k3, oe, vs, T, oT, ts', he, hz, hd, h1, hr⟩ := id fl3
        unfold PySem.passOn
        refine wpAny_bind (wpAny_field he hd h1 ?_)
        rw [if_neg (show ¬ ((Value.ref T == Value.none) = true) from by simp)]
        have away : wpAny (model X.prog X.w) X.A (setFlight (.ref a) X.env.frame) (fun _ s4 => wpAny (model X.prog X.w) X.A (throw (.ref a) : Sem Flow) (SP X pins D) X.xe s4) X.xe { s' with heap := h3 } := by
          rw [hf]
          refine HandSPX.setFlight_upZ fl3 fun h4 hh4 up4 => wpAny_throw (tk _ _ ?_)
          exact ⟨a, B, sI, pins, σ', H', cls, d, rfl, J, nb, (up.trans up3).trans up4, .inr (.inr (by rw [hs]; exact hh4)), na, os, ag, w⟩
        first
          | exact wpAny_bind (wpAny_pure (wpAny_bind away))
          | exact wpAny_bind away
      | @cons x c ts b₀ suite np' pos' hds2 l2 hc hsu r ih =>
        intro w
        obtain ⟨b, hb1, hyes, hno⟩ := w
        refine wpAny_handleBy_cons (codeAny_handlers_test ?_) (by intro q; cases q)
        have LT : PySem.W.Looks (model X.prog X.w) h3 (typeOf (.ref a)) cls := fun A Q E s k q => wpAny_typeOf_ref (k _ _ he3) (by rw [hz3.1]; exact q)
        have LM := PySem.W.exm_one (M := model X.prog X.w) (J3.kIn) LT hb1
        have test : ∀ {Q : Value → Shared → Prop} {E : Value → Shared → Prop}, Q c { s' with heap := h3 } → wpAny (model X.prog X.w) (X.A.mark (some (.ref a))) (eval (.Name x np') X.env) Q E { s' with heap := h3 } := fun {Q E} q => by
          obtain ⟨hg, hdbg, hm | ⟨hm, hv, hnn⟩⟩ := hc
          · exact ld_glob (X := X.suite a ((a, oe3) :: (X.pn ++ pins))) S3 hg hm q hdbg
          · exact ld_blt (X := X.suite a ((a, oe3) :: (X.pn ++ pins))) S3 hg hm hv q hnn hdbg
        refine test (LM.here ?_)
        cases b with
        | true =>
          obtain ⟨C, d', rfl, rfl, hyes'⟩ := hyes rfl
          refine codeAny_handlers_suite_as ?_
          refine HandSPX.lands_againZ fl3 fun h4 fl4 up4 => ?_
          have J4 : Inv X pins σ' H' { s' with heap := h4 } := J.landed nb fl4.1 ((up.trans up3).trans up4) os ag
          obtain ⟨oe4, vs4, he4, hz4, hd4⟩ := fl4.there
          have S4 := J4.suite he4 hd4 na nL nF
          refine store_ok (X := X.suite a ((a, oe4) :: (X.pn ++ pins))) (v := .ref a) S4 hN hi hloc rfl (fun s5 S5 => ?_) (.inr hln)
          refine wpAny_mono ((hsu a oe4 (.ref C) (some d') (X.pn ++ pins) hz4 ⟨_, hd4⟩).run [] s5 _ H' _ S5 (hyes' a na)) (fun f s6 hsp => ?_) (fun _ _ z => False.elim z)
          have plain : ∀ {τ : St} {G : Hp} {Q : Shared → Prop}, Inv (X.suite a ((a, oe4) :: (X.pn ++ pins))) [] τ G s6 → (∀ s7, Inv X pins (τ.set i none) G s7 → Q s7) →
              wpAny (model X.prog X.w) X.A (do bindName X.env n .none; unbindBehindTheSuite X.env n pos') (fun _ s7 => Q s7) X.xe s6 := fun {τ G Q} S6 hq => gone_ok (S6.unsuite ok) hN hi hln hq
          cases f with
          | next =>
            obtain ⟨τ, G, S6, q6⟩ := hsp
            exact plain S6 fun s7 J7 => ⟨_, _, J7, q6⟩
          | brk =>
            obtain ⟨τ, G, S6, q6⟩ := hsp
            exact plain S6 fun s7 J7 => ⟨_, _, J7, q6⟩
          | cont =>
            obtain ⟨τ, G, S6, q6⟩ := hsp
            exact plain S6 fun s7 J7 => ⟨_, _, J7, q6⟩
          | ret u =>
            obtain ⟨v6, τ, G, S6, r6, q6⟩ := hsp
            exact plain S6 fun s7 J7 => ⟨_, _, _, J7, r6, q6⟩
        | false =>
          show wpAny _ X.A (handleBy (.ref a) X.env hds2) _ _ _
          exact ih (hno rfl)
    exact go hh w
  · cases f with
    | next =>
      obtain ⟨τ, G, J', q⟩ := hsp
      exact wpAny_execs_nil ⟨τ, G, J'.ofTry ok, q⟩
    | brk =>
      obtain ⟨τ, G, J', q⟩ := hsp
      exact ⟨τ, G, J'.ofTry ok, q⟩
    | cont =>
      obtain ⟨τ, G, J', q⟩ := hsp
      exact ⟨τ, G, J'.ofTry ok, q⟩
    | ret u =>
      obtain ⟨v, τ, G, J', r, q⟩ := hsp
      exact ⟨v, τ, G, J'.ofTry ok, r, q⟩
end
end L2
end
section
set_option Elab.async false
set_option linter.all false
set_option maxRecDepth 100000
set_option maxHeartbeats 4000000
/-! Q1: == and != of instances by an own __eq__, whatever it answers -/
namespace L2
open PySem PySem.Spec PyProof.Rows PySem.VX Builtin
/-- x == y, x an instance of the class at C -/
def rEqO (K : PySem.W.Frag) (C : Addr) (sp : Sp) (E : XK) : R2 := fun x y H Q => ∃ a dx fs t, x = .ref a ∧ H a = some (.ins C dx fs) ∧ TyX K H y t ∧ PySem.W.notFirst K C t = true ∧ sp [x, y] H Q E
/-- x != y, where the class has no __ne__ -/
def rNeO (K : PySem.W.Frag) (C : Addr) (sp : Sp) (E : XK) : R2 := fun x y H Q => ∃ a dx fs t, x = .ref a ∧ H a = some (.ins C dx fs) ∧ TyX K H y t ∧ PySem.W.notFirst K C t = true ∧ sp [x, y] H (fun z H' => ∃ b, z = .bl b ∧ Q (.bl (!b)) H') E
section
variable {X : Cx} {CX : CXT} {n : Nat} {C f : Addr} {fd : FuncData} {ps : List Str} {sp : Sp} {E : XK}
theorem run_eq {A : Around} {pins : List (Addr × Obj)} {σ : L2.St} {H : Hp} {s : Shared} {Q : VK} {x y : V} {v u : Value} (F : FnOk X.prog X.w X.K X.mg X.base CX n f fd ps sp) (hb : Binds X.K fd ps []) (hx : Passes CX X E) (hr : Room n A) (fr : A.frames = X.A.frames)
    (I : Inv X pins σ H s) (rx : RelV x v) (ry : RelV y u) (h : sp [x, y] H Q E) : wpAny (model X.prog X.w) A (call (.ref f) [v, u]) (EP X pins σ Q) X.xe s := by
  have e0 : Env0 X.prog X.w X.K X.mg X.base A X.stack s H := by
    have e := I.env0
    exact ⟨by rw [fr]; exact e.frames, e.mod, e.bs, e.bsz, e.funs, e.frf, e.hok, e.bare⟩
  have hl := F.len _ _ _ _ h
  refine wpAny_call (codeAny_mono (F.run A X.stack s H ⟨[v, u], []⟩ [v, u] [x, y] Q E hr e0 (by
    have := hb s [v, u] I.kIn (by simpa using hl)
    simpa using this) (.cons rx (.cons ry .nil)) h) fun r s' hq => ?_)
  cases r with
  | error e => exact hx pins σ H s e s' I hq
  | ok fl =>
    cases fl with
    | ret w => exact I.after hq
    | next => exact False.elim hq
    | brk => exact False.elim hq
    | cont => exact False.elim hq
theorem op_eqO (F : FnOk X.prog X.w X.K X.mg X.base CX n f fd ps sp) (hs : PySem.W.findIn X.K (.ref C) "__eq__" = some (some (.ref f))) (hf : PySem.W.isFn X.K (.ref f) = true) (hb : Binds X.K fd ps []) (hx : Passes CX X E) (hr : Room n X.A) : OpR X (compareOp .Eq) (rEqO X.K C sp E) := by
  intro pins s σ H x y v u Q I rx ry h
  obtain ⟨a, dx, fs, t, rfl, ha, ty, hn, q⟩ := h
  cases (show v = Value.ref a from rx)
  obtain ⟨mA, J, _⟩ := ins_get I.hok ha
  obtain ⟨od, J, _⟩ := J.look
  obtain ⟨P, Z, p, _⟩ := kit_of I ry ty
  obtain ⟨m, hF⟩ := I.fr
  show wpAny (model X.prog X.w) X.A (richCompare .Eq (.ref a) u) (EP X pins σ Q) X.xe s
  refine PySem.W.cmp_K (op := .Eq) (tb := t) hr.units0 hF I.ok.mod.kin J (Z.ty _ _ I.kIn p) hn hs hf ?_
  refine wpAny_mono (run_eq F hb hx hr rfl I rx ry q) (fun w s' z => ?_) fun _ _ x => x
  obtain ⟨z', H', I', rz, qz⟩ := z
  exact SlX.cmpback rz ⟨z', H', I', rz, qz⟩
end
section
variable {prog : Program} {w : World} {A A₀ : Around} {E : Value → Shared → Prop} {s : Shared} {K : PySem.W.Frag} {x C L f : Addr} {h₀ : Heap} {m : Str → Option Value} {ox : Obj} {od : Option Obj} {name : Str} {b tb : Value}
theorem bind_ne (self : Value) : bindSpecial (.builtin "object.__ne__") self = pure (.builtin "object.__ne__", [self]) :=
  (Slot.of (T := "object") (name := "__ne__") (owner := "object") (n := "__ne__") (by rw [typeLookup_type, builtinLookup_eq_fast]; kernel_rfl) (by decide +kernel) (by decide +kernel) (by decide +kernel)
    (.inl (by decide +kernel)) (by rw [isSubtype_type]; kernel_rfl)).bind self
theorem ifBoundNe {M : Model} {args : List Value} {Q : Option Value → Shared → Prop} (X : K.In s.heap) (I : PySem.W.InstAt s.heap x ox C od) (hs : PySem.W.findIn K (.ref C) name = some (some (.builtin "object.__ne__")))
    (h : wpAny M A (call (.builtin "object.__ne__") (.ref x :: args)) (fun v => Q (some v)) E s) : wpAny M A (callSpecialIfBound? (.ref x) name args) Q E s := by
  simp only [callSpecialIfBound?, bindSpecialIfBound?]
  refine wpAny_holding (wpAny_bind (wpAny_bind (wpAny_bind (I.type.here ((PySem.W.looks_findIn X hs).here ?_)))))
  simp only [bind_ne]
  refine wpAny_bind (wpAny_askSetting (wpAny_ite ?_))
  have fin : wpAny M A (call (.builtin "object.__ne__") ([.ref x] ++ args) >>= fun v => pure (some v)) Q E s := wpAny_bind (wpAny_mono h (fun v s' h' => wpAny_pure h') fun _ _ h' => h')
  split
  · exact wpAny_bind (wpAny_pure (wpAny_pure fin))
  · exact wpAny_tryCatch (wpAny_bind (wpAny_pure (wpAny_pure fin)))
theorem ne_entry (X : K.In s.heap) (I : PySem.W.InstAt s.heap x ox C od) (hs : PySem.W.findIn K (.ref C) "__eq__" = some (some (.ref f))) (hf : PySem.W.isFn K (.ref f) = true) (hu : A.units < cLine) {Q : Fin → Shared → Prop}
    (hcall : wpAny (model prog w) A (call (.ref f) [.ref x, b]) (fun v s' => ∃ c, v = .bool c ∧ Q (.done (.ret (.bool (!c)))) s') E s) :
    wpAny (model prog w) A (Builtin.«object.__ne__» ⟨[.ref x, b], []⟩) Q E s := by
  unfold Builtin.«object.__ne__»
  repeat (first
    | with_reducible refine wpAny_cRoomFor hu ?_
    | (refine wpAny_bind (m := callSpecialIfBound? (.ref x) (Str.ofString "__eq__") [b])
        (PySem.W.ifBound_K X I hs hf (wpAny_mono hcall (fun r s' hr => by
          obtain ⟨c, rfl, hq⟩ := hr
          repeat (first | exact hq | exact wpAny_pure hq | exact wpAny_truthy_bool hq | (refine wpAny_bind (m := truthy (.bool _)) (wpAny_truthy_bool ?_)) | wp_step)) fun _ _ e => e)))
    | wp_step)
theorem ne_K {Q : Value → Shared → Prop} (hu : A.units + 1 < cLine) (F0 : Fr h₀ L s.heap m) (X₀ : K.In h₀) (I : PySem.W.InstAt s.heap x ox C od) (hb : PySem.W.Looks (model prog w) s.heap (typeOf b) tb) (hn : PySem.W.notFirst K C tb = true)
    (hs : PySem.W.findIn K (.ref C) "__eq__" = some (some (.ref f))) (hf : PySem.W.isFn K (.ref f) = true) (hne : PySem.W.findIn K (.ref C) "__ne__" = some (some (.builtin "object.__ne__"))) (hm : PySem.W.mroIn K C (.type "object") = some true)
    (h : wpAny (model prog w) A.in1 (call (.ref f) [.ref x, b]) (fun v s' => ∃ c, v = .bool c ∧ Q (.bool (!c)) s') E s) : wpAny (model prog w) A (richCompare .NotEq (.ref x) b) Q E s := by
  have X := X₀.keeps F0.keep
  have one : wpAny (model prog w) A (tryCompare (.ref x) (cmpInfo .NotEq).2.1 b) (fun r s' => ∃ v, r = some v ∧ Q v s') E s := by
    unfold tryCompare
    refine wpAny_bind (ifBoundNe X I hne (wpAny_call (codeAny_call_builtin (by decide +kernel) PySem.F.cmpEntry_ne
      (PySem.W.check_slot PySem.F.cmpKind_ne PySem.F.cmpSplit_ne (I.type.andThen (PySem.W.looks_mroIn X hm)) (PySem.F.cmpArgs_ne _ _)
        (ne_entry (A := A.in1) X I hs hf (by exact hu) (wpAny_mono h (fun v s' hv => ?_) fun _ _ e => e))))))
    obtain ⟨c, rfl, hq⟩ := hv
    first | exact ⟨c, rfl, wpAny_pure ⟨_, rfl, hq⟩⟩ | exact ⟨c, rfl, wpAny_pure (wpAny_pure ⟨_, rfl, hq⟩)⟩
  unfold richCompare
  simp only [oneThing_ref]
  refine wpAny_holding (wpAny_bind (wpAny_cRoomFor (Nat.lt_of_succ_lt hu) ?_))
  refine wpAny_bind (I.type.here (wpAny_bind (hb.here ?_)))
  split
  · rename_i q
    have e : PySem.W.subIn K tb (.ref C) = some false := by
      rcases Bool.or_eq_true_iff.mp hn with e | e
      · rw [beq_iff_eq.mp e] at q; simp at q
      · exact beq_iff_eq.mp e
    refine wpAny_bind ((PySem.W.looks_subIn X e).here ?_)
    simp only [Bool.false_eq_true, if_false]
    refine wpAny_bind (wpAny_mono one (fun r s' z => ?_) fun _ _ e => e)
    obtain ⟨v, rfl, hq⟩ := z
    exact wpAny_pure hq
  · refine wpAny_bind (wpAny_pure ?_)
    simp only [Bool.false_eq_true, if_false]
    refine wpAny_bind (wpAny_mono one (fun r s' z => ?_) fun _ _ e => e)
    obtain ⟨v, rfl, hq⟩ := z
    exact wpAny_pure hq
end
section
variable {X : Cx} {CX : CXT} {n : Nat} {C f : Addr} {fd : FuncData} {ps : List Str} {sp : Sp} {E : XK}
theorem op_neO (F : FnOk X.prog X.w X.K X.mg X.base CX n f fd ps sp) (hs : PySem.W.findIn X.K (.ref C) "__eq__" = some (some (.ref f))) (hf : PySem.W.isFn X.K (.ref f) = true) (hne : PySem.W.findIn X.K (.ref C) "__ne__" = some (some (.builtin "object.__ne__"))) (hm : PySem.W.mroIn X.K C (.type "object") = some true)
    (hb : Binds X.K fd ps []) (hx : Passes CX X E) (hr : Room (n + 1) X.A) : OpR X (compareOp .NotEq) (rNeO X.K C sp E) := by
  intro pins s σ H x y v u Q I rx ry h
  obtain ⟨a, dx, fs, t, rfl, ha, ty, hn, q⟩ := h
  cases (show v = Value.ref a from rx)
  obtain ⟨mA, J, _⟩ := ins_get I.hok ha
  obtain ⟨od, J, _⟩ := J.look
  obtain ⟨P, Z, p, _⟩ := kit_of I ry ty
  obtain ⟨m, hF⟩ := I.fr
  show wpAny (model X.prog X.w) X.A (richCompare .NotEq (.ref a) u) (EP X pins σ Q) X.xe s
  refine ne_K (tb := t) (by exact hr.in1.units0) hF I.ok.mod.kin J (Z.ty _ _ I.kIn p) hn hs hf hne hm ?_
  refine wpAny_mono (run_eq F hb hx hr.in1 rfl I rx ry q) (fun w s' z => ?_) fun _ _ x => x
  obtain ⟨z', H', I', rz, c, rfl, qz⟩ := z
  exact ⟨c, rz, ⟨.bl (!c), H', I', rfl, qz⟩⟩
end
end L2
end
section
set_option Elab.async false
set_option linter.all false
set_option maxRecDepth 100000
set_option maxHeartbeats 4000000
/-! Q2: a def that is called within an except suite and looks at the caught exception -/
namespace L2
open PySem PySem.Spec PyProof.Rows PySem.VX
/-- a def's promise, p's object being there, out of reach -/
structure FnS (P : Program) (w : World) (K : PySem.W.Frag) (mg : Str → Option Value) (base : Heap) (k : Nat) (f : Addr) (fd : FuncData) (ps : List Str) (sp : Addr → Value → Option Addr → Sp) : Prop where
  len : ∀ b c d vs H Q E, sp b c d vs H Q E → vs.length = ps.length
  run : ∀ (p : Addr × Obj) (c : Value) (d : Option Addr) (A : Around) (outer : List Env) (s : Shared) (H : Hp) (args : Args) (us : List Value) (vs : List V) (Q : VK) (E : XK), L2H.RoomH k A → L2H.PinOk outer H s p → Env0 P w K mg base A outer s H →
    Zc c d p.2 → (∃ vs, p.2.data = .fields vs) → BindsTo s fd args (ps.zip us) → Vals vs us → sp p.1 c d vs H Q E → codeAny (model P w) A (.call (.ref f) args) (CR CX0 outer P w H s Q E) s
section
variable {P : Program} {w : World} {K : PySem.W.Frag} {mg : Str → Option Value} {base : Heap}
theorem Fun.okS {x qual : Str} {st : Stmt} {f : Addr} {fd : FuncData} {N ps : List Str} {k : Nat} {sp : Addr → Value → Option Addr → Sp} (F : Fun K x qual st f fd) (S : FnScope N ps (defScope st)) (len : ∀ b c d vs H Q E, sp b c d vs H Q E → vs.length = ps.length)
    (hbody : ∀ (p : Addr × Obj) (c : Value) (d : Option Addr) (cdv : Value) (A : Around) (outer : List Env) (s : Shared) (H : Hp) (vs : List V) (Q : VK) (E : XK), Zc c d p.2 → (∃ vs, p.2.data = .fields vs) → sp p.1 c d vs H Q E →
      ∃ t, PSs (L2H.cxH CX0 P w K mg base N qual (defScope st) f cdv A outer s H E p) (defBody st) t ∧ t { nx := fun _ H' => Q .non H', rt := Q } (start N vs) H) : FnS P w K mg base (k + 1) f fd ps sp := by
  obtain ⟨oc, od, kV, doc, pm, an, cdv, ct, osl, rfl, lk, hcd⟩ := F.ex
  refine ⟨len, fun p c d A outer s H args us vs Q E hr hpin e0 hz hf hb r hsp => ?_⟩
  have hl := len _ _ _ _ _ _ _ hsp
  have KX : K.In s.heap := e0.mod.kin.keeps fun b o e => (e0.bs b o e).1
  have lim : s.heap.NoLimit := e0.mod.nolimit.keeps fun b o e => (e0.bs b o e).1
  have kinds : ∀ y ∈ ps.zip us, (defScope st).names.lookup y.1 = some .local ∨ ((defScope st).names.lookup y.1 = some .cell ∧ ((cellsFrom (s.heap.objs.size + 1) (defScope st).names []).lookup y.1).isSome = true) := by
    rintro ⟨n, v⟩ hy
    rcases S.par n (List.of_mem_zip hy).1 with q | q
    · exact .inl q
    · exact .inr ⟨q, PySem.W.cellsFrom_some _ _ _ (.inl q)⟩
  refine codeAny_call_function hr.depth (KX _ _ lk) rfl S.co S.gen rfl (PySem.W.codeRec_of KX hcd) (hb _ _ _ _ ?_)
  refine wpAny_newFunctionEnv_cells S.kind kinds fun env he s1 x => ?_
  subst he
  refine ⟨lim.keeps x.toInCall.keep, codeAny_func ?_⟩
  obtain ⟨t, ht, hq⟩ := hbody p c d cdv A outer s H vs Q E hz hf hsp
  have I : Inv (L2H.cxH CX0 P w K mg base N qual (defScope st) f cdv A outer s H E p) [] (start N vs) H s1 := L2H.inv_startH S hpin e0 hl r x
  refine wpAny_mono (ht.run [] s1 (start N vs) H _ I hq) (fun fl s' hs => ?_) fun _ _ z => z
  have done : ∀ {σ' : St} {H' : Hp} {v : V} {u : Value}, Inv (L2H.cxH CX0 P w K mg base N qual (defScope st) f cdv A outer s H E p) [] σ' H' s' → RelV v u → Q v H' → CE outer P w H s Q u s' :=
    fun {σ' H' v u} J rv q => ⟨v, H', J.os, J.bare, J.base, J.hok, rv, q⟩
  cases fl with
  | ret u =>
    obtain ⟨v, σ', H', J, rv, q⟩ := hs
    exact done J rv q
  | next =>
    obtain ⟨σ', H', J, q⟩ := hs
    exact done (v := V.non) (u := Value.none) J rfl q
  | brk => exact False.elim hs.choose_spec.choose_spec.2
  | cont => exact False.elim hs.choose_spec.choose_spec.2
end
section
variable {X : Cx} {k : Nat} {f : Addr} {fd : FuncData} {ps : List Str} {sp : Addr → Value → Option Addr → Sp} {cls : Value} {d : Option Addr} {E : XK} {x : Str} {q pos : Pos} {e : Expr} {es : List Expr} {t : TA} {p : Addr × Obj}
/-- f(e, ..) within the suite that holds p -/
theorem pe_callP (F : FnS X.prog X.w X.K X.mg X.base k f fd ps sp) (hp : p ∈ X.pn) (hz : Zc cls d p.2) (hf : ∃ vs, p.2.data = .fields vs) (hr : L2H.RoomH k X.A) (hg : Gl X x) (hm : X.mg x = some (.ref f)) (hk : PySem.W.keepIn X.K (.ref f) = true) (hb : Binds X.K fd ps []) (hx : Passes CX0 X E)
    (ha : PA X (e :: es) t) (hdb : (x == ("__debug__" : Str)) = false := by decide) (he : starEach (e :: es) X.env = (false, eval e X.env) :: starEach es X.env := by rfl) (hpl : (backTo pos (starEach es X.env)).any (·.1) = false := by rfl) :
    PE X (.Call (.Name x q) (e :: es) [] pos) (tCall (sp p.1 cls d) [] E t) := by
  refine ⟨fun pins s σ H Q I h => ?_⟩
  refine wpAny_Call_Name_kw (ld_glob I hg hm ?_ hdb)
  refine PySem.W.callWith_K (h₀ := X.base) I.ok.mod.kin hk (thn (ha.run pos pins s σ H _ I h) fun us s1 ⟨vs, H1, I1, r, z⟩ => ⟨I1.kIn, ?_⟩) he hpl
  have z : sp p.1 cls d (vs ++ []) H1 Q E := z
  rw [List.append_nil] at z
  have hl : us.length = ps.length := by
    rw [← r.length]
    exact F.len _ _ _ _ _ _ _ z
  have b := hb s1 us I1.kIn (by rw [List.append_nil]; exact hl)
  rw [List.append_nil] at b
  obtain ⟨p1, p2, p3, p4, p5⟩ := I1.pin p (List.mem_append_left _ hp)
  have hpin : L2H.PinOk X.stack H1 s1 p := ⟨p1, p2, fun hm => (List.mem_cons.mp (I1.stkSub p.1 hm)).elim p3 p4, p5⟩
  refine wpAny_call (codeAny_mono (F.run p cls d X.A X.stack s1 H1 ⟨us, []⟩ us vs Q E hr hpin I1.env0 hz hf b r z) fun r s' hq => ?_)
  cases r with
  | error er => exact hx pins σ H1 s1 er s' I1 hq
  | ok fl =>
    cases fl with
    | ret u => exact I1.after hq
    | next => exact False.elim hq
    | brk => exact False.elim hq
    | cont => exact False.elim hq
theorem pe_callZ {a : Addr} {oe : Obj} {pn : List (Addr × Obj)} (F : FnS X.prog X.w X.K X.mg X.base k f fd ps sp) (hz : Zc cls d oe) (hf : ∃ vs, oe.data = .fields vs) (hr : Room k X.A) (hg : Gl X x) (hm : X.mg x = some (.ref f)) (hk : PySem.W.keepIn X.K (.ref f) = true) (hb : Binds X.K fd ps []) (hx : Passes CX0 (X.suite a ((a, oe) :: pn)) E)
    (ha : PA (X.suite a ((a, oe) :: pn)) (e :: es) t) (hdb : (x == ("__debug__" : Str)) = false := by decide) (he : starEach (e :: es) X.env = (false, eval e X.env) :: starEach es X.env := by rfl) (hpl : (backTo pos (starEach es X.env)).any (·.1) = false := by rfl) :
    PE (X.suite a ((a, oe) :: pn)) (.Call (.Name x q) (e :: es) [] pos) (tCall (sp a cls d) [] E t) :=
  pe_callP (X := X.suite a ((a, oe) :: pn)) (p := (a, oe)) F List.mem_cons_self hz hf ⟨hr.dp, hr.un⟩ hg hm hk hb hx ha hdb he hpl
/-- isinstance(e, c), e the object at p -/
def rIsP (K : PySem.W.Frag) (p : Addr × Obj) : List V → Hp → VK → Prop := fun xs H Q => ∃ (C dd : Addr) (fs : List (Str × V)) (c : V) (cv : Value) (b : Bool), xs = [.ref p.1, c] ∧ Zc (.ref C) (some dd) p.2 ∧ (∃ vs, p.2.data = .fields vs) ∧ H dd = some (.xd fs) ∧ ExcC K C ∧ (∀ u, RelV c u → u = cv) ∧ PySem.W.kitOne K (.ref C) cv = some b ∧ Q (.bl b) H
theorem call_isP (hp : p ∈ X.pn) : CallR X (.builtin "isinstance") (rIsP X.K p) := by
  intro pins s σ H xs us Q I r h
  obtain ⟨C, dd, fs, c, cv, b, rfl, hz, ⟨vs, hd⟩, hdd, T, hcv, e, z⟩ := h
  obtain ⟨u, u2, rfl, ru, r2⟩ := vals2 r
  obtain rfl : u = Value.ref p.1 := ru
  have ec := hcv _ r2
  subst ec
  obtain ⟨ha, _⟩ := I.pin p (List.mem_append_left _ hp)
  have hx : ObjOk X.prog X.w H s.heap dd (.xd fs) := I.hok dd _ hdd
  obtain ⟨mA, hns, hr⟩ := hx
  obtain ⟨od, ho, hl⟩ := lookIn_ns hns
  have J : PySem.W.InstAt s.heap p.1 p.2 C (some od) := ⟨ha, hz.1, by unfold PySem.W.notCls; rw [hd] <;> rfl, by rw [hz.2]; exact ho⟩
  have hcl : (PySem.W.clsIn X.K C).isSome = true := by
    obtain ⟨cd, hc, _⟩ := PySem.W.any_some T.hd
    rw [hc]
    rfl
  exact PySem.W.kia_one (PySem.W.kitx_exc hcl T.hg T.hk T.hs T.ha T.hn T.ht T.hm) I.kIn J e (fun z => nomatch z) fun tk => ⟨.bl b, H, I.kept (t' := tk) fun _ _ z => z, rfl, z⟩
/-- what never is reached -/
theorem pe_dead {e : Expr} : PE X e (fun _ _ _ => False) := ⟨fun _ _ _ _ _ _ h => h.elim⟩
theorem ps_dead {st : Stmt} : PS X st (fun _ _ _ => False) := ⟨fun _ _ _ _ _ _ h => h.elim⟩
theorem pss_dead {st : List Stmt} : PSs X st (fun _ _ _ => False) := ⟨fun _ _ _ _ _ _ h => h.elim⟩
end
end L2
end
section
set_option Elab.async false
set_option linter.all false
set_option maxRecDepth 100000
set_option maxHeartbeats 4000000
/-! D27: _law_told -/
namespace D1
open PySem L2 Evl RZ ClX PySem.VX
/-- isinstance(e, c) within the suite that holds e -/
def rIsX (K : PySem.W.Frag) (cls : Value) (d : Option Addr) (a : Addr) : List V → Hp → VK → Prop := fun xs H Q => ∃ (C dd : Addr) (fs : List (Str × V)) (c : V) (cv : Value) (b : Bool), xs = [.ref a, c] ∧ cls = .ref C ∧ d = some dd ∧ H dd = some (.xd fs) ∧ ExcC K C ∧ (∀ u, RelV c u → u = cv) ∧ PySem.W.kitOne K (.ref C) cv = some b ∧ Q (.bl b) H
theorem call_isX {X : Cx} {a : Addr} {oe : Obj} {cls : Value} {d : Option Addr} {pn : List (Addr × Obj)} (hz : Zc cls d oe) (hf : ∃ vs, oe.data = .fields vs) : CallR (X.suite a ((a, oe) :: pn)) (.builtin "isinstance") (rIsX X.K cls d a) := by
  intro pins s σ H xs us Q I r h
  obtain ⟨C, dd, fs, c, cv, b, rfl, ec, ed, hdd, T, hcv, e, q⟩ := h
  subst ec
  subst ed
  obtain ⟨u, u2, rfl, ru, r2⟩ := vals2 r
  obtain rfl : u = Value.ref a := ru
  have ec := hcv _ r2
  subst ec
  obtain ⟨ha, _⟩ := I.pin (a, oe) (List.mem_append_left _ List.mem_cons_self)
  obtain ⟨vs, hd⟩ := hf
  have hx : ObjOk X.prog X.w H s.heap dd (.xd fs) := I.hok dd _ hdd
  obtain ⟨mA, hns, hr⟩ := hx
  obtain ⟨od, ho, hl⟩ := lookIn_ns hns
  have J : PySem.W.InstAt s.heap a oe C (some od) := ⟨ha, hz.1, by unfold PySem.W.notCls; rw [hd] <;> rfl, by rw [hz.2]; exact ho⟩
  have hcl : (PySem.W.clsIn X.K C).isSome = true := by
    obtain ⟨cd, hc, _⟩ := PySem.W.any_some T.hd
    rw [hc]
    rfl
  exact PySem.W.kia_one (PySem.W.kitx_exc hcl T.hg T.hk T.hs T.ha T.hn T.ht T.hm) I.kIn J e (fun z => nomatch z) fun tk => ⟨.bl b, H, I.kept (t' := tk) fun _ _ z => z, rfl, q⟩
end D1
end
section
set_option Elab.async false
set_option linter.all false
set_option maxRecDepth 100000
set_option maxHeartbeats 4000000
/-! N3: what repr shows: nothing, numbers, lists and tuples of texts, nothing, answers -/
namespace L2
open PySem PySem.Spec PyProof.Rows PySem.VX
theorem FunD.asFun {K : PySem.W.Frag} {x qual : Str} {st : Stmt} {f : Addr} {fd : FuncData} (F : FunD K x qual (defArgs st) (defBody st) (defScope st) [] [] f fd) : Fun K x qual st f fd := by
  obtain ⟨oc, od, dV, kV, doc, pm, an, cdv, ct, osl, e, lk, hcd, hD, _⟩ := F.ex
  rcases hD with ⟨_, rfl⟩ | ⟨hn, _⟩
  · exact ⟨⟨oc, od, kV, doc, pm, an, cdv, ct, osl, e, lk, hcd⟩, F.kp⟩
  · exact absurd rfl hn
def shN : V → Str
  | .non => "None"
  | .int i => toString i
  | _ => ""
/-- repr(x), x None or a number -/
def rReprN : List V → Hp → VK → Prop := fun xs H Q => ∃ v, xs = [v] ∧ (v = .non ∨ ∃ i, v = .int i ∧ i.natAbs.log2 < 1920) ∧ Q (.str (shN v)) H
theorem call_reprN {X : Cx} : CallR X (.builtin "repr") rReprN := by
  intro pins s σ H xs us Q I r h
  obtain ⟨v, rfl, hv, q⟩ := h
  obtain ⟨u, rfl, ru⟩ := vals1 r
  rcases hv with rfl | ⟨i, rfl, hi⟩
  · obtain rfl : u = Value.none := ru
    exact PySem.P.repr_of_none ⟨.str "None", H, I.tok _, ⟨_, rfl⟩, q⟩
  · obtain ⟨t, rfl⟩ := ru
    exact PySem.P.repr_of_int hi ⟨.str _, H, I.tok _, ⟨_, rfl⟩, q⟩
end L2
namespace D1
open PySem L2
def Low (z : Str) : Prop := ∀ c ∈ z.cps.toList, c < 128
structure Shp (d : PyData) (k n : Nat) : Prop where
  fs : d.showable = true
  fn : d.hasDict = false
  fd : d.depth ≤ k
  fl : d.leavesShort 8 = true
  fw : d.weight ≤ n
structure ShpA (ds : List PyData) (k n : Nat) : Prop where
  fs : PyData.showableAll ds = true
  fn : PyData.hasDictAll ds = false
  fd : PyData.depthAll ds ≤ k
  fl : PyData.leavesShortAll 8 ds = true
  fw : PyData.weightAll ds ≤ n
theorem ShpA.nil {k n : Nat} : ShpA [] k n := ⟨rfl, rfl, by simp [PyData.depthAll], rfl, by simp [PyData.weightAll]⟩
theorem ShpA.cons {d : PyData} {ds : List PyData} {k n m p : Nat} (h : Shp d k n) (r : ShpA ds k m) (hp : n + 1 + m ≤ p) : ShpA (d :: ds) k p := by
  refine ⟨?_, ?_, ?_, ?_, ?_⟩
  · simp only [PyData.showableAll, h.fs, r.fs, Bool.and_self]
  · simp only [PyData.hasDictAll, h.fn, r.fn, Bool.or_self]
  · simp only [PyData.depthAll]
    exact Nat.max_le.mpr ⟨h.fd, r.fd⟩
  · simp only [PyData.leavesShortAll, h.fl, r.fl, Bool.and_self]
  · simp only [PyData.weightAll]
    have a := h.fw
    have b := r.fw
    omega
theorem Shp.list {ds : List PyData} {k n : Nat} (h : ShpA ds k n) : Shp (.list ds) (k + 1) n := ⟨h.fs, h.fn, Nat.succ_le_succ h.fd, h.fl, h.fw⟩
theorem Shp.tuple {ds : List PyData} {k n : Nat} (h : ShpA ds k n) : Shp (.tuple ds) (k + 1) n := ⟨h.fs, h.fn, Nat.succ_le_succ h.fd, h.fl, h.fw⟩
theorem Shp.none {k n : Nat} : Shp .none k n := ⟨rfl, rfl, by simp [PyData.depth], rfl, by simp [PyData.weight]⟩
theorem Shp.bool {b : Bool} {k n : Nat} : Shp (.bool b) k n := ⟨rfl, rfl, by simp [PyData.depth], rfl, by simp [PyData.weight]⟩
theorem Shp.str {z : Str} {k n : Nat} (h : Low z) (hn : z.length ≤ n) : Shp (.str z) k n := by
  refine ⟨rfl, rfl, by simp [PyData.depth], ?_, ?_⟩
  · simp only [PyData.leavesShort, List.all_eq_true, decide_eq_true_eq]
    exact fun c hc => Nat.lt_of_lt_of_le (h c hc) (by decide)
  · simp only [PyData.weight]
    exact hn
theorem ShpA.strs {k n m : Nat} : ∀ {zs : List Str}, (∀ z ∈ zs, Low z ∧ z.length ≤ n) → zs.length * (n + 1) ≤ m → ShpA (zs.map .str) k m
  | [], _, _ => .nil
  | z :: r, h, hm => by
    rw [List.length_cons, Nat.succ_mul] at hm
    exact ShpA.cons (.str (h z List.mem_cons_self).1 (h z List.mem_cons_self).2) (ShpA.strs (n := n) (m := r.length * (n + 1)) (fun y hy => h y (List.mem_cons_of_mem _ hy)) (Nat.le_refl _)) (by omega)
theorem Shp.fits {d : PyData} {k n : Nat} (h : Shp d k n) (hn : n ≤ 1600000) : d.shown.length ≤ sizeLine := by
  have a := PyData.shown_le 8 (by decide) d h.fl
  have b := h.fw
  rw [sizeLine_eq]
  omega
section
variable {K : PySem.W.Frag} {σ : L2.St} {H : Hp} {te ta : TE} {Q : VK}
/-- repr of data, as a reading -/
theorem rep_of {p : Addr} {d : PyData} {k n : Nat} (h : Dp K H (.ref p) d) (s : Shp d k n) (hk : k ≤ 60) (hn : n ≤ 1600000) (q : Q (.str d.shown) H) : rReprD K [.ref p] H Q :=
  ⟨p, d, rfl, h, s.fs, s.fn, Nat.le_trans s.fd hk, s.fits hn, q⟩
end
end D1
end
section
set_option Elab.async false
set_option linter.all false
set_option maxRecDepth 100000
set_option maxHeartbeats 4000000
/-! D28: tables and what holds them, as data that repr shows -/
namespace D1
open PySem L2 Evl RZ
theorem dig0 : ∀ i : Fin 7, (PyData.int (i.val : Int)).leavesShort 8 = true ∧ (PyData.int (i.val : Int)).weight ≤ 4 ∧ (PyData.int (i.val : Int)).showable = true := by decide +kernel
theorem Shp.dig {i : Int} {k : Nat} (h0 : 0 ≤ i) (h1 : i < 7) : Shp (.int i) k 4 := by
  have h := dig0 ⟨i.toNat, by omega⟩
  have e : ((i.toNat : Nat) : Int) = i := by omega
  simp only [e] at h
  exact ⟨h.2.2, rfl, by simp [PyData.depth], h.1, h.2.1⟩
def rowD (row : List Int) : PyData := .tuple (row.map PyData.int)
def tabD (t : Tb) : PyData := .tuple (t.map rowD)
def mkD : D1.Mk → PyData
  | .tab S M => .tuple [.str "table", tabD S, tabD M]
  | .truth => .tuple [.str "truth"]
  | .rest k => .tuple [.str "rest", .int k]
  | .pair a b => .tuple [.str "pair", mkD a, mkD b]
theorem ShpA.ints {k m : Nat} : ∀ {row : List Int}, (∀ x ∈ row, 0 ≤ x ∧ x < 7) → row.length * 5 ≤ m → ShpA (row.map .int) k m
  | [], _, _ => .nil
  | x :: r, h, hm => by
    rw [List.length_cons, Nat.succ_mul] at hm
    exact ShpA.cons (.dig (h x (by simp)).1 (h x (by simp)).2) (ShpA.ints (m := r.length * 5) (fun y hy => h y (by simp [hy])) (Nat.le_refl _)) (by omega)
theorem ShpA.rows {k n m : Nat} (n6 : n ≤ 6) : ∀ {t : Tb}, (∀ row ∈ t, row.length = n ∧ ∀ x ∈ row, 0 ≤ x ∧ x < (n : Int)) → t.length * (n * 5 + 1) ≤ m → ShpA (t.map rowD) (k + 1) m
  | [], _, _ => .nil
  | row :: r, h, hm => by
    rw [List.length_cons, Nat.succ_mul] at hm
    have h0 := h row (by simp)
    have s : Shp (rowD row) (k + 1) (n * 5) := .tuple (ShpA.ints (fun x hx => ⟨(h0.2 x hx).1, by have := (h0.2 x hx).2; omega⟩) (by rw [h0.1]; exact Nat.le_refl _))
    exact ShpA.cons s (ShpA.rows n6 (m := r.length * (n * 5 + 1)) (fun y hy => h y (by simp [hy])) (Nat.le_refl _)) (by omega)
theorem Shp.tab {n k : Nat} {t : Tb} (s : Sq n t) (n6 : n ≤ 6) : Shp (tabD t) (k + 2) 186 := by
  refine .tuple (ShpA.rows n6 s.row ?_)
  rw [s.len]
  have h1 : n * (n * 5 + 1) ≤ 6 * (6 * 5 + 1) := Nat.mul_le_mul n6 (by omega)
  omega
def Mk.size : D1.Mk → Nat
  | .pair a b => a.size + b.size + 8
  | _ => 400
theorem low_of_dec {z : Str} (h : z.cps.toList.all (fun c => decide (c < 128)) = true) : Low z := fun c hc => of_decide_eq_true (List.all_eq_true.mp h c hc)
theorem Shp.up {d : PyData} {k k' n n' : Nat} (h : Shp d k n) (hk : k ≤ k') (hn : n ≤ n') : Shp d k' n' := ⟨h.fs, h.fn, Nat.le_trans h.fd hk, h.fl, Nat.le_trans h.fw hn⟩
theorem mk_shp : ∀ {m : D1.Mk}, m.good → Shp (mkD m) (m.depth + 3) m.size
  | .tab S M, ⟨n, n2, n6, s, s'⟩ => .tuple (ShpA.cons (n := 5) (m := 390) (.str (low_of_dec (by decide)) (by decide)) (ShpA.cons (n := 186) (m := 190) (.tab s n6) (ShpA.cons (n := 186) (m := 0) (.tab s' n6) .nil (by omega)) (by omega)) (by show 5 + 1 + 390 ≤ 400; omega))
  | .truth, _ => .tuple (ShpA.cons (n := 5) (m := 0) (.str (low_of_dec (by decide)) (by decide)) .nil (by show 5 + 1 + 0 ≤ 400; omega))
  | .pair a b, h => by
    have ha := (mk_shp h.1).up (k' := max a.depth b.depth + 3) (by have := Nat.le_max_left a.depth b.depth; omega) (Nat.le_refl _)
    have hb := (mk_shp h.2).up (k' := max a.depth b.depth + 3) (by have := Nat.le_max_right a.depth b.depth; omega) (Nat.le_refl _)
    refine Shp.up (.tuple (ShpA.cons (n := 4) (m := a.size + b.size + 2) (.str (low_of_dec (by decide)) (by decide)) (ShpA.cons (m := b.size + 1) ha (ShpA.cons (m := 0) hb .nil (by omega)) (by omega)) (Nat.le_refl _))) (k' := max a.depth b.depth + 1 + 3) (by omega) (by show 4 + 1 + (a.size + b.size + 2) ≤ a.size + b.size + 8; omega)
section
variable {K : PySem.W.Frag} {H : Hp}
theorem dp_ints2 : ∀ row : List Int, DpAll K H (row.map V.int) (row.map PyData.int)
  | [] => .nil
  | _ :: r => .cons (.int _) (dp_ints2 r)
theorem row_dp {r : Addr} {row : List Int} (h : H r = some (.tup (row.map V.int))) : Dp K H (.ref r) (rowD row) := .tup (.inl (.inl h)) (dp_ints2 row)
theorem rows_dp : ∀ {rs : List Addr} {t : Tb}, RowsAt H rs t → DpAll K H (rs.map V.ref) (t.map rowD)
  | [], [], _ => .nil
  | r :: rs, row :: t, ⟨h1, h2⟩ => .cons (row_dp (h2 0 r row rfl rfl)) (rows_dp ⟨by simpa using h1, fun i r' row' a b => h2 (i + 1) r' row' (by simpa using a) (by simpa using b)⟩)
  | [], _ :: _, ⟨h1, _⟩ => by simp at h1
  | _ :: _, [], ⟨h1, _⟩ => by simp at h1
theorem tab_dp {p : Addr} {t : Tb} (h : TabAt H p t) : Dp K H (.ref p) (tabD t) := by
  obtain ⟨rs, h1, h2⟩ := h
  exact .tup (.inl (.inl h1)) (rows_dp h2)
theorem mk_dp : ∀ {m : D1.Mk} {v : V}, MkAt H v m → Dp K H v (mkD m)
  | .tab S M, v, ⟨a, p, q, h1, h2, h3, h4⟩ => by
    subst h1
    exact .tup (.inl (.inl h2)) (.cons (.str _) (.cons (tab_dp h3) (.cons (tab_dp h4) .nil)))
  | .truth, v, ⟨a, h1, h2⟩ => by
    subst h1
    exact .tup (.inl (.inl h2)) (.cons (.str _) .nil)
  | .rest k, v, ⟨a, h1, h2⟩ => by
    subst h1
    exact .tup (.inl (.inl h2)) (.cons (.str _) (.cons (.int _) .nil))
  | .pair x y, v, ⟨a, u, u', h1, h2, h3, h4⟩ => by
    subst h1
    exact .tup (.inl (.inl h2)) (.cons (.str _) (.cons (mk_dp h3) (.cons (mk_dp h4) .nil)))
end
end D1
end
section
set_option Elab.async false
set_option linter.all false
set_option maxRecDepth 100000
set_option maxHeartbeats 4000000
/-! D29: _law_right -/
namespace D1
open PySem L2 Evl RZ ClX PySem.VX
theorem call1 {r : List V → Hp → VK → Prop} {ta : TE} {σ : L2.St} {H : Hp} {Q : VK} (h : ta σ H fun x H1 => r [x] H1 Q) : tCB r (tCons ta tNil) σ H Q := h
section
variable {P : Program} {w : World} {K : PySem.W.Frag} {mg : Str → Option Value} {base : Heap}
theorem ok_twoOk {n : Nat} {S M : Tb} (n2 : 2 ≤ n) (n6 : n ≤ 6) (s : Sq n S) (s' : Sq n M) : twoOk S M = true := by
  have row : ∀ t : Tb, Sq n t → tabOk n t = true := fun t s => by
    unfold tabOk
    rw [s.len, decide_eq_true rfl, Bool.true_and, List.all_eq_true]
    intro r hr
    obtain ⟨h1, h2⟩ := s.row r hr
    unfold rowOk
    rw [decide_eq_true h1, Bool.true_and, List.all_eq_true]
    intro x hx
    obtain ⟨h3, h4⟩ := h2 x hx
    unfold within
    rw [decide_eq_true h3, Bool.true_and]
    exact decide_eq_true (by omega)
  unfold twoOk
  rw [s.len, decide_eq_true n2, decide_eq_true n6, row S s, row M s']
  rfl
theorem rname_ok (i : Nat) : PyData.strOk (rname i) = true := by
  unfold rname
  split <;> decide +kernel
theorem rname_low (i : Nat) : Low (rname i) ∧ (rname i).length ≤ 20 := by
  unfold rname
  split <;> exact ⟨low_of_dec (by decide), by decide⟩
theorem shaped_brok (s : Str) (row : List Int) (hs : PyData.strOk s = true) : SeqAt.shaped (.list [.str s, rowD row]) = true := by
  have h1 := PySem.W.depthAll_ints row
  have h2 : PyData.depth (.list [.str s, rowD row]) ≤ 64 := by
    simp only [rowD, PyData.depth, PyData.depthAll]
    omega
  show (PyData.canLay0 (.list [.str s, rowD row]) && decide (PyData.depth (.list [.str s, rowD row]) ≤ 64)) = true
  rw [Bool.and_eq_true]
  refine ⟨?_, decide_eq_true h2⟩
  have h3 := PySem.W.canLayAll0_ints row
  simp only [rowD, PyData.canLay0, PyData.canLayAll0, h3, hs]
  rfl
theorem ev_rep {K : PySem.W.Frag} {σ : L2.St} {H : Hp} {te : TE} {p : Addr} {d : PyData} {k n : Nat} (h : Ev te σ H (.ref p)) (dp : ∀ H1, Ex H H1 → Dp K H1 (.ref p) d) (s : Shp d k n) (hk : k ≤ 60) (hn : n ≤ 1600000) : Ev (tCB (rReprD K) (tCons te tNil)) σ H (.str d.shown) := fun H1 e Q q =>
  h H1 e _ fun H2 e2 => rep_of (dp H2 (e.trans e2)) s hk hn (q H2 e2)
theorem ev_isi0 {K : PySem.W.Frag} {σ : L2.St} {H : Hp} {tx : TE} {x : V} {t u : Value} {U : String} {b : Bool} (hx : Ev tx σ H x) (ty : ∀ H1, Ex H H1 → TyX K H1 x t) (k : PySem.W.kitOne K t u = some b) (c : ClsV (.ty U) u) : Ev (tCB (rIsi K) (tCons tx (tCons (tC (.ty U)) tNil))) σ H (.bl b) := fun H1 e Q q =>
  hx H1 e _ fun H2 e2 => ⟨x, .ty U, t, u, b, rfl, c, ty H2 (e.trans e2), k, q H2 e2⟩
theorem ev_neS {σ : L2.St} {H : Hp} {ta tb : TE} {x : Str} (ha : Ev ta σ H (.str x)) (hb : Ev tb σ H (.str x)) : Ev (tOp rNe ta tb) σ H (.bl false) := ev_op ha hb fun H1 _ Q q => ⟨rfl, by rw [decide_eq_true rfl]; exact q H1 (Ex.refl H1)⟩
theorem ring_tab {CR CT CU CP : Addr} {H : Hp} {r made : V} {n : Nat} {S M : Tb} (hl : S.length = n) (h : RingM CR CT CU CP H r made (.tab S M)) : RingT CR CT H r made n S M := by
  obtain ⟨a, dx, k, h1, h2, b, db, fb, rfl, h4, h5, h6⟩ := h
  obtain ⟨n', p, q, h7, h8⟩ := h6 S M rfl
  obtain rfl : n' = n := by rw [← hl]; exact h8.sq.len.symm
  refine ⟨a, dx, b, db, p, q, _, fb, h1, h2, rfl, rfl, fun f hf => ?_, h4, h7, h8⟩
  have nf : ∀ g ∈ fields, ¬(f = g) := fun g hg z => hf (z ▸ hg)
  have b1 : (f == ("_made" : Str)) = false := beq_eq_false_iff_ne.mpr (nf _ (by decide))
  have b2 : (f == ("_kind" : Str)) = false := beq_eq_false_iff_ne.mpr (nf _ (by decide))
  simp only [List.lookup, b1, b2]
def brokD (i : Nat) (row : List Int) : PyData := .list [.str "table", .str (rname i), rowD row, .bool true, .bool true, .bool false]
theorem brok_shp {n i : Nat} {row : List Int} (n6 : n ≤ 6) (h : RowN n (arity i) row) : Shp (brokD i row) 3 200 := by
  have ar := arity_le i
  have s : Shp (rowD row) 2 15 := Shp.up (.tuple (ShpA.ints (k := 1) (m := 15) (fun x hx => ⟨(h.2 x hx).1, by have := (h.2 x hx).2; omega⟩) (by rw [h.1]; omega))) (Nat.le_refl _) (Nat.le_refl _)
  exact .list (ShpA.cons (n := 5) (m := 100) (.str (low_of_dec (by decide)) (by decide)) (ShpA.cons (n := 20) (m := 60) (.str (rname_low i).1 (rname_low i).2) (ShpA.cons (n := 15) (m := 20) s (ShpA.cons (n := 0) (m := 10) .bool (ShpA.cons (n := 0) (m := 5) .bool (ShpA.cons (n := 0) (m := 0) .bool .nil (by omega)) (by omega)) (by omega)) (by omega)) (by omega)) (by omega))
theorem Fb.rowN {n i : Nat} {S M : Tb} {row : List Int} (h : Fb n S M (some (i, row))) : RowN n (arity i) row := by
  obtain ⟨_, _, m, hm, _⟩ := h
  exact rowsN_in (List.mem_of_getElem? hm)
theorem FbL_one {S M : Tb} {o : Option (Nat × List Int)} (h : FbL [(S, M)] o) : Fb S.length S M o := by
  rcases h with ⟨x, h1, rfl⟩ | ⟨h1, h2⟩
  · exact h1
  · obtain rfl : o = none := h2
    exact h1
end
end D1
end
section
set_option Elab.async false
set_option linter.all false
set_option maxRecDepth 100000
set_option maxHeartbeats 4000000
/-! G4: so often, by two at a time; what stays -/
namespace D1
open PySem
structure OpG (n : Nat) (T : Int → Int → Int) (z : Int) : Prop where
  zi : In n z
  cl : ∀ a b, In n a → In n b → In n (T a b)
  as_ : ∀ a b c, In n a → In n b → In n c → T (T a b) c = T a (T b c)
  un : ∀ a, In n a → T a z = a
theorem GoodG.sum {n : Nat} {f g : Int → Int → Int} (n2 : 2 ≤ n) (h : GoodG n f g) : OpG n f 0 := by
  have i0 : In n 0 := ⟨by omega, by omega⟩
  exact ⟨i0, h.si, h.sa, fun a ha => by rw [h.sc a 0 ha i0, h.s0 a ha]⟩
theorem GoodG.prod {n : Nat} {f g : Int → Int → Int} (n2 : 2 ≤ n) (h : GoodG n f g) : OpG n g 1 := by
  have i1 : In n 1 := ⟨by omega, by omega⟩
  exact ⟨i1, h.mi, h.ma, fun a ha => by rw [h.mc a 1 ha i1, h.m1 a ha]⟩
def iter (T : Int → Int → Int) (z a : Int) : Nat → Int
  | 0 => z
  | k + 1 => T (iter T z a k) a
section
variable {n : Nat} {T : Int → Int → Int} {z a : Int}
theorem OpG.iter_in (O : OpG n T z) (ha : In n a) : ∀ k, In n (iter T z a k)
  | 0 => O.zi
  | k + 1 => O.cl _ _ (iter_in O ha k) ha
theorem OpG.iter_add (O : OpG n T z) (ha : In n a) (m : Nat) : ∀ k, iter T z a (m + k) = T (iter T z a m) (iter T z a k)
  | 0 => (O.un _ (O.iter_in ha m)).symm
  | k + 1 => by
    show T (iter T z a (m + k)) a = T (iter T z a m) (T (iter T z a k) a)
    rw [iter_add O ha m k, O.as_ _ _ _ (O.iter_in ha m) (O.iter_in ha k) ha]
/-- the number that some figures write -/
def bv : List Nat → Nat → Nat
  | [], v => v
  | c :: r, v => bv r (2 * v + if c = 49 then 1 else 0)
theorem bv_app (r : List Nat) (c : Nat) : ∀ (l : List Nat) (v : Nat), bv (l ++ [c]) v = 2 * bv l v + if c = 49 then 1 else 0
  | [], v => rfl
  | d :: l, v => bv_app r c l _
theorem binS_val : ∀ i : Fin 61, bv (binS i.val).cps.toList 0 = i.val := by decide +kernel
theorem OpG.step (O : OpG n T z) (ha : In n a) (v c : Nat) : (if c = 49 then T (T (iter T z a v) (iter T z a v)) a else T (iter T z a v) (iter T z a v)) = iter T z a (2 * v + if c = 49 then 1 else 0) := by
  have e : iter T z a (2 * v) = T (iter T z a v) (iter T z a v) := by
    rw [Nat.two_mul]
    exact O.iter_add ha v v
  by_cases h : c = 49
  · rw [if_pos h, if_pos h]
    show _ = T (iter T z a (2 * v)) a
    rw [e]
  · rw [if_neg h, if_neg h]
    exact e.symm
end
/-! ### what stays -/
def seqF (f : Int → Int) : Nat → Int
  | 0 => 1
  | k + 1 => f (seqF f k)
/-- the first that stays, of so many -/
def Stays (f : Int → Int) (m : Nat) : Option Int → Prop
  | some x => ∃ k, k < m ∧ (∀ j, j < k → seqF f (j + 1) ≠ seqF f j) ∧ seqF f (k + 1) = seqF f k ∧ x = seqF f k
  | none => ∀ j, j < m → seqF f (j + 1) ≠ seqF f j
theorem nodup_le : ∀ (n : Nat) (l : List Int), l.Nodup → (∀ x ∈ l, In n x) → l.length ≤ n
  | 0, l, _, h => by
    cases l with
    | nil => exact Nat.le_refl _
    | cons x l =>
      have := h x List.mem_cons_self
      obtain ⟨a, b⟩ := this
      omega
  | n + 1, l, hd, h => by
    have h1 := nodup_le n (l.erase (n : Int)) (hd.erase _) fun x hx => by
      obtain ⟨a, b⟩ := (List.Nodup.mem_erase_iff hd).mp hx
      have c := h x b
      obtain ⟨c0, c1⟩ := c
      exact ⟨c0, by omega⟩
    rw [List.length_erase] at h1
    split at h1 <;> omega
theorem seqF_in {n : Nat} {f : Int → Int} (n2 : 2 ≤ n) (hf : ∀ x, In n x → In n (f x)) : ∀ k, In n (seqF f k)
  | 0 => ⟨by show (0 : Int) ≤ 1; decide, by show (1 : Int) < n; omega⟩
  | k + 1 => hf _ (seqF_in n2 hf k)
theorem seqF_shift {f : Int → Int} {i j : Nat} (e : seqF f i = seqF f j) : ∀ t, seqF f (i + t) = seqF f (j + t)
  | 0 => e
  | t + 1 => by
    show f (seqF f (i + t)) = f (seqF f (j + t))
    rw [seqF_shift e t]
/-- what doesn't stay within as many as there are things never does -/
theorem none_stays {n : Nat} {f : Int → Int} (n2 : 2 ≤ n) (hf : ∀ x, In n x → In n (f x)) (h : ∀ j, j < n → seqF f (j + 1) ≠ seqF f j) : ∀ k, (∀ j, j < k → seqF f (j + 1) ≠ seqF f j) → seqF f (k + 1) = seqF f k → False := by
  intro k hk e
  have hn : n ≤ k := Nat.le_of_not_lt fun z => h k z e
  have dist : ∀ i j, i < j → j ≤ k → seqF f i ≠ seqF f j := fun i j hij hj w => by
    have s := seqF_shift w (k - j)
    rw [show j + (k - j) = k by omega] at s
    have e2 : seqF f (i + (k - j) + 1) = seqF f (i + (k - j)) := by
      show f (seqF f (i + (k - j))) = _
      rw [s]
      exact e
    exact hk (i + (k - j)) (by omega) e2
  have nd : ((List.range (k + 1)).map (seqF f)).Nodup := by
    rw [List.nodup_iff_pairwise_ne]
    rw [List.pairwise_map]
    refine List.Pairwise.imp_of_mem ?_ (List.pairwise_lt_range (n := k + 1))
    intro a b ha hb hab
    exact dist a b hab (by have := List.mem_range.mp hb; omega)
  have := nodup_le n _ nd fun x hx => by
    obtain ⟨i, _, rfl⟩ := List.mem_map.mp hx
    exact seqF_in n2 hf i
  rw [List.length_map, List.length_range] at this
  omega
theorem Stays.same {n : Nat} {f : Int → Int} (n2 : 2 ≤ n) (n6 : n ≤ 6) (hf : ∀ x, In n x → In n (f x)) {o o' : Option Int} (h : Stays f n o) (h' : Stays f 7 o') : o = o' := by
  cases o with
  | some x =>
    obtain ⟨k, hk, ha, he, rfl⟩ := h
    cases o' with
    | some y =>
      obtain ⟨k', hk', ha', he', rfl⟩ := h'
      have : k = k' := by
        rcases Nat.lt_trichotomy k k' with z | z | z
        · exact absurd he (ha' k z)
        · exact z
        · exact absurd he' (ha k' z)
      subst this
      rfl
    | none => exact absurd he (h' k (by omega))
  | none =>
    cases o' with
    | some y =>
      obtain ⟨k', hk', ha', he', rfl⟩ := h'
      exact (none_stays n2 hf h k' ha' he').elim
    | none => rfl
end D1
end
section
set_option Elab.async false
set_option linter.all false
set_option maxRecDepth 100000
set_option maxHeartbeats 4000000
/-! F1: what is no weight, of any kind -/
namespace D1
open PySem L2 Evl RZ ClX PySem.VX
def isInt : V → Bool
  | .int _ => true
  | _ => false
def isIB : V → Bool
  | .int _ => true
  | .bl _ => true
  | _ => false
def isBl : V → Bool
  | .bl _ => true
  | _ => false
def isTx : V → Bool
  | .str _ => true
  | _ => false
def wtB (n : Nat) : V → Bool
  | .int i => decide (0 ≤ i) && decide (i < (n : Int))
  | _ => false
def whB (a b : Int) : V → Bool
  | .int i => within a b i
  | _ => false
/-- what is asked about: of a known kind -/
def PlainK (K : PySem.W.Frag) (H : Hp) (v : V) : Prop := ∃ t : Value, (∀ H1, Ex H H1 → TyX K H1 v t) ∧ PySem.W.kitOne K t (.type "int") = some (isIB v) ∧ PySem.W.kitOne K t (.type "bool") = some (isBl v) ∧ PySem.W.kitOne K t (.type "str") = some (isTx v)
theorem PlainK.ex {K : PySem.W.Frag} {H H' : Hp} {v : V} (h : PlainK K H v) (e : Ex H H') : PlainK K H' v := by
  obtain ⟨t, h1, h2⟩ := h
  exact ⟨t, fun H1 e1 => h1 H1 (e.trans e1), h2⟩
theorem kk {K : PySem.W.Frag} (T U : String) {b : Bool} (h : kitB T U = some b) : PySem.W.kitOne K (.type T) (.type U) = some b := kit_ty h
section
variable {K : PySem.W.Frag} {H : Hp}
theorem pk_int (i : Int) : PlainK K H (.int i) := ⟨.type "int", fun _ _ => .base (.int i), kk (b := true) "int" "int" (by decide +kernel), kk (b := false) "int" "bool" (by decide +kernel), kk (b := false) "int" "str" (by decide +kernel)⟩
theorem pk_bl (i : Bool) : PlainK K H (.bl i) := ⟨.type "bool", fun _ _ => .base (.bl i), kk (b := true) "bool" "int" (by decide +kernel), kk (b := true) "bool" "bool" (by decide +kernel), kk (b := false) "bool" "str" (by decide +kernel)⟩
theorem pk_non : PlainK K H .non := ⟨.type "NoneType", fun _ _ => .base .non, kk (b := false) "NoneType" "int" (by decide +kernel), kk (b := false) "NoneType" "bool" (by decide +kernel), kk (b := false) "NoneType" "str" (by decide +kernel)⟩
theorem pk_str (z : Str) : PlainK K H (.str z) := ⟨.type "str", fun _ _ => .base (.str z), kk (b := false) "str" "int" (by decide +kernel), kk (b := false) "str" "bool" (by decide +kernel), kk (b := true) "str" "str" (by decide +kernel)⟩
theorem pk_tup {a : Addr} {xs : List V} (h : H a = some (.tup xs)) : PlainK K H (.ref a) := ⟨.type "tuple", fun _ e => .base (.tup (e _ _ h)), kk (b := false) "tuple" "int" (by decide +kernel), kk (b := false) "tuple" "bool" (by decide +kernel), kk (b := false) "tuple" "str" (by decide +kernel)⟩
theorem pk_lst {a : Addr} {xs : List V} (h : H a = some (.lst xs)) : PlainK K H (.ref a) := ⟨.type "list", fun _ e => .base (.lst (e _ _ h)), kk (b := false) "list" "int" (by decide +kernel), kk (b := false) "list" "bool" (by decide +kernel), kk (b := false) "list" "str" (by decide +kernel)⟩
theorem pk_dic {a : Addr} {xs : List (Key × V)} (h : H a = some (.dK xs)) : PlainK K H (.ref a) := ⟨.type "dict", fun _ e => .base (.dK (e _ _ h)), kk (b := false) "dict" "int" (by decide +kernel), kk (b := false) "dict" "bool" (by decide +kernel), kk (b := false) "dict" "str" (by decide +kernel)⟩
end
section
variable {P : Program} {w : World} {K : PySem.W.Frag} {mg : Str → Option Value} {base : Heap}
def spNumP (K : PySem.W.Frag) : Sp := fun vs H Q _ => ∃ v : V, vs = [v] ∧ PlainK K H v ∧ ∀ H', Ex H H' → Q (.bl (isInt v)) H'
def spWholeP (K : PySem.W.Frag) : Sp := fun vs H Q _ => ∃ (v : V) (a b : Int), vs = [v, .int a, .int b] ∧ PlainK K H v ∧ ∀ H', Ex H H' → Q (.bl (whB a b v)) H'
theorem ok_P_is_number {f : Addr} {fd : FuncData} (F : FnP K "is_number" s_is_number f fd) (z_isinstance : mg "isinstance" = none) (z_int : mg "int" = none) (z_bool : mg "bool" = none) : FnOk P w K mg base CX0 1 f fd ["thing"] (spNumP K) := by
  refine F.ok sc_is_number (fun vs H Q E h => ?_) (fun cdv A outer s H vs Q E hr h => ?_)
  · obtain ⟨v, rfl, _⟩ := h
    rfl
  · obtain ⟨v, rfl, hp, q⟩ := h
    have hu := hu_of hr
    have hu64 := hr.units
    refine ⟨_, PSs.nox (pss_one (ps_ret (pe_and (pe_callB call_isi (by rfl) z_isinstance PyProof.Rows.boot_isinstance (pa_cons (pv 0) (pa_cons (pe_bltn (v := .ty "int") rfl z_int (by decide +kernel) rfl) pa_nil))) (pe_one (pe_not (pe_callB call_isi (by rfl) z_isinstance PyProof.Rows.boot_isinstance (pa_cons (pv 0) (pa_cons (pe_bltn (v := .ty "bool") rfl z_bool (by decide +kernel) rfl) pa_nil)))))))), ?_⟩
    obtain ⟨t, ht, k1, k2, k3⟩ := id hp
    refine s_ret (D := { nx := fun _ H' => Q .non H', rt := Q }) (v := .bl (isInt v)) ?_ fun H' e => q H' e
    have hz : isInt v = (isIB v && !isBl v) := by cases v <;> rfl
    rw [hz]
    exact ev_andV (ev_isi0 (ev_var rfl) ht k1 (.ty "int")) fun _ => ev_notV (ev_isi0 (ev_var rfl) ht k2 (.ty "bool"))
theorem ok_P_is_whole {f : Addr} {fd : FuncData} (F : FnP K "is_whole" s_is_whole f fd) {f_is_number : Addr} {fd_is_number : FuncData} (F_is_number : FnP K "is_number" s_is_number f_is_number fd_is_number) (g_is_number : mg "is_number" = some (.ref f_is_number)) (G_is_number : FnOk P w K mg base CX0 1 f_is_number fd_is_number ["thing"] (spNumP K)) : FnOk P w K mg base CX0 2 f fd ["thing", "least", "most"] (spWholeP K) := by
  have b_is_number : Binds K fd_is_number ["thing"] [] := F_is_number.bindsN fun _ _ _ _ _ _ us hl => match us, hl with | [_], _ => rfl
  refine F.ok sc_is_whole (fun vs H Q E h => ?_) (fun cdv A outer s H vs Q E hr h => ?_)
  · obtain ⟨v, a, b, rfl, _⟩ := h
    rfl
  · obtain ⟨v, a, b, rfl, hp, q⟩ := h
    have hu := hu_of hr
    have hu64 := hr.units
    have hr_is_number := hr.mono (by decide : 1 ≤ 1)
    refine ⟨_, PSs.nox (pss_one (ps_ret (pe_and (pe_call G_is_number hr_is_number rfl g_is_number F_is_number.kp b_is_number .nil pass0 (pa_cons (pv 0) pa_nil)) (pe_one (pe_chain op_le op_le (pv 1) (pv 0) (pv 2)))))), ?_⟩
    have hq : whB a b v = (isInt v && whB a b v) := by cases v <;> rfl
    refine s_ret (D := { nx := fun _ H' => Q .non H', rt := Q }) (v := .bl (whB a b v)) ?_ fun H' e => q H' e
    rw [hq]
    refine ev_andV (ev_call (z := .bl (isInt v)) (ea_cons (ev_var rfl) ea_nil) fun H1 e1 Q' k' E' => ⟨v, rfl, hp.ex e1, fun H2 e2 => k' H2 e2⟩) fun hi => ?_
    cases v with
    | int i => exact ev_chainLe (ev_var rfl) (ev_var rfl) (ev_var rfl)
    | _ => cases hi
def spGoodP (K : PySem.W.Frag) (C : Addr) : Sp := fun vs H Q _ => ∃ (a dx p : Addr) (fs : List (Str × V)) (v : V) (n : Nat), vs = [.ref a, v] ∧ H a = some (.ins C dx fs) ∧ OkC K C ∧ fs.lookup ("_size" : Str) = some (.int n) ∧ fs.lookup ("fits" : Str) = none ∧ fs.lookup ("_others" : Str) = some (.ref p) ∧ H p = some (.tup []) ∧ PlainK K H v ∧ ∀ H', Ex H H' → Q (.bl (wtB n v)) H'
theorem ok_P_Counted_good {f : Addr} {fd : FuncData} (F : FnM K "Counted" "good" s_Counted_good f fd) {f_is_number : Addr} {fd_is_number : FuncData} (F_is_number : FnP K "is_number" s_is_number f_is_number fd_is_number) (g_is_number : mg "is_number" = some (.ref f_is_number)) (G_is_number : FnOk P w K mg base CX0 1 f_is_number fd_is_number ["thing"] (spNumP K)) {f_Finite_fits : Addr} {fd_Finite_fits : FuncData} (F_Finite_fits : FnM K "Finite" "fits" s_Finite_fits f_Finite_fits fd_Finite_fits) (G_Finite_fits : FnOk P w K mg base CX0 1 f_Finite_fits fd_Finite_fits ["self", "number"] (spFits K)) {C0 : Addr} (ok0 : OkC K C0) (m_fits : Meth K C0 "fits" f_Finite_fits) (z_isinstance : mg "isinstance" = none) (z_str : mg "str" = none) : FnOk P w K mg base CX0 2 f fd ["self", "thing"] (spGoodP K C0) := by
  have b_is_number : Binds K fd_is_number ["thing"] [] := F_is_number.bindsN fun _ _ _ _ _ _ us hl => match us, hl with | [_], _ => rfl
  have b_Finite_fits : Binds K fd_Finite_fits ["self", "number"] [] := F_Finite_fits.bindsN fun _ _ _ _ _ _ us hl => match us, hl with | [_, _], _ => rfl
  refine F.ok sc_Counted_good (fun vs H Q E h => ?_) (fun cdv A outer s H vs Q E hr h => ?_)
  · obtain ⟨a, dx, p, fs, v, n, rfl, _⟩ := h
    rfl
  · obtain ⟨a, dx, p, fs, v, n, rfl, ha, ok, hl, hm, ho, hpp, hp, q⟩ := h
    have hu := hu_of hr
    have hu64 := hr.units
    have hr_is_number := hr.mono (by decide : 1 ≤ 1)
    have hr_Finite_fits := hr.mono (by decide : 1 ≤ 1)
    refine ⟨_, PSs.nox (pss_cons (ps_if (pt_val (pe_callB call_isi (by rfl) z_isinstance PyProof.Rows.boot_isinstance (pa_cons (pv 1) (pa_cons (pe_bltn (v := .ty "str") rfl z_str (by decide +kernel) rfl) pa_nil)))) (pss_one (ps_ret (pe_cmpR op_in_seq (pv 1) (pe_fld (pv 0) rfl) (by rfl)))) pss_nil)
      (pss_one (ps_ret (pe_and (pe_call G_is_number hr_is_number rfl g_is_number F_is_number.kp b_is_number .nil pass0 (pa_cons (pv 1) pa_nil)) (pe_one (pe_meth (C := C0) (pv 0) ok0.cls m_fits G_Finite_fits hr_Finite_fits b_Finite_fits .nil pass0 (pa_cons (pv 1) pa_nil))))))), ?_⟩
    obtain ⟨t, ht, k1, k2, k3⟩ := id hp
    refine q_when (b := isTx v) (et_B (ev_isi0 (ev_var rfl) ht k3 (.ty "str"))) (fun hb H1 e1 => ?_) (fun hb H1 e1 => ?_)
    · cases v with
      | str z =>
        refine ⟨_, rfl, _, rfl, a, C0, dx, fs, _, rfl, e1 _ _ ha, ok.cls, ok.no _ (by decide), ho, p, [], rfl, .inr (.inl (.inl (e1 _ _ hpp))), rfl, rfl, ?_⟩
        exact q H1 e1
      | _ => cases hb
    · refine ⟨_, rfl, v, rfl, hp.ex e1, fun H2 e2 => ⟨_, rfl, ?_⟩⟩
      cases v with
      | int i => exact yes_of rfl ⟨_, rfl, a, dx, fs, rfl, (e1.trans e2) _ _ ha, hm, _, rfl, a, C0, dx, fs, i, n, rfl, (e1.trans e2) _ _ ha, ok, hl, fun H3 e3 => q H3 ((e1.trans e2).trans e3)⟩
      | _ => exact no_of rfl (q H2 (e1.trans e2))
def spNeedP (K : PySem.W.Frag) (CR CT cW : Addr) : Sp := fun vs H Q E => ∃ (v made : V) (n : Nat) (S M : Tb) (x : V), vs = [v, x] ∧ RingT CR CT H v made n S M ∧ PlainK K H x ∧ (wtB n x = true → ∀ H', Ex H H' → Q .non H') ∧ (wtB n x = false → ∀ H' d, Ex H H' → H' d = none → E (.ref cW) (some d) (upd H' d (.xd [("why", .str "not a weight of the ring")])))
theorem ok_P_Ring_need {f : Addr} {fd : FuncData} (F : FnM K "Ring" "need" s_Ring_need f fd) {CR CT cW : Addr} (okR : OkC K CR) (okT : OkC K CT) {f_Counted_good : Addr} {fd_Counted_good : FuncData} (F_Counted_good : FnM K "Counted" "good" s_Counted_good f_Counted_good fd_Counted_good) (G_Counted_good : FnOk P w K mg base CX0 2 f_Counted_good fd_Counted_good ["self", "thing"] (spGoodP K CT)) (m_Counted_good : Meth K CT "good" f_Counted_good) (O_BadWeight : OwnX P w K mg "BadWeight" cW [("why" : Str)]) : FnOk P w K mg base (L2.CX P w) 3 f fd ["self", "thing"] (spNeedP K CR CT cW) := by
  have b_Counted_good : Binds K fd_Counted_good ["self", "thing"] [] := F_Counted_good.bindsN fun _ _ _ _ _ _ us hl => match us, hl with | [_, _], _ => rfl
  refine F.ok (CX := L2.CX P w) sc_Ring_need (fun vs H Q E h => ?_) (fun cdv A outer s H vs Q E hr h => ?_)
  · obtain ⟨v, made, n, S, M, x, rfl, _⟩ := h
    rfl
  · obtain ⟨v, made, n, S, M, x, rfl, hR, hp, qY, qN⟩ := h
    have hu := hu_of hr
    have hu64 := hr.units
    have hr_Counted_good := hr.mono (by decide : 2 ≤ 2)
    refine ⟨_, (pss_one (ps_if (pt_not (pt_val (pe_meth (C := CT) (pe_fld (pv 0) rfl) okT.cls m_Counted_good G_Counted_good hr_Counted_good b_Counted_good .nil pass0 (pa_cons (pv 1) pa_nil)))) (pss_one (ps_raise (W := fun cls d _ H => E cls d H) rfl (takes_of rfl rfl rfl rfl) (pmk_own1 O_BadWeight hr (pa_cons pe_str pa_nil) (by rfl)))) pss_nil)), ?_⟩
    obtain ⟨r, dr, k, dk, p, q', fr, fk, rfl, h2, h3, h4, h5, h6, h7, h8⟩ := hR
    obtain ⟨po, ho1, ho2⟩ := h7.oth
    refine ⟨_, rfl, r, CR, dr, fr, _, rfl, h2, okR.cls, okR.no _ (by decide), h4, k, dk, fk, rfl, h6, h7.no _ (by decide), _, rfl, k, dk, po, fk, x, n, rfl, h6, okT, h7.size, h7.no _ (by decide), ho1, ho2, hp, fun H1 e1 => ⟨_, rfl, ?_⟩⟩
    cases hw : wtB n x with
    | true => exact no_of rfl (qY hw H1 e1)
    | false => exact yes_of rfl ⟨rfl, fun d hd => qN hw H1 d e1 hd⟩
def spNeedCount (K : PySem.W.Frag) (cN : Addr) : Sp := fun vs H Q E => ∃ x : V, vs = [x] ∧ PlainK K H x ∧ (whB 0 60 x = true → ∀ H', Ex H H' → Q .non H') ∧ (whB 0 60 x = false → ∀ H' d, Ex H H' → H' d = none → E (.ref cN) (some d) (upd H' d (.xd [("why", .str "not a whole number from 0 to LONG")])))
abbrev s__need_count : Stmt := top 48
theorem sc__need_count : FnScope ["count"] ["count"] (defScope s__need_count) := ⟨rfl, rfl, rfl, by decide +kernel, rfl, by decide +kernel, by decide +kernel⟩
theorem ok_P__need_count {f : Addr} {fd : FuncData} (F : FnP K "_need_count" s__need_count f fd) {cN : Addr} {f_is_whole : Addr} {fd_is_whole : FuncData} (F_is_whole : FnP K "is_whole" s_is_whole f_is_whole fd_is_whole) (g_is_whole : mg "is_whole" = some (.ref f_is_whole)) (G_is_whole : FnOk P w K mg base CX0 2 f_is_whole fd_is_whole ["thing", "least", "most"] (spWholeP K)) (O_BadNumber : OwnX P w K mg "BadNumber" cN [("why" : Str)]) {tL : Tok} (g_LONG : mg "LONG" = some (.int 60 tL)) : FnOk P w K mg base (L2.CX P w) 3 f fd ["count"] (spNeedCount K cN) := by
  have b_is_whole : Binds K fd_is_whole ["thing", "least", "most"] [] := F_is_whole.bindsN fun _ _ _ _ _ _ us hl => match us, hl with | [_, _, _], _ => rfl
  refine F.ok (CX := (L2.CX P w)) sc__need_count (fun vs H Q E h => ?_) (fun cdv A outer s H vs Q E hr h => ?_)
  · obtain ⟨x, rfl, _⟩ := h
    rfl
  · obtain ⟨x, rfl, hp, qY, qN⟩ := h
    have hu := hu_of hr
    have hu64 := hr.units
    have hr_is_whole := hr.mono (by decide : 2 ≤ 2)
    refine ⟨_, (pss_one (ps_if (pt_not (pt_val (pe_call G_is_whole hr_is_whole rfl g_is_whole F_is_whole.kp b_is_whole .nil pass0 (pa_cons (pv 0) (pa_cons pe_int (pa_cons (pe_glob (v := .int 60) rfl g_LONG ⟨_, rfl⟩) pa_nil)))))) (pss_one (ps_raise (W := fun cls d _ H => E cls d H) rfl (takes_of rfl rfl rfl rfl) (pmk_own1 O_BadNumber hr (pa_cons pe_str pa_nil) (by rfl)))) pss_nil)), ?_⟩
    refine ⟨_, rfl, x, 0, 60, rfl, hp, fun H1 e1 => ⟨_, rfl, ?_⟩⟩
    cases hw : whB 0 60 x with
    | true => exact no_of rfl (qY hw H1 e1)
    | false => exact yes_of rfl ⟨rfl, fun d hd => qN hw H1 d e1 hd⟩
end
end D1
end
section
set_option Elab.async false
set_option linter.all false
set_option maxRecDepth 100000
set_option maxHeartbeats 4000000
/-! F2: things of any form; whether they have a ring's -/
namespace D1
open PySem L2 Evl RZ ClX PySem.VX
/-- a thing's form -/
inductive Td where
  | pl (v : V)
  | ls
  | di
  | tu (xs : List Td)
def sc : V → Bool
  | .int _ => true
  | .bl _ => true
  | .non => true
  | .str _ => true
  | _ => false
mutual
/-- as it lies -/
inductive TdAt (H : Hp) : V → Td → Prop
  | pl {v : V} (h : sc v = true) : TdAt H v (.pl v)
  | ls {a : Addr} {xs : List V} (h : H a = some (.lst xs)) : TdAt H (.ref a) .ls
  | di {a : Addr} {xs : List (Key × V)} (h : H a = some (.dK xs)) : TdAt H (.ref a) .di
  | tu {a : Addr} {us : List V} {ts : List Td} (h : H a = some (.tup us)) (r : TdAll H us ts) : TdAt H (.ref a) (.tu ts)
inductive TdAll (H : Hp) : List V → List Td → Prop
  | nil : TdAll H [] []
  | cons {v : V} {us : List V} {t : Td} {ts : List Td} (h : TdAt H v t) (r : TdAll H us ts) : TdAll H (v :: us) (t :: ts)
end
mutual
theorem TdAt.ex {H H' : Hp} (e : Ex H H') : ∀ (t : Td) (v : V), TdAt H v t → TdAt H' v t
  | .pl _, _, h => by
    cases h with
    | pl h => exact .pl h
  | .ls, _, h => by
    cases h with
    | ls h => exact .ls (e _ _ h)
  | .di, _, h => by
    cases h with
    | di h => exact .di (e _ _ h)
  | .tu ts, _, h => by
    cases h with
    | tu h r => exact .tu (e _ _ h) (TdAll.ex e ts _ r)
theorem TdAll.ex {H H' : Hp} (e : Ex H H') : ∀ (ts : List Td) (us : List V), TdAll H us ts → TdAll H' us ts
  | [], _, h => by
    cases h with
    | nil => exact .nil
  | t :: ts, _, h => by
    cases h with
    | cons h r => exact .cons (TdAt.ex e t _ h) (TdAll.ex e ts _ r)
end
theorem TdAt.up {H H' : Hp} {t : Td} {v : V} (h : TdAt H v t) (e : Ex H H') : TdAt H' v t := TdAt.ex e t v h
theorem TdAll.up {H H' : Hp} {t : List Td} {v : List V} (h : TdAll H v t) (e : Ex H H') : TdAll H' v t := TdAll.ex e t v h
theorem TdAll.len {H : Hp} : ∀ {us : List V} {ts : List Td}, TdAll H us ts → us.length = ts.length
  | _, [], h => by
    cases h with
    | nil => rfl
  | _, t :: ts, h => by
    cases h with
    | cons h r => rw [List.length_cons, List.length_cons, TdAll.len r]
theorem TdAll.get {H : Hp} : ∀ {us : List V} {ts : List Td}, TdAll H us ts → ∀ {i : Nat} {v : V}, us[i]? = some v → ∃ t, ts[i]? = some t ∧ TdAt H v t
  | _, [], h, i, v, hv => by
    cases h with
    | nil => simp at hv
  | _, t :: ts, h, i, v, hv => by
    cases h with
    | cons h r =>
      cases i with
      | zero =>
        simp at hv
        subst hv
        exact ⟨t, rfl, h⟩
      | succ i => exact TdAll.get r (i := i) (by simpa using hv)
theorem TdAll.of {H : Hp} : ∀ {us : List V} {ts : List Td}, us.length = ts.length → (∀ (i : Nat) v t, us[i]? = some v → ts[i]? = some t → TdAt H v t) → TdAll H us ts
  | [], [], _, _ => .nil
  | u :: us, t :: ts, hl, h => .cons (h 0 u t rfl rfl) (TdAll.of (by simpa using hl) fun i v t' a b => h (i + 1) v t' (by simpa using a) (by simpa using b))
  | [], _ :: _, hl, _ => by simp at hl
  | _ :: _, [], hl, _ => by simp at hl
theorem TdAt.plain {K : PySem.W.Frag} {H : Hp} {v : V} {t : Td} (h : TdAt H v t) : PlainK K H v := by
  cases h with
  | pl h =>
    cases v with
    | int i => exact pk_int i
    | bl i => exact pk_bl i
    | non => exact pk_non
    | str i => exact pk_str i
    | _ => cases h
  | ls h => exact pk_lst h
  | di h => exact pk_dic h
  | tu h r => exact pk_tup h
def isTu : Td → Bool
  | .tu _ => true
  | _ => false
theorem TdAt.isT {K : PySem.W.Frag} {H : Hp} {v : V} {t : Td} (h : TdAt H v t) : ∃ u : Value, (∀ H1, Ex H H1 → TyX K H1 v u) ∧ PySem.W.kitOne K u (.type "tuple") = some (isTu t) := by
  cases h with
  | pl h =>
    cases v with
    | int i => exact ⟨.type "int", fun _ _ => .base (.int i), kk (b := false) "int" "tuple" (by decide +kernel)⟩
    | bl i => exact ⟨.type "bool", fun _ _ => .base (.bl i), kk (b := false) "bool" "tuple" (by decide +kernel)⟩
    | non => exact ⟨.type "NoneType", fun _ _ => .base .non, kk (b := false) "NoneType" "tuple" (by decide +kernel)⟩
    | str i => exact ⟨.type "str", fun _ _ => .base (.str i), kk (b := false) "str" "tuple" (by decide +kernel)⟩
    | _ => cases h
  | ls h => exact ⟨.type "list", fun _ e => .base (.lst (e _ _ h)), kk (b := false) "list" "tuple" (by decide +kernel)⟩
  | di h => exact ⟨.type "dict", fun _ e => .base (.dK (e _ _ h)), kk (b := false) "dict" "tuple" (by decide +kernel)⟩
  | tu h r => exact ⟨.type "tuple", fun _ e => .base (.tup (e _ _ h)), kk (b := true) "tuple" "tuple" (by decide +kernel)⟩
def isTxt : Td → Bool
  | .pl (.str _) => true
  | _ => false
theorem TdAt.isS {K : PySem.W.Frag} {H : Hp} {v : V} {t : Td} (h : TdAt H v t) : ∃ u : Value, (∀ H1, Ex H H1 → TyX K H1 v u) ∧ PySem.W.kitOne K u (.type "str") = some (isTxt t) := by
  obtain ⟨u, h1, h2, h3, h4⟩ := h.plain (K := K)
  refine ⟨u, h1, ?_⟩
  have e : isTx v = isTxt t := by
    cases h with
    | pl h => cases v <;> first | rfl | cases h
    | _ => rfl
  rw [← e]
  exact h4
def placeB (n : Nat) : Td → Bool
  | .pl (.int i) => within 0 ((n : Int) - 1) i
  | _ => false
def rowB (n : Nat) : Td → Bool
  | .tu xs => decide (xs.length = n) && xs.all (placeB n)
  | _ => false
def tableB (n : Nat) : Td → Bool
  | .tu xs => decide (xs.length = n) && xs.all (rowB n)
  | _ => false
def twoB : Td → Td → Bool
  | .tu xs, b => within 2 6 (xs.length : Int) && (tableB xs.length (.tu xs) && tableB xs.length b)
  | _, _ => false
theorem placeB_at {H : Hp} {v : V} {t : Td} {n : Nat} (h : TdAt H v t) : whB 0 ((n : Int) - 1) v = placeB n t := by
  cases h with
  | pl h => cases v <;> first | rfl | cases h
  | _ => rfl
section
variable {K : PySem.W.Frag} {σ : L2.St} {H : Hp}
theorem ne_len (k n : Nat) : (!((k : Int) == (n : Int))) = !decide (k = n) := by
  by_cases h : k = n
  · subst h
    simp
  · rw [decide_eq_false h]
    have : ((k : Int) == (n : Int)) = false := by
      rw [beq_eq_false_iff_ne]
      omega
    rw [this]
end
section
variable {P : Program} {w : World} {K : PySem.W.Frag} {mg : Str → Option Value} {base : Heap}
def spRowT : Sp := fun vs H Q _ => ∃ (v : V) (t : Td) (n : Nat), vs = [v, .int n] ∧ TdAt H v t ∧ n ≤ 40000 ∧ ∀ H', Ex H H' → Q (.bl (rowB n t)) H'
def spTableT : Sp := fun vs H Q _ => ∃ (v : V) (t : Td) (n : Nat), vs = [v, .int n] ∧ TdAt H v t ∧ n ≤ 40000 ∧ ∀ H', Ex H H' → Q (.bl (tableB n t)) H'
def spTwoT : Sp := fun vs H Q _ => ∃ (v u : V) (t r : Td), vs = [v, u] ∧ TdAt H v t ∧ TdAt H u r ∧ ∀ H', Ex H H' → Q (.bl (twoB t r)) H'
theorem ok_T__is_row {f : Addr} {fd : FuncData} (F : FnP K "_is_row" s__is_row f fd) {f_is_whole : Addr} {fd_is_whole : FuncData} (F_is_whole : FnP K "is_whole" s_is_whole f_is_whole fd_is_whole) (g_is_whole : mg "is_whole" = some (.ref f_is_whole)) (G_is_whole : FnOk P w K mg base CX0 2 f_is_whole fd_is_whole ["thing", "least", "most"] (spWholeP K)) (z_isinstance : mg "isinstance" = none) (z_tuple : mg "tuple" = none) (z_len : mg "len" = none) (z_all : mg "all" = none) : FnOk P w K mg base CX0 3 f fd ["thing", "size"] spRowT := by
  have b_is_whole : Binds K fd_is_whole ["thing", "least", "most"] [] := F_is_whole.bindsN fun _ _ _ _ _ _ us hl => match us, hl with | [_, _, _], _ => rfl
  refine F.ok sc__is_row (fun vs H Q E h => ?_) (fun cdv A outer s H vs Q E hr h => ?_)
  · obtain ⟨v, t, n, rfl, _⟩ := h
    rfl
  · obtain ⟨v, t, n, rfl, hT, hn, q⟩ := h
    have hu := hu_of hr
    have hu64 := hr.units
    have hr_is_whole := hr.mono (by decide : 2 ≤ 2)
    refine ⟨_, PSs.nox (pss_cons (ps_if (PW.pt (pw_or (pt_not (pt_val (pe_callB call_isi (by rfl) z_isinstance PyProof.Rows.boot_isinstance (pa_cons (pv 0) (pa_cons (pe_bltn (v := .ty "tuple") rfl z_tuple (by decide +kernel) rfl) pa_nil))))) (pw_or1 (pt_cmpR op_ne (pe_callB call_len_seq (by rfl) z_len PySem.boot_len (pa_cons (pv 0) pa_nil)) (pv 1) (nomark _))))) (pss_one (ps_ret pe_bl)) pss_nil)
      (pss_one (ps_ret (pe_callB (cr_all rfl) (by rfl) z_all PyProof.Rows.boot_all (pa_cons (pe_lc (own := [("place", 2)]) (g := gName 2) (tt := tYes) (by rfl) sc__is_row.nd (pi_tup (pv 0)) (blkOk_by (own := [("place", 2)]) (N := ["thing", "size", "place"]) (sc := defScope s__is_row) (by decide +kernel)) (fun _ _ _ _ _ => pg_name (i := 2) sc__is_row.nd rfl (Or.inl rfl)) (fun _ _ _ _ _ => pts_nil) (fun _ _ _ _ _ => pe_call G_is_whole hr_is_whole rfl g_is_whole F_is_whole.kp b_is_whole .nil pass0 (pa_cons (pv 2) (pa_cons pe_int (pa_cons (pe_op op_sub (pv 1) pe_int) pa_nil))))) pa_nil))))), ?_⟩
    obtain ⟨ty, hty, kt⟩ := hT.isT (K := K)
    cases t with
    | tu ts =>
      cases hT with
      | @tu a us _ ha r =>
      have hS : SqT K H a us := .inl (.inl ha)
      have hlen := r.len
      refine q_when (b := !decide (ts.length = n)) (et_is (et_or (et_not (et_B (ev_isi0 (ev_var rfl) hty kt (.ty "tuple")))) (fun _ => et_test (ev_neI (ev_lenT (ev_var rfl) hS) (ev_var rfl)))) ?_) (fun hb H1 e1 => ?_) (fun hb H1 e1 => ?_)
      · rw [hlen]
        show (false || !((ts.length : Int) == (n : Int))) = _
        rw [Bool.false_or, ne_len]
      · refine s_ret ev_c fun H2 e2 => ?_
        have e : rowB n (.tu ts) = false := by
          have : decide (ts.length = n) = false := by simpa using hb
          show (decide (ts.length = n) && _) = false
          rw [this, Bool.false_and]
        rw [e] at q
        exact q H2 (e1.trans e2)
      · have hl : ts.length = n := by simpa using hb
        refine s_ret (ev_allT (j := 2) (vs := [2]) (fun i => placeB n (ts.getD i .ls)) (ev_var rfl) (ex_t e1 hS) (by omega) (fun x => rfl) ?_) ?_
        · intro i x H2 e2 hx
          obtain ⟨t', ht', hat⟩ := r.get hx
          have hg : ts.getD i .ls = t' := by
            rw [List.getD_eq_getElem?_getD, ht']
            rfl
          rw [hg]
          rw [← placeB_at hat]
          exact ev_call (ea_cons (ev_var rfl) (ea_cons ev_c (ea_cons (ev_op (ev_var rfl) ev_c rv_I0) ea_nil))) fun H3 e3 Q' q' E' => ⟨x, _, _, rfl, (hat.up (e1.trans (e2.trans e3))).plain, fun H4 e4 => q' H4 e4⟩
        · intro H2 e2
          have e : rowB n (.tu ts) = (List.range us.length).all fun i => placeB n (ts.getD i .ls) := by
            show (decide (ts.length = n) && ts.all (placeB n)) = _
            rw [decide_eq_true hl, Bool.true_and, hlen, all_rangeD]
          rw [← e]
          exact q H2 (e1.trans e2)
    | _ =>
      refine q_when (b := true) (et_is (et_or (a := true) (b := true) (et_not (et_B (ev_isi0 (ev_var rfl) hty kt (.ty "tuple")))) (fun hb => (by cases hb))) rfl) (fun _ H1 e1 => ?_) (fun hb => (by cases hb))
      exact s_ret ev_c fun H2 e2 => q H2 (e1.trans e2)
theorem ok_T__is_table {f : Addr} {fd : FuncData} (F : FnP K "_is_table" s__is_table f fd) {f__is_row : Addr} {fd__is_row : FuncData} (F__is_row : FnP K "_is_row" s__is_row f__is_row fd__is_row) (g__is_row : mg "_is_row" = some (.ref f__is_row)) (G__is_row : FnOk P w K mg base CX0 3 f__is_row fd__is_row ["thing", "size"] spRowT) (z_isinstance : mg "isinstance" = none) (z_tuple : mg "tuple" = none) (z_len : mg "len" = none) (z_all : mg "all" = none) : FnOk P w K mg base CX0 4 f fd ["thing", "size"] spTableT := by
  have b__is_row : Binds K fd__is_row ["thing", "size"] [] := F__is_row.bindsN fun _ _ _ _ _ _ us hl => match us, hl with | [_, _], _ => rfl
  refine F.ok sc__is_table (fun vs H Q E h => ?_) (fun cdv A outer s H vs Q E hr h => ?_)
  · obtain ⟨v, t, n, rfl, _⟩ := h
    rfl
  · obtain ⟨v, t, n, rfl, hT, hn, q⟩ := h
    have hu := hu_of hr
    have hu64 := hr.units
    have hr__is_row := hr.mono (by decide : 3 ≤ 3)
    refine ⟨_, PSs.nox (pss_cons (ps_if (PW.pt (pw_or (pt_not (pt_val (pe_callB call_isi (by rfl) z_isinstance PyProof.Rows.boot_isinstance (pa_cons (pv 0) (pa_cons (pe_bltn (v := .ty "tuple") rfl z_tuple (by decide +kernel) rfl) pa_nil))))) (pw_or1 (pt_cmpR op_ne (pe_callB call_len_seq (by rfl) z_len PySem.boot_len (pa_cons (pv 0) pa_nil)) (pv 1) (nomark _))))) (pss_one (ps_ret pe_bl)) pss_nil)
      (pss_one (ps_ret (pe_callB (cr_all rfl) (by rfl) z_all PyProof.Rows.boot_all (pa_cons (pe_lc (own := [("row", 2)]) (g := gName 2) (tt := tYes) (by rfl) sc__is_table.nd (pi_tup (pv 0)) (blkOk_by (own := [("row", 2)]) (N := ["thing", "size", "row"]) (sc := defScope s__is_table) (by decide +kernel)) (fun _ _ _ _ _ => pg_name (i := 2) sc__is_table.nd rfl (Or.inl rfl)) (fun _ _ _ _ _ => pts_nil) (fun _ _ _ _ _ => pe_call G__is_row hr__is_row rfl g__is_row F__is_row.kp b__is_row .nil pass0 (pa_cons (pv 2) (pa_cons (pv 1) pa_nil)))) pa_nil))))), ?_⟩
    obtain ⟨ty, hty, kt⟩ := hT.isT (K := K)
    cases t with
    | tu ts =>
      cases hT with
      | @tu a us _ ha r =>
      have hS : SqT K H a us := .inl (.inl ha)
      have hlen := r.len
      refine q_when (b := !decide (ts.length = n)) (et_is (et_or (et_not (et_B (ev_isi0 (ev_var rfl) hty kt (.ty "tuple")))) (fun _ => et_test (ev_neI (ev_lenT (ev_var rfl) hS) (ev_var rfl)))) ?_) (fun hb H1 e1 => ?_) (fun hb H1 e1 => ?_)
      · rw [hlen]
        show (false || !((ts.length : Int) == (n : Int))) = _
        rw [Bool.false_or, ne_len]
      · refine s_ret ev_c fun H2 e2 => ?_
        have e : tableB n (.tu ts) = false := by
          have : decide (ts.length = n) = false := by simpa using hb
          show (decide (ts.length = n) && _) = false
          rw [this, Bool.false_and]
        rw [e] at q
        exact q H2 (e1.trans e2)
      · have hl : ts.length = n := by simpa using hb
        refine s_ret (ev_allT (j := 2) (vs := [2]) (fun i => rowB n (ts.getD i .ls)) (ev_var rfl) (ex_t e1 hS) (by omega) (fun x => rfl) ?_) ?_
        · intro i x H2 e2 hx
          obtain ⟨t', ht', hat⟩ := r.get hx
          have hg : ts.getD i .ls = t' := by
            rw [List.getD_eq_getElem?_getD, ht']
            rfl
          rw [hg]
          exact ev_call (ea_cons (ev_var rfl) (ea_cons (ev_var rfl) ea_nil)) fun H3 e3 Q' q' E' => ⟨x, t', n, rfl, hat.up (e1.trans (e2.trans e3)), hn, fun H4 e4 => q' H4 e4⟩
        · intro H2 e2
          have e : tableB n (.tu ts) = (List.range us.length).all fun i => rowB n (ts.getD i .ls) := by
            show (decide (ts.length = n) && ts.all (rowB n)) = _
            rw [decide_eq_true hl, Bool.true_and, hlen, all_rangeD]
          rw [← e]
          exact q H2 (e1.trans e2)
    | _ =>
      refine q_when (b := true) (et_is (et_or (a := true) (b := true) (et_not (et_B (ev_isi0 (ev_var rfl) hty kt (.ty "tuple")))) (fun hb => (by cases hb))) rfl) (fun _ H1 e1 => ?_) (fun hb => (by cases hb))
      exact s_ret ev_c fun H2 e2 => q H2 (e1.trans e2)
theorem ok_T__are_tables {f : Addr} {fd : FuncData} (F : FnP K "_are_tables" s__are_tables f fd) {f_is_whole : Addr} {fd_is_whole : FuncData} (F_is_whole : FnP K "is_whole" s_is_whole f_is_whole fd_is_whole) (g_is_whole : mg "is_whole" = some (.ref f_is_whole)) (G_is_whole : FnOk P w K mg base CX0 2 f_is_whole fd_is_whole ["thing", "least", "most"] (spWholeP K)) {f__is_table : Addr} {fd__is_table : FuncData} (F__is_table : FnP K "_is_table" s__is_table f__is_table fd__is_table) (g__is_table : mg "_is_table" = some (.ref f__is_table)) (G__is_table : FnOk P w K mg base CX0 4 f__is_table fd__is_table ["thing", "size"] spTableT) {aT : Addr} (TH : ThingsK K mg aT) (z_isinstance : mg "isinstance" = none) (z_tuple : mg "tuple" = none) (z_len : mg "len" = none) : FnOk P w K mg base CX0 5 f fd ["sums", "products"] spTwoT := by
  have b_is_whole : Binds K fd_is_whole ["thing", "least", "most"] [] := F_is_whole.bindsN fun _ _ _ _ _ _ us hl => match us, hl with | [_, _, _], _ => rfl
  have b__is_table : Binds K fd__is_table ["thing", "size"] [] := F__is_table.bindsN fun _ _ _ _ _ _ us hl => match us, hl with | [_, _], _ => rfl
  refine F.ok sc__are_tables (fun vs H Q E h => ?_) (fun cdv A outer s H vs Q E hr h => ?_)
  · obtain ⟨v, u, t, r, rfl, _⟩ := h
    rfl
  · obtain ⟨v, u, t, r, rfl, hT, hU, q⟩ := h
    have hu := hu_of hr
    have hu64 := hr.units
    have hr_is_whole := hr.mono (by decide : 2 ≤ 4)
    have hr__is_table := hr.mono (by decide : 4 ≤ 4)
    refine ⟨_, PSs.nox (pss_cons (ps_if (PW.pt (pw_or (pt_not (pt_val (pe_callB call_isi (by rfl) z_isinstance PyProof.Rows.boot_isinstance (pa_cons (pv 0) (pa_cons (pe_bltn (v := .ty "tuple") rfl z_tuple (by decide +kernel) rfl) pa_nil))))) (pw_or1 (pt_not (pt_val (pe_call G_is_whole hr_is_whole rfl g_is_whole F_is_whole.kp b_is_whole .nil pass0 (pa_cons (pe_callB call_len_seq (by rfl) z_len PySem.boot_len (pa_cons (pv 0) pa_nil)) (pa_cons (pe_ix ix_tup (pe_glob (v := .ref aT) rfl TH.g rfl) pe_int (fun _ _ => rfl)) (pa_cons (pe_ix ix_tup (pe_glob (v := .ref aT) rfl TH.g rfl) pe_int (fun _ _ => rfl)) pa_nil))))))))) (pss_one (ps_ret pe_bl)) pss_nil)
      (pss_one (ps_ret (pe_and (pe_call G__is_table hr__is_table rfl g__is_table F__is_table.kp b__is_table .nil pass0 (pa_cons (pv 0) (pa_cons (pe_callB call_len_seq (by rfl) z_len PySem.boot_len (pa_cons (pv 0) pa_nil)) pa_nil))) (pe_one (pe_call G__is_table hr__is_table rfl g__is_table F__is_table.kp b__is_table .nil pass0 (pa_cons (pv 1) (pa_cons (pe_callB call_len_seq (by rfl) z_len PySem.boot_len (pa_cons (pv 0) pa_nil)) pa_nil)))))))), ?_⟩
    obtain ⟨ty, hty, kt⟩ := hT.isT (K := K)
    cases t with
    | tu ts =>
      cases id hT with
      | @tu a us _ ha rr =>
      have hS : SqT K H a us := .inl (.inl ha)
      have hlen := rr.len
      have hlenI : (us.length : Int) = (ts.length : Int) := by rw [hlen]
      refine q_when (b := !within 2 6 (ts.length : Int)) (et_is (et_or (et_not (et_B (ev_isi0 (ev_var rfl) hty kt (.ty "tuple")))) (fun _ => et_not (et_B (ev_call (z := .bl (within 2 6 (ts.length : Int))) (ea_cons (ev_lenT (ev_var rfl) hS) (ea_cons (ev_op ev_c ev_c (rv_ixT (TH.at_ H) (v := .int 2) rfl)) (ea_cons (ev_op ev_c ev_c (rv_ixT (TH.at_ H) (v := .int 6) rfl)) ea_nil))) fun H1 e1 Q' q' E' => ⟨_, _, _, rfl, pk_int _, fun H2 e2 => (by
        show Q' (.bl (within 2 6 (us.length : Int))) H2
        rw [hlenI] at *
        exact q' H2 e2)⟩)))) rfl) (fun hb H1 e1 => ?_) (fun hb H1 e1 => ?_)
      · refine s_ret ev_c fun H2 e2 => ?_
        have e : twoB (.tu ts) r = false := by
          have : within 2 6 (ts.length : Int) = false := by simpa using hb
          show (within 2 6 (ts.length : Int) && _) = false
          rw [this, Bool.false_and]
        rw [e] at q
        exact q H2 (e1.trans e2)
      · have hw : within 2 6 (ts.length : Int) = true := by simpa using hb
        have hn : ts.length ≤ 40000 := by
          unfold within at hw
          have := of_decide_eq_true (Bool.and_eq_true_iff.mp hw).2
          omega
        have e : twoB (.tu ts) r = (tableB ts.length (.tu ts) && tableB ts.length r) := by
          show (within 2 6 (ts.length : Int) && (tableB ts.length (.tu ts) && tableB ts.length r)) = _
          rw [hw, Bool.true_and]
        rw [e] at q
        refine s_ret (ev_andV (ev_call (z := .bl (tableB ts.length (.tu ts))) (ea_cons (ev_var rfl) (ea_cons (ev_lenT (ev_var rfl) (ex_t e1 hS)) ea_nil)) fun H2 e2 Q' q' E' => ⟨_, .tu ts, ts.length, by rw [hlen]; rfl, hT.up (e1.trans e2), hn, fun H3 e3 => q' H3 e3⟩) fun _ => ev_call (z := .bl (tableB ts.length r)) (ea_cons (ev_var rfl) (ea_cons (ev_lenT (ev_var rfl) (ex_t e1 hS)) ea_nil)) fun H2 e2 Q' q' E' => ⟨_, r, ts.length, by rw [hlen]; rfl, hU.up (e1.trans e2), hn, fun H3 e3 => q' H3 e3⟩) fun H2 e2 => q H2 (e1.trans e2)
    | _ =>
      refine q_when (b := true) (et_is (et_or (a := true) (b := true) (et_not (et_B (ev_isi0 (ev_var rfl) hty kt (.ty "tuple")))) (fun hb => (by cases hb))) rfl) (fun _ H1 e1 => ?_) (fun hb => (by cases hb))
      exact s_ret ev_c fun H2 e2 => q H2 (e1.trans e2)
end
end D1
end
section
set_option Elab.async false
set_option linter.all false
set_option maxRecDepth 100000
set_option maxHeartbeats 400000
/-! F3: whether a thing of any form has a ring's -/
namespace D1
open PySem L2 Evl RZ ClX PySem.VX
inductive Fo where
  | one (t : Td)
  | pair (a b : Fo)
def Fo.depth : Fo → Nat
  | .pair a b => max a.depth b.depth + 1
  | _ => 0
def FoAt (H : Hp) : V → Fo → Prop
  | v, .one t => TdAt H v t
  | v, .pair x y => ∃ a u u', v = .ref a ∧ H a = some (.tup [.str "pair", u, u']) ∧ FoAt H u x ∧ FoAt H u' y
theorem FoAt.ex {H H' : Hp} (e : Ex H H') : ∀ {m : Fo} {v : V}, FoAt H v m → FoAt H' v m
  | .one t, v, h => TdAt.up (show TdAt H v t from h) e
  | .pair x y, v, ⟨a, u, u', h1, h2, h3, h4⟩ => ⟨a, u, u', h1, e _ _ h2, FoAt.ex e h3, FoAt.ex e h4⟩
/-- a head that is a text is one of two -/
def Td.fine (t : Td) : Prop := ∀ z r, t = .tu (.pl (.str z) :: r) → z = "table" ∨ z = "tables"
def Fo.fine : Fo → Prop
  | .one t => t.fine
  | .pair a b => a.fine ∧ b.fine
def oneB : Td → Bool
  | .tu [.pl (.str z), a, b] => (z == "table") && twoB a b
  | _ => false
def formF : Fo → Nat → Bool
  | .one t, _ => oneB t
  | .pair _ _, 0 => false
  | .pair x y, k + 1 => formF x k && formF y k
structure SizesT (K : PySem.W.Frag) (w : World) (mg : Str → Option Value) (d : Addr) (es : Array DictEntry) (n : Nat) : Prop where
  g : mg "_SIZES" = some (.ref d)
  D : KDict K w d es n
  tab : PySem.W.nsIn K d "table" = some none
  tabs : PySem.W.nsIn K d "tables" = some none
  pair : PySem.W.nsIn K d "pair" = some none
def spFormT (d : Nat) : Sp := fun vs H Q _ => ∃ (v : V) (m : Fo) (k : Nat), vs = [v, .int k] ∧ FoAt H v m ∧ m.depth < d ∧ m.fine ∧ ∀ H', Ex H H' → Q (.bl (formF m k)) H'
theorem oneB_no {t : Td} {r : List Td} (h : isTxt t = false) : oneB (.tu (t :: r)) = false := by
  unfold oneB
  split
  · rename_i z a b e
    injection e with e
    injection e with e1 e2
    rw [e1] at h
    cases h
  · rfl
theorem oneB_other {z : Str} {tr : List Td} (hn : ∀ x y, tr = [x, y] → z ≠ "table") : oneB (.tu (.pl (.str z) :: tr)) = false := by
  match tr, hn with
  | [x, y], hn =>
    show ((z == "table") && twoB x y) = false
    have : (z == ("table" : Str)) = false := beq_eq_false_iff_ne.mpr (hn x y rfl)
    rw [this, Bool.false_and]
  | [], _ => rfl
  | [_], _ => rfl
  | _ :: _ :: _ :: _, _ => rfl
theorem two_of {α : Type} {l : List α} (h : l.length = 2) : ∃ x y, l = [x, y] := by
  match l, h with
  | [x, y], _ => exact ⟨x, y, rfl⟩
section
variable {P : Program} {w : World} {K : PySem.W.Frag} {mg : Str → Option Value} {base : Heap}
theorem ok_T__has_form {f : Addr} {fd : FuncData} (F : FnP K "_has_form" s__has_form f fd) (g__has_form : mg "_has_form" = some (.ref f)) {f_is_whole : Addr} {fd_is_whole : FuncData} (F_is_whole : FnP K "is_whole" s_is_whole f_is_whole fd_is_whole) (g_is_whole : mg "is_whole" = some (.ref f_is_whole)) (G_is_whole : FnOk P w K mg base CX0 2 f_is_whole fd_is_whole ["thing", "least", "most"] (spWholeP K)) {f__are_tables : Addr} {fd__are_tables : FuncData} (F__are_tables : FnP K "_are_tables" s__are_tables f__are_tables fd__are_tables) (g__are_tables : mg "_are_tables" = some (.ref f__are_tables)) (G__are_tables : FnOk P w K mg base CX0 5 f__are_tables fd__are_tables ["sums", "products"] spTwoT) {dS aB : Addr} {es : Array DictEntry} {nS : Nat} (SZ : SizesT K w mg dS es nS) (BA : BareK K mg aB) (z_isinstance : mg "isinstance" = none) (z_tuple : mg "tuple" = none) (z_len : mg "len" = none) (z_str : mg "str" = none) : ∀ d : Nat, FnOk P w K mg base CX0 (d + 5) f fd ["made", "deep"] (spFormT d) := by
  have F__has_form := F
  have b__has_form : Binds K fd ["made", "deep"] [] := F__has_form.bindsN fun _ _ _ _ _ _ us hl => match us, hl with | [_, _], _ => rfl
  have b_is_whole : Binds K fd_is_whole ["thing", "least", "most"] [] := F_is_whole.bindsN fun _ _ _ _ _ _ us hl => match us, hl with | [_, _, _], _ => rfl
  have b__are_tables : Binds K fd__are_tables ["sums", "products"] [] := F__are_tables.bindsN fun _ _ _ _ _ _ us hl => match us, hl with | [_, _], _ => rfl
  intro d
  induction d with
  | zero =>
    refine ⟨fun vs H Q E h => ?_, fun A outer s H args us vs Q E hr e0 hb r h => ?_⟩
    · obtain ⟨v, m, k, _, _, h, _⟩ := h
      exact absurd h (Nat.not_lt_zero _)
    · obtain ⟨v, m, k, _, _, h, _⟩ := h
      exact absurd h (Nat.not_lt_zero _)
  | succ d ih =>
    have G__has_form := ih
    refine F.ok sc__has_form (fun vs H Q E h => ?_) (fun cdv A outer s H vs Q E hr h => ?_)
    · obtain ⟨v, m, k, rfl, _⟩ := h
      rfl
    · obtain ⟨v, m, k, rfl, hM, hdep, hfi, q⟩ := h
      have hu := hu_of hr
      have hr__has_form := hr
      have hr_is_whole := hr.mono (by omega : 2 ≤ d + 5)
      have hr__are_tables := hr.mono (by omega : 5 ≤ d + 5)
      refine ⟨_, PSs.nox (pss_cons (ps_if (PW.pt (pw_or (pt_not (pt_val (pe_callB call_isi (by rfl) z_isinstance PyProof.Rows.boot_isinstance (pa_cons (pv 0) (pa_cons (pe_bltn (v := .ty "tuple") rfl z_tuple (by decide +kernel) rfl) pa_nil))))) (pw_or (pt_cmpR op_eq (pe_callB call_len_seq (by rfl) z_len PySem.boot_len (pa_cons (pv 0) pa_nil)) pe_int (nomark _)) (pw_or1 (pt_not (pt_val (pe_callB call_isi (by rfl) z_isinstance PyProof.Rows.boot_isinstance (pa_cons (pe_ix ix_tup (pv 0) pe_int (fun _ _ => rfl)) (pa_cons (pe_bltn (v := .ty "str") rfl z_str (by decide +kernel) rfl) pa_nil))))))))) (pss_one (ps_ret pe_bl)) pss_nil)
      (pss_cons (ps_set (i := 2) sc__has_form.nd rfl (Or.inl rfl) (pe_ix ix_tup (pv 0) pe_int (fun _ _ => rfl)))
      (pss_cons (ps_if (pt_cmpR (op_in_kd SZ.D) (pv 2) (pe_glob (v := .ref dS) rfl SZ.g rfl) (by rfl)) (pss_cons (ps_asg (pe_ix ix_kdict (pe_glob (v := .ref dS) rfl SZ.g rfl) (pv 2) (fun _ _ => rfl)) (pg_tup rfl (pgs_cons (pg_name (i := 3) sc__has_form.nd rfl (Or.inl rfl)) (pgs_cons (pg_name (i := 4) sc__has_form.nd rfl (Or.inl rfl)) pgs_nil))))
      (pss_one (ps_ret (pe_and (pe_cmpR op_eq (pe_callB call_len_seq (by rfl) z_len PySem.boot_len (pa_cons (pv 0) pa_nil)) pe_int (nomark _)) (pe_one (pe_call G_is_whole hr_is_whole rfl g_is_whole F_is_whole.kp b_is_whole .nil pass0 (pa_cons (pe_ix ix_tup (pv 0) pe_int (fun _ _ => rfl)) (pa_cons (pv 3) (pa_cons (pv 4) pa_nil))))))))) pss_nil)
      (pss_cons (ps_if (PW.pt (pw_and (pt_cmpR op_eq (pe_callB call_len_seq (by rfl) z_len PySem.boot_len (pa_cons (pv 0) pa_nil)) pe_int (nomark _)) (pw_and1 (pt_cmpR op_eq (pv 2) pe_str (nomark _))))) (pss_one (ps_ret (pe_call G__are_tables hr__are_tables rfl g__are_tables F__are_tables.kp b__are_tables .nil pass0 (pa_cons (pe_ix ix_tup (pv 0) pe_int (fun _ _ => rfl)) (pa_cons (pe_ix ix_tup (pv 0) pe_int (fun _ _ => rfl)) pa_nil))))) pss_nil)
      (pss_cons (ps_if (PW.pt (pw_and (pt_cmpR op_eq (pe_callB call_len_seq (by rfl) z_len PySem.boot_len (pa_cons (pv 0) pa_nil)) pe_int (nomark _)) (pw_and1 (pt_cmpR op_eq (pv 2) pe_str (nomark _))))) (pss_one (ps_ret (pe_and (pe_cmpR op_gt (pv 1) pe_int (nomark _)) (pe_and (pe_call G__has_form hr__has_form rfl g__has_form F__has_form.kp b__has_form .nil pass0 (pa_cons (pe_ix ix_tup (pv 0) pe_int (fun _ _ => rfl)) (pa_cons (pe_op op_sub (pv 1) pe_int) pa_nil))) (pe_one (pe_call G__has_form hr__has_form rfl g__has_form F__has_form.kp b__has_form .nil pass0 (pa_cons (pe_ix ix_tup (pv 0) pe_int (fun _ _ => rfl)) (pa_cons (pe_op op_sub (pv 1) pe_int) pa_nil)))))))) pss_nil)
      (pss_one (ps_ret (pe_and (pe_cmpR op_eq (pe_callB call_len_seq (by rfl) z_len PySem.boot_len (pa_cons (pv 0) pa_nil)) pe_int (nomark _)) (pe_one (pe_cmpR op_in_seq (pv 2) (pe_glob (v := .ref aB) rfl BA.g rfl) (by rfl))))))))))), ?_⟩
      cases m with
      | one t =>
        have hT : TdAt H v t := hM
        have hfin : t.fine := hfi
        have q : ∀ H', Ex H H' → Q (.bl (oneB t)) H' := q
        obtain ⟨ty, hty, kt⟩ := hT.isT (K := K)
        cases t with
        | tu ts =>
          cases hT with
          | @tu a us _ ha r =>
          have hS : SqT K H a us := .inl (.inl ha)
          cases ts with
          | nil =>
            cases r with
            | nil =>
            refine q_when (b := true) (et_is (et_or (a := false) (b := true) (et_not (et_B (ev_isi0 (ev_var rfl) hty kt (.ty "tuple")))) (fun _ => et_or (a := true) (b := true) (et_is (et_test (ev_eqI (ev_lenT (ev_var rfl) hS) ev_c)) rfl) (fun hb => (by cases hb)))) rfl) (fun _ H1 e1 => ?_) (fun hb => (by cases hb))
            exact s_ret ev_c fun H2 e2 => q H2 (e1.trans e2)
          | cons t0 tr =>
            cases r with
            | @cons u0 ur _ _ h0 r =>
            obtain ⟨ty0, hty0, ks⟩ := h0.isS (K := K)
            have hlen := r.len
            have l0 : (((u0 :: ur).length : Nat) : Int) = ((tr.length : Nat) : Int) + 1 := by rw [List.length_cons, hlen]; omega
            have n0 : ((((u0 :: ur).length : Nat) : Int) == 0) = false := by
              rw [beq_eq_false_iff_ne]
              omega
            refine q_when (b := !isTxt t0) (et_is (et_or (a := false) (b := !isTxt t0) (et_not (et_B (ev_isi0 (ev_var rfl) hty kt (.ty "tuple")))) (fun _ => et_is (et_or (a := false) (b := !isTxt t0) (et_is (et_test (ev_eqI (ev_lenT (ev_var rfl) hS) ev_c)) n0) (fun _ => et_not (et_B (ev_isi0 (ev_op (ev_var rfl) ev_c (rv_ixT hS (v := u0) (atI_of (Int.le_refl 0) rfl))) hty0 ks (.ty "str"))))) (Bool.false_or _))) (Bool.false_or _)) (fun hb H1 e1 => ?_) (fun hb H1 e1 => ?_)
            · rw [oneB_no (by simpa using hb)] at q
              exact s_ret ev_c fun H2 e2 => q H2 (e1.trans e2)
            · have hx : isTxt t0 = true := by simpa using hb
              obtain ⟨z, rfl⟩ : ∃ z, t0 = .pl (.str z) := by
                cases t0 with
                | pl v => cases v <;> first | exact ⟨_, rfl⟩ | cases hx
                | _ => cases hx
              obtain rfl : u0 = .str z := by
                cases h0
                rfl
              refine q_asg (ev_op (ev_var rfl) ev_c (rv_ixT (ex_t e1 hS) (v := .str z) (atI_of (Int.le_refl 0) rfl))) fun H2 e2 => ?_
              have e3 := e1.trans e2
              have hS2 := ex_t e3 hS
              have fin : ∀ {H3 : Hp}, Ex H H3 → (∀ x y, tr = [x, y] → z ≠ "table") → oneB (.tu (.pl (.str z) :: tr)) = false := fun {H3} _ hn => by
                exact oneB_other hn
              rcases hfin z tr rfl with rfl | rfl
              · refine q_when (b := false) (et_test (ev_op (ev_var rfl) ev_c fun H3 _ Q' k => ⟨_, none, rfl, rfl, SZ.tab, k H3 (Ex.refl H3)⟩)) (fun hb => (by cases hb)) (fun _ H3 e4 => ?_)
                refine q_when (b := ((((V.str "table" :: ur).length : Nat) : Int) == 3)) (et_is (et_and (et_test (ev_eqI (ev_lenT (ev_var rfl) (ex_t e4 hS2)) ev_c)) (fun _ => et_is (et_test (ev_eqS (ev_var rfl) ev_c)) (b := true) rfl)) (Bool.and_true _)) (fun h3 H4 e5 => ?_) (fun h3 H4 e5 => ?_)
                · have e6 := (e3.trans e4).trans e5
                  have l3 : tr.length = 2 := by
                    have := eq_of_beq h3
                    omega
                  obtain ⟨x, y, rfl⟩ := two_of l3
                  cases r with
                  | @cons u _ _ _ hx r =>
                  cases r with
                  | @cons u' _ _ _ hy r =>
                  cases r with
                  | nil =>
                    refine s_ret (ev_call (z := .bl (twoB x y)) (ea_cons (ev_op (ev_var rfl) ev_c (rv_ixT (ex_t e6 hS) (v := u) rfl)) (ea_cons (ev_op (ev_var rfl) ev_c (rv_ixT (ex_t e6 hS) (v := u') rfl)) ea_nil)) fun H5 e7 Q' k' E' => ⟨u, u', x, y, rfl, hx.up (e6.trans e7), hy.up (e6.trans e7), fun H6 e8 => k' H6 e8⟩) fun H5 e7 => ?_
                    have := q H5 (e6.trans e7)
                    exact this
                · have hn : ∀ x y, tr = [x, y] → ("table" : Str) ≠ "table" := fun x y h => by
                    subst h
                    rw [l0] at h3
                    cases h3
                  rw [fin e3 hn] at q
                  refine q_when (b := false) (et_is (et_and (et_test (ev_eqI (ev_lenT (ev_var rfl) (ex_t ((e3.trans e4).trans e5) hS)) ev_c)) (fun _ => et_is (et_test (ev_eqS (ev_var rfl) ev_c)) (b := false) rfl)) (Bool.and_false _)) (fun hb => (by cases hb)) (fun _ H5 e6 => ?_)
                  have e7 := ((e3.trans e4).trans e5).trans e6
                  exact s_ret (ev_is (w := .bl false) (ev_andV (b := false) (ev_eqI (ev_lenT (ev_var rfl) (ex_t e7 hS)) ev_c) (fun _ => ev_is (w := .bl false) (ev_op (ev_var rfl) ev_c (rv_inT (BA.at_ H5) rfl rfl)) rfl)) (by rw [Bool.and_false])) fun H6 e8 => q H6 (e7.trans e8)
              · have hn : ∀ x y, tr = [x, y] → ("tables" : Str) ≠ "table" := fun x y h => by decide
                rw [fin e3 hn] at q
                refine q_when (b := false) (et_test (ev_op (ev_var rfl) ev_c fun H3 _ Q' k => ⟨_, none, rfl, rfl, SZ.tabs, k H3 (Ex.refl H3)⟩)) (fun hb => (by cases hb)) (fun _ H3 e4 => ?_)
                refine q_when (b := false) (et_is (et_and (et_test (ev_eqI (ev_lenT (ev_var rfl) (ex_t e4 hS2)) ev_c)) (fun _ => et_is (et_test (ev_eqS (ev_var rfl) ev_c)) (b := false) rfl)) (Bool.and_false _)) (fun hb => (by cases hb)) (fun _ H4 e5 => ?_)
                refine q_when (b := false) (et_is (et_and (et_test (ev_eqI (ev_lenT (ev_var rfl) (ex_t ((e3.trans e4).trans e5) hS)) ev_c)) (fun _ => et_is (et_test (ev_eqS (ev_var rfl) ev_c)) (b := false) rfl)) (Bool.and_false _)) (fun hb => (by cases hb)) (fun _ H5 e6 => ?_)
                have e7 := ((e3.trans e4).trans e5).trans e6
                exact s_ret (ev_is (w := .bl false) (ev_andV (b := false) (ev_eqI (ev_lenT (ev_var rfl) (ex_t e7 hS)) ev_c) (fun _ => ev_is (w := .bl false) (ev_op (ev_var rfl) ev_c (rv_inT (BA.at_ H5) rfl rfl)) rfl)) (by rw [Bool.and_false])) fun H6 e8 => q H6 (e7.trans e8)
        | _ =>
          refine q_when (b := true) (et_is (et_or (a := true) (b := true) (et_not (et_B (ev_isi0 (ev_var rfl) hty kt (.ty "tuple")))) (fun hb => (by cases hb))) rfl) (fun _ H1 e1 => ?_) (fun hb => (by cases hb))
          exact s_ret ev_c fun H2 e2 => q H2 (e1.trans e2)
      | pair x y =>
        obtain ⟨a, u, u', rfl, ha, hx, hy⟩ := hM
        have hS : SqT K H a [.str "pair", u, u'] := .inl (.inl ha)
        have hdep2 : max x.depth y.depth + 1 < d + 1 := hdep
        have sx : x.fine := hfi.1
        have sy : y.fine := hfi.2
        refine q_when (b := false) (et_is (et_or (et_not (et_B (ev_isi (T := "tuple") (ev_var rfl) (tup_ty ha) kit_tt (.ty "tuple")))) (fun _ => et_or (a := false) (et_is (et_test (ev_eqI (ev_lenT (ev_var rfl) hS) ev_c)) rfl) (fun _ => et_not (et_B (ev_isi (T := "str") (ev_op (ev_var rfl) ev_c (rv_ixT hS (v := .str "pair") (atI_of (Int.le_refl 0) rfl))) (fun H1 _ => .base (.str _)) kit_ss (.ty "str")))))) rfl) (fun hb => (by cases hb)) (fun _ H1 e1 => ?_)
        refine q_asg (ev_op (ev_var rfl) ev_c (rv_ixT (ex_t e1 hS) (v := .str "pair") (atI_of (Int.le_refl 0) rfl))) fun H2 e2 => ?_
        have e3 := e1.trans e2
        have hS2 := ex_t e3 hS
        refine q_when (b := false) (et_test (ev_op (ev_var rfl) ev_c fun H3 _ Q' k => ⟨_, none, rfl, rfl, SZ.pair, k H3 (Ex.refl H3)⟩)) (fun hb => (by cases hb)) (fun _ H3 e4 => ?_)
        refine q_when (b := false) (et_is (et_and (a := true) (b := false) (et_is (et_test (ev_eqI (ev_lenT (ev_var rfl) (ex_t e4 hS2)) ev_c)) rfl) (fun _ => et_is (et_test (ev_eqS (ev_var rfl) ev_c)) rfl)) rfl) (fun hb => (by cases hb)) (fun _ H4 e5 => ?_)
        have e6 := (e3.trans e4).trans e5
        refine q_when (b := true) (et_is (et_and (a := true) (b := true) (et_is (et_test (ev_eqI (ev_lenT (ev_var rfl) (ex_t e6 hS)) ev_c)) rfl) (fun _ => et_is (et_test (ev_eqS (ev_var rfl) ev_c)) rfl)) rfl) (fun _ H5 e7 => ?_) (fun hb => (by cases hb))
        have e8 := e6.trans e7
        cases k with
        | zero =>
          refine s_ret (ev_andV (a := false) (b := false) (ev_is (ev_gtI (ev_var rfl) ev_c) rfl) (fun hb => (by cases hb))) fun H6 e9 => q H6 (e8.trans e9)
        | succ k =>
          refine s_ret (ev_andV (a := true) (b := formF x k && formF y k) (ev_is (ev_gtI (ev_var rfl) ev_c) (by rw [decide_eq_true (by omega)])) (fun _ => ev_andV (a := formF x k) (b := formF y k) (ev_call (ea_cons (ev_op (ev_var rfl) ev_c (rv_ixT (ex_t e8 hS) (v := u) rfl)) (ea_cons (ev_op (ev_var rfl) ev_c rv_I0) ea_nil)) fun H6 e9 Q' k' E' => ⟨u, x, k, ?_, hx.ex (e8.trans e9), by omega, sx, fun H7 e10 => k' H7 e10⟩) (fun _ => ev_call (ea_cons (ev_op (ev_var rfl) ev_c (rv_ixT (ex_t e8 hS) (v := u') rfl)) (ea_cons (ev_op (ev_var rfl) ev_c rv_I0) ea_nil)) fun H6 e9 Q' k' E' => ⟨u', y, k, ?_, hy.ex (e8.trans e9), by omega, sy, fun H7 e10 => k' H7 e10⟩))) fun H6 e9 => q H6 (e8.trans e9)
          · show [u, V.int (((k + 1 : Nat) : Int) - 1)] = [u, V.int (k : Int)]
            have : ((k + 1 : Nat) : Int) - 1 = (k : Int) := by omega
            rw [this]
          · show [u', V.int (((k + 1 : Nat) : Int) - 1)] = [u', V.int (k : Int)]
            have : ((k + 1 : Nat) : Int) - 1 = (k : Int) := by omega
            rw [this]
end
end D1
end
section
set_option Elab.async false
set_option linter.all false
set_option maxRecDepth 100000
set_option maxHeartbeats 1000000
/-! F4: ring_of, of good tables and of what has not the form -/
namespace D1
open PySem L2 Evl RZ ClX PySem.VX
def spRing9 (CR CT cR : Addr) : Sp := fun vs H Q E => ∃ (v : V) (fo : Fo), vs = [v] ∧ FoAt H v fo ∧ fo.depth < 4 ∧ fo.fine ∧
  (formF fo 3 = false → ∀ H' d, Ex H H' → H' d = none → E (.ref cR) (some d) (upd H' d (.xd [("what", .str "form")]))) ∧
  (formF fo 3 = true → ∃ (n : Nat) (S M : Tb), MkAt H v (.tab S M) ∧ 2 ≤ n ∧ n ≤ 6 ∧ Sq n S ∧ Sq n M ∧ Fb n S M none ∧ ∀ r H', Ex H H' → RingT CR CT H' r v n S M → Q r H')
section
variable {P : Program} {w : World} {K : PySem.W.Frag} {mg : Str → Option Value} {base : Heap} {cR : Addr}
theorem ok_T_ring_of {f : Addr} {fd : FuncData} (F : FnP K "ring_of" s_ring_of f fd) {CT CU CP CR : Addr} (okR : OkC K CR) {f__has_form : Addr} {fd__has_form : FuncData} (F__has_form : FnP K "_has_form" s__has_form f__has_form fd__has_form) (g__has_form : mg "_has_form" = some (.ref f__has_form)) (G__has_form : FnOk P w K mg base CX0 9 f__has_form fd__has_form ["made", "deep"] (spFormT 4)) {f__tables : Addr} {fd__tables : FuncData} (F__tables : FnP K "_tables" s__tables f__tables fd__tables) (g__tables : mg "_tables" = some (.ref f__tables)) (G__tables : FnOk P w K mg base CX0 4 f__tables fd__tables ["made"] (spTables 4)) {f_first_broken : Addr} {fd_first_broken : FuncData} (F_first_broken : FnP K "first_broken" s_first_broken f_first_broken fd_first_broken) (g_first_broken : mg "first_broken" = some (.ref f_first_broken)) (G_first_broken : FnOk P w K mg base CX0 3 f_first_broken fd_first_broken ["sums", "products"] (spFirst)) {f_Ring_init : Addr} {fd_Ring_init : FuncData} (F_Ring_init : FnM K "Ring" "__init__" s_Ring_init f_Ring_init fd_Ring_init) (G_Ring_init : FnOk P w K mg base CX0 11 f_Ring_init fd_Ring_init ["self", "made"] (spRingI CR CT CU CP 4)) (M_R : L2.Mk K CR f_Ring_init) (g_R : mg "Ring" = some (.ref CR)) (O_BadRing : OwnX P w K mg "BadRing" cR [("what" : Str)]) {tP : Tok} (g_PAIRS : mg "_PAIRS" = some (.int 3 tP)) :
    FnOk P w K mg base (L2.CX P w) 13 f fd ["made"] (spRing9 CR CT cR) := by
  have b__has_form : Binds K fd__has_form ["made", "deep"] [] := F__has_form.bindsN fun _ _ _ _ _ _ us hl => match us, hl with | [_, _], _ => rfl
  have b__tables : Binds K fd__tables ["made"] [] := F__tables.bindsN fun _ _ _ _ _ _ us hl => match us, hl with | [_], _ => rfl
  have b_first_broken : Binds K fd_first_broken ["sums", "products"] [] := F_first_broken.bindsN fun _ _ _ _ _ _ us hl => match us, hl with | [_, _], _ => rfl
  have b_Ring_init : Binds K fd_Ring_init ["self", "made"] [] := F_Ring_init.bindsN fun _ _ _ _ _ _ us hl => match us, hl with | [_, _], _ => rfl
  refine F.ok (CX := L2.CX P w) sc_ring_of (fun vs H Q E h => ?_) (fun cdv A outer s H vs Q E hr h => ?_)
  · obtain ⟨v, fo, rfl, _⟩ := h
    rfl
  · obtain ⟨v, fo, rfl, hF, hdepF, hfi, qF, qT⟩ := h
    have hu := hu_of hr
    have hr__has_form := hr.mono (by decide : 9 ≤ 12)
    have hr__tables := hr.mono (by decide : 4 ≤ 12)
    have hr_first_broken := hr.mono (by decide : 3 ≤ 12)
    have hr_Ring_init := hr.mono (by decide : 11 + 1 ≤ 12)
    refine ⟨_, (pss_cons (ps_if (pt_not (pt_val (pe_call G__has_form hr__has_form rfl g__has_form F__has_form.kp b__has_form .nil pass0 (pa_cons (pv 0) (pa_cons (pe_glob (v := .int 3) rfl g_PAIRS ⟨_, rfl⟩) pa_nil))))) (pss_one (ps_raise (W := fun cls d _ H => E cls d H) rfl (takes_of rfl rfl rfl rfl) (pmk_own1 O_BadRing hr (pa_cons pe_str pa_nil) (by rfl)))) pss_nil)
      (pss_cons (ps_for (passes_of rfl) rfl (pi_list (pe_call G__tables hr__tables rfl g__tables F__tables.kp b__tables .nil pass0 (pa_cons (pv 0) pa_nil))) (pg_tup rfl (pgs_cons (pg_name (i := 1) sc_ring_of.nd rfl (Or.inl rfl)) (pgs_cons (pg_name (i := 2) sc_ring_of.nd rfl (Or.inl rfl)) pgs_nil))) (pss_cons (ps_set (i := 3) sc_ring_of.nd rfl (Or.inl rfl) (pe_call G_first_broken hr_first_broken rfl g_first_broken F_first_broken.kp b_first_broken .nil pass0 (pa_cons (pv 1) (pa_cons (pv 2) pa_nil))))
      (pss_one (ps_if (pt_cmpR op_notN (pv 3) pe_non (nomark _)) pss_dead pss_nil))))
      (pss_one (ps_ret (pe_make M_R G_Ring_init hr_Ring_init rfl g_R b_Ring_init .nil pass0 (pa_cons (pv 0) pa_nil)))))), ?_⟩
    refine q_when (b := !formF fo 3) (et_not (et_B (ev_call (z := .bl (formF fo 3)) (ea_cons (ev_var rfl) (ea_cons ev_c ea_nil)) fun H1 e1 Q' k' E' => ⟨v, fo, 3, rfl, hF.ex e1, hdepF, hfi, fun H2 e2 => k' H2 e2⟩))) (fun hb H1 e1 => ⟨rfl, fun d hd => qF (by simpa using hb) H1 d e1 hd⟩) (fun hb H1 e1 => ?_)
    obtain ⟨n, S, M, hM, n2, n6, sS, sM, hFb, qR⟩ := qT (by simpa using hb)
    have hdep : (D1.Mk.tab S M).depth < 4 := by show 0 < 4; decide
    have hg : (D1.Mk.tab S M).good := ⟨n, n2, n6, sS, sM⟩
    generalize hm : D1.Mk.tab S M = m at hM hdep hg
    have hgt := good_tabs hg
    refine ⟨_, rfl, v, m, rfl, hM.ex e1, hdep, fun D rs H2 e2 hD hL hP => ⟨D, rfl, ⟨_, SqL.of hL⟩, ?_⟩⟩
    have e12 := e1.trans e2
    refine for_it (walk_list (K := K) (a := D) (xs := rs.map V.ref)) (fun i σ' G => ∃ x1 x2 x3, σ' = [some v, x1, x2, x3] ∧ Ex H2 G ∧ ∀ (k : Nat) t', k < i → m.tabs[k]? = some t' → Fb t'.1.length t'.1 t'.2 none) ⟨none, none, none, rfl, Ex.refl H2, fun k t' h => by omega⟩ (fun i σ' G _ h => ?_) ?_ ?_
    · obtain ⟨_, _, _, _, h, _⟩ := h
      exact ex_l h (SqL.of hL)
    · rintro i x σ' _ G hi ⟨x1, x2, x3, rfl, eG, hall⟩ ⟨rfl, hx⟩
      have hx2 : (rs.map V.ref)[i]? = some x := hx
      rw [List.getElem?_map] at hx2
      obtain ⟨r, hr1, rfl⟩ := Option.map_eq_some_iff.mp hx2
      have hit : i < m.tabs.length := by
        have := (List.getElem?_eq_some_iff.mp hr1).1
        have := hP.1
        omega
      have ht := List.getElem?_eq_getElem hit
      obtain ⟨p, q', hr2, hp, hq⟩ := hP.2 i r _ hr1 ht
      obtain ⟨t2, t6, ts, tm⟩ := hgt _ (List.getElem_mem hit)
      generalize m.tabs[i] = t at ht hp hq t2 t6 ts tm
      refine ⟨r, _, rfl, .inl (.inl (eG _ _ hr2)), rfl, _, _, rfl, _, _, rfl, rfl, ?_⟩
      refine ⟨_, rfl, _, rfl, p, q', t.1.length, t.1, t.2, rfl, ⟨t2, hp.ex eG, hq.ex eG, ts, tm⟩, t6, fun b o G2 e3 hfb hfa => ?_⟩
      cases o with
      | none =>
        obtain rfl : b = .non := hfa
        refine ⟨_, rfl, rfl, _, rfl, no_of (by first | rfl | simp) ?_⟩
        refine ⟨_, _, _, rfl, eG.trans e3, fun k t' hk hkt => ?_⟩
        by_cases hki : k < i
        · exact hall k t' hki hkt
        · obtain rfl : k = i := by omega
          rw [ht] at hkt
          cases hkt
          exact hfb
      | some z =>
        exfalso
        have h1 : t = (S, M) := by
          rw [← hm] at ht
          cases i with
          | zero => exact (Option.some.inj ht).symm
          | succ i => simp [Mk.tabs] at ht
        subst h1
        have h2 : Fb S.length S M (some z) := hfb
        rw [sS.len] at h2
        cases h2.unique hFb
    · rintro σ' G ⟨x1, x2, x3, rfl, eG, hall⟩
      have hlen : (rs.map V.ref).length = m.tabs.length := by rw [List.length_map, hP.1]
      have hn : FbL m.tabs none := FbL_none fun k t' hk => hall k t' (by rw [hlen]; exact (List.getElem?_eq_some_iff.mp hk).1) hk
      refine ⟨_, rfl, ?_⟩
      intro x dx nx ndx nex
      have eN := new_ex (C := CR) nx ndx
      exact ⟨x, dx, v, m, rfl, upd_same, hM.ex ((e12.trans eG).trans eN), hdep, hg, fun k H' o1 h1 hk => ⟨rfl, qR (.ref x) H' ((e12.trans eG).trans (made_ex nx ndx o1)) (ring_tab (CU := CU) (CP := CP) sS.len ⟨x, dx, k, rfl, h1, by rw [← hm] at hk; exact hk⟩)⟩⟩
end
end D1
end
section
set_option Elab.async false
set_option linter.all false
set_option maxRecDepth 100000
set_option maxHeartbeats 1000000
/-! F5: a Ring refuses what is no weight, in each way of asking -/
namespace D1
open PySem L2 Evl RZ ClX PySem.VX
theorem RingT.kind9 {CR CT : Addr} {H : Hp} {v made : V} {n : Nat} {S M : Tb} (h : RingT CR CT H v made n S M) : ∃ (r dr : Addr) (fr : List (Str × V)), v = .ref r ∧ H r = some (.ins CR dr fr) ∧ (∀ f, f ∉ fields → fr.lookup f = none) := by
  obtain ⟨r, dr, k, dk, p, q, fr, fk, h1, h2, h3, h4, h5, h6, h7, h8⟩ := h
  exact ⟨r, dr, fr, h1, h2, h5⟩
def RaiseW (cW : Addr) (H : Hp) (E : XK) : Prop := ∀ H' d, Ex H H' → H' d = none → E (.ref cW) (some d) (upd H' d (.xd [("why", .str "not a weight of the ring")]))
section
variable {P : Program} {w : World} {K : PySem.W.Frag} {mg : Str → Option Value} {base : Heap}
def spBad1 (K : PySem.W.Frag) (CR CT cW : Addr) : Sp := fun vs H Q E => ∃ (v made : V) (n : Nat) (S M : Tb) (x : V), vs = [v, x] ∧ RingT CR CT H v made n S M ∧ PlainK K H x ∧ wtB n x = false ∧ RaiseW cW H E
def spBadC (K : PySem.W.Frag) (CR CT cW : Addr) : Sp := fun vs H Q E => ∃ (v made : V) (n : Nat) (S M : Tb) (x c : V), vs = [v, x, c] ∧ RingT CR CT H v made n S M ∧ PlainK K H x ∧ wtB n x = false ∧ RaiseW cW H E
def spBad2 (K : PySem.W.Frag) (CR CT cW : Addr) : Sp := fun vs H Q E => ∃ (v made : V) (n : Nat) (S M : Tb) (x y : V), vs = [v, x, y] ∧ RingT CR CT H v made n S M ∧ PlainK K H x ∧ PlainK K H y ∧ (wtB n x = true → wtB n y = false) ∧ RaiseW cW H E
def spBadL (K : PySem.W.Frag) (CR CT cW : Addr) : Sp := fun vs H Q E => ∃ (v made : V) (D : Addr) (n : Nat) (S M : Tb) (x y : V), vs = [v, .ref D] ∧ RingT CR CT H v made n S M ∧ H D = some (.lst [x, y]) ∧ PlainK K H x ∧ PlainK K H y ∧ (wtB n x = true → wtB n y = false) ∧ RaiseW cW H E
theorem kit_ll : PySem.W.kitOne K (.type "list") (.type "list") = some true := kit_ty (show kitB _ _ = some true by decide +kernel)
abbrev s_Ring_star : Stmt := meth 47 11
theorem sc_Ring_star : FnScope ["self", "a", "told"] ["self", "a"] (defScope s_Ring_star) := ⟨rfl, rfl, rfl, by decide +kernel, rfl, by decide +kernel, by decide +kernel⟩
theorem ok_B_Ring_star {f : Addr} {fd : FuncData} (F : FnM K "Ring" "star" s_Ring_star f fd) {CR CT : Addr} (okR : OkC K CR) {cW : Addr} {f_Ring_need : Addr} {fd_Ring_need : FuncData} (F_Ring_need : FnM K "Ring" "need" s_Ring_need f_Ring_need fd_Ring_need) (G_Ring_need : FnOk P w K mg base (L2.CX P w) 3 f_Ring_need fd_Ring_need ["self", "thing"] (spNeedP K CR CT cW)) (m_Ring_need : Meth K CR "need" f_Ring_need) : FnOk P w K mg base (L2.CX P w) 4 f fd ["self", "a"] (spBad1 K CR CT cW) := by
  have b_Ring_need : Binds K fd_Ring_need ["self", "thing"] [] := F_Ring_need.bindsN fun _ _ _ _ _ _ us hl => match us, hl with | [_, _], _ => rfl
  refine F.ok (CX := L2.CX P w) sc_Ring_star (fun vs H Q E h => ?_) (fun cdv A outer s H vs Q E hr h => ?_)
  · obtain ⟨v, made, n, S, M, x, rfl, _⟩ := h
    rfl
  · obtain ⟨v, made, n, S, M, x, rfl, hR, px, hx, qW⟩ := h
    have hu := hu_of hr
    have hu64 := hr.units
    have hr_Ring_need := hr.mono (by decide : 3 ≤ 3)
    refine ⟨_, (pss_cons (ps_expr (pe_meth (C := CR) (pv 0) okR.cls m_Ring_need G_Ring_need hr_Ring_need b_Ring_need .nil (passes_call (takes_of rfl rfl rfl rfl) (fun _ _ _ _ h => h)) (pa_cons (pv 1) pa_nil))) pss_dead), ?_⟩
    obtain ⟨r, dr, fr, rfl, h2, h5⟩ := id hR.kind9
    exact ⟨_, rfl, r, dr, fr, rfl, h2, h5 _ (by decide), _, rfl, .ref r, made, n, S, M, x, rfl, hR, px, fun hw => (by rw [hx] at hw; cases hw), fun _ H1 d e1 hd => qW H1 d e1 hd⟩
abbrev s_Ring_written : Stmt := meth 47 17
theorem sc_Ring_written : FnScope ["self", "a"] ["self", "a"] (defScope s_Ring_written) := ⟨rfl, rfl, rfl, by decide +kernel, rfl, by decide +kernel, by decide +kernel⟩
theorem ok_B_Ring_written {f : Addr} {fd : FuncData} (F : FnM K "Ring" "written" s_Ring_written f fd) {CR CT : Addr} (okR : OkC K CR) {cW : Addr} {f_Ring_need : Addr} {fd_Ring_need : FuncData} (F_Ring_need : FnM K "Ring" "need" s_Ring_need f_Ring_need fd_Ring_need) (G_Ring_need : FnOk P w K mg base (L2.CX P w) 3 f_Ring_need fd_Ring_need ["self", "thing"] (spNeedP K CR CT cW)) (m_Ring_need : Meth K CR "need" f_Ring_need) : FnOk P w K mg base (L2.CX P w) 4 f fd ["self", "a"] (spBad1 K CR CT cW) := by
  have b_Ring_need : Binds K fd_Ring_need ["self", "thing"] [] := F_Ring_need.bindsN fun _ _ _ _ _ _ us hl => match us, hl with | [_, _], _ => rfl
  refine F.ok (CX := L2.CX P w) sc_Ring_written (fun vs H Q E h => ?_) (fun cdv A outer s H vs Q E hr h => ?_)
  · obtain ⟨v, made, n, S, M, x, rfl, _⟩ := h
    rfl
  · obtain ⟨v, made, n, S, M, x, rfl, hR, px, hx, qW⟩ := h
    have hu := hu_of hr
    have hu64 := hr.units
    have hr_Ring_need := hr.mono (by decide : 3 ≤ 3)
    refine ⟨_, (pss_cons (ps_expr (pe_meth (C := CR) (pv 0) okR.cls m_Ring_need G_Ring_need hr_Ring_need b_Ring_need .nil (passes_call (takes_of rfl rfl rfl rfl) (fun _ _ _ _ h => h)) (pa_cons (pv 1) pa_nil))) pss_dead), ?_⟩
    obtain ⟨r, dr, fr, rfl, h2, h5⟩ := id hR.kind9
    exact ⟨_, rfl, r, dr, fr, rfl, h2, h5 _ (by decide), _, rfl, .ref r, made, n, S, M, x, rfl, hR, px, fun hw => (by rw [hx] at hw; cases hw), fun _ H1 d e1 hd => qW H1 d e1 hd⟩
abbrev s_Ring_many : Stmt := meth 47 12
theorem sc_Ring_many : FnScope ["self", "a", "count"] ["self", "a", "count"] (defScope s_Ring_many) := ⟨rfl, rfl, rfl, by decide +kernel, rfl, by decide +kernel, by decide +kernel⟩
theorem ok_B_Ring_many {f : Addr} {fd : FuncData} (F : FunD K "many" ("Ring" ++ "." ++ "many") (defArgs s_Ring_many) (defBody s_Ring_many) (defScope s_Ring_many) [.int 2] [] f fd) {CR CT : Addr} (okR : OkC K CR) {cW : Addr} {f_Ring_need : Addr} {fd_Ring_need : FuncData} (F_Ring_need : FnM K "Ring" "need" s_Ring_need f_Ring_need fd_Ring_need) (G_Ring_need : FnOk P w K mg base (L2.CX P w) 3 f_Ring_need fd_Ring_need ["self", "thing"] (spNeedP K CR CT cW)) (m_Ring_need : Meth K CR "need" f_Ring_need) : FnOk P w K mg base (L2.CX P w) 4 f fd ["self", "a", "count"] (spBadC K CR CT cW) := by
  have b_Ring_need : Binds K fd_Ring_need ["self", "thing"] [] := F_Ring_need.bindsN fun _ _ _ _ _ _ us hl => match us, hl with | [_, _], _ => rfl
  refine F.ok (CX := L2.CX P w) sc_Ring_many (fun vs H Q E h => ?_) (fun cdv A outer s H vs Q E hr h => ?_)
  · obtain ⟨v, made, n, S, M, x, c, rfl, _⟩ := h
    rfl
  · obtain ⟨v, made, n, S, M, x, c, rfl, hR, px, hx, qW⟩ := h
    have hu := hu_of hr
    have hu64 := hr.units
    have hr_Ring_need := hr.mono (by decide : 3 ≤ 3)
    refine ⟨_, (pss_cons (ps_expr (pe_meth (C := CR) (pv 0) okR.cls m_Ring_need G_Ring_need hr_Ring_need b_Ring_need .nil (passes_call (takes_of rfl rfl rfl rfl) (fun _ _ _ _ h => h)) (pa_cons (pv 1) pa_nil))) pss_dead), ?_⟩
    obtain ⟨r, dr, fr, rfl, h2, h5⟩ := id hR.kind9
    exact ⟨_, rfl, r, dr, fr, rfl, h2, h5 _ (by decide), _, rfl, .ref r, made, n, S, M, x, rfl, hR, px, fun hw => (by rw [hx] at hw; cases hw), fun _ H1 d e1 hd => qW H1 d e1 hd⟩
abbrev s_Ring_power : Stmt := meth 47 13
theorem sc_Ring_power : FnScope ["self", "a", "count"] ["self", "a", "count"] (defScope s_Ring_power) := ⟨rfl, rfl, rfl, by decide +kernel, rfl, by decide +kernel, by decide +kernel⟩
theorem ok_B_Ring_power {f : Addr} {fd : FuncData} (F : FunD K "power" ("Ring" ++ "." ++ "power") (defArgs s_Ring_power) (defBody s_Ring_power) (defScope s_Ring_power) [.int 2] [] f fd) {CR CT : Addr} (okR : OkC K CR) {cW : Addr} {f_Ring_need : Addr} {fd_Ring_need : FuncData} (F_Ring_need : FnM K "Ring" "need" s_Ring_need f_Ring_need fd_Ring_need) (G_Ring_need : FnOk P w K mg base (L2.CX P w) 3 f_Ring_need fd_Ring_need ["self", "thing"] (spNeedP K CR CT cW)) (m_Ring_need : Meth K CR "need" f_Ring_need) : FnOk P w K mg base (L2.CX P w) 4 f fd ["self", "a", "count"] (spBadC K CR CT cW) := by
  have b_Ring_need : Binds K fd_Ring_need ["self", "thing"] [] := F_Ring_need.bindsN fun _ _ _ _ _ _ us hl => match us, hl with | [_, _], _ => rfl
  refine F.ok (CX := L2.CX P w) sc_Ring_power (fun vs H Q E h => ?_) (fun cdv A outer s H vs Q E hr h => ?_)
  · obtain ⟨v, made, n, S, M, x, c, rfl, _⟩ := h
    rfl
  · obtain ⟨v, made, n, S, M, x, c, rfl, hR, px, hx, qW⟩ := h
    have hu := hu_of hr
    have hu64 := hr.units
    have hr_Ring_need := hr.mono (by decide : 3 ≤ 3)
    refine ⟨_, (pss_cons (ps_expr (pe_meth (C := CR) (pv 0) okR.cls m_Ring_need G_Ring_need hr_Ring_need b_Ring_need .nil (passes_call (takes_of rfl rfl rfl rfl) (fun _ _ _ _ h => h)) (pa_cons (pv 1) pa_nil))) pss_dead), ?_⟩
    obtain ⟨r, dr, fr, rfl, h2, h5⟩ := id hR.kind9
    exact ⟨_, rfl, r, dr, fr, rfl, h2, h5 _ (by decide), _, rfl, .ref r, made, n, S, M, x, rfl, hR, px, fun hw => (by rw [hx] at hw; cases hw), fun _ H1 d e1 hd => qW H1 d e1 hd⟩
theorem ok_B_Ring_plus {f : Addr} {fd : FuncData} (F : FnM K "Ring" "plus" s_Ring_plus f fd) {CR CT : Addr} (okR : OkC K CR) {cW : Addr} {f_Ring_need : Addr} {fd_Ring_need : FuncData} (F_Ring_need : FnM K "Ring" "need" s_Ring_need f_Ring_need fd_Ring_need) (G_Ring_need : FnOk P w K mg base (L2.CX P w) 3 f_Ring_need fd_Ring_need ["self", "thing"] (spNeedP K CR CT cW)) (m_Ring_need : Meth K CR "need" f_Ring_need) : FnOk P w K mg base (L2.CX P w) 4 f fd ["self", "a", "b"] (spBad2 K CR CT cW) := by
  have b_Ring_need : Binds K fd_Ring_need ["self", "thing"] [] := F_Ring_need.bindsN fun _ _ _ _ _ _ us hl => match us, hl with | [_, _], _ => rfl
  refine F.ok (CX := L2.CX P w) sc_Ring_plus (fun vs H Q E h => ?_) (fun cdv A outer s H vs Q E hr h => ?_)
  · obtain ⟨v, made, n, S, M, x, y, rfl, _⟩ := h
    rfl
  · obtain ⟨v, made, n, S, M, x, y, rfl, hR, px, py, hxy, qW⟩ := h
    have hu := hu_of hr
    have hu64 := hr.units
    have hr_Ring_need := hr.mono (by decide : 3 ≤ 3)
    refine ⟨_, (pss_cons (ps_expr (pe_meth (C := CR) (pv 0) okR.cls m_Ring_need G_Ring_need hr_Ring_need b_Ring_need .nil (passes_call (takes_of rfl rfl rfl rfl) (fun _ _ _ _ h => h)) (pa_cons (pv 1) pa_nil)))
      (pss_cons (ps_expr (pe_meth (C := CR) (pv 0) okR.cls m_Ring_need G_Ring_need hr_Ring_need b_Ring_need .nil (passes_call (takes_of rfl rfl rfl rfl) (fun _ _ _ _ h => h)) (pa_cons (pv 2) pa_nil))) pss_dead)), ?_⟩
    obtain ⟨r, dr, fr, rfl, h2, h5⟩ := id hR.kind9
    refine ⟨_, rfl, r, dr, fr, rfl, h2, h5 _ (by decide), _, rfl, .ref r, made, n, S, M, x, rfl, hR, px, fun hw H1 e1 => ?_, fun _ H1 d e1 hd => qW H1 d e1 hd⟩
    exact ⟨_, rfl, r, dr, fr, rfl, e1 _ _ h2, h5 _ (by decide), _, rfl, .ref r, made, n, S, M, y, rfl, hR.ex e1, py.ex e1, fun hw2 => (by rw [hxy hw] at hw2; cases hw2), fun _ H2 d e2 hd => qW H2 d (e1.trans e2) hd⟩
theorem ok_B_Ring_times {f : Addr} {fd : FuncData} (F : FnM K "Ring" "times" s_Ring_times f fd) {CR CT : Addr} (okR : OkC K CR) {cW : Addr} {f_Ring_need : Addr} {fd_Ring_need : FuncData} (F_Ring_need : FnM K "Ring" "need" s_Ring_need f_Ring_need fd_Ring_need) (G_Ring_need : FnOk P w K mg base (L2.CX P w) 3 f_Ring_need fd_Ring_need ["self", "thing"] (spNeedP K CR CT cW)) (m_Ring_need : Meth K CR "need" f_Ring_need) : FnOk P w K mg base (L2.CX P w) 4 f fd ["self", "a", "b"] (spBad2 K CR CT cW) := by
  have b_Ring_need : Binds K fd_Ring_need ["self", "thing"] [] := F_Ring_need.bindsN fun _ _ _ _ _ _ us hl => match us, hl with | [_, _], _ => rfl
  refine F.ok (CX := L2.CX P w) sc_Ring_times (fun vs H Q E h => ?_) (fun cdv A outer s H vs Q E hr h => ?_)
  · obtain ⟨v, made, n, S, M, x, y, rfl, _⟩ := h
    rfl
  · obtain ⟨v, made, n, S, M, x, y, rfl, hR, px, py, hxy, qW⟩ := h
    have hu := hu_of hr
    have hu64 := hr.units
    have hr_Ring_need := hr.mono (by decide : 3 ≤ 3)
    refine ⟨_, (pss_cons (ps_expr (pe_meth (C := CR) (pv 0) okR.cls m_Ring_need G_Ring_need hr_Ring_need b_Ring_need .nil (passes_call (takes_of rfl rfl rfl rfl) (fun _ _ _ _ h => h)) (pa_cons (pv 1) pa_nil)))
      (pss_cons (ps_expr (pe_meth (C := CR) (pv 0) okR.cls m_Ring_need G_Ring_need hr_Ring_need b_Ring_need .nil (passes_call (takes_of rfl rfl rfl rfl) (fun _ _ _ _ h => h)) (pa_cons (pv 2) pa_nil))) pss_dead)), ?_⟩
    obtain ⟨r, dr, fr, rfl, h2, h5⟩ := id hR.kind9
    refine ⟨_, rfl, r, dr, fr, rfl, h2, h5 _ (by decide), _, rfl, .ref r, made, n, S, M, x, rfl, hR, px, fun hw H1 e1 => ?_, fun _ H1 d e1 hd => qW H1 d e1 hd⟩
    exact ⟨_, rfl, r, dr, fr, rfl, e1 _ _ h2, h5 _ (by decide), _, rfl, .ref r, made, n, S, M, y, rfl, hR.ex e1, py.ex e1, fun hw2 => (by rw [hxy hw] at hw2; cases hw2), fun _ H2 d e2 hd => qW H2 d (e1.trans e2) hd⟩
abbrev s_Ring__need_list : Stmt := meth 47 16
theorem sc_Ring__need_list : FnScope ["self", "weights", "weight"] ["self", "weights"] (defScope s_Ring__need_list) := ⟨rfl, rfl, rfl, by decide +kernel, rfl, by decide +kernel, by decide +kernel⟩
theorem ok_B_Ring__need_list {f : Addr} {fd : FuncData} (F : FnM K "Ring" "_need_list" s_Ring__need_list f fd) {CR CT : Addr} (okR : OkC K CR) {cW : Addr} {f_Ring_need : Addr} {fd_Ring_need : FuncData} (F_Ring_need : FnM K "Ring" "need" s_Ring_need f_Ring_need fd_Ring_need) (G_Ring_need : FnOk P w K mg base (L2.CX P w) 3 f_Ring_need fd_Ring_need ["self", "thing"] (spNeedP K CR CT cW)) (m_Ring_need : Meth K CR "need" f_Ring_need) (z_isinstance : mg "isinstance" = none) (z_list : mg "list" = none) : FnOk P w K mg base (L2.CX P w) 4 f fd ["self", "weights"] (spBadL K CR CT cW) := by
  have b_Ring_need : Binds K fd_Ring_need ["self", "thing"] [] := F_Ring_need.bindsN fun _ _ _ _ _ _ us hl => match us, hl with | [_, _], _ => rfl
  refine F.ok (CX := L2.CX P w) sc_Ring__need_list (fun vs H Q E h => ?_) (fun cdv A outer s H vs Q E hr h => ?_)
  · obtain ⟨v, made, D, n, S, M, x, y, rfl, _⟩ := h
    rfl
  · obtain ⟨v, made, D, n, S, M, x, y, rfl, hR, hD, px, py, hxy, qW⟩ := h
    have hu := hu_of hr
    have hu64 := hr.units
    have hr_Ring_need := hr.mono (by decide : 3 ≤ 3)
    refine ⟨_, (pss_cons (ps_if (pt_not (pt_val (pe_callB call_isi (by rfl) z_isinstance PyProof.Rows.boot_isinstance (pa_cons (pv 1) (pa_cons (pe_bltn (v := .ty "list") rfl z_list (by decide +kernel) rfl) pa_nil))))) pss_dead pss_nil)
      (pss_one (ps_for (passes_of rfl) rfl (pi_list (pv 1)) (pg_name (i := 2) sc_Ring__need_list.nd rfl (Or.inl rfl)) (pss_one (ps_expr (pe_meth (C := CR) (pv 0) okR.cls m_Ring_need G_Ring_need hr_Ring_need b_Ring_need .nil (passes_call (takes_of rfl rfl rfl rfl) (fun _ _ _ _ h => h)) (pa_cons (pv 2) pa_nil))))))), ?_⟩
    refine q_when (b := false) (et_is (et_not (et_B (ev_isi0 (ev_var rfl) (fun H1 e => .base (.lst (e _ _ hD))) kit_ll (.ty "list")))) rfl) (fun hb => (by cases hb)) (fun _ H1 e1 => ?_)
    refine ⟨_, rfl, D, rfl, ⟨_, SqL.of (e1 _ _ hD)⟩, ?_⟩
    refine for_it (walk_list (K := K) (a := D) (xs := [x, y])) (fun i σ' G => ∃ x2, σ' = [some v, some (.ref D), x2] ∧ Ex H1 G ∧ ∀ j z, j < i → [x, y][j]? = some z → wtB n z = true) ⟨none, rfl, Ex.refl H1, fun j z h => (by omega)⟩ (fun i σ' G _ h => ?_) ?_ ?_
    · obtain ⟨_, _, h, _⟩ := h
      exact SqL.of (h _ _ (e1 _ _ hD))
    · rintro i z σ' _ G hi ⟨x2, rfl, eG, hg⟩ ⟨rfl, hz⟩
      have hz2 : [x, y][i]? = some z := hz
      have pz : PlainK K G z := by
        match i, hz2 with
        | 0, hz2 => exact Option.some.inj hz2 ▸ px.ex (e1.trans eG)
        | 1, hz2 => exact Option.some.inj hz2 ▸ py.ex (e1.trans eG)
        | i + 2, hz2 => simp at hz2
      have hRG := hR.ex (e1.trans eG)
      obtain ⟨r, dr, fr, rfl, h2, h5⟩ := id hRG.kind9
      refine ⟨_, rfl, r, dr, fr, rfl, h2, h5 _ (by decide), _, rfl, .ref r, made, n, S, M, z, rfl, hRG, pz, fun hw H2 e2 => ⟨_, rfl, eG.trans e2, fun j u hj hu2 => ?_⟩, fun _ H2 d e2 hd => qW H2 d ((e1.trans eG).trans e2) hd⟩
      by_cases hji : j = i
      · subst hji
        rw [hz2] at hu2
        exact Option.some.inj hu2 ▸ hw
      · exact hg j u (by omega) hu2
    · rintro σ' G ⟨x2, rfl, eG, hg⟩
      have h0 := hg 0 x (by show 0 < 2; decide) rfl
      have h1 := hg 1 y (by show 1 < 2; decide) rfl
      rw [hxy h0] at h1
      cases h1
abbrev s_Ring_total : Stmt := meth 47 14
theorem sc_Ring_total : FnScope ["self", "weights"] ["self", "weights"] (defScope s_Ring_total) := ⟨rfl, rfl, rfl, by decide +kernel, rfl, by decide +kernel, by decide +kernel⟩
theorem ok_B_Ring_total {f : Addr} {fd : FuncData} (F : FnM K "Ring" "total" s_Ring_total f fd) {CR CT : Addr} (okR : OkC K CR) {cW : Addr} {f_Ring__need_list : Addr} {fd_Ring__need_list : FuncData} (F_Ring__need_list : FnM K "Ring" "_need_list" s_Ring__need_list f_Ring__need_list fd_Ring__need_list) (G_Ring__need_list : FnOk P w K mg base (L2.CX P w) 4 f_Ring__need_list fd_Ring__need_list ["self", "weights"] (spBadL K CR CT cW)) (m_Ring__need_list : Meth K CR "_need_list" f_Ring__need_list) : FnOk P w K mg base (L2.CX P w) 5 f fd ["self", "weights"] (spBadL K CR CT cW) := by
  have b_Ring__need_list : Binds K fd_Ring__need_list ["self", "weights"] [] := F_Ring__need_list.bindsN fun _ _ _ _ _ _ us hl => match us, hl with | [_, _], _ => rfl
  refine F.ok (CX := L2.CX P w) sc_Ring_total (fun vs H Q E h => ?_) (fun cdv A outer s H vs Q E hr h => ?_)
  · obtain ⟨v, made, D, n, S, M, x, y, rfl, _⟩ := h
    rfl
  · obtain ⟨v, made, D, n, S, M, x, y, rfl, hR, hD, px, py, hxy, qW⟩ := h
    have hu := hu_of hr
    have hu64 := hr.units
    have hr_Ring__need_list := hr.mono (by decide : 4 ≤ 4)
    refine ⟨_, (pss_cons (ps_expr (pe_meth (C := CR) (pv 0) okR.cls m_Ring__need_list G_Ring__need_list hr_Ring__need_list b_Ring__need_list .nil (passes_call (takes_of rfl rfl rfl rfl) (fun _ _ _ _ h => h)) (pa_cons (pv 1) pa_nil))) pss_dead), ?_⟩
    obtain ⟨r, dr, fr, rfl, h2, h5⟩ := id hR.kind9
    exact ⟨_, rfl, r, dr, fr, rfl, h2, h5 _ (by decide), _, rfl, .ref r, made, D, n, S, M, x, y, rfl, hR, hD, px, py, hxy, qW⟩
abbrev s_Ring_product : Stmt := meth 47 15
theorem sc_Ring_product : FnScope ["self", "weights"] ["self", "weights"] (defScope s_Ring_product) := ⟨rfl, rfl, rfl, by decide +kernel, rfl, by decide +kernel, by decide +kernel⟩
theorem ok_B_Ring_product {f : Addr} {fd : FuncData} (F : FnM K "Ring" "product" s_Ring_product f fd) {CR CT : Addr} (okR : OkC K CR) {cW : Addr} {f_Ring__need_list : Addr} {fd_Ring__need_list : FuncData} (F_Ring__need_list : FnM K "Ring" "_need_list" s_Ring__need_list f_Ring__need_list fd_Ring__need_list) (G_Ring__need_list : FnOk P w K mg base (L2.CX P w) 4 f_Ring__need_list fd_Ring__need_list ["self", "weights"] (spBadL K CR CT cW)) (m_Ring__need_list : Meth K CR "_need_list" f_Ring__need_list) : FnOk P w K mg base (L2.CX P w) 5 f fd ["self", "weights"] (spBadL K CR CT cW) := by
  have b_Ring__need_list : Binds K fd_Ring__need_list ["self", "weights"] [] := F_Ring__need_list.bindsN fun _ _ _ _ _ _ us hl => match us, hl with | [_, _], _ => rfl
  refine F.ok (CX := L2.CX P w) sc_Ring_product (fun vs H Q E h => ?_) (fun cdv A outer s H vs Q E hr h => ?_)
  · obtain ⟨v, made, D, n, S, M, x, y, rfl, _⟩ := h
    rfl
  · obtain ⟨v, made, D, n, S, M, x, y, rfl, hR, hD, px, py, hxy, qW⟩ := h
    have hu := hu_of hr
    have hu64 := hr.units
    have hr_Ring__need_list := hr.mono (by decide : 4 ≤ 4)
    refine ⟨_, (pss_cons (ps_expr (pe_meth (C := CR) (pv 0) okR.cls m_Ring__need_list G_Ring__need_list hr_Ring__need_list b_Ring__need_list .nil (passes_call (takes_of rfl rfl rfl rfl) (fun _ _ _ _ h => h)) (pa_cons (pv 1) pa_nil))) pss_dead), ?_⟩
    obtain ⟨r, dr, fr, rfl, h2, h5⟩ := id hR.kind9
    exact ⟨_, rfl, r, dr, fr, rfl, h2, h5 _ (by decide), _, rfl, .ref r, made, D, n, S, M, x, y, rfl, hR, hD, px, py, hxy, qW⟩
end
end D1
end
section
set_option Elab.async false
set_option linter.all false
set_option maxRecDepth 100000
set_option maxHeartbeats 1000000
/-! F6: how the law is told of refusals -/
namespace L2
open PySem PySem.Spec PyProof.Rows Evl
theorem call_dead {X : Cx} {f : Value} : CallR X f (fun _ _ _ => False) := fun _ _ _ _ _ _ _ _ _ h => h.elim
theorem r_if {t : TT} {ta tb : TE} {D : Ends} {σ : St} {H : Hp} {b : Bool} (h : EvT t σ H b) (h1 : b = true → ∀ H1, Ex H H1 → tRet ta D σ H1) (h2 : b = false → ∀ H1, Ex H H1 → tRet tb D σ H1) : tRet (tIf t ta tb) D σ H := h H (Ex.refl H) _ fun H1 e => by
  cases b with
  | true => exact h1 rfl H1 e
  | false => exact h2 rfl H1 e
end L2
namespace D1
open PySem L2 Evl RZ ClX PySem.VX
/-- what the written part says of the refusals -/
structure Fam9 (K : PySem.W.Frag) (mg : Str → Option Value) (cR cB cW aF aU aK : Addr) : Prop where
  gR : mg "BadRing" = some (.ref cR)
  gB : mg "BadTable" = some (.ref cB)
  gW : mg "BadWeight" = some (.ref cW)
  gF : mg "Refused" = some (.ref aF)
  gU : mg "Unreckoned" = some (.ref aU)
  gK : mg "Unknown" = some (.ref aK)
  rb : PySem.W.exmOne K (.ref cR) (.ref cB) = some false
  rr : PySem.W.exmOne K (.ref cR) (.ref cR) = some true
  ww : PySem.W.exmOne K (.ref cW) (.ref cW) = some true
  eR : ExcC K cR
  eW : ExcC K cW
  xR : XfC K cR
  nw : PySem.W.findIn K (.ref cR) "what" = some none
  rF : PySem.W.kitOne K (.ref cR) (.ref aF) = some true
  rV : PySem.W.kitOne K (.ref cR) (.type "ValueError") = some true
  rU : PySem.W.kitOne K (.ref cR) (.ref aU) = some false
  rK : PySem.W.kitOne K (.ref cR) (.ref aK) = some false
  rW : PySem.W.kitOne K (.ref cR) (.ref cW) = some false
  wF : PySem.W.kitOne K (.ref cW) (.ref aF) = some true
  wV : PySem.W.kitOne K (.ref cW) (.type "ValueError") = some true
  wU : PySem.W.kitOne K (.ref cW) (.ref aU) = some false
  wK : PySem.W.kitOne K (.ref cW) (.ref aK) = some false
  wR : PySem.W.kitOne K (.ref cW) (.ref cR) = some false
def famL : List V := [.bl true, .bl true, .bl false, .bl false]
def spFam (K : PySem.W.Frag) (aF aU aK : Addr) : Addr → Value → Option Addr → Sp := fun b c d vs H Q _ => ∃ (C dd : Addr) (fs : List (Str × V)), vs = [.ref b] ∧ c = .ref C ∧ d = some dd ∧ H dd = some (.xd fs) ∧ ExcC K C ∧
  PySem.W.kitOne K (.ref C) (.ref aF) = some true ∧ PySem.W.kitOne K (.ref C) (.type "ValueError") = some true ∧ PySem.W.kitOne K (.ref C) (.ref aU) = some false ∧ PySem.W.kitOne K (.ref C) (.ref aK) = some false ∧
  ∀ D H', Ex H H' → H' D = some (.tup famL) → Q (.ref D) H'
section
variable {P : Program} {w : World} {K : PySem.W.Frag} {mg : Str → Option Value} {base : Heap} {cR cB cW aF aU aK : Addr}
def spAnswer (K : PySem.W.Frag) (CR CT cW : Addr) : Sp := fun vs H Q E => ∃ (v made : V) (n : Nat) (S M : Tb) (way a : Int) (x : V), vs = [v, .int way, .int a, x] ∧ RingT CR CT H v made n S M ∧ PlainK K H x ∧ wtB n x = false ∧ RaiseW cW H E
def spWeighed (K : PySem.W.Frag) (CR CT : Addr) : Sp := fun vs H Q _ => ∃ (v made : V) (n : Nat) (S M : Tb) (way a : Int) (x : V), vs = [v, .int way, .int a, x] ∧ RingT CR CT H v made n S M ∧ PlainK K H x ∧ wtB n x = false ∧
  ∀ D D2 H', Ex H H' → H' D = some (.tup [.str "weight", .ref D2, .bl false]) → H' D2 = some (.tup famL) → Q (.ref D) H'
def spMade9 (CR CT : Addr) : Sp := fun vs H Q _ => ∃ (v : V) (fo : Fo), vs = [v] ∧ FoAt H v fo ∧ fo.depth < 4 ∧ fo.fine ∧
  (formF fo 3 = false → ∀ D D2 H', Ex H H' → H' D = some (.tup [.str "ring", .str "form", .ref D2, .bl false]) → H' D2 = some (.tup famL) → Q (.ref D) H') ∧
  (formF fo 3 = true → ∃ (n : Nat) (S M : Tb), MkAt H v (.tab S M) ∧ 2 ≤ n ∧ n ≤ 6 ∧ Sq n S ∧ Sq n M ∧ Fb n S M none ∧ ∀ r H', Ex H H' → RingT CR CT H' r v n S M → Q r H')
abbrev s_family : Stmt := top 80
theorem sc_family : FnScope ["_law_e"] ["_law_e"] (defScope s_family) := ⟨rfl, rfl, rfl, by decide +kernel, rfl, by decide +kernel, by decide +kernel⟩
theorem ok_family {f : Addr} {fd : FuncData} (F : FnP K "_law_family" s_family f fd) (T : Fam9 K mg cR cB cW aF aU aK) (z_isinstance : mg "isinstance" = none) (z_ValueError : mg "ValueError" = none) : FnS P w K mg base 1 f fd ["_law_e"] (spFam K aF aU aK) := by
  refine Fun.okS F.asFun sc_family (fun b c d vs H Q E h => ?_) (fun p c d cdv A outer s H vs Q E hz hf h => ?_)
  · obtain ⟨C, dd, fs, rfl, _⟩ := h
    rfl
  · obtain ⟨C, dd, fs, rfl, rfl, rfl, hdd, hC, k1, k2, k3, k4, q⟩ := h
    refine ⟨_, (pss_one (ps_ret (pe_tup (pa_cons (pe_callB (call_isP (p := p) (by exact List.mem_singleton.mpr rfl)) (by rfl) z_isinstance PyProof.Rows.boot_isinstance (pa_cons (pv 0) (pa_cons (pe_glob (v := .ref aF) rfl T.gF rfl) pa_nil))) (pa_cons (pe_callB (call_isP (p := p) (by exact List.mem_singleton.mpr rfl)) (by rfl) z_isinstance PyProof.Rows.boot_isinstance (pa_cons (pv 0) (pa_cons (pe_bltn (v := .ty "ValueError") rfl z_ValueError (by decide +kernel) rfl) pa_nil))) (pa_cons (pe_callB (call_isP (p := p) (by exact List.mem_singleton.mpr rfl)) (by rfl) z_isinstance PyProof.Rows.boot_isinstance (pa_cons (pv 0) (pa_cons (pe_glob (v := .ref aU) rfl T.gU rfl) pa_nil))) (pa_cons (pe_callB (call_isP (p := p) (by exact List.mem_singleton.mpr rfl)) (by rfl) z_isinstance PyProof.Rows.boot_isinstance (pa_cons (pv 0) (pa_cons (pe_glob (v := .ref aK) rfl T.gK rfl) pa_nil))) pa_nil))))))), ?_⟩
    refine ⟨_, rfl, C, dd, fs, .ref aF, .ref aF, true, rfl, hz, hf, hdd, hC, (fun u h => h), k1, _, rfl, C, dd, fs, .ty "ValueError", .type "ValueError", true, rfl, hz, hf, hdd, hC, (fun u h => h), k2, _, rfl, C, dd, fs, .ref aU, .ref aU, false, rfl, hz, hf, hdd, hC, (fun u h => h), k3, _, rfl, C, dd, fs, .ref aK, .ref aK, false, rfl, hz, hf, hdd, hC, (fun u h => h), k4, by show 4 ≤ sizeLine; decide, fun l hl => ?_⟩
    exact q l _ (Ex.new hl) upd_same
abbrev s_answer : Stmt := top 82
theorem sc_answer : FnScope ["_law_base_here", "_law_way", "_law_good", "_law_bad"] ["_law_base_here", "_law_way", "_law_good", "_law_bad"] (defScope s_answer) := ⟨rfl, rfl, rfl, by decide +kernel, rfl, by decide +kernel, by decide +kernel⟩
theorem ok_answer {f : Addr} {fd : FuncData} (F : FnP K "_law_answer" s_answer f fd) {CR CT : Addr} (okR : OkC K CR) {f_Ring_plus : Addr} {fd_Ring_plus : FuncData} (b_Ring_plus : Binds K fd_Ring_plus ["self", "a", "b"] []) (G_Ring_plus : FnOk P w K mg base (L2.CX P w) 4 f_Ring_plus fd_Ring_plus ["self", "a", "b"] (spBad2 K CR CT cW)) (m_Ring_plus : Meth K CR "plus" f_Ring_plus) {f_Ring_times : Addr} {fd_Ring_times : FuncData} (b_Ring_times : Binds K fd_Ring_times ["self", "a", "b"] []) (G_Ring_times : FnOk P w K mg base (L2.CX P w) 4 f_Ring_times fd_Ring_times ["self", "a", "b"] (spBad2 K CR CT cW)) (m_Ring_times : Meth K CR "times" f_Ring_times) {f_Ring_star : Addr} {fd_Ring_star : FuncData} (b_Ring_star : Binds K fd_Ring_star ["self", "a"] []) (G_Ring_star : FnOk P w K mg base (L2.CX P w) 4 f_Ring_star fd_Ring_star ["self", "a"] (spBad1 K CR CT cW)) (m_Ring_star : Meth K CR "star" f_Ring_star) {f_Ring_many : Addr} {fd_Ring_many : FuncData} {ds_Ring_many : List Value} (b2_Ring_many : Binds K fd_Ring_many ["self", "a", "count"] ds_Ring_many) (v2_Ring_many : Vals [V.int 2] ds_Ring_many) (G_Ring_many : FnOk P w K mg base (L2.CX P w) 4 f_Ring_many fd_Ring_many ["self", "a", "count"] (spBadC K CR CT cW)) (m_Ring_many : Meth K CR "many" f_Ring_many) {f_Ring_power : Addr} {fd_Ring_power : FuncData} {ds_Ring_power : List Value} (b2_Ring_power : Binds K fd_Ring_power ["self", "a", "count"] ds_Ring_power) (v2_Ring_power : Vals [V.int 2] ds_Ring_power) (G_Ring_power : FnOk P w K mg base (L2.CX P w) 4 f_Ring_power fd_Ring_power ["self", "a", "count"] (spBadC K CR CT cW)) (m_Ring_power : Meth K CR "power" f_Ring_power) {f_Ring_total : Addr} {fd_Ring_total : FuncData} (b_Ring_total : Binds K fd_Ring_total ["self", "weights"] []) (G_Ring_total : FnOk P w K mg base (L2.CX P w) 5 f_Ring_total fd_Ring_total ["self", "weights"] (spBadL K CR CT cW)) (m_Ring_total : Meth K CR "total" f_Ring_total) {f_Ring_product : Addr} {fd_Ring_product : FuncData} (b_Ring_product : Binds K fd_Ring_product ["self", "weights"] []) (G_Ring_product : FnOk P w K mg base (L2.CX P w) 5 f_Ring_product fd_Ring_product ["self", "weights"] (spBadL K CR CT cW)) (m_Ring_product : Meth K CR "product" f_Ring_product) {f_Ring_written : Addr} {fd_Ring_written : FuncData} (b_Ring_written : Binds K fd_Ring_written ["self", "a"] []) (G_Ring_written : FnOk P w K mg base (L2.CX P w) 4 f_Ring_written fd_Ring_written ["self", "a"] (spBad1 K CR CT cW)) (m_Ring_written : Meth K CR "written" f_Ring_written) : FnOk P w K mg base (L2.CX P w) 6 f fd ["_law_base_here", "_law_way", "_law_good", "_law_bad"] (spAnswer K CR CT cW) := by
  refine F.ok (CX := L2.CX P w) sc_answer (fun vs H Q E h => ?_) (fun cdv A outer s H vs Q E hr h => ?_)
  · obtain ⟨v, made, n, S, M, way, a, x, rfl, _⟩ := h
    rfl
  · obtain ⟨v, made, n, S, M, way, a, x, rfl, hR, px, hx, qW⟩ := h
    have hu := hu_of hr
    have hu64 := hr.units
    have hr_Ring_plus := hr.mono (by decide : 4 ≤ 5)
    have hr_Ring_times := hr.mono (by decide : 4 ≤ 5)
    have hr_Ring_star := hr.mono (by decide : 4 ≤ 5)
    have hr_Ring_many := hr.mono (by decide : 4 ≤ 5)
    have hr_Ring_power := hr.mono (by decide : 4 ≤ 5)
    have hr_Ring_total := hr.mono (by decide : 5 ≤ 5)
    have hr_Ring_product := hr.mono (by decide : 5 ≤ 5)
    have hr_Ring_written := hr.mono (by decide : 4 ≤ 5)
    refine ⟨_, (pss_cons (ps_if (pt_cmpR op_lt (pv 1) pe_int (nomark _)) (pss_one (ps_ret (pe_ifExp (pt_cmpR op_eq (pv 1) pe_int (nomark _)) (pe_meth (C := CR) (pv 0) okR.cls m_Ring_plus G_Ring_plus hr_Ring_plus b_Ring_plus .nil (passes_call (takes_of rfl rfl rfl rfl) (fun _ _ _ _ h => h)) (pa_cons (pv 2) (pa_cons (pv 3) pa_nil))) (pe_meth (C := CR) (pv 0) okR.cls m_Ring_times G_Ring_times hr_Ring_times b_Ring_times .nil (passes_call (takes_of rfl rfl rfl rfl) (fun _ _ _ _ h => h)) (pa_cons (pv 3) (pa_cons (pv 2) pa_nil)))))) pss_nil)
      (pss_cons (ps_if (pt_cmpR op_lt (pv 1) pe_int (nomark _)) (pss_one (ps_ret (pe_ifExp (pt_cmpR op_eq (pv 1) pe_int (nomark _)) (pe_meth (C := CR) (pv 0) okR.cls m_Ring_star G_Ring_star hr_Ring_star b_Ring_star .nil (passes_call (takes_of rfl rfl rfl rfl) (fun _ _ _ _ h => h)) (pa_cons (pv 3) pa_nil)) (pe_meth (C := CR) (pv 0) okR.cls m_Ring_many G_Ring_many hr_Ring_many b2_Ring_many v2_Ring_many (passes_call (takes_of rfl rfl rfl rfl) (fun _ _ _ _ h => h)) (pa_cons (pv 3) pa_nil))))) pss_nil)
      (pss_cons (ps_if (pt_cmpR op_lt (pv 1) pe_int (nomark _)) (pss_one (ps_ret (pe_ifExp (pt_cmpR op_eq (pv 1) pe_int (nomark _)) (pe_meth (C := CR) (pv 0) okR.cls m_Ring_power G_Ring_power hr_Ring_power b2_Ring_power v2_Ring_power (passes_call (takes_of rfl rfl rfl rfl) (fun _ _ _ _ h => h)) (pa_cons (pv 3) pa_nil)) (pe_meth (C := CR) (pv 0) okR.cls m_Ring_total G_Ring_total hr_Ring_total b_Ring_total .nil (passes_call (takes_of rfl rfl rfl rfl) (fun _ _ _ _ h => h)) (pa_cons (pe_lst (pa_cons (pv 2) (pa_cons (pv 3) pa_nil))) pa_nil))))) pss_nil)
      (pss_cons (ps_if (pt_cmpR op_lt (pv 1) pe_int (nomark _)) (pss_one (ps_ret (pe_ifExp (pt_cmpR op_eq (pv 1) pe_int (nomark _)) (pe_meth (C := CR) (pv 0) okR.cls m_Ring_product G_Ring_product hr_Ring_product b_Ring_product .nil (passes_call (takes_of rfl rfl rfl rfl) (fun _ _ _ _ h => h)) (pa_cons (pe_lst (pa_cons (pv 3) (pa_cons (pv 2) pa_nil))) pa_nil)) (pe_meth (C := CR) (pv 0) okR.cls m_Ring_written G_Ring_written hr_Ring_written b_Ring_written .nil (passes_call (takes_of rfl rfl rfl rfl) (fun _ _ _ _ h => h)) (pa_cons (pv 3) pa_nil))))) pss_nil)
      (pss_one (ps_ret (pe_ifExp (pt_cmpR op_eq (pv 1) pe_int (nomark _)) (pe_meth (C := CR) (pv 0) okR.cls m_Ring_plus G_Ring_plus hr_Ring_plus b_Ring_plus .nil (passes_call (takes_of rfl rfl rfl rfl) (fun _ _ _ _ h => h)) (pa_cons (pv 3) (pa_cons (pv 2) pa_nil))) (pe_meth (C := CR) (pv 0) okR.cls m_Ring_times G_Ring_times hr_Ring_times b_Ring_times .nil (passes_call (takes_of rfl rfl rfl rfl) (fun _ _ _ _ h => h)) (pa_cons (pv 2) (pa_cons (pv 3) pa_nil)))))))))), ?_⟩
    obtain ⟨r, dr, fr, rfl, h2, h5⟩ := id hR.kind9
    refine q_when (b := decide (way < 2)) (et_test (ev_op (ev_var rfl) ev_c rv_I0)) (fun _ H1 e1 => ?_) (fun _ H1 e1 => ?_)
    · refine r_if (b := way == 0) (et_test (ev_eqI (ev_var rfl) ev_c)) (fun _ Ha ea => ?_) (fun _ Ha ea => ?_)
      · exact ⟨_, rfl, r, dr, fr, rfl, (((Ex.refl H).trans e1).trans ea) _ _ h2, h5 _ (by decide), _, rfl, _, rfl, .ref r, made, n, S, M, .int a, x, rfl, hR.ex (((Ex.refl H).trans e1).trans ea), pk_int a, px.ex (((Ex.refl H).trans e1).trans ea), fun _ => hx, fun Hz d ez hd => qW Hz d ((((Ex.refl H).trans e1).trans ea).trans ez) hd⟩
      · exact ⟨_, rfl, r, dr, fr, rfl, (((Ex.refl H).trans e1).trans ea) _ _ h2, h5 _ (by decide), _, rfl, _, rfl, .ref r, made, n, S, M, x, .int a, rfl, hR.ex (((Ex.refl H).trans e1).trans ea), px.ex (((Ex.refl H).trans e1).trans ea), pk_int a, fun hw => (by rw [hx] at hw; cases hw), fun Hz d ez hd => qW Hz d ((((Ex.refl H).trans e1).trans ea).trans ez) hd⟩
    refine q_when (b := decide (way < 4)) (et_test (ev_op (ev_var rfl) ev_c rv_I0)) (fun _ H2 e2 => ?_) (fun _ H2 e2 => ?_)
    · refine r_if (b := way == 2) (et_test (ev_eqI (ev_var rfl) ev_c)) (fun _ Ha ea => ?_) (fun _ Ha ea => ?_)
      · exact ⟨_, rfl, r, dr, fr, rfl, ((((Ex.refl H).trans e1).trans e2).trans ea) _ _ h2, h5 _ (by decide), _, rfl, .ref r, made, n, S, M, x, rfl, hR.ex ((((Ex.refl H).trans e1).trans e2).trans ea), px.ex ((((Ex.refl H).trans e1).trans e2).trans ea), hx, fun Hz d ez hd => qW Hz d (((((Ex.refl H).trans e1).trans e2).trans ea).trans ez) hd⟩
      · exact ⟨_, rfl, r, dr, fr, rfl, ((((Ex.refl H).trans e1).trans e2).trans ea) _ _ h2, h5 _ (by decide), _, rfl, .ref r, made, n, S, M, x, .int 2, rfl, hR.ex ((((Ex.refl H).trans e1).trans e2).trans ea), px.ex ((((Ex.refl H).trans e1).trans e2).trans ea), hx, fun Hz d ez hd => qW Hz d (((((Ex.refl H).trans e1).trans e2).trans ea).trans ez) hd⟩
    refine q_when (b := decide (way < 6)) (et_test (ev_op (ev_var rfl) ev_c rv_I0)) (fun _ H3 e3 => ?_) (fun _ H3 e3 => ?_)
    · refine r_if (b := way == 4) (et_test (ev_eqI (ev_var rfl) ev_c)) (fun _ Ha ea => ?_) (fun _ Ha ea => ?_)
      · exact ⟨_, rfl, r, dr, fr, rfl, (((((Ex.refl H).trans e1).trans e2).trans e3).trans ea) _ _ h2, h5 _ (by decide), _, rfl, .ref r, made, n, S, M, x, .int 2, rfl, hR.ex (((((Ex.refl H).trans e1).trans e2).trans e3).trans ea), px.ex (((((Ex.refl H).trans e1).trans e2).trans e3).trans ea), hx, fun Hz d ez hd => qW Hz d ((((((Ex.refl H).trans e1).trans e2).trans e3).trans ea).trans ez) hd⟩
      · exact ⟨_, rfl, r, dr, fr, rfl, (((((Ex.refl H).trans e1).trans e2).trans e3).trans ea) _ _ h2, h5 _ (by decide), _, rfl, _, rfl, by show 2 ≤ sizeLine; decide, fun l hl => ⟨.ref r, made, l, n, S, M, .int a, x, rfl, (hR.ex (((((Ex.refl H).trans e1).trans e2).trans e3).trans ea)).ex (Ex.new hl), upd_same, pk_int a, (px.ex (((((Ex.refl H).trans e1).trans e2).trans e3).trans ea)).ex (Ex.new hl), fun _ => hx, fun Hz d ez hd => qW Hz d (((((((Ex.refl H).trans e1).trans e2).trans e3).trans ea).trans (Ex.new hl)).trans ez) hd⟩⟩
    refine q_when (b := decide (way < 8)) (et_test (ev_op (ev_var rfl) ev_c rv_I0)) (fun _ H4 e4 => ?_) (fun _ H4 e4 => ?_)
    · refine r_if (b := way == 6) (et_test (ev_eqI (ev_var rfl) ev_c)) (fun _ Ha ea => ?_) (fun _ Ha ea => ?_)
      · exact ⟨_, rfl, r, dr, fr, rfl, ((((((Ex.refl H).trans e1).trans e2).trans e3).trans e4).trans ea) _ _ h2, h5 _ (by decide), _, rfl, _, rfl, by show 2 ≤ sizeLine; decide, fun l hl => ⟨.ref r, made, l, n, S, M, x, .int a, rfl, (hR.ex ((((((Ex.refl H).trans e1).trans e2).trans e3).trans e4).trans ea)).ex (Ex.new hl), upd_same, (px.ex ((((((Ex.refl H).trans e1).trans e2).trans e3).trans e4).trans ea)).ex (Ex.new hl), pk_int a, fun hw => (by rw [hx] at hw; cases hw), fun Hz d ez hd => qW Hz d ((((((((Ex.refl H).trans e1).trans e2).trans e3).trans e4).trans ea).trans (Ex.new hl)).trans ez) hd⟩⟩
      · exact ⟨_, rfl, r, dr, fr, rfl, ((((((Ex.refl H).trans e1).trans e2).trans e3).trans e4).trans ea) _ _ h2, h5 _ (by decide), _, rfl, .ref r, made, n, S, M, x, rfl, hR.ex ((((((Ex.refl H).trans e1).trans e2).trans e3).trans e4).trans ea), px.ex ((((((Ex.refl H).trans e1).trans e2).trans e3).trans e4).trans ea), hx, fun Hz d ez hd => qW Hz d (((((((Ex.refl H).trans e1).trans e2).trans e3).trans e4).trans ea).trans ez) hd⟩
    refine r_if (b := way == 8) (et_test (ev_eqI (ev_var rfl) ev_c)) (fun _ Ha ea => ?_) (fun _ Ha ea => ?_)
    · exact ⟨_, rfl, r, dr, fr, rfl, ((((((Ex.refl H).trans e1).trans e2).trans e3).trans e4).trans ea) _ _ h2, h5 _ (by decide), _, rfl, _, rfl, .ref r, made, n, S, M, x, .int a, rfl, hR.ex ((((((Ex.refl H).trans e1).trans e2).trans e3).trans e4).trans ea), px.ex ((((((Ex.refl H).trans e1).trans e2).trans e3).trans e4).trans ea), pk_int a, fun hw => (by rw [hx] at hw; cases hw), fun Hz d ez hd => qW Hz d (((((((Ex.refl H).trans e1).trans e2).trans e3).trans e4).trans ea).trans ez) hd⟩
    · exact ⟨_, rfl, r, dr, fr, rfl, ((((((Ex.refl H).trans e1).trans e2).trans e3).trans e4).trans ea) _ _ h2, h5 _ (by decide), _, rfl, _, rfl, .ref r, made, n, S, M, .int a, x, rfl, hR.ex ((((((Ex.refl H).trans e1).trans e2).trans e3).trans e4).trans ea), pk_int a, px.ex ((((((Ex.refl H).trans e1).trans e2).trans e3).trans e4).trans ea), fun _ => hx, fun Hz d ez hd => qW Hz d (((((((Ex.refl H).trans e1).trans e2).trans e3).trans e4).trans ea).trans ez) hd⟩
abbrev s_weighed : Stmt := top 83
theorem sc_weighed : FnScope ["_law_base_here", "_law_way", "_law_good", "_law_bad", "_law_found", "_law_e"] ["_law_base_here", "_law_way", "_law_good", "_law_bad"] (defScope s_weighed) := ⟨rfl, rfl, rfl, by decide +kernel, rfl, by decide +kernel, by decide +kernel⟩
theorem ok_weighed {f : Addr} {fd : FuncData} (F : FnP K "_law_weighed" s_weighed f fd) {CR CT : Addr} {f_answer : Addr} {fd_answer : FuncData} (F_answer : FnP K "_law_answer" s_answer f_answer fd_answer) (g_answer : mg "_law_answer" = some (.ref f_answer)) (G_answer : FnOk P w K mg base (L2.CX P w) 6 f_answer fd_answer ["_law_base_here", "_law_way", "_law_good", "_law_bad"] (spAnswer K CR CT cW)) {f_family : Addr} {fd_family : FuncData} (F_family : FnP K "_law_family" s_family f_family fd_family) (g_family : mg "_law_family" = some (.ref f_family)) (G_family : FnS P w K mg base 1 f_family fd_family ["_law_e"] (spFam K aF aU aK)) (T : Fam9 K mg cR cB cW aF aU aK) (z_isinstance : mg "isinstance" = none) (z_repr : mg "repr" = none) : FnOk P w K mg base CX0 8 f fd ["_law_base_here", "_law_way", "_law_good", "_law_bad"] (spWeighed K CR CT) := by
  have b_answer : Binds K fd_answer ["_law_base_here", "_law_way", "_law_good", "_law_bad"] [] := F_answer.bindsN fun _ _ _ _ _ _ us hl => match us, hl with | [_, _, _, _], _ => rfl
  have b_family : Binds K fd_family ["_law_e"] [] := F_family.bindsN fun _ _ _ _ _ _ us hl => match us, hl with | [_], _ => rfl
  refine F.ok sc_weighed (fun vs H Q E h => ?_) (fun cdv A outer s H vs Q E hr h => ?_)
  · obtain ⟨v, made, n, S, M, way, a, x, rfl, _⟩ := h
    rfl
  · obtain ⟨v, made, n, S, M, way, a, x, rfl, hR, px, hx, q⟩ := h
    have hu := hu_of hr
    have hu64 := hr.units
    have hr_answer := hr.mono (by decide : 6 ≤ 7)
    have hr_family := hr.mono (by decide : 1 ≤ 7)
    refine ⟨_, PSs.nox (pss_cons (ps_set (i := 4) sc_weighed.nd rfl (Or.inl rfl) pe_non)
      (pss_cons (ps_try_manyN (i := 5) (Wout := fun _ _ _ _ => False) rfl rfl rfl sc_weighed.nd rfl rfl takes0 (fun W pn xe tk _ => pss_one (ps_set (i := 4) sc_weighed.nd rfl (Or.inl rfl) (pe_tup (pa_cons pe_str (pa_cons (pe_callB (call_dead (f := .builtin "repr")) (by rfl) z_repr (by decide +kernel) (pa_cons (pe_callS G_answer hr_answer rfl g_answer F_answer.kp b_answer (fun σ => passAt tk σ) (pa_cons (pv 0) (pa_cons (pv 1) (pa_cons (pv 2) (pa_cons (pv 3) pa_nil))))) pa_nil)) pa_nil))))) (.cons ⟨rfl, by decide, .inl T.gW⟩ (fun a oe cls d pn hz hf => (pss_one (ps_set (i := 4) sc_weighed.nd rfl (Or.inl rfl) (pe_tup (pa_cons pe_str (pa_cons (pe_callZ G_family hz hf hr_family rfl g_family F_family.kp b_family pass0 (pa_cons (pv 5) pa_nil)) (pa_cons (pe_callB (call_isX hz hf) (by rfl) z_isinstance PyProof.Rows.boot_isinstance (pa_cons (pv 5) (pa_cons (pe_glob (v := .ref cR) rfl T.gR rfl) pa_nil))) pa_nil))))))) .nil))
      (pss_one (ps_ret (pv 4))))), ?_⟩
    refine ⟨_, rfl, _, rfl, _, rfl, _, rfl, v, made, n, S, M, way, a, x, rfl, hR, px, hx, fun H1 d e1 hd => ?_⟩
    refine ⟨true, T.ww, fun _ => ⟨cW, d, rfl, rfl, fun a ha => ?_⟩, fun h => (by cases h)⟩
    refine ⟨_, rfl, cW, d, _, rfl, rfl, rfl, upd_same, T.eW, T.wF, T.wV, T.wU, T.wK, fun D2 H2 e2 hD2 => ?_⟩
    refine ⟨_, rfl, cW, d, _, .ref cR, .ref cR, false, rfl, rfl, rfl, e2 _ _ upd_same, T.eW, (fun u h => h), T.wR, by show 3 ≤ sizeLine; decide, fun l hl => ?_⟩
    exact ⟨_, rfl, q l D2 _ (((e1.trans (Ex.new hd)).trans e2).trans (Ex.new hl)) upd_same ((Ex.new hl) _ _ hD2)⟩
abbrev s_made : Stmt := top 81
theorem sc_made : FnScope ["_law_thing", "_law_found", "_law_e"] ["_law_thing"] (defScope s_made) := ⟨rfl, rfl, rfl, by decide +kernel, rfl, by decide +kernel, by decide +kernel⟩
theorem ok_made {f : Addr} {fd : FuncData} (F : FnP K "_law_made" s_made f fd) {CR CT : Addr} {f_ring_of : Addr} {fd_ring_of : FuncData} (F_ring_of : FnP K "ring_of" s_ring_of f_ring_of fd_ring_of) (g_ring_of : mg "ring_of" = some (.ref f_ring_of)) (G_ring_of : FnOk P w K mg base (L2.CX P w) 13 f_ring_of fd_ring_of ["made"] (spRing9 CR CT cR)) {f_family : Addr} {fd_family : FuncData} (F_family : FnP K "_law_family" s_family f_family fd_family) (g_family : mg "_law_family" = some (.ref f_family)) (G_family : FnS P w K mg base 1 f_family fd_family ["_law_e"] (spFam K aF aU aK)) (T : Fam9 K mg cR cB cW aF aU aK) (z_isinstance : mg "isinstance" = none) : FnOk P w K mg base CX0 15 f fd ["_law_thing"] (spMade9 CR CT) := by
  have b_ring_of : Binds K fd_ring_of ["made"] [] := F_ring_of.bindsN fun _ _ _ _ _ _ us hl => match us, hl with | [_], _ => rfl
  have b_family : Binds K fd_family ["_law_e"] [] := F_family.bindsN fun _ _ _ _ _ _ us hl => match us, hl with | [_], _ => rfl
  refine F.ok sc_made (fun vs H Q E h => ?_) (fun cdv A outer s H vs Q E hr h => ?_)
  · obtain ⟨v, fo, rfl, _⟩ := h
    rfl
  · obtain ⟨v, fo, rfl, hF, hdep, hfi, qF, qT⟩ := h
    have hu := hu_of hr
    have hu64 := hr.units
    have hr_ring_of := hr.mono (by decide : 13 ≤ 14)
    have hr_family := hr.mono (by decide : 1 ≤ 14)
    refine ⟨_, PSs.nox (pss_cons (ps_set (i := 1) sc_made.nd rfl (Or.inl rfl) pe_non)
      (pss_cons (ps_try_manyN (i := 2) (Wout := fun _ _ _ _ => False) rfl rfl rfl sc_made.nd rfl rfl takes0 (fun W pn xe tk _ => pss_one (ps_set (i := 1) sc_made.nd rfl (Or.inl rfl) (pe_callS G_ring_of hr_ring_of rfl g_ring_of F_ring_of.kp b_ring_of (fun σ => passAt tk σ) (by exact (pa_cons (pv 0) pa_nil))))) (.cons ⟨rfl, by decide, .inl T.gB⟩ (fun a oe cls d pn hz hf => pss_dead) (.cons ⟨rfl, by decide, .inl T.gR⟩ (fun a oe cls d pn hz hf => (pss_one (ps_set (i := 1) sc_made.nd rfl (Or.inl rfl) (pe_tup (pa_cons pe_str (pa_cons (pe_xf T.xR T.nw hz hf (pv 2)) (pa_cons (pe_callZ G_family hz hf hr_family rfl g_family F_family.kp b_family pass0 (pa_cons (pv 2) pa_nil)) (pa_cons (pe_callB (call_isX hz hf) (by rfl) z_isinstance PyProof.Rows.boot_isinstance (pa_cons (pv 2) (pa_cons (pe_glob (v := .ref cW) rfl T.gW rfl) pa_nil))) pa_nil)))))))) .nil)))
      (pss_one (ps_ret (pv 1))))), ?_⟩
    refine ⟨_, rfl, v, fo, rfl, hF, hdep, hfi, fun hb H1 d e1 hd => ?_, fun hb => ?_⟩
    · refine ⟨false, T.rb, fun h => (by cases h), fun _ => ⟨true, T.rr, fun _ => ⟨cR, d, rfl, rfl, fun a ha => ?_⟩, fun h => (by cases h)⟩⟩
      refine ⟨_, rfl, rfl, rfl, d, _, _, rfl, upd_same, rfl, _, rfl, cR, d, _, rfl, rfl, rfl, upd_same, T.eR, T.rF, T.rV, T.rU, T.rK, fun D2 H2 e2 hD2 => ?_⟩
      refine ⟨_, rfl, cR, d, _, .ref cW, .ref cW, false, rfl, rfl, rfl, e2 _ _ upd_same, T.eR, (fun u h => h), T.rW, by show 4 ≤ sizeLine; decide, fun l hl => ?_⟩
      exact ⟨_, rfl, qF hb l D2 _ (((e1.trans (Ex.new hd)).trans e2).trans (Ex.new hl)) upd_same ((Ex.new hl) _ _ hD2)⟩
    · obtain ⟨n, S, M, h1, h2, h3, h4, h5, h6, qR⟩ := qT hb
      exact ⟨n, S, M, h1, h2, h3, h4, h5, h6, fun r H1 e1 hR => ⟨_, rfl, qR r H1 e1 hR⟩⟩
end
end D1
end
section
set_option Elab.async false
set_option linter.all false
set_option maxRecDepth 100000
set_option maxHeartbeats 1000000
/-! F7: tables with another thing, other rows -/
namespace D1
open PySem L2 Evl RZ ClX PySem.VX
theorem asg_step {i : Nat} {te : TE} {z : TS} {D : Ends} {σ : L2.St} {H : Hp} (h : te σ H fun x H1 => z D (σ.set i (some x)) H1) : tSeq (tAsg te (gName i)) z D σ H := h
def RowsW (o : List V → HO) (H : Hp) (rs : List Addr) (t : List (List V)) : Prop := rs.length = t.length ∧ ∀ (i : Nat) r row, rs[i]? = some r → t[i]? = some row → H r = some (o row)
theorem RowsW.ex {o : List V → HO} {H H' : Hp} {rs : List Addr} {t : List (List V)} (h : RowsW o H rs t) (e : Ex H H') : RowsW o H' rs t := ⟨h.1, fun i r row a b => e _ _ (h.2 i r row a b)⟩
theorem RowsW.push {o : List V → HO} {H : Hp} {rs : List Addr} {t : List (List V)} {r : Addr} {row : List V} (h : RowsW o H rs t) (hr : H r = some (o row)) : RowsW o H (rs ++ [r]) (t ++ [row]) := by
  obtain ⟨h1, h2⟩ := h
  refine ⟨by simp [h1], fun i r' row' a b => ?_⟩
  by_cases hi : i < rs.length
  · rw [List.getElem?_append_left hi] at a
    rw [List.getElem?_append_left (by omega)] at b
    exact h2 i r' row' a b
  · have hl := (List.getElem?_eq_some_iff.mp a).1
    rw [List.length_append] at hl
    obtain rfl : i = rs.length := by simp at hl; omega
    rw [List.getElem?_append_right (Nat.le_refl _), Nat.sub_self] at a
    rw [h1, List.getElem?_append_right (Nat.le_refl _), Nat.sub_self] at b
    cases a
    cases b
    exact hr
theorem RowsW.upd {o : List V → HO} {H : Hp} {rs : List Addr} {t : List (List V)} {D : Addr} {u : HO} (h : RowsW o H rs t) (hD : D ∉ rs) : RowsW o (upd H D u) rs t := ⟨h.1, fun i r row a b => by
  have ne : r ≠ D := fun z => hD (z ▸ List.mem_of_getElem? a)
  rw [upd_ne ne]
  exact h.2 i r row a b⟩
theorem TabAt.rowsW {H : Hp} {p : Addr} {t : Tb} (h : TabAt H p t) : ∃ rs : List Addr, H p = some (.tup (rs.map V.ref)) ∧ RowsW .tup H rs (t.map (·.map V.int)) := by
  obtain ⟨rs, h1, h2, h3⟩ := h
  refine ⟨rs, h1, by rw [List.length_map]; exact h2, fun i r row a b => ?_⟩
  rw [List.getElem?_map] at b
  obtain ⟨row', hr, rfl⟩ := Option.map_eq_some_iff.mp b
  exact h3 i r row' a hr
section
variable {K : PySem.W.Frag} {σ : L2.St} {H : Hp} {tl : TE}
/-- [list(row) for row in table] -/
theorem list_rowsW {p : Addr} {rs : List Addr} {t : List (List V)} {j : Nat} {vs : List Nat} {Q : VK} (h : Ev tl σ H (.ref p)) (hp : H p = some (.tup (rs.map V.ref))) (hT : RowsW .tup H rs t) (hz : rs.length ≤ 40000) (hw : ∀ x, wipe ((wipe σ vs).set j (some x)) vs = wipe σ vs) (hg : ∀ x : V, ((wipe σ vs).set j (some x))[j]? = some (some x))
    (q : ∀ (D : Addr) (rs2 : List Addr) H', Ex H H' → H D = none → H' D = some (.lst (rs2.map V.ref)) → rs2.Nodup → D ∉ rs2 → (∀ r ∈ rs2, H r = none) → RowsW .lst H' rs2 t → Q (.ref D) H') : tLc (iTup K tl) (gName j) tYes (tCB (rLo K) (tCons (tVar j) tNil)) vs σ H Q := by
  refine h H (Ex.refl H) _ fun H1 e1 => ⟨p, rfl, ⟨_, .inl (.inl (e1 _ _ hp))⟩, fun Dl hDl => ?_⟩
  have hDH : H Dl = none := fresh_back e1 hDl
  refine turns_it (walk_tup (K := K) (a := p) (xs := rs.map V.ref)) (fun i G => Ex H1 G ∧ ∃ rs2 : List Addr, G Dl = some (.lst (rs2.map V.ref)) ∧ rs2.length = i ∧ rs2.Nodup ∧ Dl ∉ rs2 ∧ (∀ r ∈ rs2, H r = none ∧ G r ≠ none) ∧ RowsW .lst G rs2 (t.take i)) ⟨Ex.new hDl, [], upd_same, rfl, List.nodup_nil, by simp, fun r hr => by simp at hr, rfl, fun i r row a _ => by simp at a⟩ (fun i G _ k => .inl (.inl (k.1 _ _ (e1 _ _ hp)))) ?_ ?_
  · rintro i x _ G hi ⟨eG, rs2, hG, hl2, hnd, hDr, hfr, hR2⟩ ⟨rfl, hx⟩
    have hx2 : (rs.map V.ref)[i]? = some x := hx
    rw [List.getElem?_map] at hx2
    obtain ⟨r, hr1, rfl⟩ := Option.map_eq_some_iff.mp hx2
    have hir : i < rs.length := (List.getElem?_eq_some_iff.mp hr1).1
    have hit : i < t.length := by have := hT.1; omega
    have hrow := List.getElem?_eq_getElem hit
    have hr2 : G r = some (.tup t[i]) := eG _ _ (e1 _ _ (hT.2 i r t[i] hr1 hrow))
    refine ⟨hw _, tyes_go (yes_of rfl ?_)⟩
    refine ⟨_, hg _, r, _, rfl, .inr (.inl (.inl hr2)), fun l hl => ⟨rs2.map V.ref, by rw [upd_ne (ne_of_none hG hl)]; exact hG, ?_, Ex.mut (eG.trans (Ex.new hl)) hDl, rs2 ++ [l], by rw [upd_same, List.map_append]; rfl, by rw [List.length_append, hl2]; rfl, ?_, ?_, ?_, ?_⟩⟩
    · rw [List.length_map]
      exact Nat.lt_of_le_of_lt (by omega : rs2.length ≤ 40000) (by decide)
    · rw [List.nodup_append]
      refine ⟨hnd, by simp, fun a ha b hb => ?_⟩
      simp at hb
      subst hb
      exact fun z => (hfr a ha).2 (z ▸ hl)
    · intro hm
      rcases List.mem_append.mp hm with h | h
      · exact hDr h
      · simp at h
        rw [h, hl] at hG
        cases hG
    · intro r' hr'
      have lD : l ≠ Dl := fun z => by
        rw [z, hG] at hl
        cases hl
      rcases List.mem_append.mp hr' with h | h
      · have hn := hfr r' h
        refine ⟨hn.1, ?_⟩
        have rD : r' ≠ Dl := fun z => hDr (z ▸ h)
        rw [upd_ne rD]
        by_cases hrl : r' = l
        · rw [hrl, upd_same]
          exact Option.some_ne_none _
        · rw [upd_ne hrl]
          exact hn.2
      · simp at h
        subst h
        refine ⟨fresh_back (e1.trans eG) hl, ?_⟩
        rw [upd_ne lD, upd_same]
        exact Option.some_ne_none _
    · rw [List.take_succ, hrow]
      refine RowsW.upd (RowsW.push (hR2.ex (Ex.new hl)) upd_same) ?_
      intro hm
      rcases List.mem_append.mp hm with h | h
      · exact hDr h
      · simp at h
        rw [h, hl] at hG
        cases hG
  · rintro G ⟨eG, rs2, hG, hl2, hnd, hDr, hfr, hR2⟩
    rw [List.length_map, hT.1, List.take_length] at hR2
    exact q Dl rs2 G (e1.trans eG) hDH hG hnd hDr (fun r hr => (hfr r hr).1) hR2
/-- tuple([tuple(row) for row in rows]) -/
theorem tup_rowsW {D : Addr} {rs : List Addr} {t : List (List V)} {j : Nat} {vs : List Nat} {Q : VK} (h : Ev tl σ H (.ref D)) (hD : H D = some (.lst (rs.map V.ref))) (hR : RowsW .lst H rs t) (hz : rs.length ≤ 40000) (hw : ∀ x, wipe ((wipe σ vs).set j (some x)) vs = wipe σ vs) (hg : ∀ x : V, ((wipe σ vs).set j (some x))[j]? = some (some x))
    (q : ∀ (p : Addr) (rs2 : List Addr) H', Ex H H' → H' p = some (.tup (rs2.map V.ref)) → RowsW .tup H' rs2 t → Q (.ref p) H') : tThen (tLc (iList K tl) (gName j) tYes (tThen (tVar j) (kTup K)) vs) (kTup K) σ H Q := by
  refine h H (Ex.refl H) _ fun H1 e1 => ⟨D, rfl, ⟨_, SqL.of (e1 _ _ hD)⟩, fun Dl hDl => ?_⟩
  refine turns_it (walk_list (K := K) (a := D) (xs := rs.map V.ref)) (fun i G => Ex H1 G ∧ ∃ rs2, G Dl = some (.lst (rs2.map V.ref)) ∧ Dl ∉ rs2 ∧ RowsW .tup G rs2 (t.take i)) ⟨Ex.new hDl, [], upd_same, by simp, rfl, fun i r row a _ => by simp at a⟩ (fun i G _ p => SqL.of (p.1 _ _ (e1 _ _ hD))) ?_ ?_
  · rintro i x _ G hi ⟨eG, rs2, hG, hDr, hR2⟩ ⟨rfl, hx⟩
    have hx2 : (rs.map V.ref)[i]? = some x := hx
    rw [List.getElem?_map] at hx2
    obtain ⟨r, hr1, rfl⟩ := Option.map_eq_some_iff.mp hx2
    have hit : i < t.length := by
      have := (List.getElem?_eq_some_iff.mp hr1).1
      have := hR.1
      omega
    have hrow := List.getElem?_eq_getElem hit
    have hr2 : G r = some (.lst t[i]) := eG _ _ (e1 _ _ (hR.2 i r t[i] hr1 hrow))
    have hnD : ∀ {p : Addr}, G p = none → Dl ∉ rs2 ++ [p] := fun {p} hp hm => by
      rcases List.mem_append.mp hm with h | h
      · exact hDr h
      · simp at h
        rw [h, hp] at hG
        cases hG
    refine ⟨hw _, tyes_go (yes_of rfl ?_)⟩
    refine ⟨_, hg _, .inl ⟨r, _, rfl, SqL.of hr2, fun p hp => ⟨rs2.map V.ref, by rw [upd_ne (ne_of_none hG hp)]; exact hG, ?_, Ex.mut (eG.trans (Ex.new hp)) hDl, rs2 ++ [p], by rw [upd_same, List.map_append]; rfl, hnD hp, ?_⟩⟩⟩
    · rw [List.length_map, hR2.1, List.length_take]
      have := hR.1
      exact Nat.lt_of_le_of_lt (by omega : min i t.length ≤ 40000) (by decide)
    · rw [List.take_succ, hrow]
      exact RowsW.upd (RowsW.push (hR2.ex (Ex.new hp)) upd_same) (hnD hp)
  · rintro G ⟨eG, rs2, hG, hDr, hR2⟩
    rw [List.length_map, hR.1, List.take_length] at hR2
    refine .inl ⟨Dl, _, rfl, SqL.of hG, fun p hp => q p rs2 _ ((e1.trans eG).trans (Ex.new hp)) upd_same (hR2.ex (Ex.new hp))⟩
/-- made[:at] + (thing,) + made[at + 1:] -/
theorem glue {tm ta tmid : TE} {m : Addr} {s p q : V} {at_ : Int} {Q : VK} {Mid : Hp → V → Prop} (mono : ∀ H1 H2 u, Ex H1 H2 → Mid H1 u → Mid H2 u) (hm : Ev tm σ H (.ref m)) (ha : Ev ta σ H (.int at_)) (hM : H m = some (.tup [s, p, q])) (hat : at_ = 1 ∨ at_ = 2)
    (hmid : ∀ H1, Ex H H1 → ∀ Q' : VK, (∀ u H2, Ex H1 H2 → Mid H2 u → Q' u H2) → tmid σ H1 Q')
    (k : ∀ (D : Addr) (u : V) H', Ex H H' → Mid H' u → H' D = some (.tup (if at_ = 1 then [s, u, q] else [s, p, u])) → Q (.ref D) H') :
    tOp (rCatA K) (tOp (rCatA K) (tSl (rSlT K) tm tNoPart (tPart ta)) (tTup (tCons tmid tNil))) (tSl (rSlT K) tm (tPart (tOp (rI0 fun i j => .int (i + j)) ta (tC (.int 1)))) tNoPart) σ H Q := by
  refine hm H (Ex.refl H) _ fun H1 e1 => ha H1 e1 _ fun H2 e2 => ⟨at_, rfl, m, [s, p, q], rfl, .inl (.inl (e2 _ _ (e1 _ _ hM))), ?_, fun p1 hp1 => ?_⟩
  · rcases hat with rfl | rfl
    · show ¬((0 : Nat) = 0 ∧ (1 : Nat) = 3); decide
    · show ¬((0 : Nat) = 0 ∧ (2 : Nat) = 3); decide
  have eA := (e1.trans e2).trans (Ex.new (o := .tup (cutV [s, p, q] none (some at_))) hp1)
  refine hmid _ eA _ fun u H3 e3 hu => ⟨by show 1 ≤ sizeLine; decide, fun p2 hp2 => ?_⟩
  have eB := eA.trans (e3.trans (Ex.new (o := .tup [u]) hp2))
  have hP1 : upd H3 p2 (.tup [u]) p1 = some (.tup (cutV [s, p, q] none (some at_))) := (Ex.new (o := .tup [u]) hp2) _ _ (e3 _ _ upd_same)
  refine ⟨p1, p2, _, [u], rfl, rfl, .inl (.inl hP1), .inl (.inl upd_same), ?_, fun h => ?_, fun _ h => (by cases h), fun _ _ p3 hp3 => ?_⟩
  · rcases hat with rfl | rfl
    · show 1 + 1 ≤ sizeLine; decide
    · show 2 + 1 ≤ sizeLine; decide
  · rcases hat with rfl | rfl <;> cases h
  have eC := eB.trans (Ex.new (o := .tup (cutV [s, p, q] none (some at_) ++ [u])) hp3)
  refine hm _ eC _ fun H4 e4 => ha H4 (eC.trans e4) _ fun H5 e5 => ⟨at_, 1, rfl, rfl, _, rfl, m, [s, p, q], rfl, .inl (.inl (((eC.trans e4).trans e5) _ _ hM)), ?_, fun p4 hp4 => ?_⟩
  · rcases hat with rfl | rfl
    · show ¬((2 : Nat) = 0 ∧ (3 : Nat) = 3); decide
    · show ¬((3 : Nat) = 0 ∧ (3 : Nat) = 3); decide
  have hP3 : upd H5 p4 (.tup (cutV [s, p, q] (some (at_ + 1)) none)) p3 = some (.tup (cutV [s, p, q] none (some at_) ++ [u])) := (Ex.new hp4) _ _ ((e4.trans e5) _ _ upd_same)
  have eD := (eC.trans (e4.trans e5)).trans (Ex.new (o := .tup (cutV [s, p, q] (some (at_ + 1)) none)) hp4)
  have hu2 : Mid (upd H5 p4 (.tup (cutV [s, p, q] (some (at_ + 1)) none))) u := mono _ _ _ ((((Ex.new hp2).trans (Ex.new hp3)).trans (e4.trans e5)).trans (Ex.new hp4)) hu
  refine ⟨p3, p4, _, _, rfl, rfl, .inl (.inl hP3), .inl (.inl upd_same), ?_, fun h => ?_, fun _ h => ?_, fun _ h p5 hp5 => ?_⟩
  · rcases hat with rfl | rfl
    · show 2 + 1 ≤ sizeLine; decide
    · show 3 + 0 ≤ sizeLine; decide
  · rcases hat with rfl | rfl <;> cases h
  · rcases hat with rfl | rfl
    · cases h
    · exact k p3 u _ eD hu2 hP3
  · rcases hat with rfl | rfl
    · exact k p5 u _ (eD.trans (Ex.new hp5)) (mono _ _ _ (Ex.new hp5) hu2) upd_same
    · exact absurd rfl h
end
def rowT (row : List Int) : Td := .tu (row.map fun i => .pl (.int i))
def tabT (t : Tb) : Td := .tu (t.map rowT)
def tab3 (a b : Td) : Td := .tu [.pl (.str "table"), a, b]
theorem TdAll.ints {H : Hp} : ∀ row : List Int, TdAll H (row.map V.int) (row.map fun i => Td.pl (.int i))
  | [] => .nil
  | _ :: r => .cons (.pl rfl) (TdAll.ints r)
theorem TdAll.set {H : Hp} : ∀ {us : List V} {ts : List Td} {v : V} {t : Td}, TdAll H us ts → TdAt H v t → ∀ i : Nat, TdAll H (us.set i v) (ts.set i t)
  | _, [], v, t, h, ht, i => by
    cases h
    exact .nil
  | _, t' :: ts, v, t, h, ht, i => by
    cases h with
    | cons h r =>
      cases i with
      | zero => exact .cons ht r
      | succ i => exact .cons h (TdAll.set r ht i)
theorem rows_td {H : Hp} {rs : List Addr} {t : List (List V)} {ts : List (List Td)} (h : RowsW .tup H rs t) (hl : t.length = ts.length) (ha : ∀ (i : Nat) row r, t[i]? = some row → ts[i]? = some r → TdAll H row r) : TdAll H (rs.map V.ref) (ts.map Td.tu) := by
  refine TdAll.of (by rw [List.length_map, List.length_map, h.1, hl]) fun i v t' hv ht => ?_
  rw [List.getElem?_map] at hv ht
  obtain ⟨r, hr, rfl⟩ := Option.map_eq_some_iff.mp hv
  obtain ⟨r', hr', rfl⟩ := Option.map_eq_some_iff.mp ht
  have hit : i < t.length := by
    have := (List.getElem?_eq_some_iff.mp hr').1
    omega
  have hrow := List.getElem?_eq_getElem hit
  exact .tu (h.2 i r _ hr hrow) (ha i _ _ hrow hr')
theorem TabAt.td {H : Hp} {p : Addr} {t : Tb} (h : TabAt H p t) : TdAt H (.ref p) (tabT t) := by
  obtain ⟨rs, h1, h2⟩ := h.rowsW
  have := rows_td (ts := t.map fun row => row.map fun i => Td.pl (.int i)) h2 (by rw [List.length_map, List.length_map]) fun i row r a b => by
    rw [List.getElem?_map] at a b
    obtain ⟨x, hx, rfl⟩ := Option.map_eq_some_iff.mp a
    rw [hx] at b
    obtain rfl := Option.some.inj b
    exact TdAll.ints x
  rw [List.map_map] at this
  exact .tu h1 this
theorem tab_td {H : Hp} {v : V} {S M : Tb} (h : MkAt H v (.tab S M)) : TdAt H v (tab3 (tabT S) (tabT M)) := by
  obtain ⟨a, p, q, rfl, h1, h2, h3⟩ := h
  exact .tu h1 (.cons (.pl rfl) (.cons h2.td (.cons h3.td .nil)))
def setTd (t : Tb) (a b : Int) (x : Td) : Td := .tu ((t.map rowT).set a.toNat (.tu (((t.getD a.toNat []).map fun i => Td.pl (.int i)).set b.toNat x)))
def putT (S M : Tb) (at_ a b : Int) (x : Td) : Td := if at_ = 1 then tab3 (setTd S a b x) (tabT M) else tab3 (tabT S) (setTd M a b x)
def rowsTd (S M : Tb) (at_ : Int) (ts : Td) : Td := if at_ = 1 then tab3 ts (tabT M) else tab3 (tabT S) ts
section
variable {P : Program} {w : World} {K : PySem.W.Frag} {mg : Str → Option Value} {base : Heap}
def spPut : Sp := fun vs H Q _ => ∃ (v x : V) (n : Nat) (S M : Tb) (at_ a b : Int) (tx : Td), vs = [v, .int at_, .int a, .int b, x] ∧ MkAt H v (.tab S M) ∧ Sq n S ∧ Sq n M ∧ n ≤ 6 ∧ (at_ = 1 ∨ at_ = 2) ∧ In n a ∧ In n b ∧ TdAt H x tx ∧ ∀ D H', Ex H H' → TdAt H' (.ref D) (putT S M at_ a b tx) → Q (.ref D) H'
def spRowsT : Sp := fun vs H Q _ => ∃ (v : V) (L : Addr) (S M : Tb) (at_ : Int) (us : List V) (ts : List Td), vs = [v, .int at_, .ref L] ∧ MkAt H v (.tab S M) ∧ (at_ = 1 ∨ at_ = 2) ∧ H L = some (.lst us) ∧ TdAll H us ts ∧ ∀ D H', Ex H H' → TdAt H' (.ref D) (rowsTd S M at_ (.tu ts)) → Q (.ref D) H'
abbrev s_put : Stmt := top 84
theorem sc_put : FnScope ["_law_made_here", "_law_at", "_law_row", "_law_place", "_law_thing", "_law_rows_here", "_law_one"] ["_law_made_here", "_law_at", "_law_row", "_law_place", "_law_thing"] (defScope s_put) := ⟨rfl, rfl, rfl, by decide +kernel, rfl, by decide +kernel, by decide +kernel⟩
theorem ok_put {f : Addr} {fd : FuncData} (F : FnP K "_law_put" s_put f fd) (z_list : mg "list" = none) (z_tuple : mg "tuple" = none) : FnOk P w K mg base CX0 1 f fd ["_law_made_here", "_law_at", "_law_row", "_law_place", "_law_thing"] spPut := by
  refine F.ok sc_put (fun vs H Q E h => ?_) (fun cdv A outer s H vs Q E hr h => ?_)
  · obtain ⟨v, x, n, S, M, at_, a, b, tx, rfl, _⟩ := h
    rfl
  · obtain ⟨v, x, n, S, M, at_, a, b, tx, rfl, hM, sS, sM, n6, hat, ia, ib, hx, q⟩ := h
    have hu := hu_of hr
    have hu64 := hr.units
    refine ⟨_, PSs.nox (pss_cons (ps_setLc (i := 5) (own := [("_law_one", 6)]) (g := gName 6) (tt := tYes) (te := tCB (rLo K) (tCons (tVar 6) tNil)) (by rfl) sc_put.nd rfl rfl (sw_true rfl rfl rfl (by decide +kernel)) (pi_tup (pe_ix ix_tup (pv 0) (pv 1) (fun _ _ => rfl))) (blkOk_by (own := [("_law_one", 6)]) (N := ["_law_made_here", "_law_at", "_law_row", "_law_place", "_law_thing", "_law_rows_here", "_law_one"]) (sc := defScope s_put) (by decide +kernel)) (fun _ _ _ _ _ => pg_name (i := 6) sc_put.nd rfl (Or.inl rfl)) (fun _ _ _ _ _ => pts_nil) (fun _ _ _ _ _ => pe_callTy call_lo (by rfl) z_list PyProof.Rows.boot_list (pa_cons (pv 6) pa_nil)))
      (pss_cons (ps_asg (pv 4) (pg_sub (pe_ix ix_list (pv 5) (pv 2) (fun _ _ => rfl)) (pv 3) set_list))
      (pss_one (ps_ret (pe_op op_catA (pe_op op_catA (pe_slice sl_tup (pv 0) po_none (po_some (pv 1))) (pe_tup (pa_cons (pe_tupleOf rfl z_tuple (pe_lc (own := [("_law_one", 6)]) (g := gName 6) (tt := tYes) (te := tThen (tVar 6) (kTup K)) (by rfl) sc_put.nd (pi_list (pv 5)) (blkOk_by (own := [("_law_one", 6)]) (N := ["_law_made_here", "_law_at", "_law_row", "_law_place", "_law_thing", "_law_rows_here", "_law_one"]) (sc := defScope s_put) (by decide +kernel)) (fun _ _ _ _ _ => pg_name (i := 6) sc_put.nd rfl (Or.inl rfl)) (fun _ _ _ _ _ => pts_nil) (fun _ _ _ _ _ => pe_tupleOf rfl z_tuple (pv 6)))) pa_nil))) (pe_slice sl_tup (pv 0) (po_some (pe_op op_add (pv 1) pe_int)) po_none)))))), ?_⟩
    obtain ⟨m, p, p', rfl, hm, hS, hT⟩ := id hM
    obtain ⟨pp, t, hpp, hA, sq, k⟩ : ∃ (pp : Addr) (t : Tb), atI [V.str "table", .ref p, .ref p'] at_ = some (.ref pp) ∧ TabAt H pp t ∧ Sq n t ∧ (∀ D u H', Ex H H' → TdAt H' u (setTd t a b tx) → H' D = some (.tup (if at_ = 1 then [.str "table", u, .ref p'] else [.str "table", .ref p, u])) → Q (.ref D) H') := by
      rcases hat with rfl | rfl
      · exact ⟨p, S, rfl, hS, sS, fun D u H' e hu hD => q D H' e (.tu hD (.cons (.pl rfl) (.cons hu (.cons (hT.td.up e) .nil))))⟩
      · exact ⟨p', M, rfl, hT, sM, fun D u H' e hu hD => q D H' e (.tu hD (.cons (.pl rfl) (.cons (hS.td.up e) (.cons hu .nil))))⟩
    obtain ⟨rs, h1, h2⟩ := hA.rowsW
    have hl : rs.length = n := by rw [h2.1, List.length_map, sq.len]
    refine asg_step (list_rowsW (t := t.map (·.map V.int)) (rs := rs) (p := pp) (ev_op (ev_var rfl) (ev_var rfl) (rv_ixT (.inl (.inl hm)) hpp)) h1 h2 (by omega) (by intro x; rfl) (by intro x; rfl) fun D rs2 H1 e1 hD0 hD hnd hDr hfr hR => ?_)
    have ha : a.toNat < t.length := by have := sq.len; have := ia.1; have := ia.2; omega
    have hl2 : rs2.length = t.length := by rw [hR.1, List.length_map]
    have hr2 := List.getElem?_eq_getElem (by omega : a.toNat < rs2.length)
    have hrow : (t.map (·.map V.int))[a.toNat]? = some (t[a.toNat].map V.int) := by rw [List.getElem?_map, List.getElem?_eq_getElem ha]; rfl
    have hrl := hR.2 _ _ _ hr2 hrow
    have hlr := (sq.row _ (List.getElem_mem ha)).1
    generalize hrr : rs2[a.toNat] = r at hr2 hrl
    have hrm : r ∈ rs2 := List.mem_of_getElem? hr2
    have rD : D ≠ r := fun z => hDr (z ▸ hrm)
    refine ⟨_, rfl, _, rfl, _, rfl, D, _, a, .ref r, rfl, rfl, SqL.of hD, atI_of ia.1 (by rw [List.getElem?_map, hr2]; rfl), _, rfl, r, _, b, b.toNat, rfl, rfl, hrl, ixN_of ib.1 (by rw [List.length_map, hlr]; have := ib.1; have := ib.2; omega), ?_⟩
    have e2 : Ex H (upd H1 r (.lst ((t[a.toNat].map V.int).set b.toNat x))) := Ex.mut e1 (hfr r hrm)
    have hD2 : upd H1 r (.lst ((t[a.toNat].map V.int).set b.toNat x)) D = some (.lst (rs2.map V.ref)) := by rw [upd_ne rD]; exact hD
    have hR2 : RowsW .lst (upd H1 r (.lst ((t[a.toNat].map V.int).set b.toNat x))) rs2 ((t.map (·.map V.int)).set a.toNat ((t[a.toNat].map V.int).set b.toNat x)) := by
      refine ⟨by rw [List.length_set, List.length_map, hl2], fun i r' row' c d => ?_⟩
      by_cases hi : i = a.toNat
      · subst hi
        rw [hr2] at c
        obtain rfl := Option.some.inj c
        rw [List.getElem?_set_self (by rw [List.length_map]; exact ha)] at d
        obtain rfl := Option.some.inj d
        exact upd_same
      · rw [List.getElem?_set_ne (fun z => hi z.symm)] at d
        have ne : r' ≠ r := fun z => by
          subst z
          obtain ⟨k1, k2⟩ := List.getElem?_eq_some_iff.mp c
          obtain ⟨k3, k4⟩ := List.getElem?_eq_some_iff.mp hr2
          exact hi ((List.getElem_inj hnd).mp (k2.trans k4.symm))
        rw [upd_ne ne]
        exact hR.2 i r' row' c d
    generalize upd H1 r (.lst ((t[a.toNat].map V.int).set b.toNat x)) = H2 at e2 hD2 hR2
    have hg : t.getD a.toNat [] = t[a.toNat] := by rw [List.getD_eq_getElem?_getD, List.getElem?_eq_getElem ha]; rfl
    refine glue (Mid := fun H u => TdAt H u (setTd t a b tx)) (fun _ _ _ e h => h.up e) (ev_var rfl) (ev_var rfl) (e2 _ _ hm) hat (fun H3 e3 Q' k' => ?_) fun D' u H' e hu hD' => k D' u H' (e2.trans e) hu hD'
    refine tup_rowsW (ev_var rfl) (e3 _ _ hD2) (hR2.ex e3) (by have := sq.len; omega) (by intro x; rfl) (by intro x; rfl) fun p2 rs3 H4 e4 hp2 hR4 => k' (.ref p2) H4 e4 ?_
    have := rows_td (ts := (t.map fun row => row.map fun i => Td.pl (.int i)).set a.toNat ((t[a.toNat].map fun i => Td.pl (.int i)).set b.toNat tx)) hR4 (by rw [List.length_set, List.length_set, List.length_map, List.length_map]) fun i row r' c d => by
      by_cases hi : i = a.toNat
      · subst hi
        rw [List.getElem?_set_self (by rw [List.length_map]; exact ha)] at c d
        obtain rfl := Option.some.inj c
        obtain rfl := Option.some.inj d
        exact (TdAll.ints _).set (hx.up ((e2.trans e3).trans e4)) _
      · rw [List.getElem?_set_ne (fun z => hi z.symm), List.getElem?_map] at c d
        obtain ⟨y, hy, rfl⟩ := Option.map_eq_some_iff.mp c
        rw [hy] at d
        obtain rfl := Option.some.inj d
        exact TdAll.ints y
    rw [List.map_set, List.map_map] at this
    show TdAt H4 (.ref p2) (setTd t a b tx)
    unfold setTd
    rw [hg]
    exact .tu hp2 this
abbrev s_rowsT : Stmt := top 85
theorem sc_rowsT : FnScope ["_law_made_here", "_law_at", "_law_rows_here"] ["_law_made_here", "_law_at", "_law_rows_here"] (defScope s_rowsT) := ⟨rfl, rfl, rfl, by decide +kernel, rfl, by decide +kernel, by decide +kernel⟩
theorem ok_rowsT {f : Addr} {fd : FuncData} (F : FnP K "_law_rows" s_rowsT f fd) (z_tuple : mg "tuple" = none) : FnOk P w K mg base CX0 1 f fd ["_law_made_here", "_law_at", "_law_rows_here"] spRowsT := by
  refine F.ok sc_rowsT (fun vs H Q E h => ?_) (fun cdv A outer s H vs Q E hr h => ?_)
  · obtain ⟨v, L, S, M, at_, us, ts, rfl, _⟩ := h
    rfl
  · obtain ⟨v, L, S, M, at_, us, ts, rfl, hM, hat, hL, hU, q⟩ := h
    have hu := hu_of hr
    have hu64 := hr.units
    refine ⟨_, PSs.nox (pss_one (ps_ret (pe_op op_catA (pe_op op_catA (pe_slice sl_tup (pv 0) po_none (po_some (pv 1))) (pe_tup (pa_cons (pe_tupleOf rfl z_tuple (pv 2)) pa_nil))) (pe_slice sl_tup (pv 0) (po_some (pe_op op_add (pv 1) pe_int)) po_none)))), ?_⟩
    obtain ⟨m, p, p', rfl, hm, hS, hT⟩ := id hM
    refine glue (Mid := fun H u => TdAt H u (.tu ts)) (fun _ _ _ e h => h.up e) (ev_var rfl) (ev_var rfl) hm hat (fun H3 e3 Q' k' => ⟨_, rfl, .inl ⟨L, _, rfl, SqL.of (e3 _ _ hL), fun l hl => k' (.ref l) _ (Ex.new hl) (.tu upd_same ((hU.up e3).up (Ex.new hl)))⟩⟩) fun D u H' e hu hD => q D H' e ?_
    rcases hat with rfl | rfl
    · exact .tu hD (.cons (.pl rfl) (.cons hu (.cons (hT.td.up e) .nil)))
    · exact .tu hD (.cons (.pl rfl) (.cons (hS.td.up e) (.cons hu .nil)))
end
end D1
end
section
set_option Elab.async false
set_option linter.all false
set_option maxRecDepth 100000
set_option maxHeartbeats 1000000
/-! F8a: what has not the form -/
namespace D1
open PySem L2 Evl RZ ClX PySem.VX
theorem fine_tab3 (a b : Td) : (tab3 a b).fine := fun z r h => by
  unfold tab3 at h
  injection h with h
  injection h with h1 h2
  injection h1 with h1
  injection h1 with h1
  exact .inl h1.symm
theorem fine_rowsTd (S M : Tb) (at_ : Int) (t : Td) : (rowsTd S M at_ t).fine := by
  unfold rowsTd
  split
  · exact fine_tab3 _ _
  · exact fine_tab3 _ _
theorem fine_pl {v : V} : (Td.pl v).fine := fun z r h => by cases h
theorem fine_ls : Td.ls.fine := fun z r h => by cases h
theorem fine_di : Td.di.fine := fun z r h => by cases h
theorem fine_nil : (Td.tu []).fine := fun z r h => by cases h
theorem fine_tu {a : Td} {l : List Td} (h : isTxt a = false) : (Td.tu (a :: l)).fine := fun z r e => by
  injection e with e
  injection e with e1 e2
  subst e1
  cases h
theorem one_tab3 (a b : Td) : oneB (tab3 a b) = twoB a b := by
  show (("table" : Str) == "table" && twoB a b) = twoB a b
  rw [beq_self_eq_true, Bool.true_and]
theorem twoB_len {ts : List Td} {b : Td} (h : ts.length < 2 ∨ 6 < ts.length) : twoB (.tu ts) b = false := by
  show (within 2 6 (ts.length : Int) && _) = false
  have : within 2 6 (ts.length : Int) = false := by
    unfold within
    rcases h with h | h
    · rw [decide_eq_false (by omega : ¬((2 : Int) ≤ (ts.length : Int))), Bool.false_and]
    · rw [decide_eq_false (by omega : ¬((ts.length : Int) ≤ 6)), Bool.and_false]
  rw [this, Bool.false_and]
/-- other rows in one of the tables -/
theorem rows_bad {n : Nat} {S M : Tb} {at_ : Int} {ts : List Td} (hS : S.length = n) (hM : M.length = n) (h : ts.length ≠ n ∨ ts.all (rowB n) = false) : oneB (rowsTd S M at_ (.tu ts)) = false := by
  unfold rowsTd
  split
  · rw [one_tab3]
    show (within 2 6 (ts.length : Int) && (tableB ts.length (.tu ts) && tableB ts.length (tabT M))) = false
    by_cases hl : ts.length = n
    · have h2 : ts.all (rowB n) = false := h.resolve_left (fun z => z hl)
      have h3 : tableB ts.length (.tu ts) = false := by
        show (decide (ts.length = ts.length) && ts.all (rowB ts.length)) = false
        rw [hl, h2, Bool.and_false]
      rw [h3, Bool.false_and, Bool.and_false]
    · have h3 : tableB ts.length (tabT M) = false := by
        show (decide ((M.map rowT).length = ts.length) && _) = false
        rw [List.length_map, hM, decide_eq_false (fun z => hl z.symm), Bool.false_and]
      rw [h3, Bool.and_false, Bool.and_false]
  · rw [one_tab3]
    show (within 2 6 ((S.map rowT).length : Int) && (tableB (S.map rowT).length (tabT S) && tableB (S.map rowT).length (.tu ts))) = false
    have h3 : tableB (S.map rowT).length (.tu ts) = false := by
      show (decide (ts.length = (S.map rowT).length) && ts.all (rowB (S.map rowT).length)) = false
      rw [List.length_map, hS]
      rcases h with h | h
      · rw [decide_eq_false h, Bool.false_and]
      · rw [h, Bool.and_false]
    rw [h3, Bool.and_false, Bool.and_false]
theorem all_set {α : Type} {p : α → Bool} {l : List α} {i : Nat} {x : α} (hi : i < l.length) (h : p x = false) : (l.set i x).all p = false := by
  rw [Bool.eq_false_iff]
  intro z
  rw [List.all_eq_true] at z
  have := z x (List.mem_iff_getElem.mpr ⟨i, by rw [List.length_set]; exact hi, by simp⟩)
  rw [h] at this
  cases this
theorem put_bad {n : Nat} {S M : Tb} {at_ a b : Int} {tx : Td} (sS : Sq n S) (sM : Sq n M) (ia : In n a) (ib : In n b) (h : placeB n tx = false) : oneB (putT S M at_ a b tx) = false := by
  have go : ∀ t : Tb, Sq n t → ((t.map rowT).set a.toNat (.tu (((t.getD a.toNat []).map fun i => Td.pl (.int i)).set b.toNat tx))).all (rowB n) = false := fun t sq => by
    obtain ⟨a0, a1⟩ := ia
    obtain ⟨b0, b1⟩ := ib
    have hl := sq.len
    have ha : a.toNat < t.length := by omega
    refine all_set (by rw [List.length_map]; exact ha) ?_
    have hg : t.getD a.toNat [] = t[a.toNat] := by rw [List.getD_eq_getElem?_getD, List.getElem?_eq_getElem ha]; rfl
    have hlr := (sq.row _ (List.getElem_mem ha)).1
    show (decide (_ = n) && List.all _ (placeB n)) = false
    rw [all_set (by rw [List.length_map, hg, hlr]; omega) h, Bool.and_false]
  have e : putT S M at_ a b tx = rowsTd S M at_ (if at_ = 1 then setTd S a b tx else setTd M a b tx) := by
    unfold putT rowsTd
    split <;> rfl
  rw [e]
  split
  · exact rows_bad sS.len sM.len (.inr (go S sS))
  · exact rows_bad sS.len sM.len (.inr (go M sM))
theorem row_bad {n : Nat} {ts : List Td} {i : Nat} {tu : Td} (hi : i < ts.length) (h : rowB n tu = false) : (ts.set i tu).all (rowB n) = false := all_set hi h
theorem list_bad {n : Nat} {S M : Tb} {at_ : Int} (hS : S.length = n) : oneB (rowsTd S M at_ .ls) = false := by
  unfold rowsTd
  split
  · rw [one_tab3]
    rfl
  · rw [one_tab3]
    show (within 2 6 ((S.map rowT).length : Int) && (_ && false)) = false
    rw [Bool.and_false, Bool.and_false]
theorem TdAll.append {H : Hp} : ∀ {us vs : List V} {ts rs : List Td}, TdAll H us ts → TdAll H vs rs → TdAll H (us ++ vs) (ts ++ rs)
  | _, _, [], _, h, h' => by
    cases h
    exact h'
  | _, _, _ :: _, _, h, h' => by
    cases h with
    | cons h r => exact .cons h (TdAll.append r h')
theorem TdAll.take {H : Hp} {us : List V} {ts : List Td} (h : TdAll H us ts) (k : Nat) : TdAll H (us.take k) (ts.take k) := by
  refine TdAll.of (by rw [List.length_take, List.length_take, h.len]) fun i v t a b => ?_
  rw [List.getElem?_take] at a b
  split at a
  · rename_i hk
    rw [if_pos hk] at b
    obtain ⟨t', ht, hat⟩ := h.get a
    rw [ht] at b
    cases b
    exact hat
  · cases a
theorem TdAll.drop {H : Hp} {us : List V} {ts : List Td} (h : TdAll H us ts) (k : Nat) : TdAll H (us.drop k) (ts.drop k) := by
  refine TdAll.of (by rw [List.length_drop, List.length_drop, h.len]) fun i v t a b => ?_
  rw [List.getElem?_drop] at a b
  obtain ⟨t', ht, hat⟩ := h.get a
  rw [ht] at b
  cases b
  exact hat
/-- the rows of a table, as a list of things -/
theorem rows_all {H : Hp} {p : Addr} {t : Tb} (h : TabAt H p t) : ∃ rs : List Addr, H p = some (.tup (rs.map V.ref)) ∧ TdAll H (rs.map V.ref) (t.map rowT) := by
  obtain ⟨rs, h1, h2⟩ := h.rowsW
  refine ⟨rs, h1, ?_⟩
  have := rows_td (ts := t.map fun row => row.map fun i => Td.pl (.int i)) h2 (by rw [List.length_map, List.length_map]) fun i row r a b => by
    rw [List.getElem?_map] at a b
    obtain ⟨x, hx, rfl⟩ := Option.map_eq_some_iff.mp a
    rw [hx] at b
    obtain rfl := Option.some.inj b
    exact TdAll.ints x
  rw [List.map_map] at this
  exact this
theorem pick_some {H : Hp} {t0 l0 : Addr} {n : Nat} {way : Int} (h0 : H t0 = some (.tup [.int 0])) (h1 : H l0 = some (.lst [.int 0])) (k0 : 0 ≤ way) (k1 : way < 9) : ∃ v tx, atI [V.int (n : Int), .int (-1), .bl true, .bl false, .non, .str "0", .ref t0, .int ((n : Int) + 10 ^ 6), .ref l0] way = some v ∧ TdAt H v tx ∧ placeB n tx = false := by
  rcases (by omega : way = 0 ∨ way = 1 ∨ way = 2 ∨ way = 3 ∨ way = 4 ∨ way = 5 ∨ way = 6 ∨ way = 7 ∨ way = 8) with rfl | rfl | rfl | rfl | rfl | rfl | rfl | rfl | rfl
  · refine ⟨_, _, rfl, .pl rfl, ?_⟩
    show (decide ((0 : Int) ≤ n) && decide ((n : Int) ≤ (n : Int) - 1)) = false
    rw [decide_eq_false (by omega : ¬((n : Int) ≤ (n : Int) - 1)), Bool.and_false]
  · refine ⟨_, _, rfl, .pl rfl, ?_⟩
    show (decide ((0 : Int) ≤ -1) && decide ((-1 : Int) ≤ (n : Int) - 1)) = false
    rw [decide_eq_false (by omega : ¬((0 : Int) ≤ -1)), Bool.false_and]
  · exact ⟨_, _, rfl, .pl rfl, rfl⟩
  · exact ⟨_, _, rfl, .pl rfl, rfl⟩
  · exact ⟨_, _, rfl, .pl rfl, rfl⟩
  · exact ⟨_, _, rfl, .pl rfl, rfl⟩
  · exact ⟨_, _, rfl, .tu h0 (.cons (.pl rfl) .nil), rfl⟩
  · refine ⟨_, _, rfl, .pl rfl, ?_⟩
    show (decide ((0 : Int) ≤ (n : Int) + 10 ^ 6) && decide ((n : Int) + 10 ^ 6 ≤ (n : Int) - 1)) = false
    rw [decide_eq_false (by omega : ¬((n : Int) + 10 ^ 6 ≤ (n : Int) - 1)), Bool.and_false]
  · exact ⟨_, _, rfl, .ls h1, rfl⟩
end D1
end
section
set_option Elab.async false
set_option linter.all false
set_option maxRecDepth 100000
set_option maxHeartbeats 1000000
/-! F8b: what has not the form, made -/
namespace D1
open PySem L2 Evl RZ ClX PySem.VX
section
variable {K : PySem.W.Frag} {σ : L2.St} {H : Hp}
/-- tuple([.. for i in range(n)]), each a tuple of ints -/
theorem tup_rng {ta : TA} {te : TE} {j : Nat} {vs : List Nat} {N : Nat} {Q : VK} (F : Nat → List Int) (h : EvA ta σ H [.int (N : Int)]) (hn : N ≤ 1000) (hw : ∀ x, wipe ((wipe σ vs).set j (some x)) vs = wipe σ vs)
    (he : ∀ (i : Nat) H1, i < N → Ex H H1 → ∀ Q' : VK, (∀ r H2, Ex H1 H2 → H1 r = none → H2 r = some (.tup ((F i).map V.int)) → Q' (.ref r) H2) → te ((wipe σ vs).set j (some (.int (i : Int)))) H1 Q')
    (k : ∀ p H', Ex H H' → TabAt H' p ((List.range N).map F) → Q (.ref p) H') : tThen (tLc (iRng1 ta) (gName j) tYes te vs) (kTup K) σ H Q := by
  refine h H (Ex.refl H) _ fun H1 e1 => ⟨(N : Int), rfl, by omega, by omega, fun Dl hDl => ?_⟩
  refine turns_it (walk_range (lo := 0) (n := ((N : Nat) : Int).toNat)) (fun i G => Ex H1 G ∧ ∃ rs2 : List Addr, G Dl = some (.lst (rs2.map V.ref)) ∧ Dl ∉ rs2 ∧ RowsAt G rs2 ((List.range i).map F)) ⟨Ex.new hDl, [], upd_same, by simp, RowsAt.nil⟩ (fun _ _ _ _ => True.intro) ?_ ?_
  · rintro i x _ G hi ⟨eG, rs2, hG, hDr, hR2⟩ ⟨rfl, rfl⟩
    have hiN : i < N := by omega
    have e0 : (0 : Int) + (i : Int) = (i : Int) := Int.zero_add _
    refine ⟨hw _, tyes_go (yes_of rfl ?_)⟩
    show te (List.set (wipe σ vs) j (some (V.int ((0 : Int) + (i : Int))))) G _
    rw [e0]
    refine he i G hiN (e1.trans eG) _ fun r G2 e2 hr0 hr => ?_
    have hG2 := e2 _ _ hG
    have rD : r ≠ Dl := fun z => by
      rw [z, hG] at hr0
      cases hr0
    have hnD : Dl ∉ rs2 ++ [r] := fun hm => by
      rcases List.mem_append.mp hm with h | h
      · exact hDr h
      · exact rD (List.mem_singleton.mp h).symm
    refine ⟨rs2.map V.ref, hG2, ?_, Ex.mut (eG.trans e2) hDl, rs2 ++ [r], by rw [upd_same, List.map_append]; rfl, hnD, ?_⟩
    · rw [List.length_map, hR2.1, List.length_map, List.length_range]
      exact Nat.lt_of_le_of_lt (by omega : i ≤ 1000) (by decide)
    · rw [List.range_succ, List.map_append]
      have hp := RowsAt.push (hR2.ex e2) hr
      refine ⟨hp.1, fun i r' row' a b => ?_⟩
      have ne : r' ≠ Dl := fun z => hnD (z ▸ List.mem_of_getElem? a)
      rw [upd_ne ne]
      exact hp.2 i r' row' a b
  · rintro G ⟨eG, rs2, hG, hDr, hR2⟩
    have eN : ((N : Nat) : Int).toNat = N := by omega
    rw [eN] at hR2
    exact .inl ⟨Dl, _, rfl, SqL.of hG, fun p hp => k p _ ((e1.trans eG).trans (Ex.new hp)) ⟨rs2, upd_same, hR2.ex (Ex.new hp)⟩⟩
/-- tuple([an int for i in range(n)]) -/
theorem tup_ints {ta : TA} {te : TE} {j : Nat} {vs : List Nat} {N : Nat} {Q : VK} (f : Nat → Int) (h : EvA ta σ H [.int (N : Int)]) (hn : N ≤ 1000) (hw : ∀ x, wipe ((wipe σ vs).set j (some x)) vs = wipe σ vs)
    (he : ∀ (i : Nat) H1, Ex H H1 → (i : Int) < (N : Int) → Ev te ((wipe σ vs).set j (some (.int (i : Int)))) H1 (.int (f i)))
    (k : ∀ r H', Ex H H' → H r = none → H' r = some (.tup (((List.range N).map f).map V.int)) → Q (.ref r) H') : tThen (tLc (iRng1 ta) (gName j) tYes te vs) (kTup K) σ H Q := by
  refine el_lcR1 (fun _ => true) (fun i => V.int (f i)) h ⟨by omega, by omega⟩ hw (fun i H1 _ _ H2 _ Q' q => q H2 (Ex.refl H2)) (fun i H1 e1 hi _ => he i H1 e1 hi) H (Ex.refl H) _ fun Dl H2 hDl e2 h2 => .inl ⟨Dl, _, rfl, SqL.of h2, fun p hp => k p _ (e2.trans (Ex.new hp)) (fresh_back e2 hp) ?_⟩
  rw [upd_same]
  unfold given
  rw [List.filter_eq_self.mpr (fun _ _ => rfl), List.map_map]
  have eN : ((N : Nat) : Int).toNat = N := by omega
  rw [eN]
  rfl
end
theorem sIx1 (n d : Nat) : HT.sIx n d (some 1) = min 1 n := HT.sIx_nat n d 1
theorem sIx2 (n d : Nat) : HT.sIx n d (some 2) = min 2 n := HT.sIx_nat n d 2
theorem sIxA (n d k : Nat) : HT.sIx n d (some (k : Int)) = min k n := HT.sIx_nat n d k
theorem sIxB (n d k : Nat) : HT.sIx n d (some ((k : Int) + 1)) = min (k + 1) n := HT.sIx_nat n d (k + 1)
theorem fine_head (l : List Td) : (Td.tu (.pl (.str "table") :: l)).fine := fun z r h => by
  injection h with h
  injection h with h1 h2
  injection h1 with h1
  injection h1 with h1
  exact .inl h1.symm
theorem fine_heads (l : List Td) : (Td.tu (.pl (.str "tables") :: l)).fine := fun z r h => by
  injection h with h
  injection h with h1 h2
  injection h1 with h1
  injection h1 with h1
  exact .inr h1.symm
theorem ret_ix {r : R2} {te ti : TE} {t : TA} {D : Ends} {σ : L2.St} {H : Hp} (h : te σ H fun x H1 => t σ H1 fun xs H2 => (x :: xs).length ≤ sizeLine ∧ ∀ p, H2 p = none → ti σ (upd H2 p (.lst (x :: xs))) fun y H3 => r (.ref p) y H3 D.rt) : tRet (tOp r (tLst (tCons te t)) ti) D σ H := h
theorem asg_to {i : Nat} {te : TE} {z : TS} {D : Ends} {σ : L2.St} {H : Hp} (h : te σ H fun x H1 => ∃ σ', σ.set i (some x) = σ' ∧ z D σ' H1) : tSeq (tAsg te (gName i)) z D σ H := by
  have e : (fun x H1 => ∃ σ', σ.set i (some x) = σ' ∧ z D σ' H1) = fun x H1 => z D (σ.set i (some x)) H1 := by
    funext x H1
    exact propext ⟨fun ⟨_, e, h⟩ => e ▸ h, fun h => ⟨_, rfl, h⟩⟩
  rw [e] at h
  exact h
theorem fine_put (S M : Tb) (at_ a b : Int) (tx : Td) : (putT S M at_ a b tx).fine := by
  unfold putT
  split
  · exact fine_tab3 _ _
  · exact fine_tab3 _ _
theorem TdAll.cut {H : Hp} {us : List V} {ts : List Td} (h : TdAll H us ts) (lo hi : Option Int) : TdAll H (cutV us lo hi) ((ts.drop (HT.sIx us.length 0 lo)).take (HT.sIx us.length us.length hi - HT.sIx us.length 0 lo)) := (h.drop _).take _
section
variable {m L C : Addr} {i j : Int} {H H1 : Hp}
theorem tupA (hM : MS m L C i H) (r : (frM m L C j).R H H1) {p : Addr} {xs : List V} (h : H p = some (.tup xs)) : H1 p = some (.tup xs) := keepT hM r h
theorem tabA (hM : MS m L C i H) (r : (frM m L C j).R H H1) {p : Addr} {t : Tb} (h : TabAt H p t) : TabAt H1 p t := h.fr hM r
theorem mk_frA {v : V} {S M : Tb} (hM : MS m L C i H) (r : (frM m L C j).R H H1) (h : MkAt H v (.tab S M)) : MkAt H1 v (.tab S M) := h.keep fun b xs hb => keepT hM r hb
end
section
variable {P : Program} {w : World} {K : PySem.W.Frag} {mg : Str → Option Value} {base : Heap}
def spSpoilt : Sp := fun vs H Q _ => ∃ (m L C : Addr) (j way : Int) (v : V) (n : Nat) (S M : Tb), vs = [.ref m, v, .int way] ∧ MS m L C j H ∧ j < 2 ^ 40 ∧ MkAt H v (.tab S M) ∧ 2 ≤ n ∧ n ≤ 6 ∧ Sq n S ∧ Sq n M ∧ 0 ≤ way ∧ way < 32 ∧
  ∀ (u : V) (t : Td) H', (frM m L C (j + 10)).R H H' → TdAt H' u t → t.fine → oneB t = false → Q u H'
def scA : Scope := { kind := .function, names := [(PySem.Str.ofString ".0", .local), (PySem.Str.ofString "_law_a", .cell), (PySem.Str.ofString "tuple", .globalImplicit), (PySem.Str.ofString "range", .globalImplicit), (PySem.Str.ofString "_law_size", .cell)], isGenerator := false, isCoroutine := false, more := [] }
abbrev s_spoilt : Stmt := top 86
theorem sc_spoilt : FnScope ["_law_m", "_law_made_here", "_law_way", "_law_at", "_law_side", "_law_row", "_law_place", "_law_rows_here", "_law_some", "_law_size", "_law_plus", "_law_a", "_law_b"] ["_law_m", "_law_made_here", "_law_way"] (defScope s_spoilt) := ⟨rfl, rfl, rfl, by decide +kernel, rfl, by decide +kernel, by decide +kernel⟩
theorem ok_spoilt {f : Addr} {fd : FuncData} (F : FnP K "_law_spoilt" s_spoilt f fd) {f_draw : Addr} {fd_draw : FuncData} (F_draw : FnP K "_law_draw" s_draw f_draw fd_draw) (g_draw : mg "_law_draw" = some (.ref f_draw)) (G_draw : FnOk P w K mg base CX0 2 f_draw fd_draw ["_law_m", "_law_many"] (spDraw)) {f_put : Addr} {fd_put : FuncData} (F_put : FnP K "_law_put" s_put f_put fd_put) (g_put : mg "_law_put" = some (.ref f_put)) (G_put : FnOk P w K mg base CX0 1 f_put fd_put ["_law_made_here", "_law_at", "_law_row", "_law_place", "_law_thing"] (spPut)) {f_rowsT : Addr} {fd_rowsT : FuncData} (F_rowsT : FnP K "_law_rows" s_rowsT f_rowsT fd_rowsT) (g_rowsT : mg "_law_rows" = some (.ref f_rowsT)) (G_rowsT : FnOk P w K mg base CX0 1 f_rowsT fd_rowsT ["_law_made_here", "_law_at", "_law_rows_here"] (spRowsT)) (z_len : mg "len" = none) (z_list : mg "list" = none) (z_tuple : mg "tuple" = none) (z_range : mg "range" = none) : FnOk P w K mg base CX0 3 f fd ["_law_m", "_law_made_here", "_law_way"] spSpoilt := by
  have b_draw : Binds K fd_draw ["_law_m", "_law_many"] [] := F_draw.bindsN fun _ _ _ _ _ _ us hl => match us, hl with | [_, _], _ => rfl
  have b_put : Binds K fd_put ["_law_made_here", "_law_at", "_law_row", "_law_place", "_law_thing"] [] := F_put.bindsN fun _ _ _ _ _ _ us hl => match us, hl with | [_, _, _, _, _], _ => rfl
  have b_rowsT : Binds K fd_rowsT ["_law_made_here", "_law_at", "_law_rows_here"] [] := F_rowsT.bindsN fun _ _ _ _ _ _ us hl => match us, hl with | [_, _, _], _ => rfl
  refine F.ok sc_spoilt (fun vs H Q E h => ?_) (fun cdv A outer s H vs Q E hr h => ?_)
  · obtain ⟨m, L, C, j, way, v, n, S, M, rfl, _⟩ := h
    rfl
  · obtain ⟨m, L, C, j, way, v, n, S, M, rfl, M0, hj, hM, n2, n6, sS, sM, w0, w1, q⟩ := h
    have hu := hu_of hr
    have hu64 := hr.units
    have hr_draw := hr.mono (by decide : 2 ≤ 2)
    have hr_put := hr.mono (by decide : 1 ≤ 2)
    have hr_rowsT := hr.mono (by decide : 1 ≤ 2)
    refine ⟨_, PSs.nox (pss_cons (ps_par (i := 3) (j := 4) (by rfl) sc_spoilt.nd rfl rfl (by decide) rfl rfl (pa_cons (pe_op op_add pe_int (pe_call G_draw hr_draw rfl g_draw F_draw.kp b_draw .nil pass0 (pa_cons (pv 0) (pa_cons pe_int pa_nil)))) (pa_cons (pe_callB call_len_seq (by rfl) z_len PySem.boot_len (pa_cons (pe_ix ix_tup (pv 1) pe_int (fun _ _ => rfl)) pa_nil)) pa_nil)) (by rfl))
      (pss_cons (ps_par3 (i := 5) (j := 6) (l := 7) (by rfl) sc_spoilt.nd rfl rfl rfl (by decide) (by decide) (by decide) rfl rfl rfl (pa_cons (pe_call G_draw hr_draw rfl g_draw F_draw.kp b_draw .nil pass0 (pa_cons (pv 0) (pa_cons (pv 4) pa_nil))) (pa_cons (pe_call G_draw hr_draw rfl g_draw F_draw.kp b_draw .nil pass0 (pa_cons (pv 0) (pa_cons (pv 4) pa_nil))) (pa_cons (pe_callTy call_lo (by rfl) z_list PyProof.Rows.boot_list (pa_cons (pe_ix ix_tup (pv 1) (pv 3) (fun _ _ => rfl)) pa_nil)) pa_nil))) (by rfl))
      (pss_cons (ps_set (i := 8) sc_spoilt.nd rfl (Or.inl rfl) (pe_lst (pa_cons (pv 4) (pa_cons (pe_un un_neg pe_int) (pa_cons pe_bl (pa_cons pe_bl (pa_cons pe_non (pa_cons pe_str (pa_cons (pe_tup (pa_cons pe_int pa_nil)) (pa_cons (pe_op op_add (pv 4) (pe_op op_pow pe_int pe_int)) (pa_cons (pe_lst (pa_cons pe_int pa_nil)) pa_nil)))))))))))
      (pss_cons (ps_if (pt_cmpR op_lt (pv 2) pe_int (nomark _)) (pss_one (ps_ret (pe_call G_put hr_put rfl g_put F_put.kp b_put .nil pass0 (pa_cons (pv 1) (pa_cons (pv 3) (pa_cons (pv 5) (pa_cons (pv 6) (pa_cons (pe_ix ix_list (pv 8) (pv 2) (fun _ _ => rfl)) pa_nil)))))))) pss_nil)
      (pss_cons (ps_if (pt_cmpR op_lt (pv 2) pe_int (nomark _)) (pss_cons (ps_asg (pe_ix ix_list (pe_lst (pa_cons (pe_callTy call_lo (by rfl) z_list PyProof.Rows.boot_list (pa_cons (pe_ix ix_list (pv 7) (pv 5) (fun _ _ => rfl)) pa_nil)) (pa_cons (pe_slice sl_tup (pe_ix ix_list (pv 7) (pv 5) (fun _ _ => rfl)) (po_some pe_int) po_none) (pa_cons (pe_op op_catA (pe_ix ix_list (pv 7) (pv 5) (fun _ _ => rfl)) (pe_tup (pa_cons pe_int pa_nil))) pa_nil)))) (pe_op op_sub (pv 2) pe_int) (fun _ _ => rfl)) (pg_sub (pv 7) (pv 5) set_list))
      (pss_one (ps_ret (pe_call G_rowsT hr_rowsT rfl g_rowsT F_rowsT.kp b_rowsT .nil pass0 (pa_cons (pv 1) (pa_cons (pv 3) (pa_cons (pv 7) pa_nil))))))) pss_nil)
      (pss_cons (ps_if (pt_cmpR op_lt (pv 2) pe_int (nomark _)) (pss_one (ps_ret (pe_call G_rowsT hr_rowsT rfl g_rowsT F_rowsT.kp b_rowsT .nil pass0 (pa_cons (pv 1) (pa_cons (pv 3) (pa_cons (pe_ix ix_list (pe_lst (pa_cons (pe_op op_cat (pe_slice sl_list (pv 7) po_none (po_some (pv 5))) (pe_slice sl_list (pv 7) (po_some (pe_op op_add (pv 5) pe_int)) po_none)) (pa_cons (pe_op op_cat (pv 7) (pe_lst (pa_cons (pe_ix ix_list (pv 7) (pv 5) (fun _ _ => rfl)) pa_nil))) (pa_cons (pe_slice sl_list (pv 7) po_none (po_some (pv 5))) pa_nil)))) (pe_op op_sub (pv 2) pe_int) (fun _ _ => rfl)) pa_nil)))))) pss_nil)
      (pss_cons (ps_if (pt_cmpR op_lt (pv 2) pe_int (nomark _)) (pss_one (ps_ret (pe_ix ix_list (pe_lst (pa_cons (pe_callTy call_lo (by rfl) z_list PyProof.Rows.boot_list (pa_cons (pv 1) pa_nil)) (pa_cons (pe_op op_catA (pv 1) (pe_tup (pa_cons (pe_ix ix_tup (pv 1) (pv 3) (fun _ _ => rfl)) pa_nil))) (pa_cons (pe_slice sl_tup (pv 1) po_none (po_some pe_int)) pa_nil)))) (pe_op op_sub (pv 2) pe_int) (fun _ _ => rfl)))) pss_nil)
      (pss_cons (ps_if (pt_cmpR op_lt (pv 2) pe_int (nomark _)) (pss_one (ps_ret (pe_ix ix_list (pe_lst (pa_cons (pe_op op_catA (pe_op op_catA (pe_slice sl_tup (pv 1) po_none (po_some (pv 3))) (pe_tup (pa_cons (pv 7) pa_nil))) (pe_slice sl_tup (pv 1) (po_some (pe_op op_add (pv 3) pe_int)) po_none)) (pa_cons (pe_op op_catA (pe_tup (pa_cons pe_str pa_nil)) (pe_slice sl_tup (pv 1) (po_some pe_int) po_none)) (pa_cons (pe_op op_catA (pe_tup (pa_cons pe_non pa_nil)) (pe_slice sl_tup (pv 1) (po_some pe_int) po_none)) pa_nil)))) (pe_op op_sub (pv 2) pe_int) (fun _ _ => rfl)))) pss_nil)
      (pss_cons (ps_if (pt_cmpR op_lt (pv 2) pe_int (nomark _)) (pss_cons (ps_set (i := 9) sc_spoilt.nd rfl (Or.inr rfl) (pe_ix ix_list (pe_lst (pa_cons pe_int (pa_cons pe_int pa_nil))) (pe_op op_sub (pv 2) pe_int) (fun _ _ => rfl)))
      (pss_cons (ps_set (i := 10) sc_spoilt.nd rfl (Or.inl rfl) (pe_tupleOf rfl z_tuple (pe_lc (own := [("_law_a", 11)]) (g := gName 11) (tt := tYes) (te := tThen (tLc (iRng1 (tCons (tVar 9) tNil)) (gName 12) tYes (tOp (rI (fun _ j => 0 < j) fun i j => .int (i % j)) (tOp (rI0 fun i j => .int (i + j)) (tVar 11) (tVar 12)) (tVar 9)) [12]) (kTup K)) (by rfl) sc_spoilt.nd (pi_range1 rfl z_range (pa_cons (pv 9) pa_nil)) (blkOk_by (own := [("_law_a", 11)]) (N := ["_law_m", "_law_made_here", "_law_way", "_law_at", "_law_side", "_law_row", "_law_place", "_law_rows_here", "_law_some", "_law_size", "_law_plus", "_law_a", "_law_b"]) (sc := defScope s_spoilt) (by decide +kernel)) (fun _ _ _ _ _ => pg_name (i := 11) sc_spoilt.nd rfl (Or.inr rfl)) (fun _ _ _ _ _ => pts_nil) (fun _ _ _ _ _ => pe_tupleOf rfl z_tuple (pe_lc (own := [("_law_b", 12)]) (g := gName 12) (tt := tYes) (by rfl) sc_spoilt.nd (pi_range1 rfl z_range (pa_cons (pv 9) pa_nil)) (blkOk_by (own := [("_law_b", 12)]) (N := ["_law_m", "_law_made_here", "_law_way", "_law_at", "_law_side", "_law_row", "_law_place", "_law_rows_here", "_law_some", "_law_size", "_law_plus", "_law_a", "_law_b"]) (sc := scA) (by decide +kernel)) (fun _ _ _ _ _ => pg_name (i := 12) sc_spoilt.nd rfl (Or.inl rfl)) (fun _ _ _ _ _ => pts_nil) (fun _ _ _ _ _ => pe_op op_mod (pe_op op_add (pv 11) (pv 12)) (pv 9)))))))
      (pss_one (ps_ret (pe_tup (pa_cons pe_str (pa_cons (pv 10) (pa_cons (pe_tupleOf rfl z_tuple (pe_lc (own := [("_law_a", 11)]) (g := gName 11) (tt := tYes) (te := tThen (tLc (iRng1 (tCons (tVar 9) tNil)) (gName 12) tYes (tOp (rI (fun _ j => 0 < j) fun i j => .int (i % j)) (tOp (rI CMul fun i j => .int (i * j)) (tVar 11) (tVar 12)) (tVar 9)) [12]) (kTup K)) (by rfl) sc_spoilt.nd (pi_range1 rfl z_range (pa_cons (pv 9) pa_nil)) (blkOk_by (own := [("_law_a", 11)]) (N := ["_law_m", "_law_made_here", "_law_way", "_law_at", "_law_side", "_law_row", "_law_place", "_law_rows_here", "_law_some", "_law_size", "_law_plus", "_law_a", "_law_b"]) (sc := defScope s_spoilt) (by decide +kernel)) (fun _ _ _ _ _ => pg_name (i := 11) sc_spoilt.nd rfl (Or.inr rfl)) (fun _ _ _ _ _ => pts_nil) (fun _ _ _ _ _ => pe_tupleOf rfl z_tuple (pe_lc (own := [("_law_b", 12)]) (g := gName 12) (tt := tYes) (by rfl) sc_spoilt.nd (pi_range1 rfl z_range (pa_cons (pv 9) pa_nil)) (blkOk_by (own := [("_law_b", 12)]) (N := ["_law_m", "_law_made_here", "_law_way", "_law_at", "_law_side", "_law_row", "_law_place", "_law_rows_here", "_law_some", "_law_size", "_law_plus", "_law_a", "_law_b"]) (sc := scA) (by decide +kernel)) (fun _ _ _ _ _ => pg_name (i := 12) sc_spoilt.nd rfl (Or.inl rfl)) (fun _ _ _ _ _ => pts_nil) (fun _ _ _ _ _ => pe_op op_mod (pe_op op_mul (pv 11) (pv 12)) (pv 9)))))) pa_nil)))))))) pss_nil)
      (pss_one (ps_ret (pe_ix ix_list (pe_lst (pa_cons pe_non (pa_cons pe_bl (pa_cons pe_int (pa_cons pe_str (pa_cons (pe_tup pa_nil) (pa_cons (pe_tup (pa_cons pe_str pa_nil)) (pa_cons (pe_disp (pps_cons pe_str (pv 1) pps_nil) (by rfl) (by rfl) (fun z => by cases z) (by decide)) (pa_cons (pe_ix ix_tup (pv 1) pe_int (fun _ _ => rfl)) (pa_cons (pe_slice sl_tup (pv 1) (po_some pe_int) po_none) pa_nil)))))))))) (pe_op op_sub (pv 2) pe_int) (fun _ _ => rfl))))))))))))), ?_⟩
    obtain ⟨a1, p, p', rfl, ha1, hS, hT⟩ := id hM
    refine ⟨_, rfl, m, L, C, 2, j, rfl, M0, by omega, by decide, by decide, fun ad H1 ad0 ad1 r1 => ⟨_, _, rfl, rfl, ?_⟩⟩
    have hM1 := mk_frA M0 r1 hM
    obtain ⟨rsS, hpS, hrS, hrrS⟩ := id (tabA M0 r1 hS)
    have ha11 := tupA M0 r1 ha1
    refine ⟨_, rfl, a1, _, _, _, rfl, rfl, .inl (.inl ha11), rfl, p, _, rfl, .inr (.inl (.inl hpS)), _, _, rfl, ?_⟩
    have hln : (((rsS.map V.ref).length : Nat) : Int) = (n : Int) := by rw [List.length_map, hrS, sS.len]
    rw [hln]
    refine ⟨_, rfl, _, rfl, m, L, C, (n : Int), _, rfl, r1.inv, by omega, by omega, by omega, fun row H2 row0 row1 r2 => ?_⟩
    refine ⟨_, rfl, _, rfl, m, L, C, (n : Int), _, rfl, r2.inv, by omega, by omega, by omega, fun place H3 place0 place1 r3 => ?_⟩
    have rG := and_then (and_then r1 r2) r3
    have hM3 := mk_frA M0 rG hM
    have hS3 := tabA M0 rG hS
    have hT3 := tabA M0 rG hT
    have ha3 := tupA M0 rG ha1
    have hat : 1 + ad = 1 ∨ 1 + ad = 2 := by omega
    obtain ⟨pp, t, hpp, hA, sq⟩ : ∃ (pp : Addr) (t : Tb), atI [V.str "table", .ref p, .ref p'] (1 + ad) = some (.ref pp) ∧ TabAt H3 pp t ∧ Sq n t := by
      rcases (by omega : ad = 0 ∨ ad = 1) with rfl | rfl
      · exact ⟨p, S, rfl, hS3, sS⟩
      · exact ⟨p', M, rfl, hT3, sM⟩
    obtain ⟨rs, hpt, hall⟩ := rows_all hA
    have hrl : rs.length = n := by
      have := hall.len
      rw [List.length_map, List.length_map, sq.len] at this
      exact this
    refine ⟨_, rfl, _, rfl, a1, _, _, _, rfl, rfl, .inl (.inl ha3), hpp, pp, _, rfl, .inr (.inl (.inl hpt)), fun L0 hL0 => ⟨_, _, _, rfl, ?_⟩⟩
    dsimp only
    refine asg_step ?_
    refine ⟨_, rfl, 1, rfl, by show 1 ≤ sizeLine; decide, fun t0 ht0 => ⟨_, rfl, 10, 6, rfl, rfl, ⟨by decide, by decide, by decide⟩, _, _, rfl, rfl, by show 1 ≤ sizeLine; decide, fun l0 hl0 => ⟨by show 9 ≤ sizeLine; decide, fun W hW => ?_⟩⟩⟩
    have e3 := Ex.new (o := .lst (rs.map V.ref)) hL0
    have e4 := Ex.new (o := .tup [.int 0]) ht0
    have e5 := Ex.new (o := .lst [.int 0]) hl0
    have e6 := Ex.new (o := .lst [V.int (n : Int), .int (-1), .bl true, .bl false, .non, .str "0", .ref t0, .int ((n : Int) + 10 ^ 6), .ref l0]) hW
    have iL0 := e6 _ _ (e5 _ _ (e4 _ _ (upd_same (H := H3) (a := L0) (o := .lst (rs.map V.ref)))))
    have it0 := e6 _ _ (e5 _ _ (upd_same (H := upd H3 L0 (.lst (rs.map V.ref))) (a := t0) (o := .tup [.int 0])))
    have il0 := e6 _ _ (upd_same (H := upd (upd H3 L0 (.lst (rs.map V.ref))) t0 (.tup [.int 0])) (a := l0) (o := .lst [.int 0]))
    have eG := ((e3.trans e4).trans e5).trans e6
    have iW : (upd (upd (upd (upd H3 L0 (.lst (rs.map V.ref))) t0 (.tup [.int 0])) l0 (.lst [.int 0])) W (.lst [V.int (n : Int), .int (-1), .bl true, .bl false, .non, .str "0", .ref t0, .int ((n : Int) + 10 ^ 6), .ref l0])) W = some (.lst [V.int (n : Int), .int (-1), .bl true, .bl false, .non, .str "0", .ref t0, .int ((n : Int) + 10 ^ 6), .ref l0]) := upd_same
    dsimp only
    rw [show Int.toNat 6 = 6 from rfl]
    generalize (upd (upd (upd (upd H3 L0 (.lst (rs.map V.ref))) t0 (.tup [.int 0])) l0 (.lst [.int 0])) W (.lst [V.int (n : Int), .int (-1), .bl true, .bl false, .non, .str "0", .ref t0, .int ((n : Int) + 10 ^ 6), .ref l0])) = G at eG iL0 it0 il0 iW ⊢
    have ir : In n row := ⟨row0, row1⟩
    have ip : In n place := ⟨place0, place1⟩
    have fin : ∀ {u : V} {tt : Td} {G' : Hp}, Ex H3 G' → TdAt G' u tt → tt.fine → oneB tt = false → Q u G' := fun {u tt G'} e h1 h2 h3 => q u tt G' (up (rex rG e) (by omega)) h1 h2 h3
    refine q_when (b := decide (way < 9)) (et_test (ev_op (ev_var rfl) ev_c rv_I0)) (fun hb G2 g2 => ?_) (fun hb9 G2 g2 => ?_)
    · obtain ⟨x, tx, hatx, hx, hbad⟩ := pick_some (n := n) (g2 _ _ it0) (g2 _ _ il0) w0 (of_decide_eq_true hb)
      refine ⟨_, rfl, _, rfl, _, rfl, _, rfl, _, rfl, _, rfl, W, _, _, _, rfl, rfl, SqL.of (g2 _ _ iW), hatx, .ref a1, x, n, S, M, 1 + ad, row, place, tx, rfl, hM3.ex (eG.trans g2), sS, sM, n6, hat, ir, ip, hx, fun D G3 g3 hD => ?_⟩
      exact fin ((eG.trans g2).trans g3) hD (fine_put _ _ _ _ _ _) (put_bad sS sM ir ip hbad)
    have hb9 : 9 ≤ way := by have := of_decide_eq_false hb9; omega
    have eG := eG.trans g2
    have iL0 := g2 _ _ iL0
    have hk : row.toNat < rs.length := by omega
    obtain ⟨tr, htr, hatr⟩ := hall.get (i := row.toNat) (v := .ref rs[row.toNat]) (by rw [List.getElem?_map, List.getElem?_eq_getElem hk]; rfl)
    rw [List.getElem?_map] at htr
    obtain ⟨row0l, hrow0, rfl⟩ := Option.map_eq_some_iff.mp htr
    have hlr := (sq.row _ (List.mem_of_getElem? hrow0)).1
    have hat_r : atI (rs.map V.ref) row = some (.ref rs[row.toNat]) := atI_of row0 (by rw [List.getElem?_map, List.getElem?_eq_getElem hk]; rfl)
    generalize rs[row.toNat] = r at hatr hat_r
    obtain ⟨us, hrus, hus⟩ : ∃ us, H3 r = some (.tup us) ∧ TdAll H3 us (row0l.map fun i => Td.pl (.int i)) := by
      have h : TdAt H3 (.ref r) (.tu (row0l.map fun i => Td.pl (.int i))) := hatr
      cases h with
      | tu h1 h2 => exact ⟨_, h1, h2⟩
    have hul : us.length = n := by rw [hus.len, List.length_map, hlr]
    refine q_when (b := decide (way < 12)) (et_test (ev_op (ev_var rfl) ev_c rv_I0)) (fun hb G3 g3 => ?_) (fun hb12 G3 g3 => ?_)
    · have eG3 := eG.trans g3
      have jL0 := g3 _ _ iL0
      have hrT := eG3 _ _ hrus
      have hw := of_decide_eq_true hb
      refine ⟨_, rfl, _, rfl, L0, _, _, _, rfl, rfl, SqL.of jL0, hat_r, r, us, rfl, .inr (.inl (.inl hrT)), fun l1 hl1 => ?_⟩
      have x1 := Ex.new (o := .lst us) hl1
      have n1 : l1 ≠ L0 := fun z => by
        rw [z, jL0] at hl1
        cases hl1
      have f1 : upd G3 l1 (.lst us) l1 = some (.lst us) := upd_same
      have jL1 := x1 _ _ jL0
      have hr1 := x1 _ _ hrT
      generalize upd G3 l1 (.lst us) = A1 at x1 f1 jL1 hr1 ⊢
      refine ⟨_, rfl, _, rfl, L0, _, _, _, rfl, rfl, SqL.of jL1, hat_r, 1, rfl, r, us, rfl, .inl (.inl hr1), ?_, fun p1 hp1 => ?_⟩
      · rw [sIx1]
        intro z
        have := z.1
        omega
      have x2 := Ex.new (o := .tup (cutV us (some 1) none)) hp1
      have n2 : p1 ≠ L0 := fun z => by
        rw [z, jL1] at hp1
        cases hp1
      have f2 : upd A1 p1 (.tup (cutV us (some 1) none)) p1 = some (.tup (cutV us (some 1) none)) := upd_same
      have jL2 := x2 _ _ jL1
      have hr2 := x2 _ _ hr1
      generalize upd A1 p1 (.tup (cutV us (some 1) none)) = A2 at x2 f2 jL2 hr2 ⊢
      refine ⟨_, rfl, _, rfl, L0, _, _, _, rfl, rfl, SqL.of jL2, hat_r, by show 1 ≤ sizeLine; decide, fun t1 ht1 => ?_⟩
      have x3 := Ex.new (o := .tup [.int 0]) ht1
      have f3 : upd A2 t1 (.tup [.int 0]) t1 = some (.tup [.int 0]) := upd_same
      have jL3 := x3 _ _ jL2
      have hr3 := x3 _ _ hr2
      generalize upd A2 t1 (.tup [.int 0]) = A3 at x3 f3 jL3 hr3 ⊢
      refine ⟨r, t1, us, [.int 0], rfl, rfl, .inl (.inl hr3), .inl (.inl f3), ?_, fun h => ?_, fun _ h => (by cases h), fun _ _ p2 hp2 => ?_⟩
      · rw [hul]
        exact Nat.le_trans (by show n + 1 ≤ 7; omega) (by decide : 7 ≤ sizeLine)
      · rw [h] at hul
        simp at hul
        omega
      have x4 := Ex.new (o := .tup (us ++ [.int 0])) hp2
      have n4 : p2 ≠ L0 := fun z => by
        rw [z, jL3] at hp2
        cases hp2
      have f4 : upd A3 p2 (.tup (us ++ [.int 0])) p2 = some (.tup (us ++ [.int 0])) := upd_same
      have jL4 := x4 _ _ jL3
      generalize upd A3 p2 (.tup (us ++ [.int 0])) = A4 at x4 f4 jL4 ⊢
      refine ⟨by show 3 ≤ sizeLine; decide, fun W3 hW3 => ?_⟩
      have x5 := Ex.new (o := .lst [V.ref l1, .ref p1, .ref p2]) hW3
      have f5 : upd A4 W3 (.lst [V.ref l1, .ref p1, .ref p2]) W3 = some (.lst [V.ref l1, .ref p1, .ref p2]) := upd_same
      have jL5 := x5 _ _ jL4
      generalize upd A4 W3 (.lst [V.ref l1, .ref p1, .ref p2]) = A5 at x5 f5 jL5 ⊢
      have y1 := (((x2.trans x3).trans x4).trans x5) _ _ f1
      have y2 := ((x3.trans x4).trans x5) _ _ f2
      have y4 := x5 _ _ f4
      have eA5 := eG3.trans ((((x1.trans x2).trans x3).trans x4).trans x5)
      have eF : ∀ o, Ex H3 (upd A5 L0 o) := fun o => Ex.mut eA5 hL0
      obtain ⟨u, tu, hatu, hbad, htd⟩ : ∃ u tu, atI [V.ref l1, .ref p1, .ref p2] (way - 9) = some u ∧ rowB n tu = false ∧ ∀ o, TdAt (upd A5 L0 o) u tu := by
        rcases (by omega : way = 9 ∨ way = 10 ∨ way = 11) with rfl | rfl | rfl
        · exact ⟨_, .ls, rfl, rfl, fun o => .ls (by rw [upd_ne n1]; exact y1)⟩
        · refine ⟨_, _, rfl, ?_, fun o => .tu (by rw [upd_ne n2]; exact y2) ((hus.up (eF o)).cut (some 1) none)⟩
          show (decide (List.length _ = n) && _) = false
          rw [decide_eq_false, Bool.false_and]
          rw [List.length_take, List.length_drop, List.length_map, hlr, hul, sIx1, HT.sIx_none]
          omega
        · refine ⟨_, _, rfl, ?_, fun o => .tu (by rw [upd_ne n4]; exact y4) ((hus.up (eF o)).append (.cons (.pl rfl) .nil))⟩
          show (decide (List.length _ = n) && _) = false
          rw [decide_eq_false, Bool.false_and]
          rw [List.length_append, List.length_map, hlr]
          simp
      refine ⟨_, rfl, _, _, rfl, rfl, W3, _, _, u, rfl, rfl, SqL.of f5, hatu, _, rfl, _, rfl, L0, _, row, row.toNat, rfl, rfl, jL5, ixN_of row0 (by rw [List.length_map]; exact hk), ?_⟩
      have jF : upd A5 L0 (.lst ((rs.map V.ref).set row.toNat u)) L0 = some (.lst ((rs.map V.ref).set row.toNat u)) := upd_same
      have eF' := eF (.lst ((rs.map V.ref).set row.toNat u))
      have htd' := htd (.lst ((rs.map V.ref).set row.toNat u))
      dsimp only
      generalize upd A5 L0 (.lst ((rs.map V.ref).set row.toNat u)) = A6 at jF eF' htd' ⊢
      refine ⟨_, rfl, _, rfl, _, rfl, .ref a1, L0, S, M, 1 + ad, _, _, rfl, hM3.ex eF', hat, jF, (hall.up eF').set htd' row.toNat, fun D G5 g5 hD => ?_⟩
      exact fin (eF'.trans g5) hD (fine_rowsTd _ _ _ _) (rows_bad sS.len sM.len (.inr (row_bad (by rw [List.length_map, sq.len]; omega) hbad)))
    have hb12 : 12 ≤ way := by have := of_decide_eq_false hb12; omega
    have eG := eG.trans g3
    have iL0 := g3 _ _ iL0
    have hulen : (rs.map V.ref).length = n := by rw [List.length_map, hrl]
    have htl : (t.map rowT).length = n := by rw [List.length_map, sq.len]
    obtain ⟨kr, rfl⟩ : ∃ kr : Nat, row = (kr : Int) := ⟨row.toNat, by omega⟩
    refine q_when (b := decide (way < 15)) (et_test (ev_op (ev_var rfl) ev_c rv_I0)) (fun hb G4 g4 => ?_) (fun hb15 G4 g4 => ?_)
    · have eG4 := eG.trans g4
      have jL0 := g4 _ _ iL0
      have hw := of_decide_eq_true hb
      refine ⟨_, rfl, _, rfl, _, rfl, _, rfl, _, rfl, L0, _, rfl, SqL.of jL0, fun pA hpA => ?_⟩
      have x1 := Ex.new (o := .lst (cutV (rs.map V.ref) none (some (kr : Int)))) hpA
      have f1 : upd G4 pA (.lst (cutV (rs.map V.ref) none (some (kr : Int)))) pA = some (.lst (cutV (rs.map V.ref) none (some (kr : Int)))) := upd_same
      have jL1 := x1 _ _ jL0
      generalize upd G4 pA (.lst (cutV (rs.map V.ref) none (some (kr : Int)))) = A1 at x1 f1 jL1 ⊢
      refine ⟨_, rfl, _, rfl, _, _, rfl, rfl, _, rfl, L0, _, rfl, SqL.of jL1, fun pB hpB => ?_⟩
      have x2 := Ex.new (o := .lst (cutV (rs.map V.ref) (some ((kr : Int) + 1)) none)) hpB
      have f2 : upd A1 pB (.lst (cutV (rs.map V.ref) (some ((kr : Int) + 1)) none)) pB = some (.lst (cutV (rs.map V.ref) (some ((kr : Int) + 1)) none)) := upd_same
      have jL2 := x2 _ _ jL1
      generalize upd A1 pB (.lst (cutV (rs.map V.ref) (some ((kr : Int) + 1)) none)) = A2 at x2 f2 jL2 ⊢
      refine ⟨pA, pB, _, _, rfl, rfl, x2 _ _ f1, f2, ?_, fun pC hpC => ?_⟩
      · have h1 : (cutV (rs.map V.ref) none (some (kr : Int))).length ≤ n := by unfold cutV; rw [List.length_take, List.length_drop, hulen]; omega
        have h2 : (cutV (rs.map V.ref) (some ((kr : Int) + 1)) none).length ≤ n := by unfold cutV; rw [List.length_take, List.length_drop, hulen]; omega
        exact Nat.le_trans (by omega : _ ≤ 12) (by decide : 12 ≤ sizeLine)
      have x3 := Ex.new (o := .lst (cutV (rs.map V.ref) none (some (kr : Int)) ++ cutV (rs.map V.ref) (some ((kr : Int) + 1)) none)) hpC
      have f3 : upd A2 pC (.lst (cutV (rs.map V.ref) none (some (kr : Int)) ++ cutV (rs.map V.ref) (some ((kr : Int) + 1)) none)) pC = some (.lst (cutV (rs.map V.ref) none (some (kr : Int)) ++ cutV (rs.map V.ref) (some ((kr : Int) + 1)) none)) := upd_same
      have jL3 := x3 _ _ jL2
      generalize upd A2 pC (.lst (cutV (rs.map V.ref) none (some (kr : Int)) ++ cutV (rs.map V.ref) (some ((kr : Int) + 1)) none)) = A3 at x3 f3 jL3 ⊢
      refine ⟨_, rfl, _, rfl, _, rfl, L0, _, _, _, rfl, rfl, SqL.of jL3, hat_r, by show 1 ≤ sizeLine; decide, fun l1 hl1 => ?_⟩
      have x4 := Ex.new (o := .lst [V.ref r]) hl1
      have f4 : upd A3 l1 (.lst [V.ref r]) l1 = some (.lst [V.ref r]) := upd_same
      have jL4 := x4 _ _ jL3
      generalize upd A3 l1 (.lst [V.ref r]) = A4 at x4 f4 jL4 ⊢
      refine ⟨L0, l1, _, _, rfl, rfl, jL4, f4, ?_, fun l2 hl2 => ?_⟩
      · rw [hulen]
        exact Nat.le_trans (by show n + 1 ≤ 7; omega) (by decide : 7 ≤ sizeLine)
      have x5 := Ex.new (o := .lst (rs.map V.ref ++ [V.ref r])) hl2
      have f5 : upd A4 l2 (.lst (rs.map V.ref ++ [V.ref r])) l2 = some (.lst (rs.map V.ref ++ [V.ref r])) := upd_same
      have jL5 := x5 _ _ jL4
      generalize upd A4 l2 (.lst (rs.map V.ref ++ [V.ref r])) = A5 at x5 f5 jL5 ⊢
      refine ⟨_, rfl, _, rfl, _, rfl, L0, _, rfl, SqL.of jL5, fun pD hpD => ⟨by show 3 ≤ sizeLine; decide, fun W4 hW4 => ?_⟩⟩
      have x6 := Ex.new (o := .lst (cutV (rs.map V.ref) none (some (kr : Int)))) hpD
      have f6 : upd A5 pD (.lst (cutV (rs.map V.ref) none (some (kr : Int)))) pD = some (.lst (cutV (rs.map V.ref) none (some (kr : Int)))) := upd_same
      generalize upd A5 pD (.lst (cutV (rs.map V.ref) none (some (kr : Int)))) = A6 at x6 f6 hW4 ⊢
      have x7 := Ex.new (o := .lst [V.ref pC, .ref l2, .ref pD]) hW4
      have f7 : upd A6 W4 (.lst [V.ref pC, .ref l2, .ref pD]) W4 = some (.lst [V.ref pC, .ref l2, .ref pD]) := upd_same
      generalize upd A6 W4 (.lst [V.ref pC, .ref l2, .ref pD]) = A7 at x7 f7 ⊢
      have eF : Ex H3 A7 := eG4.trans ((((((x1.trans x2).trans x3).trans x4).trans x5).trans x6).trans x7)
      have hallF := hall.up eF
      have y3 := (((x4.trans x5).trans x6).trans x7) _ _ f3
      have y5 := (x6.trans x7) _ _ f5
      have y6 := x7 _ _ f6
      obtain ⟨X, ws, ts, hatX, hX, hts, hlen⟩ : ∃ (X : Addr) (ws : List V) (ts : List Td), atI [V.ref pC, .ref l2, .ref pD] (way - 12) = some (.ref X) ∧ A7 X = some (.lst ws) ∧ TdAll A7 ws ts ∧ ts.length ≠ n := by
        rcases (by omega : way = 12 ∨ way = 13 ∨ way = 14) with rfl | rfl | rfl
        · refine ⟨pC, _, _, rfl, y3, (hallF.cut none (some (kr : Int))).append (hallF.cut (some ((kr : Int) + 1)) none), ?_⟩
          rw [List.length_append, List.length_take, List.length_drop, List.length_take, List.length_drop, htl, hulen, sIxA, sIxB, HT.sIx_none, HT.sIx_none]
          omega
        · refine ⟨l2, _, _, rfl, y5, hallF.append (.cons (TdAt.up hatr eF) .nil), ?_⟩
          rw [List.length_append, htl]
          show n + 1 ≠ n
          omega
        · refine ⟨pD, _, _, rfl, y6, hallF.cut none (some (kr : Int)), ?_⟩
          rw [List.length_take, List.length_drop, htl, hulen, sIxA, HT.sIx_none]
          omega
      refine ⟨_, rfl, _, _, rfl, rfl, W4, _, _, .ref X, rfl, rfl, SqL.of f7, hatX, .ref a1, X, S, M, 1 + ad, ws, ts, rfl, hM3.ex eF, hat, hX, hts, fun D G5 g5 hD => ?_⟩
      exact fin (eF.trans g5) hD (fine_rowsTd _ _ _ _) (rows_bad sS.len sM.len (.inl hlen))
    have hb15 : 15 ≤ way := by have := of_decide_eq_false hb15; omega
    have eG := eG.trans g4
    have iL0 := g4 _ _ iL0
    refine q_when (b := decide (way < 18)) (et_test (ev_op (ev_var rfl) ev_c rv_I0)) (fun hb G5 g5 => ?_) (fun hb18 G5 g5 => ?_)
    · have eG5 := eG.trans g5
      have jm := eG5 _ _ ha3
      have hw := of_decide_eq_true hb
      refine ⟨_, rfl, a1, _, rfl, .inr (.inl (.inl jm)), fun l1 hl1 => ?_⟩
      have x1 := Ex.new (o := .lst [V.str "table", .ref p, .ref p']) hl1
      have f1 : upd G5 l1 (.lst [V.str "table", .ref p, .ref p']) l1 = some (.lst [V.str "table", .ref p, .ref p']) := upd_same
      generalize upd G5 l1 (.lst [V.str "table", .ref p, .ref p']) = A1 at x1 f1 ⊢
      refine ⟨_, rfl, _, rfl, _, rfl, a1, _, _, _, rfl, rfl, .inl (.inl (x1 _ _ jm)), hpp, by show 1 ≤ sizeLine; decide, fun t1 ht1 => ?_⟩
      have x2 := Ex.new (o := .tup [V.ref pp]) ht1
      have f2 : upd A1 t1 (.tup [V.ref pp]) t1 = some (.tup [V.ref pp]) := upd_same
      generalize upd A1 t1 (.tup [V.ref pp]) = A2 at x2 f2 ⊢
      refine ⟨a1, t1, _, _, rfl, rfl, .inl (.inl ((x1.trans x2) _ _ jm)), .inl (.inl f2), by show 3 + 1 ≤ sizeLine; decide, fun h => (by cases h), fun _ h => (by cases h), fun _ _ p2 hp2 => ?_⟩
      have x3 := Ex.new (o := .tup ([V.str "table", .ref p, .ref p'] ++ [V.ref pp])) hp2
      have f3 : upd A2 p2 (.tup ([V.str "table", .ref p, .ref p'] ++ [V.ref pp])) p2 = some (.tup ([V.str "table", .ref p, .ref p'] ++ [V.ref pp])) := upd_same
      generalize upd A2 p2 (.tup ([V.str "table", .ref p, .ref p'] ++ [V.ref pp])) = A3 at x3 f3 ⊢
      refine ⟨_, rfl, 2, rfl, a1, _, rfl, .inl (.inl (((x1.trans x2).trans x3) _ _ jm)), by show ¬((0 : Nat) = 0 ∧ (2 : Nat) = 3); decide, fun p3 hp3 => ⟨by show 3 ≤ sizeLine; decide, fun W5 hW5 => ?_⟩⟩
      have x4 := Ex.new (o := .tup (cutV [V.str "table", .ref p, .ref p'] none (some 2))) hp3
      have f4 : upd A3 p3 (.tup (cutV [V.str "table", .ref p, .ref p'] none (some 2))) p3 = some (.tup [V.str "table", .ref p]) := upd_same
      generalize upd A3 p3 (.tup (cutV [V.str "table", .ref p, .ref p'] none (some 2))) = A4 at x4 f4 hW5 ⊢
      have x5 := Ex.new (o := .lst [V.ref l1, .ref p2, .ref p3]) hW5
      have f5 : upd A4 W5 (.lst [V.ref l1, .ref p2, .ref p3]) W5 = some (.lst [V.ref l1, .ref p2, .ref p3]) := upd_same
      generalize upd A4 W5 (.lst [V.ref l1, .ref p2, .ref p3]) = A5 at x5 f5 ⊢
      have eF : Ex H3 A5 := eG5.trans ((((x1.trans x2).trans x3).trans x4).trans x5)
      have y1 := ((((x2.trans x3).trans x4).trans x5)) _ _ f1
      have y3 := (x4.trans x5) _ _ f3
      have y4 := x5 _ _ f4
      have dS := hS3.td.up eF
      have dT := hT3.td.up eF
      have dP := hA.td.up eF
      obtain ⟨u, tu, hatu, htd, hfi, hbad⟩ : ∃ u tu, atI [V.ref l1, .ref p2, .ref p3] (way - 15) = some u ∧ TdAt A5 u tu ∧ tu.fine ∧ oneB tu = false := by
        rcases (by omega : way = 15 ∨ way = 16 ∨ way = 17) with rfl | rfl | rfl
        · exact ⟨_, .ls, rfl, .ls y1, fine_ls, rfl⟩
        · exact ⟨_, .tu [.pl (.str "table"), tabT S, tabT M, tabT t], rfl, .tu y3 (.cons (.pl rfl) (.cons dS (.cons dT (.cons dP .nil)))), fine_head _, rfl⟩
        · exact ⟨_, .tu [.pl (.str "table"), tabT S], rfl, .tu y4 (.cons (.pl rfl) (.cons dS .nil)), fine_head _, rfl⟩
      refine ⟨_, rfl, _, _, rfl, rfl, W5, _, _, u, rfl, rfl, SqL.of f5, hatu, ?_⟩
      exact fin eF htd hfi hbad
    have hb18 : 18 ≤ way := by have := of_decide_eq_false hb18; omega
    have eG := eG.trans g5
    have iL0 := g5 _ _ iL0
    refine q_when (b := decide (way < 21)) (et_test (ev_op (ev_var rfl) ev_c rv_I0)) (fun hb G6 g6 => ?_) (fun hb21 G6 g6 => ?_)
    · have eG6 := eG.trans g6
      have jm := eG6 _ _ ha3
      have jL0 := g6 _ _ iL0
      have hw := of_decide_eq_true hb
      refine ret_ix ?_
      refine (glue (Mid := fun H u => TdAt H u .ls) (fun _ _ _ e h => h.up e) (ev_var rfl) (ev_var rfl) jm hat (fun H1 e1 Q' k' => ⟨_, rfl, k' (.ref L0) H1 (Ex.refl H1) (.ls (e1 _ _ jL0))⟩) fun D0 u0 A1 x1 hu0 hD0 => ?_)
      have jm1 := x1 _ _ jm
      refine ⟨by show 1 ≤ sizeLine; decide, fun t1 ht1 => ?_⟩
      have x2 := Ex.new (o := .tup [V.str "tables"]) ht1
      have f2 : upd A1 t1 (.tup [V.str "tables"]) t1 = some (.tup [V.str "tables"]) := upd_same
      have jm2 := x2 _ _ jm1
      generalize upd A1 t1 (.tup [V.str "tables"]) = A2 at x2 f2 jm2 ⊢
      refine ⟨_, rfl, 1, rfl, a1, _, rfl, .inl (.inl jm2), by show ¬((1 : Nat) = 0 ∧ (3 : Nat) = 3); decide, fun p1 hp1 => ?_⟩
      have x3 := Ex.new (o := .tup (cutV [V.str "table", .ref p, .ref p'] (some 1) none)) hp1
      have f3 : upd A2 p1 (.tup (cutV [V.str "table", .ref p, .ref p'] (some 1) none)) p1 = some (.tup [.ref p, .ref p']) := upd_same
      generalize upd A2 p1 (.tup (cutV [V.str "table", .ref p, .ref p'] (some 1) none)) = A3 at x3 f3 ⊢
      refine ⟨t1, p1, _, _, rfl, rfl, .inl (.inl (x3 _ _ f2)), .inl (.inl f3), by show 1 + 2 ≤ sizeLine; decide, fun h => (by cases h), fun _ h => (by cases h), fun _ _ p2 hp2 => ?_⟩
      have x4 := Ex.new (o := .tup ([V.str "tables"] ++ [.ref p, .ref p'])) hp2
      have f4 : upd A3 p2 (.tup ([V.str "tables"] ++ [.ref p, .ref p'])) p2 = some (.tup [V.str "tables", .ref p, .ref p']) := upd_same
      generalize upd A3 p2 (.tup ([V.str "tables"] ++ [.ref p, .ref p'])) = A4 at x4 f4 ⊢
      refine ⟨by show 1 ≤ sizeLine; decide, fun t3 ht3 => ?_⟩
      have x5 := Ex.new (o := .tup [V.non]) ht3
      have f5 : upd A4 t3 (.tup [V.non]) t3 = some (.tup [V.non]) := upd_same
      have jm5 := ((x3.trans x4).trans x5) _ _ jm2
      generalize upd A4 t3 (.tup [V.non]) = A5 at x5 f5 jm5 ⊢
      refine ⟨_, rfl, 1, rfl, a1, _, rfl, .inl (.inl jm5), by show ¬((1 : Nat) = 0 ∧ (3 : Nat) = 3); decide, fun p4 hp4 => ?_⟩
      have x6 := Ex.new (o := .tup (cutV [V.str "table", .ref p, .ref p'] (some 1) none)) hp4
      have f6 : upd A5 p4 (.tup (cutV [V.str "table", .ref p, .ref p'] (some 1) none)) p4 = some (.tup [.ref p, .ref p']) := upd_same
      generalize upd A5 p4 (.tup (cutV [V.str "table", .ref p, .ref p'] (some 1) none)) = A6 at x6 f6 ⊢
      refine ⟨t3, p4, _, _, rfl, rfl, .inl (.inl (x6 _ _ f5)), .inl (.inl f6), by show 1 + 2 ≤ sizeLine; decide, fun h => (by cases h), fun _ h => (by cases h), fun _ _ p5 hp5 => ⟨by show 3 ≤ sizeLine; decide, fun W6 hW6 => ?_⟩⟩
      have x7 := Ex.new (o := .tup ([V.non] ++ [.ref p, .ref p'])) hp5
      have f7 : upd A6 p5 (.tup ([V.non] ++ [.ref p, .ref p'])) p5 = some (.tup [V.non, .ref p, .ref p']) := upd_same
      generalize upd A6 p5 (.tup ([V.non] ++ [.ref p, .ref p'])) = A7 at x7 f7 hW6 ⊢
      have x8 := Ex.new (o := .lst [V.ref D0, .ref p2, .ref p5]) hW6
      have f8 : upd A7 W6 (.lst [V.ref D0, .ref p2, .ref p5]) W6 = some (.lst [V.ref D0, .ref p2, .ref p5]) := upd_same
      generalize upd A7 W6 (.lst [V.ref D0, .ref p2, .ref p5]) = A8 at x8 f8 ⊢
      have ez := ((((((x2.trans x3).trans x4).trans x5).trans x6).trans x7).trans x8)
      have eF : Ex H3 A8 := eG6.trans (x1.trans ez)
      have dS := hS3.td.up eF
      have dT := hT3.td.up eF
      have yD := ez _ _ hD0
      have yu := hu0.up ez
      have y4 := ((((x5.trans x6).trans x7).trans x8)) _ _ f4
      have y7 := x8 _ _ f7
      obtain ⟨u, tu, hatu, htd, hfi, hbad⟩ : ∃ u tu, atI [V.ref D0, .ref p2, .ref p5] (way - 18) = some u ∧ TdAt A8 u tu ∧ tu.fine ∧ oneB tu = false := by
        rcases (by omega : way = 18 ∨ way = 19 ∨ way = 20) with rfl | rfl | rfl
        · refine ⟨_, rowsTd S M (1 + ad) .ls, rfl, ?_, fine_rowsTd _ _ _ _, list_bad (n := n) sS.len⟩
          rcases (by omega : ad = 0 ∨ ad = 1) with rfl | rfl
          · exact .tu yD (.cons (.pl rfl) (.cons yu (.cons dT .nil)))
          · exact .tu yD (.cons (.pl rfl) (.cons dS (.cons yu .nil)))
        · refine ⟨_, .tu [.pl (.str "tables"), tabT S, tabT M], rfl, .tu y4 (.cons (.pl rfl) (.cons dS (.cons dT .nil))), fine_heads _, ?_⟩
          show ((("tables" : Str) == "table") && twoB (tabT S) (tabT M)) = false
          rw [show (("tables" : Str) == "table") = false from by decide, Bool.false_and]
        · exact ⟨_, .tu [.pl .non, tabT S, tabT M], rfl, .tu y7 (.cons (.pl rfl) (.cons dS (.cons dT .nil))), fine_tu rfl, rfl⟩
      refine ⟨_, rfl, _, _, rfl, rfl, W6, _, _, u, rfl, rfl, SqL.of f8, hatu, ?_⟩
      exact fin eF htd hfi hbad
    have hb21 : 21 ≤ way := by have := of_decide_eq_false hb21; omega
    have eG := eG.trans g6
    refine q_when (b := decide (way < 23)) (et_test (ev_op (ev_var rfl) ev_c rv_I0)) (fun hb G7 g7 => ?_) (fun hb23 G7 g7 => ?_)
    · have eG7 := eG.trans g7
      have hw := of_decide_eq_true hb
      refine ⟨by show 2 ≤ sizeLine; decide, fun W7 hW7 => ?_⟩
      have x1 := Ex.new (o := .lst [V.int 1, .int 7]) hW7
      have f1 : upd G7 W7 (.lst [V.int 1, .int 7]) W7 = some (.lst [V.int 1, .int 7]) := upd_same
      generalize upd G7 W7 (.lst [V.int 1, .int 7]) = A1 at x1 f1 ⊢
      obtain ⟨N, hN, hatN⟩ : ∃ N : Nat, (N = 1 ∨ N = 7) ∧ atI [V.int 1, .int 7] (way - 21) = some (.int (N : Int)) := by
        rcases (by omega : way = 21 ∨ way = 22) with rfl | rfl
        · exact ⟨1, .inl rfl, rfl⟩
        · exact ⟨7, .inr rfl, rfl⟩
      have hN1 : N ≤ 1000 := by omega
      have hN0 : (0 : Int) < (N : Int) := by omega
      refine ⟨_, rfl, _, _, rfl, rfl, W7, _, _, _, rfl, rfl, SqL.of f1, hatN, ?_⟩
      dsimp only
      refine asg_to (tup_rng (N := N) (fun a => (List.range N).map fun (b : Nat) => ((a : Int) + (b : Int)) % (N : Int)) (ea_cons (ev_var rfl) ea_nil) hN1 (by intro x; rfl) (fun i H1 hi e1 Q' k' => tup_ints (N := N) (fun (b : Nat) => ((i : Int) + (b : Int)) % (N : Int)) (ea_cons (ev_var rfl) ea_nil) hN1 (by intro x; rfl) (fun b H2 e2 hb => ev_op (ev_op (ev_var rfl) (ev_var rfl) rv_I0) (ev_var rfl) (rv_I hN0)) fun r' H2 e2 hr hr2 => k' r' H2 e2 hr hr2) fun q1 A2 x2 hT1 => ⟨[some (.ref m), some (.ref a1), some (.int way), some (.int (1 + ad)), some (.int (n : Int)), some (.int (kr : Int)), some (.int place), some (.ref L0), some (.ref W), some (.int (N : Int)), some (.ref q1), none, none], rfl, ?_⟩)
      have hmul : ∀ (i b : Nat), i < N → CMul (i : Int) (b : Int) := fun i b hi => Or.inl ⟨by omega, by omega⟩
      refine ret_tup (cons_c ?_)
      refine ⟨_, rfl, ?_⟩
      refine cons_step ?_
      refine tup_rng (N := N) (fun a => (List.range N).map fun (b : Nat) => ((a : Int) * (b : Int)) % (N : Int)) (ea_cons (ev_var rfl) ea_nil) hN1 (by intro x; rfl) (fun i H1 hi e1 Q' k' => ?_) fun q2 A3 x3 hT2 => ⟨by show 3 ≤ sizeLine; decide, fun D hD => ?_⟩
      · refine tup_ints (N := N) (fun (b : Nat) => ((i : Int) * (b : Int)) % (N : Int)) (ea_cons (ev_var rfl) ea_nil) hN1 (by intro x; rfl) (fun b H2 e2 hb => ?_) fun r' H2 e2 hr hr2 => k' r' H2 e2 hr hr2
        exact ev_op (ev_op (ev_var rfl) (ev_var rfl) (rv_I (hmul i b hi))) (ev_var rfl) (rv_I hN0)
      have eD := Ex.new (o := .tup [V.str "table", .ref q1, .ref q2]) hD
      refine fin (tt := tab3 (tabT _) (tabT _)) ((((eG7.trans x1).trans x2).trans x3).trans eD) (.tu upd_same (.cons (.pl rfl) (.cons (hT1.td.up (x3.trans eD)) (.cons (hT2.td.up eD) .nil)))) (fine_tab3 _ _) ?_
      rw [one_tab3]
      refine twoB_len ?_
      rw [List.length_map, List.length_map, List.length_range]
      omega
    have hb23 : 23 ≤ way := by have := of_decide_eq_false hb23; omega
    have eG := eG.trans g7
    have jm := eG _ _ ha3
    refine ⟨by show 0 ≤ sizeLine; decide, fun z0 hz0 => ?_⟩
    have x1 := Ex.new (o := .tup []) hz0
    have f1 : upd G7 z0 (.tup []) z0 = some (.tup []) := upd_same
    generalize upd G7 z0 (.tup []) = A1 at x1 f1 ⊢
    refine ⟨by show 1 ≤ sizeLine; decide, fun z1 hz1 => ?_⟩
    have x2 := Ex.new (o := .tup [V.str "table"]) hz1
    have f2 : upd A1 z1 (.tup [V.str "table"]) z1 = some (.tup [V.str "table"]) := upd_same
    generalize upd A1 z1 (.tup [V.str "table"]) = A2 at x2 f2 ⊢
    intro dp hdp
    refine ⟨_, rfl, upd_same, [(.inr "table", .ref a1)], rfl, by show 1 ≤ 15; decide, ?_⟩
    have x3 : Ex A2 (upd (upd A2 dp (.dK [])) dp (.dK (mergeK [] [(.inr "table", .ref a1)]))) := Ex.mut (Ex.new hdp) hdp
    have f3 : (upd (upd A2 dp (.dK [])) dp (.dK (mergeK [] [(.inr "table", .ref a1)]))) dp = some (.dK (mergeK [] [(.inr "table", .ref a1)])) := upd_same
    generalize (upd (upd A2 dp (.dK [])) dp (.dK (mergeK [] [(.inr "table", .ref a1)]))) = A3 at x3 f3 ⊢
    have jm3 := ((x1.trans x2).trans x3) _ _ jm
    refine ⟨_, rfl, a1, _, _, _, rfl, rfl, .inl (.inl jm3), rfl, _, rfl, 1, rfl, a1, _, rfl, .inl (.inl jm3), by show ¬((1 : Nat) = 0 ∧ (3 : Nat) = 3); decide, fun p1 hp1 => ⟨by show 9 ≤ sizeLine; decide, fun W8 hW8 => ?_⟩⟩
    have x4 := Ex.new (o := .tup (cutV [V.str "table", .ref p, .ref p'] (some 1) none)) hp1
    have f4 : upd A3 p1 (.tup (cutV [V.str "table", .ref p, .ref p'] (some 1) none)) p1 = some (.tup [.ref p, .ref p']) := upd_same
    generalize upd A3 p1 (.tup (cutV [V.str "table", .ref p, .ref p'] (some 1) none)) = A4 at x4 f4 hW8 ⊢
    have x5 := Ex.new (o := .lst [V.non, .bl true, .int 7, .str "table", .ref z0, .ref z1, .ref dp, .ref p, .ref p1]) hW8
    have f5 : upd A4 W8 (.lst [V.non, .bl true, .int 7, .str "table", .ref z0, .ref z1, .ref dp, .ref p, .ref p1]) W8 = some (.lst [V.non, .bl true, .int 7, .str "table", .ref z0, .ref z1, .ref dp, .ref p, .ref p1]) := upd_same
    generalize upd A4 W8 (.lst [V.non, .bl true, .int 7, .str "table", .ref z0, .ref z1, .ref dp, .ref p, .ref p1]) = A5 at x5 f5 ⊢
    have eF : Ex H3 A5 := eG.trans ((((x1.trans x2).trans x3).trans x4).trans x5)
    have dS := hS3.td.up eF
    have dT := hT3.td.up eF
    have y1 := (((x2.trans x3).trans x4).trans x5) _ _ f1
    have y2 := ((x3.trans x4).trans x5) _ _ f2
    have y3 := (x4.trans x5) _ _ f3
    have y4 := x5 _ _ f4
    obtain ⟨u, tu, hatu, htd, hfi, hbad⟩ : ∃ u tu, atI [V.non, .bl true, .int 7, .str "table", .ref z0, .ref z1, .ref dp, .ref p, .ref p1] (way - 23) = some u ∧ TdAt A5 u tu ∧ tu.fine ∧ oneB tu = false := by
      rcases (by omega : way = 23 ∨ way = 24 ∨ way = 25 ∨ way = 26 ∨ way = 27 ∨ way = 28 ∨ way = 29 ∨ way = 30 ∨ way = 31) with rfl | rfl | rfl | rfl | rfl | rfl | rfl | rfl | rfl
      · exact ⟨_, .pl .non, rfl, .pl rfl, fine_pl, rfl⟩
      · exact ⟨_, .pl (.bl true), rfl, .pl rfl, fine_pl, rfl⟩
      · exact ⟨_, .pl (.int 7), rfl, .pl rfl, fine_pl, rfl⟩
      · exact ⟨_, .pl (.str "table"), rfl, .pl rfl, fine_pl, rfl⟩
      · exact ⟨_, .tu [], rfl, .tu y1 .nil, fine_nil, rfl⟩
      · exact ⟨_, .tu [.pl (.str "table")], rfl, .tu y2 (.cons (.pl rfl) .nil), fine_head _, rfl⟩
      · exact ⟨_, .di, rfl, .di y3, fine_di, rfl⟩
      · refine ⟨_, tabT S, rfl, dS, ?_, ?_⟩
        · intro z r h
          have h : Td.tu (S.map rowT) = .tu (.pl (.str z) :: r) := h
          injection h with h
          have := congrArg List.head? h
          rw [List.head?_map] at this
          cases hh : S.head? with
          | none => rw [hh] at this; cases this
          | some x => rw [hh] at this; cases this
        · show oneB (.tu (S.map rowT)) = false
          cases hh : S with
          | nil => rfl
          | cons x y => exact oneB_no rfl
      · refine ⟨_, .tu [tabT S, tabT M], rfl, .tu y4 (.cons dS (.cons dT .nil)), fine_tu rfl, oneB_no rfl⟩
    refine ⟨_, rfl, _, _, rfl, rfl, W8, _, _, u, rfl, rfl, SqL.of f5, hatu, ?_⟩
    exact fin eF htd hfi hbad
end
end D1
end
section
set_option Elab.async false
set_option linter.all false
set_option maxRecDepth 100000
set_option maxHeartbeats 1000000
/-! F9: a Ring's zero, one, ==; whether it reckons by its tables -/
namespace D1
open PySem L2 Evl RZ ClX PySem.VX
/-- what the written part says of Ring -/
structure RingF (K : PySem.W.Frag) (CR fEq : Addr) : Prop where
  hcl : PySem.W.findIn K (.ref CR) "__class__" = some (some (.builtin "object.__class__"))
  hgn : PySem.W.specialIn K (.builtin "object.__class__") "__get__" = some (some (.builtin "getset_descriptor.__get__"))
  htk : PySem.W.takesIn K (.builtin "object.__class__") = some true
  hmo : PySem.W.mroIn K CR (.type "object") = some true
  ki : PySem.W.kitOne K (.ref CR) (.type "int") = some false
  kb : PySem.W.kitOne K (.ref CR) (.type "bool") = some false
  ks : PySem.W.kitOne K (.ref CR) (.type "str") = some false
  kt : PySem.W.kitOne K (.ref CR) (.type "tuple") = some false
  rr : PySem.W.kitOne K (.ref CR) (.ref CR) = some true
  tr : PySem.W.kitOne K (.type "tuple") (.ref CR) = some false
  nr : PySem.W.notFirst K CR (.ref CR) = true
  nt : PySem.W.notFirst K CR (.type "tuple") = true
  se : PySem.W.findIn K (.ref CR) "__eq__" = some (some (.ref fEq))
  fe : PySem.W.isFn K (.ref fEq) = true
  ne : PySem.W.findIn K (.ref CR) "__ne__" = some (some (.builtin "object.__ne__"))
theorem lay_tab : ∀ t : Tb, PyData.canLayAll0 (t.map rowD) = true
  | [] => rfl
  | r :: t => by
    have h := PySem.W.canLayAll0_ints r
    show (PyData.canLayAll0 (r.map PyData.int) && PyData.canLayAll0 (t.map rowD)) = true
    rw [h, lay_tab t]
    rfl
theorem shaped_tab {n : Nat} {S M : Tb} (n2 : 2 ≤ n) (n6 : n ≤ 6) (sS : Sq n S) (sM : Sq n M) : SeqAt.shaped (mkD (.tab S M)) = true := by
  have hd := (mk_shp (m := D1.Mk.tab S M) ⟨n, n2, n6, sS, sM⟩).fd
  show (PyData.canLay0 (mkD (.tab S M)) && decide (PyData.depth (mkD (.tab S M)) ≤ 64)) = true
  rw [Bool.and_eq_true]
  refine ⟨?_, decide_eq_true (Nat.le_trans hd (by show 0 + 3 ≤ 64; decide))⟩
  have h1 := lay_tab S
  have h2 := lay_tab M
  show (PyData.strOk "table" && (PyData.canLayAll0 (S.map rowD) && (PyData.canLayAll0 (M.map rowD) && true))) = true
  rw [h1, h2]
  decide +kernel
theorem eqv_tab {n : Nat} {S M : Tb} (n2 : 2 ≤ n) (n6 : n ≤ 6) (sS : Sq n S) (sM : Sq n M) : PyData.eqv (mkD (.tab S M)) (mkD (.tab S M)) = true := by
  have h := shaped_tab n2 n6 sS sM
  exact PySem.SeqAt.eqv_refl _ (Bool.and_eq_true_iff.mp h).1
section
variable {K : PySem.W.Frag} {σ : L2.St} {H : Hp} {tx ta tb : TE}
theorem ev_isiC {x c : V} {t u : Value} {b : Bool} (hx : Ev tx σ H x) (ty : ∀ H1, Ex H H1 → TyX K H1 x t) (k : PySem.W.kitOne K t u = some b) (cc : ClsV c u) : Ev (tCB (rIsi K) (tCons tx (tCons (tC c) tNil))) σ H (.bl b) := fun H1 e Q q =>
  hx H1 e _ fun H2 e2 => ⟨x, c, t, u, b, rfl, cc, ty H2 (e.trans e2), k, q H2 e2⟩
theorem ring_ty {CR CT fEq : Addr} {H : Hp} {v made : V} {n : Nat} {S M : Tb} (okR : OkC K CR) (T : RingF K CR fEq) (h : RingT CR CT H v made n S M) : ∀ H1, Ex H H1 → TyX K H1 v (.ref CR) := fun H1 e => by
  obtain ⟨r, dr, fr, rfl, h2, h5⟩ := h.kind9
  exact .base (.ins (e _ _ h2) okR.cls T.hcl T.hgn T.htk T.hmo)
theorem pk_ring {CR CT fEq : Addr} {H : Hp} {v made : V} {n : Nat} {S M : Tb} (okR : OkC K CR) (T : RingF K CR fEq) (h : RingT CR CT H v made n S M) : PlainK K H v := by
  obtain ⟨r, dr, fr, rfl, h2, h5⟩ := id h.kind9
  exact ⟨.ref CR, ring_ty okR T h, T.ki, T.kb, T.ks⟩
theorem ev_fldR {CR CT : Addr} {i : Nat} {v made : V} {n : Nat} {S M : Tb} (okR : OkC K CR) (hi : σ[i]? = some (some v)) (h : RingT CR CT H v made n S M) : Ev (tFld K (tVar i) "_made") σ H made := fun H1 e Q q => by
  obtain ⟨r, dr, k, dk, p, q', fr, fk, rfl, h2, h3, h4, h5, h6, h7, h8⟩ := h.ex e
  exact ⟨_, hi, r, CR, dr, fr, made, rfl, h2, okR.cls, okR.no _ (by decide), h3, q H1 (Ex.refl H1)⟩
end
section
variable {P : Program} {w : World} {K : PySem.W.Frag} {mg : Str → Option Value} {base : Heap}
def spSay (b : Bool) : Sp := fun vs H Q _ => ∃ a : Addr, vs = [.ref a] ∧ Q (.bl b) H
def spR0 (CR CT : Addr) (x : V) : Sp := fun vs H Q _ => ∃ (v made : V) (n : Nat) (S M : Tb), vs = [v] ∧ RingT CR CT H v made n S M ∧ Q x H
def spRGood (K : PySem.W.Frag) (CR CT : Addr) : Sp := fun vs H Q _ => ∃ (v made : V) (n : Nat) (S M : Tb) (x : V), vs = [v, x] ∧ RingT CR CT H v made n S M ∧ PlainK K H x ∧ ∀ H', Ex H H' → Q (.bl (wtB n x)) H'
def spREq (CR CT : Addr) : Sp := fun vs H Q _ => ∃ (v made y : V) (n : Nat) (S M : Tb), vs = [v, y] ∧ RingT CR CT H v made n S M ∧ MkAt H made (.tab S M) ∧ 2 ≤ n ∧ n ≤ 6 ∧ Sq n S ∧ Sq n M ∧
  ((∃ made', RingT CR CT H y made' n S M ∧ MkAt H made' (.tab S M) ∧ ∀ H', Ex H H' → Q (.bl true) H') ∨ (∃ a us, y = .ref a ∧ H a = some (.tup us) ∧ ∀ H', Ex H H' → Q (.bl false) H'))
abbrev s_Kind_closed : Stmt := meth 21 4
theorem sc_Kind_closed : FnScope ["self"] ["self"] (defScope s_Kind_closed) := ⟨rfl, rfl, rfl, by decide +kernel, rfl, by decide +kernel, by decide +kernel⟩
theorem ok_Kind_closed {f : Addr} {fd : FuncData} (F : FnM K "Kind" "closed" s_Kind_closed f fd) : FnOk P w K mg base CX0 1 f fd ["self"] (spSay false) := by
  refine F.ok sc_Kind_closed (fun vs H Q E h => ?_) (fun cdv A outer s H vs Q E hr h => ?_)
  · obtain ⟨a, rfl, _⟩ := h
    rfl
  · obtain ⟨a, rfl, q⟩ := h
    have hu := hu_of hr
    have hu64 := hr.units
    refine ⟨_, PSs.nox (pss_one (ps_ret pe_bl)), ?_⟩
    exact q
abbrev s_Finite_few : Stmt := meth 29 1
theorem sc_Finite_few : FnScope ["self"] ["self"] (defScope s_Finite_few) := ⟨rfl, rfl, rfl, by decide +kernel, rfl, by decide +kernel, by decide +kernel⟩
theorem ok_Finite_few {f : Addr} {fd : FuncData} (F : FnM K "Finite" "few" s_Finite_few f fd) : FnOk P w K mg base CX0 1 f fd ["self"] (spSay true) := by
  refine F.ok sc_Finite_few (fun vs H Q E h => ?_) (fun cdv A outer s H vs Q E hr h => ?_)
  · obtain ⟨a, rfl, _⟩ := h
    rfl
  · obtain ⟨a, rfl, q⟩ := h
    have hu := hu_of hr
    have hu64 := hr.units
    refine ⟨_, PSs.nox (pss_one (ps_ret pe_bl)), ?_⟩
    exact q
abbrev s_Ring_zero : Stmt := meth 47 3
theorem sc_Ring_zero : FnScope ["self"] ["self"] (defScope s_Ring_zero) := ⟨rfl, rfl, rfl, by decide +kernel, rfl, by decide +kernel, by decide +kernel⟩
theorem ok_Ring_zero {f : Addr} {fd : FuncData} (F : FnM K "Ring" "zero" s_Ring_zero f fd) {CR CT : Addr} (okR : OkC K CR) (okT : OkC K CT) {f_Kind_zero : Addr} {fd_Kind_zero : FuncData} (b_Kind_zero : Binds K fd_Kind_zero ["self"] []) (G_Kind_zero : FnOk P w K mg base CX0 1 f_Kind_zero fd_Kind_zero ["self"] (spGet K "_zero")) (m_Kind_zero : Meth K CT "zero" f_Kind_zero) : FnOk P w K mg base CX0 2 f fd ["self"] (spR0 CR CT (.int 0)) := by
  refine F.ok sc_Ring_zero (fun vs H Q E h => ?_) (fun cdv A outer s H vs Q E hr h => ?_)
  · obtain ⟨v, made, n, S, M, rfl, _⟩ := h
    rfl
  · obtain ⟨v, made, n, S, M, rfl, hR, q⟩ := h
    have hu := hu_of hr
    have hu64 := hr.units
    have hr_Kind_zero := hr.mono (by decide : 1 ≤ 1)
    refine ⟨_, PSs.nox (pss_one (ps_ret (pe_meth0 (C := CT) (pe_fld (pv 0) rfl) okT.cls m_Kind_zero G_Kind_zero hr_Kind_zero b_Kind_zero .nil pass0))), ?_⟩
    obtain ⟨r, dr, k, dk, p, q', fr, fk, rfl, h2, h3, h4, h5, h6, h7, h8⟩ := hR
    exact ⟨_, rfl, r, CR, dr, fr, _, rfl, h2, okR.cls, okR.no _ (by decide), h4, k, dk, fk, rfl, h6, h7.no _ (by decide), k, CT, dk, fk, _, rfl, h6, okT, h7.zero, q⟩
abbrev s_Ring_one : Stmt := meth 47 4
theorem sc_Ring_one : FnScope ["self"] ["self"] (defScope s_Ring_one) := ⟨rfl, rfl, rfl, by decide +kernel, rfl, by decide +kernel, by decide +kernel⟩
theorem ok_Ring_one {f : Addr} {fd : FuncData} (F : FnM K "Ring" "one" s_Ring_one f fd) {CR CT : Addr} (okR : OkC K CR) (okT : OkC K CT) {f_Kind_one : Addr} {fd_Kind_one : FuncData} (b_Kind_one : Binds K fd_Kind_one ["self"] []) (G_Kind_one : FnOk P w K mg base CX0 1 f_Kind_one fd_Kind_one ["self"] (spGet K "_one")) (m_Kind_one : Meth K CT "one" f_Kind_one) : FnOk P w K mg base CX0 2 f fd ["self"] (spR0 CR CT (.int 1)) := by
  refine F.ok sc_Ring_one (fun vs H Q E h => ?_) (fun cdv A outer s H vs Q E hr h => ?_)
  · obtain ⟨v, made, n, S, M, rfl, _⟩ := h
    rfl
  · obtain ⟨v, made, n, S, M, rfl, hR, q⟩ := h
    have hu := hu_of hr
    have hu64 := hr.units
    have hr_Kind_one := hr.mono (by decide : 1 ≤ 1)
    refine ⟨_, PSs.nox (pss_one (ps_ret (pe_meth0 (C := CT) (pe_fld (pv 0) rfl) okT.cls m_Kind_one G_Kind_one hr_Kind_one b_Kind_one .nil pass0))), ?_⟩
    obtain ⟨r, dr, k, dk, p, q', fr, fk, rfl, h2, h3, h4, h5, h6, h7, h8⟩ := hR
    exact ⟨_, rfl, r, CR, dr, fr, _, rfl, h2, okR.cls, okR.no _ (by decide), h4, k, dk, fk, rfl, h6, h7.no _ (by decide), k, CT, dk, fk, _, rfl, h6, okT, h7.one, q⟩
abbrev s_Ring_is_closed : Stmt := meth 47 5
theorem sc_Ring_is_closed : FnScope ["self"] ["self"] (defScope s_Ring_is_closed) := ⟨rfl, rfl, rfl, by decide +kernel, rfl, by decide +kernel, by decide +kernel⟩
theorem ok_Ring_is_closed {f : Addr} {fd : FuncData} (F : FnM K "Ring" "is_closed" s_Ring_is_closed f fd) {CR CT : Addr} (okR : OkC K CR) (okT : OkC K CT) {f_Kind_closed : Addr} {fd_Kind_closed : FuncData} (b_Kind_closed : Binds K fd_Kind_closed ["self"] []) (G_Kind_closed : FnOk P w K mg base CX0 1 f_Kind_closed fd_Kind_closed ["self"] (spSay false)) (m_Kind_closed : Meth K CT "closed" f_Kind_closed) : FnOk P w K mg base CX0 2 f fd ["self"] (spR0 CR CT (.bl false)) := by
  refine F.ok sc_Ring_is_closed (fun vs H Q E h => ?_) (fun cdv A outer s H vs Q E hr h => ?_)
  · obtain ⟨v, made, n, S, M, rfl, _⟩ := h
    rfl
  · obtain ⟨v, made, n, S, M, rfl, hR, q⟩ := h
    have hu := hu_of hr
    have hu64 := hr.units
    have hr_Kind_closed := hr.mono (by decide : 1 ≤ 1)
    refine ⟨_, PSs.nox (pss_one (ps_ret (pe_meth0 (C := CT) (pe_fld (pv 0) rfl) okT.cls m_Kind_closed G_Kind_closed hr_Kind_closed b_Kind_closed .nil pass0))), ?_⟩
    obtain ⟨r, dr, k, dk, p, q', fr, fk, rfl, h2, h3, h4, h5, h6, h7, h8⟩ := hR
    exact ⟨_, rfl, r, CR, dr, fr, _, rfl, h2, okR.cls, okR.no _ (by decide), h4, k, dk, fk, rfl, h6, h7.no _ (by decide), k, rfl, q⟩
abbrev s_Ring_is_few : Stmt := meth 47 6
theorem sc_Ring_is_few : FnScope ["self"] ["self"] (defScope s_Ring_is_few) := ⟨rfl, rfl, rfl, by decide +kernel, rfl, by decide +kernel, by decide +kernel⟩
theorem ok_Ring_is_few {f : Addr} {fd : FuncData} (F : FnM K "Ring" "is_few" s_Ring_is_few f fd) {CR CT : Addr} (okR : OkC K CR) (okT : OkC K CT) {f_Finite_few : Addr} {fd_Finite_few : FuncData} (b_Finite_few : Binds K fd_Finite_few ["self"] []) (G_Finite_few : FnOk P w K mg base CX0 1 f_Finite_few fd_Finite_few ["self"] (spSay true)) (m_Finite_few : Meth K CT "few" f_Finite_few) : FnOk P w K mg base CX0 2 f fd ["self"] (spR0 CR CT (.bl true)) := by
  refine F.ok sc_Ring_is_few (fun vs H Q E h => ?_) (fun cdv A outer s H vs Q E hr h => ?_)
  · obtain ⟨v, made, n, S, M, rfl, _⟩ := h
    rfl
  · obtain ⟨v, made, n, S, M, rfl, hR, q⟩ := h
    have hu := hu_of hr
    have hu64 := hr.units
    have hr_Finite_few := hr.mono (by decide : 1 ≤ 1)
    refine ⟨_, PSs.nox (pss_one (ps_ret (pe_meth0 (C := CT) (pe_fld (pv 0) rfl) okT.cls m_Finite_few G_Finite_few hr_Finite_few b_Finite_few .nil pass0))), ?_⟩
    obtain ⟨r, dr, k, dk, p, q', fr, fk, rfl, h2, h3, h4, h5, h6, h7, h8⟩ := hR
    exact ⟨_, rfl, r, CR, dr, fr, _, rfl, h2, okR.cls, okR.no _ (by decide), h4, k, dk, fk, rfl, h6, h7.no _ (by decide), k, rfl, q⟩
abbrev s_Ring_good : Stmt := meth 47 7
theorem sc_Ring_good : FnScope ["self", "thing"] ["self", "thing"] (defScope s_Ring_good) := ⟨rfl, rfl, rfl, by decide +kernel, rfl, by decide +kernel, by decide +kernel⟩
theorem ok_Ring_good {f : Addr} {fd : FuncData} (F : FnM K "Ring" "good" s_Ring_good f fd) {CR CT : Addr} (okR : OkC K CR) (okT : OkC K CT) {f_Counted_good : Addr} {fd_Counted_good : FuncData} (b_Counted_good : Binds K fd_Counted_good ["self", "thing"] []) (G_Counted_good : FnOk P w K mg base CX0 2 f_Counted_good fd_Counted_good ["self", "thing"] (spGoodP K CT)) (m_Counted_good : Meth K CT "good" f_Counted_good) : FnOk P w K mg base CX0 3 f fd ["self", "thing"] (spRGood K CR CT) := by
  refine F.ok sc_Ring_good (fun vs H Q E h => ?_) (fun cdv A outer s H vs Q E hr h => ?_)
  · obtain ⟨v, made, n, S, M, x, rfl, _⟩ := h
    rfl
  · obtain ⟨v, made, n, S, M, x, rfl, hR, hp, q⟩ := h
    have hu := hu_of hr
    have hu64 := hr.units
    have hr_Counted_good := hr.mono (by decide : 2 ≤ 2)
    refine ⟨_, PSs.nox (pss_one (ps_ret (pe_meth (C := CT) (pe_fld (pv 0) rfl) okT.cls m_Counted_good G_Counted_good hr_Counted_good b_Counted_good .nil pass0 (pa_cons (pv 1) pa_nil)))), ?_⟩
    obtain ⟨r, dr, k, dk, p, q', fr, fk, rfl, h2, h3, h4, h5, h6, h7, h8⟩ := hR
    obtain ⟨po, ho1, ho2⟩ := h7.oth
    exact ⟨_, rfl, r, CR, dr, fr, _, rfl, h2, okR.cls, okR.no _ (by decide), h4, k, dk, fk, rfl, h6, h7.no _ (by decide), _, rfl, k, dk, po, fk, x, n, rfl, h6, okT, h7.size, h7.no _ (by decide), ho1, ho2, hp, fun H1 e1 => q H1 e1⟩
abbrev s_Ring___eq__ : Stmt := meth 47 19
theorem sc_Ring___eq__ : FnScope ["self", "other"] ["self", "other"] (defScope s_Ring___eq__) := ⟨rfl, rfl, rfl, by decide +kernel, rfl, by decide +kernel, by decide +kernel⟩
theorem ok_Ring___eq__ {f : Addr} {fd : FuncData} (F : FnM K "Ring" "__eq__" s_Ring___eq__ f fd) {CR CT fEq : Addr} (okR : OkC K CR) (T : RingF K CR fEq) (g_Ring : mg "Ring" = some (.ref CR)) (z_isinstance : mg "isinstance" = none) : FnOk P w K mg base CX0 1 f fd ["self", "other"] (spREq CR CT) := by
  refine F.ok sc_Ring___eq__ (fun vs H Q E h => ?_) (fun cdv A outer s H vs Q E hr h => ?_)
  · obtain ⟨v, made, y, n, S, M, rfl, _⟩ := h
    rfl
  · obtain ⟨v, made, y, n, S, M, rfl, hR, hM, n2, n6, sS, sM, h⟩ := h
    have hu := hu_of hr
    have hu64 := hr.units
    refine ⟨_, PSs.nox (pss_one (ps_ret (pe_and (pe_callB call_isi (by rfl) z_isinstance PyProof.Rows.boot_isinstance (pa_cons (pv 1) (pa_cons (pe_glob (v := .ref CR) rfl g_Ring rfl) pa_nil))) (pe_one (pe_cmpR (op_eqD hu64) (pe_fld (pv 0) rfl) (pe_fld (pv 1) rfl) (nomark _)))))), ?_⟩
    rcases h with ⟨made', hR', hM', q⟩ | ⟨a, us, rfl, ha, q⟩
    · refine s_ret (D := { nx := fun _ H' => Q .non H', rt := Q }) (v := .bl true) (ev_is (ev_andV (a := true) (b := true) (ev_isiC (ev_var rfl) (ring_ty okR T hR') T.rr (.own CR)) fun _ => ?_) rfl) fun H' e => q H' e
      refine ev_op (ev_fldR okR rfl hR) (ev_fldR okR rfl hR') fun H1 e1 Q' q' => ⟨mkD (.tab S M), mkD (.tab S M), mk_dp (hM.ex e1), mk_dp (hM'.ex e1), shaped_tab n2 n6 sS sM, shaped_tab n2 n6 sS sM, ?_⟩
      rw [eqv_tab n2 n6 sS sM]
      exact q' H1 (Ex.refl H1)
    · exact s_ret (D := { nx := fun _ H' => Q .non H', rt := Q }) (v := .bl false) (ev_is (ev_andV (a := false) (b := false) (ev_isiC (ev_var rfl) (fun H1 e1 => .base (.tup (e1 _ _ ha))) T.tr (.own CR)) fun h => (by cases h)) rfl) fun H' e => q H' e
end
end D1
end
section
set_option Elab.async false
set_option linter.all false
set_option maxRecDepth 100000
set_option maxHeartbeats 2000000
/-! F10: whether a Ring reckons by its tables -/
namespace D1
open PySem L2 Evl RZ ClX PySem.VX
def EvD (K : PySem.W.Frag) (te : TE) (σ : L2.St) (H : Hp) (d : PyData) : Prop := ∀ H1, Ex H H1 → ∀ Q : VK, (∀ p H2, Ex H1 H2 → Dp K H2 (.ref p) d → Q (.ref p) H2) → te σ H1 Q
theorem Dp.exD {K : PySem.W.Frag} {H : Hp} {p : Addr} {vs : List V} {ds : List PyData} (h : H p = some (.lst vs)) (hd : DpAll K H vs ds) : Dp K H (.ref p) (.list ds) := .lst (.inl (.inl h)) hd
section
variable {K : PySem.W.Frag} {σ : L2.St} {H : Hp} {te ta tb : TE} {tt : TT} {d : PyData}
theorem evd_L {vs : List V} {ds : List PyData} (h : EvL te σ H vs) (hd : ∀ H1, DpAll K H1 vs ds) : EvD K te σ H (.list ds) := fun H1 e Q q => h H1 e Q fun p H2 _ e2 h2 => q p H2 e2 (.lst (.inl (.inl h2)) (hd H2))
theorem evd_U {vs : List V} {ds : List PyData} (h : EvU te σ H vs) (hd : ∀ H1, DpAll K H1 vs ds) : EvD K te σ H (.tuple ds) := fun H1 e Q q => h H1 e Q fun p H2 _ e2 h2 => q p H2 e2 (.tup (.inl (.inl h2)) (hd H2))
theorem evd_var {i : Nat} {p : Addr} (hi : σ[i]? = some (some (.ref p))) (hd : ∀ H1, Ex H H1 → Dp K H1 (.ref p) d) : EvD K (tVar i) σ H d := fun H1 e Q q => ⟨_, hi, q p H1 (Ex.refl H1) (hd H1 e)⟩
theorem evd_if {b : Bool} (h : EvT tt σ H b) (h1 : b = true → EvD K ta σ H d) (h2 : b = false → EvD K tb σ H d) : EvD K (tIf tt ta tb) σ H d := fun H1 e Q q => h H1 e _ fun H2 e2 => by
  cases b with
  | true =>
    show ta σ H2 Q
    exact h1 rfl H2 (e.trans e2) Q fun p H3 e3 => q p H3 (e2.trans e3)
  | false =>
    show tb σ H2 Q
    exact h2 rfl H2 (e.trans e2) Q fun p H3 e3 => q p H3 (e2.trans e3)
theorem ev_repD {k n : Nat} (h : EvD K te σ H d) (s : Shp d k n) (hk : k ≤ 60) (hn : n ≤ 1600000) : Ev (tCB (rReprD K) (tCons te tNil)) σ H (.str d.shown) := fun H1 e Q q =>
  h H1 e _ fun p H2 e2 hd => rep_of hd s hk hn (q H2 e2)
/-- what is told, and what is due: alike -/
theorem ev_neRep {k n : Nat} (h : EvD K ta σ H d) (h' : EvD K tb σ H d) (s : Shp d k n) (hk : k ≤ 60) (hn : n ≤ 1600000) : Ev (tOp rNe (tCB (rReprD K) (tCons ta tNil)) (tCB (rReprD K) (tCons tb tNil))) σ H (.bl false) := ev_neS (ev_repD h s hk hn) (ev_repD h' s hk hn)
end
def rRepI : List V → Hp → VK → Prop := fun xs H Q => ∃ i : Int, xs = [.int i] ∧ i.natAbs.log2 < 1920 ∧ Q (.str (toString i)) H
theorem dig_small {i : Int} (h0 : 0 ≤ i) (h1 : i < 7) : i.natAbs.log2 < 1920 := by
  have h : ∀ k : Fin 7, Nat.log2 k.val < 1920 := by decide
  have := h ⟨i.natAbs, by omega⟩
  exact this
section
variable {K : PySem.W.Frag} {σ : L2.St} {H : Hp} {ta tb te : TE}
theorem ev_repI {i : Int} (h : Ev te σ H (.int i)) (hs : i.natAbs.log2 < 1920) : Ev (tCB rRepI (tCons te tNil)) σ H (.str (toString i)) := fun H1 e Q q => h H1 e _ fun H2 e2 => ⟨i, rfl, hs, q H2 e2⟩
theorem rv_notB {a b : Bool} : RV rNotB (.bl a) (.bl b) H (.bl (!decide (a = b))) := fun H1 _ Q q => ⟨a, b, rfl, rfl, q H1 (Ex.refl H1)⟩
theorem rv_isB {a b : Bool} : RV rIsB (.bl a) (.bl b) H (.bl (decide (a = b))) := fun H1 _ Q q => ⟨a, b, rfl, rfl, q H1 (Ex.refl H1)⟩
theorem ev_methR {CR CT : Addr} {i n : Nat} {v made z : V} {S M : Tb} {nm : Str} {sp : Sp} {E : XK} {t : TA} {vs : List V} (hi : σ[i]? = some (some v)) (hR : RingT CR CT H v made n S M) (hf : nm ∉ fields) (ha : EvA t σ H vs) (hs : SpV sp (v :: (vs ++ [])) H z) : Ev (tMeth CR nm sp [] E (tVar i) t) σ H z := fun H1 e Q q => by
  obtain ⟨r, dr, fr, rfl, h2, h5⟩ := id (hR.ex e).kind9
  exact ⟨_, hi, r, dr, fr, rfl, h2, h5 _ hf, ha H1 e _ fun H2 e2 => hs H2 (e.trans e2) Q (fun H3 e3 => q H3 (e2.trans e3)) E⟩
/-- two new tuples of flat data: unlike, or not -/
theorem ev_neU {vs us : List V} {ds es : List PyData} (h : EvU ta σ H vs) (h' : EvU tb σ H us) (hd : ∀ H1, DpAll K H1 vs ds) (he : ∀ H1, DpAll K H1 us es) (sd : SeqAt.shaped (.tuple ds) = true) (se : SeqAt.shaped (.tuple es) = true) :
    Ev (tOp (rNeD K) ta tb) σ H (.bl (!PyData.eqv (.tuple ds) (.tuple es))) := ev_opUU h h' fun p q H1 hp hq _ H2 e2 Q k => ⟨.tuple ds, .tuple es, .tup (.inl (.inl (e2 _ _ hp))) (hd H2), .tup (.inl (.inl (e2 _ _ hq))) (he H2), sd, se, k H2 (Ex.refl H2)⟩
end
theorem wtB_int {n : Nat} {i : Int} (h0 : 0 ≤ i) (h1 : i < n) : wtB n (.int i) = true := by
  show (decide (0 ≤ i) && decide (i < (n : Int))) = true
  rw [decide_eq_true h0, decide_eq_true h1]
  rfl
theorem wtB_top (n : Nat) : wtB n (.int (n : Int)) = false := by
  show (decide (0 ≤ (n : Int)) && decide ((n : Int) < (n : Int))) = false
  rw [decide_eq_false (Int.lt_irrefl _), Bool.and_false]
theorem rowB_sq {n : Nat} {row : List Int} (h : row.length = n ∧ ∀ x ∈ row, 0 ≤ x ∧ x < (n : Int)) : rowB n (rowT row) = true := by
  show (decide ((row.map fun i => Td.pl (.int i)).length = n) && (row.map fun i => Td.pl (.int i)).all (placeB n)) = true
  rw [List.length_map, decide_eq_true h.1, Bool.true_and, List.all_eq_true]
  intro t ht
  obtain ⟨x, hx, rfl⟩ := List.mem_map.mp ht
  show within 0 ((n : Int) - 1) x = true
  obtain ⟨h3, h4⟩ := h.2 x hx
  unfold within
  rw [decide_eq_true h3, Bool.true_and]
  exact decide_eq_true (by omega)
theorem tableB_sq {n : Nat} {t : Tb} (s : Sq n t) : tableB n (tabT t) = true := by
  show (decide ((t.map rowT).length = n) && (t.map rowT).all (rowB n)) = true
  rw [List.length_map, s.len, decide_eq_true rfl, Bool.true_and, List.all_eq_true]
  intro r hr
  obtain ⟨x, hx, rfl⟩ := List.mem_map.mp hr
  exact rowB_sq (s.row x hx)
theorem one_sq {n : Nat} {S M : Tb} (n2 : 2 ≤ n) (n6 : n ≤ 6) (sS : Sq n S) (sM : Sq n M) : oneB (tab3 (tabT S) (tabT M)) = true := by
  rw [one_tab3]
  have hl : (S.map rowT).length = n := by rw [List.length_map, sS.len]
  show (within 2 6 (((S.map rowT).length : Nat) : Int) && (tableB (S.map rowT).length (tabT S) && tableB (S.map rowT).length (tabT M))) = true
  rw [hl, tableB_sq sS, tableB_sq sM]
  unfold within
  rw [decide_eq_true (by omega : (2 : Int) ≤ (n : Int)), decide_eq_true (by omega : (n : Int) ≤ 6)]
  rfl
section
variable {P : Program} {w : World} {K : PySem.W.Frag} {mg : Str → Option Value} {base : Heap}
def spReck (CR CT : Addr) : Sp := fun vs H Q _ => ∃ (v made : V) (n : Nat) (S M : Tb), vs = [v, made] ∧ RingT CR CT H v made n S M ∧ MkAt H made (.tab S M) ∧ 2 ≤ n ∧ n ≤ 6 ∧ Sq n S ∧ Sq n M ∧ Fb n S M none ∧ ∀ H', Ex H H' → Q (.bl true) H'
abbrev s_hold : Stmt := top 87
theorem sc_hold : FnScope ["_law_base_here", "_law_made_here", "_law_side", "_law_a", "_law_b", "_law_thing"] ["_law_base_here", "_law_made_here"] (defScope s_hold) := ⟨rfl, rfl, rfl, by decide +kernel, rfl, by decide +kernel, by decide +kernel⟩
theorem ok_hold {f : Addr} {fd : FuncData} (F : FnP K "_law_tables_hold" s_hold f fd) {CR CT cR : Addr} (okR : OkC K CR) {f_Ring_zero : Addr} {fd_Ring_zero : FuncData} (b_Ring_zero : Binds K fd_Ring_zero ["self"] []) (G_Ring_zero : FnOk P w K mg base CX0 2 f_Ring_zero fd_Ring_zero ["self"] (spR0 CR CT (.int 0))) (m_Ring_zero : Meth K CR "zero" f_Ring_zero) {f_Ring_one : Addr} {fd_Ring_one : FuncData} (b_Ring_one : Binds K fd_Ring_one ["self"] []) (G_Ring_one : FnOk P w K mg base CX0 2 f_Ring_one fd_Ring_one ["self"] (spR0 CR CT (.int 1))) (m_Ring_one : Meth K CR "one" f_Ring_one) {f_Ring_is_closed : Addr} {fd_Ring_is_closed : FuncData} (b_Ring_is_closed : Binds K fd_Ring_is_closed ["self"] []) (G_Ring_is_closed : FnOk P w K mg base CX0 2 f_Ring_is_closed fd_Ring_is_closed ["self"] (spR0 CR CT (.bl false))) (m_Ring_is_closed : Meth K CR "is_closed" f_Ring_is_closed) {f_Ring_is_few : Addr} {fd_Ring_is_few : FuncData} (b_Ring_is_few : Binds K fd_Ring_is_few ["self"] []) (G_Ring_is_few : FnOk P w K mg base CX0 2 f_Ring_is_few fd_Ring_is_few ["self"] (spR0 CR CT (.bl true))) (m_Ring_is_few : Meth K CR "is_few" f_Ring_is_few) {f_Ring_made : Addr} {fd_Ring_made : FuncData} (b_Ring_made : Binds K fd_Ring_made ["self"] []) (G_Ring_made : FnOk P w K mg base CX0 1 f_Ring_made fd_Ring_made ["self"] (spGet K "_made")) (m_Ring_made : Meth K CR "made" f_Ring_made) {f_Ring_good : Addr} {fd_Ring_good : FuncData} (b_Ring_good : Binds K fd_Ring_good ["self", "thing"] []) (G_Ring_good : FnOk P w K mg base CX0 3 f_Ring_good fd_Ring_good ["self", "thing"] (spRGood K CR CT)) (m_Ring_good : Meth K CR "good" f_Ring_good) {f_Ring_plus : Addr} {fd_Ring_plus : FuncData} (b_Ring_plus : Binds K fd_Ring_plus ["self", "a", "b"] []) (G_Ring_plus : FnOk P w K mg base CX0 4 f_Ring_plus fd_Ring_plus ["self", "a", "b"] (spRSum CR CT true)) (m_Ring_plus : Meth K CR "plus" f_Ring_plus) {f_Ring_times : Addr} {fd_Ring_times : FuncData} (b_Ring_times : Binds K fd_Ring_times ["self", "a", "b"] []) (G_Ring_times : FnOk P w K mg base CX0 4 f_Ring_times fd_Ring_times ["self", "a", "b"] (spRSum CR CT false)) (m_Ring_times : Meth K CR "times" f_Ring_times) {f_Ring_eq : Addr} {fd_Ring_eq : FuncData} (b_Ring_eq : Binds K fd_Ring_eq ["self", "other"] []) (G_Ring_eq : FnOk P w K mg base CX0 1 f_Ring_eq fd_Ring_eq ["self", "other"] (spREq CR CT)) (T : RingF K CR f_Ring_eq) {f_ring_of : Addr} {fd_ring_of : FuncData} (F_ring_of : FnP K "ring_of" s_ring_of f_ring_of fd_ring_of) (g_ring_of : mg "ring_of" = some (.ref f_ring_of)) (G_ring_of : FnOk P w K mg base (L2.CX P w) 13 f_ring_of fd_ring_of ["made"] (spRing9 CR CT cR)) (z_len : mg "len" = none) (z_repr : mg "repr" = none) (z_range : mg "range" = none) (z_all : mg "all" = none) : FnG P w K mg base CX0 15 f fd ["_law_base_here", "_law_made_here"] (spReck CR CT) := by
  have b_ring_of : Binds K fd_ring_of ["made"] [] := F_ring_of.bindsN fun _ _ _ _ _ _ us hl => match us, hl with | [_], _ => rfl
  refine Fun.okG F.asFun sc_hold (fun vs H Q E h => ?_) (fun cdv A outer s H vs Q E hr hG h => ?_)
  · obtain ⟨v, made, n, S, M, rfl, _⟩ := h
    rfl
  · obtain ⟨v, made, n, S, M, rfl, hR, hM, n2, n6, sS, sM, hFb, q⟩ := h
    have hu := hu_of hr
    have hu64 := hr.units
    have hr_Ring_zero := hr.mono (by decide : 2 ≤ 14)
    have hr_Ring_one := hr.mono (by decide : 2 ≤ 14)
    have hr_Ring_is_closed := hr.mono (by decide : 2 ≤ 14)
    have hr_Ring_is_few := hr.mono (by decide : 2 ≤ 14)
    have hr_Ring_made := hr.mono (by decide : 1 ≤ 14)
    have hr_Ring_good := hr.mono (by decide : 3 ≤ 14)
    have hr_Ring_plus := hr.mono (by decide : 4 ≤ 14)
    have hr_Ring_times := hr.mono (by decide : 4 ≤ 14)
    have hr_Ring_eq := hr.mono (by decide : 1 + 1 ≤ 14)
    have hr_ring_of := hr.mono (by decide : 13 ≤ 14)
    refine ⟨_, (pss_cons (ps_set (i := 2) sc_hold.nd rfl (Or.inl rfl) (pe_callB call_len_seq (by rfl) z_len PySem.boot_len (pa_cons (pe_ix ix_tup (pv 1) pe_int (fun _ _ => rfl)) pa_nil)))
      (pss_cons (ps_if (pt_cmpR (op_neD hu64) (pe_tup (pa_cons (pe_callB SkE.call_repr_int (by rfl) z_repr (by decide +kernel) (pa_cons (pe_meth0 (C := CR) (pv 0) okR.cls m_Ring_zero G_Ring_zero hr_Ring_zero b_Ring_zero .nil pass0) pa_nil)) (pa_cons (pe_callB SkE.call_repr_int (by rfl) z_repr (by decide +kernel) (pa_cons (pe_meth0 (C := CR) (pv 0) okR.cls m_Ring_one G_Ring_one hr_Ring_one b_Ring_one .nil pass0) pa_nil)) (pa_cons (pe_meth0 (C := CR) (pv 0) okR.cls m_Ring_is_closed G_Ring_is_closed hr_Ring_is_closed b_Ring_is_closed .nil pass0) (pa_cons (pe_meth0 (C := CR) (pv 0) okR.cls m_Ring_is_few G_Ring_is_few hr_Ring_is_few b_Ring_is_few .nil pass0) pa_nil))))) (pe_tup (pa_cons pe_str (pa_cons pe_str (pa_cons pe_bl (pa_cons pe_bl pa_nil))))) (nomark _)) (pss_one (ps_ret pe_bl)) pss_nil)
      (pss_cons (ps_if (PW.pt (pw_or (pt_cmpR op_ne (pe_callB (call_reprD hG hu64) (by rfl) z_repr (by decide +kernel) (pa_cons (pe_meth0 (C := CR) (pv 0) okR.cls m_Ring_made G_Ring_made hr_Ring_made b_Ring_made .nil pass0) pa_nil)) (pe_callB (call_reprD hG hu64) (by rfl) z_repr (by decide +kernel) (pa_cons (pv 1) pa_nil)) (nomark _)) (pw_or (pt_cmpR (op_neO G_Ring_eq T.se T.fe T.ne T.hmo b_Ring_eq pass0 hr_Ring_eq) (pv 0) (pe_call G_ring_of hr_ring_of rfl g_ring_of F_ring_of.kp b_ring_of .nil passL (pa_cons (pv 1) pa_nil)) (nomark _)) (pw_or1 (pt_cmpR (op_eqO G_Ring_eq T.se T.fe b_Ring_eq pass0 (hr_Ring_eq.mono (by decide))) (pv 0) (pv 1) (nomark _)))))) (pss_one (ps_ret pe_bl)) pss_nil)
      (pss_cons (ps_for PassesOwn.never rfl (pi_range1 rfl z_range (pa_cons (pv 2) pa_nil)) (pg_name (i := 3) sc_hold.nd rfl (Or.inl rfl)) (pss_cons (ps_if (pt_cmpR op_notBl (pe_meth (C := CR) (pv 0) okR.cls m_Ring_good G_Ring_good hr_Ring_good b_Ring_good .nil pass0 (pa_cons (pv 3) pa_nil)) pe_bl (nomark _)) (pss_one (ps_ret pe_bl)) pss_nil)
      (pss_one (ps_for PassesOwn.never rfl (pi_range1 rfl z_range (pa_cons (pv 2) pa_nil)) (pg_name (i := 4) sc_hold.nd rfl (Or.inl rfl)) (pss_one (ps_if (PW.pt (pw_or (pt_cmpR op_ne (pe_callB SkE.call_repr_int (by rfl) z_repr (by decide +kernel) (pa_cons (pe_meth (C := CR) (pv 0) okR.cls m_Ring_plus G_Ring_plus hr_Ring_plus b_Ring_plus .nil pass0 (pa_cons (pv 3) (pa_cons (pv 4) pa_nil))) pa_nil)) (pe_callB SkE.call_repr_int (by rfl) z_repr (by decide +kernel) (pa_cons (pe_ix ix_tup (pe_ix ix_tup (pe_ix ix_tup (pv 1) pe_int (fun _ _ => rfl)) (pv 3) (fun _ _ => rfl)) (pv 4) (fun _ _ => rfl)) pa_nil)) (nomark _)) (pw_or1 (pt_cmpR op_ne (pe_callB SkE.call_repr_int (by rfl) z_repr (by decide +kernel) (pa_cons (pe_meth (C := CR) (pv 0) okR.cls m_Ring_times G_Ring_times hr_Ring_times b_Ring_times .nil pass0 (pa_cons (pv 3) (pa_cons (pv 4) pa_nil))) pa_nil)) (pe_callB SkE.call_repr_int (by rfl) z_repr (by decide +kernel) (pa_cons (pe_ix ix_tup (pe_ix ix_tup (pe_ix ix_tup (pv 1) pe_int (fun _ _ => rfl)) (pv 3) (fun _ _ => rfl)) (pv 4) (fun _ _ => rfl)) pa_nil)) (nomark _))))) (pss_one (ps_ret pe_bl)) pss_nil))))))
      (pss_one (ps_ret (pe_callB (cr_all rfl) (by rfl) z_all PyProof.Rows.boot_all (pa_cons (pe_lc (own := [("_law_thing", 5)]) (g := gName 5) (tt := tYes) (te := tOp rIsB (tMeth CR "good" (spRGood K CR CT) [] E0 (tVar 0) (tCons (tVar 5) tNil)) (tC (.bl false))) (by rfl) sc_hold.nd (pi_tup (pe_tup (pa_cons (pe_un un_neg pe_int) (pa_cons (pv 2) (pa_cons pe_bl (pa_cons pe_bl (pa_cons pe_non (pa_cons pe_str (pa_cons (pe_tup (pa_cons pe_int pa_nil)) (pa_cons (pe_lst (pa_cons pe_int pa_nil)) (pa_cons (pv 1) (pa_cons (pv 0) pa_nil)))))))))))) (blkOk_by (own := [("_law_thing", 5)]) (N := ["_law_base_here", "_law_made_here", "_law_side", "_law_a", "_law_b", "_law_thing"]) (sc := defScope s_hold) (by decide +kernel)) (fun _ _ _ _ _ => pg_name (i := 5) sc_hold.nd rfl (Or.inl rfl)) (fun _ _ _ _ _ => pts_nil) (fun _ _ _ _ _ => pe_cmpR op_isBl (pe_meth (C := CR) (pv 0) okR.cls m_Ring_good G_Ring_good hr_Ring_good b_Ring_good .nil pass0 (pa_cons (pv 5) pa_nil)) pe_bl (nomark _))) pa_nil)))))))), ?_⟩
    obtain ⟨a1, p, p', rfl, ha1, hS, hT⟩ := id hM
    obtain ⟨rsS, hpS, hrS, hrrS⟩ := id hS
    have hln : (((rsS.map V.ref).length : Nat) : Int) = (n : Int) := by rw [List.length_map, hrS, sS.len]
    have shp : Shp (mkD (.tab S M)) 3 400 := mk_shp (m := D1.Mk.tab S M) ⟨n, n2, n6, sS, sM⟩
    have hgood : ∀ {i : Nat} {σ : L2.St} {G : Hp} {ta : TE} {x : V}, σ[i]? = some (some v) → Ex H G → Ev ta σ G x → PlainK K G x → Ev (tMeth CR "good" (spRGood K CR CT) [] E0 (tVar i) (tCons ta tNil)) σ G (.bl (wtB n x)) := fun hi e hx px => ev_methR hi (hR.ex e) (by decide) (ea_cons hx ea_nil) fun G1 g1 Q' q' E' => ⟨v, _, n, S, M, _, rfl, hR.ex (e.trans g1), px.ex g1, fun H' e' => q' H' e'⟩
    refine ⟨_, rfl, a1, _, _, _, rfl, rfl, .inl (.inl ha1), rfl, p, _, rfl, .inr (.inl (.inl hpS)), ?_⟩
    rw [hln]
    refine q_when (b := false) (et_is (et_test (ev_neU (ds := [.str (toString (0 : Int)), .str (toString (1 : Int)), .bool false, .bool true]) (es := [.str "0", .str "1", .bool false, .bool true]) (eu_tup (ea_cons (ev_repI (ev_methR rfl hR (by decide) ea_nil fun G1 g1 Q' q' E' => ⟨v, _, n, S, M, rfl, hR.ex g1, q' G1 (Ex.refl G1)⟩) (by decide)) (ea_cons (ev_repI (ev_methR rfl hR (by decide) ea_nil fun G1 g1 Q' q' E' => ⟨v, _, n, S, M, rfl, hR.ex g1, q' G1 (Ex.refl G1)⟩) (by decide)) (ea_cons (ev_methR rfl hR (by decide) ea_nil fun G1 g1 Q' q' E' => ⟨v, _, n, S, M, rfl, hR.ex g1, q' G1 (Ex.refl G1)⟩) (ea_cons (ev_methR rfl hR (by decide) ea_nil fun G1 g1 Q' q' E' => ⟨v, _, n, S, M, rfl, hR.ex g1, q' G1 (Ex.refl G1)⟩) ea_nil)))) (by show 4 ≤ 100000; decide)) (eu_tup (ea_cons ev_c (ea_cons ev_c (ea_cons ev_c (ea_cons ev_c ea_nil)))) (by show 4 ≤ 100000; decide)) (fun _ => .cons (.str _) (.cons (.str _) (.cons (.bl _) (.cons (.bl _) .nil)))) (fun _ => .cons (.str _) (.cons (.str _) (.cons (.bl _) (.cons (.bl _) .nil)))) (by decide +kernel) (by decide +kernel))) (by decide +kernel)) (fun hb => (by cases hb)) (fun _ H1 e1 => ?_)
    refine q_when (b := false) (et_is (et_or (a := false) (b := false) (et_test ?made) (fun _ => et_is (et_or (a := false) (b := false) (et_test ?ne) (fun _ => et_test ?eq)) rfl)) rfl) (fun hb => (by cases hb)) (fun _ H2 e2 => ?_)
    case made =>
      refine ev_neRep (d := mkD (.tab S M)) (fun G1 g1 Q' q' => ?_) (evd_var rfl fun G1 g1 => mk_dp (hM.ex (e1.trans g1))) shp (by decide) (by decide)
      obtain ⟨r, dr, k, dk, pp, qq, fr, fk, rfl, h2, h3, h4, h5, h6, h7, h8⟩ := hR.ex (e1.trans g1)
      exact ⟨_, rfl, r, dr, fr, rfl, h2, h5 _ (by decide), r, CR, dr, fr, _, rfl, h2, okR, h3, q' a1 G1 (Ex.refl G1) (mk_dp (hM.ex (e1.trans g1)))⟩
    case ne =>
      intro G1 g1 Q' q'
      have eg := e1.trans g1
      refine ⟨_, rfl, _, rfl, .ref a1, .one (tab3 (tabT S) (tabT M)), rfl, tab_td (hM.ex eg), by show 0 < 4; decide, fine_tab3 _ _, fun h => ?_, fun _ => ⟨n, S, M, hM.ex eg, n2, n6, sS, sM, hFb, fun r' G2 g2 hR' => ?_⟩⟩
      · have h0 : oneB (tab3 (tabT S) (tabT M)) = false := h
        rw [one_sq n2 n6 sS sM] at h0
        cases h0
      · obtain ⟨r, dr, fr, hv, h2, h5⟩ := id (hR.ex (eg.trans g2)).kind9
        exact ⟨r, dr, fr, .ref CR, hv, h2, ring_ty okR T hR' G2 (Ex.refl G2), T.nr, v, .ref a1, r', n, S, M, rfl, hR.ex (eg.trans g2), hM.ex (eg.trans g2), n2, n6, sS, sM, .inl ⟨.ref a1, hR', hM.ex (eg.trans g2), fun G3 g3 => ⟨true, rfl, q' G3 (g2.trans g3)⟩⟩⟩
    case eq =>
      intro G1 g1 Q' q'
      have eg := e1.trans g1
      obtain ⟨r, dr, fr, hv, h2, h5⟩ := id (hR.ex eg).kind9
      exact ⟨_, rfl, _, rfl, r, dr, fr, .type "tuple", hv, h2, .base (.tup (eg _ _ ha1)), T.nt, v, .ref a1, .ref a1, n, S, M, rfl, hR.ex eg, hM.ex eg, n2, n6, sS, sM, .inr ⟨a1, _, rfl, eg _ _ ha1, fun G3 g3 => q' G3 g3⟩⟩
    have e12 := e1.trans e2
    have ha12 := e12 _ _ ha1
    refine ⟨_, rfl, (n : Int), rfl, by omega, by omega, for_it (walk_range (lo := 0) (n := ((n : Nat) : Int).toNat)) (fun i σ' G => ∃ x3 x4, σ' = [some v, some (.ref a1), some (.int n), x3, x4, none] ∧ Ex H2 G) ⟨none, none, rfl, Ex.refl H2⟩ (fun _ _ _ _ _ => True.intro) ?_ ?_⟩
    · rintro i x σ' _ G hi ⟨x3, x4, rfl, eG⟩ ⟨rfl, rfl⟩
      have i0 : (0 : Int) ≤ 0 + (i : Int) := by omega
      have i1 : 0 + (i : Int) < (n : Int) := by omega
      refine q_when (b := false) (et_is (et_test (ev_op (hgood rfl (e12.trans eG) (ev_var rfl) (pk_int _)) ev_c rv_notB)) (by rw [wtB_int i0 i1]; rfl)) (fun hb => (by cases hb)) (fun _ G1 g1 => ?_)
      refine ⟨_, rfl, (n : Int), rfl, by omega, by omega, for_it (walk_range (lo := 0) (n := ((n : Nat) : Int).toNat)) (fun j σ' G' => ∃ x4, σ' = [some v, some (.ref a1), some (.int n), some (.int (0 + (i : Int))), x4, none] ∧ Ex G1 G') ⟨x4, rfl, Ex.refl G1⟩ (fun _ _ _ _ _ => True.intro) ?_ ?_⟩
      · rintro j x σ' _ G' hj ⟨x4, rfl, eG'⟩ ⟨rfl, rfl⟩
        have j0 : (0 : Int) ≤ 0 + (j : Int) := by omega
        have j1 : 0 + (j : Int) < (n : Int) := by omega
        have eg := ((e12.trans eG).trans g1).trans eG'
        have hs := sS.cell i0 i1 j0 j1
        have hm := sM.cell i0 i1 j0 j1
        refine s_when (b := false) (et_is (et_or (a := false) (b := false) (et_test (ev_neS (x := toString (cell S (0 + (i : Int)) (0 + (j : Int)))) (ev_repI (ev_methR rfl (hR.ex eg) (by decide) (ea_cons (ev_var rfl) (ea_cons (ev_var rfl) ea_nil)) fun G2 g2 Q' q' E' => ⟨v, _, n, S, M, _, _, rfl, hR.ex (eg.trans g2), ⟨i0, i1⟩, ⟨j0, j1⟩, fun H' e' => q' H' e'⟩) (dig_small hs.1 (by have := hs.2; omega))) (ev_repI (ev_cell (ev_op (ev_var rfl) ev_c (rv_ixT (.inl (.inl (eg _ _ ha1))) (v := .ref p) rfl)) (ev_var rfl) (ev_var rfl) (hS.ex eg) sS i0 i1 j0 j1) (dig_small hs.1 (by have := hs.2; omega))))) (fun _ => et_test (ev_neS (x := toString (cell M (0 + (i : Int)) (0 + (j : Int)))) (ev_repI (ev_methR rfl (hR.ex eg) (by decide) (ea_cons (ev_var rfl) (ea_cons (ev_var rfl) ea_nil)) fun G2 g2 Q' q' E' => ⟨v, _, n, S, M, _, _, rfl, hR.ex (eg.trans g2), ⟨i0, i1⟩, ⟨j0, j1⟩, fun H' e' => q' H' e'⟩) (dig_small hm.1 (by have := hm.2; omega))) (ev_repI (ev_cell (ev_op (ev_var rfl) ev_c (rv_ixT (.inl (.inl (eg _ _ ha1))) (v := .ref p') rfl)) (ev_var rfl) (ev_var rfl) (hT.ex eg) sM i0 i1 j0 j1) (dig_small hm.1 (by have := hm.2; omega)))))) rfl) (fun hb => (by cases hb)) (fun _ G2 g2 => ⟨_, rfl, eG'.trans g2⟩)
      · rintro σ' G' ⟨x4, rfl, eG'⟩
        exact ⟨_, _, rfl, (eG.trans g1).trans eG'⟩
    · rintro σ' G ⟨x3, x4, rfl, eG⟩
      have eg := e12.trans eG
      refine ⟨1, rfl, _, rfl, by show 1 ≤ sizeLine; decide, fun t0 ht0 => ⟨by show 1 ≤ sizeLine; decide, fun l0 hl0 => ⟨_, rfl, _, rfl, by show 10 ≤ sizeLine; decide, fun W hW => ?_⟩⟩⟩
      have x1 := Ex.new (o := .tup [.int 0]) ht0
      have f1 : upd G t0 (.tup [.int 0]) t0 = some (.tup [.int 0]) := upd_same
      generalize upd G t0 (.tup [.int 0]) = A1 at x1 f1 hl0 hW ⊢
      have x2 := Ex.new (o := .lst [.int 0]) hl0
      have f2 : upd A1 l0 (.lst [.int 0]) l0 = some (.lst [.int 0]) := upd_same
      generalize upd A1 l0 (.lst [.int 0]) = A2 at x2 f2 hW ⊢
      have x3' := Ex.new (o := .tup [V.int (-1), .int n, .bl true, .bl false, .non, .str "0", .ref t0, .ref l0, .ref a1, v]) hW
      have f3 : upd A2 W (.tup [V.int (-1), .int n, .bl true, .bl false, .non, .str "0", .ref t0, .ref l0, .ref a1, v]) W = some (.tup [V.int (-1), .int n, .bl true, .bl false, .non, .str "0", .ref t0, .ref l0, .ref a1, v]) := upd_same
      generalize upd A2 W (.tup [V.int (-1), .int n, .bl true, .bl false, .non, .str "0", .ref t0, .ref l0, .ref a1, v]) = A3 at x3' f3 ⊢
      have ez := eg.trans ((x1.trans x2).trans x3')
      have hall : ∀ (i : Nat) (x : V) H1, Ex A3 H1 → [V.int (-1), .int n, .bl true, .bl false, .non, .str "0", .ref t0, .ref l0, .ref a1, v][i]? = some x → PlainK K H1 x ∧ wtB n x = false := by
        intro i x H1 h1 hx
        match i, hx with
        | 0, hx => exact Option.some.inj hx ▸ ⟨pk_int _, rfl⟩
        | 1, hx => exact Option.some.inj hx ▸ ⟨pk_int _, wtB_top n⟩
        | 2, hx => exact Option.some.inj hx ▸ ⟨pk_bl _, rfl⟩
        | 3, hx => exact Option.some.inj hx ▸ ⟨pk_bl _, rfl⟩
        | 4, hx => exact Option.some.inj hx ▸ ⟨pk_non, rfl⟩
        | 5, hx => exact Option.some.inj hx ▸ ⟨pk_str _, rfl⟩
        | 6, hx => exact Option.some.inj hx ▸ ⟨pk_tup (h1 _ _ (x3' _ _ (x2 _ _ f1))), rfl⟩
        | 7, hx => exact Option.some.inj hx ▸ ⟨pk_lst (h1 _ _ (x3' _ _ f2)), rfl⟩
        | 8, hx => exact Option.some.inj hx ▸ ⟨pk_tup (h1 _ _ (ez _ _ ha1)), rfl⟩
        | 9, hx =>
          obtain rfl : v = x := Option.some.inj hx
          refine ⟨pk_ring okR T (hR.ex (ez.trans h1)), ?_⟩
          obtain ⟨r, dr, fr, rfl, h2, h5⟩ := id hR.kind9
          rfl
        | k + 10, hx => simp at hx
      refine (ev_allT (K := K) (tl := tC (.ref W)) (te := tOp rIsB (tMeth CR "good" (spRGood K CR CT) [] E0 (tVar 0) (tCons (tVar 5) tNil)) (tC (.bl false))) (j := 5) (vs := [5]) (σ := [some v, some (.ref a1), some (.int n), x3, x4, none]) (fun _ => true) ev_c (.inl (.inl f3)) (by show 10 ≤ 40000; decide) (fun x => rfl) fun i x H1 h1 hx => ?_) A3 (Ex.refl A3) _ fun H3 h3 => q H3 (ez.trans h3)
      obtain ⟨px, hx0⟩ := hall i x H1 h1 hx
      exact ev_is (ev_op (hgood rfl (ez.trans h1) (ev_var rfl) px) ev_c rv_isB) (by rw [hx0]; rfl)
end
end D1
end
section
set_option Elab.async false
set_option linter.all false
set_option maxRecDepth 100000
set_option maxHeartbeats 4000000
/-! F11: the law -/
namespace D1
open PySem L2 Evl RZ ClX PySem.VX
section
variable {m L C : Addr} {i j : Int} {H H1 : Hp}
theorem keepI (hM : MS m L C i H) (r : (frM m L C j).R H H1) {p Cc d : Addr} {fs : List (Str × V)} (h : H p = some (.ins Cc d fs)) : H1 p = some (.ins Cc d fs) := by
  obtain ⟨n, ls, cs, k, h1, h2, h3, q⟩ := hM
  refine r.keep p _ (fun z => ?_) h
  rcases z with z | z
  · rw [z, h1] at h
    cases h
  · rw [z, h2] at h
    cases h
theorem RingT.fr {CR CT : Addr} {v made : V} {n : Nat} {S M : Tb} (hM : MS m L C i H) (r : (frM m L C j).R H H1) (h : RingT CR CT H v made n S M) : RingT CR CT H1 v made n S M := by
  obtain ⟨a, dr, k, dk, p, q, fr, fk, h1, h2, h3, h4, h5, h6, h7, h8⟩ := h
  refine ⟨a, dr, k, dk, p, q, fr, fk, h1, keepI hM r h2, h3, h4, h5, keepI hM r h6, ⟨h7.text, h7.zero, h7.one, ?_, h7.size, h7.sums, h7.prods, h7.no⟩, ⟨h8.two, h8.s.fr hM r, h8.p.fr hM r, h8.sq, h8.pq⟩⟩
  obtain ⟨e, e1, e2⟩ := h7.oth
  exact ⟨e, e1, keepT hM r e2⟩
end
def dW : PyData := .tuple [.str "weight", .tuple [.bool true, .bool true, .bool false, .bool false], .bool false]
def dR : PyData := .tuple [.str "ring", .str "form", .tuple [.bool true, .bool true, .bool false, .bool false], .bool false]
theorem dW_s : SeqAt.shaped dW = true := by decide +kernel
theorem dR_s : SeqAt.shaped dR = true := by decide +kernel
theorem dW_e : PyData.eqv dW dW = true := by decide +kernel
theorem dR_e : PyData.eqv dR dR = true := by decide +kernel
section
variable {K : PySem.W.Frag} {H : Hp}
theorem dp_fam {R : Addr} (h : H R = some (.tup famL)) : Dp K H (.ref R) (.tuple [.bool true, .bool true, .bool false, .bool false]) := .tup (.inl (.inl h)) (.cons (.bl _) (.cons (.bl _) (.cons (.bl _) (.cons (.bl _) .nil))))
theorem dp_W {R R2 : Addr} (h : H R = some (.tup [.str "weight", .ref R2, .bl false])) (h2 : H R2 = some (.tup famL)) : Dp K H (.ref R) dW := .tup (.inl (.inl h)) (.cons (.str _) (.cons (dp_fam h2) (.cons (.bl _) .nil)))
theorem dp_R {R R2 : Addr} (h : H R = some (.tup [.str "ring", .str "form", .ref R2, .bl false])) (h2 : H R2 = some (.tup famL)) : Dp K H (.ref R) dR := .tup (.inl (.inl h)) (.cons (.str _) (.cons (.str _) (.cons (dp_fam h2) (.cons (.bl _) .nil))))
theorem made_bad {CR CT R R2 : Addr} {σ : L2.St} {u : V} {fo : Fo} {i : Nat} {Q : VK} {E : XK} (hi : σ[i]? = some (some (.ref R))) (hR : H R = some (.tup [.str "ring", .str "form", .ref R2, .bl false])) (hR2 : H R2 = some (.tup famL)) (hF : FoAt H u fo) (hd : fo.depth < 4) (hfi : fo.fine) (hb : formF fo 3 = false) (q : ∀ H', Ex H H' → Q (.bl false) H') :
    spMade9 CR CT [u] H (fun x H1 => tVar i σ H1 fun y H2 => rNeD K x y H2 Q) E := ⟨u, fo, rfl, hF, hd, hfi, fun _ D D2 H' e h1 h2 => ⟨_, hi, dR, dR, dp_R h1 h2, dp_R (e _ _ hR) (e _ _ hR2), dR_s, dR_s, by rw [dR_e]; exact q H' e⟩, fun h => by rw [hb] at h; cases h⟩
theorem pick_bad9 {n : Nat} {t0 l0 : Addr} {kind : Int} (h0 : H t0 = some (.tup [.int 0])) (h1 : H l0 = some (.lst [.int 1])) (k0 : 0 ≤ kind) (k1 : kind < 8) : ∃ v, atI [V.int (-1), .int (n : Int), .bl true, .bl false, .non, .str "1", .ref t0, .ref l0] kind = some v ∧ PlainK K H v ∧ wtB n v = false := by
  rcases (by omega : kind = 0 ∨ kind = 1 ∨ kind = 2 ∨ kind = 3 ∨ kind = 4 ∨ kind = 5 ∨ kind = 6 ∨ kind = 7) with rfl | rfl | rfl | rfl | rfl | rfl | rfl | rfl
  · exact ⟨_, rfl, pk_int _, rfl⟩
  · exact ⟨_, rfl, pk_int _, wtB_top n⟩
  · exact ⟨_, rfl, pk_bl _, rfl⟩
  · exact ⟨_, rfl, pk_bl _, rfl⟩
  · exact ⟨_, rfl, pk_non, rfl⟩
  · exact ⟨_, rfl, pk_str _, rfl⟩
  · exact ⟨_, rfl, pk_tup h0, rfl⟩
  · exact ⟨_, rfl, pk_lst h1, rfl⟩
end
section
variable {P : Program} {w : World} {K : PySem.W.Frag} {mg : Str → Option Value} {base : Heap}
def spLaw (K : PySem.W.Frag) : Sp := fun vs H Q _ => ∃ (a : Addr) (ns : List Int), vs = [.ref a] ∧ SqL K H a (ns.map V.int) ∧ ns.length ≤ 63 ∧ ∀ H', Q (.bl true) H'
abbrev s_law : Stmt := top 88
theorem sc_law : FnScope ["_law_script", "_law_m", "_law_refused", "_law_turn", "_law_way", "_law_asking", "_law_kind", "_law_beside", "_law_made_here", "_law_found", "_law_bad", "_law_good", "_law_spoilt_here"] ["_law_script"] (defScope s_law) := ⟨rfl, rfl, rfl, by decide +kernel, rfl, by decide +kernel, by decide +kernel⟩
theorem ok_law {f : Addr} {fd : FuncData} (F : FnP K "law" s_law f fd) {CR CT fEq : Addr} (okR : OkC K CR) (T : RingF K CR fEq) {f_begun : Addr} {fd_begun : FuncData} (F_begun : FnP K "_law_begun" s_begun f_begun fd_begun) (g_begun : mg "_law_begun" = some (.ref f_begun)) (G_begun : FnOk P w K mg base (CX0) 2 f_begun fd_begun ["_law_script"] (spBegun K)) {f_draw : Addr} {fd_draw : FuncData} (F_draw : FnP K "_law_draw" s_draw f_draw fd_draw) (g_draw : mg "_law_draw" = some (.ref f_draw)) (G_draw : FnOk P w K mg base (CX0) 2 f_draw fd_draw ["_law_m", "_law_many"] (spDraw)) {f_table : Addr} {fd_table : FuncData} (F_table : FnP K "_law_table" s_table f_table fd_table) (g_table : mg "_law_table" = some (.ref f_table)) (G_table : FnOk P w K mg base (CX0) 3 f_table fd_table ["_law_m"] (spTable)) {f_made : Addr} {fd_made : FuncData} (F_made : FnP K "_law_made" s_made f_made fd_made) (g_made : mg "_law_made" = some (.ref f_made)) (G_made : FnOk P w K mg base (CX0) 15 f_made fd_made ["_law_thing"] (spMade9 CR CT)) {f_hold : Addr} {fd_hold : FuncData} (F_hold : FnP K "_law_tables_hold" s_hold f_hold fd_hold) (g_hold : mg "_law_tables_hold" = some (.ref f_hold)) (G_hold : FnG P w K mg base (CX0) 15 f_hold fd_hold ["_law_base_here", "_law_made_here"] (spReck CR CT)) {f_weighed : Addr} {fd_weighed : FuncData} (F_weighed : FnP K "_law_weighed" s_weighed f_weighed fd_weighed) (g_weighed : mg "_law_weighed" = some (.ref f_weighed)) (G_weighed : FnOk P w K mg base (CX0) 8 f_weighed fd_weighed ["_law_base_here", "_law_way", "_law_good", "_law_bad"] (spWeighed K CR CT)) {f_spoilt : Addr} {fd_spoilt : FuncData} (F_spoilt : FnP K "_law_spoilt" s_spoilt f_spoilt fd_spoilt) (g_spoilt : mg "_law_spoilt" = some (.ref f_spoilt)) (G_spoilt : FnOk P w K mg base (CX0) 3 f_spoilt fd_spoilt ["_law_m", "_law_made_here", "_law_way"] (spSpoilt)) (z_len : mg "len" = none) (z_range : mg "range" = none) (z_isinstance : mg "isinstance" = none) (z_tuple : mg "tuple" = none) : FnG P w K mg base CX0 16 f fd ["_law_script"] (spLaw K) := by
  have b_begun : Binds K fd_begun ["_law_script"] [] := F_begun.bindsN fun _ _ _ _ _ _ us hl => match us, hl with | [_], _ => rfl
  have b_draw : Binds K fd_draw ["_law_m", "_law_many"] [] := F_draw.bindsN fun _ _ _ _ _ _ us hl => match us, hl with | [_, _], _ => rfl
  have b_table : Binds K fd_table ["_law_m"] [] := F_table.bindsN fun _ _ _ _ _ _ us hl => match us, hl with | [_], _ => rfl
  have b_made : Binds K fd_made ["_law_thing"] [] := F_made.bindsN fun _ _ _ _ _ _ us hl => match us, hl with | [_], _ => rfl
  have b_hold : Binds K fd_hold ["_law_base_here", "_law_made_here"] [] := F_hold.bindsN fun _ _ _ _ _ _ us hl => match us, hl with | [_, _], _ => rfl
  have b_weighed : Binds K fd_weighed ["_law_base_here", "_law_way", "_law_good", "_law_bad"] [] := F_weighed.bindsN fun _ _ _ _ _ _ us hl => match us, hl with | [_, _, _, _], _ => rfl
  have b_spoilt : Binds K fd_spoilt ["_law_m", "_law_made_here", "_law_way"] [] := F_spoilt.bindsN fun _ _ _ _ _ _ us hl => match us, hl with | [_, _, _], _ => rfl
  refine Fun.okG F.asFun sc_law (fun vs H Q E h => ?_) (fun cdv A outer s H vs Q E hr hG h => ?_)
  · obtain ⟨a, ns, rfl, _⟩ := h
    rfl
  · obtain ⟨a, ns, rfl, hS, hl, q⟩ := h
    have hu := hu_of hr
    have hu64 := hr.units
    have hr_begun := hr.mono (by decide : 2 ≤ 15)
    have hr_draw := hr.mono (by decide : 2 ≤ 15)
    have hr_table := hr.mono (by decide : 3 ≤ 15)
    have hr_made := hr.mono (by decide : 15 ≤ 15)
    have hr_hold := hr.mono (by decide : 15 ≤ 15)
    have hr_weighed := hr.mono (by decide : 8 ≤ 15)
    have hr_spoilt := hr.mono (by decide : 3 ≤ 15)
    refine ⟨_, PSs.nox (pss_cons (ps_set (i := 1) sc_law.nd rfl (Or.inl rfl) (pe_call G_begun hr_begun rfl g_begun F_begun.kp b_begun .nil pass0 (pa_cons (pv 0) pa_nil)))
      (pss_cons (ps_set (i := 2) sc_law.nd rfl (Or.inl rfl) (pe_tup (pa_cons pe_str (pa_cons pe_str (pa_cons (pe_tup (pa_cons pe_bl (pa_cons pe_bl (pa_cons pe_bl (pa_cons pe_bl pa_nil))))) (pa_cons pe_bl pa_nil))))))
      (pss_cons (ps_for PassesOwn.never rfl (pi_range1 rfl z_range (pa_cons pe_int pa_nil)) (pg_name (i := 3) sc_law.nd rfl (Or.inl rfl)) (pss_cons (ps_asg (pe_tup (pa_cons (pe_call G_draw hr_draw rfl g_draw F_draw.kp b_draw .nil pass0 (pa_cons (pv 1) (pa_cons pe_int pa_nil))) (pa_cons (pe_call G_draw hr_draw rfl g_draw F_draw.kp b_draw .nil pass0 (pa_cons (pv 1) (pa_cons pe_int pa_nil))) (pa_cons (pe_call G_draw hr_draw rfl g_draw F_draw.kp b_draw .nil pass0 (pa_cons (pv 1) (pa_cons pe_int pa_nil))) (pa_cons (pe_call G_draw hr_draw rfl g_draw F_draw.kp b_draw .nil pass0 (pa_cons (pv 1) (pa_cons pe_int pa_nil))) pa_nil))))) (pg_tup rfl (pgs_cons (pg_name (i := 4) sc_law.nd rfl (Or.inl rfl)) (pgs_cons (pg_name (i := 5) sc_law.nd rfl (Or.inl rfl)) (pgs_cons (pg_name (i := 6) sc_law.nd rfl (Or.inl rfl)) (pgs_cons (pg_name (i := 7) sc_law.nd rfl (Or.inl rfl)) pgs_nil))))))
      (pss_cons (ps_set (i := 8) sc_law.nd rfl (Or.inl rfl) (pe_call G_table hr_table rfl g_table F_table.kp b_table .nil pass0 (pa_cons (pv 1) pa_nil)))
      (pss_cons (ps_set (i := 9) sc_law.nd rfl (Or.inl rfl) (pe_call G_made hr_made rfl g_made F_made.kp b_made .nil pass0 (pa_cons (pv 8) pa_nil)))
      (pss_cons (ps_if (PW.pt (pw_or (pt_val (pe_callB call_isi (by rfl) z_isinstance PyProof.Rows.boot_isinstance (pa_cons (pv 9) (pa_cons (pe_bltn (v := .ty "tuple") rfl z_tuple (by decide +kernel) rfl) pa_nil)))) (pw_or1 (pt_not (pt_val (pe_callG G_hold hr_hold hG rfl g_hold F_hold.kp b_hold .nil pass0 (pa_cons (pv 9) (pa_cons (pv 8) pa_nil)))))))) (pss_one (ps_ret pe_bl)) pss_nil)
      (pss_cons (ps_set (i := 10) sc_law.nd rfl (Or.inl rfl) (pe_ix ix_list (pe_lst (pa_cons (pe_un un_neg pe_int) (pa_cons (pe_callB call_len_seq (by rfl) z_len PySem.boot_len (pa_cons (pe_ix ix_tup (pv 8) pe_int (fun _ _ => rfl)) pa_nil)) (pa_cons pe_bl (pa_cons pe_bl (pa_cons pe_non (pa_cons pe_str (pa_cons (pe_tup (pa_cons pe_int pa_nil)) (pa_cons (pe_lst (pa_cons pe_int pa_nil)) pa_nil))))))))) (pv 6) (fun _ _ => rfl)))
      (pss_cons (ps_set (i := 11) sc_law.nd rfl (Or.inl rfl) (pe_call G_draw hr_draw rfl g_draw F_draw.kp b_draw .nil pass0 (pa_cons (pv 1) (pa_cons (pe_callB call_len_seq (by rfl) z_len PySem.boot_len (pa_cons (pe_ix ix_tup (pv 8) pe_int (fun _ _ => rfl)) pa_nil)) pa_nil))))
      (pss_cons (ps_if (pt_cmpR (op_neD hu64) (pe_call G_weighed hr_weighed rfl g_weighed F_weighed.kp b_weighed .nil pass0 (pa_cons (pv 9) (pa_cons (pv 5) (pa_cons (pv 11) (pa_cons (pv 10) pa_nil))))) (pe_tup (pa_cons pe_str (pa_cons (pe_tup (pa_cons pe_bl (pa_cons pe_bl (pa_cons pe_bl (pa_cons pe_bl pa_nil))))) (pa_cons pe_bl pa_nil)))) (nomark _)) (pss_one (ps_ret pe_bl)) pss_nil)
      (pss_cons (ps_set (i := 12) sc_law.nd rfl (Or.inl rfl) (pe_call G_spoilt hr_spoilt rfl g_spoilt F_spoilt.kp b_spoilt .nil pass0 (pa_cons (pv 1) (pa_cons (pv 8) (pa_cons (pv 4) pa_nil)))))
      (pss_cons (ps_if (pt_cmpR (op_neD hu64) (pe_call G_made hr_made rfl g_made F_made.kp b_made .nil pass0 (pa_cons (pv 12) pa_nil)) (pv 2) (nomark _)) (pss_one (ps_ret pe_bl)) pss_nil)
      (pss_one (ps_if (pt_cmpR (op_neD hu64) (pe_call G_made hr_made rfl g_made F_made.kp b_made .nil pass0 (pa_cons (pe_ifExp (pt_cmpR op_eq (pv 7) pe_int (nomark _)) (pe_tup (pa_cons pe_str (pa_cons (pv 8) (pa_cons (pv 12) pa_nil)))) (pe_tup (pa_cons pe_str (pa_cons (pv 12) (pa_cons (pv 8) pa_nil))))) pa_nil)) (pv 2) (nomark _)) (pss_one (ps_ret pe_bl)) pss_nil))))))))))))
      (pss_one (ps_ret pe_bl))))), ?_⟩
    refine ⟨_, rfl, a, ns, rfl, hS, hl, fun m L C H1 e1 hm hL hC M1 => ?_⟩
    refine ⟨by show 4 ≤ sizeLine; decide, fun R2 hR2 => ⟨by show 4 ≤ sizeLine; decide, fun R hR => ?_⟩⟩
    have x1 := Ex.new (o := .tup famL) hR2
    have f1 : upd H1 R2 (.tup famL) R2 = some (.tup famL) := upd_same
    have hR' : upd H1 R2 (.tup famL) R = none := hR
    show _
    have x2 := Ex.new (o := .tup [.str "ring", .str "form", .ref R2, .bl false]) hR'
    have f2 : upd (upd H1 R2 (.tup famL)) R (.tup [.str "ring", .str "form", .ref R2, .bl false]) R = some (.tup [.str "ring", .str "form", .ref R2, .bl false]) := upd_same
    have f1' := x2 _ _ f1
    have M2 : MS m L C 0 (upd (upd H1 R2 (.tup famL)) R (.tup [.str "ring", .str "form", .ref R2, .bl false])) := (frM m L C 0).mono _ _ (x1.trans x2) M1
    change tSeq _ _ _ _ (upd (upd H1 R2 (.tup famL)) R (.tup [.str "ring", .str "form", .ref R2, .bl false]))
    generalize upd (upd H1 R2 (.tup famL)) R (.tup [.str "ring", .str "form", .ref R2, .bl false]) = H2 at M2 f2 f1' ⊢
    refine ⟨3, rfl, by decide, by decide, for_it (walk_range (lo := 0) (n := (3 : Int).toNat)) (fun i σ' G => ∃ x3 x4 x5 x6 x7 x8 x9 x10 x11 x12, σ' = [some (.ref a), some (.ref m), some (.ref R), x3, x4, x5, x6, x7, x8, x9, x10, x11, x12] ∧ (frM m L C (200 * (i : Int))).R H2 G) ⟨_, _, _, _, _, _, _, _, _, _, rfl, (by rw [show (200 * ((0 : Nat) : Int)) = 0 from rfl]; exact Fr.R.refl M2)⟩ (fun _ _ _ _ _ => True.intro) ?_ ?_⟩
    · rintro i x σ' _ G hi ⟨x3, x4, x5, x6, x7, x8, x9, x10, x11, x12, rfl, rG⟩ ⟨rfl, rfl⟩
      have hi3 : i < 3 := hi
      refine ⟨_, rfl, m, L, C, 32, _, rfl, rG.inv, by omega, by decide, by decide, fun way G1 way0 way1 r1 => ?_⟩
      refine ⟨_, rfl, m, L, C, 10, _, rfl, r1.inv, by omega, by decide, by decide, fun asking G2 as0 as1 r2 => ?_⟩
      refine ⟨_, rfl, m, L, C, 8, _, rfl, r2.inv, by omega, by decide, by decide, fun kind G3 kind0 kind1 r3 => ?_⟩
      refine ⟨_, rfl, m, L, C, 2, _, rfl, r3.inv, by omega, by decide, by decide, fun beside G4 be0 be1 r4 => ?_⟩
      refine ⟨by show 4 ≤ sizeLine; decide, fun T0 hT0 => ⟨T0, _, rfl, .inl (.inl upd_same), rfl, _, _, rfl, _, _, rfl, _, _, rfl, _, _, rfl, rfl, ?_⟩⟩
      have rA := rex (and_then (and_then (and_then r1 r2) r3) r4) (Ex.new (o := .tup [.int way, .int asking, .int kind, .int beside]) hT0)
      generalize upd G4 T0 (.tup [.int way, .int asking, .int kind, .int beside]) = G5 at rA ⊢
      refine ⟨_, rfl, m, L, C, _, rfl, rA.inv, by omega, fun v n S M G6 r6 n2 n6 sS sM hGo hM => ?_⟩
      have rB := and_then rA r6
      have hfb := hGo.fb n2
      obtain ⟨a1, p, p', rfl, ha1, hSa, hTa⟩ := id hM
      obtain ⟨rs, hp, hrl, hrr⟩ := id hSa
      have hln : (((rs.map V.ref).length : Nat) : Int) = (n : Int) := by rw [List.length_map, hrl, sS.len]
      refine ⟨_, rfl, .ref a1, .one (tab3 (tabT S) (tabT M)), rfl, tab_td hM, by show 0 < 4; decide, fine_tab3 _ _, fun h => ?_, fun _ => ⟨n, S, M, hM, n2, n6, sS, sM, hfb, fun r G7 e7 hRT => ?_⟩⟩
      · have h0 : oneB (tab3 (tabT S) (tabT M)) = false := h
        rw [one_sq n2 n6 sS sM] at h0
        cases h0
      refine q_when (b := false) (et_is (et_or (a := false) (b := false) (et_B (ev_isi0 (ev_var rfl) (ring_ty okR T hRT) T.kt (.ty "tuple"))) (fun _ => et_is (et_not (et_B (ev_call (z := .bl true) (ea_cons (ev_var rfl) (ea_cons (ev_var rfl) ea_nil)) fun g1 k1 Q' k' E' => ⟨r, .ref a1, n, S, M, rfl, hRT.ex k1, hM.ex (e7.trans k1), n2, n6, sS, sM, hfb, fun H' e' => k' H' e'⟩))) rfl)) rfl) (fun hb => (by cases hb)) (fun _ G8 g8 => ?_)
      have e8 := e7.trans g8
      have hRT8 := hRT.ex g8
      have hM8 := hM.ex e8
      have ha8 := e8 _ _ ha1
      have hp8 := e8 _ _ hp
      have rC := rex rB e8
      refine asg_step ?_
      refine ⟨1, rfl, _, rfl, a1, _, _, _, rfl, rfl, .inl (.inl ha8), rfl, p, _, rfl, .inr (.inl (.inl hp8)), ?_⟩
      rw [hln]
      refine ⟨by show 1 ≤ sizeLine; decide, fun t0 ht0 => ⟨by show 1 ≤ sizeLine; decide, fun l0 hl0 => ⟨by show 8 ≤ sizeLine; decide, fun W hW => ?_⟩⟩⟩
      have y1 := Ex.new (o := .tup [.int 0]) ht0
      have z1 : upd G8 t0 (.tup [.int 0]) t0 = some (.tup [.int 0]) := upd_same
      generalize upd G8 t0 (.tup [.int 0]) = A1 at y1 z1 hl0 hW ⊢
      have y2 := Ex.new (o := .lst [.int 1]) hl0
      have z2 : upd A1 l0 (.lst [.int 1]) l0 = some (.lst [.int 1]) := upd_same
      generalize upd A1 l0 (.lst [.int 1]) = A2 at y2 z2 hW ⊢
      have y3 := Ex.new (o := .lst [V.int (-1), .int (n : Int), .bl true, .bl false, .non, .str "1", .ref t0, .ref l0]) hW
      have z3 : upd A2 W (.lst [V.int (-1), .int (n : Int), .bl true, .bl false, .non, .str "1", .ref t0, .ref l0]) W = some (.lst [V.int (-1), .int (n : Int), .bl true, .bl false, .non, .str "1", .ref t0, .ref l0]) := upd_same
      generalize upd A2 W (.lst [V.int (-1), .int (n : Int), .bl true, .bl false, .non, .str "1", .ref t0, .ref l0]) = A3 at y3 z3 ⊢
      have ey := (y1.trans y2).trans y3
      obtain ⟨bad, hat, hpb, hwb⟩ := pick_bad9 (K := K) (n := n) (y3 _ _ (y2 _ _ z1)) (y3 _ _ z2) kind0 kind1
      refine ⟨_, rfl, W, _, kind, bad, rfl, rfl, SqL.of z3, hat, ?_⟩
      have rD := rex rC ey
      have ha9 := ey _ _ ha8
      have hp9 := ey _ _ hp8
      refine asg_step ?_
      refine ⟨_, rfl, _, rfl, a1, _, _, _, rfl, rfl, .inl (.inl ha9), rfl, p, _, rfl, .inr (.inl (.inl hp9)), ?_⟩
      rw [hln]
      refine ⟨m, L, C, (n : Int), _, rfl, rD.inv, by omega, by omega, by omega, fun good B1 good0 good1 r9 => ?_⟩
      have rE := and_then rD r9
      have hRT9 := RingT.fr rD.inv r9 (hRT8.ex ey)
      have hM9 := mk_frA rD.inv r9 (hM8.ex ey)
      have hMA : MS m L C _ A1 := (rex rC y1).inv
      obtain ⟨am, aL, aC⟩ := hMA.alive
      have hl0B : B1 l0 = some (.lst [.int 1]) := keepN r9 (y3 _ _ z2) (fun z => am (z ▸ hl0)) (fun z => aL (z ▸ hl0))
      have hpb9 : PlainK K B1 bad := by
        obtain ⟨bad', hat', hpb', _⟩ := pick_bad9 (K := K) (n := n) (keepT rD.inv r9 (y3 _ _ (y2 _ _ z1))) hl0B kind0 kind1
        rw [hat] at hat'
        cases hat'
        exact hpb'
      refine q_when (b := false) (et_test ?w) (fun hb => (by cases hb)) (fun _ B2 b2 => ?_)
      case w =>
        intro K1 k1 Q' q'
        refine ⟨_, rfl, _, rfl, _, rfl, _, rfl, r, .ref a1, n, S, M, asking, good, bad, rfl, hRT9.ex k1, hpb9.ex k1, hwb, fun D D2 K2 k2 hD hD2 => ⟨by show 4 ≤ sizeLine; decide, fun t1 ht1 => ⟨by show 3 ≤ sizeLine; decide, fun t2 ht2 => ?_⟩⟩⟩
        have u1 := Ex.new (o := .tup famL) ht1
        have u2 := Ex.new (o := .tup [.str "weight", .ref t1, .bl false]) ht2
        refine ⟨dW, dW, dp_W ((u1.trans u2) _ _ hD) ((u1.trans u2) _ _ hD2), dp_W upd_same (u2 _ _ upd_same), dW_s, dW_s, ?_⟩
        rw [dW_e]
        exact q' _ ((k2.trans u1).trans u2)
      have rF := rex rE b2
      have hM10 := hM9.ex b2
      refine asg_step ?_
      refine ⟨_, rfl, _, rfl, _, rfl, m, L, C, _, way, .ref a1, n, S, M, rfl, rF.inv, by omega, hM10, n2, n6, sS, sM, way0, way1, fun u tt B3 r10 hu' hfi hbad => ?_⟩
      have rH := and_then rF r10
      have hM11 := mk_frA rF.inv r10 hM10
      have rZ := and_then rG rH
      have hRk := keepT M2 rZ f2
      have hRk2 := keepT M2 rZ f1'
      refine q_when (b := false) (et_test ?sp) (fun hb => (by cases hb)) (fun _ B4 b4 => ?_)
      case sp =>
        intro K1 k1 Q' q'
        exact ⟨_, rfl, made_bad (E := E0) (fo := .one tt) rfl (k1 _ _ hRk) (k1 _ _ hRk2) (TdAt.up hu' k1) (by show 0 < 4; decide) hfi hbad q'⟩
      refine s_when (b := false) (et_test ?last) (fun hb => (by cases hb)) (fun _ B5 b5 => ⟨_, _, _, _, _, _, _, _, _, _, rfl, up (rex rZ (b4.trans b5)) (by omega)⟩)
      case last =>
        intro K1 k1 Q' q'
        have c1 := b4.trans k1
        have fT : FoAt K1 (.ref a1) (.one (tab3 (tabT S) (tabT M))) := tab_td (hM11.ex c1)
        have fU : FoAt K1 u (.one tt) := TdAt.up hu' c1
        have hRk3 := c1 _ _ hRk
        have hRk4 := c1 _ _ hRk2
        refine ⟨_, rfl, rfl, _, rfl, ?_⟩
        by_cases h0 : beside = 0
        · refine yes_of (decide_eq_true (by rw [h0])) ⟨_, rfl, _, rfl, by show 3 ≤ sizeLine; decide, fun t1 ht1 => ?_⟩
          have u1 := Ex.new (o := .tup [.str "pair", .ref a1, u]) ht1
          exact made_bad (E := E0) (fo := .pair (.one (tab3 (tabT S) (tabT M))) (.one tt)) rfl (u1 _ _ hRk3) (u1 _ _ hRk4) ⟨t1, _, _, rfl, upd_same, fT.ex u1, fU.ex u1⟩ (by show 0 + 1 < 4; decide) ⟨fine_tab3 _ _, hfi⟩ (by show (oneB _ && oneB tt) = false; rw [hbad, Bool.and_false]) fun H' e' => q' H' (u1.trans e')
        · refine no_of (decide_eq_false (fun z => h0 (by injection z))) ⟨_, rfl, _, rfl, by show 3 ≤ sizeLine; decide, fun t1 ht1 => ?_⟩
          have u1 := Ex.new (o := .tup [.str "pair", u, .ref a1]) ht1
          exact made_bad (E := E0) (fo := .pair (.one tt) (.one (tab3 (tabT S) (tabT M)))) rfl (u1 _ _ hRk3) (u1 _ _ hRk4) ⟨t1, _, _, rfl, upd_same, fU.ex u1, fT.ex u1⟩ (by show 0 + 1 < 4; decide) ⟨hfi, fine_tab3 _ _⟩ (by show (oneB tt && oneB _) = false; rw [hbad, Bool.false_and]) fun H' e' => q' H' (u1.trans e')
    · rintro σ' G ⟨x3, x4, x5, x6, x7, x8, x9, x10, x11, x12, rfl, rG⟩
      exact q _
end
end D1
end
section
set_option Elab.async false
set_option linter.all false
set_option maxRecDepth 100000
set_option maxHeartbeats 4000000
/-! K09: what is asked of the written part, as one Bool -/
namespace D1
open PySem L2 PySem.VX Evl
theorem xbB_ok {K : PySem.W.Frag} {C : Addr} {bmB : List Value} {newId : String} {fn : List Str} (h : xbB K C bmB newId fn = true) : XB K bmB newId C fn := by
  unfold xbB at h
  obtain ⟨h1, h⟩ := Bool.and_eq_true_iff.mp h
  obtain ⟨h2, h⟩ := Bool.and_eq_true_iff.mp h
  obtain ⟨h3, h⟩ := Bool.and_eq_true_iff.mp h
  obtain ⟨h4, h⟩ := Bool.and_eq_true_iff.mp h
  obtain ⟨h5, h⟩ := Bool.and_eq_true_iff.mp h
  obtain ⟨h6, h⟩ := Bool.and_eq_true_iff.mp h
  obtain ⟨h7, h⟩ := Bool.and_eq_true_iff.mp h
  obtain ⟨h8, h⟩ := Bool.and_eq_true_iff.mp h
  obtain ⟨h9, h⟩ := Bool.and_eq_true_iff.mp h
  obtain ⟨h10, h⟩ := Bool.and_eq_true_iff.mp h
  obtain ⟨h11, h12⟩ := Bool.and_eq_true_iff.mp h
  exact ⟨h1, h2, h3, of_decide_eq_true h4, of_decide_eq_true h5, of_decide_eq_true h6, of_decide_eq_true h7, of_decide_eq_true h8, fun f hf => of_decide_eq_true (List.all_eq_true.mp h9 f hf), h10, of_decide_eq_true h11, of_decide_eq_true h12⟩
section
variable {prog : Program} {w : World} {K : PySem.W.Frag} {mg : Str → Option Value} {C fI : Addr} {bmB : List Value} {B newId initId : String} {qual nm : Str} {fd : FuncData}
theorem own_what (FB : ExcBaseFacts B newId initId bmB) (SF : StoreFacts B bmB "object.__setattr__" "object") (T : XB K bmB newId C [("what" : Str)]) (g : mg nm = some (.ref C)) (iC : PySem.W.findIn K (.ref C) "__init__" = some (some (.ref fI))) (tI : PySem.W.typeIn K (.ref fI) = some (.type "function"))
    (D : Ini1 K fI qual "what" fd) : OwnX prog w K mg nm C [("what" : Str)] := by
  have bp : ∀ (s : Shared) (x v : Value), BindsTo s fd ⟨[x, v], []⟩ [("self", x), ("what", v)] := fun s x v => by
    obtain ⟨oc, od, doc, pm, an, cdv, ct, osl, p1, p2, q1, q2, q3, q4, rfl, _⟩ := D.ex
    exact .of_eq (by first | rfl | with_unfolding_all rfl)
  have bk : ∀ (s : Shared) (x v : Value), BindsTo s fd ⟨[x], [("what", v)]⟩ [("self", x), ("what", v)] := fun s x v => by
    obtain ⟨oc, od, doc, pm, an, cdv, ct, osl, p1, p2, q1, q2, q3, q4, rfl, _⟩ := D.ex
    exact .of_eq (by first | rfl | with_unfolding_all rfl)
  refine ⟨g, ⟨bmB, B, newId, initId, fI, FB, T, iC, tI, fun us hl => ?_, fun us hl => ?_⟩, by decide⟩
  · match us, hl with
    | [v], _ => exact fun A R s x t0 X hlim hx hnx hroom hq => init_what SF T D X hlim hx hroom (bp s _ v) hq
  · match us, hl with
    | [v], _ => exact fun A R s x t0 X hlim hx hnx hroom hq => init_what SF T D X hlim hx hroom (bk s _ v) hq
theorem own_why (FB : ExcBaseFacts B newId initId bmB) (SF : StoreFacts B bmB "object.__setattr__" "object") (T : XB K bmB newId C [("why" : Str)]) (g : mg nm = some (.ref C)) (iC : PySem.W.findIn K (.ref C) "__init__" = some (some (.ref fI))) (tI : PySem.W.typeIn K (.ref fI) = some (.type "function"))
    (D : Ini1 K fI qual "why" fd) : OwnX prog w K mg nm C [("why" : Str)] := by
  have bp : ∀ (s : Shared) (x v : Value), BindsTo s fd ⟨[x, v], []⟩ [("self", x), ("why", v)] := fun s x v => by
    obtain ⟨oc, od, doc, pm, an, cdv, ct, osl, p1, p2, q1, q2, q3, q4, rfl, _⟩ := D.ex
    exact .of_eq (by first | rfl | with_unfolding_all rfl)
  have bk : ∀ (s : Shared) (x v : Value), BindsTo s fd ⟨[x], [("why", v)]⟩ [("self", x), ("why", v)] := fun s x v => by
    obtain ⟨oc, od, doc, pm, an, cdv, ct, osl, p1, p2, q1, q2, q3, q4, rfl, _⟩ := D.ex
    exact .of_eq (by first | rfl | with_unfolding_all rfl)
  refine ⟨g, ⟨bmB, B, newId, initId, fI, FB, T, iC, tI, fun us hl => ?_, fun us hl => ?_⟩, by decide⟩
  · match us, hl with
    | [v], _ => exact fun A R s x t0 X hlim hx hnx hroom hq => init_why SF T D X hlim hx hroom (bp s _ v) hq
  · match us, hl with
    | [v], _ => exact fun A R s x t0 X hlim hx hnx hroom hq => init_why SF T D X hlim hx hroom (bk s _ v) hq
theorem own_two (FB : ExcBaseFacts B newId initId bmB) (SF : StoreFacts B bmB "object.__setattr__" "object") (T : XB K bmB newId C [("rule" : Str), ("things" : Str)]) (g : mg nm = some (.ref C)) (iC : PySem.W.findIn K (.ref C) "__init__" = some (some (.ref fI))) (tI : PySem.W.typeIn K (.ref fI) = some (.type "function"))
    (D : Ini2 K fI qual fd) : OwnX prog w K mg nm C [("rule" : Str), ("things" : Str)] := by
  have bp : ∀ (s : Shared) (x v u : Value), BindsTo s fd ⟨[x, v, u], []⟩ [("self", x), ("rule", v), ("things", u)] := fun s x v u => by
    obtain ⟨oc, od, doc, pm, an, cdv, ct, osl, p1, p2, p3, q1, q2, q3, q4, r1, r2, r3, r4, rfl, _⟩ := D.ex
    exact .of_eq (by first | rfl | with_unfolding_all rfl)
  have bk : ∀ (s : Shared) (x v u : Value), BindsTo s fd ⟨[x], [("things", u), ("rule", v)]⟩ [("self", x), ("rule", v), ("things", u)] := fun s x v u => by
    obtain ⟨oc, od, doc, pm, an, cdv, ct, osl, p1, p2, p3, q1, q2, q3, q4, r1, r2, r3, r4, rfl, _⟩ := D.ex
    exact .of_eq (by first | rfl | with_unfolding_all rfl)
  refine ⟨g, ⟨bmB, B, newId, initId, fI, FB, T, iC, tI, fun us hl => ?_, fun us hl => ?_⟩, by decide⟩
  · match us, hl with
    | [v, u], _ => exact fun A R s x t0 X hlim hx hnx hroom hq => init_two SF T D X hlim hx hnx hroom (bp s _ v u) hq
  · match us, hl with
    | [u, v], _ => exact fun A R s x t0 X hlim hx hnx hroom hq => init_two SF T D X hlim hx hnx hroom (bk s _ v u) hq
end
open He
theorem kwN_ok {K : PySem.W.Frag} {p : Str × Option Str} {oc : Value} {od : Option Addr} {osl : Array (Option Value)} {x q : Str} {pa : Arguments} {b : List Stmt} {sc : Scope} {dV kV doc pm cd ct : Value} {an : Option Addr}
    (lk : K.lookup (fAd K p) = some ⟨oc, od, .func (PySem.W.fnOf x q pa b sc dV kV doc pm an cd ct), osl⟩) (h : kwN K p = true) : kV = .none := by
  unfold kwN at h
  rw [lk] at h
  cases kV with
  | none => rfl
  | _ => cases h
theorem exc_of {K : PySem.W.Frag} {C : Addr} {bm : List Value} {nw : String} {fn : List Str} (T : XB K bm nw C fn) (h : excB K = true) : ExcC K C := by
  obtain ⟨c1, c2⟩ := Bool.and_eq_true_iff.mp h
  exact ⟨T.ga, T.gg, T.exc, T.hd, T.ca, of_decide_eq_true c1, of_decide_eq_true c2, T.mo⟩
/-- the tuple at a -/
theorem tupK_ok {K : PySem.W.Frag} {a : Addr} {vs : List V} (h : tupK K a vs = true) (H : Hp) : SqT K H a vs := by
  unfold tupK at h
  cases q : K.lookup a with
  | none =>
    rw [q] at h
    cases h
  | some o =>
    obtain ⟨oc, od, dt, osl⟩ := o
    rw [q] at h
    cases oc with
    | type c =>
      cases dt with
      | seq its n =>
        obtain ⟨h1, h2⟩ := ba (show (decide (c = "tuple") && (decide (its.size ≤ sizeLine) && relAll vs its.toList)) = true from h)
        obtain ⟨h3, h4⟩ := ba h2
        exact .inr ⟨_, its, n, q, congrArg Value.type (of_decide_eq_true h1), rfl, of_decide_eq_true h3, relAll_ok h4⟩
      | _ => cases h
    | _ => cases dt <;> cases h
theorem rules_of {K : PySem.W.Frag} {mg : Str → Option Value} (g : mg "_RULES" = some (.ref (ga K "_RULES"))) (h : rulesB K = true) : RulesAt K mg (ga K "_RULES") (tR K) (fR K) := by
  obtain ⟨h1, h⟩ := ba h
  obtain ⟨h2, h3⟩ := ba h
  refine ⟨g, tupK_ok h1, fun i hi => tupK_ok (List.all_eq_true.mp h2 i (List.mem_range.mpr hi)), fun i j hi hj e => ?_⟩
  have h4 := List.all_eq_true.mp (List.all_eq_true.mp h3 i (List.mem_range.mpr hi)) j (List.mem_range.mpr hj)
  rcases (Bool.or_eq_true _ _).mp h4 with h5 | h5
  · exact of_decide_eq_true h5
  · rw [decide_eq_true e] at h5
    cases h5
theorem sizes_of {K : PySem.W.Frag} {w : World} {mg : Str → Option Value} {es : Array DictEntry} {n : Nat} (g : mg "_SIZES" = some (.ref (ga K "_SIZES"))) (D : KDict K w (ga K "_SIZES") es n) (h : sizesB K = true) : SizesT K w mg (ga K "_SIZES") es n := by
  obtain ⟨h1, h⟩ := ba h
  obtain ⟨h2, h3⟩ := ba h
  exact ⟨g, D, eqO_ok h1, eqO_ok h2, eqO_ok h3⟩
theorem okC_of {K : PySem.W.Frag} {x : Str} (c : (Fa.cls x).ok K = true) (h : noB K x = true) : OkC K (ga K x) := ⟨cls_ok c, fun f hf => eqO_ok (List.all_eq_true.mp h f hf)⟩
theorem meth_of {K : PySem.W.Frag} {x m : Str} {p : Str × Option Str} (h : methB K x m p = true) : Meth K (ga K x) m (fAd K p) := by
  obtain ⟨h1, h⟩ := ba h
  obtain ⟨h2, h3⟩ := ba h
  exact ⟨eqO_ok h1, h2, h3⟩
theorem mths_of {K : PySem.W.Frag} (h : mthsB K = true) (x m c : Str) (hm : (x, m, c) ∈ mths) : Meth K (ga K x) m (fAd K (c, some m)) := meth_of (List.all_eq_true.mp h _ hm)
theorem base_of {K : PySem.W.Frag} {mg : Str → Option Value} {x : Str} {p : Str × Option Str} (g : mg x = some (.ref (ga K x))) (h : baseB K x p = true) : BaseI K mg x (fAd K p) := by
  obtain ⟨h1, h⟩ := ba h
  obtain ⟨h2, h3⟩ := ba h
  refine ⟨_, _, g, ⟨h1, eqO_ok h2⟩, ?_⟩
  cases q : PySem.W.findCls K (.ref (ga K x)) (.type "type") "__init__" with
  | none =>
    rw [q] at h3
    cases h3
  | some r =>
    rw [q] at h3
    cases r with
    | val u =>
      cases u with
      | ref a =>
        have e : a = fAd K p := of_decide_eq_true h3
        subst e
        exact ⟨q, rfl⟩
      | _ => cases h3
    | _ => cases h3
theorem fams_of {K : PySem.W.Frag} {mg : Str → Option Value} {cR cB cW aF aU aK : Addr} (gR : mg "BadRing" = some (.ref cR)) (gB : mg "BadTable" = some (.ref cB)) (gW : mg "BadWeight" = some (.ref cW)) (gF : mg "Refused" = some (.ref aF)) (gU : mg "Unreckoned" = some (.ref aU)) (gK : mg "Unknown" = some (.ref aK)) {b1 b3 : List Value} {n1 n3 : String} (XR : XB K b1 n1 cR [("what" : Str)]) (XW : XB K b3 n3 cW [("why" : Str)]) (hx : excB K = true) (h : famB K cR cB cW aF aU aK = true) : Fam9 K mg cR cB cW aF aU aK := by
  unfold famB at h
  obtain ⟨hx0, h⟩ := ba h
  simp only [Bool.and_eq_true, decide_eq_true_eq] at h
  obtain ⟨hrb, hrr, hww, hrF, hrV, hrU, hrK, hwF, hwV, hwU, hwK, hrW, hwR⟩ := h
  exact { gR := gR, gB := gB, gW := gW, gF := gF, gU := gU, gK := gK, eR := exc_of XR hx, eW := exc_of XW hx, xR := xfB_ok hx0, nw := XR.no _ List.mem_cons_self, rb := hrb, rr := hrr, ww := hww, rF := hrF, rV := hrV, rU := hrU, rK := hrK, wF := hwF, wV := hwV, wU := hwU, wK := hwK, rW := hrW, wR := hwR }
theorem ring_of9 {K : PySem.W.Frag} (hx : excB K = true) (h : ringB K = true) : RingF K (ga K "Ring") (fAd K ("Ring", some "__eq__")) := by
  obtain ⟨c1, c2⟩ := Bool.and_eq_true_iff.mp hx
  obtain ⟨hhcl, h⟩ := ba h
  obtain ⟨hhmo, h⟩ := ba h
  obtain ⟨hki, h⟩ := ba h
  obtain ⟨hkb, h⟩ := ba h
  obtain ⟨hks, h⟩ := ba h
  obtain ⟨hkt, h⟩ := ba h
  obtain ⟨hrr, h⟩ := ba h
  obtain ⟨htr, h⟩ := ba h
  obtain ⟨hnr, h⟩ := ba h
  obtain ⟨hnt, h⟩ := ba h
  obtain ⟨hse, h⟩ := ba h
  obtain ⟨hfe, hne⟩ := ba h
  exact { hgn := of_decide_eq_true c1, htk := of_decide_eq_true c2, hcl := eqO_ok hhcl, hmo := of_decide_eq_true hhmo, ki := of_decide_eq_true hki, kb := of_decide_eq_true hkb, ks := of_decide_eq_true hks, kt := of_decide_eq_true hkt, rr := of_decide_eq_true hrr, tr := of_decide_eq_true htr, nr := hnr, nt := hnt, se := eqO_ok hse, fe := hfe, ne := eqO_ok hne }
end D1
end
section
set_option Elab.async false
set_option linter.all false
set_option maxRecDepth 100000
set_option maxHeartbeats 4000000
/-! S09: the end -/
namespace D1
open PySem PySem.Spec PyProof.Rows L2 PySem.VX
theorem ini2_of {K : PySem.W.Frag} {fd : FuncData} (F : FnM K "BadTable" "__init__" (meth 5 0) (He.fAd K ("BadTable", some "__init__")) fd) (h : kwN K ("BadTable", some "__init__") = true) : Ini2 K (He.fAd K ("BadTable", some "__init__")) ("BadTable" ++ "." ++ "__init__") fd := by
  obtain ⟨oc, od, dV, kV, doc, pm, an, cdv, ct, osl, rfl, lk, hcd, hD, _⟩ := F.ex
  obtain rfl := kwN_ok lk h
  rcases hD with ⟨_, rfl⟩ | ⟨hn, _⟩
  · exact ⟨⟨oc, od, doc, pm, an, cdv, ct, osl, _, _, _, _, _, _, _, _, _, _, _, rfl, lk, hcd⟩⟩
  · exact absurd rfl hn
theorem ini1_BadRing {K : PySem.W.Frag} {fd : FuncData} (F : FnM K "BadRing" "__init__" (meth 4 0) (He.fAd K ("BadRing", some "__init__")) fd) (h : kwN K ("BadRing", some "__init__") = true) : Ini1 K (He.fAd K ("BadRing", some "__init__")) ("BadRing" ++ "." ++ "__init__") "what" fd := by
  obtain ⟨oc, od, dV, kV, doc, pm, an, cdv, ct, osl, rfl, lk, hcd, hD, _⟩ := F.ex
  obtain rfl := kwN_ok lk h
  rcases hD with ⟨_, rfl⟩ | ⟨hn, _⟩
  · exact ⟨⟨oc, od, doc, pm, an, cdv, ct, osl, _, _, _, _, _, _, rfl, lk, hcd⟩⟩
  · exact absurd rfl hn
theorem ini1_BadWeight {K : PySem.W.Frag} {fd : FuncData} (F : FnM K "BadWeight" "__init__" (meth 6 0) (He.fAd K ("BadWeight", some "__init__")) fd) (h : kwN K ("BadWeight", some "__init__") = true) : Ini1 K (He.fAd K ("BadWeight", some "__init__")) ("BadWeight" ++ "." ++ "__init__") "why" fd := by
  obtain ⟨oc, od, dV, kV, doc, pm, an, cdv, ct, osl, rfl, lk, hcd, hD, _⟩ := F.ex
  obtain rfl := kwN_ok lk h
  rcases hD with ⟨_, rfl⟩ | ⟨hn, _⟩
  · exact ⟨⟨oc, od, doc, pm, an, cdv, ct, osl, _, _, _, _, _, _, rfl, lk, hcd⟩⟩
  · exact absurd rfl hn
theorem dfl_of {K : PySem.W.Frag} {c x : Str} {st : Stmt} {fd : FuncData} {f : Addr} (F : FunD K x (c ++ "." ++ x) (defArgs st) (defBody st) (defScope st) [.int 2] [] f fd)
    (h : ∀ (T : Addr) (kV doc pm : Value) (an : Option Addr) (cdv ct : Value) (us its : List Value), us.length = 2 → its.length = 1 → ∃ k, bindArgs (PySem.W.fnOf x (c ++ "." ++ x) (defArgs st) (defBody st) (defScope st) (.ref T) kV doc pm an cdv ct) ⟨us, []⟩ = seqItems? (.ref T) >>= k ∧ k (some its.toArray) = pure ((["self", "a", "count"] : List Str).zip (us ++ its)))
    (h3 : ∀ (T : Addr) (kV doc pm : Value) (an : Option Addr) (cdv ct : Value) (us its : List Value), us.length = 3 → its.length = 1 → ∃ k, bindArgs (PySem.W.fnOf x (c ++ "." ++ x) (defArgs st) (defBody st) (defScope st) (.ref T) kV doc pm an cdv ct) ⟨us, []⟩ = seqItems? (.ref T) >>= k ∧ k (some its.toArray) = pure ((["self", "a", "count"] : List Str).zip us)) :
    (∃ ds, Vals [V.int 2] ds ∧ L2.Binds K fd ["self", "a", "count"] ds) ∧ L2.Binds K fd ["self", "a", "count"] [] := by
  refine ⟨F.binds1 2 0 (by simp) (by rfl) h, ?_⟩
  obtain ⟨ds, v, b⟩ := F.binds1 (ps := ["self", "a", "count"]) 3 1 (by simp) (by rfl) (fun T kV doc pm an cdv ct us its h1 h2 => by
    obtain ⟨k, e1, e2⟩ := h3 T kV doc pm an cdv ct us its h1 h2
    refine ⟨k, e1, e2.trans ?_⟩
    match its, h2 with
    | [i], _ => rw [List.drop_one, List.tail_cons, List.append_nil])
  cases v
  exact b
theorem facts {P : Program} {w : World} {K : PySem.W.Frag} {h : Heap} {mg : Str → Option Value} {f : Addr} (X : K.In h) (G : h.Ns mainGlobals mg) (hfa : mg ("law" : Str) = some (.ref f)) (cc : W09.SaysL w K) :
    ∃ fd : FuncData, (∀ (s : Shared) (v : Value), BindsTo s fd ⟨[v], []⟩ [("_law_script", v)]) ∧ ∀ base : Heap, K.In base → base.Ns mainGlobals mg → FnG P w K mg base CX0 16 f fd ["_law_script"] (spLaw K) := by
  have c : He.SaysD W09.fa W09.fn K := cc.d
  obtain ⟨fd_is_number, F_is_number⟩ := c.def_ 0 rfl
  obtain ⟨fd_is_whole, F_is_whole⟩ := c.def_ 1 rfl
  obtain ⟨fd_kind_of, F_kind_of⟩ := c.def_ 2 rfl
  obtain ⟨fd__bare_kind, F__bare_kind⟩ := c.def_ 3 rfl
  obtain ⟨fd__sum_turned, F__sum_turned⟩ := c.def_ 4 rfl
  obtain ⟨fd__sum_joined, F__sum_joined⟩ := c.def_ 5 rfl
  obtain ⟨fd__zero, F__zero⟩ := c.def_ 6 rfl
  obtain ⟨fd__product_turned, F__product_turned⟩ := c.def_ 7 rfl
  obtain ⟨fd__product_joined, F__product_joined⟩ := c.def_ 8 rfl
  obtain ⟨fd__one, F__one⟩ := c.def_ 9 rfl
  obtain ⟨fd__nought, F__nought⟩ := c.def_ 10 rfl
  obtain ⟨fd__spread, F__spread⟩ := c.def_ 11 rfl
  obtain ⟨fd__joined, F__joined⟩ := c.def_ 12 rfl
  obtain ⟨fd_first_broken, F_first_broken⟩ := c.def_ 13 rfl
  obtain ⟨fd__rows, F__rows⟩ := c.def_ 14 rfl
  obtain ⟨fd_ring_of, F_ring_of⟩ := c.def_ 15 rfl
  obtain ⟨fd__has_form, F__has_form⟩ := c.def_ 16 rfl
  obtain ⟨fd__are_tables, F__are_tables⟩ := c.def_ 17 rfl
  obtain ⟨fd__is_table, F__is_table⟩ := c.def_ 18 rfl
  obtain ⟨fd__is_row, F__is_row⟩ := c.def_ 19 rfl
  obtain ⟨fd__tables, F__tables⟩ := c.def_ 20 rfl
  obtain ⟨fd_mixed, F_mixed⟩ := c.def_ 21 rfl
  obtain ⟨fd_folded, F_folded⟩ := c.def_ 22 rfl
  obtain ⟨fd_draw, F_draw⟩ := c.def_ 23 rfl
  obtain ⟨fd_begun, F_begun⟩ := c.def_ 24 rfl
  obtain ⟨fd_base, F_base⟩ := c.def_ 25 rfl
  obtain ⟨fd_table, F_table⟩ := c.def_ 26 rfl
  obtain ⟨fd_family, F_family⟩ := c.def_ 27 rfl
  obtain ⟨fd_made, F_made⟩ := c.def_ 28 rfl
  obtain ⟨fd_answer, F_answer⟩ := c.def_ 29 rfl
  obtain ⟨fd_weighed, F_weighed⟩ := c.def_ 30 rfl
  obtain ⟨fd_put, F_put⟩ := c.def_ 31 rfl
  obtain ⟨fd_rows, F_rows⟩ := c.def_ 32 rfl
  obtain ⟨fd_spoilt, F_spoilt⟩ := c.def_ 33 rfl
  obtain ⟨fd_tables_hold, F_tables_hold⟩ := c.def_ 34 rfl
  obtain ⟨fd_law, F_law⟩ := c.def_ 35 rfl
  obtain ⟨fd_Kind_init, F_Kind_init⟩ := c.def_ 36 rfl
  obtain ⟨fd_Counted_init, F_Counted_init⟩ := c.def_ 37 rfl
  obtain ⟨fd_Finite_init, F_Finite_init⟩ := c.def_ 38 rfl
  obtain ⟨fd_Truth_init, F_Truth_init⟩ := c.def_ 39 rfl
  obtain ⟨fd_Table_init, F_Table_init⟩ := c.def_ 40 rfl
  obtain ⟨fd_Kind_text, F_Kind_text⟩ := c.def_ 41 rfl
  obtain ⟨fd_Kind_zero, F_Kind_zero⟩ := c.def_ 42 rfl
  obtain ⟨fd_Kind_one, F_Kind_one⟩ := c.def_ 43 rfl
  obtain ⟨fd_Finite_fits, F_Finite_fits⟩ := c.def_ 44 rfl
  obtain ⟨fd_Table_plus, F_Table_plus⟩ := c.def_ 45 rfl
  obtain ⟨fd_Table_times, F_Table_times⟩ := c.def_ 46 rfl
  obtain ⟨fd_Counted_good, F_Counted_good⟩ := c.def_ 47 rfl
  obtain ⟨fd_Ring_need, F_Ring_need⟩ := c.def_ 48 rfl
  obtain ⟨fd_Ring_made, F_Ring_made⟩ := c.def_ 49 rfl
  obtain ⟨fd_Ring_plus, F_Ring_plus⟩ := c.def_ 50 rfl
  obtain ⟨fd_Ring_times, F_Ring_times⟩ := c.def_ 51 rfl
  obtain ⟨fd_Pair_init, F_Pair_init⟩ := c.def_ 52 rfl
  obtain ⟨fd_Ring_init, F_Ring_init⟩ := c.def_ 53 rfl
  obtain ⟨fd_BadRing_init, F_BadRing_init⟩ := c.def_ 54 rfl
  obtain ⟨fd_BadTable_init, F_BadTable_init⟩ := c.def_ 55 rfl
  obtain ⟨fd_BadWeight_init, F_BadWeight_init⟩ := c.def_ 56 rfl
  obtain ⟨fd_Ring_star, F_Ring_star⟩ := c.def_ 57 rfl
  obtain ⟨fd_Ring_many, F_Ring_many⟩ := c.def_ 58 rfl
  obtain ⟨fd_Ring_power, F_Ring_power⟩ := c.def_ 59 rfl
  obtain ⟨fd_Ring_total, F_Ring_total⟩ := c.def_ 60 rfl
  obtain ⟨fd_Ring_product, F_Ring_product⟩ := c.def_ 61 rfl
  obtain ⟨fd_Ring__need_list, F_Ring__need_list⟩ := c.def_ 62 rfl
  obtain ⟨fd_Ring_written, F_Ring_written⟩ := c.def_ 63 rfl
  obtain ⟨fd_Kind_closed, F_Kind_closed⟩ := c.def_ 64 rfl
  obtain ⟨fd_Finite_few, F_Finite_few⟩ := c.def_ 65 rfl
  obtain ⟨fd_Ring_zero, F_Ring_zero⟩ := c.def_ 66 rfl
  obtain ⟨fd_Ring_one, F_Ring_one⟩ := c.def_ 67 rfl
  obtain ⟨fd_Ring_is_closed, F_Ring_is_closed⟩ := c.def_ 68 rfl
  obtain ⟨fd_Ring_is_few, F_Ring_is_few⟩ := c.def_ 69 rfl
  obtain ⟨fd_Ring_good, F_Ring_good⟩ := c.def_ 70 rfl
  obtain ⟨fd_Ring___eq__, F_Ring___eq__⟩ := c.def_ 71 rfl
  have g_is_number := He.glo_ok X G (c.fact 0 (f := .glo "is_number") rfl)
  have g_is_whole := He.glo_ok X G (c.fact 1 (f := .glo "is_whole") rfl)
  have g_kind_of := He.glo_ok X G (c.fact 2 (f := .glo "kind_of") rfl)
  have g__bare_kind := He.glo_ok X G (c.fact 3 (f := .glo "_bare_kind") rfl)
  have g__joined := He.glo_ok X G (c.fact 4 (f := .glo "_joined") rfl)
  have g_first_broken := He.glo_ok X G (c.fact 5 (f := .glo "first_broken") rfl)
  have g__rows := He.glo_ok X G (c.fact 6 (f := .glo "_rows") rfl)
  have g_ring_of := He.glo_ok X G (c.fact 7 (f := .glo "ring_of") rfl)
  have g__has_form := He.glo_ok X G (c.fact 8 (f := .glo "_has_form") rfl)
  have g__are_tables := He.glo_ok X G (c.fact 9 (f := .glo "_are_tables") rfl)
  have g__is_table := He.glo_ok X G (c.fact 10 (f := .glo "_is_table") rfl)
  have g__is_row := He.glo_ok X G (c.fact 11 (f := .glo "_is_row") rfl)
  have g__tables := He.glo_ok X G (c.fact 12 (f := .glo "_tables") rfl)
  have g_mixed := He.glo_ok X G (c.fact 13 (f := .glo "_law_mixed") rfl)
  have g_folded := He.glo_ok X G (c.fact 14 (f := .glo "_law_folded") rfl)
  have g_draw := He.glo_ok X G (c.fact 15 (f := .glo "_law_draw") rfl)
  have g_begun := He.glo_ok X G (c.fact 16 (f := .glo "_law_begun") rfl)
  have g_base := He.glo_ok X G (c.fact 17 (f := .glo "_law_base") rfl)
  have g_table := He.glo_ok X G (c.fact 18 (f := .glo "_law_table") rfl)
  have g_family := He.glo_ok X G (c.fact 19 (f := .glo "_law_family") rfl)
  have g_made := He.glo_ok X G (c.fact 20 (f := .glo "_law_made") rfl)
  have g_answer := He.glo_ok X G (c.fact 21 (f := .glo "_law_answer") rfl)
  have g_weighed := He.glo_ok X G (c.fact 22 (f := .glo "_law_weighed") rfl)
  have g_put := He.glo_ok X G (c.fact 23 (f := .glo "_law_put") rfl)
  have g_rows := He.glo_ok X G (c.fact 24 (f := .glo "_law_rows") rfl)
  have g_spoilt := He.glo_ok X G (c.fact 25 (f := .glo "_law_spoilt") rfl)
  have g_tables_hold := He.glo_ok X G (c.fact 26 (f := .glo "_law_tables_hold") rfl)
  have g_law := He.glo_ok X G (c.fact 27 (f := .glo "law") rfl)
  have g_Refused := He.glo_ok X G (c.fact 28 (f := .glo "Refused") rfl)
  have g_BadRing := He.glo_ok X G (c.fact 29 (f := .glo "BadRing") rfl)
  have g_BadTable := He.glo_ok X G (c.fact 30 (f := .glo "BadTable") rfl)
  have g_BadWeight := He.glo_ok X G (c.fact 31 (f := .glo "BadWeight") rfl)
  have g_Unreckoned := He.glo_ok X G (c.fact 32 (f := .glo "Unreckoned") rfl)
  have g_Unknown := He.glo_ok X G (c.fact 33 (f := .glo "Unknown") rfl)
  have g_Kind := He.glo_ok X G (c.fact 34 (f := .glo "Kind") rfl)
  have g_Counted := He.glo_ok X G (c.fact 35 (f := .glo "Counted") rfl)
  have g_Finite := He.glo_ok X G (c.fact 36 (f := .glo "Finite") rfl)
  have g_Table := He.glo_ok X G (c.fact 37 (f := .glo "Table") rfl)
  have g_Pair := He.glo_ok X G (c.fact 38 (f := .glo "Pair") rfl)
  have g_Topped := He.glo_ok X G (c.fact 39 (f := .glo "Topped") rfl)
  have g_Truth := He.glo_ok X G (c.fact 40 (f := .glo "Truth") rfl)
  have g_Ring := He.glo_ok X G (c.fact 41 (f := .glo "Ring") rfl)
  obtain ⟨t_PAIRS, g_PAIRS⟩ := He.int_ok X G (c.fact 42 (f := .int "_PAIRS" 3) rfl)
  have z_ValueError := He.free_ok X G (c.fact 43 (f := .free "ValueError") rfl)
  have z_all := He.free_ok X G (c.fact 44 (f := .free "all") rfl)
  have z_bool := He.free_ok X G (c.fact 45 (f := .free "bool") rfl)
  have z_enumerate := He.free_ok X G (c.fact 46 (f := .free "enumerate") rfl)
  have z_int := He.free_ok X G (c.fact 47 (f := .free "int") rfl)
  have z_isinstance := He.free_ok X G (c.fact 48 (f := .free "isinstance") rfl)
  have z_len := He.free_ok X G (c.fact 49 (f := .free "len") rfl)
  have z_list := He.free_ok X G (c.fact 50 (f := .free "list") rfl)
  have z_max := He.free_ok X G (c.fact 51 (f := .free "max") rfl)
  have z_min := He.free_ok X G (c.fact 52 (f := .free "min") rfl)
  have z_range := He.free_ok X G (c.fact 53 (f := .free "range") rfl)
  have z_repr := He.free_ok X G (c.fact 54 (f := .free "repr") rfl)
  have z_str := He.free_ok X G (c.fact 55 (f := .free "str") rfl)
  have z_tuple := He.free_ok X G (c.fact 56 (f := .free "tuple") rfl)
  have g__RULES := He.glo_ok X G (c.fact 57 (f := .glo "_RULES") rfl)
  have g__BARE := He.glo_ok X G (c.fact 58 (f := .glo "_BARE") rfl)
  have g__SIZES := He.glo_ok X G (c.fact 59 (f := .glo "_SIZES") rfl)
  have g__THINGS := He.glo_ok X G (c.fact 60 (f := .glo "_THINGS") rfl)
  have c_Ring := c.fact 61 (f := .cls "Ring") rfl
  have c_Table := c.fact 62 (f := .cls "Table") rfl
  have c_Truth := c.fact 63 (f := .cls "Truth") rfl
  have c_Pair := c.fact 64 (f := .cls "Pair") rfl
  have M_Ring := He.mkr_ok (c.fact 65 (f := .mkr "Ring") rfl)
  have M_Table := He.mkr_ok (c.fact 66 (f := .mkr "Table") rfl)
  have M_Truth := He.mkr_ok (c.fact 67 (f := .mkr "Truth") rfl)
  have M_Pair := He.mkr_ok (c.fact 68 (f := .mkr "Pair") rfl)
  have hex := cc.more
  obtain ⟨x_BR, hex⟩ := Bool.and_eq_true_iff.mp hex
  obtain ⟨x_BT, hex⟩ := Bool.and_eq_true_iff.mp hex
  obtain ⟨x_BW, hex⟩ := Bool.and_eq_true_iff.mp hex
  obtain ⟨i_BR, hex⟩ := Bool.and_eq_true_iff.mp hex
  obtain ⟨i_BT, hex⟩ := Bool.and_eq_true_iff.mp hex
  obtain ⟨i_BW, hex⟩ := Bool.and_eq_true_iff.mp hex
  obtain ⟨x_E, hex⟩ := Bool.and_eq_true_iff.mp hex
  obtain ⟨x_F, hex⟩ := Bool.and_eq_true_iff.mp hex
  obtain ⟨x_G, hex⟩ := Bool.and_eq_true_iff.mp hex
  obtain ⟨x_R, hex⟩ := Bool.and_eq_true_iff.mp hex
  obtain ⟨x_T, hex⟩ := Bool.and_eq_true_iff.mp hex
  obtain ⟨x_B, hex⟩ := Bool.and_eq_true_iff.mp hex
  obtain ⟨x_S, hex⟩ := Bool.and_eq_true_iff.mp hex
  obtain ⟨n_R, hex⟩ := Bool.and_eq_true_iff.mp hex
  obtain ⟨n_T, hex⟩ := Bool.and_eq_true_iff.mp hex
  obtain ⟨n_U, hex⟩ := Bool.and_eq_true_iff.mp hex
  obtain ⟨n_P, hex⟩ := Bool.and_eq_true_iff.mp hex
  obtain ⟨x_M, hex⟩ := Bool.and_eq_true_iff.mp hex
  obtain ⟨b_K, hex⟩ := Bool.and_eq_true_iff.mp hex
  obtain ⟨b_To, hex⟩ := Bool.and_eq_true_iff.mp hex
  obtain ⟨b_C, b_F⟩ := Bool.and_eq_true_iff.mp hex
  have XR := xbB_ok x_BR
  have XT := xbB_ok x_BT
  have XW := xbB_ok x_BW
  obtain ⟨y1_BadRing, i_BR⟩ := Bool.and_eq_true_iff.mp i_BR
  obtain ⟨y2_BadRing, y3_BadRing⟩ := Bool.and_eq_true_iff.mp i_BR
  have O_BadRing : OwnX P w K mg "BadRing" (He.ga K "BadRing") [("what" : Str)] := own_what F.excBase_ValueError F.store_ValueError XR g_BadRing (of_decide_eq_true y2_BadRing) (of_decide_eq_true y3_BadRing) (ini1_BadRing F_BadRing_init y1_BadRing)
  obtain ⟨y1_BadTable, i_BT⟩ := Bool.and_eq_true_iff.mp i_BT
  obtain ⟨y2_BadTable, y3_BadTable⟩ := Bool.and_eq_true_iff.mp i_BT
  have O_BadTable : OwnX P w K mg "BadTable" (He.ga K "BadTable") [("rule" : Str), ("things" : Str)] := own_two F.excBase_ValueError F.store_ValueError XT g_BadTable (of_decide_eq_true y2_BadTable) (of_decide_eq_true y3_BadTable) (ini2_of F_BadTable_init y1_BadTable)
  obtain ⟨y1_BadWeight, i_BW⟩ := Bool.and_eq_true_iff.mp i_BW
  obtain ⟨y2_BadWeight, y3_BadWeight⟩ := Bool.and_eq_true_iff.mp i_BW
  have O_BadWeight : OwnX P w K mg "BadWeight" (He.ga K "BadWeight") [("why" : Str)] := own_why F.excBase_ValueError F.store_ValueError XW g_BadWeight (of_decide_eq_true y2_BadWeight) (of_decide_eq_true y3_BadWeight) (ini1_BadWeight F_BadWeight_init y1_BadWeight)
  have T9 := fams_of g_BadRing g_BadTable g_BadWeight g_Refused g_Unreckoned g_Unknown XR XW x_E x_F
  have TR := ring_of9 x_E x_G
  have RU := rules_of g__RULES x_R
  have TH : ThingsK K mg (He.ga K "_THINGS") := ⟨g__THINGS, tupK_ok x_T⟩
  have BA : BareK K mg (He.ga K "_BARE") := ⟨g__BARE, tupK_ok x_B⟩
  obtain ⟨es, nS, KD⟩ := He.dicW_ok cc.tab
  have SZ := sizes_of g__SIZES KD x_S
  have okR := okC_of c_Ring n_R
  have okT := okC_of c_Table n_T
  have okU := okC_of c_Truth n_U
  have okP := okC_of c_Pair n_P
  have MM := mths_of x_M
  have B_Kind := base_of g_Kind b_K
  have B_Topped := base_of g_Topped b_To
  have B_Counted := base_of g_Counted b_C
  have B_Finite := base_of g_Finite b_F
  have m_Counted_good : Meth K (He.ga K "Table") "good" (He.fAd K ("Counted", some "good")) := MM "Table" "good" "Counted" (by decide)
  have m_Finite_fits : Meth K (He.ga K "Table") "fits" (He.fAd K ("Finite", some "fits")) := MM "Table" "fits" "Finite" (by decide)
  have m_Table_plus : Meth K (He.ga K "Table") "plus" (He.fAd K ("Table", some "plus")) := MM "Table" "plus" "Table" (by decide)
  have m_Table_times : Meth K (He.ga K "Table") "times" (He.fAd K ("Table", some "times")) := MM "Table" "times" "Table" (by decide)
  have m_Ring_need : Meth K (He.ga K "Ring") "need" (He.fAd K ("Ring", some "need")) := MM "Ring" "need" "Ring" (by decide)
  have m_Ring_made : Meth K (He.ga K "Ring") "made" (He.fAd K ("Ring", some "made")) := MM "Ring" "made" "Ring" (by decide)
  have m_Ring_plus : Meth K (He.ga K "Ring") "plus" (He.fAd K ("Ring", some "plus")) := MM "Ring" "plus" "Ring" (by decide)
  have m_Ring_times : Meth K (He.ga K "Ring") "times" (He.fAd K ("Ring", some "times")) := MM "Ring" "times" "Ring" (by decide)
  have m_Kind_text : Meth K (He.ga K "Table") "text" (He.fAd K ("Kind", some "text")) := MM "Table" "text" "Kind" (by decide)
  have m_Kind_zero : Meth K (He.ga K "Table") "zero" (He.fAd K ("Kind", some "zero")) := MM "Table" "zero" "Kind" (by decide)
  have m_Kind_one : Meth K (He.ga K "Table") "one" (He.fAd K ("Kind", some "one")) := MM "Table" "one" "Kind" (by decide)
  have m_Kind_closed : Meth K (He.ga K "Table") "closed" (He.fAd K ("Kind", some "closed")) := MM "Table" "closed" "Kind" (by decide)
  have m_Finite_few : Meth K (He.ga K "Table") "few" (He.fAd K ("Finite", some "few")) := MM "Table" "few" "Finite" (by decide)
  have m_Ring_star : Meth K (He.ga K "Ring") "star" (He.fAd K ("Ring", some "star")) := MM "Ring" "star" "Ring" (by decide)
  have m_Ring_many : Meth K (He.ga K "Ring") "many" (He.fAd K ("Ring", some "many")) := MM "Ring" "many" "Ring" (by decide)
  have m_Ring_power : Meth K (He.ga K "Ring") "power" (He.fAd K ("Ring", some "power")) := MM "Ring" "power" "Ring" (by decide)
  have m_Ring_total : Meth K (He.ga K "Ring") "total" (He.fAd K ("Ring", some "total")) := MM "Ring" "total" "Ring" (by decide)
  have m_Ring_product : Meth K (He.ga K "Ring") "product" (He.fAd K ("Ring", some "product")) := MM "Ring" "product" "Ring" (by decide)
  have m_Ring__need_list : Meth K (He.ga K "Ring") "_need_list" (He.fAd K ("Ring", some "_need_list")) := MM "Ring" "_need_list" "Ring" (by decide)
  have m_Ring_written : Meth K (He.ga K "Ring") "written" (He.fAd K ("Ring", some "written")) := MM "Ring" "written" "Ring" (by decide)
  have m_Ring_zero : Meth K (He.ga K "Ring") "zero" (He.fAd K ("Ring", some "zero")) := MM "Ring" "zero" "Ring" (by decide)
  have m_Ring_one : Meth K (He.ga K "Ring") "one" (He.fAd K ("Ring", some "one")) := MM "Ring" "one" "Ring" (by decide)
  have m_Ring_is_closed : Meth K (He.ga K "Ring") "is_closed" (He.fAd K ("Ring", some "is_closed")) := MM "Ring" "is_closed" "Ring" (by decide)
  have m_Ring_is_few : Meth K (He.ga K "Ring") "is_few" (He.fAd K ("Ring", some "is_few")) := MM "Ring" "is_few" "Ring" (by decide)
  have m_Ring_good : Meth K (He.ga K "Ring") "good" (He.fAd K ("Ring", some "good")) := MM "Ring" "good" "Ring" (by decide)
  have b_Kind_init : L2.Binds K fd_Kind_init ["self", "text", "zero", "one"] [] := F_Kind_init.bindsN fun _ _ _ _ _ _ us hl => match us, hl with | [_, _, _, _], _ => rfl
  have b_Counted_init : L2.Binds K fd_Counted_init ["self", "text", "zero", "one", "others"] [] := F_Counted_init.bindsN fun _ _ _ _ _ _ us hl => match us, hl with | [_, _, _, _, _], _ => rfl
  have b_Finite_init : L2.Binds K fd_Finite_init ["self", "text", "size"] [] := F_Finite_init.bindsN fun _ _ _ _ _ _ us hl => match us, hl with | [_, _, _], _ => rfl
  have b_Truth_init : L2.Binds K fd_Truth_init ["self"] [] := F_Truth_init.bindsN fun _ _ _ _ _ _ us hl => match us, hl with | [_], _ => rfl
  have b_Table_init : L2.Binds K fd_Table_init ["self", "sums", "products"] [] := F_Table_init.bindsN fun _ _ _ _ _ _ us hl => match us, hl with | [_, _, _], _ => rfl
  have b_Kind_text : L2.Binds K fd_Kind_text ["self"] [] := F_Kind_text.bindsN fun _ _ _ _ _ _ us hl => match us, hl with | [_], _ => rfl
  have b_Kind_zero : L2.Binds K fd_Kind_zero ["self"] [] := F_Kind_zero.bindsN fun _ _ _ _ _ _ us hl => match us, hl with | [_], _ => rfl
  have b_Kind_one : L2.Binds K fd_Kind_one ["self"] [] := F_Kind_one.bindsN fun _ _ _ _ _ _ us hl => match us, hl with | [_], _ => rfl
  have b_Finite_fits : L2.Binds K fd_Finite_fits ["self", "number"] [] := F_Finite_fits.bindsN fun _ _ _ _ _ _ us hl => match us, hl with | [_, _], _ => rfl
  have b_Table_plus : L2.Binds K fd_Table_plus ["self", "a", "b"] [] := F_Table_plus.bindsN fun _ _ _ _ _ _ us hl => match us, hl with | [_, _, _], _ => rfl
  have b_Table_times : L2.Binds K fd_Table_times ["self", "a", "b"] [] := F_Table_times.bindsN fun _ _ _ _ _ _ us hl => match us, hl with | [_, _, _], _ => rfl
  have b_Counted_good : L2.Binds K fd_Counted_good ["self", "thing"] [] := F_Counted_good.bindsN fun _ _ _ _ _ _ us hl => match us, hl with | [_, _], _ => rfl
  have b_Ring_need : L2.Binds K fd_Ring_need ["self", "thing"] [] := F_Ring_need.bindsN fun _ _ _ _ _ _ us hl => match us, hl with | [_, _], _ => rfl
  have b_Ring_made : L2.Binds K fd_Ring_made ["self"] [] := F_Ring_made.bindsN fun _ _ _ _ _ _ us hl => match us, hl with | [_], _ => rfl
  have b_Ring_plus : L2.Binds K fd_Ring_plus ["self", "a", "b"] [] := F_Ring_plus.bindsN fun _ _ _ _ _ _ us hl => match us, hl with | [_, _, _], _ => rfl
  have b_Ring_times : L2.Binds K fd_Ring_times ["self", "a", "b"] [] := F_Ring_times.bindsN fun _ _ _ _ _ _ us hl => match us, hl with | [_, _, _], _ => rfl
  have b_Pair_init : L2.Binds K fd_Pair_init ["self", "left", "right"] [] := F_Pair_init.bindsN fun _ _ _ _ _ _ us hl => match us, hl with | [_, _, _], _ => rfl
  have b_Ring_init : L2.Binds K fd_Ring_init ["self", "made"] [] := F_Ring_init.bindsN fun _ _ _ _ _ _ us hl => match us, hl with | [_, _], _ => rfl
  have b_Ring_star : L2.Binds K fd_Ring_star ["self", "a"] [] := F_Ring_star.bindsN fun _ _ _ _ _ _ us hl => match us, hl with | [_, _], _ => rfl
  have b_Ring_total : L2.Binds K fd_Ring_total ["self", "weights"] [] := F_Ring_total.bindsN fun _ _ _ _ _ _ us hl => match us, hl with | [_, _], _ => rfl
  have b_Ring_product : L2.Binds K fd_Ring_product ["self", "weights"] [] := F_Ring_product.bindsN fun _ _ _ _ _ _ us hl => match us, hl with | [_, _], _ => rfl
  have b_Ring__need_list : L2.Binds K fd_Ring__need_list ["self", "weights"] [] := F_Ring__need_list.bindsN fun _ _ _ _ _ _ us hl => match us, hl with | [_, _], _ => rfl
  have b_Ring_written : L2.Binds K fd_Ring_written ["self", "a"] [] := F_Ring_written.bindsN fun _ _ _ _ _ _ us hl => match us, hl with | [_, _], _ => rfl
  have b_Kind_closed : L2.Binds K fd_Kind_closed ["self"] [] := F_Kind_closed.bindsN fun _ _ _ _ _ _ us hl => match us, hl with | [_], _ => rfl
  have b_Finite_few : L2.Binds K fd_Finite_few ["self"] [] := F_Finite_few.bindsN fun _ _ _ _ _ _ us hl => match us, hl with | [_], _ => rfl
  have b_Ring_zero : L2.Binds K fd_Ring_zero ["self"] [] := F_Ring_zero.bindsN fun _ _ _ _ _ _ us hl => match us, hl with | [_], _ => rfl
  have b_Ring_one : L2.Binds K fd_Ring_one ["self"] [] := F_Ring_one.bindsN fun _ _ _ _ _ _ us hl => match us, hl with | [_], _ => rfl
  have b_Ring_is_closed : L2.Binds K fd_Ring_is_closed ["self"] [] := F_Ring_is_closed.bindsN fun _ _ _ _ _ _ us hl => match us, hl with | [_], _ => rfl
  have b_Ring_is_few : L2.Binds K fd_Ring_is_few ["self"] [] := F_Ring_is_few.bindsN fun _ _ _ _ _ _ us hl => match us, hl with | [_], _ => rfl
  have b_Ring_good : L2.Binds K fd_Ring_good ["self", "thing"] [] := F_Ring_good.bindsN fun _ _ _ _ _ _ us hl => match us, hl with | [_, _], _ => rfl
  have b_Ring___eq__ : L2.Binds K fd_Ring___eq__ ["self", "other"] [] := F_Ring___eq__.bindsN fun _ _ _ _ _ _ us hl => match us, hl with | [_, _], _ => rfl
  obtain ⟨⟨ds_many, v2_Ring_many, b2_Ring_many⟩, b_Ring_many⟩ := dfl_of (c := "Ring") (x := "many") (st := s_Ring_many) F_Ring_many (fun T kV doc pm an cdv ct us its h1 h2 => match us, its, h1, h2 with | [_, _], [_], _, _ => ⟨_, rfl, rfl⟩) (fun T kV doc pm an cdv ct us its h1 h2 => match us, its, h1, h2 with | [_, _, _], [_], _, _ => ⟨_, rfl, rfl⟩)
  obtain ⟨⟨ds_power, v2_Ring_power, b2_Ring_power⟩, b_Ring_power⟩ := dfl_of (c := "Ring") (x := "power") (st := s_Ring_power) F_Ring_power (fun T kV doc pm an cdv ct us its h1 h2 => match us, its, h1, h2 with | [_, _], [_], _, _ => ⟨_, rfl, rfl⟩) (fun T kV doc pm an cdv ct us its h1 h2 => match us, its, h1, h2 with | [_, _, _], [_], _, _ => ⟨_, rfl, rfl⟩)
  have e := hfa.symm.trans g_law
  cases e
  have b := FunD.bindsA (ps := ["_law_script"]) F_law fun _ _ _ _ _ _ us hl => match us, hl with | [_], _ => rfl
  refine ⟨fd_law, fun s v => b s [v] rfl, fun base _ _ => ?_⟩
  have G_mixed : FnOk P w K mg base CX0 1 _ _ ["_law_cell", "_law_k"] spMix := ok_mixed F_mixed
  have G_draw : FnOk P w K mg base CX0 2 _ _ ["_law_m", "_law_many"] spDraw := ok_draw F_draw F_mixed g_mixed z_len
  have G_folded : FnOk P w K mg base CX0 1 _ _ ["_law_script"] (spFolded K) := ok_folded F_folded z_range z_enumerate
  have G_begun : FnOk P w K mg base CX0 2 _ _ ["_law_script"] (spBegun K) := ok_begun F_begun F_folded g_folded z_range z_enumerate
  have G__joined : FnOk P w K mg base CX0 1 _ _ ["table", "things"] spJoin := ok__joined F__joined
  have G__sum_turned : FnOk P w K mg base CX0 1 _ _ ["sums", "products", "things"] (spHold 0) := ok__sum_turned F__sum_turned
  have G__product_turned : FnOk P w K mg base CX0 1 _ _ ["sums", "products", "things"] (spHold 3) := ok__product_turned F__product_turned
  have G__sum_joined : FnOk P w K mg base CX0 2 _ _ ["sums", "products", "things"] (spHold 1) := ok__sum_joined F__sum_joined F__joined g__joined
  have G__product_joined : FnOk P w K mg base CX0 2 _ _ ["sums", "products", "things"] (spHold 4) := ok__product_joined F__product_joined F__joined g__joined
  have G__zero : FnOk P w K mg base CX0 1 _ _ ["sums", "products", "things"] (spHold 2) := ok__zero F__zero
  have G__one : FnOk P w K mg base CX0 1 _ _ ["sums", "products", "things"] (spHold 5) := ok__one F__one
  have G__nought : FnOk P w K mg base CX0 1 _ _ ["sums", "products", "things"] (spHold 6) := ok__nought F__nought
  have G__spread : FnOk P w K mg base CX0 1 _ _ ["sums", "products", "things"] (spHold 7) := ok__spread F__spread
  have G__rows : FnOk P w K mg base CX0 1 _ _ ["size", "many"] spRows := ok__rows F__rows z_range
  have hA : ∀ f sp, spOf8 (fR K) f = some sp → Held P w K mg base 2 f sp := fun f sp hs => by
    unfold spOf8 at hs
    obtain ⟨i, hi, rfl⟩ := Option.map_eq_some_iff.mp hs
    have h8 := List.mem_range.mp (List.mem_of_find?_eq_some hi)
    have he := List.find?_some (p := fun j => decide (fR K j = f)) hi
    obtain rfl := of_decide_eq_true he
    match i, h8 with
    | 0, _ => exact ⟨fd__sum_turned, ["sums", "products", "things"], (G__sum_turned).mono (by decide), F__sum_turned.kp, F__sum_turned.bindsN fun _ _ _ _ _ _ us hl => match us, hl with | [_, _, _], _ => rfl⟩
    | 1, _ => exact ⟨fd__sum_joined, ["sums", "products", "things"], G__sum_joined, F__sum_joined.kp, F__sum_joined.bindsN fun _ _ _ _ _ _ us hl => match us, hl with | [_, _, _], _ => rfl⟩
    | 2, _ => exact ⟨fd__zero, ["sums", "products", "things"], (G__zero).mono (by decide), F__zero.kp, F__zero.bindsN fun _ _ _ _ _ _ us hl => match us, hl with | [_, _, _], _ => rfl⟩
    | 3, _ => exact ⟨fd__product_turned, ["sums", "products", "things"], (G__product_turned).mono (by decide), F__product_turned.kp, F__product_turned.bindsN fun _ _ _ _ _ _ us hl => match us, hl with | [_, _, _], _ => rfl⟩
    | 4, _ => exact ⟨fd__product_joined, ["sums", "products", "things"], G__product_joined, F__product_joined.kp, F__product_joined.bindsN fun _ _ _ _ _ _ us hl => match us, hl with | [_, _, _], _ => rfl⟩
    | 5, _ => exact ⟨fd__one, ["sums", "products", "things"], (G__one).mono (by decide), F__one.kp, F__one.bindsN fun _ _ _ _ _ _ us hl => match us, hl with | [_, _, _], _ => rfl⟩
    | 6, _ => exact ⟨fd__nought, ["sums", "products", "things"], (G__nought).mono (by decide), F__nought.kp, F__nought.bindsN fun _ _ _ _ _ _ us hl => match us, hl with | [_, _, _], _ => rfl⟩
    | 7, _ => exact ⟨fd__spread, ["sums", "products", "things"], (G__spread).mono (by decide), F__spread.kp, F__spread.bindsN fun _ _ _ _ _ _ us hl => match us, hl with | [_, _, _], _ => rfl⟩
  have G_first_broken : FnOk P w K mg base CX0 3 _ _ ["sums", "products"] spFirst := ok_first_broken F_first_broken F__rows g__rows G__rows RU hA z_len
  have G_is_number : FnOk P w K mg base CX0 1 _ _ ["thing"] spNumI := ok_is_number F_is_number z_isinstance z_int z_bool
  have G__tables : FnOk P w K mg base CX0 4 _ _ ["made"] (spTables 4) := ok__tables F__tables g__tables 4 (by decide)
  have G_base : FnOk P w K mg base CX0 1 _ _ ["_law_way", "_law_side", "_law_period", "_law_a", "_law_b", "_law_is_sum"] spBase := ok_base F_base z_list z_range z_max z_min
  have G_table : FnOk P w K mg base CX0 3 _ _ ["_law_m"] spTable := ok_table F_table F_draw g_draw G_draw F_base g_base G_base z_range z_tuple z_list z_len
  have G_Kind_init : FnOk P w K mg base CX0 1 _ _ ["self", "text", "zero", "one"] (spKind K) := ok_Kind_init F_Kind_init
  have G_Counted_init : FnOk P w K mg base CX0 2 _ _ ["self", "text", "zero", "one", "others"] (spCounted K) := ok_Counted_init F_Counted_init F_Kind_init G_Kind_init B_Kind
  have G_Finite_init : FnOk P w K mg base CX0 3 _ _ ["self", "text", "size"] (spFinite K) := ok_Finite_init F_Finite_init F_Counted_init G_Counted_init B_Counted
  have G_Truth_init : FnOk P w K mg base CX0 2 _ _ ["self"] (spTruth K) := ok_Truth_init F_Truth_init F_Kind_init G_Kind_init B_Topped
  have G_Table_init : FnOk P w K mg base CX0 4 _ _ ["self", "sums", "products"] (spTabI K) := ok_Table_init F_Table_init F_Finite_init G_Finite_init B_Finite z_str z_len
  have G_Kind_text : FnOk P w K mg base CX0 1 _ _ ["self"] (spGet K "_text") := ok_Kind_text F_Kind_text
  have G_Kind_zero : FnOk P w K mg base CX0 1 _ _ ["self"] (spGet K "_zero") := ok_Kind_zero F_Kind_zero
  have G_Kind_one : FnOk P w K mg base CX0 1 _ _ ["self"] (spGet K "_one") := ok_Kind_one F_Kind_one
  have G_Ring_made : FnOk P w K mg base CX0 1 _ _ ["self"] (spGet K "_made") := ok_Ring_made F_Ring_made
  have G_Finite_fits : FnOk P w K mg base CX0 1 _ _ ["self", "number"] (spFits K) := ok_Finite_fits F_Finite_fits
  have G_Table_plus : FnOk P w K mg base CX0 1 _ _ ["self", "a", "b"] (spCell K "_sums") := ok_Table_plus F_Table_plus
  have G_Table_times : FnOk P w K mg base CX0 1 _ _ ["self", "a", "b"] (spCell K "_products") := ok_Table_times F_Table_times
  have G_Counted_good : FnOk P w K mg base CX0 2 _ _ ["self", "thing"] (spGood K (He.ga K "Table")) := ok_Counted_good F_Counted_good F_is_number g_is_number G_is_number F_Finite_fits G_Finite_fits okT m_Finite_fits z_isinstance z_str
  have G_Ring_need : FnOk P w K mg base CX0 3 _ _ ["self", "thing"] (spNeed (He.ga K "Ring") (He.ga K "Table")) := ok_Ring_need F_Ring_need okR okT F_Counted_good G_Counted_good m_Counted_good
  have G_Ring_plus : FnOk P w K mg base CX0 4 _ _ ["self", "a", "b"] (spRSum (He.ga K "Ring") (He.ga K "Table") true) := ok_Ring_plus F_Ring_plus okR okT F_Ring_need G_Ring_need m_Ring_need F_Table_plus G_Table_plus m_Table_plus
  have G_Ring_times : FnOk P w K mg base CX0 4 _ _ ["self", "a", "b"] (spRSum (He.ga K "Ring") (He.ga K "Table") false) := ok_Ring_times F_Ring_times okR okT F_Ring_need G_Ring_need m_Ring_need F_Table_times G_Table_times m_Table_times
  have A_text : ∀ C sp, S3 (He.ga K "Table") (He.ga K "Truth") (He.ga K "Pair") (spGet K "_text") C = some sp → HeldM P w K mg base 1 "text" C sp := fun C sp hs => by
    unfold S3 at hs
    split at hs
    · cases hs
      rename_i hC
      rcases hC with rfl | rfl | rfl
      · exact ⟨okT.cls, _, fd_Kind_text, ["self"], MM "Table" "text" "Kind" (by decide), G_Kind_text, b_Kind_text⟩
      · exact ⟨okU.cls, _, fd_Kind_text, ["self"], MM "Truth" "text" "Kind" (by decide), G_Kind_text, b_Kind_text⟩
      · exact ⟨okP.cls, _, fd_Kind_text, ["self"], MM "Pair" "text" "Kind" (by decide), G_Kind_text, b_Kind_text⟩
    · cases hs
  have A_zero : ∀ C sp, S3 (He.ga K "Table") (He.ga K "Truth") (He.ga K "Pair") (spGet K "_zero") C = some sp → HeldM P w K mg base 1 "zero" C sp := fun C sp hs => by
    unfold S3 at hs
    split at hs
    · cases hs
      rename_i hC
      rcases hC with rfl | rfl | rfl
      · exact ⟨okT.cls, _, fd_Kind_zero, ["self"], MM "Table" "zero" "Kind" (by decide), G_Kind_zero, b_Kind_zero⟩
      · exact ⟨okU.cls, _, fd_Kind_zero, ["self"], MM "Truth" "zero" "Kind" (by decide), G_Kind_zero, b_Kind_zero⟩
      · exact ⟨okP.cls, _, fd_Kind_zero, ["self"], MM "Pair" "zero" "Kind" (by decide), G_Kind_zero, b_Kind_zero⟩
    · cases hs
  have A_one : ∀ C sp, S3 (He.ga K "Table") (He.ga K "Truth") (He.ga K "Pair") (spGet K "_one") C = some sp → HeldM P w K mg base 1 "one" C sp := fun C sp hs => by
    unfold S3 at hs
    split at hs
    · cases hs
      rename_i hC
      rcases hC with rfl | rfl | rfl
      · exact ⟨okT.cls, _, fd_Kind_one, ["self"], MM "Table" "one" "Kind" (by decide), G_Kind_one, b_Kind_one⟩
      · exact ⟨okU.cls, _, fd_Kind_one, ["self"], MM "Truth" "one" "Kind" (by decide), G_Kind_one, b_Kind_one⟩
      · exact ⟨okP.cls, _, fd_Kind_one, ["self"], MM "Pair" "one" "Kind" (by decide), G_Kind_one, b_Kind_one⟩
    · cases hs
  have G_Pair_init : FnOk P w K mg base CX0 2 _ _ ["self", "left", "right"] (spPairI K (He.ga K "Table") (He.ga K "Truth") (He.ga K "Pair")) := ok_Pair_init F_Pair_init okT okU okP A_text A_zero A_one F_Kind_init G_Kind_init B_Kind
  have G__bare_kind : FnOk P w K mg base CX0 4 _ _ ["name"] (spBare (He.ga K "Table") (He.ga K "Truth") (He.ga K "Pair")) := ok__bare_kind F__bare_kind okT okU okP F_Truth_init G_Truth_init M_Truth g_Truth
  have G_kind_of : FnOk P w K mg base CX0 10 _ _ ["made"] (spKindOf (He.ga K "Table") (He.ga K "Truth") (He.ga K "Pair") 4) := ok_kind_of F_kind_of g_kind_of okT okU okP F_Pair_init G_Pair_init M_Pair g_Pair F_Table_init G_Table_init M_Table g_Table F__bare_kind g__bare_kind G__bare_kind z_len 4 (by decide)
  have G_Ring_init : FnOk P w K mg base CX0 11 _ _ ["self", "made"] (spRingI (He.ga K "Ring") (He.ga K "Table") (He.ga K "Truth") (He.ga K "Pair") 4) := ok_Ring_init F_Ring_init okT okU okP okR F_kind_of g_kind_of G_kind_of
  have G_P_is_number : FnOk P w K mg base CX0 1 _ _ ["thing"] (spNumP K) := ok_P_is_number F_is_number z_isinstance z_int z_bool
  have G_P_is_whole : FnOk P w K mg base CX0 2 _ _ ["thing", "least", "most"] (spWholeP K) := ok_P_is_whole F_is_whole F_is_number g_is_number G_P_is_number
  have G_P_Counted_good : FnOk P w K mg base CX0 2 _ _ ["self", "thing"] (spGoodP K (He.ga K "Table")) := ok_P_Counted_good F_Counted_good F_is_number g_is_number G_P_is_number F_Finite_fits G_Finite_fits okT m_Finite_fits z_isinstance z_str
  have G_P_Ring_need : FnOk P w K mg base (L2.CX P w) 3 _ _ ["self", "thing"] (spNeedP K (He.ga K "Ring") (He.ga K "Table") (He.ga K "BadWeight")) := ok_P_Ring_need F_Ring_need okR okT F_Counted_good G_P_Counted_good m_Counted_good O_BadWeight
  have G_T__is_row : FnOk P w K mg base CX0 3 _ _ ["thing", "size"] spRowT := ok_T__is_row F__is_row F_is_whole g_is_whole G_P_is_whole z_isinstance z_tuple z_len z_all
  have G_T__is_table : FnOk P w K mg base CX0 4 _ _ ["thing", "size"] spTableT := ok_T__is_table F__is_table F__is_row g__is_row G_T__is_row z_isinstance z_tuple z_len z_all
  have G_T__are_tables : FnOk P w K mg base CX0 5 _ _ ["sums", "products"] spTwoT := ok_T__are_tables F__are_tables F_is_whole g_is_whole G_P_is_whole F__is_table g__is_table G_T__is_table TH z_isinstance z_tuple z_len
  have G_T__has_form : FnOk P w K mg base CX0 9 _ _ ["made", "deep"] (spFormT 4) := ok_T__has_form F__has_form g__has_form F_is_whole g_is_whole G_P_is_whole F__are_tables g__are_tables G_T__are_tables SZ BA z_isinstance z_tuple z_len z_str 4
  have G_T_ring_of : FnOk P w K mg base (L2.CX P w) 13 _ _ ["made"] (spRing9 (He.ga K "Ring") (He.ga K "Table") (He.ga K "BadRing")) := ok_T_ring_of F_ring_of okR F__has_form g__has_form G_T__has_form F__tables g__tables G__tables F_first_broken g_first_broken G_first_broken F_Ring_init G_Ring_init M_Ring g_Ring O_BadRing g_PAIRS
  have G_B_Ring_star : FnOk P w K mg base (L2.CX P w) 4 _ _ ["self", "a"] (spBad1 K (He.ga K "Ring") (He.ga K "Table") (He.ga K "BadWeight")) := ok_B_Ring_star F_Ring_star okR F_Ring_need G_P_Ring_need m_Ring_need
  have G_B_Ring_written : FnOk P w K mg base (L2.CX P w) 4 _ _ ["self", "a"] (spBad1 K (He.ga K "Ring") (He.ga K "Table") (He.ga K "BadWeight")) := ok_B_Ring_written F_Ring_written okR F_Ring_need G_P_Ring_need m_Ring_need
  have G_B_Ring_many : FnOk P w K mg base (L2.CX P w) 4 _ _ ["self", "a", "count"] (spBadC K (He.ga K "Ring") (He.ga K "Table") (He.ga K "BadWeight")) := ok_B_Ring_many F_Ring_many okR F_Ring_need G_P_Ring_need m_Ring_need
  have G_B_Ring_power : FnOk P w K mg base (L2.CX P w) 4 _ _ ["self", "a", "count"] (spBadC K (He.ga K "Ring") (He.ga K "Table") (He.ga K "BadWeight")) := ok_B_Ring_power F_Ring_power okR F_Ring_need G_P_Ring_need m_Ring_need
  have G_B_Ring_plus : FnOk P w K mg base (L2.CX P w) 4 _ _ ["self", "a", "b"] (spBad2 K (He.ga K "Ring") (He.ga K "Table") (He.ga K "BadWeight")) := ok_B_Ring_plus F_Ring_plus okR F_Ring_need G_P_Ring_need m_Ring_need
  have G_B_Ring_times : FnOk P w K mg base (L2.CX P w) 4 _ _ ["self", "a", "b"] (spBad2 K (He.ga K "Ring") (He.ga K "Table") (He.ga K "BadWeight")) := ok_B_Ring_times F_Ring_times okR F_Ring_need G_P_Ring_need m_Ring_need
  have G_B_Ring__need_list : FnOk P w K mg base (L2.CX P w) 4 _ _ ["self", "weights"] (spBadL K (He.ga K "Ring") (He.ga K "Table") (He.ga K "BadWeight")) := ok_B_Ring__need_list F_Ring__need_list okR F_Ring_need G_P_Ring_need m_Ring_need z_isinstance z_list
  have G_B_Ring_total : FnOk P w K mg base (L2.CX P w) 5 _ _ ["self", "weights"] (spBadL K (He.ga K "Ring") (He.ga K "Table") (He.ga K "BadWeight")) := ok_B_Ring_total F_Ring_total okR F_Ring__need_list G_B_Ring__need_list m_Ring__need_list
  have G_B_Ring_product : FnOk P w K mg base (L2.CX P w) 5 _ _ ["self", "weights"] (spBadL K (He.ga K "Ring") (He.ga K "Table") (He.ga K "BadWeight")) := ok_B_Ring_product F_Ring_product okR F_Ring__need_list G_B_Ring__need_list m_Ring__need_list
  have G_family : FnS P w K mg base 1 _ _ ["_law_e"] (spFam K (He.ga K "Refused") (He.ga K "Unreckoned") (He.ga K "Unknown")) := ok_family F_family T9 z_isinstance z_ValueError
  have G_answer : FnOk P w K mg base (L2.CX P w) 6 _ _ ["_law_base_here", "_law_way", "_law_good", "_law_bad"] (spAnswer K (He.ga K "Ring") (He.ga K "Table") (He.ga K "BadWeight")) := ok_answer F_answer okR b_Ring_plus G_B_Ring_plus m_Ring_plus b_Ring_times G_B_Ring_times m_Ring_times b_Ring_star G_B_Ring_star m_Ring_star b2_Ring_many v2_Ring_many G_B_Ring_many m_Ring_many b2_Ring_power v2_Ring_power G_B_Ring_power m_Ring_power b_Ring_total G_B_Ring_total m_Ring_total b_Ring_product G_B_Ring_product m_Ring_product b_Ring_written G_B_Ring_written m_Ring_written
  have G_weighed : FnOk P w K mg base CX0 8 _ _ ["_law_base_here", "_law_way", "_law_good", "_law_bad"] (spWeighed K (He.ga K "Ring") (He.ga K "Table")) := ok_weighed F_weighed F_answer g_answer G_answer F_family g_family G_family T9 z_isinstance z_repr
  have G_made : FnOk P w K mg base CX0 15 _ _ ["_law_thing"] (spMade9 (He.ga K "Ring") (He.ga K "Table")) := ok_made F_made F_ring_of g_ring_of G_T_ring_of F_family g_family G_family T9 z_isinstance
  have G_put : FnOk P w K mg base CX0 1 _ _ ["_law_made_here", "_law_at", "_law_row", "_law_place", "_law_thing"] spPut := ok_put F_put z_list z_tuple
  have G_rowsT : FnOk P w K mg base CX0 1 _ _ ["_law_made_here", "_law_at", "_law_rows_here"] spRowsT := ok_rowsT F_rows z_tuple
  have G_spoilt : FnOk P w K mg base CX0 3 _ _ ["_law_m", "_law_made_here", "_law_way"] spSpoilt := ok_spoilt F_spoilt F_draw g_draw G_draw F_put g_put G_put F_rows g_rows G_rowsT z_len z_list z_tuple z_range
  have G_Kind_closed : FnOk P w K mg base CX0 1 _ _ ["self"] (spSay false) := ok_Kind_closed F_Kind_closed
  have G_Finite_few : FnOk P w K mg base CX0 1 _ _ ["self"] (spSay true) := ok_Finite_few F_Finite_few
  have G_Ring_zero : FnOk P w K mg base CX0 2 _ _ ["self"] (spR0 (He.ga K "Ring") (He.ga K "Table") (.int 0)) := ok_Ring_zero F_Ring_zero okR okT b_Kind_zero G_Kind_zero m_Kind_zero
  have G_Ring_one : FnOk P w K mg base CX0 2 _ _ ["self"] (spR0 (He.ga K "Ring") (He.ga K "Table") (.int 1)) := ok_Ring_one F_Ring_one okR okT b_Kind_one G_Kind_one m_Kind_one
  have G_Ring_is_closed : FnOk P w K mg base CX0 2 _ _ ["self"] (spR0 (He.ga K "Ring") (He.ga K "Table") (.bl false)) := ok_Ring_is_closed F_Ring_is_closed okR okT b_Kind_closed G_Kind_closed m_Kind_closed
  have G_Ring_is_few : FnOk P w K mg base CX0 2 _ _ ["self"] (spR0 (He.ga K "Ring") (He.ga K "Table") (.bl true)) := ok_Ring_is_few F_Ring_is_few okR okT b_Finite_few G_Finite_few m_Finite_few
  have G_Ring_good : FnOk P w K mg base CX0 3 _ _ ["self", "thing"] (spRGood K (He.ga K "Ring") (He.ga K "Table")) := ok_Ring_good F_Ring_good okR okT b_Counted_good G_P_Counted_good m_Counted_good
  have G_Ring___eq__ : FnOk P w K mg base CX0 1 _ _ ["self", "other"] (spREq (He.ga K "Ring") (He.ga K "Table")) := ok_Ring___eq__ F_Ring___eq__ okR TR g_Ring z_isinstance
  have G_hold : FnG P w K mg base CX0 15 _ _ ["_law_base_here", "_law_made_here"] (spReck (He.ga K "Ring") (He.ga K "Table")) := ok_hold F_tables_hold okR b_Ring_zero G_Ring_zero m_Ring_zero b_Ring_one G_Ring_one m_Ring_one b_Ring_is_closed G_Ring_is_closed m_Ring_is_closed b_Ring_is_few G_Ring_is_few m_Ring_is_few b_Ring_made G_Ring_made m_Ring_made b_Ring_good G_Ring_good m_Ring_good b_Ring_plus G_Ring_plus m_Ring_plus b_Ring_times G_Ring_times m_Ring_times b_Ring___eq__ G_Ring___eq__ TR F_ring_of g_ring_of G_T_ring_of z_len z_repr z_range z_all
  exact ok_law F_law okR TR F_begun g_begun G_begun F_draw g_draw G_draw F_table g_table G_table F_made g_made G_made F_tables_hold g_tables_hold G_hold F_weighed g_weighed G_weighed F_spoilt g_spoilt G_spoilt z_len z_range z_isinstance z_tuple
theorem walk09 {l : PySem.W.OpenLaw} {q : Program} {loose : List Str} {XP : (Str → Option Value) → Heap → Prop} {YP : World → Heap → Prop} {d : DefRec} (hn : l.most = some 63) (hdf : d.params.defaults = [])
    (F : ∀ (w : World) (mg : Str → Option Value) (fa : Addr) (h : Heap), YP w h → h.Ns mainGlobals mg → mg d.name = some (.ref fa) →
      ∃ K : PySem.W.Frag, K.In h ∧ ∃ fd : FuncData, (∀ (s : Shared) (u : Value), BindsTo s fd ⟨[u], []⟩ [("_law_script", u)]) ∧ ∀ base : Heap, K.In base → base.Ns mainGlobals mg → FnG l.prog w K mg base CX0 16 fa fd ["_law_script"] (spLaw K)) :
    PySem.W.WalkO q loose XP YP l.row.toRowW d [] (fun f vs => PySem.call f vs) := by
  refine Att.attach_callB hn hdf fun w s₀ s₁ mg mb fa o pm cd doc a vs ns G Y ho hd hcd hmg hobj hints hlen hbits hg => ?_
  obtain ⟨K, KX, fd, hb, hF⟩ := F w mg fa _ Y G.T.g hmg
  exact law_callG KX G.T.g G.T.b G.T.builtins G.T.nolimit hg hobj hints (Nat.le_trans hlen (by decide)) ⟨rfl, by decide, by decide⟩ hF hb (fun H hH hS => ⟨a, ns, rfl, hS, hlen, fun _ => rfl⟩) fun H e s' z => z
end D1
open PySem PySem.W PySem.Calls PyProof.Rows
set_option maxHeartbeats 0
theorem PySem.Challenge.cw_semirail_k09_tables_made_and_refused_holds : PySem.Challenge.rw_semirail_k09_tables_made_and_refused.Holds := by
  w_on; o_law
  refine HandSHeadRun.head_imp (r := OpenLaw.row PySem.Challenge.rw_semirail_k09_tables_made_and_refused) (q := view (OpenLaw.row PySem.Challenge.rw_semirail_k09_tables_made_and_refused).prog [0, 88]) (H := W09.hk) (ob := W09.ob) (M := 20000) (loose := W09.names) (d := HandSHeadRun.topDef (OpenLaw.row PySem.Challenge.rw_semirail_k09_tables_made_and_refused).prog 88) (kwd := []) W09.ob_eq
    W09.run (by kernel_rfl) (by kernel_rfl) (by kernel_rfl) (by rfl) (by first | assumption | decide +kernel) (by decide +kernel) ⟨rfl, rfl, rfl, rfl, rfl, by decide +kernel⟩ ?hw ?hc
  case hw => w_witness2
  case hc =>
    refine D1.walk09 (l := PySem.Challenge.rw_semirail_k09_tables_made_and_refused) rfl (by kernel_rfl) ?F
    intro w mg fa h Y G hmg0
    obtain ⟨K, KX, c⟩ := Y
    have hmg : mg ("law" : PySem.Str) = some (.ref fa) := by
      have e : (HandSHeadRun.topDef (OpenLaw.row PySem.Challenge.rw_semirail_k09_tables_made_and_refused).prog 88).name = ("law" : PySem.Str) := by kernel_rfl
      rw [← e]
      exact hmg0
    exact ⟨K, KX, D1.facts (P := (PySem.Challenge.rw_semirail_k09_tables_made_and_refused).prog) (w := w) KX G hmg c⟩
end
