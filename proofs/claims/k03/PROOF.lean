import PyProof.Rows.All
import Wide.All
import OpenK.AllK
import Wide.FinOn
import PyProof.EqAt
import PyProof.EqKinds
import PyProof.TupleCall
import PyProof.ReprRoads
import HandS.ForMost
import HandS.ForExc
import HandS.Walk
import HandS.Evl
import HandS.Defaults
import HandS.StrMore
import HandS.Wide
import HandS.SortInts
import HandS.Zip
import HandS.IsInst
import HandS.NoneIn
import KE.GoesZip
import HandS.Keys
import KE.KExcInit
import HandS.ExcInit
import HandS.ExcValue
import KE.KExcIs
import HandS.ExcField
import HandS.ExcIs
import HandS.Lambda
import HandS.SortKw
import KE.SortKeyHeap
import KE.KTryMore
import PyProof.ReprLen
import PyProof.ListStr
import HandS.Head0
import HandS.Head1
import HandS.Head2
import HandS.HeadEnd
import HandS.HeadHook1
import HandS.HeadHook2
import HandS.HeadHook3
import HandS.HeadHook4
import KE.KStateDown
import HandS.Base
import HandS.Call
import HandS.Ends
import HandS.More
import HandS.Words
import HandS.WordsExc
import HandS.EndBits
import HandS.EndTab
import HandS.HeadWalk
import PySem.Challenge.RW_semirail_k03_words_in_order
section
set_option Elab.async false
set_option linter.all false
set_option maxRecDepth 100000
set_option maxHeartbeats 4000000
/-! B0: frames: what may change (mut) with an invariant (inv) of it -/
namespace D1
open PySem L2 Evl
/-- addresses that may change, and what is always true of them -/
structure Fr where
  chg : Addr → Prop
  inv : Hp → Prop
  mono : ∀ H H', Ex H H' → inv H → inv H'
  live : ∀ H b, inv H → chg b → H b ≠ none
/-- from H to H': the invariant holds behind, all else stays -/
structure Fr.R (F : Fr) (H H' : Hp) : Prop where
  inv : F.inv H'
  keep : ∀ b o, ¬F.chg b → H b = some o → H' b = some o
theorem Fr.R.trans {F : Fr} {H H1 H2 : Hp} (a : F.R H H1) (b : F.R H1 H2) : F.R H H2 := ⟨b.inv, fun c o n e => b.keep c o n (a.keep c o n e)⟩
theorem Fr.R.refl {F : Fr} {H : Hp} (h : F.inv H) : F.R H H := ⟨h, fun _ _ _ e => e⟩
theorem Fr.R.ex {F : Fr} {H H' : Hp} (h : F.inv H) (e : Ex H H') : F.R H H' := ⟨F.mono H H' e h, fun b o _ x => e b o x⟩
theorem Fr.R.new {F : Fr} {H : Hp} {p : Addr} {o : HO} (h : F.inv H) (hp : H p = none) : F.R H (upd H p o) := .ex h (.new hp)
theorem Fr.fresh {F : Fr} {H : Hp} {p : Addr} (h : F.inv H) (hp : H p = none) : ¬F.chg p := fun m => F.live H p h m hp
/-- an object of one's own changes -/
theorem Fr.R.set {F : Fr} {H H1 : Hp} {p : Addr} {o : HO} (hinv : F.inv (upd H1 p o)) (r : F.R H H1) (hp : H p = none) : F.R H (upd H1 p o) := ⟨hinv, fun b u n e => by
  rw [upd_ne (ne_of_none e hp)]
  exact r.keep b u n e⟩
theorem yes_of {c : Bool} {A B : Prop} (hc : c = true) (h : A) : if c = true then A else B := by
  rw [if_pos hc]
  exact h
theorem no_of {c : Bool} {A B : Prop} (hc : c = false) (h : B) : if c = true then A else B := by
  rw [hc, if_neg Bool.false_ne_true]
  exact h
theorem atI_of {xs : List V} {i : Int} {v : V} (h0 : 0 ≤ i) (h : xs[i.toNat]? = some v) : atI xs i = some v := by
  have e1 : i = (i.toNat : Int) := by omega
  generalize i.toNat = j at e1 h
  subst e1
  exact atI_nat h
theorem seq0 {n : Nat} (h : 0 < n) : seqIndex? 0 n = some 0 := by
  unfold seqIndex?
  first
    | rfl
    | simp [h]
/-! ### the state of draws -/
def MD (L C : Addr) (r k : Int) : List (Key × V) := [(.inr "left", .ref L), (.inr "cells", .ref C), (.inr "run", .int r), (.inr "at", .int k)]
structure MS (m L C : Addr) (H : Hp) : Prop where
  ne : L ≠ C
  ex : ∃ (ls cs : List Int) (r k : Int), H m = some (.dK (MD L C r k)) ∧ H L = some (.lst (ls.map V.int)) ∧ H C = some (.lst (cs.map V.int)) ∧ cs.length = 63 ∧ (∀ c ∈ cs, 0 ≤ c ∧ c < 2147483629) ∧ ls.length ≤ 63 ∧ 0 ≤ r ∧ r < 2147483647 ∧ 0 ≤ k
def frM (m L C : Addr) : Fr where
  chg := fun b => b = m ∨ b = L
  inv := MS m L C
  mono := fun H H' e h => by
    obtain ⟨n, ls, cs, r, k, h1, h2, h3, q⟩ := h
    exact ⟨n, ls, cs, r, k, e _ _ h1, e _ _ h2, e _ _ h3, q⟩
  live := fun H b h => by
    obtain ⟨n, ls, cs, r, k, h1, h2, h3, q⟩ := h
    rintro (rfl | rfl)
    · rw [h1]
      exact Option.some_ne_none _
    · rw [h2]
      exact Option.some_ne_none _
theorem val_left {L C : Addr} {r k : Int} : valV (MD L C r k) (.inr "left") = some (.ref L) := rfl
theorem val_cells {L C : Addr} {r k : Int} : valV (MD L C r k) (.inr "cells") = some (.ref C) := rfl
theorem val_run {L C : Addr} {r k : Int} : valV (MD L C r k) (.inr "run") = some (.int r) := rfl
theorem val_at {L C : Addr} {r k : Int} : valV (MD L C r k) (.inr "at") = some (.int k) := rfl
theorem put_run {L C : Addr} {r k x : Int} : putK (MD L C r k) (.inr "run") (.int x) = MD L C x k := rfl
theorem put_at {L C : Addr} {r k x : Int} : putK (MD L C r k) (.inr "at") (.int x) = MD L C r x := rfl
end D1
end
section
set_option Elab.async false
set_option linter.all false
set_option maxRecDepth 100000
set_option maxHeartbeats 4000000
/-! D1: the draws -/
namespace D1
open PySem L2 Evl
abbrev theProg : Program := PySem.Challenge.pw_semirail_k03_words_in_order
def top (i : Nat) : Stmt := theProg.main.body.getD i (.Pass ⟨0, 0, 0, 0⟩)
abbrev FnP (K : PySem.W.Frag) (x : Str) (st : Stmt) (f : Addr) (fd : FuncData) : Prop := FunD K x x (defArgs st) (defBody st) (defScope st) [] [] f fd
abbrev sMixed : Stmt := top 16
/-! ### what is reckoned -/
def mixN (c k : Int) : Int := (c % 2147483629 + 7919 * k * k + 104729 * k + 17) * 48271 % 2147483647
def mixed (c k : Int) : Int := mixN c k * (mixN c k + 2 * k + 5) % 2147483629 / 16
theorem mixN_ge (c k : Int) : 0 ≤ mixN c k := Int.emod_nonneg _ (by decide)
theorem mixN_lt (c k : Int) : mixN c k < 2147483647 := Int.emod_lt_of_pos _ (by decide)
def spMix : Sp := fun vs H Q _ => ∃ (c k : Int), vs = [.int c, .int k] ∧ 0 ≤ k ∧ k ≤ 1000 ∧ ∀ i : Int, Q (.int i) H
section
variable {P : Program} {w : World} {K : PySem.W.Frag} {mg : Str → Option Value} {base : Heap}
theorem scMix : FnScope ["_law_cell", "_law_k", "_law_number"] ["_law_cell", "_law_k"] (defScope sMixed) := ⟨rfl, rfl, rfl, by decide +kernel, rfl, by decide +kernel, by decide +kernel⟩
theorem ok_mix {f : Addr} {fd : FuncData} (F : FnP K "_law_mixed" sMixed f fd) : FnOk P w K mg base CX0 1 f fd ["_law_cell", "_law_k"] spMix := by
  refine F.ok scMix (fun vs H Q E h => ?_) (fun cdv A outer s H vs Q E hr h => ?_)
  · obtain ⟨c, k, rfl, _⟩ := h
    rfl
  · obtain ⟨c, k, rfl, h0, h1, q⟩ := h
    refine ⟨_, PSs.nox (pss_cons (ps_set (i := 2) scMix.nd rfl (Or.inl rfl) (pe_op op_mod (pe_op op_mul (pe_op op_add (pe_op op_add (pe_op op_add (pe_op op_mod (pv 0) pe_int) (pe_op op_mul (pe_op op_mul pe_int (pv 1)) (pv 1))) (pe_op op_mul pe_int (pv 1))) pe_int) pe_int) pe_int))
      (pss_one (ps_ret (pe_op op_fdiv (pe_op op_mod (pe_op op_mul (pv 2) (pe_op op_add (pe_op op_add (pv 2) (pe_op op_mul pe_int (pv 1))) pe_int)) pe_int) pe_int)))), ?_⟩
    have m0 := mixN_ge c k
    have m1 := mixN_lt c k
    refine ⟨_, rfl, _, _, rfl, rfl, (by show (0 : Int) < 2147483629; decide), _, rfl, _, _, rfl, rfl, .inl ⟨by decide, by decide⟩, _, rfl, _, _, rfl, rfl, .inr ⟨by omega, by omega⟩, _, _, rfl, rfl, _, rfl, _, _, rfl, rfl, .inl ⟨by decide, by decide⟩, _, _, rfl, rfl, _, _, rfl, rfl, _, _, rfl, rfl, .inr ⟨by decide, by decide⟩, _, _, rfl, rfl, (by show (0 : Int) < 2147483647; decide), ?_⟩
    refine ⟨_, rfl, _, rfl, _, rfl, _, _, rfl, rfl, .inl ⟨by decide, by decide⟩, _, _, rfl, rfl, _, _, rfl, rfl, _, _, rfl, rfl, .inl ⟨?_, ?_⟩, _, _, rfl, rfl, (by show (0 : Int) < 2147483629; decide), _, _, rfl, rfl, ⟨by decide, by decide⟩, ?_⟩
    · show -(2 ^ 64) < mixN c k
      omega
    · show mixN c k < 2 ^ 64
      omega
    · exact q _
/-! ### _law_draw -/
def spDraw : Sp := fun vs H Q _ => ∃ (m L C : Addr) (n : Int), vs = [.ref m, .int n] ∧ MS m L C H ∧ 0 < n ∧ n < 1000000 ∧ ∀ (d : Int) H', 0 ≤ d → d < n → (frM m L C).R H H' → Q (.int d) H'
theorem dp_ints {K : PySem.W.Frag} {H : Hp} : ∀ ls : List Int, DpAll K H (ls.map V.int) (ls.map PyData.int)
  | [] => .nil
  | _ :: r => .cons (.int _) (dp_ints r)
theorem eqv_nil (ls : List Int) : PyData.eqv (.list (ls.map PyData.int)) (.list []) = ls.isEmpty := by
  cases ls <;> rfl
abbrev s_draw : Stmt := top 18
theorem sc_draw : FnScope ["_law_m", "_law_many_here", "_law_k", "_law_cell"] ["_law_m", "_law_many_here"] (defScope s_draw) := ⟨rfl, rfl, rfl, by decide +kernel, rfl, by decide +kernel, by decide +kernel⟩
theorem ok_draw {f f_mixed : Addr} {fd fd_mixed : FuncData} (F : FnP K "_law_draw" s_draw f fd) (F_mixed : FnP K "_law_mixed" sMixed f_mixed fd_mixed) (g_mixed : mg "_law_mixed" = some (.ref f_mixed)) : FnOk P w K mg base CX0 2 f fd ["_law_m", "_law_many_here"] spDraw := by
  have G_mixed : FnOk P w K mg base CX0 1 f_mixed fd_mixed ["_law_cell", "_law_k"] spMix := ok_mix F_mixed
  have b_mixed : Binds K fd_mixed ["_law_cell", "_law_k"] [] := F_mixed.bindsN fun _ _ _ _ _ _ us hl => match us, hl with | [_, _], _ => rfl
  refine F.ok sc_draw (fun vs H Q E h => ?_) (fun cdv A outer s H vs Q E hr h => ?_)
  · obtain ⟨m, L, C, n, rfl, _⟩ := h
    rfl
  · obtain ⟨m, L, C, n, rfl, ⟨nLC, ls, cs, r, k, hm, hL, hC, hc, hcs, hl, r0, r1, k0⟩, n0, n1, q⟩ := h
    have hu := hu_of hr
    have hr_mixed := hr
    refine ⟨_, PSs.nox (pss_cons (ps_set (i := 2) sc_draw.nd rfl (Or.inl rfl) (pe_dget hu (pv 0) pe_str (fun _ _ => rfl)))
      (pss_cons (ps_dput hu (pv 0) pe_str (pe_op op_add (pv 2) pe_int) rfl)
      (pss_cons (ps_if (pt_cmpR (op_eqD hr.units) (pe_dget hu (pv 0) pe_str (fun _ _ => rfl)) (pe_lst pa_nil) (nomark _)) (pss_cons (ps_dput hu (pv 0) pe_str (pe_op op_mod (pe_op op_add (pe_op op_add (pe_op op_mul (pe_dget hu (pv 0) pe_str (fun _ _ => rfl)) pe_int) (pe_ix ix_list (pe_dget hu (pv 0) pe_str (fun _ _ => rfl)) (pe_op op_mod (pv 2) pe_int) (fun _ _ => rfl))) (pv 2)) pe_int) rfl)
      (pss_one (ps_ret (pe_op op_mod (pe_call G_mixed hr_mixed rfl g_mixed F_mixed.kp b_mixed .nil pass0 (pa_cons (pe_call G_mixed hr_mixed rfl g_mixed F_mixed.kp b_mixed .nil pass0 (pa_cons (pe_dget hu (pv 0) pe_str (fun _ _ => rfl)) (pa_cons (pe_op op_mod (pv 2) pe_int) pa_nil))) (pa_cons (pe_op op_mod (pe_ix ix_list (pe_dget hu (pv 0) pe_str (fun _ _ => rfl)) (pe_op op_mod (pe_op op_add (pv 2) pe_int) pe_int) (fun _ _ => rfl)) pe_int) pa_nil))) (pv 1))))) pss_nil)
      (pss_cons (ps_set (i := 3) sc_draw.nd rfl (Or.inl rfl) (pe_bm PySem.F.plainAttrs_list PySem.F.slot_list_pop PySem.F.type_list_pop mt_popAt (pe_dget hu (pv 0) pe_str (fun _ _ => rfl)) (pa_cons pe_int pa_nil)))
      (pss_cons (ps_if (pt_cmpR op_gt (pe_op op_fdiv (pv 3) (pv 1)) pe_int (nomark _)) (pss_one (ps_expr (pe_bm PySem.F.plainAttrs_list PySem.F.slot_list_append PySem.F.type_list_append mt_append (pe_dget hu (pv 0) pe_str (fun _ _ => rfl)) (pa_cons (pe_op op_fdiv (pv 3) (pv 1)) pa_nil)))) pss_nil)
      (pss_one (ps_ret (pe_op op_mod (pv 3) (pv 1))))))))), ?_⟩
    have nmL : m ≠ L := fun z => by
      rw [z, hL] at hm
      cases hm
    have nmC : m ≠ C := fun z => by
      rw [z, hC] at hm
      cases hm
    refine ⟨_, rfl, m, .int k, rfl, DGet.k (k := .inr "at") hm, _, rfl, _, _, rfl, rfl, _, rfl, m, _, rfl, DPut.k (k := .inr "at") hm (by show 4 < sizeLine; decide), ?_⟩
    rw [put_at]
    have hm1 : (upd H m (.dK (MD L C r (k + 1)))) m = some (.dK (MD L C r (k + 1))) := upd_same
    have hL1 : (upd H m (.dK (MD L C r (k + 1)))) L = some (.lst (ls.map V.int)) := by rw [upd_ne (Ne.symm nmL)]; exact hL
    have hC1 : (upd H m (.dK (MD L C r (k + 1)))) C = some (.lst (cs.map V.int)) := by rw [upd_ne (Ne.symm nmC)]; exact hC
    refine ⟨_, rfl, m, .ref L, rfl, DGet.k (k := .inr "left") hm1, (by show 0 ≤ sizeLine; decide), fun e he => ?_⟩
    have eL : L ≠ e := ne_of_none hL1 he
    refine ⟨.list (ls.map PyData.int), .list [], .lst (.inl (.inl (by rw [upd_ne eL]; exact hL1))) (dp_ints ls), .lst (.inl (.inl upd_same)) .nil, PySem.W.shaped_ints ls, rfl, _, rfl, ?_⟩
    rw [eqv_nil]
    have me : m ≠ e := ne_of_none hm1 he
    have Ce : C ≠ e := ne_of_none hC1 he
    have hm2 : (upd (upd H m (.dK (MD L C r (k + 1)))) e (.lst [])) m = some (.dK (MD L C r (k + 1))) := by rw [upd_ne me]; exact hm1
    have hL2 : (upd (upd H m (.dK (MD L C r (k + 1)))) e (.lst [])) L = some (.lst (ls.map V.int)) := by rw [upd_ne eL]; exact hL1
    have hC2 : (upd (upd H m (.dK (MD L C r (k + 1)))) e (.lst [])) C = some (.lst (cs.map V.int)) := by rw [upd_ne Ce]; exact hC1
    have kp2 : ∀ b o, ¬(b = m ∨ b = L) → H b = some o → (upd (upd H m (.dK (MD L C r (k + 1)))) e (.lst [])) b = some o := fun b o nb ho => by
      have h1 : (upd H m (.dK (MD L C r (k + 1)))) b = some o := by rw [upd_ne (fun z => nb (.inl z))]; exact ho
      rw [upd_ne (ne_of_none h1 he)]
      exact h1
    have k63 : 0 ≤ k % 63 ∧ k % 63 < 63 := ⟨Int.emod_nonneg _ (by decide), Int.emod_lt_of_pos _ (by decide)⟩
    have j63 : 0 ≤ (k + 31) % 63 ∧ (k + 31) % 63 < 63 := ⟨Int.emod_nonneg _ (by decide), Int.emod_lt_of_pos _ (by decide)⟩
    have at63 : ∀ i : Int, 0 ≤ i → i < 63 → ∃ c ∈ cs, atI (cs.map V.int) i = some (.int c) := fun i i0 i1 => by
      have hi : i.toNat < cs.length := by omega
      refine ⟨cs[i.toNat], List.getElem_mem hi, ?_⟩
      exact atI_of i0 (by rw [List.getElem?_map, List.getElem?_eq_getElem hi]; rfl)
    generalize hG : (upd (upd H m (.dK (MD L C r (k + 1)))) e (.lst [])) = G at hm2 hL2 hC2 kp2 ⊢
    cases ls with
    | nil =>
      refine yes_of rfl ?_
      obtain ⟨c1, c1m, c1e⟩ := at63 _ k63.1 k63.2
      refine ⟨_, rfl, m, .int r, rfl, DGet.k (k := .inr "run") hm2, _, _, rfl, rfl, .inr ⟨by decide, by decide⟩, _, rfl, m, .ref C, rfl, DGet.k (k := .inr "cells") hm2, _, rfl, _, _, rfl, rfl, (by show (0 : Int) < 63; decide), C, _, _, _, rfl, rfl, SqL.of hC2, c1e, _, _, rfl, rfl, _, rfl, _, _, rfl, rfl, _, _, rfl, rfl, (by show (0 : Int) < 2147483647; decide), _, rfl, m, _, rfl, DPut.k (k := .inr "run") hm2 (by show 4 < sizeLine; decide), ?_⟩
      rw [put_run]
      generalize hr2 : (r * 48271 + c1 + k) % 2147483647 = r2
      have r20 : 0 ≤ r2 ∧ r2 < 2147483647 := by rw [← hr2]; exact ⟨Int.emod_nonneg _ (by decide), Int.emod_lt_of_pos _ (by decide)⟩
      have hm3 : (upd G m (.dK (MD L C r2 (k + 1)))) m = some (.dK (MD L C r2 (k + 1))) := upd_same
      have hL3 : (upd G m (.dK (MD L C r2 (k + 1)))) L = some (.lst (([] : List Int).map V.int)) := by rw [upd_ne (Ne.symm nmL)]; exact hL2
      have hC3 : (upd G m (.dK (MD L C r2 (k + 1)))) C = some (.lst (cs.map V.int)) := by rw [upd_ne (Ne.symm nmC)]; exact hC2
      have k64 : 0 ≤ k % 64 ∧ k % 64 < 64 := ⟨Int.emod_nonneg _ (by decide), Int.emod_lt_of_pos _ (by decide)⟩
      obtain ⟨c2, c2m, c2e⟩ := at63 _ j63.1 j63.2
      have c64 : 0 ≤ c2 % 64 ∧ c2 % 64 < 64 := ⟨Int.emod_nonneg _ (by decide), Int.emod_lt_of_pos _ (by decide)⟩
      refine ⟨_, rfl, m, .int r2, rfl, DGet.k (k := .inr "run") hm3, _, rfl, _, _, rfl, rfl, (by show (0 : Int) < 64; decide), _, _, rfl, k64.1, (by omega), fun i1 => ?_⟩
      refine ⟨_, rfl, m, .ref C, rfl, DGet.k (k := .inr "cells") hm3, _, rfl, _, _, rfl, rfl, _, _, rfl, rfl, (by show (0 : Int) < 63; decide), C, _, _, _, rfl, rfl, SqL.of hC3, c2e, _, _, rfl, rfl, (by show (0 : Int) < 64; decide), _, _, rfl, c64.1, (by omega), fun i2 => ?_⟩
      refine ⟨_, rfl, _, _, rfl, rfl, n0, ?_⟩
      refine q _ _ (Int.emod_nonneg _ (by omega)) (Int.emod_lt_of_pos _ n0) ⟨⟨nLC, [], cs, r2, k + 1, hm3, hL3, hC3, hc, hcs, by simp, r20.1, r20.2, by omega⟩, fun b o nb ho => ?_⟩
      rw [upd_ne (fun z => nb (.inl z))]
      exact kp2 b o nb ho
    | cons c ls =>
      refine no_of rfl ?_
      refine ⟨_, rfl, m, .ref L, rfl, DGet.k (k := .inr "left") hm2, .inl ⟨rfl, _, Or.inl (.inl hL2)⟩, L, _, 0, 0, .int c, rfl, rfl, hL2, by decide, by decide, ?_, rfl, ?_⟩
      · exact seq0 (by simp)
      · show _
        have z1 : (((c :: ls).map V.int).eraseIdx 0) = ls.map V.int := rfl
        rw [z1]
        have hm3 : (upd G L (.lst (ls.map V.int))) m = some (.dK (MD L C r (k + 1))) := by rw [upd_ne nmL]; exact hm2
        have hL3 : (upd G L (.lst (ls.map V.int))) L = some (.lst (ls.map V.int)) := upd_same
        have hC3 : (upd G L (.lst (ls.map V.int))) C = some (.lst (cs.map V.int)) := by rw [upd_ne (Ne.symm nLC)]; exact hC2
        have hl1 : ls.length ≤ 62 := by
          have := hl
          simp only [List.length_cons] at this
          omega
        have kp3 : ∀ b o, ¬(b = m ∨ b = L) → H b = some o → (upd G L (.lst (ls.map V.int))) b = some o := fun b o nb ho => by
          rw [upd_ne (fun z => nb (.inr z))]
          exact kp2 b o nb ho
        refine ⟨_, rfl, _, rfl, _, _, rfl, rfl, ⟨n0, by omega⟩, _, _, rfl, rfl, _, rfl, ?_⟩
        have fin : ∀ H', MS m L C H' → (∀ b o, ¬(b = m ∨ b = L) → H b = some o → H' b = some o) → Q (.int (c % n)) H' := fun H' a b => q _ _ (Int.emod_nonneg _ (by omega)) (Int.emod_lt_of_pos _ n0) ⟨a, b⟩
        by_cases hq : (0 : Int) < c / n
        · refine yes_of (decide_eq_true hq) ?_
          refine ⟨_, rfl, m, .ref L, rfl, DGet.k (k := .inr "left") hm3, .inl ⟨rfl, _, Or.inl (.inl hL3)⟩, _, rfl, _, rfl, _, _, rfl, rfl, ⟨n0, by omega⟩, L, _, _, rfl, rfl, hL3, Nat.lt_of_le_of_lt (by rw [List.length_map]; exact hl1) (by decide : 62 < sizeLine), ?_⟩
          refine ⟨_, rfl, _, rfl, _, _, rfl, rfl, n0, ?_⟩
          refine fin _ ⟨nLC, ls ++ [c / n], cs, r, k + 1, by rw [upd_ne nmL]; exact hm3, by rw [upd_same, List.map_append]; rfl, by rw [upd_ne (Ne.symm nLC)]; exact hC3, hc, hcs, by rw [List.length_append]; show ls.length + 1 ≤ 63; omega, r0, r1, by omega⟩ fun b o nb ho => ?_
          rw [upd_ne (fun z => nb (.inr z))]
          exact kp3 b o nb ho
        · refine no_of (decide_eq_false hq) ?_
          refine ⟨_, rfl, _, rfl, _, _, rfl, rfl, n0, ?_⟩
          exact fin _ ⟨nLC, ls, cs, r, k + 1, hm3, hL3, hC3, hc, hcs, by omega, r0, r1, by omega⟩ kp3
end
end D1
end
section
set_option Elab.async false
set_option linter.all false
set_option maxRecDepth 100000
set_option maxHeartbeats 4000000
/-! D2: _law_of, _law_begun -/
namespace D1
open PySem L2 Evl
section
variable {P : Program} {w : World} {K : PySem.W.Frag} {mg : Str → Option Value} {base : Heap}
/-- s[i], s a list or a text -/
def rIxLS (K : PySem.W.Frag) : R2 := fun x y H Q => rIxL K x y H Q ∨ rIxS x y H Q
theorem ix_ls {X : Cx} : IxR X (rIxLS X.K) := by
  intro value slice pins s σ H x y v u Q I rx ry h hs
  rcases h with h | h
  · exact ix_list value slice pins s σ H x y v u Q I rx ry h hs
  · exact ix_str value slice pins s σ H x y v u Q I rx ry h hs
def rLenLS (K : PySem.W.Frag) : List V → Hp → VK → Prop := fun xs H Q => (∃ p ys, xs = [.ref p] ∧ (SqL K H p ys ∨ SqT K H p ys) ∧ Q (.int ys.length) H) ∨ ∃ z, xs = [.str z] ∧ z.length ≤ sizeLine ∧ Q (.int z.length) H
theorem call_len_ls {X : Cx} : CallR X (.builtin "len") (rLenLS X.K) := by
  intro pins s σ H xs us Q I r h
  rcases h with h | h
  · exact call_len_seq pins s σ H xs us Q I r h
  · exact call_len_str pins s σ H xs us Q I r h
/-- what stands while draws are made -/
def Sta (K : PySem.W.Frag) (F : Fr) (H : Hp) (a : Addr) (xs : List V) : Prop := ∀ H', F.R H H' → SqL K H' a xs
theorem Sta.of {K : PySem.W.Frag} {F : Fr} {H : Hp} {a : Addr} {xs : List V} (n : ¬F.chg a) (h : H a = some (.lst xs)) : Sta K F H a xs := fun H' r => .inl (.inl (r.keep a _ n h))
def spOf (K : PySem.W.Frag) : Sp := fun vs H Q _ => ∃ (m L C : Addr) (x : V), vs = [.ref m, x] ∧ MS m L C H ∧
  ((∃ a xs, x = .ref a ∧ Sta K (frM m L C) H a xs ∧ 0 < xs.length ∧ xs.length < 1000000 ∧ ∀ (i : Nat) v H', xs[i]? = some v → (frM m L C).R H H' → Q v H') ∨
   (∃ z : Str, x = .str z ∧ 0 < z.length ∧ z.length < 1000000 ∧ ∀ (i : Nat) c H', z.cps[i]? = some c → (frM m L C).R H H' → Q (.str ⟨#[c]⟩) H'))
abbrev s_of : Stmt := top 19
theorem sc_of : FnScope ["_law_m", "_law_some"] ["_law_m", "_law_some"] (defScope s_of) := ⟨rfl, rfl, rfl, by decide +kernel, rfl, by decide +kernel, by decide +kernel⟩
theorem ok_of {f f_draw : Addr} {fd fd_draw : FuncData} (F : FnP K "_law_of" s_of f fd) (G_draw : FnOk P w K mg base CX0 2 f_draw fd_draw ["_law_m", "_law_many_here"] spDraw) (F_draw : FnP K "_law_draw" s_draw f_draw fd_draw) (g_draw : mg "_law_draw" = some (.ref f_draw)) (z_len : mg "len" = none) : FnOk P w K mg base CX0 3 f fd ["_law_m", "_law_some"] (spOf K) := by
  have b_draw : Binds K fd_draw ["_law_m", "_law_many_here"] [] := F_draw.bindsN fun _ _ _ _ _ _ us hl => match us, hl with | [_, _], _ => rfl
  refine F.ok sc_of (fun vs H Q E h => ?_) (fun cdv A outer s H vs Q E hr h => ?_)
  · obtain ⟨m, L, C, x, rfl, _⟩ := h
    rfl
  · obtain ⟨m, L, C, x, rfl, hM, h⟩ := h
    have hu := hu_of hr
    have hr_draw := hr
    refine ⟨_, PSs.nox (pss_one (ps_ret (pe_ix ix_ls (pv 1) (pe_call G_draw hr_draw rfl g_draw F_draw.kp b_draw .nil pass0 (pa_cons (pv 0) (pa_cons (pe_callB call_len_ls (by rfl) z_len PySem.boot_len (pa_cons (pv 1) pa_nil)) pa_nil))) (fun _ _ => rfl)))), ?_⟩
    have big : (1000000 : Nat) ≤ sizeLine := by decide
    rcases h with ⟨a, xs, rfl, hs, h0, h1, q⟩ | ⟨z, rfl, h0, h1, q⟩
    · refine ⟨_, rfl, _, rfl, _, rfl, .inl ⟨a, xs, rfl, .inl (hs H (.refl hM)), m, L, C, _, rfl, hM, by omega, by omega, fun d H' d0 d1 r => .inl ⟨a, xs, d, xs[d.toNat]'(by omega), rfl, rfl, hs H' r, atI_of d0 (List.getElem?_eq_getElem _), ?_⟩⟩⟩
      exact q d.toNat _ _ (List.getElem?_eq_getElem _) r
    · refine ⟨_, rfl, _, rfl, _, rfl, .inr ⟨z, rfl, by omega, m, L, C, _, rfl, hM, by omega, by omega, fun d H' d0 d1 r => .inr ?_⟩⟩
      have hz : z.length = z.cps.size := rfl
      have hd : d.toNat < z.cps.size := by omega
      refine ⟨z, d, z.cps[d.toNat]'hd, rfl, rfl, by omega, ?_, q d.toNat _ _ (by simp [hd]) r⟩
      have e1 : d = (d.toNat : Int) := by omega
      generalize d.toNat = j at e1 hd
      subst e1
      exact atI_nat (by simp [hd])
abbrev s_begun : Stmt := top 17
theorem sc_begun : FnScope ["_law_script", "_law_k", "_law_found", "_law_cell"] ["_law_script"] (defScope s_begun) := ⟨rfl, rfl, rfl, by decide +kernel, rfl, by decide +kernel, by decide +kernel⟩
def tab63 : List Int := (List.range 63).map fun (k : Nat) => (17 : Int) + (k : Int)
theorem tab63_ok : ∀ c ∈ tab63, (0 : Int) ≤ c ∧ c < 2147483629 := by decide +kernel
def gints (n : Nat) (f : Nat → Bool) (v : Nat → Int) : List Int := ((List.range n).filter f).map v
theorem given_ints (n : Nat) (f : Nat → Bool) (v : Nat → Int) : given n f (fun i => V.int (v i)) = (gints n f v).map V.int := by
  unfold given gints
  rw [List.map_map]
  rfl
theorem gints_len (n : Nat) (f : Nat → Bool) (v : Nat → Int) : (gints n f v).length ≤ n := by
  unfold gints
  rw [List.length_map]
  have h := List.length_filter_le f (List.range n)
  rw [List.length_range] at h
  exact h
theorem int_at {ns : List Int} {i : Nat} {x : V} (h : (ns.map V.int)[i]? = some x) : x = V.int (ns.getD i 0) := by
  rw [List.getElem?_map] at h
  obtain ⟨c, e1, e⟩ := Option.map_eq_some_iff.mp h
  rw [← e, List.getD_eq_getElem?_getD, e1]
  rfl
theorem el_is {te : TE} {σ : L2.St} {H : Hp} {xs ys : List V} (h : EvL te σ H xs) (e : xs = ys) : EvL te σ H ys := by
  rw [← e]
  exact h
theorem ixN_of {n : Nat} {i : Int} (h0 : 0 ≤ i) (h : i.toNat < n) : ixN n i = some i.toNat := by
  have e1 : i = (i.toNat : Int) := by omega
  generalize i.toNat = j at e1 h
  subst e1
  exact ixN_nat h
def spBegun (K : PySem.W.Frag) : Sp := fun vs H Q _ => ∃ (a : Addr) (ns : List Int), vs = [.ref a] ∧ SqL K H a (ns.map V.int) ∧ ns.length ≤ 63 ∧ ∀ m L C H', Ex H H' → H m = none → H L = none → H C = none → MS m L C H' → Q (.ref m) H'
theorem ok_begun {f : Addr} {fd : FuncData} (F : FnP K "_law_begun" s_begun f fd) (z_range : mg "range" = none) (z_enumerate : mg "enumerate" = none) : FnOk P w K mg base CX0 1 f fd ["_law_script"] (spBegun K) := by
  refine F.ok sc_begun (fun vs H Q E h => ?_) (fun cdv A outer s H vs Q E hr h => ?_)
  · obtain ⟨a, ns, rfl, _⟩ := h
    rfl
  · obtain ⟨a, ns, rfl, hS, hl, q⟩ := h
    have hu := hu_of hr
    refine ⟨_, PSs.nox (pss_cons (ps_setLc (i := 2) (own := [("_law_k", 1)]) (g := gName 1) (tt := tYes) (by rfl) sc_begun.nd rfl rfl (sw_true rfl rfl rfl (by decide +kernel)) (pi_range1 rfl z_range (pa_cons pe_int pa_nil)) (blkOk_by (own := [("_law_k", 1)]) (N := ["_law_script", "_law_k", "_law_found", "_law_cell"]) (sc := defScope s_begun) (by decide +kernel)) (fun _ _ _ _ _ => pg_name (i := 1) sc_begun.nd rfl (Or.inl rfl)) (fun _ _ _ _ _ => pts_nil) (fun _ _ _ _ _ => pe_op op_add pe_int (pv 1)))
      (pss_cons (ps_for PassesOwn.never rfl (pi_enum (by rfl) z_enumerate (pa_cons (pv 0) pa_nil)) (pg_tup rfl (pgs_cons (pg_name (i := 1) sc_begun.nd rfl (Or.inl rfl)) (pgs_cons (pg_name (i := 3) sc_begun.nd rfl (Or.inl rfl)) pgs_nil))) (pss_one (ps_asg (pe_op op_mod (pe_op op_add (pe_op op_mul (pe_ix ix_list (pv 2) (pe_op op_mod (pv 1) pe_int) (fun _ _ => rfl)) pe_int) (pv 3)) pe_int) (pg_sub (pv 2) (pe_op op_mod (pv 1) pe_int) set_list))))
      (pss_one (ps_ret (pe_disp (pps_cons pe_str (pe_lc (own := [("_law_cell", 3)]) (g := gName 3) (by rfl) sc_begun.nd (pi_list (pv 0)) (blkOk_by (own := [("_law_cell", 3)]) (N := ["_law_script", "_law_k", "_law_found", "_law_cell"]) (sc := defScope s_begun) (by decide +kernel)) (fun _ _ _ _ _ => pg_name (i := 3) sc_begun.nd rfl (Or.inl rfl)) (fun _ _ _ _ _ => pts_one (pt_cmpR op_ge (pv 3) (pe_op op_pow pe_int pe_int) (nomark _))) (fun _ _ _ _ _ => pv 3)) (pps_cons pe_str (pv 2) (pps_cons pe_str pe_int (pps_cons pe_str pe_int pps_nil)))) (by rfl) (by rfl) (fun z => by cases z) (by decide)))))), ?_⟩
    refine q_asgL (xs := (tab63.map V.int)) (el_is (el_lcR1 (j := 1) (vs := [1]) (n := 63) (fun _ => true) (fun k => V.int (17 + (k : Int))) (ea_cons ev_c ea_nil) (by decide) (fun x => rfl) (fun k H4 _ _ H5 _ Q' q => q H5 (Ex.refl H5)) (fun k H4 _ _ _ => ev_op ev_c (ev_var rfl) rv_I0)) rfl) fun D G hD e1 hG => ?_
    have hSG : ∀ {G'}, Ex G G' → SqL K G' a (ns.map V.int) := fun e => ex_l (e1.trans e) hS
    refine ⟨_, rfl, a, ns.map V.int, rfl, hSG (Ex.refl G), for_it (walk_enum (K := K) (a := a) (xs := ns.map V.int)) (fun t σ' H' => ∃ x1 x3 cs, σ' = [some (.ref a), x1, some (.ref D), x3] ∧ Ex H H' ∧ H' D = some (.lst (cs.map V.int)) ∧ cs.length = 63 ∧ ∀ c ∈ cs, (0 : Int) ≤ c ∧ c < 2147483629)
      ⟨none, none, tab63, rfl, e1, hG, rfl, tab63_ok⟩ (fun i σ' H' _ h => ?_) ?_ ?_⟩
    · obtain ⟨x1, x3, cs, rfl, e2, _⟩ := h
      exact ex_l e2 hS
    · rintro i x σ' H1 H2 hi ⟨x1, x3, cs, rfl, e2, hD2, hc, hcs⟩ ⟨T, y, z, rfl, hT, rfl, hy, hz⟩
      obtain rfl : V.int (i : Nat) = y := Option.some.inj hy
      obtain ⟨c, rfl⟩ : ∃ c : Int, z = .int c := by
        have hz2 : (ns.map V.int)[i]? = some z := hz
        rw [List.getElem?_map] at hz2
        obtain ⟨c, _, e⟩ := Option.map_eq_some_iff.mp hz2
        exact ⟨c, e.symm⟩
      have DT : D ≠ T := ne_of_none hD2 hT
      have hD3 : (upd H1 T (.tup [.int (i : Nat), .int c])) D = some (.lst (cs.map V.int)) := by rw [upd_ne DT]; exact hD2
      have i63 : 0 ≤ (i : Int) % 63 ∧ (i : Int) % 63 < 63 := ⟨Int.emod_nonneg _ (by decide), Int.emod_lt_of_pos _ (by decide)⟩
      have hj : ((i : Int) % 63).toNat < cs.length := by omega
      refine ⟨T, _, rfl, .inl (.inl upd_same), rfl, _, _, rfl, _, _, rfl, rfl, ?_⟩
      refine ⟨_, rfl, _, rfl, _, _, rfl, rfl, (by show (0 : Int) < 63; decide), D, _, _, _, rfl, rfl, SqL.of hD3, atI_of i63.1 (by rw [List.getElem?_map, List.getElem?_eq_getElem hj]; rfl), _, _, rfl, rfl, .inr ⟨by decide, by decide⟩, _, rfl, _, _, rfl, rfl, _, _, rfl, rfl, (by show (0 : Int) < 2147483629; decide), ?_⟩
      refine ⟨_, rfl, _, rfl, _, _, rfl, rfl, (by show (0 : Int) < 63; decide), D, _, _, ((i : Int) % 63).toNat, rfl, rfl, hD3, ixN_of i63.1 (by rw [List.length_map]; omega), _, _, cs.set ((i : Int) % 63).toNat ((cs[((i : Int) % 63).toNat] * 69621 + c) % 2147483629), rfl, ?_, ?_, ?_, ?_⟩
      · exact Ex.mut (e2.trans (Ex.new hT)) hD
      · rw [upd_same, List.map_set]
      · rw [List.length_set]
        exact hc
      · intro c2 h2
        rcases List.mem_or_eq_of_mem_set h2 with h3 | h3
        · exact hcs c2 h3
        · rw [h3]
          exact ⟨Int.emod_nonneg _ (by decide), Int.emod_lt_of_pos _ (by decide)⟩
    · rintro σ' G2 ⟨x1, x3, cs, rfl, e2, hD2, hc, hcs⟩
      intro p hp
      have e3 := e2.trans (Ex.new (o := .dK []) hp)
      rw [tPairs]
      show tC (V.str "left") [some (.ref a), x1, some (.ref D), x3] (upd G2 p (.dK [])) _
      refine (show ∀ T : VK, T (V.str "left") (upd G2 p (.dK [])) → tC (V.str "left") [some (.ref a), x1, some (.ref D), x3] (upd G2 p (.dK [])) T from fun T h => h) _ ?_
      refine el_lcL (K := K) (σ := [some (.ref a), x1, some (.ref D), x3]) (a := a) (xs := ns.map V.int) (j := 3) (vs := [3]) (fun i => decide ((1000000000000000000 : Int) ≤ ns.getD i 0)) (fun i => V.int (ns.getD i 0)) (ev_var (i := 0) rfl) (ex_l e3 hS) (by rw [List.length_map]; omega) (by intro x; rfl) ?_ ?_ _ (Ex.refl _) _ fun Lp G3 hLp e4 hL3 => ?_
      · intro i x H5 _ hx
        have e5 : x = V.int (ns.getD i 0) := int_at hx
        subst e5
        exact et_test (ev_op (ev_var rfl) (ev_op ev_c ev_c (rv_I ⟨by decide, by decide, by decide⟩)) rv_I0)
      · intro i x H5 _ hx _
        exact ev_is (ev_var rfl) (int_at hx)
      · rw [given_ints] at hL3
        have pL : p ≠ Lp := ne_of_none (o := .dK []) upd_same hLp
        have hp3 : G3 p = some (.dK []) := e4 _ _ upd_same
        have hD3 : G3 D = some (.lst (cs.map V.int)) := e4 _ _ (by rw [upd_ne (ne_of_none hD2 hp)]; exact hD2)
        have hD2' : (upd G2 p (.dK [])) D = some (.lst (cs.map V.int)) := by rw [upd_ne (ne_of_none hD2 hp)]; exact hD2
        have nLD : Lp ≠ D := fun z => by
          rw [z, hD2'] at hLp
          cases hLp
        refine ⟨_, rfl, hp3, MD Lp D 7 0, rfl, (by show 4 ≤ 15; decide), ?_⟩
        refine q p Lp D _ (Ex.mut (e3.trans e4) (fresh_back e2 hp)) (fresh_back e2 hp) (fresh_back e3 hLp) hD ⟨nLD, _, cs, 7, 0, by rw [upd_same]; rfl, by rw [upd_ne (Ne.symm pL)]; exact hL3, ?_, hc, hcs, ?_, by decide, by decide, by decide⟩
        · rw [upd_ne (ne_of_none hD2 hp)]
          exact hD3
        · have := gints_len ns.length (fun i => decide ((1000000000000000000 : Int) ≤ ns.getD i 0)) (fun i => ns.getD i 0)
          rw [List.length_map]
          omega
end
end D1
end
section
set_option Elab.async false
set_option linter.all false
set_option maxRecDepth 100000
set_option maxHeartbeats 4000000
/-! Z1: zip over two texts of signs below 128 -/
namespace RZ
open PySem PySem.Spec PyProof.Rows L2
def ItzS (x y : Str) : It :=
  ⟨fun i _ => i < x.cps.size ∧ i < y.cps.size,
    fun i H v H' => ∃ T c d, v = .ref T ∧ H T = none ∧ H' = upd H T (.tup [.str ⟨#[c]⟩, .str ⟨#[d]⟩]) ∧ x.cps[i]? = some c ∧ y.cps[i]? = some d,
    fun i _ => i ≤ x.cps.size ∧ i ≤ y.cps.size ∧ (i = x.cps.size ∨ i = y.cps.size)⟩
theorem turn_zipS {P : Program} {w : World} {K : PySem.W.Frag} {elts : List Expr} {kk : Nat} {tpos : Pos} {z TI TO i1 i2 : Addr} {x y : Str} {t1 t2 : Tok} (S : ZipSep2 z TI TO i1 i2 [i1] [i2]) :
    Turn P w K (.Tuple elts kk tpos) (ItzS x y) [z, TI, TO, i1, i2] z (fun i h => IsZip h z TI TO .none ∧ IsPair h TI (.ref i1) (.ref i2) ∧ (∃ a b, IsPair h TO a b) ∧ h.IsStrIter i1 "str_ascii_iterator" x t1 i ∧ h.IsStrIter i2 "str_ascii_iterator" y t2 i) where
  mem := by simp
  obj := fun i h st c hc => by
    obtain ⟨hz, hTI, ⟨a, b, hTO⟩, ⟨o1, e1, _, d1⟩, ⟨o2, e2, _, d2⟩⟩ := st
    have e' : c = z ∨ c = TI ∨ c = TO ∨ c = i1 ∨ c = i2 := by simpa using hc
    rcases e' with q | q | q | q | q
    · rw [q]; exact ⟨_, hz, fun v q => nomatch q⟩
    · rw [q]; exact ⟨_, hTI, fun v q => nomatch q⟩
    · rw [q]; exact ⟨_, hTO, fun v q => nomatch q⟩
    · rw [q]; exact ⟨o1, e1, fun v q => by rw [d1] at q; cases q⟩
    · rw [q]; exact ⟨o2, e2, fun v q => by rw [d2] at q; cases q⟩
  keep := fun i h h' st k => by
    obtain ⟨hz, hTI, ⟨a, b, hTO⟩, ⟨o1, e1, r1⟩, ⟨o2, e2, r2⟩⟩ := st
    exact ⟨k z (by simp) _ hz, k TI (by simp) _ hTI, ⟨a, b, k TO (by simp) _ hTO⟩, ⟨o1, k i1 (by simp) o1 e1, r1⟩, ⟨o2, k i2 (by simp) o2 e2, r2⟩⟩
  item := by
    intro X hP hw hK hc i pins s σ H E I hf st hg
    subst hP hw hK
    obtain ⟨hz, hTI, ⟨x0, y0, hTO⟩, h1, h2⟩ := st
    have hzl : z < s.heap.objs.size := Heap.lt_size hz
    refine wpAny_pyNext_zipD2_item (St1 := fun i h => h.IsStrIter i1 "str_ascii_iterator" x t1 i) (St2 := fun i h => h.IsStrIter i2 "str_ascii_iterator" y t2 i) S (Draws.strAscii (A := X.A.in1) (show X.A.in1.handled = none from I.ok.hd hc) i1 x t1) (Draws.strAscii (A := X.A.in1) (show X.A.in1.handled = none from I.ok.hd hc) i2 y t2) hz hTI hTO h1 h2 hg.1 hg.2 fun u u2 h' tk p1 p2 z' TO' h1' h2' hT hsz hk => ?_
    obtain ⟨c, k1, hcx, rfl⟩ := p1
    obtain ⟨d, k2, hdy, rfl⟩ := p2
    refine ⟨_, rfl, wpAny_letOwnedTupleGo_zip (s := { s with heap := h', toks := tk }) z' fun h'' z'' sb => ?_⟩
    have hT2 : h''.get? s.heap.objs.size = some { cls := .type "tuple", data := .seq #[.str ⟨#[c]⟩ k1, .str ⟨#[d]⟩ k2] } := (sb.2 _ (Nat.ne_of_gt hzl)).trans hT
    have new : ObjOk X.prog X.w (upd H s.heap.objs.size (.tup [.str ⟨#[c]⟩, .str ⟨#[d]⟩])) h'' s.heap.objs.size (.tup [.str ⟨#[c]⟩, .str ⟨#[d]⟩]) :=
      ⟨by show 2 ≤ sizeLine; decide, [.str ⟨#[c]⟩ k1, .str ⟨#[d]⟩ k2], .cons ⟨k1, rfl⟩ (.cons ⟨k2, rfl⟩ .nil), ⟨_, hT2, rfl, _, rfl⟩⟩
    have I1 : Inv X pins σ (upd H s.heap.objs.size (.tup [.str ⟨#[c]⟩, .str ⟨#[d]⟩])) { s with heap := h'', toks := tk } :=
      I.turnedNew (t' := tk) (ch := [z, TI, TO, i1, i2]) (fun c o hb q => (sb.2 c (fun q' => hb (by simp [q']))).trans (hk c o (fun q' => hb (by simp [q'])) (fun q' => hb (by simp [q'])) (fun q' => hb (by simp [q'])) (fun q' => hb (by simp [q'])) q)) hf (Nat.le_refl _) new
    refine ⟨.ref s.heap.objs.size, _, I1, rfl, ⟨_, c, d, rfl, I.hok.fresh (Nat.le_refl _), rfl, hcx, hdy⟩, ⟨z'', ?_, ⟨.str ⟨#[c]⟩ k1, .str ⟨#[d]⟩ k2, ?_⟩, ?_, ?_⟩, fun c hcm => ?_⟩
    · exact (sb.2 _ S.TIz).trans (hk _ _ S.TIz S.TITO S.TIi1 S.TIi2 hTI)
    · exact (sb.2 _ S.TOz).trans TO'
    · obtain ⟨o, e, r⟩ := h1'
      exact ⟨o, (sb.2 _ (Ne.symm S.zi1)).trans e, r⟩
    · obtain ⟨o, e, r⟩ := h2'
      exact ⟨o, (sb.2 _ (Ne.symm S.zi2)).trans e, r⟩
    · have hlt : c < s.heap.objs.size := by
        have e' : c = z ∨ c = TI ∨ c = TO ∨ c = i1 ∨ c = i2 := by simpa using hcm
        rcases e' with q | q | q | q | q
        · rw [q]; exact hzl
        · rw [q]; exact Heap.lt_size hTI
        · rw [q]; exact Heap.lt_size hTO
        · rw [q]; obtain ⟨_, e1, _⟩ := h1; exact Heap.lt_size e1
        · rw [q]; obtain ⟨_, e2, _⟩ := h2; exact Heap.lt_size e2
      rw [upd_ne (Nat.ne_of_lt hlt)]
      exact (hf c hcm).1
  done := by
    intro X hP hw hK hc i pins s σ H E I hf st hg
    subst hP hw hK
    obtain ⟨hz, hTI, ⟨x0, y0, hTO⟩, h1, h2⟩ := st
    exact wpAny_pyNext_zipD2_end (St1 := fun i h => h.IsStrIter i1 "str_ascii_iterator" x t1 i) (St2 := fun i h => h.IsStrIter i2 "str_ascii_iterator" y t2 i) S (Draws.strAscii (A := X.A.in1) (show X.A.in1.handled = none from I.ok.hd hc) i1 x t1) (Draws.strAscii (A := X.A.in1) (show X.A.in1.handled = none from I.ok.hd hc) i2 y t2) hz hTI hTO h1 h2 hg.1 hg.2.1 hg.2.2 fun h' tk hk => ⟨rfl, I.turnedL (t' := tk) (ch := [z, TI, TO, i1, i2]) (fun c o hb q =>
      hk c o (fun q' => hb (by simp [q'])) (fun q' => hb (by simp [q'])) (fun q' => hb (by simp [q'])) (fun q' => hb (by simp [q'])) q) hf⟩
  self := fun A i s Q E st h => wpAny_pyIter_zip st.1 h
abbrev zipSH1 (h : Heap) (x : Str) (t1 : Tok) : Heap := h.push { cls := .type "str_ascii_iterator", data := .fields #[.str x t1, .int 0 0] }
abbrev zipSH2 (h : Heap) (x y : Str) (t1 t2 : Tok) : Heap := (zipSH1 h x t1).push { cls := .type "str_ascii_iterator", data := .fields #[.str y t2, .int 0 0] }
abbrev zipSH3 (h : Heap) (x y : Str) (t1 t2 : Tok) : Heap := (zipSH2 h x y t1 t2).push { cls := .type "tuple", data := .seq #[.ref h.objs.size, .ref (zipSH1 h x t1).objs.size] }
abbrev zipSH4 (h : Heap) (x y : Str) (t1 t2 : Tok) : Heap := (zipSH3 h x y t1 t2).push { cls := .type "tuple", data := .seq #[.none, .none] }
abbrev zipSH5 (h : Heap) (x y : Str) (t1 t2 : Tok) : Heap := (zipSH4 h x y t1 t2).push { cls := .type "zip", data := .fields #[.none, .bool false, .bool false, .ref (zipSH2 h x y t1 t2).objs.size, .ref (zipSH3 h x y t1 t2).objs.size] }
theorem meets_zipS_new (x y : Str) (t1 t2 : Tok) (hx : x.cps.all (· < 128) = true) (hy : y.cps.all (· < 128) = true) :
    Meets (Builtin.«zip.__new__» ⟨[.type "zip", .str x t1, .str y t2], []⟩) (fun _ R s => R (.ok (.ret (.ref (zipSH4 s.heap x y t1 t2).objs.size))) { s with heap := zipSH5 s.heap x y t1 t2 }) :=
  .of_wp fun prog w A R s h => by
    obtain ⟨hp, g, d, tk, os⟩ := s
    have hsub := sub_zip
    wp_walk using wpAny_pyIter_ascii hx, wpAny_pyIter_ascii hy
    exact ⟨_, rfl, h⟩
section
variable {prog : Program} {w : World} {A : Around} {E : Value → Shared → Prop} {s : Shared}
theorem call_zipS {x y : Str} {t1 t2 : Tok} {Q : Value → Shared → Prop} (hx : x.cps.all (· < 128) = true) (hy : y.cps.all (· < 128) = true)
    (h : ∀ h', IsZip h' (s.heap.objs.size + 4) (s.heap.objs.size + 2) (s.heap.objs.size + 3) .none → IsPair h' (s.heap.objs.size + 2) (.ref s.heap.objs.size) (.ref (s.heap.objs.size + 1)) →
      IsPair h' (s.heap.objs.size + 3) .none .none → h'.IsStrIter s.heap.objs.size "str_ascii_iterator" x t1 0 → h'.IsStrIter (s.heap.objs.size + 1) "str_ascii_iterator" y t2 0 → h'.objs.size = s.heap.objs.size + 5 →
      (∀ c o, s.heap.get? c = some o → h'.get? c = some o) → Q (.ref (s.heap.objs.size + 4)) { s with heap := h' }) :
    wpAny (model prog w) A (call (.type "zip") [.str x t1, .str y t2]) Q E s := by
  refine callType_new F.called_zip (by decide) (F.typeCall_zip_2 _ _) (F.newCall_zip_2 _ _) (fun obj => F.args_object_init_3 obj _ _) F.entry_zip_new
    (meets_zipS_new x y t1 t2 hx hy) ?_
  have z1 : (zipSH1 s.heap x t1).objs.size = s.heap.objs.size + 1 := Heap.size_push ..
  have z2 : (zipSH2 s.heap x y t1 t2).objs.size = s.heap.objs.size + 2 := by rw [Heap.size_push, z1]
  have z3 : (zipSH3 s.heap x y t1 t2).objs.size = s.heap.objs.size + 3 := by rw [Heap.size_push, z2]
  have z4 : (zipSH4 s.heap x y t1 t2).objs.size = s.heap.objs.size + 4 := by rw [Heap.size_push, z3]
  have z5 : (zipSH5 s.heap x y t1 t2).objs.size = s.heap.objs.size + 5 := by rw [Heap.size_push, z4]
  have g5 : (zipSH5 s.heap x y t1 t2).get? (zipSH4 s.heap x y t1 t2).objs.size = some _ := Heap.get?_push_size _ rfl
  have g4 : (zipSH5 s.heap x y t1 t2).get? (zipSH3 s.heap x y t1 t2).objs.size = some _ := Heap.get?_push_of_some _ (Heap.get?_push_size _ rfl)
  have g3 : (zipSH5 s.heap x y t1 t2).get? (zipSH2 s.heap x y t1 t2).objs.size = some _ := Heap.get?_push_of_some _ (Heap.get?_push_of_some _ (Heap.get?_push_size _ rfl))
  have g2 : (zipSH5 s.heap x y t1 t2).get? (zipSH1 s.heap x t1).objs.size = some _ := Heap.get?_push_of_some _ (Heap.get?_push_of_some _ (Heap.get?_push_of_some _ (Heap.get?_push_size _ rfl)))
  have g1 : (zipSH5 s.heap x y t1 t2).get? s.heap.objs.size = some _ := Heap.get?_push_of_some _ (Heap.get?_push_of_some _ (Heap.get?_push_of_some _ (Heap.get?_push_of_some _ (Heap.get?_push_size _ rfl))))
  rw [z2, z3, z4] at g5
  rw [z1, z2] at g3
  rw [z3] at g4
  rw [z1] at g2
  rw [z4]
  show _ ∧ _
  exact ⟨⟨_, g5, rfl⟩, h _ g5 g3 g4 ⟨_, g1, rfl, rfl⟩ ⟨_, g2, rfl, rfl⟩ z5 fun c o x =>
    Heap.get?_push_of_some _ (Heap.get?_push_of_some _ (Heap.get?_push_of_some _ (Heap.get?_push_of_some _ (Heap.get?_push_of_some _ x))))⟩
end
theorem sepS (n : Nat) : ZipSep2 (n + 4) (n + 2) (n + 3) n (n + 1) [n] [n + 1] :=
  ⟨by simp, by simp, by simp, by simp, by simp, by simp, by simp, by simp, by simp, by simp, by simp, by simp, by simp⟩
def iZipS (ta : TA) : TI := fun σ H R => ta σ H fun vs H1 => ∃ x y, vs = [.str x, .str y] ∧ x.cps.all (· < 128) = true ∧ y.cps.all (· < 128) = true ∧ R (ItzS x y) H1
theorem pi_zipS {X : Cx} {e e2 : Expr} {ta : TA} {p pos tpos : Pos} {elts : List Expr} {kk : Nat} (hg : Gl X "zip") (hm : X.mg "zip" = none) (ha : PA X [e, e2] ta)
    (hs : starEach [e, e2] X.env = (false, eval e X.env) :: starEach [e2] X.env := by rfl) (hpl : (backTo pos (starEach [e2] X.env)).any (·.1) = false := by rfl) :
    PI X (.Tuple elts kk tpos) (.Call (.Name "zip" p) [e, e2] [] pos) (iZipS ta) := by
  refine ⟨fun pins s σ H R I h => ?_⟩
  refine Call_ (ld_blt I hg hm PyProof.Rows.boot_zip (PyProof.Rows.callWith_type1 (thn (ha.run pos pins s σ H _ I h) fun us s1 ⟨vs, H1, I1, r1, q1⟩ => ?_) hs hpl))
  obtain ⟨x, y, ex, hx, hy, q⟩ := q1
  subst ex
  obtain ⟨u1, u2, rfl, ⟨t1, rfl⟩, ⟨t2, rfl⟩⟩ := vals2 r1
  have fresh5 : ∀ c, c ∈ [s1.heap.objs.size + 4, s1.heap.objs.size + 2, s1.heap.objs.size + 3, s1.heap.objs.size, s1.heap.objs.size + 1] → FpOk X pins H1 c := fun c hcm => by
    have e' : c = s1.heap.objs.size + 4 ∨ c = s1.heap.objs.size + 2 ∨ c = s1.heap.objs.size + 3 ∨ c = s1.heap.objs.size ∨ c = s1.heap.objs.size + 1 := by simpa using hcm
    have hle : s1.heap.objs.size ≤ c := by
      rcases e' with z | z | z | z | z
      · rw [z]; exact Nat.le_add_right _ _
      · rw [z]; exact Nat.le_add_right _ _
      · rw [z]; exact Nat.le_add_right _ _
      · rw [z]; exact Nat.le_refl _
      · rw [z]; exact Nat.le_add_right _ _
    exact I1.fpOk hle (I1.hok.fresh hle)
  refine call_zipS hx hy fun h' hz hTI hTO h1 h2 hsz hk => wpAny_pyIter_zip hz ?_
  have I2 : Inv X pins σ H1 { s1 with heap := h' } := I1.kept (t' := s1.toks) hk
  exact ⟨s1.heap.objs.size + 4, [s1.heap.objs.size + 4, s1.heap.objs.size + 2, s1.heap.objs.size + 3, s1.heap.objs.size, s1.heap.objs.size + 1], _, _, H1, rfl, I2,
    turn_zipS (sepS _), ⟨hz, hTI, ⟨_, _, hTO⟩, h1, h2⟩, fresh5, q⟩
theorem walk_zipS {x y : Str} : Walk (ItzS x y) (min x.cps.size y.cps.size) (fun _ => True) (fun i H v H' => ∃ T c d, v = .ref T ∧ H T = none ∧ H' = upd H T (.tup [.str ⟨#[c]⟩, .str ⟨#[d]⟩]) ∧ x.cps[i]? = some c ∧ y.cps[i]? = some d) :=
  ⟨fun i H hi _ => ⟨by omega, by omega⟩, fun H _ => ⟨by omega, by omega, by omega⟩, fun _ _ _ _ _ _ y => y⟩
end RZ
end
section
set_option Elab.async false
set_option linter.all false
set_option maxRecDepth 100000
set_option maxHeartbeats 4000000
/-! E1: what readings evaluate to: texts, zip, isinstance -/
namespace Evl
open PySem L2 RZ
section
variable {K : PySem.W.Frag} {σ : L2.St} {H H' : Hp} {ta tb te tx tl : TE} {t u : TT} {x y z v : V} {r : R2}
/-- [e for c in s], s a text -/
theorem el_lcS {z : Str} {j : Nat} {vs : List Nat} (f : Nat → V) (h : Ev tl σ H (.str z)) (hz : z.cps.size ≤ 40000) (hw : ∀ x, wipe ((wipe σ vs).set j (some x)) vs = wipe σ vs)
    (he : ∀ (i c : Nat) H1, Ex H H1 → z.cps[i]? = some c → Ev te ((wipe σ vs).set j (some (.str ⟨#[c]⟩))) H1 (f i)) :
    EvL (tLc (iStr tl) (gName j) tYes te vs) σ H (given z.cps.size (fun _ => true) f) := fun H0 e Q q => h H0 e _ fun H1 e1 => ⟨z, rfl, fun Dl hD =>
  lc_it (walk_str (z := z)) (Cw H1 (fun _ => true) f Dl) ⟨hD, Ex.new hD, upd_same⟩ (fun _ _ _ _ => trivial) (fun i x H5 H6 hi p y => by
    obtain ⟨rfl, c, hc, rfl⟩ := y
    exact ⟨hw _, cw_turn (f := fun _ => true) p (by omega) (fun H4 _ Q' q => q H4 (Ex.refl H4)) (fun _ => he i c H1 (e.trans e1) hc)⟩) (fun H' p => q Dl H' (fresh_back e1 p.1) (e1.trans p.2.1) p.2.2)⟩
/-- [e for c, d in zip(s, s2)], s and s2 texts -/
theorem el_lcZ {a b : Str} {ta : TA} {j k : Nat} {vs : List Nat} (f : Nat → V) (h : EvA ta σ H [.str a, .str b]) (ha : a.cps.all (· < 128) = true) (hb : b.cps.all (· < 128) = true) (hz : a.cps.size ≤ 40000) (hw : ∀ x y, wipe (((wipe σ vs).set j (some x)).set k (some y)) vs = wipe σ vs)
    (he : ∀ (i c d : Nat) H1, Ex H H1 → a.cps[i]? = some c → b.cps[i]? = some d → Ev te (((wipe σ vs).set j (some (.str ⟨#[c]⟩))).set k (some (.str ⟨#[d]⟩))) H1 (f i)) :
    EvL (tLc (iZipS ta) (gTup K 2 (gCons (gName j) (gCons (gName k) gNil))) tYes te vs) σ H (given (min a.cps.size b.cps.size) (fun _ => true) f) := fun H0 e Q q => h H0 e _ fun H1 e1 => ⟨a, b, rfl, ha, hb, fun Dl hD =>
  lc_it (walk_zipS (x := a) (y := b)) (Cw H1 (fun _ => true) f Dl) ⟨hD, Ex.new hD, upd_same⟩ (fun _ _ _ _ => trivial) (fun i x H5 H6 hi p y => by
    obtain ⟨T, c, d, rfl, hT, rfl, hc, hd⟩ := y
    have p2 : Cw H1 (fun _ => true) f Dl i (upd H5 T (.tup [.str ⟨#[c]⟩, .str ⟨#[d]⟩])) := ⟨p.1, p.2.1.trans (Ex.new hT), by rw [upd_ne (ne_of_none p.2.2 hT)]; exact p.2.2⟩
    exact ⟨T, _, rfl, .inl (.inl upd_same), rfl, _, _, rfl, _, _, rfl, rfl, hw _ _, cw_turn (f := fun _ => true) p2 (by omega) (fun H4 _ Q' q => q H4 (Ex.refl H4)) (fun _ => he i c d H1 (e.trans e1) hc hd)⟩) (fun H' p => q Dl H' (fresh_back e1 p.1) (e1.trans p.2.1) p.2.2)⟩
/-- all(a new list of bools) -/
theorem ev_all {bs : List Bool} (h : EvL ta σ H (bs.map V.bl)) : Ev (tCB (rAll K) (tCons ta tNil)) σ H (.bl (bs.all id)) := fun H1 e Q q =>
  h H1 e _ fun p H2 _ e2 hp => ⟨p, bs, rfl, sq_of hp, q H2 e2⟩
theorem given_map (n : Nat) (g : Nat → Bool) : given n (fun _ => true) (fun i => V.bl (g i)) = (((List.range n).map g).map V.bl) := by
  unfold given
  rw [List.filter_eq_self.mpr (fun _ _ => rfl), List.map_map]
  rfl
theorem all_range (n : Nat) (g : Nat → Bool) : ((List.range n).map g).all id = (List.range n).all g := by
  rw [List.all_map]
  rfl
theorem all_getD {f : Nat → Bool} : ∀ l : List Nat, ((List.range l.length).all fun i => f (l.getD i 0)) = l.all f := by
  intro l
  rw [Bool.eq_iff_iff, List.all_eq_true, List.all_eq_true]
  constructor
  · intro h x hx
    obtain ⟨i, hi, rfl⟩ := List.mem_iff_getElem.mp hx
    have := h i (List.mem_range.mpr hi)
    rw [List.getD_eq_getElem?_getD, List.getElem?_eq_getElem hi] at this
    exact this
  · intro h i hi
    have hi2 := List.mem_range.mp hi
    rw [List.getD_eq_getElem?_getD, List.getElem?_eq_getElem hi2]
    exact h _ (List.getElem_mem hi2)
end
end Evl
end
section
set_option Elab.async false
set_option linter.all false
set_option maxRecDepth 100000
set_option maxHeartbeats 4000000
/-! E2: [e for x in xs for c in s] -/
namespace Evl
open PySem L2 RZ
section
variable {K : PySem.W.Frag} {σ : L2.St} {H H' : Hp} {ta tb te tx tl ts : TE} {t u : TT} {x y z v : V} {r : R2}
def acc2 (f : Nat → Nat → V) (n m : Nat) : List V := (List.range n).flatMap fun i => (List.range m).map fun j => f i j
theorem acc2_succ (f : Nat → Nat → V) (n m : Nat) : acc2 f (n + 1) m = acc2 f n m ++ (List.range m).map fun j => f n j := by
  unfold acc2
  rw [List.range_succ, List.flatMap_append]
  simp
theorem acc2_len (f : Nat → Nat → V) (n m : Nat) : (acc2 f n m).length = n * m := by
  induction n with
  | zero => simp [acc2]
  | succ n ih => rw [acc2_succ, List.length_append, ih, List.length_map, List.length_range, Nat.succ_mul]
theorem tyes_go {σ : L2.St} {H : Hp} {P : Bool → Hp → Prop} (h : P true H) : tYes σ H P := h
theorem el_lc2LS {a : Addr} {xs : List V} {z : Str} {j k : Nat} {vs vs1 : List Nat} (f : Nat → Nat → V) (h : Ev tl σ H (.ref a)) (hx : SqL K H a xs) (hz : xs.length ≤ 4000) (hz2 : z.cps.size ≤ 100)
    (hw : ∀ x, wipe ((wipe σ vs).set j (some x)) vs = wipe σ vs) (hw1 : ∀ x y, wipe ((wipe ((wipe σ vs).set j (some x)) vs1).set k (some y)) vs1 = wipe ((wipe σ vs).set j (some x)) vs1)
    (hs : ∀ (i : Nat) (x : V) H1, Ex H H1 → xs[i]? = some x → Ev ts ((wipe σ vs).set j (some x)) H1 (.str z))
    (he : ∀ (i : Nat) (x : V) (m c : Nat) H1, Ex H H1 → xs[i]? = some x → z.cps[m]? = some c → Ev te ((wipe ((wipe σ vs).set j (some x)) vs1).set k (some (.str ⟨#[c]⟩))) H1 (f i m)) :
    EvL (tLc2 (iList K tl) (gName j) tYes (iStr ts) (gName k) tYes te vs vs1) σ H (acc2 f xs.length z.cps.size) := fun H0 e Q q => h H0 e _ fun H1 e1 => ⟨a, rfl, ⟨xs, ex_l (e.trans e1) hx⟩, fun D hD => by
  have hH := e.trans e1
  refine ⟨fun i m G => m = xs.length - i ∧ i ≤ xs.length ∧ Ex H1 G ∧ G D = some (.lst (acc2 f i z.cps.size)), ⟨xs.length, by simp, Nat.zero_le _, Ex.new hD, by rw [upd_same]; rfl⟩, ?_⟩
  rintro i m G ⟨rfl, hi, eG, hG⟩
  have hxG : SqL K G a xs := ex_l (hH.trans eG) hx
  by_cases hlt : i < xs.length
  · refine .inr ⟨walk_list.goes i G hlt hxG, fun G' => Ex H1 G' ∧ G' D = some (.lst (acc2 f (i + 1) z.cps.size)), fun G' p => ⟨xs.length - (i + 1), by omega, rfl, hlt, p.1, p.2⟩, fun x G' y => ?_⟩
    obtain ⟨rfl, hxi⟩ := walk_list.yields i G x G' hlt hxG y
    refine ⟨hw x, ?_⟩
    refine tyes_go (D1.yes_of rfl ?_)
    refine hs i x G' (hH.trans eG) hxi G' (Ex.refl G') _ fun G2 e2 => ⟨z, rfl, ?_⟩
    refine ⟨fun m2 k2 G3 => k2 = z.cps.size - m2 ∧ m2 ≤ z.cps.size ∧ Ex H1 G3 ∧ G3 D = some (.lst (acc2 f i z.cps.size ++ (List.range m2).map fun j => f i j)), ⟨z.cps.size, by simp, Nat.zero_le _, eG.trans e2, by rw [e2 _ _ hG]; simp⟩, ?_⟩
    rintro m2 k2 G3 ⟨rfl, hm2, eG3, hG3⟩
    by_cases hlt2 : m2 < z.cps.size
    · refine .inr ⟨walk_str.goes m2 G3 hlt2 trivial, fun G' => Ex H1 G' ∧ G' D = some (.lst (acc2 f i z.cps.size ++ (List.range (m2 + 1)).map fun j => f i j)), fun G' p => ⟨z.cps.size - (m2 + 1), by omega, rfl, hlt2, p.1, p.2⟩, fun x2 G4 y2 => ?_⟩
      obtain ⟨rfl, c, hc, rfl⟩ := walk_str.yields m2 G3 x2 G4 hlt2 trivial y2
      refine ⟨hw1 x _, ?_⟩
      refine tyes_go (D1.yes_of rfl ?_)
      refine he i x m2 c G4 (hH.trans eG3) hxi hc G4 (Ex.refl G4) _ fun G5 e5 => ⟨_, e5 _ _ hG3, ?_, ?_, ?_⟩
      · rw [List.length_append, acc2_len, List.length_map, List.length_range]
        refine Nat.lt_of_lt_of_le ?_ (by decide : 1000000 ≤ sizeLine)
        have : i * z.cps.size ≤ 4000 * 100 := Nat.mul_le_mul (by omega) hz2
        omega
      · exact Ex.mut (eG3.trans e5) hD
      · rw [upd_same, List.range_succ, List.map_append, List.append_assoc]
        rfl
    · have em : m2 = z.cps.size := by omega
      subst em
      refine .inl ⟨walk_str.stops G3 trivial, eG3, ?_⟩
      rw [acc2_succ]
      exact hG3
  · have ei : i = xs.length := by omega
    subst ei
    exact .inl ⟨walk_list.stops G hxG, q D G (fresh_back e1 hD) (e1.trans eG) hG⟩⟩
end
end Evl
end
section

set_option Elab.async false
set_option linter.all false
set_option maxRecDepth 100000
set_option maxHeartbeats 4000000
/-! D3: is_number .. is_alphabet -/
namespace D1
open PySem L2 Evl
/-- a value of a built-in type, by its type's name -/
inductive Thing (K : PySem.W.Frag) (H : Hp) : V → String → Prop where
  | non : Thing K H .non "NoneType"
  | bl (b : Bool) : Thing K H (.bl b) "bool"
  | int (i : Int) : Thing K H (.int i) "int"
  | str (z : Str) : Thing K H (.str z) "str"
  | lst {a : Addr} {xs : List V} (e : H a = some (.lst xs)) : Thing K H (.ref a) "list"
  | tup {a : Addr} {xs : List V} (e : H a = some (.tup xs)) : Thing K H (.ref a) "tuple"
theorem Thing.ty {K : PySem.W.Frag} {H : Hp} {x : V} {T : String} (h : Thing K H x T) : TyX K H x (.type T) := by
  cases h with
  | non => exact .base .non
  | bl b => exact .base (.bl b)
  | int i => exact .base (.int i)
  | str z => exact .base (.str z)
  | lst e => exact .base (.lst e)
  | tup e => exact .base (.tup e)
theorem Thing.ex {K : PySem.W.Frag} {H H' : Hp} {x : V} {T : String} (h : Thing K H x T) (e : Ex H H') : Thing K H' x T := by
  cases h with
  | non => exact .non
  | bl b => exact .bl b
  | int i => exact .int i
  | str z => exact .str z
  | lst h => exact .lst (e _ _ h)
  | tup h => exact .tup (e _ _ h)
def isNum : V → Bool
  | .int _ => true
  | _ => false
def isInt : V → Bool
  | .int _ => true
  | .bl _ => true
  | _ => false
def isBool : V → Bool
  | .bl _ => true
  | _ => false
def isText : V → Bool
  | .str _ => true
  | _ => false
theorem Thing.int_ {K : PySem.W.Frag} {H : Hp} {x : V} {T : String} (h : Thing K H x T) : PySem.W.kitOne K (.type T) (.type "int") = some (isInt x) := by
  cases h <;> first | exact kit_ty (show kitB _ _ = some true by decide +kernel) | exact kit_ty (show kitB _ _ = some false by decide +kernel)
theorem Thing.bool_ {K : PySem.W.Frag} {H : Hp} {x : V} {T : String} (h : Thing K H x T) : PySem.W.kitOne K (.type T) (.type "bool") = some (isBool x) := by
  cases h <;> first | exact kit_ty (show kitB _ _ = some true by decide +kernel) | exact kit_ty (show kitB _ _ = some false by decide +kernel)
theorem Thing.str_ {K : PySem.W.Frag} {H : Hp} {x : V} {T : String} (h : Thing K H x T) : PySem.W.kitOne K (.type T) (.type "str") = some (isText x) := by
  cases h <;> first | exact kit_ty (show kitB _ _ = some true by decide +kernel) | exact kit_ty (show kitB _ _ = some false by decide +kernel)
section
variable {P : Program} {w : World} {K : PySem.W.Frag} {mg : Str → Option Value} {base : Heap}
def spNumber (K : PySem.W.Frag) : Sp := fun vs H Q _ => ∃ x T, vs = [x] ∧ Thing K H x T ∧ Q (.bl (isNum x)) H
def between (a b : Int) : V → Bool
  | .int i => decide (a ≤ i) && decide (i ≤ b)
  | _ => false
def spWhole (K : PySem.W.Frag) : Sp := fun vs H Q _ => ∃ x T a b, vs = [x, .int a, .int b] ∧ Thing K H x T ∧ Q (.bl (between a b x)) H
def letS (z : Str) : Bool := decide (z.length = 1) && ((!decide (z.cps.toList < [97])) && !decide ([122] < z.cps.toList))
def spLetter : Sp := fun vs H Q _ => ∃ z : Str, vs = [.str z] ∧ z.length ≤ sizeLine ∧ Q (.bl (letS z)) H
abbrev s_is_number : Stmt := top 9
theorem sc_is_number : FnScope ["thing"] ["thing"] (defScope s_is_number) := ⟨rfl, rfl, rfl, by decide +kernel, rfl, by decide +kernel, by decide +kernel⟩
theorem ok_is_number {f : Addr} {fd : FuncData} (F : FnP K "is_number" s_is_number f fd) (z_isinstance : mg "isinstance" = none) (z_int : mg "int" = none) (z_bool : mg "bool" = none) : FnOk P w K mg base CX0 1 f fd ["thing"] (spNumber K) := by
  refine F.ok sc_is_number (fun vs H Q E h => ?_) (fun cdv A outer s H vs Q E hr h => ?_)
  · obtain ⟨x, T, rfl, _⟩ := h
    rfl
  · obtain ⟨x, T, rfl, hx, q⟩ := h
    have hu := hu_of hr
    refine ⟨_, PSs.nox (pss_one (ps_ret (pe_and (pe_callB call_isi (by rfl) z_isinstance PyProof.Rows.boot_isinstance (pa_cons (pv 0) (pa_cons (pe_bltn (v := .ty "int") rfl z_int (by decide +kernel) rfl) pa_nil))) (pe_one (pe_not (pe_callB call_isi (by rfl) z_isinstance PyProof.Rows.boot_isinstance (pa_cons (pv 0) (pa_cons (pe_bltn (v := .ty "bool") rfl z_bool (by decide +kernel) rfl) pa_nil)))))))), ?_⟩
    refine ⟨_, rfl, x, .ty "int", .type T, .type "int", isInt x, rfl, .ty "int", hx.ty, hx.int_, _, rfl, ?_⟩
    cases hb : isInt x with
    | true =>
      refine yes_of rfl ⟨_, rfl, x, .ty "bool", .type T, .type "bool", isBool x, rfl, .ty "bool", hx.ty, hx.bool_, _, rfl, ?_⟩
      have e : (!isBool x) = isNum x := by cases hx <;> first | rfl | cases hb
      rw [e]
      exact q
    | false =>
      refine no_of rfl ?_
      have e : isNum x = false := by cases hx <;> first | rfl | cases hb
      rw [e] at q
      exact q
abbrev s_is_whole : Stmt := top 10
theorem sc_is_whole : FnScope ["thing", "least", "most"] ["thing", "least", "most"] (defScope s_is_whole) := ⟨rfl, rfl, rfl, by decide +kernel, rfl, by decide +kernel, by decide +kernel⟩
theorem ok_is_whole {f : Addr} {fd : FuncData} (F : FnP K "is_whole" s_is_whole f fd) {f_is_number : Addr} {fd_is_number : FuncData} (F_is_number : FnP K "is_number" s_is_number f_is_number fd_is_number) (g_is_number : mg "is_number" = some (.ref f_is_number)) (z_isinstance : mg "isinstance" = none) (z_int : mg "int" = none) (z_bool : mg "bool" = none) : FnOk P w K mg base CX0 2 f fd ["thing", "least", "most"] (spWhole K) := by
  have G_is_number : FnOk P w K mg base CX0 1 f_is_number fd_is_number ["thing"] (spNumber K) := ok_is_number F_is_number z_isinstance z_int z_bool
  have b_is_number : Binds K fd_is_number ["thing"] [] := F_is_number.bindsN fun _ _ _ _ _ _ us hl => match us, hl with | [_], _ => rfl
  refine F.ok sc_is_whole (fun vs H Q E h => ?_) (fun cdv A outer s H vs Q E hr h => ?_)
  · obtain ⟨x, T, a, b, rfl, _⟩ := h
    rfl
  · obtain ⟨x, T, a, b, rfl, hx, q⟩ := h
    have hu := hu_of hr
    have hr_is_number := hr.mono (by decide : 1 ≤ 1)
    refine ⟨_, PSs.nox (pss_one (ps_ret (pe_and (pe_call G_is_number hr_is_number rfl g_is_number F_is_number.kp b_is_number .nil pass0 (pa_cons (pv 0) pa_nil)) (pe_one (pe_chain op_le op_le (pv 1) (pv 0) (pv 2)))))), ?_⟩
    refine ⟨_, rfl, x, T, rfl, hx, _, rfl, ?_⟩
    cases hb : isNum x with
    | true =>
      obtain ⟨i, rfl⟩ : ∃ i, x = .int i := by cases hx <;> first | exact ⟨_, rfl⟩ | cases hb
      refine yes_of rfl ⟨_, rfl, _, rfl, _, _, rfl, rfl, _, rfl, ?_⟩
      by_cases h1 : a ≤ i
      · refine yes_of (decide_eq_true h1) ⟨_, rfl, _, _, rfl, rfl, ?_⟩
        have e : decide (i ≤ b) = between a b (.int i) := by
          show _ = (decide (a ≤ i) && decide (i ≤ b))
          rw [decide_eq_true h1, Bool.true_and]
        show Q (.bl (decide (i ≤ b))) H
        rw [e]
        exact q
      · refine no_of (decide_eq_false h1) ?_
        have e : between a b (.int i) = false := by
          show (decide (a ≤ i) && decide (i ≤ b)) = false
          rw [decide_eq_false h1, Bool.false_and]
        rw [e] at q
        exact q
    | false =>
      refine no_of rfl ?_
      have e : between a b x = false := by cases hx <;> first | rfl | cases hb
      rw [e] at q
      exact q
abbrev s_is_letter : Stmt := top 11
theorem sc_is_letter : FnScope ["thing"] ["thing"] (defScope s_is_letter) := ⟨rfl, rfl, rfl, by decide +kernel, rfl, by decide +kernel, by decide +kernel⟩
theorem ok_is_letter {f : Addr} {fd : FuncData} (F : FnP K "is_letter" s_is_letter f fd) (z_isinstance : mg "isinstance" = none) (z_str : mg "str" = none) (z_len : mg "len" = none) : FnOk P w K mg base CX0 1 f fd ["thing"] (spLetter) := by
  refine F.ok sc_is_letter (fun vs H Q E h => ?_) (fun cdv A outer s H vs Q E hr h => ?_)
  · obtain ⟨z, rfl, _⟩ := h
    rfl
  · obtain ⟨z, rfl, hz, q⟩ := h
    have hu := hu_of hr
    refine ⟨_, PSs.nox (pss_one (ps_ret (pe_and (pe_callB call_isi (by rfl) z_isinstance PyProof.Rows.boot_isinstance (pa_cons (pv 0) (pa_cons (pe_bltn (v := .ty "str") rfl z_str (by decide +kernel) rfl) pa_nil))) (pe_and (pe_cmpR op_eq (pe_callB call_len_str (by rfl) z_len PySem.boot_len (pa_cons (pv 0) pa_nil)) pe_int (nomark _)) (pe_one (pe_chain op_le_str op_le_str pe_str (pv 0) pe_str)))))), ?_⟩
    have hx : Thing K H (.str z) "str" := .str z
    refine ⟨_, rfl, .str z, .ty "str", .type "str", .type "str", true, rfl, .ty "str", hx.ty, hx.str_, _, rfl, ?_⟩
    refine yes_of rfl ?_
    refine ⟨_, rfl, z, rfl, hz, rfl, _, rfl, ?_⟩
    have e1 : decide (V.int (z.length : Int) = V.int 1) = decide (z.length = 1) := by
      by_cases h : z.length = 1
      · rw [decide_eq_true h, h]
        exact decide_eq_true rfl
      · rw [decide_eq_false h]
        refine decide_eq_false fun e => h ?_
        have e2 : (z.length : Int) = 1 := V.int.inj e
        omega
    rw [e1]
    by_cases h : z.length = 1
    · refine yes_of (decide_eq_true h) ⟨_, rfl, _, _, rfl, rfl, _, rfl, ?_⟩
      cases h2 : decide (z.cps.toList < ("a" : Str).cps.toList) with
      | true =>
        refine no_of rfl ?_
        have e : letS z = false := by
          unfold letS
          rw [show decide (z.cps.toList < [97]) = true from h2]
          simp
        rw [e] at q
        exact q
      | false =>
        refine yes_of rfl ⟨_, _, rfl, rfl, ?_⟩
        have e : letS z = (!decide ([122] < z.cps.toList)) := by
          unfold letS
          rw [show decide (z.cps.toList < [97]) = false from h2, decide_eq_true h]
          simp
        rw [e] at q
        exact q
    · refine no_of (decide_eq_false h) ?_
      have e : letS z = false := by
        unfold letS
        rw [decide_eq_false h]
        simp
      rw [e] at q
      exact q
def letC (c : Nat) : Bool := decide (97 ≤ c) && decide (c ≤ 122)
def rising (l : List Nat) : Bool := (List.range (l.length - 1)).all fun i => decide (l.getD i 0 < l.getD (i + 1) 0)
def alphS (z : Str) : Bool := (decide (1 ≤ z.length) && decide (z.length ≤ 6)) && (z.cps.toList.all letC && rising z.cps.toList)
def alphV : V → Bool
  | .str z => alphS z
  | _ => false
def lenOk : V → Bool
  | .str z => decide (1 ≤ z.length) && decide (z.length ≤ 6)
  | _ => false
theorem is_text {x : V} (h : isText x = true) : ∃ z, x = .str z := by
  cases x <;> first | exact ⟨_, rfl⟩ | cases h
theorem one_lt (a b : Nat) : decide ([a] < [b]) = decide (a < b) := by
  by_cases h : a < b
  · rw [decide_eq_true h]
    exact decide_eq_true (List.Lex.rel h)
  · rw [decide_eq_false h]
    refine decide_eq_false fun q => h ?_
    cases q with
    | rel r => exact r
    | cons r => cases r
theorem letS_one (c : Nat) : letS ⟨#[c]⟩ = letC c := by
  show (decide (1 = 1) && ((!decide ([c] < [97])) && !decide ([122] < [c]))) = (decide (97 ≤ c) && decide (c ≤ 122))
  rw [one_lt, one_lt]
  by_cases h1 : 97 ≤ c <;> by_cases h2 : c ≤ 122 <;> simp [h1, h2] <;> omega
theorem low_of {z : Str} (h : z.cps.toList.all letC = true) : z.cps.all (· < 128) = true := by
  rw [← Array.all_toList, List.all_eq_true]
  intro c hc
  have := List.all_eq_true.mp h c hc
  simp only [letC, Bool.and_eq_true, decide_eq_true_eq] at this
  exact decide_eq_true (by omega)
theorem cut1S (z : Str) : (cutS z (some 1) none).cps.toList = z.cps.toList.drop 1 := by
  have hl : z.length = z.cps.toList.length := by
    show z.cps.size = _
    simp
  unfold cutS
  rw [show HT.sIx z.length 0 (some 1) = min 1 z.length from HT.sIx_nat z.length 0 1, HT.sIx_none]
  show List.take (z.length - min 1 z.length) (List.drop (min 1 z.length) z.cps.toList) = _
  rw [hl]
  cases z.cps.toList with
  | nil => rfl
  | cons c r =>
    rw [show min 1 (c :: r).length = 1 by rw [List.length_cons]; omega]
    exact List.take_of_length_le (by simp)
def spAlphabet (K : PySem.W.Frag) : Sp := fun vs H Q _ => ∃ x T, vs = [x] ∧ Thing K H x T ∧ (∀ z, x = .str z → z.length ≤ 100000) ∧ ∀ H', Ex H H' → Q (.bl (alphV x)) H'
abbrev s_is_alphabet : Stmt := top 12
theorem sc_is_alphabet : FnScope ["thing", "sign", "follower"] ["thing"] (defScope s_is_alphabet) := ⟨rfl, rfl, rfl, by decide +kernel, rfl, by decide +kernel, by decide +kernel⟩
theorem ok_is_alphabet {f : Addr} {fd : FuncData} (F : FnP K "is_alphabet" s_is_alphabet f fd) {f_is_letter : Addr} {fd_is_letter : FuncData} (F_is_letter : FnP K "is_letter" s_is_letter f_is_letter fd_is_letter) (g_is_letter : mg "is_letter" = some (.ref f_is_letter)) (z_isinstance : mg "isinstance" = none) (z_str : mg "str" = none) (z_len : mg "len" = none) (z_all : mg "all" = none) (z_zip : mg "zip" = none) {t6 : Tok} (g_LETTERS : mg "_LETTERS" = some (.int 6 t6)) : FnOk P w K mg base CX0 2 f fd ["thing"] (spAlphabet K) := by
  have G_is_letter : FnOk P w K mg base CX0 1 f_is_letter fd_is_letter ["thing"] spLetter := ok_is_letter F_is_letter z_isinstance z_str z_len
  have b_is_letter : Binds K fd_is_letter ["thing"] [] := F_is_letter.bindsN fun _ _ _ _ _ _ us hl => match us, hl with | [_], _ => rfl
  refine F.ok sc_is_alphabet (fun vs H Q E h => ?_) (fun cdv A outer s H vs Q E hr h => ?_)
  · obtain ⟨x, T, rfl, _⟩ := h
    rfl
  · obtain ⟨x, T, rfl, hx, hl, q⟩ := h
    have hu := hu_of hr
    have hr_is_letter := hr.mono (by decide : 1 ≤ 1)
    refine ⟨_, PSs.nox (pss_cons (ps_if (PW.pt (pw_or (pt_not (pt_val (pe_callB call_isi (by rfl) z_isinstance PyProof.Rows.boot_isinstance (pa_cons (pv 0) (pa_cons (pe_bltn (v := .ty "str") rfl z_str (by decide +kernel) rfl) pa_nil))))) (pw_or1 (pt_not (pt_chain op_le op_le pe_int (pe_callB call_len_str (by rfl) z_len PySem.boot_len (pa_cons (pv 0) pa_nil)) (pe_glob (v := .int 6) rfl g_LETTERS ⟨_, rfl⟩)))))) (pss_one (ps_ret pe_bl)) pss_nil)
      (pss_cons (ps_if (pt_not (pt_val (pe_callB (cr_all rfl) (by rfl) z_all PyProof.Rows.boot_all (pa_cons (pe_lc (own := [("sign", 1)]) (g := gName 1) (tt := tYes) (by rfl) sc_is_alphabet.nd (pi_str (pv 0)) (blkOk_by (own := [("sign", 1)]) (N := ["thing", "sign", "follower"]) (sc := defScope s_is_alphabet) (by decide +kernel)) (fun _ _ _ _ _ => pg_name (i := 1) sc_is_alphabet.nd rfl (Or.inl rfl)) (fun _ _ _ _ _ => pts_nil) (fun _ _ _ _ _ => pe_call G_is_letter hr_is_letter rfl g_is_letter F_is_letter.kp b_is_letter .nil pass0 (pa_cons (pv 1) pa_nil))) pa_nil)))) (pss_one (ps_ret pe_bl)) pss_nil)
      (pss_one (ps_ret (pe_callB (cr_all rfl) (by rfl) z_all PyProof.Rows.boot_all (pa_cons (pe_lc (own := [("sign", 1), ("follower", 2)]) (g := gTup K 2 (gCons (gName 1) (gCons (gName 2) gNil))) (tt := tYes) (by rfl) sc_is_alphabet.nd (RZ.pi_zipS (by rfl) z_zip (pa_cons (pv 0) (pa_cons (pe_slice sl_str (pv 0) (po_some pe_int) po_none) pa_nil))) (blkOk_by (own := [("sign", 1), ("follower", 2)]) (N := ["thing", "sign", "follower"]) (sc := defScope s_is_alphabet) (by decide +kernel)) (fun _ _ _ _ _ => pg_tup rfl (pgs_cons (pg_name (i := 1) sc_is_alphabet.nd rfl (Or.inl rfl)) (pgs_cons (pg_name (i := 2) sc_is_alphabet.nd rfl (Or.inl rfl)) pgs_nil))) (fun _ _ _ _ _ => pts_nil) (fun _ _ _ _ _ => pe_cmpR op_lt_str (pv 1) (pv 2) (nomark _))) pa_nil)))))), ?_⟩
    have hE : ∀ {G : Hp}, Ex H G → Ev (tCB (rIsi K) (tCons (tVar 0) (tCons (tC (.ty "str")) tNil))) [some x, none, none] G (.bl (isText x)) := fun {G} e0 H1 e Q1 q1 =>
      ⟨x, rfl, x, .ty "str", .type T, .type "str", isText x, rfl, .ty "str", (hx.ex (e0.trans e)).ty, hx.str_, q1 H1 (Ex.refl H1)⟩
    refine q_when (b := (!isText x) || !lenOk x) (et_or (et_not (et_B (hE (Ex.refl H)))) (fun hb => et_not (et_test ?_))) (fun hb H1 e1 => ?_) (fun hb H1 e1 => ?_)
    · obtain ⟨z, rfl⟩ := is_text (x := x) (by simpa using hb)
      intro H1 e1 Q1 q1
      have hz := hl z rfl
      refine ⟨_, rfl, z, rfl, Nat.le_trans hz (by decide), _, _, rfl, rfl, _, rfl, ?_⟩
      show if decide ((1 : Int) ≤ (z.length : Int)) = true then _ else _
      by_cases h1 : 1 ≤ z.length
      · refine yes_of (decide_eq_true (by omega)) ⟨_, _, rfl, rfl, ?_⟩
        have e6 : decide ((z.length : Int) ≤ 6) = lenOk (.str z) := by
          show _ = (decide (1 ≤ z.length) && decide (z.length ≤ 6))
          rw [decide_eq_true h1, Bool.true_and]
          by_cases h2 : z.length ≤ 6
          · rw [decide_eq_true h2]
            exact decide_eq_true (by omega)
          · rw [decide_eq_false h2]
            exact decide_eq_false (by omega)
        show Q1 (.bl (decide ((z.length : Int) ≤ 6))) H1
        rw [e6]
        exact q1 H1 (Ex.refl H1)
      · refine no_of (decide_eq_false (by omega)) ?_
        have e6 : lenOk (.str z) = false := by
          show (decide (1 ≤ z.length) && decide (z.length ≤ 6)) = false
          rw [decide_eq_false h1, Bool.false_and]
        have := q1 H1 (Ex.refl H1)
        rw [e6] at this
        exact this
    · refine s_ret ev_c fun H2 e2 => ?_
      have e : alphV x = false := by
        cases x <;> first | rfl | skip
        rename_i z
        have hb2 : lenOk (.str z) = false := by simpa [isText] using hb
        show ((decide (1 ≤ z.length) && decide (z.length ≤ 6)) && _) = false
        rw [show (decide (1 ≤ z.length) && decide (z.length ≤ 6)) = false from hb2, Bool.false_and]
      have := q H2 (e1.trans e2)
      rw [e] at this
      exact this
    · have hb1 : isText x = true ∧ lenOk x = true := by simpa using hb
      obtain ⟨z, rfl⟩ := is_text hb1.1
      have hlen : 1 ≤ z.length ∧ z.length ≤ 6 := by
        have := hb1.2
        simp only [lenOk, Bool.and_eq_true, decide_eq_true_eq] at this
        exact this
      have hs : z.cps.size = z.cps.toList.length := by simp
      have hzl : z.length = z.cps.size := rfl
      have hA : ∀ {G : Hp}, Ev (tCB (rAll K) (tCons (tLc (iStr (tVar 0)) (gName 1) tYes (tCall spLetter [] E0 (tCons (tVar 1) tNil)) [1]) tNil)) [some (.str z), none, none] G (.bl (z.cps.toList.all letC)) := fun {G} =>
        ev_is (ev_all (bs := (List.range z.cps.size).map fun i => letC (z.cps.toList.getD i 0)) (el_is (el_lcS (fun i => V.bl (letC (z.cps.toList.getD i 0))) (ev_var rfl) (by omega) (fun _ => rfl) (fun i c H3 _ hc H4 _ Q1 q1 => by
          have e5 : z.cps.toList.getD i 0 = c := by
            rw [List.getD_eq_getElem?_getD, Array.getElem?_toList, hc]
            rfl
          rw [e5] at q1
          exact ⟨_, rfl, ⟨#[c]⟩, rfl, (by show 1 ≤ sizeLine; decide), (letS_one c).symm ▸ q1 H4 (Ex.refl H4)⟩)) (given_map _ _))) (by rw [Evl.all_range, hs, all_getD])
      refine q_when (et_not (et_B hA)) (fun hb H2 e2 => ?_) (fun hb H2 e2 => ?_)
      · refine s_ret ev_c fun H3 e3 => ?_
        have e : alphV (.str z) = false := by
          show (_ && (z.cps.toList.all letC && _)) = false
          rw [show z.cps.toList.all letC = false by simpa using hb, Bool.false_and, Bool.and_false]
        have := q H3 ((e1.trans e2).trans e3)
        rw [e] at this
        exact this
      · have hlet : z.cps.toList.all letC = true := by simpa using hb
        have e : alphV (.str z) = rising z.cps.toList := by
          show ((decide (1 ≤ z.length) && decide (z.length ≤ 6)) && (z.cps.toList.all letC && _)) = _
          rw [hlet, decide_eq_true hlen.1, decide_eq_true hlen.2]
          simp
        refine s_ret (v := .bl (rising z.cps.toList)) ?_ fun H3 e3 => ?_
        · have hdr : (cutS z (some 1) none).cps.toList = z.cps.toList.drop 1 := cut1S z
          have hsz : (cutS z (some 1) none).cps.size = z.cps.size - 1 := by
            rw [show (cutS z (some 1) none).cps.size = (cutS z (some 1) none).cps.toList.length by simp, hdr, List.length_drop, hs]
          have a1 : z.cps.all (· < 128) = true := low_of hlet
          have a2 : (cutS z (some 1) none).cps.all (· < 128) = true := low_of (by
            rw [hdr, List.all_eq_true]
            intro c hc
            exact List.all_eq_true.mp hlet c (List.mem_of_mem_drop hc))
          refine ev_is (ev_all (bs := (List.range (min z.cps.size (cutS z (some 1) none).cps.size)).map fun i => decide (z.cps.toList.getD i 0 < z.cps.toList.getD (i + 1) 0)) (el_is (el_lcZ (a := z) (b := cutS z (some 1) none) (vs := [1, 2]) (fun i => V.bl (decide (z.cps.toList.getD i 0 < z.cps.toList.getD (i + 1) 0)))
            (ea_cons (ev_var rfl) (ea_cons (fun H4 _ Q1 q1 => ⟨_, rfl, 1, rfl, z, rfl, (by show z.length ≤ sizeLine; exact Nat.le_trans (by omega) (by decide : 6 ≤ sizeLine)), q1 H4 (Ex.refl H4)⟩) ea_nil)) a1 a2 (by omega) (fun _ _ => rfl) (fun i c d H3 _ hc hd H4 _ Q1 q1 => ?_)) (given_map _ _))) ?_
          · have e5 : z.cps.toList.getD i 0 = c := by
              rw [List.getD_eq_getElem?_getD, Array.getElem?_toList, hc]
              rfl
            have e6 : z.cps.toList.getD (i + 1) 0 = d := by
              have : (cutS z (some 1) none).cps.toList[i]? = some d := by rw [Array.getElem?_toList]; exact hd
              rw [hdr, List.getElem?_drop, Nat.add_comm 1 i] at this
              rw [List.getD_eq_getElem?_getD, this]
              rfl
            have := q1 H4 (Ex.refl H4)
            rw [e5, e6, ← one_lt] at this
            exact ⟨_, rfl, _, rfl, ⟨#[c]⟩, ⟨#[d]⟩, rfl, rfl, this⟩
          · rw [Evl.all_range, hsz, show min z.cps.size (z.cps.size - 1) = z.cps.toList.length - 1 by rw [← hs]; omega]
            rfl
        · have := q H3 ((e1.trans e2).trans e3)
          rw [e] at this
          exact this
end
end D1
end
section
set_option Elab.async false
set_option linter.all false
set_option maxRecDepth 100000
set_option maxHeartbeats 4000000
/-! D4: _law_is_ahead, _law_many, _law_letters -/
namespace D1
open PySem L2 Evl
section
variable {P : Program} {w : World} {K : PySem.W.Frag} {mg : Str → Option Value} {base : Heap}
def aheadB (a b : Str) : Bool := decide (a.length < b.length) || (decide (a.length = b.length) && decide (a.cps.toList < b.cps.toList))
def spAhead : Sp := fun vs H Q _ => ∃ a b : Str, vs = [.str a, .str b] ∧ a.length ≤ 100000 ∧ b.length ≤ 100000 ∧ Q (.bl (aheadB a b)) H
theorem int_lt (a b : Nat) : decide ((a : Int) < (b : Int)) = decide (a < b) := by
  by_cases h : a < b
  · rw [decide_eq_true h]; exact decide_eq_true (by omega)
  · rw [decide_eq_false h]; exact decide_eq_false (by omega)
theorem int_eq (a b : Nat) : decide (V.int (a : Int) = V.int (b : Int)) = decide (a = b) := by
  by_cases h : a = b
  · rw [decide_eq_true h, h]; exact decide_eq_true rfl
  · rw [decide_eq_false h]
    refine decide_eq_false fun e => h ?_
    have e2 : (a : Int) = (b : Int) := V.int.inj e
    omega
abbrev s_is_ahead : Stmt := top 21
theorem sc_is_ahead : FnScope ["_law_one", "_law_other"] ["_law_one", "_law_other"] (defScope s_is_ahead) := ⟨rfl, rfl, rfl, by decide +kernel, rfl, by decide +kernel, by decide +kernel⟩
theorem ok_is_ahead {f : Addr} {fd : FuncData} (F : FnP K "_law_is_ahead" s_is_ahead f fd) (z_len : mg "len" = none) : FnOk P w K mg base CX0 1 f fd ["_law_one", "_law_other"] (spAhead) := by
  refine F.ok sc_is_ahead (fun vs H Q E h => ?_) (fun cdv A outer s H vs Q E hr h => ?_)
  · obtain ⟨a, b, rfl, _⟩ := h
    rfl
  · obtain ⟨a, b, rfl, ha, hb, q⟩ := h
    have hu := hu_of hr
    refine ⟨_, PSs.nox (pss_one (ps_ret (pe_or (pe_cmpR op_lt (pe_callB call_len_str (by rfl) z_len PySem.boot_len (pa_cons (pv 0) pa_nil)) (pe_callB call_len_str (by rfl) z_len PySem.boot_len (pa_cons (pv 1) pa_nil)) (nomark _)) (pe_one (pe_and (pe_cmpR op_eq (pe_callB call_len_str (by rfl) z_len PySem.boot_len (pa_cons (pv 0) pa_nil)) (pe_callB call_len_str (by rfl) z_len PySem.boot_len (pa_cons (pv 1) pa_nil)) (nomark _)) (pe_one (pe_cmpR op_lt_str (pv 0) (pv 1) (nomark _)))))))), ?_⟩
    have sz : 100000 ≤ sizeLine := by decide
    refine ⟨_, rfl, a, rfl, Nat.le_trans ha sz, _, rfl, b, rfl, Nat.le_trans hb sz, _, _, rfl, rfl, _, rfl, ?_⟩
    show if decide ((a.length : Int) < (b.length : Int)) = true then _ else _
    rw [int_lt]
    unfold aheadB at q
    cases h1 : decide (a.length < b.length) with
    | true =>
      rw [h1, Bool.true_or] at q
      exact yes_of rfl q
    | false =>
      rw [h1, Bool.false_or] at q
      refine no_of rfl ⟨_, rfl, a, rfl, Nat.le_trans ha sz, _, rfl, b, rfl, Nat.le_trans hb sz, rfl, _, rfl, ?_⟩
      rw [int_eq]
      cases h2 : decide (a.length = b.length) with
      | true =>
        rw [h2, Bool.true_and] at q
        exact yes_of rfl ⟨_, rfl, _, rfl, a, b, rfl, rfl, q⟩
      | false =>
        rw [h2, Bool.false_and] at q
        exact no_of rfl q
def manyS (l : Nat) : Nat → Nat × Nat
  | 0 => (1, 1)
  | k + 1 => if (manyS l k).1 ≤ 2000 then ((manyS l k).1 + (manyS l k).2 * l, (manyS l k).2 * l) else manyS l k
def spMany : Sp := fun vs H Q _ => ∃ (z : Str) (n : Nat), vs = [.str z, .int (n : Int)] ∧ z.length ≤ 100 ∧ n ≤ 1000 ∧ ∀ H', Ex H H' → Q (.int ((manyS z.length n).1 : Int)) H'
abbrev s_many : Stmt := top 24
theorem sc_many : FnScope ["_law_letters_here", "_law_length", "_law_found", "_law_last", "_law_turn"] ["_law_letters_here", "_law_length"] (defScope s_many) := ⟨rfl, rfl, rfl, by decide +kernel, rfl, by decide +kernel, by decide +kernel⟩
theorem ok_many {f : Addr} {fd : FuncData} (F : FnP K "_law_many" s_many f fd) (z_len : mg "len" = none) (z_range : mg "range" = none) : FnOk P w K mg base CX0 1 f fd ["_law_letters_here", "_law_length"] (spMany) := by
  refine F.ok sc_many (fun vs H Q E h => ?_) (fun cdv A outer s H vs Q E hr h => ?_)
  · obtain ⟨z, n, rfl, _⟩ := h
    rfl
  · obtain ⟨z, n, rfl, hz, hn, q⟩ := h
    have hu := hu_of hr
    refine ⟨_, PSs.nox (pss_cons (ps_asg (pe_tup (pa_cons pe_int (pa_cons pe_int pa_nil))) (pg_tup rfl (pgs_cons (pg_name (i := 2) sc_many.nd rfl (Or.inl rfl)) (pgs_cons (pg_name (i := 3) sc_many.nd rfl (Or.inl rfl)) pgs_nil))))
      (pss_cons (ps_for PassesOwn.never rfl (pi_range1 rfl z_range (pa_cons (pv 1) pa_nil)) (pg_name (i := 4) sc_many.nd rfl (Or.inl rfl)) (pss_one (ps_if (pt_cmpR op_le (pv 2) pe_int (nomark _)) (pss_cons (ps_set (i := 3) sc_many.nd rfl (Or.inl rfl) (pe_op op_mul (pv 3) (pe_callB call_len_str (by rfl) z_len PySem.boot_len (pa_cons (pv 0) pa_nil))))
      (pss_one (ps_set (i := 2) sc_many.nd rfl (Or.inl rfl) (pe_op op_add (pv 2) (pv 3))))) pss_nil)))
      (pss_one (ps_ret (pv 2))))), ?_⟩
    have sz : 100 ≤ sizeLine := by decide
    refine ⟨(by show 2 ≤ sizeLine; decide), fun t ht => ⟨t, _, rfl, SqT.of upd_same, rfl, _, _, rfl, _, _, rfl, rfl, ?_⟩⟩
    refine q_forR1 (n := (n : Int)) (ea_cons (ev_var rfl) ea_nil) ⟨by omega, by omega⟩ (fun k σ' H' => ∃ x4, σ' = [some (.str z), some (.int (n : Int)), some (.int ((manyS z.length k).1 : Int)), some (.int ((manyS z.length k).2 : Int)), x4] ∧ Ex H H') (fun H1 e => ⟨none, rfl, (Ex.new ht).trans e⟩) ?_ ?_
    · rintro k σ' H' hk ⟨x4, rfl, e⟩
      refine s_when (b := decide ((manyS z.length k).1 ≤ 2000)) ?_ (fun hb H1 e1 => ?_) (fun hb H1 e1 => ?_)
      · refine et_test (ev_is (ev_op (ev_var rfl) ev_c rv_I0) ?_)
        show V.bl (decide (((manyS z.length k).1 : Int) ≤ 2000)) = _
        congr 1
        by_cases h : (manyS z.length k).1 ≤ 2000
        · rw [decide_eq_true h]; exact decide_eq_true (by omega)
        · rw [decide_eq_false h]; exact decide_eq_false (by omega)
      · refine ⟨_, rfl, _, rfl, z, rfl, Nat.le_trans hz sz, _, _, rfl, rfl, .inr ⟨by omega, by omega⟩, _, rfl, _, rfl, _, _, rfl, rfl, ?_⟩
        refine ⟨some (.int (k : Int)), ?_, e.trans e1⟩
        have h : (manyS z.length k).1 ≤ 2000 := of_decide_eq_true hb
        have e2 : manyS z.length (k + 1) = ((manyS z.length k).1 + (manyS z.length k).2 * z.length, (manyS z.length k).2 * z.length) := if_pos h
        rw [e2]
        show _ = [some (V.str z), some (V.int (n : Int)), some (V.int (((manyS z.length k).1 + (manyS z.length k).2 * z.length : Nat) : Int)), some (V.int (((manyS z.length k).2 * z.length : Nat) : Int)), some (V.int (k : Int))]
        rw [Int.natCast_add, Int.natCast_mul]
        rfl
      · refine ⟨some (.int (k : Int)), ?_, e.trans e1⟩
        have h : ¬(manyS z.length k).1 ≤ 2000 := of_decide_eq_false hb
        have e2 : manyS z.length (k + 1) = manyS z.length k := if_neg h
        rw [e2]
        rfl
    · rintro σ' H' ⟨x4, rfl, e⟩
      refine s_ret (ev_var rfl) fun H1 e1 => ?_
      exact q H1 (e.trans e1)
end
end D1
end
section
set_option Elab.async false
set_option linter.all false
set_option maxRecDepth 100000
set_option maxHeartbeats 4000000
/-! D5: _law_letters -/
namespace D1
open PySem L2 Evl PyProof.Rows PySem.Spec
def one (c : Nat) : Str := ⟨#[c]⟩
theorem join_ones (ds : List Nat) : (Txt.join (Str.ofString "") (ds.map one)).cps.toList = ds := by
  rw [TL.join_eq]
  induction ds with
  | nil => rfl
  | cons c r ih =>
    cases r with
    | nil => rfl
    | cons d r =>
      show ((one c ++ Str.ofString "") ++ Str.join (Str.ofString "") ((d :: r).map one)).cps.toList = _
      rw [show ∀ a b : Str, (a ++ b).cps.toList = a.cps.toList ++ b.cps.toList from fun a b => by
        show (a.cps ++ b.cps).toList = _
        exact Array.toList_append, ih]
      rfl
theorem lt_one (a b : Nat) : ltCps (one a).cps.toList (one b).cps.toList = decide (a < b) := by
  show ltCps [a] [b] = _
  by_cases h : a < b
  · simp [ltCps, h]
  · simp [ltCps, h]
theorem rise_adj : ∀ (p : Nat) (r : List Nat), risingS (one p) (r.map one) = true → ∀ (i a b : Nat), (p :: r)[i]? = some a → (p :: r)[i + 1]? = some b → a ≤ b
  | p, [], _, i, a, b, _, h2 => by simp at h2
  | p, x :: r, h, 0, a, b, h1, h2 => by
    obtain ⟨q1, q2⟩ := Bool.and_eq_true_iff.mp (show (!ltCps (one x).cps.toList (one p).cps.toList && risingS (one x) (r.map one)) = true from h)
    rw [lt_one] at q1
    obtain rfl : p = a := Option.some.inj h1
    obtain rfl : x = b := Option.some.inj h2
    have : ¬x < p := by simpa using q1
    omega
  | p, x :: r, h, i + 1, a, b, h1, h2 => by
    obtain ⟨q1, q2⟩ := Bool.and_eq_true_iff.mp (show (!ltCps (one x).cps.toList (one p).cps.toList && risingS (one x) (r.map one)) = true from h)
    exact rise_adj x r q2 i a b h1 h2
theorem rising_of {ds : List Nat} (h : sortedS (ds.map one) = true) (nd : ds.Nodup) : rising ds = true := by
  unfold rising
  rw [List.all_eq_true]
  intro i hi
  have hi2 := List.mem_range.mp hi
  have h1 : i < ds.length := by omega
  have h2 : i + 1 < ds.length := by omega
  rw [List.getD_eq_getElem?_getD, List.getD_eq_getElem?_getD, List.getElem?_eq_getElem h1, List.getElem?_eq_getElem h2]
  refine decide_eq_true ?_
  show ds[i] < ds[i + 1]
  have ne : ds[i] ≠ ds[i + 1] := List.pairwise_iff_getElem.mp nd i (i + 1) h1 h2 (by omega)
  have le : ds[i] ≤ ds[i + 1] := by
    cases ds with
    | nil => simp at h1
    | cons p r => exact rise_adj p r h i _ _ (List.getElem?_eq_getElem h1) (List.getElem?_eq_getElem h2)
  omega
def letT : Str := "abcdefghijklmnopqrstuvwxyz"
theorem let_at (j : Nat) (h : j < 26) : letT.cps.toList[j]? = some (97 + j) := by
  have : ∀ j, j < 26 → letT.cps.toList[j]? = some (97 + j) := by decide +kernel
  exact this j h
def pick (at_ st : Int) (i : Nat) : Nat := 97 + ((at_ + st * (i : Int)) % 26).toNat
theorem pick_nodup {a d : Int} {n : Nat} (h0 : 0 ≤ d) (h1 : d < 6) (hn : n ≤ 6) : ((List.range n).map (pick a (1 + 2 * d))).Nodup := by
  refine List.pairwise_iff_getElem.mpr fun i j hi hj hij => ?_
  rw [List.length_map, List.length_range] at hi hj
  rw [List.getElem_map, List.getElem_map, List.getElem_range, List.getElem_range]
  unfold pick
  have hd : d = 0 ∨ d = 1 ∨ d = 2 ∨ d = 3 ∨ d = 4 ∨ d = 5 := by omega
  intro e
  have m1 : 0 ≤ (a + (1 + 2 * d) * (i : Int)) % 26 := Int.emod_nonneg _ (by decide)
  have m2 : 0 ≤ (a + (1 + 2 * d) * (j : Int)) % 26 := Int.emod_nonneg _ (by decide)
  have e2 : (a + (1 + 2 * d) * (i : Int)) % 26 = (a + (1 + 2 * d) * (j : Int)) % 26 := by omega
  rcases hd with rfl | rfl | rfl | rfl | rfl | rfl <;> omega
theorem pick_let (a st : Int) (i : Nat) : letC (pick a st i) = true := by
  unfold pick letC
  have m1 : 0 ≤ (a + st * (i : Int)) % 26 := Int.emod_nonneg _ (by decide)
  have m2 : (a + st * (i : Int)) % 26 < 26 := Int.emod_lt_of_pos _ (by decide)
  rw [decide_eq_true (by omega), decide_eq_true (by omega)]
  rfl
theorem letters_ok {a d : Int} {n : Nat} (h0 : 0 ≤ d) (h1 : d < 6) (hn : n ≤ 6) (hn1 : 1 ≤ n) {ys : List Str} (hp : ys.Perm (((List.range n).map (pick a (1 + 2 * d))).map one)) (hs : sortedS ys = true) : alphS (Txt.join (Str.ofString "") ys) = true ∧ (ys.map (·.length)).sum = n ∧ ys.length = n := by
  obtain ⟨ds, p2, rfl⟩ := perm_lift one hp ((List.range n).map (pick a (1 + 2 * d))) rfl
  have hl : ds.length = n := by rw [p2.length_eq, List.length_map, List.length_range]
  have nd : ds.Nodup := p2.nodup_iff.mpr (pick_nodup h0 h1 hn)
  have hz := join_ones ds
  have hlen : (Txt.join (Str.ofString "") (ds.map one)).length = n := by
    show (Txt.join (Str.ofString "") (ds.map one)).cps.size = n
    rw [← Array.length_toList, hz, hl]
  refine ⟨?_, ?_, by rw [List.length_map, hl]⟩
  · unfold alphS
    rw [hz, hlen, rising_of hs nd, decide_eq_true hn1, decide_eq_true hn]
    have : ds.all letC = true := List.all_eq_true.mpr fun c hc => by
      obtain ⟨i, _, rfl⟩ := List.mem_map.mp (p2.mem_iff.mp hc)
      exact pick_let _ _ _
    rw [this]
    rfl
  · rw [List.map_map, show ((fun x : Str => x.length) ∘ one) = fun _ => 1 from rfl, ← hl]
    clear hs hz hlen nd p2 hp hl
    induction ds with
    | nil => rfl
    | cons c r ih => rw [List.map_cons, List.sum_cons, ih, List.length_cons]; omega
theorem call1 {r : List V → Hp → VK → Prop} {ta : TE} {σ : L2.St} {H : Hp} {Q : VK} (h : ta σ H fun x H1 => r [x] H1 Q) : tCB r (tCons ta tNil) σ H Q := h
theorem four {d : Int} (h0 : 0 ≤ d) (h1 : d < 4) : ∃ n : Int, (1 ≤ n ∧ n ≤ 6 ∧ (n = 3 ∨ n = 6)) ∧ atI [V.int 3, V.int 3, V.int 3, V.int 6] d = some (.int n) := by
  have hd : d = 0 ∨ d = 1 ∨ d = 2 ∨ d = 3 := by omega
  rcases hd with rfl | rfl | rfl | rfl
  · exact ⟨3, by decide, rfl⟩
  · exact ⟨3, by decide, rfl⟩
  · exact ⟨3, by decide, rfl⟩
  · exact ⟨6, by decide, rfl⟩
theorem atI_ofN {xs : List Nat} {i : Int} {v : Nat} (h0 : 0 ≤ i) (h : xs[i.toNat]? = some v) : atI xs i = some v := by
  have e1 : i = (i.toNat : Int) := by omega
  generalize i.toNat = j at e1 h
  subst e1
  exact atI_nat h
theorem given_str (n : Nat) (f : Nat → Nat) : given n (fun _ => true) (fun i => V.str (one (f i))) = (((List.range n).map f).map one).map V.str := by
  unfold given
  rw [List.filter_eq_self.mpr (fun _ _ => rfl), List.map_map, List.map_map]
  rfl
section
variable {P : Program} {w : World} {K : PySem.W.Frag} {mg : Str → Option Value} {base : Heap}
def spLetters : Sp := fun vs H Q _ => ∃ m L C, vs = [.ref m] ∧ MS m L C H ∧ ∀ z H', alphS z = true → (frM m L C).R H H' → Q (.str z) H'
abbrev s_letters : Stmt := top 20
theorem sc_letters : FnScope ["_law_m", "_law_letters_here", "_law_many_here", "_law_at", "_law_stride", "_law_k"] ["_law_m"] (defScope s_letters) := ⟨rfl, rfl, rfl, by decide +kernel, rfl, by decide +kernel, by decide +kernel⟩
theorem ok_letters {f : Addr} {fd : FuncData} (F : FnP K "_law_letters" s_letters f fd) {f_draw : Addr} {fd_draw : FuncData} (G_draw : FnOk P w K mg base CX0 2 f_draw fd_draw ["_law_m", "_law_many_here"] spDraw) (F_draw : FnP K "_law_draw" s_draw f_draw fd_draw) (g_draw : mg "_law_draw" = some (.ref f_draw)) (z_range : mg "range" = none) (z_sorted : mg "sorted" = none) : FnOk P w K mg base CX0 3 f fd ["_law_m"] (spLetters) := by
  have b_draw : Binds K fd_draw ["_law_m", "_law_many_here"] [] := F_draw.bindsN fun _ _ _ _ _ _ us hl => match us, hl with | [_, _], _ => rfl
  refine F.ok sc_letters (fun vs H Q E h => ?_) (fun cdv A outer s H vs Q E hr h => ?_)
  · obtain ⟨m, L, C, rfl, _⟩ := h
    rfl
  · obtain ⟨m, L, C, rfl, hM, q⟩ := h
    have hu := hu_of hr
    have hr_draw : Room 2 _ := hr
    refine ⟨_, PSs.nox (pss_cons (ps_set (i := 1) sc_letters.nd rfl (Or.inr rfl) pe_str)
      (pss_cons (ps_asg (pe_tup (pa_cons (pe_op op_add pe_int (pe_call G_draw hr_draw rfl g_draw F_draw.kp b_draw .nil pass0 (pa_cons (pv 0) (pa_cons (pe_ix ix_list (pe_lst (pa_cons pe_int (pa_cons pe_int (pa_cons pe_int (pa_cons pe_int pa_nil))))) (pe_call G_draw hr_draw rfl g_draw F_draw.kp b_draw .nil pass0 (pa_cons (pv 0) (pa_cons pe_int pa_nil))) (fun _ _ => rfl)) pa_nil)))) (pa_cons (pe_call G_draw hr_draw rfl g_draw F_draw.kp b_draw .nil pass0 (pa_cons (pv 0) (pa_cons pe_int pa_nil))) pa_nil))) (pg_tup rfl (pgs_cons (pg_name (i := 2) sc_letters.nd rfl (Or.inl rfl)) (pgs_cons (pg_name (i := 3) sc_letters.nd rfl (Or.inr rfl)) pgs_nil))))
      (pss_cons (ps_set (i := 4) sc_letters.nd rfl (Or.inr rfl) (pe_op op_add pe_int (pe_op op_mul pe_int (pe_call G_draw hr_draw rfl g_draw F_draw.kp b_draw .nil pass0 (pa_cons (pv 0) (pa_cons pe_int pa_nil))))))
      (pss_one (ps_ret (pe_join pe_str (pe_callB cr_sortedS (by rfl) z_sorted (by decide +kernel) (pa_cons (pe_lc (own := [("_law_k", 5)]) (g := gName 5) (tt := tYes) (by rfl) sc_letters.nd (pi_range1 rfl z_range (pa_cons (pv 2) pa_nil)) (blkOk_by (own := [("_law_k", 5)]) (N := ["_law_m", "_law_letters_here", "_law_many_here", "_law_at", "_law_stride", "_law_k"]) (sc := defScope s_letters) (by decide +kernel)) (fun _ _ _ _ _ => pg_name (i := 5) sc_letters.nd rfl (Or.inl rfl)) (fun _ _ _ _ _ => pts_nil) (fun _ _ _ _ _ => pe_ix ix_str (pv 1) (pe_op op_mod (pe_op op_add (pv 3) (pe_op op_mul (pv 4) (pv 5))) pe_int) (fun _ _ => rfl))) pa_nil)))))))), ?_⟩
    have sz4 : 4 ≤ sizeLine := by decide
    have F0 : (frM m L C).R H H := .refl hM
    refine ⟨_, rfl, sz4, fun l hl => ?_⟩
    have r0 : (frM m L C).R H (upd H l (.lst [.int 3, .int 3, .int 3, .int 6])) := .new hM hl
    refine ⟨_, rfl, m, L, C, 4, rfl, r0.inv, by decide, by decide, fun d1 H1 d10 d11 r1 => ?_⟩
    have hl1 : H1 l = some (.lst [.int 3, .int 3, .int 3, .int 6]) := r1.keep l _ (Fr.fresh (F := frM m L C) hM hl) upd_same
    obtain ⟨n1, hn1, an1⟩ := four d10 d11
    refine ⟨l, _, _, _, rfl, rfl, SqL.of hl1, an1, m, L, C, n1, rfl, r1.inv, by omega, by omega, fun d2 H2 d20 d21 r2 => ?_⟩
    refine ⟨_, _, rfl, rfl, _, rfl, m, L, C, 26, rfl, r2.inv, by decide, by decide, fun d3 H3 d30 d31 r3 => ?_⟩
    refine ⟨(by show 2 ≤ sizeLine; decide), fun t ht => ⟨t, _, rfl, SqT.of upd_same, rfl, _, _, rfl, _, _, rfl, rfl, ?_⟩⟩
    have r4 : (frM m L C).R H (upd H3 t (.tup [.int (1 + d2), .int d3])) := ((r0.trans r1).trans (r2.trans r3)).trans (.new r3.inv ht)
    refine ⟨_, rfl, m, L, C, 6, rfl, r4.inv, by decide, by decide, fun d4 H4 d40 d41 r5 => ?_⟩
    refine ⟨_, _, rfl, rfl, .inl ⟨by decide, by decide⟩, _, _, rfl, rfl, ?_⟩
    have hnn : ((1 + d2).toNat : Int) = 1 + d2 := by omega
    have r45 := r4.trans r5
    refine ⟨⟨_, rfl⟩, ?_⟩
    refine call1 ?_
    refine el_lcR1 (t := tYes) (σ := [some (.ref m), some (.str letT), some (.int (1 + d2)), some (.int d3), some (.int (1 + 2 * d4)), none]) (j := 5) (vs := [5]) (n := 1 + d2) (fun _ => true) (fun i => V.str (one (pick d3 (1 + 2 * d4) i))) (ea_cons (ev_var (i := 2) rfl) ea_nil) ⟨by omega, by omega⟩ (by intro x; rfl) (fun k H5 _ _ H6 _ Q1 q1 => q1 H6 (Ex.refl H6)) (fun i H5 _ hi _ H6 _ Q1 q1 => ?_) H4 (Ex.refl H4) _ fun p H5 hp e5 hp5 => ?_
    · have m1 : 0 ≤ (d3 + (1 + 2 * d4) * (i : Int)) % 26 := Int.emod_nonneg _ (by decide)
      have m2 : (d3 + (1 + 2 * d4) * (i : Int)) % 26 < 26 := Int.emod_lt_of_pos _ (by decide)
      refine ⟨_, rfl, _, rfl, _, rfl, _, rfl, _, _, rfl, rfl, .inl ⟨by omega, by omega⟩, _, _, rfl, rfl, _, _, rfl, rfl, (by show (0 : Int) < 26; decide), letT, _, pick d3 (1 + 2 * d4) i, rfl, rfl, (by decide +kernel), ?_, q1 H6 (Ex.refl H6)⟩
      exact atI_ofN m1 (let_at _ (by omega))
    · rw [given_str] at hp5
      refine ⟨p, _, rfl, SqL.of hp5, ?_, fun ys p2 hperm hsort hp2 => ?_⟩
      · rw [List.length_map, List.length_map, List.length_range]
        omega
      · have ok := letters_ok (a := d3) (d := d4) (n := (1 + d2).toNat) d40 d41 (by omega) (by omega) hperm hsort
        refine ⟨Str.ofString "", p2, ys, rfl, rfl, .inl (SqL.of upd_same), ?_, ?_⟩
        · rw [ok.2.1, ok.2.2]
          show (1 + d2).toNat + (1 + d2).toNat * 0 ≤ 16777216
          omega
        · refine q _ _ ok.1 ((r45.trans (.ex r5.inv e5)).trans (.new (Fr.R.ex r5.inv e5).inv hp2))
end
end D1
end
section
set_option Elab.async false
set_option linter.all false
set_option maxRecDepth 100000
set_option maxHeartbeats 4000000
/-! X1: own exceptions of any of the eleven bases, made with positional arguments and keywords -/
namespace PySem
namespace VX
open PySem.W PySem.Calls PyProof.Rows PySem.HandSPX
section
variable {M : Model} {A : Around} {E : Value → Shared → Prop} {h : Heap} {g : Array GenState} {d : Drawn} {t : Nat} {os : OsState}
variable {nm q : Str} {C N : Addr} {bs bm bmB : List Value} {hdct : Bool} {sn : List Str} {sub : List Value} {ab : Bool} {col : Option Bool} {dd : Option Addr} {k0 k1 k2 k3 k5 : Option Value} {B newId initId : String}
theorem newGuardK (F : ExcBaseFacts B newId initId bmB) (hT : ∀ X : String, bm.contains (.type X) = bmB.contains (.type X)) {rest : List Value} {kw : List (Str × Value)} {Q : Unit → Shared → Prop}
    (hC : h.get? C = some (excClassObj nm q C N bs bm hdct sn sub ab col dd k0 k1 k2 k3 k5 newId)) (hq : Q () ⟨h, g, d, t, os⟩) :
    wpAny M A (checkBuiltinCall newId ⟨.ref C :: rest, kw⟩) Q E ⟨h, g, d, t, os⟩ := by
  have inB : (Value.ref C :: bm).contains (.type B) = true := by rw [List.contains_cons, hT, F.hasB]; exact Bool.or_true _
  have star := F.noStar
  simp only [checkBuiltinCall, F.newKind, F.newSplit, F.newRow]
  repeat (first
    | refine wpAny_loadPart_at hC ?_
    | (refine wpAny_isSubtype_exc hC ?_; rw [inB])
    | refine wpAny_staticBase_exc hC ?_
    | refine wpAny_madeBy_exc hC ?_
    | simp only [bne_self_eq_false, Bool.false_eq_true, if_false]
    | wp_step)
  exact hq
end
section
variable {prog : Program} {w : World} {A : Around} {E : Value → Shared → Prop} {R : Result → Shared → Prop} {h : Heap} {g : Array GenState} {d : Drawn} {t : Nat} {os : OsState}
variable {nm q : Str} {C N : Addr} {bs bm bmB : List Value} {hdct : Bool} {sn : List Str} {sub : List Value} {ab : Bool} {col : Option Bool} {dd : Option Addr} {k0 k1 k2 k3 k5 : Option Value} {B newId initId : String}
theorem newK (F : ExcBaseFacts B newId initId bmB) (hT : ∀ X : String, bm.contains (.type X) = bmB.contains (.type X)) {rest : List Value} {kw : List (Str × Value)}
    (hC : h.get? C = some (excClassObj nm q C N bs bm hdct sn sub ab col dd k0 k1 k2 k3 k5 newId))
    (hq : R (.ok (.ret (.ref (h.objs.size + 1)))) ⟨(h.push (kdv_tup rest)).push (excO C h.objs.size), g, d, t, os⟩) (hrest : rest.length ≤ sizeLine) :
    codeAny (model prog w) A (.builtin newId ⟨.ref C :: rest, kw⟩) R ⟨h, g, d, t, os⟩ := by
  have ends := F.ends
  have inB : (Value.ref C :: bm).contains (.type B) = true := by rw [List.contains_cons, hT, F.hasB]; exact Bool.or_true _
  have inA : (Value.ref C :: bm).contains (.type "AttributeError") = false := by rw [List.contains_cons, hT, F.noAttr] <;> rfl
  have inN : (Value.ref C :: bm).contains (.type "NameError") = false := by rw [List.contains_cons, hT, F.noName] <;> rfl
  refine codeAny_builtinAt F.entry ?_
  unfold Builtin.«BaseException.__new__»
  refine wpAt_bind ?_
  show wpAt _ _ _ (stack >>= _) _ _ _
  refine wpAt_bind (wpAt_stack fun p below => wpAt_of_wpAny ?_)
  wp_walk
  refine wpAt_of_wpAny ?_
  rw [F.owner]
  repeat (first
    | with_reducible refine wpAny_madeHere_exc F.canon hC ?_
    | with_reducible refine wpAny_loadPart_at hC ?_
    | (with_reducible refine wpAny_isSubtype_exc hC ?_; first | rw [inB] | rw [inA] | rw [inN])
    | wp_step)
  show R _ _
  rw [Heap.size_push]
  exact hq
theorem typeCallK (F : ExcBaseFacts B newId initId bmB) (hT : ∀ X : String, bm.contains (.type X) = bmB.contains (.type X)) {rest : List Value} {kw : List (Str × Value)} {fI : Addr} {Q : Fin → Shared → Prop}
    (hC : h.get? C = some (excClassObj nm q C N bs bm hdct sn sub ab col dd k0 k1 k2 k3 k5 newId))
    (hi : W.Looks (model prog w) h (typeLookup (.ref C) "__init__") (some (.ref fI))) (hb : ∀ self, W.Looks (model prog w) h (bindSpecial (.ref fI) self) (.ref fI, [self])) (hrest : rest.length ≤ sizeLine)
    (hq : codeAny (model prog w) A (.call (.ref fI) ⟨.ref (h.objs.size + 1) :: rest, kw⟩)
      (fun r s' => match r with | .ok (.ret v) => v = .none ∧ Q (.done (.ret (.ref (h.objs.size + 1)))) s' | .ok _ => False | .error e => E e s')
      ⟨(h.push (kdv_tup rest)).push (excO C h.objs.size), g, d, t, os⟩) :
    wpAny (model prog w) A (Builtin.«type.__call__» ⟨.ref C :: rest, kw⟩) Q E ⟨h, g, d, t, os⟩ := by
  repeat (first
    | with_reducible refine wpAny_loadPart_at hC ?_
    | with_reducible refine wpAny_madeBy_exc hC ?_
    | wp_step)
  refine codeAny_call_builtin_code (Code.quiet_builtin _ F.quiet) (newGuardK F hT hC ?_)
  refine newK F hT hC ?_ hrest
  show wpAny _ _ _ _ _ _
  have up : ∀ b o, h.get? b = some o → ((h.push (kdv_tup rest)).push (excO C h.objs.size)).get? b = some o := fun b o e => Heap.get?_push_of_some _ (Heap.get?_push_of_some _ e)
  have hC2 := up _ _ hC
  have here : ((h.push (kdv_tup rest)).push (excO C h.objs.size)).get? (h.objs.size + 1) = some (excO C h.objs.size) := by heap_get
  have inC : (Value.ref C :: bm).contains (.ref C) = true := by simp
  have i2 := hi.keeps up
  have b2 := (hb (.ref (h.objs.size + 1))).keeps up
  unfold isInstance
  repeat (first
    | with_reducible refine wpAny_loadPart_at here ?_
    | (with_reducible refine wpAny_isSubtype_exc hC2 ?_; rw [inC])
    | wp_step)
  show wpAny _ _ (typeLookup (.ref C) _) _ _ _
  refine i2.at ?_
  refine wpAny_holding (wpAny_bind (b2.at ?_))
  refine wpAny_bind (wpAny_call (codeAny_mono hq fun r s' z => ?_))
  rcases r with e | (v | _ | _ | _) <;> first | exact z | exact z.elim | skip
  obtain ⟨rfl, z⟩ := z
  first
    | exact wpAny_pure (wpAny_pure z)
    | (wp_walk; exact z)
end
section
variable {prog : Program} {w : World} {A : Around} {E : Value → Shared → Prop} {R : Result → Shared → Prop} {s : Shared} {K : Frag} {C fI : Addr} {bmB : List Value} {B newId initId : String}
/-- C(.., k = v): the object and its args are laid, then the class's own __init__ runs -/
theorem callK (F : ExcBaseFacts B newId initId bmB) (X : K.In s.heap) (q : excInitIn K C bmB newId = true) {rest : List Value} {kw : List (Str × Value)}
    (iC : findIn K (.ref C) "__init__" = some (some (.ref fI))) (tI : typeIn K (.ref fI) = some (.type "function")) (hrest : rest.length ≤ sizeLine)
    (hq : codeAny (model prog w) (A.under (.builtin "type.__call__" ⟨.ref C :: rest, kw⟩)) (.call (.ref fI) ⟨.ref (s.heap.objs.size + 1) :: rest, kw⟩) (W.InitBack (s.heap.objs.size + 1) R)
      { s with heap := (s.heap.push (kdv_tup rest)).push (excO C s.heap.objs.size) }) :
    codeAny (model prog w) A (.call (.ref C) ⟨rest, kw⟩) R s := by
  obtain ⟨nm, N', qn, bs, bm, hdct, sn, sub, ab, col, dd, k0, k1, k2, k3, k5, hC, hT⟩ := excInit_of X q
  have hi : W.Looks (model prog w) s.heap (typeLookup (.ref C) "__init__") (some (.ref fI)) := looks_findIn X iC
  have hb : ∀ self, W.Looks (model prog w) s.heap (bindSpecial (.ref fI) self) (.ref fI, [self]) := fun self => bind_fn X self tI
  obtain ⟨h, g, d, t, os⟩ := s
  have f1 := tc_lookup
  have f2 := tc_bind (.ref C)
  have hTy : (⟨h, g, d, t, os⟩ : Shared).TypeIs (.ref C) "type" := ⟨_, hC, rfl⟩
  refine codeAny_of_tree ?_
  show wpAny _ _ (callAny (.ref C) _) _ _ _
  repeat (any_goals (first | assumption | with_reducible refine wpAny_loadPart_at hC ?_ | wp_step))
  refine ⟨rfl, ?_⟩
  refine codeAny_call_builtin_at (Code.quiet_builtin _ (by decide +kernel)) entry_typeCall (wpAny_check_type_call_sub hC (typeCallK F hT hC hi hb hrest ?_))
  refine codeAny_mono hq fun r s' z => ?_
  rcases r with e | (v | _ | _ | _) <;> exact z
end
end VX
end PySem
end
section
set_option Elab.async false
set_option linter.all false
set_option maxRecDepth 100000
set_option maxHeartbeats 4000000
/-! X2: fields stored into such an exception -/
namespace PySem
namespace VX
open PySem.W PySem.Calls PyProof.Rows PySem.HandSPX
section
open Builtin Builtin.ObjectAttr
variable {prog : Program} {w : World} {A : Around} {R : Result → Shared → Prop} {K : Frag} {hp : Heap} {g : Array GenState} {d : Drawn} {t : Nat} {os : OsState} {C x dx : Addr} {bmB : List Value} {B : String} {name : Str} {tk : Tok} {v : Value} {fv : Array Value} {m0 : Str → Option Value} {nl : List Str}
/-- the first field: the dict is made -/
theorem storeFirst (SF : StoreFacts B bmB "object.__setattr__" "object") (X : K.In hp) (hx : hp.get? x = some { cls := .ref C, data := .fields fv }) (q : excOver K C bmB = true) (hh : hasDictIn K C = true) (ta : takerIn K C name = some none)
    (hq : ∀ h' tk' dx, (∀ b o, b ≠ x → hp.get? b = some o → h'.get? b = some o) → hp.objs.size ≤ dx → dx ≠ x → h'.get? x = some { cls := .ref C, dict := some dx, data := .fields fv } →
      h'.Ns1 dx (fun y => if y = name then some v else none) → R (.ok (.ret .none)) ⟨h', g, d, tk', os⟩) :
    codeAny (model prog w) A (.call (.builtin "object.__setattr__") ⟨[.ref x, .str name tk, v], []⟩) R ⟨hp, g, d, t, os⟩ := by
  obtain ⟨cd, hcd, hd'⟩ := any_some hh
  have lk : W.Looks (model prog w) hp (classData C) cd := looks_clsIn X hcd
  have nx : x ≠ hp.objs.size := Nat.ne_of_lt (Heap.lt_size hx)
  refine osa_openX (od := none) (ox := { cls := .ref C, data := .fields fv }) SF X ⟨hx, rfl, rfl, trivial⟩ q ta fun b => ?_
  show wpAny _ _ (storeInOwnDict (.ref x) (.ref C) (.str name tk) name v b) _ _ _
  obtain ⟨nm, bs, mro, ns, qn, hd, sn, sb, ab, col, del⟩ := cd
  dsimp only at hd'
  subst hd'
  unfold storeInOwnDict ownDictForStores
  repeat (first
    | with_reducible refine store_in_new ?_ ?_
    | with_reducible refine wpAny_loadPart_at hx ?_
    | with_reducible refine lk.at ?_
    | wp_step)
  · exact ⟨_, #[], _, (Heap.get?_update_ne _ _ _ _ nx.symm).trans (Heap.get?_push_at rfl rfl), rfl, fun e he => absurd he (by simp), fun _ => rfl⟩
  · intro h' tk' hn' hs
    have hx1 : (hp.push { cls := .type "dict", data := .dict #[] }).get? x = some { cls := .ref C, data := .fields fv } := Heap.get?_push_of_some _ hx
    refine hq h' tk' hp.objs.size (fun b o hb ho => ?_) (Nat.le_refl _) nx.symm ?_ hn'
    · exact (hs.2 b (Nat.ne_of_lt (Heap.lt_size ho))).trans ((Heap.get?_update_ne _ _ _ _ hb).trans (Heap.get?_push_of_some _ ho))
    · exact (hs.2 x nx).trans (Heap.get?_update_self _ hx1 rfl)
/-- a further field -/
theorem storeNext (SF : StoreFacts B bmB "object.__setattr__" "object") (X : K.In hp) (hx : hp.get? x = some { cls := .ref C, dict := some dx, data := .fields fv }) (hns : hp.Ns1 dx m0) (hw : Within m0 nl) (hz : nl.length ≤ 1000)
    (q : excOver K C bmB = true) (hh : hasDictIn K C = true) (ta : takerIn K C name = some none)
    (hq : ∀ h' tk', (∀ b o, b ≠ dx → hp.get? b = some o → h'.get? b = some o) → h'.Ns1 dx (fun y => if y = name then some v else m0 y) → R (.ok (.ret .none)) ⟨h', g, d, tk', os⟩) :
    codeAny (model prog w) A (.call (.builtin "object.__setattr__") ⟨[.ref x, .str name tk, v], []⟩) R ⟨hp, g, d, t, os⟩ := by
  obtain ⟨oD, esD, epD, hoD, hdD, _⟩ := hns.count hw
  obtain ⟨cd, hcd, hd'⟩ := any_some hh
  have lk : W.Looks (model prog w) hp (classData C) cd := looks_clsIn X hcd
  refine osa_openX (od := some oD) (ox := { cls := .ref C, dict := some dx, data := .fields fv }) SF X ⟨hx, rfl, rfl, hoD⟩ q ta fun b => ?_
  show wpAny _ _ (storeInOwnDict (.ref x) (.ref C) (.str name tk) name v b) _ _ _
  obtain ⟨nm, bs, mro, ns, qn, hd, sn, sb, ab, col, del⟩ := cd
  dsimp only at hd'
  subst hd'
  unfold storeInOwnDict ownDictForStores
  repeat (first
    | with_reducible refine OEX.store_in_old hns hw hz ?_
    | with_reducible refine wpAny_loadPart_at hx ?_
    | with_reducible refine lk.at ?_
    | wp_step)
  intro h' tk' hn' hs
  exact hq h' tk' (fun b o hb ho => (hs.2 b hb).trans ho) hn'
end
end VX
end PySem
end
section
set_option Elab.async false
set_option linter.all false
set_option maxRecDepth 100000
set_option maxHeartbeats 4000000
/-! X3: the program's own __init__s, each a store of its arguments -/
namespace PySem
namespace VX
open PySem.W PySem.Calls PyProof.Rows PySem.HandSPX
/-- what the written part says of an own exception class at C, fields fn, over the built-in base B -/
structure XB (K : Frag) (bmB : List Value) (newId : String) (C : Addr) (fn : List Str) : Prop where
  ini : excInitIn K C bmB newId = true
  over : excOver K C bmB = true
  hd : hasDictIn K C = true
  sa : findIn K (.ref C) "__setattr__" = some (some (.builtin "object.__setattr__"))
  ga : findIn K (.ref C) "__getattribute__" = some (some (.builtin "BaseException.__getattribute__"))
  gg : findIn K (.ref C) "__getattr__" = some none
  ca : findIn K (.ref C) "__class__" = some (some (.builtin "object.__class__"))
  mo : mroIn K C (.type "object") = some true
  no : ∀ f ∈ fn, findIn K (.ref C) f = some none
  keep : keepIn K (.ref C) = true
  exc : subIn K (.ref C) (.type "BaseException") = some true
  ty : typeIn K (.ref C) = some (.type "type")
theorem taker_of {K : Frag} {C : Addr} {f : Str} (h : findIn K (.ref C) f = some none) : takerIn K C f = some none := by
  unfold takerIn
  rw [h]
  rfl
def fS (f : Str) : Scope := { kind := .function, names := [(PySem.Str.ofString "self", .local), (f, .local)], isGenerator := false, isCoroutine := false, more := [] }
def fA (f : Str) (p1 p2 : Pos) : Arguments := { posonlyargs := [], args := [{ arg := "self", annotation := none, pos := p1 }, { arg := f, annotation := none, pos := p2 }], vararg := none, kwonlyargs := [], kw_defaults := [], kwarg := none, defaults := [] }
def fB (f : Str) (q1 q2 q3 q4 : Pos) : List Stmt := [.Assign [.Attribute (.Name "self" q1) f q2] (.Name f q3) q4]
/-- what __init__ leaves of the object at x -/
structure InitLeft (h h' : Heap) (x C dx t1 : Addr) (kvs : List (Str × Value)) : Prop where
  keep : ∀ b o, b ≠ x → h.get? b = some o → h'.get? b = some o
  obj : h'.get? x = some { cls := .ref C, dict := some dx, data := .fields #[.ref t1, .none, .none, .none, .bool false, .none] }
  dbig : h.objs.size ≤ dx
  dne : dx ≠ x
  ns : h'.Ns1 dx (fun y => kvs.lookup y)
theorem look1 (f : Str) (v : Value) : (fun y => if y = f then some v else none) = fun y => ([(f, v)] : List (Str × Value)).lookup y := by
  funext y
  by_cases e : y = f
  · subst e
    simp [List.lookup]
  · have q : (y == f) = false := by simpa using e
    rw [if_neg e]
    simp [List.lookup, q]
theorem look2 (f g : Str) (v u : Value) : (fun y => if y = g then some u else if y = f then some v else none) = fun y => ([(g, u), (f, v)] : List (Str × Value)).lookup y := by
  funext y
  by_cases e : y = g
  · subst e
    simp [List.lookup]
  · have q : (y == g) = false := by simpa using e
    rw [if_neg e]
    have l := congrFun (look1 f v) y
    rw [show (if y = f then some v else none) = _ from l]
    simp [List.lookup, q]
theorem localAt {M : Model} {s : Shared} {name : Str} {scope : Scope} {L a : Addr} {cd : Value} {m : Str → Option Value} {x : Str} {pos : Pos} {v : Value} {Q : Value → Shared → Prop} {A : Around} {E : Value → Shared → Prop}
    (hn : s.heap.Ns L m) (hv : m x = some v) (h : Q v s) (hk : scope.kind = .function := by rfl) (hl : (envOfC name scope L a cd).kindOf x = some .local := by rfl) (hd : (x == ("__debug__" : Str)) = false := by decide) :
    wpAny M A (eval (.Name x pos) (envOfC name scope L a cd)) Q E s := by
  refine wpAny_Name ?_ hd
  exact wpAny_loadName_local hk hl hn hv h
/-- the def of an __init__ with one field -/
structure Ini1 (K : Frag) (fI : Addr) (qual f : Str) (fd : FuncData) : Prop where
  ex : ∃ (oc : Value) (od : Option Addr) (doc pm : Value) (an : Option Addr) (cdv ct : Value) (osl : Array (Option Value)) (p1 p2 q1 q2 q3 q4 : Pos),
    fd = fnOf "__init__" qual (fA f p1 p2) (fB f q1 q2 q3 q4) (fS f) .none .none doc pm an cdv ct ∧ K.lookup fI = some ⟨oc, od, .func fd, osl⟩ ∧ codeIn K cdv qual = true
section
variable {prog : Program} {w : World} {A : Around} {E : Value → Shared → Prop} {R : Result → Shared → Prop} {s : Shared} {K : Frag} {C fI : Addr} {bmB : List Value} {B newId : String} {qual : Str} {fd : FuncData} {args : Args}
theorem init_what (SF : StoreFacts B bmB "object.__setattr__" "object") (T : XB K bmB newId C [("what" : Str)]) (D : Ini1 K fI qual "what" fd) {x t0 : Addr} {v : Value} (X : K.In s.heap) (hlim : s.heap.NoLimit)
    (hx : s.heap.get? x = some (excO C t0)) (hroom : A.depth < recursionLimit) (hb : BindsTo s fd args [("self", .ref x), ("what", v)])
    (hq : ∀ h' tk dx, InitLeft s.heap h' x C dx t0 [("what", v)] → R (.ok (.ret .none)) { s with heap := h', toks := tk }) :
    codeAny (model prog w) A (.call (.ref fI) args) R s := by
  obtain ⟨oc, od, doc, pm, an, cdv, ct, osl, p1, p2, q1, q2, q3, q4, rfl, ho, hcd⟩ := D.ex
  refine Att.call_fn (binds := [("self", .ref x), ("what", v)]) X hlim ho hcd hroom hb (by first | rfl | decide | with_unfolding_all rfl) (fun s1 IC => ?_) rfl rfl rfl
  obtain ⟨h1, tk1, rfl⟩ := IC.toInCall.same
  have up : ∀ b o, s.heap.get? b = some o → h1.get? b = some o := IC.toInCall.keep
  have hn := IC.toInCall.ns
  have X1 : K.In h1 := X.keeps up
  have hx1 := up _ _ hx
  show wpAny _ _ (execs _ _) _ _ _
  refine wpAny_execs_cons (plainObj_wpAny_Assign_Attribute ?_)
  refine localAt (v := v) hn (by first | rfl | with_unfolding_all rfl | kernel_rfl) (localAt (v := .ref x) hn (by first | rfl | with_unfolding_all rfl | kernel_rfl) ?_)
  refine set_plain X1 (ox := excO C t0) (od := none) ⟨hx1, rfl, rfl, trivial⟩ T.sa ?_
  refine storeFirst SF X1 hx1 T.over T.hd (taker_of (T.no _ (List.mem_cons_self ..))) (fun h3 tk3 dx k3 dn dne hx3 hn3 => ?_)
  show wpAny _ _ (execs _ _) _ _ _
  have z : s.heap.objs.size < h1.objs.size := hn.lt
  refine wpAny_execs_nil (hq h3 tk3 dx ⟨fun b o hb e => k3 b o hb (up b o e), hx3, Nat.le_of_lt (Nat.lt_of_lt_of_le z dn), dne, ?_⟩)
  rw [← look1]
  exact hn3
theorem init_why (SF : StoreFacts B bmB "object.__setattr__" "object") (T : XB K bmB newId C [("why" : Str)]) (D : Ini1 K fI qual "why" fd) {x t0 : Addr} {v : Value} (X : K.In s.heap) (hlim : s.heap.NoLimit)
    (hx : s.heap.get? x = some (excO C t0)) (hroom : A.depth < recursionLimit) (hb : BindsTo s fd args [("self", .ref x), ("why", v)])
    (hq : ∀ h' tk dx, InitLeft s.heap h' x C dx t0 [("why", v)] → R (.ok (.ret .none)) { s with heap := h', toks := tk }) :
    codeAny (model prog w) A (.call (.ref fI) args) R s := by
  obtain ⟨oc, od, doc, pm, an, cdv, ct, osl, p1, p2, q1, q2, q3, q4, rfl, ho, hcd⟩ := D.ex
  refine Att.call_fn (binds := [("self", .ref x), ("why", v)]) X hlim ho hcd hroom hb (by first | rfl | decide | with_unfolding_all rfl) (fun s1 IC => ?_) rfl rfl rfl
  obtain ⟨h1, tk1, rfl⟩ := IC.toInCall.same
  have up : ∀ b o, s.heap.get? b = some o → h1.get? b = some o := IC.toInCall.keep
  have hn := IC.toInCall.ns
  have X1 : K.In h1 := X.keeps up
  have hx1 := up _ _ hx
  show wpAny _ _ (execs _ _) _ _ _
  refine wpAny_execs_cons (plainObj_wpAny_Assign_Attribute ?_)
  refine localAt (v := v) hn (by first | rfl | with_unfolding_all rfl | kernel_rfl) (localAt (v := .ref x) hn (by first | rfl | with_unfolding_all rfl | kernel_rfl) ?_)
  refine set_plain X1 (ox := excO C t0) (od := none) ⟨hx1, rfl, rfl, trivial⟩ T.sa ?_
  refine storeFirst SF X1 hx1 T.over T.hd (taker_of (T.no _ (List.mem_cons_self ..))) (fun h3 tk3 dx k3 dn dne hx3 hn3 => ?_)
  show wpAny _ _ (execs _ _) _ _ _
  have z : s.heap.objs.size < h1.objs.size := hn.lt
  refine wpAny_execs_nil (hq h3 tk3 dx ⟨fun b o hb e => k3 b o hb (up b o e), hx3, Nat.le_of_lt (Nat.lt_of_lt_of_le z dn), dne, ?_⟩)
  rw [← look1]
  exact hn3
theorem init_line (SF : StoreFacts B bmB "object.__setattr__" "object") (T : XB K bmB newId C [("line" : Str)]) (D : Ini1 K fI qual "line" fd) {x t0 : Addr} {v : Value} (X : K.In s.heap) (hlim : s.heap.NoLimit)
    (hx : s.heap.get? x = some (excO C t0)) (hroom : A.depth < recursionLimit) (hb : BindsTo s fd args [("self", .ref x), ("line", v)])
    (hq : ∀ h' tk dx, InitLeft s.heap h' x C dx t0 [("line", v)] → R (.ok (.ret .none)) { s with heap := h', toks := tk }) :
    codeAny (model prog w) A (.call (.ref fI) args) R s := by
  obtain ⟨oc, od, doc, pm, an, cdv, ct, osl, p1, p2, q1, q2, q3, q4, rfl, ho, hcd⟩ := D.ex
  refine Att.call_fn (binds := [("self", .ref x), ("line", v)]) X hlim ho hcd hroom hb (by first | rfl | decide | with_unfolding_all rfl) (fun s1 IC => ?_) rfl rfl rfl
  obtain ⟨h1, tk1, rfl⟩ := IC.toInCall.same
  have up : ∀ b o, s.heap.get? b = some o → h1.get? b = some o := IC.toInCall.keep
  have hn := IC.toInCall.ns
  have X1 : K.In h1 := X.keeps up
  have hx1 := up _ _ hx
  show wpAny _ _ (execs _ _) _ _ _
  refine wpAny_execs_cons (plainObj_wpAny_Assign_Attribute ?_)
  refine localAt (v := v) hn (by first | rfl | with_unfolding_all rfl | kernel_rfl) (localAt (v := .ref x) hn (by first | rfl | with_unfolding_all rfl | kernel_rfl) ?_)
  refine set_plain X1 (ox := excO C t0) (od := none) ⟨hx1, rfl, rfl, trivial⟩ T.sa ?_
  refine storeFirst SF X1 hx1 T.over T.hd (taker_of (T.no _ (List.mem_cons_self ..))) (fun h3 tk3 dx k3 dn dne hx3 hn3 => ?_)
  show wpAny _ _ (execs _ _) _ _ _
  have z : s.heap.objs.size < h1.objs.size := hn.lt
  refine wpAny_execs_nil (hq h3 tk3 dx ⟨fun b o hb e => k3 b o hb (up b o e), hx3, Nat.le_of_lt (Nat.lt_of_lt_of_le z dn), dne, ?_⟩)
  rw [← look1]
  exact hn3
theorem init_step (SF : StoreFacts B bmB "object.__setattr__" "object") (T : XB K bmB newId C [("step" : Str)]) (D : Ini1 K fI qual "step" fd) {x t0 : Addr} {v : Value} (X : K.In s.heap) (hlim : s.heap.NoLimit)
    (hx : s.heap.get? x = some (excO C t0)) (hroom : A.depth < recursionLimit) (hb : BindsTo s fd args [("self", .ref x), ("step", v)])
    (hq : ∀ h' tk dx, InitLeft s.heap h' x C dx t0 [("step", v)] → R (.ok (.ret .none)) { s with heap := h', toks := tk }) :
    codeAny (model prog w) A (.call (.ref fI) args) R s := by
  obtain ⟨oc, od, doc, pm, an, cdv, ct, osl, p1, p2, q1, q2, q3, q4, rfl, ho, hcd⟩ := D.ex
  refine Att.call_fn (binds := [("self", .ref x), ("step", v)]) X hlim ho hcd hroom hb (by first | rfl | decide | with_unfolding_all rfl) (fun s1 IC => ?_) rfl rfl rfl
  obtain ⟨h1, tk1, rfl⟩ := IC.toInCall.same
  have up : ∀ b o, s.heap.get? b = some o → h1.get? b = some o := IC.toInCall.keep
  have hn := IC.toInCall.ns
  have X1 : K.In h1 := X.keeps up
  have hx1 := up _ _ hx
  show wpAny _ _ (execs _ _) _ _ _
  refine wpAny_execs_cons (plainObj_wpAny_Assign_Attribute ?_)
  refine localAt (v := v) hn (by first | rfl | with_unfolding_all rfl | kernel_rfl) (localAt (v := .ref x) hn (by first | rfl | with_unfolding_all rfl | kernel_rfl) ?_)
  refine set_plain X1 (ox := excO C t0) (od := none) ⟨hx1, rfl, rfl, trivial⟩ T.sa ?_
  refine storeFirst SF X1 hx1 T.over T.hd (taker_of (T.no _ (List.mem_cons_self ..))) (fun h3 tk3 dx k3 dn dne hx3 hn3 => ?_)
  show wpAny _ _ (execs _ _) _ _ _
  have z : s.heap.objs.size < h1.objs.size := hn.lt
  refine wpAny_execs_nil (hq h3 tk3 dx ⟨fun b o hb e => k3 b o hb (up b o e), hx3, Nat.le_of_lt (Nat.lt_of_lt_of_le z dn), dne, ?_⟩)
  rw [← look1]
  exact hn3
theorem init_most (SF : StoreFacts B bmB "object.__setattr__" "object") (T : XB K bmB newId C [("most" : Str)]) (D : Ini1 K fI qual "most" fd) {x t0 : Addr} {v : Value} (X : K.In s.heap) (hlim : s.heap.NoLimit)
    (hx : s.heap.get? x = some (excO C t0)) (hroom : A.depth < recursionLimit) (hb : BindsTo s fd args [("self", .ref x), ("most", v)])
    (hq : ∀ h' tk dx, InitLeft s.heap h' x C dx t0 [("most", v)] → R (.ok (.ret .none)) { s with heap := h', toks := tk }) :
    codeAny (model prog w) A (.call (.ref fI) args) R s := by
  obtain ⟨oc, od, doc, pm, an, cdv, ct, osl, p1, p2, q1, q2, q3, q4, rfl, ho, hcd⟩ := D.ex
  refine Att.call_fn (binds := [("self", .ref x), ("most", v)]) X hlim ho hcd hroom hb (by first | rfl | decide | with_unfolding_all rfl) (fun s1 IC => ?_) rfl rfl rfl
  obtain ⟨h1, tk1, rfl⟩ := IC.toInCall.same
  have up : ∀ b o, s.heap.get? b = some o → h1.get? b = some o := IC.toInCall.keep
  have hn := IC.toInCall.ns
  have X1 : K.In h1 := X.keeps up
  have hx1 := up _ _ hx
  show wpAny _ _ (execs _ _) _ _ _
  refine wpAny_execs_cons (plainObj_wpAny_Assign_Attribute ?_)
  refine localAt (v := v) hn (by first | rfl | with_unfolding_all rfl | kernel_rfl) (localAt (v := .ref x) hn (by first | rfl | with_unfolding_all rfl | kernel_rfl) ?_)
  refine set_plain X1 (ox := excO C t0) (od := none) ⟨hx1, rfl, rfl, trivial⟩ T.sa ?_
  refine storeFirst SF X1 hx1 T.over T.hd (taker_of (T.no _ (List.mem_cons_self ..))) (fun h3 tk3 dx k3 dn dne hx3 hn3 => ?_)
  show wpAny _ _ (execs _ _) _ _ _
  have z : s.heap.objs.size < h1.objs.size := hn.lt
  refine wpAny_execs_nil (hq h3 tk3 dx ⟨fun b o hb e => k3 b o hb (up b o e), hx3, Nat.le_of_lt (Nat.lt_of_lt_of_le z dn), dne, ?_⟩)
  rw [← look1]
  exact hn3
theorem init_name (SF : StoreFacts B bmB "object.__setattr__" "object") (T : XB K bmB newId C [("name" : Str)]) (D : Ini1 K fI qual "name" fd) {x t0 : Addr} {v : Value} (X : K.In s.heap) (hlim : s.heap.NoLimit)
    (hx : s.heap.get? x = some (excO C t0)) (hroom : A.depth < recursionLimit) (hb : BindsTo s fd args [("self", .ref x), ("name", v)])
    (hq : ∀ h' tk dx, InitLeft s.heap h' x C dx t0 [("name", v)] → R (.ok (.ret .none)) { s with heap := h', toks := tk }) :
    codeAny (model prog w) A (.call (.ref fI) args) R s := by
  obtain ⟨oc, od, doc, pm, an, cdv, ct, osl, p1, p2, q1, q2, q3, q4, rfl, ho, hcd⟩ := D.ex
  refine Att.call_fn (binds := [("self", .ref x), ("name", v)]) X hlim ho hcd hroom hb (by first | rfl | decide | with_unfolding_all rfl) (fun s1 IC => ?_) rfl rfl rfl
  obtain ⟨h1, tk1, rfl⟩ := IC.toInCall.same
  have up : ∀ b o, s.heap.get? b = some o → h1.get? b = some o := IC.toInCall.keep
  have hn := IC.toInCall.ns
  have X1 : K.In h1 := X.keeps up
  have hx1 := up _ _ hx
  show wpAny _ _ (execs _ _) _ _ _
  refine wpAny_execs_cons (plainObj_wpAny_Assign_Attribute ?_)
  refine localAt (v := v) hn (by first | rfl | with_unfolding_all rfl | kernel_rfl) (localAt (v := .ref x) hn (by first | rfl | with_unfolding_all rfl | kernel_rfl) ?_)
  refine set_plain X1 (ox := excO C t0) (od := none) ⟨hx1, rfl, rfl, trivial⟩ T.sa ?_
  refine storeFirst SF X1 hx1 T.over T.hd (taker_of (T.no _ (List.mem_cons_self ..))) (fun h3 tk3 dx k3 dn dne hx3 hn3 => ?_)
  show wpAny _ _ (execs _ _) _ _ _
  have z : s.heap.objs.size < h1.objs.size := hn.lt
  refine wpAny_execs_nil (hq h3 tk3 dx ⟨fun b o hb e => k3 b o hb (up b o e), hx3, Nat.le_of_lt (Nat.lt_of_lt_of_le z dn), dne, ?_⟩)
  rw [← look1]
  exact hn3
theorem init_users (SF : StoreFacts B bmB "object.__setattr__" "object") (T : XB K bmB newId C [("users" : Str)]) (D : Ini1 K fI qual "users" fd) {x t0 : Addr} {v : Value} (X : K.In s.heap) (hlim : s.heap.NoLimit)
    (hx : s.heap.get? x = some (excO C t0)) (hroom : A.depth < recursionLimit) (hb : BindsTo s fd args [("self", .ref x), ("users", v)])
    (hq : ∀ h' tk dx, InitLeft s.heap h' x C dx t0 [("users", v)] → R (.ok (.ret .none)) { s with heap := h', toks := tk }) :
    codeAny (model prog w) A (.call (.ref fI) args) R s := by
  obtain ⟨oc, od, doc, pm, an, cdv, ct, osl, p1, p2, q1, q2, q3, q4, rfl, ho, hcd⟩ := D.ex
  refine Att.call_fn (binds := [("self", .ref x), ("users", v)]) X hlim ho hcd hroom hb (by first | rfl | decide | with_unfolding_all rfl) (fun s1 IC => ?_) rfl rfl rfl
  obtain ⟨h1, tk1, rfl⟩ := IC.toInCall.same
  have up : ∀ b o, s.heap.get? b = some o → h1.get? b = some o := IC.toInCall.keep
  have hn := IC.toInCall.ns
  have X1 : K.In h1 := X.keeps up
  have hx1 := up _ _ hx
  show wpAny _ _ (execs _ _) _ _ _
  refine wpAny_execs_cons (plainObj_wpAny_Assign_Attribute ?_)
  refine localAt (v := v) hn (by first | rfl | with_unfolding_all rfl | kernel_rfl) (localAt (v := .ref x) hn (by first | rfl | with_unfolding_all rfl | kernel_rfl) ?_)
  refine set_plain X1 (ox := excO C t0) (od := none) ⟨hx1, rfl, rfl, trivial⟩ T.sa ?_
  refine storeFirst SF X1 hx1 T.over T.hd (taker_of (T.no _ (List.mem_cons_self ..))) (fun h3 tk3 dx k3 dn dne hx3 hn3 => ?_)
  show wpAny _ _ (execs _ _) _ _ _
  have z : s.heap.objs.size < h1.objs.size := hn.lt
  refine wpAny_execs_nil (hq h3 tk3 dx ⟨fun b o hb e => k3 b o hb (up b o e), hx3, Nat.le_of_lt (Nat.lt_of_lt_of_le z dn), dne, ?_⟩)
  rw [← look1]
  exact hn3
theorem init_circle (SF : StoreFacts B bmB "object.__setattr__" "object") (T : XB K bmB newId C [("circle" : Str)]) (D : Ini1 K fI qual "circle" fd) {x t0 : Addr} {v : Value} (X : K.In s.heap) (hlim : s.heap.NoLimit)
    (hx : s.heap.get? x = some (excO C t0)) (hroom : A.depth < recursionLimit) (hb : BindsTo s fd args [("self", .ref x), ("circle", v)])
    (hq : ∀ h' tk dx, InitLeft s.heap h' x C dx t0 [("circle", v)] → R (.ok (.ret .none)) { s with heap := h', toks := tk }) :
    codeAny (model prog w) A (.call (.ref fI) args) R s := by
  obtain ⟨oc, od, doc, pm, an, cdv, ct, osl, p1, p2, q1, q2, q3, q4, rfl, ho, hcd⟩ := D.ex
  refine Att.call_fn (binds := [("self", .ref x), ("circle", v)]) X hlim ho hcd hroom hb (by first | rfl | decide | with_unfolding_all rfl) (fun s1 IC => ?_) rfl rfl rfl
  obtain ⟨h1, tk1, rfl⟩ := IC.toInCall.same
  have up : ∀ b o, s.heap.get? b = some o → h1.get? b = some o := IC.toInCall.keep
  have hn := IC.toInCall.ns
  have X1 : K.In h1 := X.keeps up
  have hx1 := up _ _ hx
  show wpAny _ _ (execs _ _) _ _ _
  refine wpAny_execs_cons (plainObj_wpAny_Assign_Attribute ?_)
  refine localAt (v := v) hn (by first | rfl | with_unfolding_all rfl | kernel_rfl) (localAt (v := .ref x) hn (by first | rfl | with_unfolding_all rfl | kernel_rfl) ?_)
  refine set_plain X1 (ox := excO C t0) (od := none) ⟨hx1, rfl, rfl, trivial⟩ T.sa ?_
  refine storeFirst SF X1 hx1 T.over T.hd (taker_of (T.no _ (List.mem_cons_self ..))) (fun h3 tk3 dx k3 dn dne hx3 hn3 => ?_)
  show wpAny _ _ (execs _ _) _ _ _
  have z : s.heap.objs.size < h1.objs.size := hn.lt
  refine wpAny_execs_nil (hq h3 tk3 dx ⟨fun b o hb e => k3 b o hb (up b o e), hx3, Nat.le_of_lt (Nat.lt_of_lt_of_le z dn), dne, ?_⟩)
  rw [← look1]
  exact hn3
end
end VX
end PySem
end
section
set_option Elab.async false
set_option linter.all false
set_option maxRecDepth 100000
set_option maxHeartbeats 4000000
/-! X4: two fields; a made exception; raised, or held as a value -/
namespace PySem
namespace VX
open PySem.W PySem.Calls PyProof.Rows PySem.HandSPX
def gS : Scope := { kind := .function, names := [(PySem.Str.ofString "self", .local), (PySem.Str.ofString "rule", .local), (PySem.Str.ofString "things", .local)], isGenerator := false, isCoroutine := false, more := [] }
def gA (p1 p2 p3 : Pos) : Arguments := { posonlyargs := [], args := [{ arg := "self", annotation := none, pos := p1 }, { arg := "rule", annotation := none, pos := p2 }, { arg := "things", annotation := none, pos := p3 }], vararg := none, kwonlyargs := [], kw_defaults := [], kwarg := none, defaults := [] }
def gB (q1 q2 q3 q4 r1 r2 r3 r4 : Pos) : List Stmt := [.Assign [.Attribute (.Name "self" q1) "rule" q2] (.Name "rule" q3) q4, .Assign [.Attribute (.Name "self" r1) "things" r2] (.Name "things" r3) r4]
structure Ini2 (K : Frag) (fI : Addr) (qual : Str) (fd : FuncData) : Prop where
  ex : ∃ (oc : Value) (od : Option Addr) (doc pm : Value) (an : Option Addr) (cdv ct : Value) (osl : Array (Option Value)) (p1 p2 p3 q1 q2 q3 q4 r1 r2 r3 r4 : Pos),
    fd = fnOf "__init__" qual (gA p1 p2 p3) (gB q1 q2 q3 q4 r1 r2 r3 r4) gS .none .none doc pm an cdv ct ∧ K.lookup fI = some ⟨oc, od, .func fd, osl⟩ ∧ codeIn K cdv qual = true
section
variable {prog : Program} {w : World} {A : Around} {E : Value → Shared → Prop} {R : Result → Shared → Prop} {s : Shared} {K : Frag} {C fI : Addr} {bmB : List Value} {B newId initId : String} {fn : List Str} {qual : Str} {fd : FuncData} {args : Args}
theorem keptBut {h h' : Heap} {x : Addr} (X : K.In h) (hx : K.lookup x = none) (k : ∀ b o, b ≠ x → h.get? b = some o → h'.get? b = some o) : K.In h' := fun a o e => by
  refine k a o (fun z => ?_) (X a o e)
  rw [z, hx] at e
  cases e
theorem init_two (SF : StoreFacts B bmB "object.__setattr__" "object") (T : XB K bmB newId C [("rule" : Str), ("things" : Str)]) (D : Ini2 K fI qual fd) {x t0 : Addr} {v u : Value} (X : K.In s.heap) (hlim : s.heap.NoLimit)
    (hx : s.heap.get? x = some (excO C t0)) (hnx : K.lookup x = none) (hroom : A.depth < recursionLimit) (hb : BindsTo s fd args [("self", .ref x), ("rule", v), ("things", u)])
    (hq : ∀ h' tk dx, InitLeft s.heap h' x C dx t0 [("things", u), ("rule", v)] → R (.ok (.ret .none)) { s with heap := h', toks := tk }) :
    codeAny (model prog w) A (.call (.ref fI) args) R s := by
  obtain ⟨oc, od, doc, pm, an, cdv, ct, osl, p1, p2, p3, q1, q2, q3, q4, r1, r2, r3, r4, rfl, ho, hcd⟩ := D.ex
  refine Att.call_fn (binds := [("self", .ref x), ("rule", v), ("things", u)]) X hlim ho hcd hroom hb (by first | rfl | decide | with_unfolding_all rfl) (fun s1 IC => ?_) rfl rfl rfl
  obtain ⟨h1, tk1, rfl⟩ := IC.toInCall.same
  have up : ∀ b o, s.heap.get? b = some o → h1.get? b = some o := IC.toInCall.keep
  have hn := IC.toInCall.ns
  have nL : s.heap.objs.size ≠ x := Nat.ne_of_gt (Heap.lt_size hx)
  have X1 : K.In h1 := X.keeps up
  have hx1 := up _ _ hx
  show wpAny _ _ (execs _ _) _ _ _
  refine wpAny_execs_cons (plainObj_wpAny_Assign_Attribute ?_)
  refine localAt (v := v) hn (by first | rfl | with_unfolding_all rfl | kernel_rfl) (localAt (v := .ref x) hn (by first | rfl | with_unfolding_all rfl | kernel_rfl) ?_)
  refine set_plain X1 (ox := excO C t0) (od := none) ⟨hx1, rfl, rfl, trivial⟩ T.sa ?_
  refine storeFirst SF X1 hx1 T.over T.hd (taker_of (T.no _ (List.mem_cons_self ..))) (fun h3 tk3 dx k3 dn dne hx3 hn3 => ?_)
  have hnL : h3.Ns s.heap.objs.size _ := hn.at' fun o e => k3 _ o nL e
  have X3 : K.In h3 := keptBut X1 hnx k3
  have hw3 : Within (fun y => if y = ("rule" : Str) then some v else none) ["rule"] := Within.cons "rule" v Within.nil
  obtain ⟨oD, _, _, hoD, _, _⟩ := hn3.count hw3
  have z : s.heap.objs.size < h1.objs.size := hn.lt
  show wpAny _ _ (execs _ _) _ _ _
  refine wpAny_execs_cons (plainObj_wpAny_Assign_Attribute ?_)
  refine localAt (v := u) hnL (by first | rfl | with_unfolding_all rfl | kernel_rfl) (localAt (v := .ref x) hnL (by first | rfl | with_unfolding_all rfl | kernel_rfl) ?_)
  refine set_plain X3 (ox := { cls := .ref C, dict := some dx, data := .fields #[.ref t0, .none, .none, .none, .bool false, .none] }) (od := some oD) ⟨hx3, rfl, rfl, hoD⟩ T.sa ?_
  refine storeNext SF X3 hx3 hn3 hw3 (by decide) T.over T.hd (taker_of (T.no _ (List.mem_cons_of_mem _ (List.mem_cons_self ..)))) (fun h4 tk4 k4 hn4 => ?_)
  show wpAny _ _ (execs _ _) _ _ _
  have big : s.heap.objs.size ≤ dx := Nat.le_of_lt (Nat.lt_of_lt_of_le z dn)
  refine wpAny_execs_nil (hq h4 tk4 dx ⟨fun b o hb e => ?_, k4 _ _ (Ne.symm dne) hx3, big, dne, ?_⟩)
  · exact k4 b o (Nat.ne_of_lt (Nat.lt_of_lt_of_le (Heap.lt_size (up b o e)) dn)) (k3 b o hb (up b o e))
  · rw [← look2]
    exact hn4
/-- what the __init__ at fI makes of an exception at x: its fields -/
def InitDoes (prog : Program) (w : World) (K : Frag) (C fI : Addr) (rest : List Value) (kw : List (Str × Value)) (kvs : List (Str × Value)) : Prop :=
  ∀ (A : Around) (R : Result → Shared → Prop) (s : Shared) (x t0 : Addr), K.In s.heap → s.heap.NoLimit → s.heap.get? x = some (excO C t0) → K.lookup x = none → A.depth < recursionLimit →
    (∀ h' tk dx, InitLeft s.heap h' x C dx t0 kvs → R (.ok (.ret .none)) { s with heap := h', toks := tk }) → codeAny (model prog w) A (.call (.ref fI) ⟨.ref x :: rest, kw⟩) R s
/-- a made one -/
structure Made (h h' : Heap) (e C d : Addr) (kvs : List (Str × Value)) : Prop where
  keep : ∀ b o, h.get? b = some o → h'.get? b = some o
  new : h.objs.size ≤ e
  obj : ∃ t, h'.get? e = some { cls := .ref C, dict := some d, data := .fields #[.ref t, .none, .none, .none, .bool false, .none] }
  dbig : h.objs.size ≤ d
  dne : d ≠ e
  ns : h'.Ns1 d (fun y => kvs.lookup y)
theorem made (FB : ExcBaseFacts B newId initId bmB) (T : XB K bmB newId C fn) (iC : findIn K (.ref C) "__init__" = some (some (.ref fI))) (tI : typeIn K (.ref fI) = some (.type "function"))
    {rest : List Value} {kw kvs : List (Str × Value)} (D : InitDoes prog w K C fI rest kw kvs) (hrest : rest.length ≤ sizeLine) (X : K.In s.heap) (hlim : s.heap.NoLimit) (hroom : A.depth + 1 < recursionLimit)
    (hq : ∀ h' tk e d, Made s.heap h' e C d kvs → R (.ok (.ret (.ref e))) { s with heap := h', toks := tk }) : codeAny (model prog w) A (.call (.ref C) ⟨rest, kw⟩) R s := by
  have up : ∀ b o, s.heap.get? b = some o → ((s.heap.push (kdv_tup rest)).push (excO C s.heap.objs.size)).get? b = some o := fun b o e => Heap.get?_push_of_some _ (Heap.get?_push_of_some _ e)
  have here : ((s.heap.push (kdv_tup rest)).push (excO C s.heap.objs.size)).get? (s.heap.objs.size + 1) = some (excO C s.heap.objs.size) := by heap_get
  have nK : K.lookup (s.heap.objs.size + 1) = none := by
    cases e : K.lookup (s.heap.objs.size + 1) with
    | none => rfl
    | some o => exact absurd (Nat.lt_of_succ_lt (Heap.lt_size (X _ _ e))) (Nat.lt_irrefl _)
  refine callK FB X T.ini iC tI hrest ?_
  refine D _ _ _ _ s.heap.objs.size (X.keeps up) (hlim.keeps up) here nK hroom fun h' tk dx L => ⟨rfl, ?_⟩
  have old : ∀ b o, s.heap.get? b = some o → h'.get? b = some o := fun b o e => L.keep b o (Nat.ne_of_lt (Nat.lt_succ_of_lt (Heap.lt_size e))) (up b o e)
  have big : s.heap.objs.size + 1 + 1 ≤ dx := by
    have q := L.dbig
    first
      | (simpa only [Heap.size_push] using q)
      | exact q
      | (rw [Heap.size_push, Heap.size_push] at q; exact q)
  exact hq h' tk (s.heap.objs.size + 1) dx ⟨old, Nat.le_succ _, ⟨_, L.obj⟩, Nat.le_trans (Nat.le_trans (Nat.le_succ _) (Nat.le_succ _)) big, L.dne, L.ns⟩
end
end VX
end PySem
namespace L2
open PySem PySem.Spec PyProof.Rows PySem.VX
/-- an exception of the class at C, its fields in the dict at d -/
def exV (e C d : Addr) : HO := .ext fun h => ∃ (oe : Obj) (vs : Array Value), h.get? e = some oe ∧ oe.cls = .ref C ∧ oe.dict = some d ∧ oe.data = .fields vs
theorem exV_ok {P : Program} {w : World} {H : Hp} {h : Heap} {e C d : Addr} {oe : Obj} {vs : Array Value} (he : h.get? e = some oe) (hc : oe.cls = .ref C) (hd : oe.dict = some d) (hv : oe.data = .fields vs) : ObjOk P w H h e (exV e C d) :=
  ⟨⟨oe, vs, he, hc, hd, hv⟩, ⟨oe, he⟩, fun h1 h2 ⟨o, v, a, b⟩ k => ⟨o, v, k _ a, b⟩⟩
theorem exV_at {P : Program} {w : World} {H : Hp} {h : Heap} {e C d : Addr} (hok : HOk P w H h) (he : H e = some (exV e C d)) : ∃ (oe : Obj) (vs : Array Value), h.get? e = some oe ∧ oe.cls = .ref C ∧ oe.dict = some d ∧ oe.data = .fields vs := by
  have x : ObjOk P w H h e (.ext fun h => ∃ (oe : Obj) (vs : Array Value), h.get? e = some oe ∧ oe.cls = .ref C ∧ oe.dict = some d ∧ oe.data = .fields vs) := hok e _ he
  exact x.1
theorem relO_pairs : ∀ {fs : List (Str × V)} {kvs : List (Str × Value)}, KV fs kvs → ∀ f, RelO (fs.lookup f) (kvs.lookup f)
  | _, _, .nil, _ => True.intro
  | (a, x) :: fs, (b, u) :: kvs, .cons h t, f => by
    obtain ⟨e, r⟩ := h
    have e' : a = b := e
    subst e'
    cases q : (f == a) with
    | true => simp only [List.lookup, q]; exact r
    | false => simp only [List.lookup, q]; exact relO_pairs t f
/-- an own exception class of the text: fn its fields in order -/
structure OwnX (prog : Program) (w : World) (K : PySem.W.Frag) (mg : Str → Option Value) (nm : Str) (C : Addr) (fn : List Str) : Prop where
  g : mg nm = some (.ref C)
  some : ∃ (bmB : List Value) (B newId initId : String) (fI : Addr), ExcBaseFacts B newId initId bmB ∧ XB K bmB newId C fn ∧ PySem.W.findIn K (.ref C) "__init__" = some (some (.ref fI)) ∧ PySem.W.typeIn K (.ref fI) = some (.type "function") ∧
    (∀ us : List Value, us.length = fn.length → InitDoes prog w K C fI us [] (fn.zip us).reverse) ∧ (∀ ws : List Value, ws.length = fn.length → InitDoes prog w K C fI [] (fn.reverse.zip ws) (fn.zip ws.reverse).reverse)
  few : fn.length ≤ 3
theorem kv_zip : ∀ (fn : List Str) {vs : List V} {us : List Value}, Vals vs us → KV (fn.zip vs) (fn.zip us)
  | [], _, _, _ => .nil
  | _ :: _, _, _, .nil => .nil
  | f :: fn, _, _, .cons r t => .cons ⟨rfl, r⟩ (kv_zip fn t)
theorem paired_app {α β : Type} {F : α → β → Prop} : ∀ {a : List α} {b : List β} {c : List α} {d : List β}, Paired F a b → Paired F c d → Paired F (a ++ c) (b ++ d)
  | _, _, _, _, .nil, q => q
  | _, _, _, _, .cons h t, q => .cons h (paired_app t q)
theorem paired_rev {α β : Type} {F : α → β → Prop} : ∀ {a : List α} {b : List β}, Paired F a b → Paired F a.reverse b.reverse
  | _, _, .nil => .nil
  | _, _, .cons h t => by
    rw [List.reverse_cons, List.reverse_cons]
    exact paired_app (paired_rev t) (.cons h .nil)
section
variable {X : Cx} {C : Addr} {nm : Str} {fn : List Str} {ta tk : TA} {p pos : Pos} {k : Nat} {e : Expr} {es : List Expr} {kws : List Keyword}
/-- what was made, as the layer sees it: all old stands, the dict is new and told -/
theorem made_inv {pins : List (Addr × Obj)} {σ : St} {H : Hp} {hp h' : Heap} {g : Array GenState} {dr : Drawn} {tk tk' : Nat} {os : OsState} {a d : Addr} {fs : List (Str × V)} {kvs : List (Str × Value)} (I : Inv X pins σ H ⟨hp, g, dr, tk, os⟩) (M : Made hp h' a C d kvs) (r : KV fs kvs) :
    ∃ G : Heap, Inv X pins σ (upd H d (.xd fs)) ⟨G, g, dr, tk', os⟩ ∧ (∀ b o, G.get? b = some o → h'.get? b = some o) ∧ G.get? a = none ∧ (upd H d (.xd fs)) a = none ∧ H d = none := by
  obtain ⟨G, g1, g2⟩ := restrict h' fun b => decide (b ≠ a)
  have gk : ∀ b, b ≠ a → G.get? b = h'.get? b := fun b hb => g1 b (decide_eq_true hb)
  have ge : G.get? a = none := g2 a (by simp)
  have old : ∀ b o, hp.get? b = some o → G.get? b = some o := fun b o q => (gk b (Nat.ne_of_lt (Nat.lt_of_lt_of_le (Heap.lt_size q) M.new))).trans (M.keep b o q)
  have ob : ObjOk X.prog X.w (upd H d (.xd fs)) G d (.xd fs) := ⟨_, M.ns.at fun o q => (gk d M.dne).trans q, relO_pairs r⟩
  refine ⟨G, I.laid (t' := tk') old M.dbig ob, fun b o q => ?_, ge, ?_, I.hok.fresh M.dbig⟩
  · by_cases hb : b = a
    · rw [hb, ge] at q
      cases q
    · exact (gk b hb).symm.trans q
  · rw [upd_ne (Ne.symm M.dne)]
    exact I.hok.fresh M.new
/-- raise C(e, ..): what is made -/
def tMkX (C : Addr) (fn : List Str) (ta : TA) : St → Hp → XK → Prop := fun σ H Q => ta σ H fun vs H1 => vs.length = fn.length ∧ ∀ d, H1 d = none → Q (.ref C) (some d) (upd H1 d (.xd (fn.zip vs).reverse))
theorem pmk_own1 (O : OwnX X.prog X.w X.K X.mg nm C fn) (hr : Room k X.A) (ha : PA X (e :: es) ta) (hg : Gl X nm) (hdb : (nm == ("__debug__" : Str)) = false := by decide)
    (he : starEach (e :: es) X.env = (false, eval e X.env) :: starEach es X.env := by rfl) (hpl : (backTo pos (starEach es X.env)).any (·.1) = false := by rfl) :
    PMk X (.Call (.Name nm p) (e :: es) [] pos) (tMkX C fn ta) := by
  intro pins s σ H Q I h
  obtain ⟨bmB, B, newId, initId, fI, FB, T, iC, tI, D, _⟩ := O.some
  refine wpAny_Call_Name_kw (ld_glob I hg O.g ?_ hdb)
  refine PySem.W.callWith_K (h₀ := X.base) I.ok.mod.kin T.keep (thn (ha.run pos pins s σ H _ I h) fun us s1 hh => ?_) he hpl
  obtain ⟨vs, H1, I1, r1, hz, q1⟩ := hh
  refine ⟨I1.kIn, ?_⟩
  have hlim := I1.nolimit
  have hl : us.length = fn.length := r1.length.symm.trans hz
  obtain ⟨hp, g, dr, tk, os⟩ := s1
  show wpAny _ _ (call (.ref C) us) _ _ _
  refine wpAny_call (made FB T iC tI (D us hl) (by rw [hl, sizeLine_eq]; have := O.few; omega) I1.kIn hlim (by have := hr.dp; omega) fun h' tk' a d M => ?_)
  obtain ⟨G, J, kG, ge, na, nd⟩ := made_inv (tk' := tk') I1 M (paired_rev (kv_zip fn r1))
  obtain ⟨t, ho⟩ := M.obj
  exact ⟨a, _, _, ⟨G, g, dr, tk', os⟩, _, .ref C, some d, rfl, J, kG, ge, ho, ⟨rfl, rfl⟩, rfl, rfl, na, rfl, I1.bare, raises_own T.exc T.ty, q1 d nd⟩
/-- C(k = v, ..) as a value; the keywords stand in the fields' order turned about -/
def tNewKw (C : Addr) (fn : List Str) (tk : TA) : TE := fun σ H Q => tk σ H fun zs H1 => zs.length = fn.length ∧ ∀ a d, H1 a = none → H1 d = none → d ≠ a → Q (.ref a) (upd (upd H1 d (.xd (fn.zip zs.reverse).reverse)) a (exV a C d))
theorem pe_newKw (O : OwnX X.prog X.w X.K X.mg nm C fn) (hr : Room k X.A) (hkw : PK X kws tk) (hg : Gl X nm) (hdb : (nm == ("__debug__" : Str)) = false := by decide)
    (hall : (backToKw pos (keywordEach kws X.env)).all (·.1.isSome) = true := by rfl) (hks : (backToKw pos (keywordEach kws X.env)).filterMap (·.1) = fn.reverse := by rfl)
    (hpl : ((backTo pos (starEach [] X.env)).any (·.1) || (backToKw pos (keywordEach kws X.env)).any (·.1.isNone)) = false := by rfl) :
    PE X (.Call (.Name nm p) [] kws pos) (tNewKw C fn tk) := by
  refine ⟨fun pins s σ H Q I h => ?_⟩
  obtain ⟨bmB, B, newId, initId, fI, FB, T, iC, tI, _, D⟩ := O.some
  refine wpAny_Call_Name_kw (ld_glob I hg O.g ?_ hdb)
  refine PySem.W.callWith_KW0 (h₀ := X.base) I.ok.mod.kin T.keep hall ?_ hpl
  refine thn (hkw.run pos pins s σ H _ I h) fun ws s1 ⟨zs, H1, I1, rz, hz, q1⟩ => ⟨I1.kIn, ?_⟩
  rw [hks]
  have hlim := I1.nolimit
  have hl : ws.length = fn.length := rz.length.symm.trans hz
  obtain ⟨hp, g, dr, tk', os⟩ := s1
  show wpAny _ _ (call (.ref C) [] (fn.reverse.zip ws)) _ _ _
  refine wpAny_call (made FB T iC tI (D ws hl) (Nat.zero_le _) I1.kIn hlim (by have := hr.dp; omega) fun h' tk2 a d M => ?_)
  obtain ⟨G, J, kG, ge, na, nd⟩ := made_inv (tk' := tk2) I1 M (paired_rev (kv_zip fn (paired_rev rz)))
  obtain ⟨t, ho⟩ := M.obj
  have J2 := J.laidN (h' := h') (t' := tk2) (o := exV a C d) kG ge na (exV_ok ho rfl rfl rfl)
  have na1 : H1 a = none := by rw [upd_ne (Ne.symm M.dne)] at na; exact na
  exact ⟨.ref a, _, J2, rfl, q1 a d na1 nd M.dne⟩
end
end L2
end
section
set_option Elab.async false
set_option linter.all false
set_option maxRecDepth 100000
set_option maxHeartbeats 4000000
/-! X5: try with several clauses «except C as n», behind which the caught exception is told -/
namespace L2
open PySem PySem.Spec PyProof.Rows PySem.VX
section
variable {X : Cx} {pins : List (Addr × Obj)} {σ : St} {H : Hp} {s : Shared}
/-- an object that nobody tells of, new since the def's entry, is told from now on -/
theorem Inv.track {a C d : Addr} {oe : Obj} {vs : Array Value} (I : Inv X pins σ H s) (ho : s.heap.get? a = some oe) (hc : oe.cls = .ref C) (hd : oe.dict = some d) (hv : oe.data = .fields vs) (na : H a = none)
    (n0 : X.s_0.heap.get? a = none) (nL : a ≠ X.env.locals) (np : ∀ p ∈ X.pn ++ pins, p.1 ≠ a) : Inv X pins σ (upd H a (exV a C d)) s := by
  have ne0 : ∀ b o, X.s_0.heap.get? b = some o → b ≠ a := fun b o e z => by
    rw [z, n0] at e
    cases e
  have neS : ∀ b u, H b = some u → b ≠ a := fun b u e => ne_of_none e na
  refine ⟨I.ok, I.os, I.bare, ⟨I.base.keep, I.base.slot, fun b o e n hx => ?_, I.base.there, fun b xs e => ?_, fun b o u e => ?_, fun b ps e => ?_⟩, I.loc, I.cell, ?_, fun x c e => ?_, fun p hp => ?_, fun b u e => ?_, I.len⟩
  · rw [upd_ne (ne0 b o e)]
    exact I.base.free b o e n hx
  · have q := I.base.tups b xs e
    rw [upd_ne (neS b _ q)]
    exact q
  · have q := I.base.frzs b o u e
    rw [upd_ne (neS b _ q)]
    exact q
  · obtain ⟨m, q⟩ := I.base.tbls b ps e
    exact ⟨m, by rw [upd_ne (neS b _ q)]; exact q⟩
  · rw [upd_ne (Ne.symm nL)]
    exact I.free
  · have nc : c ≠ a := fun z => by
      obtain ⟨v, o, e1, e2⟩ := I.cell x c e
      rw [z, ho] at e1
      cases e1
      rw [hv] at e2
      cases e2
    rw [upd_ne nc]
    exact I.freeC x c e
  · obtain ⟨e1, e2, r⟩ := I.pin p hp
    exact ⟨e1, by rw [upd_ne (np p hp)]; exact e2, r⟩
  · by_cases hb : b = a
    · subst hb
      rw [upd_same] at e
      cases e
      exact exV_ok ho hc hd hv
    · rw [upd_ne hb] at e
      refine (I.hok b u e).stay (fun _ _ _ q => q) (fun c q => ?_) fun c xs q => ?_
      · rw [upd_ne (neS c _ q)]
        exact q
      · rw [upd_ne (neS c _ q)]
        exact q
end
/-- the clauses' wishes, one behind the other; n's slot is i -/
def wManyV (K : PySem.W.Frag) (i : Nat) (Wout : WX) (D : Ends) : List (Value × (Addr → Value → Option Addr → TS)) → WX
  | [] => Wout
  | (c, ts) :: r => fun cls d σ H => ∃ b, PySem.W.exmOne K cls c = some b ∧
      (b = true → ∃ C d', cls = .ref C ∧ d = some d' ∧ ∀ a, H a = none → ts a cls d { nx := fun σ' H' => D.nx (σ'.set i none) (upd H' a (exV a C d')), rt := fun v H' => D.rt v H', bk := fun σ' H' => D.bk (σ'.set i none) H', ct := fun σ' H' => D.ct (σ'.set i none) H' } (σ.set i (some (.ref a))) H) ∧
      (b = false → wManyV K i Wout D r cls d σ H)
inductive HdsV (X : Cx) (n : Str) : List ExceptHandler → List (Value × (Addr → Value → Option Addr → TS)) → Prop
  | nil : HdsV X n [] []
  | cons {x : Str} {c : Value} {ts : Addr → Value → Option Addr → TS} {b₀ : Stmt} {suite : List Stmt} {np pos' : Pos} {hds : List ExceptHandler} {l : List (Value × (Addr → Value → Option Addr → TS))} (hc : Names X x c)
      (hsu : ∀ (a : Addr) (oe : Obj) (cls : Value) (d : Option Addr) (pn : List (Addr × Obj)), Zc cls d oe → (∃ vs, oe.data = .fields vs) → PSs (X.suite a ((a, oe) :: pn)) (b₀ :: suite) (ts a cls d)) (r : HdsV X n hds l) :
      HdsV X n (.ExceptHandler (some (.Name x np)) (some n) (b₀ :: suite) pos' :: hds) ((c, ts) :: l)
section
variable {X : Cx} {n : Str} {i : Nat} {body : List Stmt} {h₀ : ExceptHandler} {hds : List ExceptHandler} {l : List (Value × (Addr → Value → Option Addr → TS))} {pos : Pos} {tb : WX → TS} {Wout : WX}
theorem ps_try_manyV (hs : X.stack = X.env :: X.outer) (hf : X.env.frame = some X.env.locals) (hex : X.ex = []) (hN : X.N.Nodup) (hi : X.N[i]? = some n) (hln : X.env.kindOf n = some .local) (tk : Takes X Wout)
    (hb : ∀ (W : WX) (pn : List (Addr × Obj)) (xe : Value → Shared → Prop), Takes (X.tr pn xe) W → PassesOwn (model X.prog X.w) X.A X.env xe → PSs (X.tr pn xe) body (tb W))
    (hh : HdsV X n (h₀ :: hds) l) : PS X (.Try body (h₀ :: hds) [] [] pos) (fun D σ H => tb (wManyV X.K i Wout D l) D σ H) := by
  refine ⟨fun pins s σ H D I h => ?_⟩
  have ok := I.ok
  have frm : X.A.frames = some (X.env :: X.outer) := ok.frames.trans (congrArg some hs)
  have hloc : Loc X.env.scope n := .inl hln
  refine wpAny_Try_except ?_
  refine wpAny_mono ((hb (wManyV X.K i Wout D l) (X.pn ++ pins) (fun e s₁ => wpAny (model X.prog X.w) X.A (noteFrame e X.env) (fun _ s₂ => wpAny (model X.prog X.w) X.A (setFlight e none) (fun _ s₃ =>
    wpAny (model X.prog X.w) X.A (handleBy e X.env (h₀ :: hds)) (SP X pins D) X.xe s₃) X.xe s₂) X.xe s₁) (fun u s' xx => ?_) PassesOwn.looking).run [] s σ H D (I.toTry _) h) (fun f s1 hsp => ?_) (fun _ _ he => he)
  · obtain ⟨a, B, sI, pins', σ', H', cls, d, rfl, J', nb, up, sky, na, os, ag, w⟩ := xx
    have J : Inv X pins σ' H' sI := J'.ofTry ok
    have sky' : Sky B (X.env :: X.outer) a (Zc cls d) X.env.locals s'.heap := by rw [← hs]; exact sky
    show wpAny (model X.prog X.w) X.A (noteFrame (.ref a) X.env) _ _ _
    refine Sky.land Zc.steady frm hf sky' fun h3 fl3 up3 => ?_
    have J3 : Inv X pins σ' H' { s' with heap := h3 } := J.landed nb fl3.1 (up.trans up3) os ag
    obtain ⟨oe3, vs3, he3, hz3, hd3⟩ := fl3.there
    have noFrame : a ∉ frs (X.env :: X.outer) := fun hm => by
      obtain ⟨_, o', e', hnf⟩ := fl3.2.2.1.mem hm
      rw [he3] at e'
      cases e'
      exact hnf _ hd3
    have noStack : a ∉ frs X.stack := by rw [hs]; exact noFrame
    have nL : a ≠ X.env.locals := fun z => noFrame (List.mem_filterMap.mpr ⟨X.env, List.mem_cons_self, by rw [hf, z]⟩)
    have nF : a ∉ X.fs := fun hm => by
      obtain ⟨e, he, q⟩ := List.mem_filterMap.mp hm
      exact noFrame (List.mem_filterMap.mpr ⟨e, List.mem_cons_of_mem _ he, q⟩)
    -- it wasn't there ahead
    have nB : B.get? a = none := fl3.2.1
    have nI : sI.heap.get? a = none := by
      cases e : sI.heap.get? a with
      | none => rfl
      | some o =>
        have z := nb a o e noStack
        rw [nB] at z
        cases z
    have n0 : X.s_0.heap.get? a = none := by
      cases e : X.s_0.heap.get? a with
      | none => rfl
      | some o =>
        obtain ⟨o', z⟩ := J.base.there a o e (by rw [hex]; exact fun z => nomatch z)
        rw [nI] at z
        cases z
    have np : ∀ p ∈ X.pn ++ pins, p.1 ≠ a := fun p hp z => by
      have q := (J.pin p hp).1
      rw [z, nI] at q
      cases q
    have S3 := J3.suite he3 hd3 na nL nF
    have go : ∀ {hds' : List ExceptHandler} {l' : List (Value × (Addr → Value → Option Addr → TS))}, HdsV X n hds' l' → wManyV X.K i Wout D l' cls d σ' H' →
        wpAny (model X.prog X.w) X.A (handleBy (.ref a) X.env hds') (SP X pins D) X.xe { s' with heap := h3 } := by
      intro hds' l' hk
      induction hk with
      | nil =>
        intro w
        refine wpAny_handleBy_nil ?_
        obtain ⟨k1, k2, k3, oe, vs, T, oT, ts', he, hz, hd, h1, hr⟩ := id fl3
        unfold PySem.passOn
        refine wpAny_bind (wpAny_field he hd h1 ?_)
        rw [if_neg (show ¬ ((Value.ref T == Value.none) = true) from by simp)]
        have away : wpAny (model X.prog X.w) X.A (setFlight (.ref a) X.env.frame) (fun _ s4 => wpAny (model X.prog X.w) X.A (throw (.ref a) : Sem Flow) (SP X pins D) X.xe s4) X.xe { s' with heap := h3 } := by
          rw [hf]
          refine HandSPX.setFlight_upZ fl3 fun h4 hh4 up4 => wpAny_throw (tk _ _ ?_)
          exact ⟨a, B, sI, pins, σ', H', cls, d, rfl, J, nb, (up.trans up3).trans up4, .inr (.inr (by rw [hs]; exact hh4)), na, os, ag, w⟩
        first
          | exact wpAny_bind (wpAny_pure (wpAny_bind away))
          | exact wpAny_bind away
      | @cons x c ts b₀ suite np' pos' hds2 l2 hc hsu r ih =>
        intro w
        obtain ⟨b, hb1, hyes, hno⟩ := w
        refine wpAny_handleBy_cons (codeAny_handlers_test ?_) (by intro q; cases q)
        have LT : PySem.W.Looks (model X.prog X.w) h3 (typeOf (.ref a)) cls := fun A Q E s k q => wpAny_typeOf_ref (k _ _ he3) (by rw [hz3.1]; exact q)
        have LM := PySem.W.exm_one (M := model X.prog X.w) (J3.kIn) LT hb1
        have test : ∀ {Q : Value → Shared → Prop} {E : Value → Shared → Prop}, Q c { s' with heap := h3 } → wpAny (model X.prog X.w) (X.A.mark (some (.ref a))) (eval (.Name x np') X.env) Q E { s' with heap := h3 } := fun {Q E} q => by
          obtain ⟨hg, hdbg, hm | ⟨hm, hv, hnn⟩⟩ := hc
          · exact ld_glob (X := X.suite a ((a, oe3) :: (X.pn ++ pins))) S3 hg hm q hdbg
          · exact ld_blt (X := X.suite a ((a, oe3) :: (X.pn ++ pins))) S3 hg hm hv q hnn hdbg
        refine test (LM.here ?_)
        cases b with
        | true =>
          obtain ⟨C, d', rfl, rfl, hyes'⟩ := hyes rfl
          refine codeAny_handlers_suite_as ?_
          refine HandSPX.lands_againZ fl3 fun h4 fl4 up4 => ?_
          have J4 : Inv X pins σ' H' { s' with heap := h4 } := J.landed nb fl4.1 ((up.trans up3).trans up4) os ag
          obtain ⟨oe4, vs4, he4, hz4, hd4⟩ := fl4.there
          have S4 := J4.suite he4 hd4 na nL nF
          refine store_ok (X := X.suite a ((a, oe4) :: (X.pn ++ pins))) (v := .ref a) S4 hN hi hloc rfl (fun s5 S5 => ?_) (.inr hln)
          refine wpAny_mono ((hsu a oe4 (.ref C) (some d') (X.pn ++ pins) hz4 ⟨_, hd4⟩).run [] s5 _ H' _ S5 (hyes' a na)) (fun f s6 hsp => ?_) (fun _ _ z => False.elim z)
          have plain : ∀ {τ : St} {G : Hp} {Q : Shared → Prop}, Inv (X.suite a ((a, oe4) :: (X.pn ++ pins))) [] τ G s6 → (∀ s7, Inv X pins (τ.set i none) G s7 → Q s7) →
              wpAny (model X.prog X.w) X.A (do bindName X.env n .none; unbindBehindTheSuite X.env n pos') (fun _ s7 => Q s7) X.xe s6 := fun {τ G Q} S6 hq => gone_ok (S6.unsuite ok) hN hi hln hq
          cases f with
          | next =>
            obtain ⟨τ, G, S6, q6⟩ := hsp
            obtain ⟨hoa, hna, _⟩ := S6.pin (a, oe4) (List.mem_append_left _ List.mem_cons_self)
            have T6 : Inv X pins τ (upd G a (exV a C d')) s6 := (S6.unsuite ok).track hoa hz4.1 hz4.2 hd4 hna n0 nL np
            exact gone_ok T6 hN hi hln fun s7 J7 => ⟨_, _, J7, q6⟩
          | brk =>
            obtain ⟨τ, G, S6, q6⟩ := hsp
            exact plain S6 fun s7 J7 => ⟨_, _, J7, q6⟩
          | cont =>
            obtain ⟨τ, G, S6, q6⟩ := hsp
            exact plain S6 fun s7 J7 => ⟨_, _, J7, q6⟩
          | ret u =>
            obtain ⟨v6, τ, G, S6, r6, q6⟩ := hsp
            exact plain S6 fun s7 J7 => ⟨_, _, _, J7, r6, q6⟩
        | false =>
          show wpAny _ X.A (handleBy (.ref a) X.env hds2) _ _ _
          exact ih (hno rfl)
    exact go hh w
  · cases f with
    | next =>
      obtain ⟨τ, G, J', q⟩ := hsp
      exact wpAny_execs_nil ⟨τ, G, J'.ofTry ok, q⟩
    | brk =>
      obtain ⟨τ, G, J', q⟩ := hsp
      exact ⟨τ, G, J'.ofTry ok, q⟩
    | cont =>
      obtain ⟨τ, G, J', q⟩ := hsp
      exact ⟨τ, G, J'.ofTry ok, q⟩
    | ret u =>
      obtain ⟨v, τ, G, J', r, q⟩ := hsp
      exact ⟨v, τ, G, J'.ofTry ok, r, q⟩
end
end L2
end
section
set_option Elab.async false
set_option linter.all false
set_option maxRecDepth 100000
set_option maxHeartbeats 4000000
/-! X6: an exception held as a value: its fields, isinstance -/
namespace L2
open PySem PySem.Spec PyProof.Rows PySem.VX
section
variable {X : Cx} {pins : List (Addr × Obj)} {σ : St} {H : Hp} {s : Shared}
theorem exV_inst (I : Inv X pins σ H s) {a C d : Addr} {fs : List (Str × V)} (ea : H a = some (exV a C d)) (ed : H d = some (.xd fs)) :
    ∃ (oe od : Obj) (mA : Str → Option Value), PySem.W.InstAt s.heap a oe C (some od) ∧ (∀ f, RelO (fs.lookup f) (mA f)) ∧ ∀ name, PySem.W.lookIn name od = some (mA name) := by
  obtain ⟨oe, vs, ho, hc, hd, hv⟩ := exV_at I.hok ea
  have hx : ObjOk X.prog X.w H s.heap d (.xd fs) := I.hok d _ ed
  obtain ⟨mA, hns, hr⟩ := hx
  obtain ⟨od, hod, hl⟩ := lookIn_ns hns
  exact ⟨oe, od, mA, ⟨ho, hc, by unfold PySem.W.notCls; rw [hv] <;> rfl, by rw [hd]; exact hod⟩, hr, hl⟩
/-- e.f, e such an exception -/
def tFldV (K : PySem.W.Frag) (f : Str) (te : TE) : TE := fun σ H Q => te σ H fun x H1 => ∃ (a C d : Addr) (fs : List (Str × V)) (v : V), x = .ref a ∧ H1 a = some (exV a C d) ∧ H1 d = some (.xd fs) ∧ XfC K C ∧ PySem.W.findIn K (.ref C) f = some none ∧ fs.lookup f = some v ∧ Q v H1
theorem pe_fldV {e : Expr} {te : TE} {pos : Pos} {n : Str} (he : PE X e te) (hb : attributeBase e n X.env (eval e X.env) = eval e X.env := by rfl) : PE X (.Attribute e n pos) (tFldV X.K n te) := by
  refine ⟨fun pins s σ H Q I h => ?_⟩
  refine attr_of hb (thn (he.run pins s σ H _ I h) fun u s1 hh => ?_)
  obtain ⟨x, H1, I1, rx, a, C, d, fs, v, ex, ea, ed, T, hno, l, q⟩ := hh
  subst ex
  obtain rfl : u = Value.ref a := rx
  obtain ⟨oe, od, mA, J, hr, hl⟩ := exV_inst I1 ea ed
  obtain ⟨u, hu, ru⟩ := RelO.some_of (v := v) (o := mA n) (by rw [← l]; exact hr n)
  exact HandSPX.exc_get I1.kIn J T.ga T.gg T.exC (PySem.W.findObj_own T.hdC hno rfl (by rw [hl, hu])) (handed_of ru) ⟨v, H1, I1.tok _, ru, q⟩
/-- isinstance(e, c), e such an exception -/
def rIsV (K : PySem.W.Frag) : List V → Hp → VK → Prop := fun xs H Q => ∃ (a C d : Addr) (fs : List (Str × V)) (c : V) (cv : Value) (b : Bool), xs = [.ref a, c] ∧ H a = some (exV a C d) ∧ H d = some (.xd fs) ∧ ExcC K C ∧ (∀ u, RelV c u → u = cv) ∧ PySem.W.kitOne K (.ref C) cv = some b ∧ Q (.bl b) H
theorem call_isV : CallR X (.builtin "isinstance") (rIsV X.K) := by
  intro pins s σ H xs us Q I r h
  obtain ⟨a, C, d, fs, c, cv, b, rfl, ea, ed, T, hcv, e, q⟩ := h
  obtain ⟨u, u2, rfl, ru, r2⟩ := vals2 r
  obtain rfl : u = Value.ref a := ru
  have ec := hcv _ r2
  subst ec
  obtain ⟨oe, od, mA, J, _, _⟩ := exV_inst I ea ed
  have hcl : (PySem.W.clsIn X.K C).isSome = true := by
    obtain ⟨cd, hc, _⟩ := PySem.W.any_some T.hd
    rw [hc]
    rfl
  exact PySem.W.kia_one (PySem.W.kitx_exc hcl T.hg T.hk T.hs T.ha T.hn T.ht T.hm) I.kIn J e (fun z => nomatch z) fun tk => ⟨.bl b, H, I.kept (t' := tk) fun _ _ z => z, rfl, q⟩
end
end L2
end
section
set_option Elab.async false
set_option linter.all false
set_option maxRecDepth 100000
set_option maxHeartbeats 4000000
/-! X7: repr of data, in defs that run while no repr does -/
namespace L2
open PySem PySem.Spec PyProof.Rows PySem.VX
theorem guards_deeper {A : Around} {env : Env} : (A.deeper env).guards = A.guards := by
  first
    | rfl
    | (obtain ⟨a, b, c, d, e⟩ := A; rfl)
    | (obtain ⟨a, b, c, d, e⟩ := A; cases d <;> rfl)
/-- a def's promise, where no repr runs around -/
structure FnG (P : Program) (w : World) (K : PySem.W.Frag) (mg : Str → Option Value) (base : Heap) (CX : CXT) (k : Nat) (f : Addr) (fd : FuncData) (ps : List Str) (sp : Sp) : Prop where
  len : ∀ vs H Q E, sp vs H Q E → vs.length = ps.length
  run : ∀ (A : Around) (outer : List Env) (s : Shared) (H : Hp) (args : Args) (us : List Value) (vs : List V) (Q : VK) (E : XK), Room k A → A.guards = some [] → Env0 P w K mg base A outer s H → BindsTo s fd args (ps.zip us) → Vals vs us → sp vs H Q E →
    codeAny (model P w) A (.call (.ref f) args) (CR CX outer P w H s Q E) s
section
variable {P : Program} {w : World} {K : PySem.W.Frag} {mg : Str → Option Value} {base : Heap}
theorem Fun.okG {x qual : Str} {st : Stmt} {f : Addr} {fd : FuncData} {N ps : List Str} {k : Nat} {sp : Sp} (F : Fun K x qual st f fd) (S : FnScope N ps (defScope st)) (len : ∀ vs H Q E, sp vs H Q E → vs.length = ps.length)
    (hbody : ∀ (cdv : Value) (A : Around) (outer : List Env) (s : Shared) (H : Hp) (vs : List V) (Q : VK) (E : XK), Room k (A.deeper (envOfC qual (defScope st) s.heap.objs.size f cdv)) → (A.deeper (envOfC qual (defScope st) s.heap.objs.size f cdv)).guards = some [] → sp vs H Q E →
      ∃ t, PSs (cxOf CX0 P w K mg base N qual (defScope st) f cdv A outer s H E).nox (defBody st) t ∧ t { nx := fun _ H' => Q .non H', rt := Q } (start N vs) H) : FnG P w K mg base CX0 (k + 1) f fd ps sp := by
  obtain ⟨oc, od, kV, doc, pm, an, cdv, ct, osl, rfl, lk, hcd⟩ := F.ex
  refine ⟨len, fun A outer s H args us vs Q E hr hG e0 hb r hsp => ?_⟩
  have hG2 : (A.deeper (envOfC qual (defScope st) s.heap.objs.size f cdv)).guards = some [] := guards_deeper.trans hG
  have hl := len _ _ _ _ hsp
  have KX : K.In s.heap := e0.mod.kin.keeps fun b o e => (e0.bs b o e).1
  have lim : s.heap.NoLimit := e0.mod.nolimit.keeps fun b o e => (e0.bs b o e).1
  have kinds : ∀ y ∈ ps.zip us, (defScope st).names.lookup y.1 = some .local ∨ ((defScope st).names.lookup y.1 = some .cell ∧ ((cellsFrom (s.heap.objs.size + 1) (defScope st).names []).lookup y.1).isSome = true) := by
    rintro ⟨n, v⟩ hy
    rcases S.par n (List.of_mem_zip hy).1 with q | q
    · exact .inl q
    · exact .inr ⟨q, PySem.W.cellsFrom_some _ _ _ (.inl q)⟩
  refine codeAny_call_function hr.depth (KX _ _ lk) rfl S.co S.gen rfl (PySem.W.codeRec_of KX hcd) (hb _ _ _ _ ?_)
  refine wpAny_newFunctionEnv_cells S.kind kinds fun env he s1 x => ?_
  subst he
  refine ⟨lim.keeps x.toInCall.keep, codeAny_func ?_⟩
  obtain ⟨t, ht, hq⟩ := hbody cdv A outer s H vs Q E (hr.deeper _) hG2 hsp
  have I : Inv (cxOf CX0 P w K mg base N qual (defScope st) f cdv A outer s H E) [] (start N vs) H s1 := inv_start S hr.hd e0 hl r x
  refine wpAny_mono (ht.nox.run [] s1 (start N vs) H _ I hq) (fun fl s' hs => ?_) fun _ _ z => z
  have done : ∀ {σ' : St} {H' : Hp} {v : V} {u : Value}, Inv (cxOf CX0 P w K mg base N qual (defScope st) f cdv A outer s H E) [] σ' H' s' → RelV v u → Q v H' → CE outer P w H s Q u s' :=
    fun {σ' H' v u} J rv q => ⟨v, H', J.os, J.bare, J.base, J.hok, rv, q⟩
  cases fl with
  | ret u =>
    obtain ⟨v, σ', H', J, rv, q⟩ := hs
    exact done J rv q
  | next =>
    obtain ⟨σ', H', J, q⟩ := hs
    exact done (v := V.non) (u := Value.none) J rfl q
  | brk => exact False.elim hs.choose_spec.choose_spec.2
  | cont => exact False.elim hs.choose_spec.choose_spec.2
end
section
variable {X : Cx} {CX : CXT} {k : Nat} {f : Addr} {fd : FuncData} {ps : List Str} {sp : Sp} {E : XK} {x : Str} {p pos : Pos} {e : Expr} {es : List Expr} {t : TA} {ds : List Value} {dvs : List V}
/-- f(e, ..), f a def of such a promise -/
theorem pe_callG (F : FnG X.prog X.w X.K X.mg X.base CX k f fd ps sp) (hr : Room k X.A) (hG : X.A.guards = some []) (hg : Gl X x) (hm : X.mg x = some (.ref f)) (hk : PySem.W.keepIn X.K (.ref f) = true) (hb : Binds X.K fd ps ds) (hd : Vals dvs ds) (hx : Passes CX X E)
    (ha : PA X (e :: es) t) (hdb : (x == ("__debug__" : Str)) = false := by decide) (he : starEach (e :: es) X.env = (false, eval e X.env) :: starEach es X.env := by rfl) (hpl : (backTo pos (starEach es X.env)).any (·.1) = false := by rfl) :
    PE X (.Call (.Name x p) (e :: es) [] pos) (tCall sp dvs E t) := by
  refine ⟨fun pins s σ H Q I h => ?_⟩
  refine wpAny_Call_Name_kw (ld_glob I hg hm ?_ hdb)
  refine PySem.W.callWith_K (h₀ := X.base) I.ok.mod.kin hk (thn (ha.run pos pins s σ H _ I h) fun us s1 ⟨vs, H1, I1, r, q⟩ => ⟨I1.kIn, ?_⟩) he hpl
  have r2 : Vals (vs ++ dvs) (us ++ ds) := r.append hd
  have hl : (us ++ ds).length = ps.length := by
    rw [← r2.length]
    exact F.len _ _ _ _ q
  refine wpAny_call (codeAny_mono (F.run X.A X.stack s1 H1 ⟨us, []⟩ (us ++ ds) (vs ++ dvs) Q E hr hG I1.env0 (hb s1 us I1.kIn hl) r2 q) fun r s' hq => ?_)
  cases r with
  | error er => exact hx pins σ H1 s1 er s' I1 hq
  | ok fl =>
    cases fl with
    | ret u => exact I1.after hq
    | next => exact False.elim hq
    | brk => exact False.elim hq
    | cont => exact False.elim hq
/-- repr(x), x a list or tuple of data -/
def rReprD (K : PySem.W.Frag) : List V → Hp → VK → Prop := fun xs H Q => ∃ (a : Addr) (d : PyData), xs = [.ref a] ∧ Dp K H (.ref a) d ∧ d.showable = true ∧ d.hasDict = false ∧ d.depth ≤ 60 ∧ d.shown.length ≤ sizeLine ∧ Q (.str d.shown) H
theorem call_reprD (hG : X.A.guards = some []) (hu : X.A.units + 64 < cLine) : CallR X (.builtin "repr") (rReprD X.K) := by
  intro pins s σ H xs us Q I r h
  obtain ⟨a, d, rfl, hd, hs, hnd, hdp, hz, q⟩ := h
  obtain ⟨u, rfl, ru⟩ := vals1 r
  obtain rfl : u = Value.ref a := ru
  obtain ⟨as, rd⟩ := Dp.reads I d _ _ hd (show RelV (.ref a) (.ref a) from rfl)
  refine repr_of_reads' rd hs (fun z => absurd z (by rw [hnd]; decide)) hG (by omega) (fun _ _ e => e) (fun h' u tk k => ?_) hz
  exact ⟨.str d.shown, H, I.kept (t' := tk) k, ⟨_, rfl⟩, q⟩
end
/-- the law's call, for such a promise of the law -/
theorem law_callG {P : Program} {w : World} {K : PySem.W.Frag} {mg mb : Str → Option Value} {CX : CXT} {k : Nat} {fa a : Addr} {fd : FuncData} {x : Str} {sp : Sp} {s1 : Shared} {vs : List Value} {ns : List Int}
    (KX : K.In s1.heap) (hns : s1.heap.Ns mainGlobals mg) (hb : s1.heap.Ns builtinsNs mb) (hbb : ∀ x : Str, x ≠ "__name__" → mb x = bootBuiltins x) (hlim : s1.heap.NoLimit) (hg : s1.gens = #[])
    (ha : s1.heap.get? a = some { cls := .type "list", data := .seq vs.toArray }) (hi : IntsAre vs ns) (hl : ns.length ≤ sizeLine) (hr : Room k callerA)
    (F : ∀ base : Heap, K.In base → base.Ns mainGlobals mg → FnG P w K mg base CX k fa fd [x] sp) (hbind : ∀ (s : Shared) (u : Value), BindsTo s fd ⟨[u], []⟩ [(x, u)])
    (hsp : ∀ H : Hp, Only H → SqL K H a (ns.map V.int) → sp [.ref a] H (fun v _ => v = .bl true) fun _ _ _ => False)
    (hCX : ∀ H e s', CX [] H s1 (fun _ _ _ => False) e s' → False) :
    codeAny (model P w) callerA (.call (.ref fa) ⟨[.ref a], []⟩) (fun r s' => r = .ok (.ret (.bool true)) ∧ OldK s1.heap s'.heap ∧ s'.os = s1.os ∧ AllBare s'.gens) s1 := by
  have rv := vals_ints hi
  have lenV := hi.length
  have core : ∀ H : Hp, Only H → SqL K H a (ns.map V.int) → HOk P w H s1.heap → (∀ b, H b ≠ none → b = a) → (H a ≠ none → K.lookup a = none) →
      codeAny (model P w) callerA (.call (.ref fa) ⟨[.ref a], []⟩) (fun r s' => r = .ok (.ret (.bool true)) ∧ OldK s1.heap s'.heap ∧ s'.os = s1.os ∧ AllBare s'.gens) s1 := by
    intro H hO hS hok hA hK
    have only : ∀ {b : Addr} {u : HO}, H b = some u → b = a := fun {b u} q => hA b (by rw [q]; exact Option.some_ne_none u)
    have free : ∀ {b : Addr} {o : Obj} {es : Array DictEntry} {ep : Nat}, s1.heap.get? b = some o → o.data = .dict es ep → H b = none := by
      intro b o es ep e d
      cases q : H b with
      | none => rfl
      | some u =>
        have e' := only q
        subst e'
        rw [ha] at e
        cases e
        cases (show Data.seq vs.toArray _ = Data.dict es ep from d)
    have nsK : ∀ {b : Addr} {m : Str → Option Value}, s1.heap.Ns b m → (hidT s1.heap H).Ns b m := fun {b m} ⟨o, es, ep, e, d, r⟩ => ⟨o, es, ep, hidT_get e (free e d), d, r⟩
    have hKb : K.In (hidT s1.heap H) := fun b o e => hidT_get (KX b o e) (by
      cases q : H b with
      | none => rfl
      | some u =>
        have e' := only q
        subst e'
        rw [hK (by rw [q]; exact Option.some_ne_none u)] at e
        cases e)
    have hM : Mod K mg (hidT s1.heap H) := ⟨hKb, nsK hns, ⟨mb, nsK hb, hbb⟩, let ⟨mc, h1, h2⟩ := hlim; ⟨mc, nsK h1, h2⟩⟩
    have none1 : ∀ b : Addr, b ∉ ([] : List Addr) := fun b z => nomatch z
    have e0 : Env0 P w K mg (hidT s1.heap H) callerA [] s1 H := ⟨rfl, hM, fun b o e => of_hidT e, Nat.le_of_eq (hidT_size _ _), trivial, fun b hb => absurd hb (none1 b), hok, .of_eq hg⟩
    refine codeAny_mono ((F _ hKb (nsK hns)).run callerA [] s1 H ⟨[.ref a], []⟩ [.ref a] [.ref a] _ _ hr rfl e0 (hbind s1 (.ref a)) (.cons rfl .nil) (hsp H hO hS)) fun r s' h => ?_
    cases r with
    | error e => exact (hCX H e s' h).elim
    | ok fl =>
      cases fl with
      | next => exact False.elim h
      | brk => exact False.elim h
      | cont => exact False.elim h
      | ret u =>
        obtain ⟨v, H', os, bare, un, hok', r', q⟩ := h
        obtain rfl : v = .bl true := q
        obtain rfl : u = Value.bool true := r'
        refine ⟨rfl, OldK.of_keep fun b o e => ?_, os, bare⟩
        cases q : H b with
        | none => exact un.keep b o e q (none1 b) (none1 b)
        | some u =>
          rcases hO b with z | ⟨ob, xs, z⟩
          · rw [q] at z
            cases z
          · obtain ⟨e1, _⟩ := hok b _ z
            obtain ⟨e2, _⟩ := hok' b _ (un.frzs b ob _ z)
            rw [e] at e1
            cases e1
            exact e2
  cases hk : K.lookup a with
  | some o =>
    have e := KX a o hk
    rw [ha] at e
    cases e
    refine core (fun _ => none) (fun _ => .inl rfl) (.inr ⟨_, vs.toArray, _, hk, rfl, rfl, rfl, by rw [List.size_toArray, lenV]; exact hl, by simpa using rv⟩) (fun b u z => by cases (show (none : Option HO) = some u from z)) (fun b z => absurd rfl z) fun z => absurd rfl z
  | none =>
    refine core (fun b => if b = a then some (.frz { cls := .type "list", data := .seq vs.toArray } (.lst (ns.map V.int))) else none) (fun b => ?_) (.inl (.inr ⟨{ cls := .type "list", data := .seq vs.toArray }, if_pos rfl⟩)) (fun b u z => ?_) (fun b z => ?_) fun _ => hk
    · by_cases hb : b = a
      · exact .inr ⟨_, _, if_pos hb⟩
      · exact .inl (if_neg hb)
    · by_cases hb : b = a
      · cases (if_pos hb).symm.trans z
        subst hb
        exact ⟨ha, by rw [List.length_map]; exact hl, vs, _, rv, ha⟩
      · cases (if_neg hb).symm.trans z
    · by_cases hb : b = a
      · exact hb
      · exact absurd (if_neg hb) z
theorem walk_ofG {l : PySem.W.OpenLaw} {n k : Nat} {q : Program} {loose : List Str} {XP : (Str → Option Value) → Heap → Prop} {YP : World → Heap → Prop} {d : DefRec} {K : Params → PySem.W.Frag} {sp : PySem.W.Frag → Sp} {x : Str}
    (hn : l.most = some n) (hn2 : n ≤ sizeLine) (hdf : d.params.defaults = []) (hr : Room k callerA)
    (hY : ∀ (w : World) (h : Heap), YP w h → (K w.params).In h)
    (F : ∀ (w : World) (mg : Str → Option Value) (fa : Addr) (h : Heap), (K w.params).In h → h.Ns mainGlobals mg → mg d.name = some (.ref fa) →
      ∃ fd : FuncData, (∀ (s : Shared) (u : Value), BindsTo s fd ⟨[u], []⟩ [(x, u)]) ∧ ∀ base : Heap, (K w.params).In base → base.Ns mainGlobals mg → FnG l.prog w (K w.params) mg base CX0 k fa fd [x] (sp (K w.params)))
    (hsp : ∀ (K : PySem.W.Frag) (H : Hp) (a : Addr) (ns : List Int), ns.length ≤ n → Only H → SqL K H a (ns.map V.int) → sp K [.ref a] H (fun v _ => v = .bl true) fun _ _ _ => False) :
    PySem.W.WalkO q loose XP YP l.row.toRowW d [] (fun f vs => PySem.call f vs) := by
  refine Att.attach_call hn hdf fun w s₀ s1 mg mb fa o pm cd doc a vs ns G Y ho hd hcd hmg hobj hints hlen hg => ?_
  have KX := hY w _ Y
  obtain ⟨fd, hb, hF⟩ := F w mg fa _ KX G.T.g hmg
  exact law_callG KX G.T.g G.T.b G.T.builtins G.T.nolimit hg hobj hints (Nat.le_trans hlen hn2) hr hF hb (fun H hO hS => hsp (K w.params) H a ns hlen hO hS) fun H e s' z => z
end L2
end
section
set_option Elab.async false
set_option linter.all false
set_option maxRecDepth 100000
set_option maxHeartbeats 4000000
/-! D6: words_to -/
namespace D1
open PySem L2 Evl PySem.VX
def lv (zs : List Nat) : Nat → List Str
  | 0 => [Str.ofString ""]
  | k + 1 => (lv zs k).flatMap fun w => zs.map fun c => w ++ one c
def allW (zs : List Nat) : Nat → List Str
  | 0 => [Str.ofString ""]
  | k + 1 => allW zs k ++ lv zs (k + 1)
theorem lv_len (zs : List Nat) : ∀ k, (lv zs k).length = zs.length ^ k
  | 0 => rfl
  | k + 1 => by
    show ((lv zs k).flatMap fun w => zs.map fun c => w ++ one c).length = _
    rw [List.length_flatMap]
    simp only [List.length_map]
    rw [List.map_const', List.sum_replicate_nat, lv_len zs k, Nat.pow_succ]
theorem allW_succ (zs : List Nat) (k : Nat) : (allW zs (k + 1)).length = (allW zs k).length + zs.length ^ (k + 1) := by
  show (allW zs k ++ lv zs (k + 1)).length = _
  rw [List.length_append, lv_len]
theorem lv_le_all (zs : List Nat) : ∀ k, (lv zs k).length ≤ (allW zs k).length
  | 0 => Nat.le_refl _
  | k + 1 => by
    show _ ≤ (allW zs k ++ lv zs (k + 1)).length
    rw [List.length_append]
    omega
theorem str_app_len (a b : Str) : (a ++ b).length = a.length + b.length := by
  show (a.cps ++ b.cps).size = _
  exact Array.size_append
theorem lv_sz (zs : List Nat) : ∀ k, ∀ w ∈ lv zs k, w.length = k
  | 0, w, h => by
    rw [List.mem_singleton.mp h]
    rfl
  | k + 1, w, h => by
    obtain ⟨u, hu, hw⟩ := List.mem_flatMap.mp h
    obtain ⟨c, _, rfl⟩ := List.mem_map.mp hw
    rw [str_app_len, lv_sz zs k u hu]
    rfl
theorem acc2_map (xs : List Str) (zs : List Nat) : acc2 (fun i m => V.str (xs.getD i (Str.ofString "") ++ one (zs.getD m 0))) xs.length zs.length = (xs.flatMap fun w => zs.map fun c => w ++ one c).map V.str := by
  have inner : ∀ w : Str, (List.range zs.length).map (fun m => V.str (w ++ one (zs.getD m 0))) = (zs.map fun c => w ++ one c).map V.str := fun w => by
    refine List.ext_getElem (by simp) fun n h1 h2 => ?_
    have hn : n < zs.length := by simpa using h1
    simp [hn]
  unfold acc2
  simp only [inner]
  rw [List.map_flatMap]
  refine List.ext_getElem? fun n => ?_
  congr 1
  have : ∀ ys : List Str, (List.range ys.length).flatMap (fun i => (zs.map fun c => ys.getD i (Str.ofString "") ++ one c).map V.str) = ys.flatMap fun w => (zs.map fun c => w ++ one c).map V.str := fun ys => by
    rw [List.flatMap_def, List.flatMap_def]
    congr 1
    refine List.ext_getElem (by simp) fun n h1 h2 => ?_
    have hn : n < ys.length := by simpa using h1
    simp [hn]
  exact this xs
theorem all_mono (zs : List Nat) {a b : Nat} (h : a ≤ b) : (allW zs a).length ≤ (allW zs b).length := by
  induction b with
  | zero =>
    have : a = 0 := by omega
    rw [this]
    exact Nat.le_refl _
  | succ b ih =>
    by_cases e : a = b + 1
    · rw [e]
      exact Nat.le_refl _
    · refine Nat.le_trans (ih (by omega)) ?_
      rw [allW_succ]
      omega
theorem str_at {ss : List Str} {i : Nat} {x : V} (h : (ss.map V.str)[i]? = some x) : x = V.str (ss.getD i (Str.ofString "")) := by
  rw [List.getElem?_map] at h
  obtain ⟨c, e1, e⟩ := Option.map_eq_some_iff.mp h
  rw [← e, List.getD_eq_getElem?_getD, e1]
  rfl
theorem alph_text {x : V} (h : alphV x = true) : ∃ z, x = .str z := by
  cases x <;> first | exact ⟨_, rfl⟩ | cases h
theorem alph_six {z : Str} (h : alphV (.str z) = true) : z.cps.size ≤ 6 := by
  have h2 : ((decide (1 ≤ z.length) && decide (z.length ≤ 6)) && (z.cps.toList.all letC && rising z.cps.toList)) = true := h
  simp only [Bool.and_eq_true, decide_eq_true_eq] at h2
  exact h2.1.2
theorem between_nat {y : V} (h : between 0 60 y = true) : ∃ n : Nat, y = .int (n : Int) ∧ n ≤ 60 := by
  cases y with
  | int i =>
    have h2 : (decide ((0 : Int) ≤ i) && decide (i ≤ 60)) = true := h
    simp only [Bool.and_eq_true, decide_eq_true_eq] at h2
    exact ⟨i.toNat, by rw [Int.toNat_of_nonneg h2.1], by omega⟩
  | _ => cases h
section
variable {P : Program} {w : World} {K : PySem.W.Frag} {mg : Str → Option Value} {base : Heap} {cW cN : Addr}
def spWordsTo (K : PySem.W.Frag) (cW cN : Addr) : Sp := fun vs H Q E => ∃ x y Tx Ty, vs = [x, y] ∧ Thing K H x Tx ∧ Thing K H y Ty ∧ (∀ z, x = .str z → z.length ≤ 100000) ∧
  (alphV x = false → ∀ H' d, Ex H H' → H' d = none → E (.ref cW) (some d) (upd H' d (.xd [("why", .str "not an alphabet")]))) ∧
  (alphV x = true → between 0 60 y = false → ∀ H' d, Ex H H' → H' d = none → E (.ref cN) (some d) (upd H' d (.xd [("why", .str "not a length of words")]))) ∧
  ∀ z (n : Nat), x = .str z → alphS z = true → y = .int (n : Int) → n ≤ 60 →
    ((2000 < (allW z.cps.toList n).length → ∀ H' d, Ex H H' → H' d = none → E (.ref cN) (some d) (upd H' d (.xd [("why", .str "too many words")]))) ∧
     ((allW z.cps.toList n).length ≤ 2000 → ∀ p H', H p = none → Ex H H' → H' p = some (.lst ((allW z.cps.toList n).map V.str)) → Q (.ref p) H'))
abbrev s_words_to : Stmt := top 14
theorem sc_words_to : FnScope ["alphabet", "length", "words", "longest", "_", "word", "letter"] ["alphabet", "length"] (defScope s_words_to) := ⟨rfl, rfl, rfl, by decide +kernel, rfl, by decide +kernel, by decide +kernel⟩
theorem ok_words_to {f f_is_alphabet f_is_whole : Addr} {fd fd_is_alphabet fd_is_whole : FuncData} (F : FnP K "words_to" s_words_to f fd)
    (G_is_alphabet : FnOk P w K mg base CX0 2 f_is_alphabet fd_is_alphabet ["thing"] (spAlphabet K)) (F_is_alphabet : FnP K "is_alphabet" s_is_alphabet f_is_alphabet fd_is_alphabet) (g_is_alphabet : mg "is_alphabet" = some (.ref f_is_alphabet))
    (G_is_whole : FnOk P w K mg base CX0 2 f_is_whole fd_is_whole ["thing", "least", "most"] (spWhole K)) (F_is_whole : FnP K "is_whole" s_is_whole f_is_whole fd_is_whole) (g_is_whole : mg "is_whole" = some (.ref f_is_whole))
    (O_BadWord : OwnX P w K mg "BadWord" cW [("why" : Str)]) (O_BadNumber : OwnX P w K mg "BadNumber" cN [("why" : Str)])
    (z_range : mg "range" = none) (z_len : mg "len" = none) {tL tW : Tok} (g_LONG : mg "LONG" = some (.int 60 tL)) (g_WORDS : mg "_WORDS" = some (.int 2000 tW)) :
    FnOk P w K mg base (L2.CX P w) 3 f fd ["alphabet", "length"] (spWordsTo K cW cN) := by
  have b_is_alphabet : Binds K fd_is_alphabet ["thing"] [] := F_is_alphabet.bindsN fun _ _ _ _ _ _ us hl => match us, hl with | [_], _ => rfl
  have b_is_whole : Binds K fd_is_whole ["thing", "least", "most"] [] := F_is_whole.bindsN fun _ _ _ _ _ _ us hl => match us, hl with | [_, _, _], _ => rfl
  refine F.ok (CX := L2.CX P w) sc_words_to (fun vs H Q E h => ?_) (fun cdv A outer s H vs Q E hr h => ?_)
  · obtain ⟨x, y, Tx, Ty, rfl, _⟩ := h
    rfl
  · obtain ⟨x, y, Tx, Ty, rfl, hx, hy, hxl, qW, qN, q⟩ := h
    have hu := hu_of hr
    have hr_is_alphabet : Room 2 _ := hr
    have hr_is_whole : Room 2 _ := hr
    refine ⟨_, (pss_cons (ps_if (pt_not (pt_val (pe_call G_is_alphabet hr_is_alphabet rfl g_is_alphabet F_is_alphabet.kp b_is_alphabet .nil pass0 (pa_cons (pv 0) pa_nil)))) (pss_one (ps_raise (W := fun cls d _ H => E cls d H) rfl (takes_of rfl rfl rfl rfl) (pmk_own1 O_BadWord hr (pa_cons pe_str pa_nil) (by rfl)))) pss_nil)
      (pss_cons (ps_if (pt_not (pt_val (pe_call G_is_whole hr_is_whole rfl g_is_whole F_is_whole.kp b_is_whole .nil pass0 (pa_cons (pv 1) (pa_cons pe_int (pa_cons (pe_glob (v := .int 60) rfl g_LONG ⟨_, rfl⟩) pa_nil)))))) (pss_one (ps_raise (W := fun cls d _ H => E cls d H) rfl (takes_of rfl rfl rfl rfl) (pmk_own1 O_BadNumber hr (pa_cons pe_str pa_nil) (by rfl)))) pss_nil)
      (pss_cons (ps_set (i := 2) sc_words_to.nd rfl (Or.inl rfl) (pe_lst (pa_cons pe_str pa_nil)))
      (pss_cons (ps_set (i := 3) sc_words_to.nd rfl (Or.inl rfl) (pe_lst (pa_cons pe_str pa_nil)))
      (pss_cons (ps_for (passes_of rfl) rfl (pi_range1 rfl z_range (pa_cons (pv 1) pa_nil)) (pg_name (i := 4) sc_words_to.nd rfl (Or.inl rfl)) (pss_cons (ps_setLc2 (i := 3) (own := [("word", 5), ("letter", 6)]) (vs1 := [6]) (g := gName 5) (g1 := gName 6) (tt := tYes) (tt1 := tYes) (by rfl) sc_words_to.nd rfl rfl (sw_true rfl rfl rfl (by decide +kernel)) (pi_list (pv 3)) (blkOk_by (own := [("word", 5), ("letter", 6)]) (N := ["alphabet", "length", "words", "longest", "_", "word", "letter"]) (sc := defScope s_words_to) (by decide +kernel)) (by decide) (fun _ _ _ _ _ => pg_name (i := 5) sc_words_to.nd rfl (Or.inl rfl)) (fun _ _ _ _ _ => pts_nil) (fun _ _ _ _ _ => pi_str (pv 0)) (fun _ _ _ _ _ => pg_name (i := 6) sc_words_to.nd rfl (Or.inl rfl)) (fun _ _ _ _ _ => pts_nil) (fun _ _ _ _ _ => pe_op op_add_str (pv 5) (pv 6)))
      (pss_cons (ps_expr (pe_bm PySem.F.plainAttrs_list PySem.F.slot_list_extend PySem.F.type_list_extend mt_extend (pv 2) (pa_cons (pv 3) pa_nil)))
      (pss_one (ps_if (pt_cmpR op_gt (pe_callB call_len_seq (by rfl) z_len PySem.boot_len (pa_cons (pv 2) pa_nil)) (pe_glob (v := .int 2000) rfl g_WORDS ⟨_, rfl⟩) (nomark _)) (pss_one (ps_raise (W := fun cls d _ H => E cls d H) rfl (takes_of rfl rfl rfl rfl) (pmk_own1 O_BadNumber hr (pa_cons pe_str pa_nil) (by rfl)))) pss_nil)))))
      (pss_one (ps_ret (pv 2)))))))), ?_⟩
    have hA : Ev (tCall (spAlphabet K) [] E0 (tCons (tVar 0) tNil)) [some x, some y, none, none, none, none, none] H (.bl (alphV x)) := fun H1 e Q1 q1 => ⟨x, rfl, x, Tx, rfl, hx.ex e, hxl, fun H' e' => q1 H' e'⟩
    have hB : ∀ {G : Hp}, Ex H G → Ev (tCall (spWhole K) [] E0 (tCons (tVar 1) (tCons (tC (.int 0)) (tCons (tC (.int 60)) tNil)))) [some x, some y, none, none, none, none, none] G (.bl (between 0 60 y)) := fun {G} e0 H1 e Q1 q1 =>
      ⟨y, rfl, y, Ty, 0, 60, rfl, hy.ex (e0.trans e), q1 H1 (Ex.refl H1)⟩
    refine q_when (b := !alphV x) (et_not (et_B hA)) (fun hb H1 e1 => ⟨rfl, fun d hd => qW (by simpa using hb) H1 d e1 hd⟩) (fun hb H1 e1 => ?_)
    have ha : alphV x = true := by simpa using hb
    refine q_when (b := !between 0 60 y) (et_not (et_B (hB e1))) (fun hb H2 e2 => ⟨rfl, fun d hd => qN ha (by simpa using hb) H2 d (e1.trans e2) hd⟩) (fun hb2 H2 e2 => ?_)
    obtain ⟨z, rfl⟩ := alph_text ha
    obtain ⟨n, rfl, hn⟩ := between_nat (show between 0 60 y = true by simpa using hb2)
    have qq := q z n rfl ha rfl hn
    clear q qN qW hA hB
    have hzs : z.cps.size = z.cps.toList.length := by simp
    have hz6 : z.cps.size ≤ 6 := alph_six ha
    generalize hzz : z.cps.toList = zs at qq hzs
    refine q_asgL (el_lst (ea_cons ev_c ea_nil) (by decide)) fun W H3 hW e3 hW3 => ?_
    refine q_asgL (el_lst (ea_cons ev_c ea_nil) (by decide)) fun Lg H4 hLg e4 hLg4 => ?_
    have e14 := (e1.trans e2).trans (e3.trans e4)
    have HW : H W = none := fresh_back (e1.trans e2) hW
    have WL : W ≠ Lg := fun h => by
      rw [h] at hW3
      rw [hW3] at hLg
      cases hLg
    refine q_forR1 (n := (n : Int)) (ea_cons (ev_var rfl) ea_nil) ⟨by omega, by omega⟩ (fun k σ' H' => ∃ Lg x4, σ' = [some (.str z), some (.int (n : Int)), some (.ref W), some (.ref Lg), x4, none, none] ∧ Ex H H' ∧ W ≠ Lg ∧ H' W = some (.lst ((allW zs k).map V.str)) ∧ H' Lg = some (.lst ((lv zs k).map V.str)) ∧ (allW zs k).length ≤ 2000)
      (fun H5 e5 => ⟨Lg, none, rfl, e14.trans e5, WL, e5 _ _ (e4 _ _ hW3), e5 _ _ hLg4, (by show 1 ≤ 2000; decide)⟩) ?_ ?_
    · rintro k σ' H' hk ⟨Lg, x4, rfl, eH, WL, hWk, hLk, hall⟩
      have hlv : (lv zs k).length ≤ 2000 := Nat.le_trans (lv_le_all zs k) hall
      refine q_asgL (xs := (lv zs (k + 1)).map V.str) (el_is (el_lc2LS (K := K) (a := Lg) (xs := (lv zs k).map V.str) (z := z) (j := 5) (k := 6) (vs := [5, 6]) (vs1 := [6]) (fun i m => V.str ((lv zs k).getD i (Str.ofString "") ++ one (zs.getD m 0))) (ev_var rfl) (sq_of hLk) (by rw [List.length_map]; omega) (by omega) (fun _ => rfl) (fun _ _ => rfl) (fun _ _ _ _ _ => ev_var rfl) (fun i x m c H5 _ hx hc H6 _ Q1 q1 => ?_)) (by rw [List.length_map, hzs]; exact acc2_map _ _)) fun Lg2 G2 hn2 e5 hG2 => ?_
      · have hx2 := str_at hx
        subst hx2
        have e7 : zs.getD m 0 = c := by
          rw [← hzz, List.getD_eq_getElem?_getD, Array.getElem?_toList, hc]
          rfl
        rw [e7] at q1
        refine ⟨_, rfl, _, rfl, _, one c, rfl, rfl, ?_, q1 H6 (Ex.refl H6)⟩
        have hi : i < (lv zs k).length := by
          obtain ⟨h, _⟩ := List.getElem?_eq_some_iff.mp hx
          rwa [List.length_map] at h
        have : ((lv zs k).getD i (Str.ofString "")).length = k := lv_sz zs k _ (by
          rw [List.getD_eq_getElem?_getD, List.getElem?_eq_getElem hi]
          exact List.getElem_mem hi)
        rw [this]
        exact Nat.le_trans (show k + 1 ≤ 61 by omega) (by decide)
      · have hW5 : G2 W = some (.lst ((allW zs k).map V.str)) := e5 _ _ hWk
        have hsz : (allW zs k).length + (lv zs (k + 1)).length ≤ 14000 := by
          rw [lv_len, Nat.pow_succ, ← lv_len]
          have : (lv zs k).length * zs.length ≤ 2000 * 6 := Nat.mul_le_mul hlv (by omega)
          omega
        refine ⟨_, rfl, .inl ⟨rfl, _, SqL.of hW5⟩, _, rfl, W, Lg2, _, _, rfl, rfl, hW5, hG2, ?_, ?_⟩
        · rw [List.length_map, List.length_map]
          exact Nat.le_trans hsz (by decide)
        · have WL2 : W ≠ Lg2 := ne_of_none hWk hn2
          have e6 : Ex H (upd G2 W (.lst ((allW zs k).map V.str ++ (lv zs (k + 1)).map V.str))) := Ex.mut (eH.trans e5) HW
          have hW6 : (upd G2 W (.lst ((allW zs k).map V.str ++ (lv zs (k + 1)).map V.str))) W = some (.lst ((allW zs (k + 1)).map V.str)) := by
            rw [upd_same, ← List.map_append]
            rfl
          have hL6 : (upd G2 W (.lst ((allW zs k).map V.str ++ (lv zs (k + 1)).map V.str))) Lg2 = some (.lst ((lv zs (k + 1)).map V.str)) := by
            rw [upd_ne (Ne.symm WL2)]
            exact hG2
          generalize hG6 : (upd G2 W (.lst ((allW zs k).map V.str ++ (lv zs (k + 1)).map V.str))) = G6 at e6 hW6 hL6 ⊢
          dsimp only
          refine s_when (b := decide (2000 < (allW zs (k + 1)).length)) (fun H5 e7 Q1 q1 => ?_) (fun hb H5 e7 => ?_) (fun hb H5 e7 => ?_)
          · refine ⟨_, rfl, W, _, rfl, .inl (SqL.of (e7 _ _ hW6)), _, _, rfl, rfl, _, rfl, ?_⟩
            have := q1 H5 (Ex.refl H5)
            rw [← int_lt] at this
            rw [List.length_map]
            exact this
          · refine ⟨rfl, fun d hd => qq.1 (Nat.lt_of_lt_of_le (of_decide_eq_true hb) (all_mono zs (by omega))) H5 d (e6.trans e7) hd⟩
          · have := of_decide_eq_false hb
            exact ⟨Lg2, _, rfl, e6.trans e7, WL2, e7 _ _ hW6, e7 _ _ hL6, by omega⟩
    · rintro σ' H' ⟨Lg, x4, rfl, eH, WL, hWk, hLk, hall⟩
      rw [Int.toNat_natCast] at hWk hall
      exact s_ret (ev_var rfl) fun H5 e5 => qq.2 hall W H5 HW (eH.trans e5) (e5 _ _ hWk)
end
end D1
end
section
set_option Elab.async false
set_option linter.all false
set_option maxRecDepth 100000
set_option maxHeartbeats 4000000
/-! M1: the words in order (mathematics) -/
namespace D1
open PySem L2
theorem lex_app {a b : List Nat} (x y : List Nat) (h : a < b) (hl : a.length = b.length) : a ++ x < b ++ y := by
  have h1 : List.Lex (· < ·) a b := h
  show List.Lex (· < ·) (a ++ x) (b ++ y)
  clear h
  induction h1 with
  | nil => simp at hl
  | rel r => exact .rel r
  | cons _ ih =>
    have hl2 := hl
    simp only [List.length_cons, Nat.add_right_cancel_iff] at hl2
    exact .cons (ih hl2)
theorem lex_left {x y : List Nat} (h : x < y) : ∀ a : List Nat, a ++ x < a ++ y
  | [] => h
  | c :: r => (show List.Lex (· < ·) (c :: (r ++ x)) (c :: (r ++ y)) from .cons (lex_left h r))
theorem app_toList (a b : Str) : (a ++ b).cps.toList = a.cps.toList ++ b.cps.toList := by
  show (a.cps ++ b.cps).toList = _
  exact Array.toList_append
theorem len_toList (a : Str) : a.cps.toList.length = a.length := by
  show _ = a.cps.size
  simp
def Ahead (a b : Str) : Prop := aheadB a b = true
theorem ahead_len {a b : Str} (h : a.length < b.length) : Ahead a b := by
  unfold Ahead aheadB
  rw [decide_eq_true h]
  rfl
theorem ahead_lex {a b : Str} (hl : a.length = b.length) (h : a.cps.toList < b.cps.toList) : Ahead a b := by
  unfold Ahead aheadB
  rw [decide_eq_true hl, decide_eq_true h]
  simp
theorem lv_pair {zs : List Nat} (hz : zs.Pairwise (· < ·)) : ∀ k, (lv zs k).Pairwise fun a b => a.cps.toList < b.cps.toList
  | 0 => List.pairwise_singleton _ _
  | k + 1 => by
    have ih := lv_pair hz k
    show ((lv zs k).flatMap fun w => zs.map fun c => w ++ one c).Pairwise _
    rw [List.pairwise_flatMap]
    refine ⟨fun w hw => ?_, ?_⟩
    · rw [List.pairwise_map]
      refine hz.imp fun {c d} h => ?_
      rw [app_toList, app_toList]
      exact lex_left (show List.Lex (· < ·) [c] [d] from .rel h) _
    · refine (List.pairwise_iff_getElem.mpr fun i j hi hj hij => ?_)
      intro x hx y hy
      obtain ⟨c, _, rfl⟩ := List.mem_map.mp hx
      obtain ⟨d, _, rfl⟩ := List.mem_map.mp hy
      rw [app_toList, app_toList]
      refine lex_app _ _ (List.pairwise_iff_getElem.mp ih i j hi hj hij) ?_
      rw [len_toList, len_toList, lv_sz zs k _ (List.getElem_mem hi), lv_sz zs k _ (List.getElem_mem hj)]
theorem all_sz (zs : List Nat) : ∀ k, ∀ w ∈ allW zs k, w.length ≤ k
  | 0, w, h => by
    rw [List.mem_singleton.mp h]
    exact Nat.le_refl _
  | k + 1, w, h => by
    rcases List.mem_append.mp h with h | h
    · exact Nat.le_succ_of_le (all_sz zs k w h)
    · exact Nat.le_of_eq (lv_sz zs (k + 1) w h)
theorem all_pair {zs : List Nat} (hz : zs.Pairwise (· < ·)) : ∀ k, (allW zs k).Pairwise Ahead
  | 0 => List.pairwise_singleton _ _
  | k + 1 => by
    show (allW zs k ++ lv zs (k + 1)).Pairwise _
    rw [List.pairwise_append]
    refine ⟨all_pair hz k, ?_, fun a ha b hb => ?_⟩
    · refine List.pairwise_iff_getElem.mpr fun i j hi hj hij => ?_
      refine ahead_lex ?_ (List.pairwise_iff_getElem.mp (lv_pair hz (k + 1)) i j hi hj hij)
      rw [lv_sz zs (k + 1) _ (List.getElem_mem hi), lv_sz zs (k + 1) _ (List.getElem_mem hj)]
    · refine ahead_len ?_
      have := all_sz zs k a ha
      have := lv_sz zs (k + 1) b hb
      omega
theorem lv_signs (zs : List Nat) : ∀ k, ∀ w ∈ lv zs k, ∀ c ∈ w.cps.toList, c ∈ zs
  | 0, w, h, c, hc => by
    rw [List.mem_singleton.mp h] at hc
    cases hc
  | k + 1, w, h, c, hc => by
    obtain ⟨u, hu, hw⟩ := List.mem_flatMap.mp h
    obtain ⟨d, hd, rfl⟩ := List.mem_map.mp hw
    rw [app_toList] at hc
    rcases List.mem_append.mp hc with h1 | h1
    · exact lv_signs zs k u hu c h1
    · have : c = d := by
        have h2 : c ∈ [d] := h1
        exact List.mem_singleton.mp h2
      rw [this]
      exact hd
theorem all_signs_in (zs : List Nat) : ∀ k, ∀ w ∈ allW zs k, ∀ c ∈ w.cps.toList, c ∈ zs
  | 0, w, h, c, hc => lv_signs zs 0 w h c hc
  | k + 1, w, h, c, hc => by
    rcases List.mem_append.mp h with h | h
    · exact all_signs_in zs k w h c hc
    · exact lv_signs zs (k + 1) w h c hc
/-- as many as the law's own count -/
theorem many_all (zs : List Nat) : ∀ k, ((allW zs k).length ≤ 2000 → manyS zs.length k = ((allW zs k).length, zs.length ^ k)) ∧ (2000 < (allW zs k).length → 2000 < (manyS zs.length k).1)
  | 0 => ⟨fun _ => rfl, fun h => absurd h (by show ¬2000 < 1; decide)⟩
  | k + 1 => by
    obtain ⟨i1, i2⟩ := many_all zs k
    have es : (allW zs (k + 1)).length = (allW zs k).length + zs.length ^ k * zs.length := by rw [allW_succ, Nat.pow_succ]
    by_cases h : (allW zs k).length ≤ 2000
    · have e := i1 h
      have e2 : manyS zs.length (k + 1) = ((allW zs k).length + zs.length ^ k * zs.length, zs.length ^ k * zs.length) := by
        show (if (manyS zs.length k).1 ≤ 2000 then _ else _) = _
        rw [e, if_pos h]
      rw [e2, ← es]
      exact ⟨fun _ => by rw [Nat.pow_succ], fun z => z⟩
    · have hm := i2 (by omega)
      have e2 : manyS zs.length (k + 1) = manyS zs.length k := if_neg (by omega)
      rw [e2]
      exact ⟨fun z => by omega, fun _ => hm⟩
theorem rising_pair {l : List Nat} (h : rising l = true) : l.Pairwise (· < ·) := by
  have adj : ∀ i (h1 : i + 1 < l.length), l[i] < l[i + 1] := fun i h1 => by
    have := List.all_eq_true.mp h i (List.mem_range.mpr (by omega))
    rw [List.getD_eq_getElem?_getD, List.getD_eq_getElem?_getD, List.getElem?_eq_getElem (by omega), List.getElem?_eq_getElem h1] at this
    exact of_decide_eq_true this
  refine List.pairwise_iff_getElem.mpr fun i j hi hj hij => ?_
  obtain ⟨d, rfl⟩ : ∃ d, j = i + 1 + d := ⟨j - (i + 1), by omega⟩
  induction d with
  | zero => exact adj i hj
  | succ d ih => exact Nat.lt_trans (ih (by omega) (by omega)) (adj (i + 1 + d) hj)
end D1
end
section
set_option Elab.async false
set_option linter.all false
set_option maxRecDepth 100000
set_option maxHeartbeats 4000000
/-! S1: defs whose code object is known; except (A, B, C) as n -/
namespace L2
open PySem PySem.Spec PyProof.Rows PySem.VX
section
variable {P : Program} {w : World} {K : PySem.W.Frag} {mg : Str → Option Value} {base : Heap} {x qual : Str} {params : Arguments} {body : List Stmt} {scope : Scope} {dvs : List V} {kws : List (Str × V)} {f : Addr} {fd : FuncData}
theorem FunD.okC {CX : CXT} {N ps : List Str} {k : Nat} {sp : Sp} (F : FunD K x qual params body scope dvs kws f fd) (S : FnScope N ps scope) (len : ∀ vs H Q E, sp vs H Q E → vs.length = ps.length)
    (hbody : ∀ (cdv : Value) (A : Around) (outer : List Env) (s : Shared) (H : Hp) (vs : List V) (Q : VK) (E : XK), fd.code = cdv → Room k (A.deeper (envOfC qual scope s.heap.objs.size f cdv)) → sp vs H Q E →
      ∃ t, PSs (cxOf CX P w K mg base N qual scope f cdv A outer s H E) body t ∧ t { nx := fun _ H' => Q .non H', rt := Q } (start N vs) H) : FnOk P w K mg base CX (k + 1) f fd ps sp := by
  obtain ⟨oc, od, dV, kV, doc, pm, an, cdv, ct, osl, rfl, lk, hcd, _, _⟩ := F.ex
  exact fn_of lk hcd S len fun A outer s H vs Q E hr hsp => hbody cdv A outer s H vs Q E rfl hr hsp
theorem FunD.toFun {st : Stmt} (F : FunD K x qual (defArgs st) (defBody st) (defScope st) [] [] f fd) : Fun K x qual st f fd := by
  obtain ⟨oc, od, dV, kV, doc, pm, an, cdv, ct, osl, e, lk, hcd, hD, _⟩ := F.ex
  rcases hD with ⟨_, rfl⟩ | ⟨hn, _⟩
  · exact ⟨⟨oc, od, kV, doc, pm, an, cdv, ct, osl, e, lk, hcd⟩, F.kp⟩
  · exact absurd rfl hn
end
theorem FlyZ.keeps {base h h' : Heap} {l : List Env} {e : Addr} {Z : Obj → Prop} (fl : HandSPX.FlyingZ base l e Z h) (k : ∀ b o, h.get? b = some o → h'.get? b = some o) : HandSPX.FlyingZ base l e Z h' := by
  obtain ⟨f1, f2, f3, oe, vs, T, oT, ts, he, hz, hd, h1, hnT, hTe, hT, hdT, h3⟩ := fl
  exact ⟨fun b o q => k b o (f1 b o q), f2, f3.of_keeps fun b o q _ => ⟨o, k b o q, rfl⟩, oe, vs, T, oT, ts, k _ _ he, hz, hd, h1, hnT, hTe, k _ _ hT, hdT, h3⟩
section
variable {X : Cx} {n x1 x2 x3 : Str} {c1 c2 c3 : Value} {i : Nat} {body suite : List Stmt} {b₀ : Stmt} {pos pos' tp p1 p2 p3 : Pos} {k0 : Nat} {tb : WX → TS} {Wout : WX} {ts : Addr → Value → Option Addr → TS}
def wTup3 (K : PySem.W.Frag) (cs : List Value) (i : Nat) (Wout : WX) (D : Ends) (ts : Addr → Value → Option Addr → TS) : WX := fun cls d σ H => ∃ b, PySem.W.exmAny K cls cs = some b ∧
  (b = true → ∃ C d', cls = .ref C ∧ d = some d' ∧ ∀ a, H a = none → ts a cls d { nx := fun σ' H' => D.nx (σ'.set i none) (upd H' a (exV a C d')), rt := fun v H' => D.rt v H', bk := fun σ' H' => D.bk (σ'.set i none) H', ct := fun σ' H' => D.ct (σ'.set i none) H' } (σ.set i (some (.ref a))) H) ∧
  (b = false → Wout cls d σ H)
theorem ps_try_tup3V (hs : X.stack = X.env :: X.outer) (hf : X.env.frame = some X.env.locals) (hex : X.ex = []) (hN : X.N.Nodup) (hi : X.N[i]? = some n) (hln : X.env.kindOf n = some .local) (tk : Takes X Wout)
    (hb : ∀ (W : WX) (pn : List (Addr × Obj)) (xe : Value → Shared → Prop), Takes (X.tr pn xe) W → PassesOwn (model X.prog X.w) X.A X.env xe → PSs (X.tr pn xe) body (tb W))
    (hc1 : Names X x1 c1) (hc2 : Names X x2 c2) (hc3 : Names X x3 c3)
    (hsu : ∀ (a : Addr) (oe : Obj) (cls : Value) (d : Option Addr) (pn : List (Addr × Obj)), Zc cls d oe → (∃ vs, oe.data = .fields vs) → PSs (X.suite a ((a, oe) :: pn)) (b₀ :: suite) (ts a cls d)) :
    PS X (.Try body [.ExceptHandler (some (.Tuple [.Name x1 p1, .Name x2 p2, .Name x3 p3] k0 tp)) (some n) (b₀ :: suite) pos'] [] [] pos) (fun D σ H => tb (wTup3 X.K [c1, c2, c3] i Wout D ts) D σ H) := by
  refine ⟨fun pins s σ H D I h => ?_⟩
  have ok := I.ok
  have frm : X.A.frames = some (X.env :: X.outer) := ok.frames.trans (congrArg some hs)
  have hloc : Loc X.env.scope n := .inl hln
  refine wpAny_Try_except ?_
  refine wpAny_mono ((hb (wTup3 X.K [c1, c2, c3] i Wout D ts) (X.pn ++ pins) (fun e s₁ => wpAny (model X.prog X.w) X.A (noteFrame e X.env) (fun _ s₂ => wpAny (model X.prog X.w) X.A (setFlight e none) (fun _ s₃ =>
    wpAny (model X.prog X.w) X.A (handleBy e X.env [.ExceptHandler (some (.Tuple [.Name x1 p1, .Name x2 p2, .Name x3 p3] k0 tp)) (some n) (b₀ :: suite) pos']) (SP X pins D) X.xe s₃) X.xe s₂) X.xe s₁) (fun u s' xx => ?_) PassesOwn.looking).run [] s σ H D (I.toTry _) h) (fun f s1 hsp => ?_) (fun _ _ he => he)
  · obtain ⟨a, B, sI, pins', σ', H', cls, d, rfl, J', nb, up, sky, na, os, ag, w⟩ := xx
    have J : Inv X pins σ' H' sI := J'.ofTry ok
    have sky' : Sky B (X.env :: X.outer) a (Zc cls d) X.env.locals s'.heap := by rw [← hs]; exact sky
    show wpAny (model X.prog X.w) X.A (noteFrame (.ref a) X.env) _ _ _
    refine Sky.land Zc.steady frm hf sky' fun h3 fl3 up3 => ?_
    have J3 : Inv X pins σ' H' { s' with heap := h3 } := J.landed nb fl3.1 (up.trans up3) os ag
    obtain ⟨oe3, vs3, he3, hz3, hd3⟩ := fl3.there
    have noFrame : a ∉ frs (X.env :: X.outer) := fun hm => by
      obtain ⟨_, o', e', hnf⟩ := fl3.2.2.1.mem hm
      rw [he3] at e'
      cases e'
      exact hnf _ hd3
    have noStack : a ∉ frs X.stack := by rw [hs]; exact noFrame
    have nL : a ≠ X.env.locals := fun z => noFrame (List.mem_filterMap.mpr ⟨X.env, List.mem_cons_self, by rw [hf, z]⟩)
    have nF : a ∉ X.fs := fun hm => by
      obtain ⟨e, he, q⟩ := List.mem_filterMap.mp hm
      exact noFrame (List.mem_filterMap.mpr ⟨e, List.mem_cons_of_mem _ he, q⟩)
    have nB : B.get? a = none := fl3.2.1
    have nI : sI.heap.get? a = none := by
      cases e : sI.heap.get? a with
      | none => rfl
      | some o =>
        have z := nb a o e noStack
        rw [nB] at z
        cases z
    have n0 : X.s_0.heap.get? a = none := by
      cases e : X.s_0.heap.get? a with
      | none => rfl
      | some o =>
        obtain ⟨o', z⟩ := J.base.there a o e (by rw [hex]; exact fun z => nomatch z)
        rw [nI] at z
        cases z
    have np : ∀ p ∈ X.pn ++ pins, p.1 ≠ a := fun p hp z => by
      have q := (J.pin p hp).1
      rw [z, nI] at q
      cases q
    have S3 := J3.suite he3 hd3 na nL nF
    obtain ⟨b, hb1, hyes, hno⟩ := w
    refine wpAny_handleBy_cons (codeAny_handlers_test ?_) (by intro q; cases q)
    have test : ∀ {x : Str} {c : Value} {np' : Pos} {Q : Value → Shared → Prop} {E : Value → Shared → Prop}, Names X x c → Q c { s' with heap := h3 } → wpAny (model X.prog X.w) (X.A.mark (some (.ref a))) (eval (.Name x np') X.env) Q E { s' with heap := h3 } := fun {x c np' Q E} hc q => by
      obtain ⟨hg, hdbg, hm | ⟨hm, hv, hnn⟩⟩ := hc
      · exact ld_glob (X := X.suite a ((a, oe3) :: (X.pn ++ pins))) S3 hg hm q hdbg
      · exact ld_blt (X := X.suite a ((a, oe3) :: (X.pn ++ pins))) S3 hg hm hv q hnn hdbg
    refine wpAny_Tuple_spliced ?_
    show wpAny _ _ (spliced [(false, eval (.Name x1 p1) X.env), (false, eval (.Name x2 p2) X.env), (false, eval (.Name x3 p3) X.env)]) _ _ _
    refine Calls.spliced_cons (test hc1 (Calls.spliced_cons (test hc2 (Calls.spliced_cons (test hc3 (Calls.spliced_nil ⟨(by show 3 ≤ sizeLine; decide), ?_⟩))))))
    have kp : ∀ b o, h3.get? b = some o → (h3.push { cls := .type "tuple", data := .seq [c1, c2, c3].toArray }).get? b = some o := fun b o e => Heap.get?_push_of_some _ e
    have ht : (h3.push { cls := .type "tuple", data := .seq [c1, c2, c3].toArray }).get? h3.objs.size = some { cls := .type "tuple", data := .seq [c1, c2, c3].toArray } := Heap.get?_push_size _ rfl
    have flT := FlyZ.keeps fl3 kp
    have upT : h3.UpToSlots (h3.push { cls := .type "tuple", data := .seq [c1, c2, c3].toArray }) := Heap.UpToSlots.of_keeps kp
    have heT := kp _ _ he3
    have KT : X.K.In (h3.push { cls := .type "tuple", data := .seq [c1, c2, c3].toArray }) := (J3.kIn).keeps kp
    show wpAny (model X.prog X.w) (X.A.mark (some (.ref a))) (excMatches (.ref a) (.ref h3.objs.size)) _ _ { s' with heap := h3.push { cls := .type "tuple", data := .seq [c1, c2, c3].toArray } }
    generalize (h3.push { cls := .type "tuple", data := .seq [c1, c2, c3].toArray }) = hT at ht flT upT heT KT ⊢
    have LT : PySem.W.Looks (model X.prog X.w) hT (typeOf (.ref a)) cls := fun A Q E s k q => wpAny_typeOf_ref (k _ _ heT) (by rw [hz3.1]; exact q)
    have LM := PySem.W.exm_tup3 (M := model X.prog X.w) KT LT ht hb1
    refine LM.here ?_
    cases b with
    | true =>
      obtain ⟨C, d', rfl, rfl, hyes'⟩ := hyes rfl
      refine codeAny_handlers_suite_as ?_
      refine HandSPX.lands_againZ flT fun h4 fl4 up4 => ?_
      have J4 : Inv X pins σ' H' { s' with heap := h4 } := J.landed nb fl4.1 (((up.trans up3).trans upT).trans up4) os ag
      obtain ⟨oe4, vs4, he4, hz4, hd4⟩ := fl4.there
      have S4 := J4.suite he4 hd4 na nL nF
      refine store_ok (X := X.suite a ((a, oe4) :: (X.pn ++ pins))) (v := .ref a) S4 hN hi hloc rfl (fun s5 S5 => ?_) (.inr hln)
      refine wpAny_mono ((hsu a oe4 (.ref C) (some d') (X.pn ++ pins) hz4 ⟨_, hd4⟩).run [] s5 _ H' _ S5 (hyes' a na)) (fun f s6 hsp => ?_) (fun _ _ z => False.elim z)
      have plain : ∀ {τ : St} {G : Hp} {Q : Shared → Prop}, Inv (X.suite a ((a, oe4) :: (X.pn ++ pins))) [] τ G s6 → (∀ s7, Inv X pins (τ.set i none) G s7 → Q s7) →
          wpAny (model X.prog X.w) X.A (do bindName X.env n .none; unbindBehindTheSuite X.env n pos') (fun _ s7 => Q s7) X.xe s6 := fun {τ G Q} S6 hq => gone_ok (S6.unsuite ok) hN hi hln hq
      cases f with
      | next =>
        obtain ⟨τ, G, S6, q6⟩ := hsp
        obtain ⟨hoa, hna, _⟩ := S6.pin (a, oe4) (List.mem_append_left _ List.mem_cons_self)
        have T6 : Inv X pins τ (upd G a (exV a C d')) s6 := (S6.unsuite ok).track hoa hz4.1 hz4.2 hd4 hna n0 nL np
        exact gone_ok T6 hN hi hln fun s7 J7 => ⟨_, _, J7, q6⟩
      | brk =>
        obtain ⟨τ, G, S6, q6⟩ := hsp
        exact plain S6 fun s7 J7 => ⟨_, _, J7, q6⟩
      | cont =>
        obtain ⟨τ, G, S6, q6⟩ := hsp
        exact plain S6 fun s7 J7 => ⟨_, _, J7, q6⟩
      | ret u =>
        obtain ⟨v6, τ, G, S6, r6, q6⟩ := hsp
        exact plain S6 fun s7 J7 => ⟨_, _, _, J7, r6, q6⟩
    | false =>
      show wpAny _ X.A (handleBy (.ref a) X.env []) _ _ _
      refine wpAny_handleBy_nil ?_
      have JT : Inv X pins σ' H' { s' with heap := hT } := J.landed nb flT.1 ((up.trans up3).trans upT) os ag
      obtain ⟨k1, k2, k3, oe, vs, T, oT, ts', he, hz, hd, h1, hr⟩ := id flT
      unfold PySem.passOn
      refine wpAny_bind (wpAny_field he hd h1 ?_)
      rw [if_neg (show ¬ ((Value.ref T == Value.none) = true) from by simp)]
      have away : wpAny (model X.prog X.w) X.A (setFlight (.ref a) X.env.frame) (fun _ s4 => wpAny (model X.prog X.w) X.A (throw (.ref a) : Sem Flow) (SP X pins D) X.xe s4) X.xe { s' with heap := hT } := by
        rw [hf]
        refine HandSPX.setFlight_upZ flT fun h4 hh4 up4 => wpAny_throw (tk _ _ ?_)
        exact ⟨a, B, sI, pins, σ', H', cls, d, rfl, J, nb, ((up.trans up3).trans upT).trans up4, .inr (.inr (by rw [hs]; exact hh4)), na, os, ag, hno rfl⟩
      first
        | exact wpAny_bind (wpAny_pure (wpAny_bind away))
        | exact wpAny_bind away
  · cases f with
    | next =>
      obtain ⟨τ, G, J', q⟩ := hsp
      exact wpAny_execs_nil ⟨τ, G, J'.ofTry ok, q⟩
    | brk =>
      obtain ⟨τ, G, J', q⟩ := hsp
      exact ⟨τ, G, J'.ofTry ok, q⟩
    | cont =>
      obtain ⟨τ, G, J', q⟩ := hsp
      exact ⟨τ, G, J'.ofTry ok, q⟩
    | ret u =>
      obtain ⟨v, τ, G, J', r, q⟩ := hsp
      exact ⟨v, τ, G, J'.ofTry ok, r, q⟩
end
end L2
end
section
set_option Elab.async false
set_option linter.all false
set_option maxRecDepth 100000
set_option maxHeartbeats 4000000
/-! S2: sorted(words, key=lambda word: (len(word), word)) -/
namespace D1
open PySem PySem.Spec PyProof.Rows L2 LamX Evl
def keyd (z : Str) : PyData := .tuple [.int (z.length : Int), .str z]
theorem keyd_lt (a b : Str) : PySem.W.dataLt (keyd a) (keyd b) = aheadB a b := by
  unfold keyd aheadB
  rw [PySem.W.dataLt_pair (by simp [PySem.W.alike]) (by simp [PySem.W.alike]), PySem.W.dataLt_int, PySem.W.dataLt_str]
  simp only [PyData.eqv, beq_iff_eq]
  by_cases h1 : a.length = b.length
  · rw [if_pos (by omega), decide_eq_false (by omega : ¬ a.length < b.length), decide_eq_true h1]
    by_cases h2 : a = b
    · rw [if_pos h2, h2]
      have : ¬ b.cps.toList < b.cps.toList := List.lt_irrefl _
      rw [decide_eq_false this]
      rfl
    · rw [if_neg h2]
      simp
  · rw [if_neg (by omega), decide_eq_false h1]
    have e : decide ((a.length : Int) < (b.length : Int)) = decide (a.length < b.length) := int_lt _ _
    rw [e]
    simp
theorem sorted_ok (zs : List Str) : (zs.mergeSort (PySem.W.dataLe false keyd)).Perm zs ∧ (zs.mergeSort (PySem.W.dataLe false keyd)).Pairwise fun a b => aheadB b a = false := by
  refine ⟨List.mergeSort_perm _ _, (PySem.W.sort_pairwise (PySem.W.sortLe_total _ _ _) zs).imp fun {a b} h => ?_⟩
  have h2 : (!PySem.W.dataLt (keyd b) (keyd a)) = true := h
  rw [keyd_lt] at h2
  simpa using h2
theorem each_strs : ∀ {zs : List Str} {us : List Value}, Vals (zs.map V.str) us → PySem.W.EachIs (fun (v : Value) (z : Str) => ∃ t, v = Value.str z t) us zs
  | [], us, r => by
    rw [Vals.zero r]
    exact .nil
  | z :: zs, us, r => by
    cases r with
    | cons r1 r2 =>
      obtain ⟨t, e⟩ := r1
      exact .cons ⟨t, e⟩ (each_strs r2)
theorem strs_each : ∀ {us : List Value} {zs : List Str}, PySem.W.EachIs (fun (v : Value) (z : Str) => ∃ t, v = Value.str z t) us zs → Vals (zs.map V.str) us
  | _, _, .nil => .nil
  | _, _, .cons ⟨t, e⟩ r => .cons ⟨t, e⟩ (strs_each r)
section
variable {prog : Program} {w : World} {A : Around} {s : Shared} {mg mb : Str → Option Value}
/-- the lambda word: (len(word), word), called -/
theorem key_run {f c' : Addr} {qual : Str} {params : Arguments} {scope : Scope} {cl : List (Str × Addr)} {pm ctv : Value} {q1 q2 q3 q4 q5 : Pos} {k0 : Nat} {z : Str} {t : Tok}
    (hf : s.heap.get? f = some (PySem.W.kla_obj "<lambda>" qual params (.Tuple [.Call (.Name "len" q1) [.Name "word" q2] [] q3, .Name "word" q4] k0 q5) scope cl pm c' ctv)) (hcd : s.heap.CodeRec (.ref c') qual)
    (hk : scope.kind = .function) (hco : scope.isCoroutine = false) (hgen : scope.isGenerator = false) (hcell : ∀ y ∈ scope.names, y.2 ≠ .cell) (hw : scope.names.lookup ("word" : Str) = some .local) (hlen : scope.names.lookup ("len" : Str) = some .globalImplicit)
    (hbind : ∀ v : Value, bindArgs (PySem.W.kla_fn "<lambda>" qual params (.Tuple [.Call (.Name "len" q1) [.Name "word" q2] [] q3, .Name "word" q4] k0 q5) scope cl pm (.ref c') ctv) ⟨[v], []⟩ = pure [(("word" : Str), v)])
    (lim : s.heap.NoLimit) (hg : s.heap.Ns mainGlobals mg) (hb : s.heap.Ns builtinsNs mb) (hbb : ∀ x : Str, x ≠ "__name__" → mb x = bootBuiltins x) (z_len : mg "len" = none) (hroom : A.depth < recursionLimit) (hz : z.length ≤ 100000) :
    wpAny (model prog w) A (call (.ref f) [.str z t]) (PySem.W.KeyPure (keyd z) s) (fun _ _ => False) s := by
  refine wpAny_call (PySem.W.kla_callFunE hroom hf rfl hco hgen rfl hcd ?_)
  rw [hbind]
  refine wpAny_pure (wpAny_newFunctionEnv hcell (fun y hy => ?_) (fun h₁ hns hsb => ⟨lim.fresh _ hsb, ?_⟩) hk)
  · rw [List.mem_singleton.mp hy]
    exact hw
  · have kp : ∀ b o, s.heap.get? b = some o → h₁.get? b = some o := fun b o e => hsb.extBut b o (Nat.ne_of_lt (Heap.lt_size e)) (Heap.get?_push_of_some _ e)
    have hg1 := hg.keeps kp
    have hb1 := hb.keeps kp
    refine PySem.W.kla_codeExpr (wpAny_mono (E := fun _ _ => False) (Q := fun v s' => PySem.W.KeyPure (keyd z) s v s') ?_ (fun v s' hq => hq) fun _ _ z => False.elim z)
    refine wpAny_Tuple_spliced ?_
    refine Calls.spliced_cons (wpAny_Call_Name_kw (Calls.Name_function_global hk hlen (Calls.loadGlobal_builtin hg1 z_len hb1 ((hbb "len" (by decide)).trans PySem.boot_len) ?_)))
    have word : ∀ {h : Heap} {tk : Nat} {p : Pos} {Q : Value → Shared → Prop} {E : Value → Shared → Prop} {A' : Around} {env : Env}, env.scope = scope → env.locals = s.heap.objs.size → h.Ns s.heap.objs.size (fun x => [(("word" : Str), Value.str z t)].reverse.lookup x) → Q (.str z t) { s with heap := h, toks := tk } →
        wpAny (model prog w) A' (eval (.Name "word" p) env) Q E { s with heap := h, toks := tk } := fun {h tk p Q E A' env} e1 e2 hn q => by
      refine wpAny_Name (wpAny_loadName_local (by rw [e1]; exact hk) (show env.scope.names.lookup ("word" : Str) = some .local by rw [e1]; exact hw) (by rw [e2]; exact hn) (by rfl) q)
    refine PyProof.Rows.callWith_builtin1 (Calls.spliced_cons (word rfl rfl hns (Calls.spliced_nil ?_))) rfl rfl
    refine PyProof.Rows.len_str (by omega) ?_
    refine Calls.spliced_cons (word rfl rfl hns (Calls.spliced_nil ⟨(by show 2 ≤ sizeLine; decide), ?_⟩))
    refine ⟨_, _, rfl, fun b o e => Heap.get?_push_of_some _ (kp b o e), ?_⟩
    refine Reads.tuple (as := []) (Heap.get?_push_size _ rfl) rfl rfl ?_
    exact ReadsAll.cons (as := []) (bs := []) (.int _ _) (.cons (as := []) (bs := []) (.str _ _) .nil)
end
/-- told there is at most a table -/
def Free (H : Hp) (p : Addr) : Prop := ∀ o, H p = some o → ¬ ∀ ps, o ≠ .tbl ps
/-- sorted(words, key=lambda word: (len(word), word)) -/
def tSortL (K : PySem.W.Frag) (T : List (Addr × Str)) (i : Nat) : TE := fun σ H Q => ∃ (a : Addr) (zs : List Str), σ[i]? = some (some (.ref a)) ∧ SqL K H a (zs.map V.str) ∧ zs.length ≤ 4000 ∧ (∀ z ∈ zs, z.length ≤ 100000) ∧ Tabs T H ∧
  ∀ (ys : List Str) (p : Addr) (H' : Hp), ys.Perm zs → (ys.Pairwise fun a b => aheadB b a = false) → ExtN H H' → Tabs T H' → Free H p → H' p = some (.lst (ys.map V.str)) → Q (.ref p) H'
section
variable {X : Cx}
theorem pe_sortlam {T : List (Addr × Str)} {c P : Addr} {i : Nat} {x : Str} {params : Arguments} {scope : Scope} {p pw lpos kpos pos q1 q2 q3 q4 q5 : Pos} {k0 : Nat}
    (hN : X.N[i]? = some x) (hv : Vis X.env.scope x) (hdx : (x == ("__debug__" : Str)) = false) (hcx : (x == ("__classdict__" : Str)) = false)
    (hg : Gl X "sorted") (hm : X.mg "sorted" = none) (z_len : X.mg "len" = none)
    (TB : TabB X.base X.mg c P) (hcode : X.env.code = .ref c) (hmT : (P, X.env.qual ++ "<lambda>") ∈ T) (hu : ∀ p ∈ T, p.1 = P → p.2 = X.env.qual ++ "<lambda>") (hr : Room 1 X.A)
    (hk : scope.kind = .function) (hco : scope.isCoroutine = false) (hgen : scope.isGenerator = false) (hcell : ∀ y ∈ scope.names, y.2 ≠ .cell) (hfree : ∀ y ∈ scope.names, y.2 ≠ .free) (hw : scope.names.lookup ("word" : Str) = some .local) (hlen : scope.names.lookup ("len" : Str) = some .globalImplicit)
    (hdef : defaultsOf params X.env = ([], []))
    (hbind : ∀ (q : Str) (cl : List (Str × Addr)) (pm cv ctv v : Value), bindArgs (PySem.W.kla_fn "<lambda>" q params (.Tuple [.Call (.Name "len" q1) [.Name "word" q2] [] q3, .Name "word" q4] k0 q5) scope cl pm cv ctv) ⟨[v], []⟩ = pure [(("word" : Str), v)]) :
    PE X (.Call (.Name "sorted" p) [.Name x pw] [⟨some "key", .Lambda params (.Tuple [.Call (.Name "len" q1) [.Name "word" q2] [] q3, .Name "word" q4] k0 q5) scope lpos, kpos⟩] pos) (tSortL X.K T i) := by
  refine ⟨fun pins s σ H Q I h => ?_⟩
  obtain ⟨a, zs, hi, hS, hl, hzs, hT, h⟩ := h
  refine wpAny_Call_Name_kw (ld_blt I hg hm PyProof.Rows.boot_sorted ?_ (by decide) (by decide))
  refine PyProof.Rows.callWith_kw (Calls.spliced_cons (thn ((pe_var (pos := pw) (i := i) hN hv hdx hcx).run pins s σ H (fun v H1 => v = .ref a ∧ H1 = H) I ⟨.ref a, hi, rfl, rfl⟩) fun u s1 ⟨v, H1, I1, r1, q1⟩ => ?_))
  obtain ⟨rfl, rfl⟩ := q1
  obtain rfl : u = Value.ref a := r1
  refine Calls.spliced_nil ?_
  refine wpAny_evalAll_cons (wpAny_bind (lam_make2 I1 TB hcode hmT hu hT hdef (fun y hy e => absurd e (hfree y hy)) fun f c' pm ctv H2 s' I2 eN T2 hf hfn hfr hco' => wpAny_bind (wpAny_standAt (wpAny_pure (wpAny_evalAll_nil ?_)))))
  show wpAny _ _ (call (.builtin "sorted") [.ref a] [(Str.ofString "key", .ref f)]) _ _ _
  have hS2 : SqL X.K H2 a (zs.map V.str) := by
    rcases hS with (e | ⟨o, e⟩) | e
    · exact .inl (.inl (eN _ _ e fun ps z => by cases z))
    · exact .inl (.inr ⟨o, eN _ _ e fun ps z => by cases z⟩)
    · exact .inr e
  obtain ⟨its, rv, hL, hz⟩ := I2.list hS2
  have hea := each_strs rv
  obtain ⟨mb, hb1, hb2⟩ := I2.mod.blt
  obtain ⟨⟨oc, vs, t, hoc, hdc, hvc⟩, _, _⟩ := I2.hok c' _ hco'
  have hun := hr.un
  have hdp := hr.dp
  refine PySem.W.sorted_key_data (b := false) keyd hL.isList hea (PySem.W.AllAlike.of fun _ _ => by simp [PySem.W.alike, PySem.W.alikeAll, keyd]) (PySem.W.Sortable.tuples fun _ => ⟨_, _, rfl⟩) (Nat.le_trans hl (by decide)) (fun z _ => ?_) (PyProof.Rows.ksk_s1 _ _) (fun _ => PyProof.Rows.ksk_l1 _ _) (fun _ => PyProof.Rows.ksk_t1 _ _)
    (fun v z ⟨t7, e⟩ hz' g tk kp => ?_) fun out cc h' tk kp hnew hD hlen' eo => ?_
  · have hd : (keyd z).depth = 1 := by simp [keyd, PyData.depth, PyData.depthAll]
    omega
  · subst e
    have I3 : Inv X pins σ H2 { s' with heap := g, toks := tk } := I2.kept kp
    exact key_run (s := { s' with heap := g, toks := tk }) (mg := X.mg) (mb := mb) (kp _ _ hf) ⟨c', oc, vs, t, rfl, kp _ _ hoc, hdc, hvc⟩ hk hco hgen hcell hw hlen (fun v => hbind _ _ _ _ _ v) I3.nolimit (I3.mod.glob.keeps I3.bk) (hb1.keeps I3.bk) hb2 z_len (by show X.A.depth < recursionLimit; omega) (hzs z hz')
  · obtain ⟨hp, hs⟩ := sorted_ok zs
    have hv2 := strs_each eo
    have hlen2 : ((zs.mergeSort (PySem.W.dataLe false keyd)).map V.str).length ≤ sizeLine := by
      rw [List.length_map, hp.length_eq]
      exact Nat.le_trans hl (by decide)
    have nf : H2 (s'.heap.objs.size + 1) = none := I2.hok.fresh (Nat.le_succ _)
    have nfH : Free H1 (s'.heap.objs.size + 1) := fun o e hn => by
      have := eN _ _ e hn
      rw [nf] at this
      cases this
    refine ⟨.ref _, upd H2 (s'.heap.objs.size + 1) (.lst ((zs.mergeSort (PySem.W.dataLe false keyd)).map V.str)), I2.laid (t' := tk) kp (Nat.le_succ _) ⟨hlen2, out, cc, hv2, hD⟩, rfl, ?_⟩
    have eX : Ex H2 (upd H2 (s'.heap.objs.size + 1) (.lst ((zs.mergeSort (PySem.W.dataLe false keyd)).map V.str))) := Ex.new nf
    exact h _ _ _ hp hs (eN.trans (ExtN.of eX)) (T2.ext eX) nfH upd_same
end
end D1
end
section
set_option Elab.async false
set_option linter.all false
set_option maxRecDepth 100000
set_option maxHeartbeats 4000000
/-! S3: _law_said -/
namespace L2
open PySem PySem.Spec PyProof.Rows
/-- list.count, flat items -/
def rCntF (K : PySem.W.Frag) : V → List V → Hp → VK → Prop := fun x xs H Q => ∃ (p : Addr) (ys : List V) (y : V), x = .ref p ∧ xs = [y] ∧ SqL K H p ys ∧ flatV y = true ∧ ys.all flatV = true ∧ Q (.int ((ys.countP fun z => eqV z y : Nat) : Int)) H
theorem countU {y : V} : ∀ {ys : List V} {us : List Value}, Vals ys us → ys.all flatV = true → us.countP (eqU y) = ys.countP fun z => eqV z y
  | _, _, .nil, _ => rfl
  | z :: ys, u :: us, .cons r t, f => by
    rw [List.all_cons, Bool.and_eq_true] at f
    rw [List.countP_cons, List.countP_cons, countU t f.2, eqU_of r f.1]
theorem mt_countF {X : Cx} : MtR X "list.count" (rCntF X.K) := by
  intro pins s σ H x xs v us Q I rx rxs h
  obtain ⟨p, ys, y, rfl, rfl, hs, fy, fys, q⟩ := h
  cases rx
  obtain ⟨u, rfl, ru⟩ := rxs.one
  obtain ⟨its, rv, ⟨⟨cls, dd, data, sl⟩, n, ho, hc, hdn, hd⟩, hlen⟩ := I.list hs
  simp only at hc hd
  subst hc hd
  refine call_meets PySem.F.slot_list_count ⟨_, ho, rfl⟩ PySem.F.entry_list_count (PySem.F.args_list_count_2 _ _)
    (SeqAt.list_countAt p its.toArray n dd sl u (eqU y)) ⟨ho, fun z hz => mem_eqAt ru fy rv fys z (by simpa using hz), ?_⟩
  have ec : its.toArray.toList.countP (eqU y) = ys.countP fun z => eqV z y := by
    rw [← countU rv fys]
  refine ⟨.int ((ys.countP fun z => eqV z y : Nat) : Int), H, I.tok _, ⟨s.toks, ?_⟩, q⟩
  show Value.int ((its.toArray.toList.countP (eqU y) : Nat) : Int) s.toks = Value.int ((ys.countP fun z => eqV z y : Nat) : Int) s.toks
  rw [ec]
end L2
namespace D1
open PySem PySem.Spec PyProof.Rows L2 LamX Evl
section
variable {K : PySem.W.Frag} {σ : L2.St} {H : Hp} {te : TE}
theorem ev_isV {a C d : Addr} {fs : List (Str × V)} {c : V} {cv : Value} {b : Bool} (h : Ev te σ H (.ref a)) (ea : H a = some (exV a C d)) (ed : H d = some (.xd fs)) (T : ExcC K C) (hc : ∀ u, RelV c u → u = cv) (e : PySem.W.kitOne K (.ref C) cv = some b) :
    Ev (tCB (rIsV K) (tCons te (tCons (tC c) tNil))) σ H (.bl b) :=
  ev_cb (ea_cons h (ea_cons ev_c ea_nil)) fun H1 x _ q => ⟨a, C, d, fs, c, cv, b, rfl, x _ _ ea, x _ _ ed, T, hc, e, q H1 (Ex.refl H1)⟩
end
/-- what the try asks of the classes -/
structure SaidF (K : PySem.W.Frag) (cN cR cW cF : Addr) : Prop where
  eN : ExcC K cN
  eW : ExcC K cW
  tN : PySem.W.exmAny K (.ref cN) [.ref cN, .ref cR, .ref cW] = some true
  tW : PySem.W.exmAny K (.ref cW) [.ref cN, .ref cR, .ref cW] = some true
  nN : PySem.W.kitOne K (.ref cN) (.ref cN) = some true
  nW : PySem.W.kitOne K (.ref cN) (.ref cW) = some false
  nR : PySem.W.kitOne K (.ref cN) (.ref cR) = some false
  nF : PySem.W.kitOne K (.ref cN) (.ref cF) = some true
  nV : PySem.W.kitOne K (.ref cN) (.type "ValueError") = some true
  wN : PySem.W.kitOne K (.ref cW) (.ref cN) = some false
  wW : PySem.W.kitOne K (.ref cW) (.ref cW) = some true
  wR : PySem.W.kitOne K (.ref cW) (.ref cR) = some false
  wF : PySem.W.kitOne K (.ref cW) (.ref cF) = some true
  wV : PySem.W.kitOne K (.ref cW) (.type "ValueError") = some true
/-- told: what the lambda raises -/
def TTsaid (cN cW : Addr) : (XK → Hp → VK → Prop) → Hp → VK → Prop := fun tl H Q => ∀ Qn : VK,
  tl (fun cls d H' => ∃ (d0 : Addr) (fs : List (Str × V)) (txt : Str), d = some d0 ∧ H' d0 = some (.xd fs) ∧ ((cls = .ref cN ∧ txt = "number") ∨ (cls = .ref cW ∧ txt = "word")) ∧ ∀ H'', Ex H' H'' → Q (.str txt) H'') H Qn
theorem takes_len {X : Cx} {W : WX} (tk : Takes X W) : Takes X (fun cls d σ H => σ.length = X.N.length → W cls d σ H) := fun u s' xx => by
  obtain ⟨a, B, sI, pins, σ, H, cls, d, e, I, nb, up, sky, na, os, ag, w⟩ := xx
  exact tk u s' ⟨a, B, sI, pins, σ, H, cls, d, e, I, nb, up, sky, na, os, ag, w I.len⟩
abbrev s_said : Stmt := top 22
theorem sc_said : FnScope ["_law_call", "_law_caught", "e", "_law_kinds"] ["_law_call"] (defScope s_said) := ⟨rfl, rfl, rfl, by decide +kernel, rfl, by decide +kernel, by decide +kernel⟩
theorem said_gives {X : Cx} {q : Str} {g cN cR cW cF : Addr} {cdg : Value} (S : SaidF X.K cN cR cW cF) (gN : X.mg "BadNumber" = some (.ref cN)) (gR : X.mg "BadRing" = some (.ref cR)) (gW : X.mg "BadWord" = some (.ref cW)) (gF : X.mg "Refused" = some (.ref cF))
    (zI : X.mg "isinstance" = none) (zV : X.mg "ValueError" = none) :
    GivesTo X ["_law_call", "_law_caught", "e", "_law_kinds"] "_law_said" (defScope s_said) g cdg (defBody s_said) "_law_call" q (TTsaid cN cW) := by
  intro f c' s H Q tl act hc h
  refine ⟨_, pss_cons (ps_set (i := 1) sc_said.nd rfl (Or.inl rfl) pe_non)
    (pss_cons (ps_try_tup3V (X := (cxOf C8.CX0 X.prog X.w X.K X.mg X.base ["_law_call", "_law_caught", "e", "_law_kinds"] "_law_said" (defScope s_said) g cdg X.A X.stack s H C8.E0).nox) (c1 := .ref cN) (c2 := .ref cR) (c3 := .ref cW) (i := 2) (Wout := fun _ _ _ _ => False)
      (tb := fun W D σ H => ∃ Ech : XK, (∀ cls d σ' H', σ'.length = 4 → Ech cls d H' → W cls d σ' H') ∧ σ[0]? = some (some (.ref f)) ∧ H c' = some (CodeO c' q) ∧ tl Ech H fun _ H' => D.nx σ H')
      rfl rfl rfl sc_said.nd rfl rfl L2.takes0 (fun W pn xe tk _ => ?act) ⟨rfl, by decide, .inl gN⟩ ⟨rfl, by decide, .inl gR⟩ ⟨rfl, by decide, .inl gW⟩ (fun a oe cls d pn _ _ => pss_one (ps_set (i := 1) sc_said.nd rfl (Or.inl rfl) (pv 2))))
    (pss_cons (ps_if (pt_cmp (pc_isN (pv 1))) (pss_one (ps_ret pe_non)) pss_nil)
    (pss_cons (ps_set (i := 3) sc_said.nd rfl (Or.inl rfl) (pe_lst (pa_cons (pe_callB call_isV (by rfl) zI PyProof.Rows.boot_isinstance (pa_cons (pv 1) (pa_cons (pe_glob (v := .ref cN) (by rfl) gN rfl) pa_nil)))
        (pa_cons (pe_callB call_isV (by rfl) zI PyProof.Rows.boot_isinstance (pa_cons (pv 1) (pa_cons (pe_glob (v := .ref cW) (by rfl) gW rfl) pa_nil)))
        (pa_cons (pe_callB call_isV (by rfl) zI PyProof.Rows.boot_isinstance (pa_cons (pv 1) (pa_cons (pe_glob (v := .ref cR) (by rfl) gR rfl) pa_nil))) pa_nil)))))
    (pss_cons (ps_if (PW.pt (pw_or (pt_cmpR op_ne (pe_bm PySem.F.plainAttrs_list PySem.F.slot_list_count (by rfl) mt_countF (pv 3) (pa_cons pe_bl pa_nil)) pe_int (nomark _))
        (pw_or (pt_not (pt_val (pe_callB call_isV (by rfl) zI PyProof.Rows.boot_isinstance (pa_cons (pv 1) (pa_cons (pe_glob (v := .ref cF) (by rfl) gF rfl) pa_nil)))))
        (pw_or1 (pt_not (pt_val (pe_callB call_isV (by rfl) zI PyProof.Rows.boot_isinstance (pa_cons (pv 1) (pa_cons (pe_bltn (v := .ty "ValueError") (by rfl) zV (by decide +kernel) rfl) pa_nil))))))))) (pss_one (ps_ret pe_str)) pss_nil)
    (pss_one (ps_ret (pe_ix ix_list (pe_lst (pa_cons pe_str (pa_cons pe_str (pa_cons pe_str pa_nil)))) (pe_bm PySem.F.plainAttrs_list PySem.F.slot_list_index (by rfl) mt_index (pv 3) (pa_cons pe_bl pa_nil)) (fun _ _ => rfl)))))))), ?_⟩
  case act =>
    refine ⟨fun pins s' σ H' D I h' => ?_⟩
    obtain ⟨Ech, hW, h1, h2, h3⟩ := h'
    have tk4 := takes_len tk
    exact (pss_one (ps_expr (act _ pn xe Ech _ _ tk4 fun cls d σ' H' he hl => hW cls d σ' H' hl he))).run pins s' σ H' D I ⟨h1, h2, h3⟩
  · refine ⟨fun cls d H' => ∃ (d0 : Addr) (fs : List (Str × V)) (txt : Str), d = some d0 ∧ H' d0 = some (.xd fs) ∧ ((cls = .ref cN ∧ txt = "number") ∨ (cls = .ref cW ∧ txt = "word")) ∧ ∀ H'', Ex H' H'' → Q (.str txt) H'', ?_, rfl, hc, h _⟩
    rintro cls d σ' H' hlen ⟨d0, fs, txt, rfl, hd0, hcls, hQ⟩
    obtain ⟨C, bN, rfl, tA, T, kN, kW, kR, kF, kV, etxt⟩ : ∃ (C : Addr) (bN : Bool), cls = .ref C ∧ PySem.W.exmAny X.K (.ref C) [.ref cN, .ref cR, .ref cW] = some true ∧ ExcC X.K C ∧ PySem.W.kitOne X.K (.ref C) (.ref cN) = some bN ∧ PySem.W.kitOne X.K (.ref C) (.ref cW) = some (!bN) ∧
        PySem.W.kitOne X.K (.ref C) (.ref cR) = some false ∧ PySem.W.kitOne X.K (.ref C) (.ref cF) = some true ∧ PySem.W.kitOne X.K (.ref C) (.type "ValueError") = some true ∧ txt = if bN then "number" else "word" := by
      rcases hcls with ⟨rfl, rfl⟩ | ⟨rfl, rfl⟩
      · exact ⟨cN, true, rfl, S.tN, S.eN, S.nN, S.nW, S.nR, S.nF, S.nV, rfl⟩
      · exact ⟨cW, false, rfl, S.tW, S.eW, S.wN, S.wW, S.wR, S.wF, S.wV, rfl⟩
    match σ', hlen with
    | [y0, y1, y2, y3], _ =>
      refine ⟨true, tA, fun _ => ⟨C, d0, rfl, rfl, fun a ha => ?_⟩, fun z => by cases z⟩
      refine ⟨.ref a, rfl, ?_⟩
      have da : d0 ≠ a := ne_of_none hd0 ha
      have hQ2 : ∀ H'', Ex (upd H' a (exV a C d0)) H'' → Q (.str txt) H'' := fun H'' e => hQ H'' ((Ex.new ha).trans e)
      have ea : (upd H' a (exV a C d0)) a = some (exV a C d0) := upd_same
      have ed : (upd H' a (exV a C d0)) d0 = some (.xd fs) := by
        rw [upd_ne da]
        exact hd0
      show tSeq (tIfS (tB (tIsN (tVar 1))) (tRet (tC V.non)) tNext) _ { nx := fun _ H' => Q .non H', rt := Q } [y0, some (.ref a), none, y3] (upd H' a (exV a C d0))
      generalize (upd H' a (exV a C d0)) = G at hQ2 ea ed ⊢
      refine q_when (b := false) (fun H1 e1 Q1 q1 => ⟨.ref a, rfl, false, rfl, q1 H1 (Ex.refl H1)⟩) (fun z => by cases z) (fun _ H1 e1 => ?_)
      have ea1 := e1 _ _ ea
      have ed1 := e1 _ _ ed
      refine q_asgL (xs := [.bl bN, .bl (!bN), .bl false]) (el_lst (ea_cons (ev_isV (ev_var rfl) ea1 ed1 T (fun _ h => h) kN) (ea_cons (ev_isV (ev_var rfl) ea1 ed1 T (fun _ h => h) kW) (ea_cons (ev_isV (ev_var rfl) ea1 ed1 T (fun _ h => h) kR) ea_nil))) (by show 3 ≤ 100000; decide)) fun p H2 hp e2 hp2 => ?_
      have ea2 := e2 _ _ ea1
      have ed2 := e2 _ _ ed1
      have hS : ∀ {H3 : Hp}, Ex H2 H3 → SqL X.K H3 p [.bl bN, .bl (!bN), .bl false] := fun e => SqL.of (e _ _ hp2)
      refine q_when (b := false) (et_is (et_or (a := false) (b := false) (fun H3 e3 Q1 q1 => ?_) fun _ => et_or (a := false) (b := false) (et_is (et_not (et_B (ev_isV (ev_var rfl) ea2 ed2 T (fun _ h => h) kF))) rfl) fun _ => et_is (et_not (et_B (ev_isV (ev_var rfl) ea2 ed2 T (fun _ h => h) kV))) rfl) rfl) (fun z => by cases z) (fun _ H3 e3 => ?_)
      · refine ⟨.ref p, rfl, .inl ⟨rfl, _, hS e3⟩, p, _, .bl true, rfl, rfl, hS e3, rfl, ?_, ?_⟩
        · cases bN <;> rfl
        · refine ⟨rfl, false, ?_, q1 H3 (Ex.refl H3)⟩
          cases bN <;> rfl
      · refine ⟨(by show 3 ≤ sizeLine; decide), fun l hl => ?_⟩
        have hl1 : (upd H3 l (.lst [.str "number", .str "word", .str "ring"])) l = some (.lst [.str "number", .str "word", .str "ring"]) := upd_same
        have e4 : Ex H3 (upd H3 l (.lst [.str "number", .str "word", .str "ring"])) := Ex.new hl
        have eAll := (e1.trans e2).trans (e3.trans e4)
        generalize (upd H3 l (.lst [.str "number", .str "word", .str "ring"])) = H4 at hl1 e4 eAll
        refine ⟨.ref p, rfl, .inl ⟨rfl, _, hS (e3.trans e4)⟩, p, _, .bl true, (if bN then 0 else 1), .bl true, rfl, rfl, hS (e3.trans e4), rfl, ?_, ?_, rfl, ?_, ?_⟩
        · cases bN <;> rfl
        · cases bN <;> rfl
        · intro m z hm hz
          cases bN with
          | true => exact absurd hm (by simp)
          | false =>
            have : m = 0 := by
              have : m < 1 := hm
              omega
            subst this
            cases hz
            rfl
        · refine ⟨l, _, _, .str txt, rfl, rfl, SqL.of hl1, ?_, hQ2 _ eAll⟩
          rw [etxt]
          cases bN <;> rfl
end D1
end
section
set_option Elab.async false
set_option linter.all false
set_option maxRecDepth 100000
set_option maxHeartbeats 4000000
/-! S4: frames with tables; zip over two lists; what is shown of texts -/
namespace D1
open PySem PySem.Spec PyProof.Rows L2 LamX Evl
/-! ### frames -/
def NT (o : HO) : Prop := ∀ ps, o ≠ .tbl ps
structure RT (T : List (Addr × Str)) (m L C : Addr) (H H' : Hp) : Prop where
  ms : MS m L C H'
  tb : Tabs T H'
  keep : ∀ b o, b ≠ m → b ≠ L → NT o → H b = some o → H' b = some o
section
variable {T : List (Addr × Str)} {m L C : Addr} {H H1 H' H2 : Hp}
theorem RT.refl (hM : MS m L C H) (hT : Tabs T H) : RT T m L C H H := ⟨hM, hT, fun _ _ _ _ _ e => e⟩
theorem RT.trans (a : RT T m L C H H1) (b : RT T m L C H1 H2) : RT T m L C H H2 := ⟨b.ms, b.tb, fun c o n1 n2 n e => b.keep c o n1 n2 n (a.keep c o n1 n2 n e)⟩
theorem MS.extN (h : MS m L C H) (e : ExtN H H') : MS m L C H' := by
  obtain ⟨n, ls, cs, r, k, h1, h2, h3, q⟩ := h
  exact ⟨n, ls, cs, r, k, e _ _ h1 (fun _ z => by cases z), e _ _ h2 (fun _ z => by cases z), e _ _ h3 (fun _ z => by cases z), q⟩
theorem RT.extN (hM : MS m L C H) (hT : Tabs T H') (e : ExtN H H') : RT T m L C H H' := ⟨hM.extN e, hT, fun b o _ _ n h => e b o h n⟩
theorem RT.ex (hM : MS m L C H) (hT : Tabs T H) (e : Ex H H') : RT T m L C H H' := .extN hM (hT.ext e) (ExtN.of e)
theorem MS.m_ne (h : MS m L C H) {b : Addr} {ps : Array Value} (hb : H b = some (.tbl ps)) : b ≠ m ∧ b ≠ L := by
  obtain ⟨n, ls, cs, r, k, h1, h2, _⟩ := h
  constructor
  · rintro rfl
    rw [h1] at hb
    cases hb
  · rintro rfl
    rw [h2] at hb
    cases hb
theorem MS.code_ne (h : MS m L C H) {b : Addr} {q : Str} (hb : H b = some (CodeO b q)) : b ≠ m ∧ b ≠ L := by
  obtain ⟨n, ls, cs, r, k, h1, h2, _⟩ := h
  constructor
  · rintro rfl
    rw [h1] at hb
    unfold CodeO at hb
    cases hb
  · rintro rfl
    rw [h2] at hb
    unfold CodeO at hb
    cases hb
theorem Tabs.ofKeep (hM : MS m L C H) (hT : Tabs T H) (e : ∀ b o, b ≠ m → b ≠ L → H b = some o → H' b = some o) : Tabs T H' := fun p hp => by
  obtain ⟨ps, h1, h2, h3⟩ := hT p hp
  refine ⟨ps, e _ _ (hM.m_ne h1).1 (hM.m_ne h1).2 h1, h2, fun pos cv hc => ?_⟩
  obtain ⟨c, e1, e2⟩ := h3 pos cv hc
  exact ⟨c, e1, e _ _ (hM.code_ne e2).1 (hM.code_ne e2).2 e2⟩
theorem RT.ofR (hM : MS m L C H) (hT : Tabs T H) (r : (frM m L C).R H H') : RT T m L C H H' := ⟨r.inv, Tabs.ofKeep hM hT fun b o n1 n2 e => r.keep b o (fun z => z.elim n1 n2) e, fun b o n1 n2 _ e => r.keep b o (fun z => z.elim n1 n2) e⟩
theorem Free.none {p : Addr} (h : H p = none) : Free H p := fun o e => by
  rw [h] at e
  cases e
theorem RT.free (r : RT T m L C H H1) (hM : MS m L C H) {p : Addr} (f : Free H1 p) : Free H p := fun o e n => by
  by_cases h1 : p = m
  · obtain ⟨n2, ls, cs, r2, k, q1, q2, _⟩ := r.ms
    exact f _ (by rw [h1]; exact q1) fun _ z => by cases z
  · by_cases h2 : p = L
    · obtain ⟨n2, ls, cs, r2, k, q1, q2, _⟩ := r.ms
      exact f _ (by rw [h2]; exact q2) fun _ z => by cases z
    · exact f _ (r.keep p o h1 h2 n e) n
theorem MS.free_ne (h : MS m L C H) {p : Addr} (f : Free H p) : p ≠ m ∧ p ≠ L ∧ p ≠ C := by
  obtain ⟨n, ls, cs, r, k, h1, h2, h3, _⟩ := h
  refine ⟨?_, ?_, ?_⟩
  · rintro rfl
    exact f _ h1 fun _ z => by cases z
  · rintro rfl
    exact f _ h2 fun _ z => by cases z
  · rintro rfl
    exact f _ h3 fun _ z => by cases z
/-- a list of one's own is written -/
theorem RT.mut {p : Addr} {xs ys : List V} (r : RT T m L C H H1) (hM : MS m L C H) (f : Free H p) (h : H1 p = some (.lst xs)) : RT T m L C H (upd H1 p (.lst ys)) := by
  obtain ⟨n1, n2, n3⟩ := hM.free_ne f
  refine ⟨?_, fun q hq => ?_, fun b o m1 m2 n e => ?_⟩
  · obtain ⟨n, ls, cs, r2, k, h1, h2, h3, q⟩ := r.ms
    exact ⟨n, ls, cs, r2, k, by rw [upd_ne (Ne.symm n1)]; exact h1, by rw [upd_ne (Ne.symm n2)]; exact h2, by rw [upd_ne (Ne.symm n3)]; exact h3, q⟩
  · obtain ⟨ps, h1, h2, h3⟩ := r.tb q hq
    refine ⟨ps, ?_, h2, fun pos cv hc => ?_⟩
    · rw [upd_ne (fun z => by rw [z, h] at h1; cases h1)]
      exact h1
    · obtain ⟨c, e1, e2⟩ := h3 pos cv hc
      refine ⟨c, e1, ?_⟩
      rw [upd_ne (fun z => by rw [z, h] at e2; unfold CodeO at e2; cases e2)]
      exact e2
  · have nb : b ≠ p := fun z => f o (by rw [← z]; exact e) n
    rw [upd_ne nb]
    exact r.keep b o m1 m2 n e
theorem RT.new {p : Addr} {o : HO} (r : RT T m L C H H1) (h : H1 p = none) : RT T m L C H (upd H1 p o) := r.trans (.ex r.ms r.tb (Ex.new h))
/-- what is no table, not the draws' own, stays -/
theorem RT.at (r : RT T m L C H H1) (hM : MS m L C H) {p : Addr} {o : HO} (f : Free H p) (r1 : RT T m L C H1 H2) (h : H1 p = some o) (n : NT o) : H2 p = some o := by
  obtain ⟨n1, n2, _⟩ := hM.free_ne f
  exact r1.keep p o n1 n2 n h
end
theorem nt_lst {xs : List V} : NT (.lst xs) := fun _ z => by cases z
/-! ### zip over two lists -/
section
variable {K : PySem.W.Frag} {σ : L2.St} {H : Hp} {te ta tb : TE} {t : TT}
theorem el_lcZL {a : Addr} {xs ys : List V} {j k : Nat} {vs : List Nat} (f : Nat → Bool) (v : Nat → V) (h : Ev ta σ H (.ref a)) (hx : SqL K H a xs) (hb : EvL tb σ H ys) (hz : xs.length ≤ 40000)
    (hw : ∀ x y, wipe (((wipe σ vs).set j (some x)).set k (some y)) vs = wipe σ vs)
    (ht : ∀ (i : Nat) (x y : V) H1, Ex H H1 → xs[i]? = some x → ys[i]? = some y → EvT t (((wipe σ vs).set j (some x)).set k (some y)) H1 (f i))
    (he : ∀ (i : Nat) (x y : V) H1, Ex H H1 → xs[i]? = some x → ys[i]? = some y → f i = true → Ev te (((wipe σ vs).set j (some x)).set k (some y)) H1 (v i)) :
    EvL (tLc (iZip K (tCons ta (tCons tb tNil))) (gTup K 2 (gCons (gName j) (gCons (gName k) gNil))) t te vs) σ H (given (min xs.length ys.length) f v) := fun H0 e Q q =>
  h H0 e _ fun H1 e1 => hb H1 (e.trans e1) _ fun b H2 hb2 e2 hy => by
    have e12 := e1.trans e2
    have hx2 : SqL K H2 a xs := ex_l (e.trans e12) hx
    refine ⟨a, b, xs, ys, rfl, hx2, sq_of hy, fun Dl hD => ?_⟩
    refine lc_it (walk_zip (K := K) (a := a) (b := b) (xs := xs) (ys := ys) rfl) (Cw H2 f v Dl) ⟨hD, Ex.new hD, upd_same⟩ (fun i H' _ p => ⟨ex_l p.2.1 hx2, sq_of (p.2.1 _ _ hy)⟩) (fun i x H5 H6 hi p y => ?_) (fun H' p => q Dl H' (fresh_back e12 p.1) (e12.trans p.2.1) p.2.2)
    obtain ⟨Tp, c, d, rfl, hT, rfl, hc, hd⟩ := y
    have p2 : Cw H2 f v Dl i (upd H5 Tp (.tup [c, d])) := ⟨p.1, p.2.1.trans (Ex.new hT), by rw [upd_ne (ne_of_none p.2.2 hT)]; exact p.2.2⟩
    exact ⟨Tp, _, rfl, .inl (.inl upd_same), rfl, _, _, rfl, _, _, rfl, rfl, hw _ _, cw_turn p2 (by omega) (ht i c d H2 (e.trans e12) hc hd) (he i c d H2 (e.trans e12) hc hd)⟩
theorem given_not (n : Nat) (v : Nat → V) : given n (fun _ => false) v = [] := by
  unfold given
  simp
theorem et_nil (h : EvL ta σ H []) : EvT (tTest (tOp (rNeD K) ta (tLst tNil))) σ H false := fun H1 e Q q =>
  h H1 e _ fun p H2 hp e2 h2 => ⟨(by show 0 ≤ sizeLine; decide), fun r hr => ⟨.list [], .list [], .lst (sq_of (by rw [upd_ne (ne_of_none h2 hr)]; exact h2)) .nil, .lst (sq_of upd_same) .nil, rfl, rfl, false, rfl, q _ (e2.trans (Ex.new hr))⟩⟩
end
/-! ### texts shown -/
theorem dp_strs {K : PySem.W.Frag} {H : Hp} : ∀ zs : List Str, DpAll K H (zs.map V.str) (zs.map PyData.str)
  | [] => .nil
  | _ :: r => .cons (.str _) (dp_strs r)
structure ShowsS (d : PyData) : Prop where
  s : d.showable = true
  n : d.hasDict = false
  d6 : d.depth ≤ 60
  l : d.shown.length ≤ sizeLine
theorem strs_s : ∀ zs : List Str, PyData.showableAll (zs.map PyData.str) = true
  | [] => rfl
  | z :: r => by
    simp only [List.map_cons, PyData.showableAll, PyData.showable, Bool.true_and]
    exact strs_s r
theorem strs_n : ∀ zs : List Str, PyData.hasDictAll (zs.map PyData.str) = false
  | [] => rfl
  | z :: r => by
    simp only [List.map_cons, PyData.hasDictAll, PyData.hasDict, Bool.false_or]
    exact strs_n r
theorem strs_d : ∀ zs : List Str, PyData.depthAll (zs.map PyData.str) = 0
  | [] => by simp [PyData.depthAll]
  | z :: r => by
    simp [PyData.depthAll, PyData.depth, strs_d r]
theorem strs_leaf : ∀ zs : List Str, (∀ z ∈ zs, ∀ c ∈ z.cps.toList, c < 128) → PyData.leavesShortAll 8 (zs.map PyData.str) = true
  | [], _ => rfl
  | z :: r, h => by
    simp only [List.map_cons, PyData.leavesShortAll, PyData.leavesShort, Bool.and_eq_true, List.all_eq_true, decide_eq_true_eq]
    exact ⟨fun c hc => Nat.lt_of_lt_of_le (h z List.mem_cons_self c hc) (by decide), strs_leaf r fun y hy => h y (List.mem_cons_of_mem _ hy)⟩
theorem strs_weight : ∀ zs : List Str, (∀ z ∈ zs, z.length ≤ 100) → PyData.weightAll (zs.map PyData.str) ≤ zs.length * 101
  | [], _ => by simp [PyData.weightAll]
  | z :: r, h => by
    have h1 := h z List.mem_cons_self
    have h2 := strs_weight r fun y hy => h y (List.mem_cons_of_mem _ hy)
    have h3 : z.cps.size ≤ 100 := h1
    simp only [List.map_cons, PyData.weightAll, PyData.weight, List.length_cons]
    omega
theorem strs_shows (zs : List Str) (h : zs.length ≤ 100) (h1 : ∀ z ∈ zs, z.length ≤ 100) (h2 : ∀ z ∈ zs, ∀ c ∈ z.cps.toList, c < 128) : ShowsS (.list (zs.map .str)) := by
  refine ⟨?_, ?_, ?_, ?_⟩
  · simp only [PyData.showable]
    exact strs_s zs
  · simp only [PyData.hasDict]
    exact strs_n zs
  · simp [PyData.depth, strs_d]
  · have a := PyData.shown_le 8 (by decide) (.list (zs.map .str)) (by simp only [PyData.leavesShort]; exact strs_leaf zs h2)
    have b := strs_weight zs h1
    have c : (PyData.list (zs.map .str)).weight = PyData.weightAll (zs.map .str) := by simp only [PyData.weight]
    rw [c] at a
    rw [sizeLine_eq]
    omega
end D1
end
section
set_option Elab.async false
set_option linter.all false
set_option maxRecDepth 100000
set_option maxHeartbeats 8000000
/-! S5: shortlex; _law_sorted_right -/
namespace D1
open PySem PySem.Spec PyProof.Rows L2 LamX Evl
abbrev s_shortlex : Stmt := top 13
theorem sc_shortlex : FnScope ["words"] ["words"] (defScope s_shortlex) := ⟨rfl, rfl, rfl, by decide +kernel, rfl, by decide +kernel, by decide +kernel⟩
def lamQ (x : Str) : Str := (envOfC x (defScope s_shortlex) 0 0 .none).qual ++ "<lambda>"
def spShortlex (K : PySem.W.Frag) (T : List (Addr × Str)) : Sp := fun vs H Q _ => ∃ (a : Addr) (zs : List Str), vs = [.ref a] ∧ SqL K H a (zs.map V.str) ∧ zs.length ≤ 4000 ∧ (∀ z ∈ zs, z.length ≤ 100000) ∧ Tabs T H ∧
  ∀ (ys : List Str) (p : Addr) (H' : Hp), ys.Perm zs → (ys.Pairwise fun a b => aheadB b a = false) → ExtN H H' → Tabs T H' → Free H p → H' p = some (.lst (ys.map V.str)) → Q (.ref p) H'
section
variable {P : Program} {w : World} {K : PySem.W.Frag} {mg : Str → Option Value} {base : Heap} {T : List (Addr × Str)}
theorem ok_shortlex {f c Pt : Addr} {fd : FuncData} (F : FnP K "shortlex" s_shortlex f fd) (hc : fd.code = .ref c) (TB : TabB base mg c Pt) (hmT : (Pt, lamQ "shortlex") ∈ T) (hu : ∀ p ∈ T, p.1 = Pt → p.2 = lamQ "shortlex")
    (z_sorted : mg "sorted" = none) (z_len : mg "len" = none) : FnOk P w K mg base CX0 2 f fd ["words"] (spShortlex K T) := by
  refine F.okC sc_shortlex (fun vs H Q E h => ?_) (fun cdv A outer s H vs Q E hcd hr h => ?_)
  · obtain ⟨a, zs, rfl, _⟩ := h
    rfl
  · obtain ⟨a, zs, rfl, h⟩ := h
    have ecd : cdv = .ref c := hcd.symm.trans hc
    refine ⟨_, PSs.nox (pss_one (ps_ret (pe_sortlam (T := T) (c := c) (P := Pt) (i := 0) rfl (Or.inl rfl) (by decide) (by decide) rfl z_sorted z_len TB ecd hmT hu hr rfl rfl rfl (by decide +kernel) (by decide +kernel) rfl rfl rfl (fun _ _ _ _ _ _ => by first | rfl | with_unfolding_all rfl)))), ?_⟩
    exact ⟨a, zs, rfl, h⟩
theorem cut1L (xs : List V) : cutV xs (some 1) none = xs.drop 1 := by
  unfold cutV
  rw [show HT.sIx xs.length 0 (some 1) = min 1 xs.length from HT.sIx_nat xs.length 0 1, HT.sIx_none]
  cases xs with
  | nil => rfl
  | cons c r =>
    rw [show min 1 (c :: r).length = 1 by rw [List.length_cons]; omega]
    exact List.take_of_length_le (by simp)
theorem three {d : Int} (h0 : 0 ≤ d) (h1 : d < 3) : ∃ n : Int, (1 ≤ n ∧ n ≤ 60) ∧ atI [V.int 3, V.int 9, V.int 60] d = some (.int n) := by
  have hd : d = 0 ∨ d = 1 ∨ d = 2 := by omega
  rcases hd with rfl | rfl | rfl
  · exact ⟨3, by decide, rfl⟩
  · exact ⟨9, by decide, rfl⟩
  · exact ⟨60, by decide, rfl⟩
def GoodW (ws : List Str) : Prop := ∀ w ∈ ws, w.length ≤ 60 ∧ ∀ c ∈ w.cps.toList, c < 128
theorem ones_len (ds : List Nat) : (Txt.join (Str.ofString "") (ds.map one)).length = ds.length := by
  rw [← len_toList, join_ones]
theorem ones_sum (ds : List Nat) : ((ds.map one).map (·.length)).sum = ds.length := by
  induction ds with
  | nil => rfl
  | cons c r ih =>
    rw [List.map_cons, List.map_cons, List.sum_cons, ih, List.length_cons]
    show 1 + r.length = r.length + 1
    omega
theorem alph_low {z : Str} (h : alphS z = true) : 0 < z.length ∧ z.length ≤ 6 ∧ ∀ c ∈ z.cps.toList, c < 128 := by
  have h2 : ((decide (1 ≤ z.length) && decide (z.length ≤ 6)) && (z.cps.toList.all letC && rising z.cps.toList)) = true := h
  simp only [Bool.and_eq_true, decide_eq_true_eq, List.all_eq_true] at h2
  refine ⟨h2.1.1, h2.1.2, fun c hc => ?_⟩
  have h3 := h2.2.1 c hc
  simp only [letC, Bool.and_eq_true, decide_eq_true_eq] at h3
  omega
def spSorted (T : List (Addr × Str)) : Sp := fun vs H Q _ => ∃ (m L C : Addr) (z : Str), vs = [.ref m, .str z] ∧ MS m L C H ∧ Tabs T H ∧ alphS z = true ∧ ∀ H', RT T m L C H H' → Q (.bl true) H'
theorem isi_list {H : Hp} {σ : L2.St} {p : Addr} {xs : List V} {te : TE} (h : Ev te σ H (.ref p)) (hp : H p = some (.lst xs)) : Ev (tCB (rIsi K) (tCons te (tCons (tC (.ty "list")) tNil))) σ H (.bl true) := fun H1 e Q q =>
  h H1 e _ fun H2 e2 => ⟨.ref p, .ty "list", .type "list", .type "list", true, rfl, .ty "list", (Thing.lst (e2 _ _ (e _ _ hp))).ty, kit_ty (show kitB _ _ = some true by decide +kernel), q H2 e2⟩
abbrev s_sorted_right : Stmt := top 23
theorem sc_sorted_right : FnScope ["_law_m", "_law_letters_here", "_law_some", "_law_k", "_law_kept", "_law_turn", "_law_found", "_law_one", "_law_other", "_law_j"] ["_law_m", "_law_letters_here"] (defScope s_sorted_right) := ⟨rfl, rfl, rfl, by decide +kernel, rfl, by decide +kernel, by decide +kernel⟩
theorem ok_sorted_right {f : Addr} {fd : FuncData} (F : FnP K "_law_sorted_right" s_sorted_right f fd) {f_draw : Addr} {fd_draw : FuncData} (G_draw : FnOk P w K mg base CX0 2 f_draw fd_draw ["_law_m", "_law_many_here"] spDraw) (F_draw : FnP K "_law_draw" s_draw f_draw fd_draw) (g_draw : mg "_law_draw" = some (.ref f_draw)) {f_of : Addr} {fd_of : FuncData} (G_of : FnOk P w K mg base CX0 3 f_of fd_of ["_law_m", "_law_some"] (spOf K)) (F_of : FnP K "_law_of" s_of f_of fd_of) (g_of : mg "_law_of" = some (.ref f_of)) {f_shortlex : Addr} {fd_shortlex : FuncData} (G_shortlex : FnOk P w K mg base CX0 2 f_shortlex fd_shortlex ["words"] (spShortlex K T)) (F_shortlex : FnP K "shortlex" s_shortlex f_shortlex fd_shortlex) (g_shortlex : mg "shortlex" = some (.ref f_shortlex)) {f_is_ahead : Addr} {fd_is_ahead : FuncData} (G_is_ahead : FnOk P w K mg base CX0 1 f_is_ahead fd_is_ahead ["_law_one", "_law_other"] spAhead) (F_is_ahead : FnP K "_law_is_ahead" s_is_ahead f_is_ahead fd_is_ahead) (g_is_ahead : mg "_law_is_ahead" = some (.ref f_is_ahead)) (z_range : mg "range" = none) (z_repr : mg "repr" = none) (z_isinstance : mg "isinstance" = none) (z_list : mg "list" = none) (z_len : mg "len" = none) (z_zip : mg "zip" = none) : FnG P w K mg base CX0 4 f fd ["_law_m", "_law_letters_here"] (spSorted T) := by
  have b_draw : Binds K fd_draw ["_law_m", "_law_many_here"] [] := F_draw.bindsN fun _ _ _ _ _ _ us hl => match us, hl with | [_, _], _ => rfl
  have b_of : Binds K fd_of ["_law_m", "_law_some"] [] := F_of.bindsN fun _ _ _ _ _ _ us hl => match us, hl with | [_, _], _ => rfl
  have b_shortlex : Binds K fd_shortlex ["words"] [] := F_shortlex.bindsN fun _ _ _ _ _ _ us hl => match us, hl with | [_], _ => rfl
  have b_is_ahead : Binds K fd_is_ahead ["_law_one", "_law_other"] [] := F_is_ahead.bindsN fun _ _ _ _ _ _ us hl => match us, hl with | [_, _], _ => rfl
  refine Fun.okG F.toFun sc_sorted_right (fun vs H Q E h => ?_) (fun cdv A outer s H vs Q E hr hG h => ?_)
  · obtain ⟨m, L, C, z, rfl, _⟩ := h
    rfl
  · obtain ⟨m, L, C, z, rfl, hM, hT, hz, q⟩ := h
    have hu := hu_of hr
    have hu64 := hr.units
    have hr_draw := hr.mono (by decide : 2 ≤ 3)
    have hr_of := hr.mono (by decide : 3 ≤ 3)
    have hr_shortlex := hr.mono (by decide : 2 ≤ 3)
    have hr_is_ahead := hr.mono (by decide : 1 ≤ 3)
    refine ⟨_, PSs.nox (pss_cons (ps_set (i := 2) sc_sorted_right.nd rfl (Or.inr rfl) (pe_lst pa_nil))
      (pss_cons (ps_for PassesOwn.never rfl (pi_range1 rfl z_range (pa_cons (pe_call G_draw hr_draw rfl g_draw F_draw.kp b_draw .nil pass0 (pa_cons (pv 0) (pa_cons pe_int pa_nil))) pa_nil)) (pg_name (i := 3) sc_sorted_right.nd rfl (Or.inl rfl)) (pss_one (ps_expr (pe_bm PySem.F.plainAttrs_list PySem.F.slot_list_append PySem.F.type_list_append mt_append (pv 2) (pa_cons (pe_join pe_str (pe_lc (own := [("_law_j", 9)]) (g := gName 9) (tt := tYes) (by rfl) sc_sorted_right.nd (pi_range1 rfl z_range (pa_cons (pe_call G_draw hr_draw rfl g_draw F_draw.kp b_draw .nil pass0 (pa_cons (pv 0) (pa_cons (pe_ix ix_list (pe_lst (pa_cons pe_int (pa_cons pe_int (pa_cons pe_int pa_nil)))) (pe_call G_draw hr_draw rfl g_draw F_draw.kp b_draw .nil pass0 (pa_cons (pv 0) (pa_cons pe_int pa_nil))) (fun _ _ => rfl)) pa_nil))) pa_nil)) (blkOk_by (own := [("_law_j", 9)]) (N := ["_law_m", "_law_letters_here", "_law_some", "_law_k", "_law_kept", "_law_turn", "_law_found", "_law_one", "_law_other", "_law_j"]) (sc := defScope s_sorted_right) (by decide +kernel)) (fun _ _ _ _ _ => pg_name (i := 9) sc_sorted_right.nd rfl (Or.inl rfl)) (fun _ _ _ _ _ => pts_nil) (fun _ _ _ _ _ => pe_call G_of hr_of rfl g_of F_of.kp b_of .nil pass0 (pa_cons (pv 0) (pa_cons (pv 1) pa_nil))))) pa_nil)))))
      (pss_cons (ps_set (i := 2) sc_sorted_right.nd rfl (Or.inr rfl) (pe_op op_cat (pv 2) (pe_slice sl_list (pv 2) po_none (po_some (pe_call G_draw hr_draw rfl g_draw F_draw.kp b_draw .nil pass0 (pa_cons (pv 0) (pa_cons pe_int pa_nil)))))))
      (pss_cons (ps_set (i := 4) sc_sorted_right.nd rfl (Or.inl rfl) (pe_callB (call_reprD hG hu64) (by rfl) z_repr (by decide +kernel) (pa_cons (pv 2) pa_nil)))
      (pss_cons (ps_for PassesOwn.never rfl (pi_range1 rfl z_range (pa_cons pe_int pa_nil)) (pg_name (i := 5) sc_sorted_right.nd rfl (Or.inl rfl)) (pss_cons (ps_set (i := 6) sc_sorted_right.nd rfl (Or.inr rfl) (pe_call G_shortlex hr_shortlex rfl g_shortlex F_shortlex.kp b_shortlex .nil pass0 (pa_cons (pv 2) pa_nil)))
      (pss_cons (ps_if (PW.pt (pw_or (pt_not (pt_val (pe_callB call_isi (by rfl) z_isinstance PyProof.Rows.boot_isinstance (pa_cons (pv 6) (pa_cons (pe_bltn (v := .ty "list") rfl z_list (by decide +kernel) rfl) pa_nil))))) (pw_or (pt_cmpR op_ne (pe_callB call_len_seq (by rfl) z_len PySem.boot_len (pa_cons (pv 6) pa_nil)) (pe_callB call_len_seq (by rfl) z_len PySem.boot_len (pa_cons (pv 2) pa_nil)) (nomark _)) (pw_or1 (pt_cmpR op_ne (pe_callB (call_reprD hG hu64) (by rfl) z_repr (by decide +kernel) (pa_cons (pv 2) pa_nil)) (pv 4) (nomark _)))))) (pss_one (ps_ret pe_bl)) pss_nil)
      (pss_cons (ps_if (pt_cmpR (op_neD hr.units) (pe_lc (own := [("_law_one", 7)]) (g := gName 7) (tt := tTest (tOp rNe (tBM K "list" (rCntF K) (tVar 6) (tCons (tVar 7) tNil)) (tBM K "list" (rCntF K) (tVar 2) (tCons (tVar 7) tNil)))) (by rfl) sc_sorted_right.nd (pi_list (pv 2)) (blkOk_by (own := [("_law_one", 7)]) (N := ["_law_m", "_law_letters_here", "_law_some", "_law_k", "_law_kept", "_law_turn", "_law_found", "_law_one", "_law_other", "_law_j"]) (sc := defScope s_sorted_right) (by decide +kernel)) (fun _ _ _ _ _ => pg_name (i := 7) sc_sorted_right.nd rfl (Or.inl rfl)) (fun _ _ _ _ _ => pts_one (pt_cmpR op_ne (pe_bm PySem.F.plainAttrs_list PySem.F.slot_list_count (by rfl) mt_countF (pv 6) (pa_cons (pv 7) pa_nil)) (pe_bm PySem.F.plainAttrs_list PySem.F.slot_list_count (by rfl) mt_countF (pv 2) (pa_cons (pv 7) pa_nil)) (nomark _))) (fun _ _ _ _ _ => pe_int)) (pe_lst pa_nil) (nomark _)) (pss_one (ps_ret pe_bl)) pss_nil)
      (pss_cons (ps_if (pt_cmpR (op_neD hr.units) (pe_lc (own := [("_law_one", 7), ("_law_other", 8)]) (g := gTup K 2 (gCons (gName 7) (gCons (gName 8) gNil))) (by rfl) sc_sorted_right.nd (pi_zip (by rfl) z_zip (pa_cons (pv 6) (pa_cons (pe_slice sl_list (pv 6) (po_some pe_int) po_none) pa_nil))) (blkOk_by (own := [("_law_one", 7), ("_law_other", 8)]) (N := ["_law_m", "_law_letters_here", "_law_some", "_law_k", "_law_kept", "_law_turn", "_law_found", "_law_one", "_law_other", "_law_j"]) (sc := defScope s_sorted_right) (by decide +kernel)) (fun _ _ _ _ _ => pg_tup rfl (pgs_cons (pg_name (i := 7) sc_sorted_right.nd rfl (Or.inl rfl)) (pgs_cons (pg_name (i := 8) sc_sorted_right.nd rfl (Or.inl rfl)) pgs_nil))) (fun _ _ _ _ _ => pts_one (pt_val (pe_call G_is_ahead hr_is_ahead rfl g_is_ahead F_is_ahead.kp b_is_ahead .nil pass0 (pa_cons (pv 8) (pa_cons (pv 7) pa_nil))))) (fun _ _ _ _ _ => pe_int)) (pe_lst pa_nil) (nomark _)) (pss_one (ps_ret pe_bl)) pss_nil)
      (pss_one (ps_expr (pe_bm PySem.F.plainAttrs_list PySem.F.slot_list_append PySem.F.type_list_append mt_append (pv 6) (pa_cons pe_str pa_nil)))))))))
      (pss_one (ps_ret pe_bl))))))), ?_⟩
    obtain ⟨z0, z6, zc⟩ := alph_low hz
    refine q_asgL (el_lst ea_nil (by decide)) fun l H1 hl e1 hl1 => ?_
    have fl : Free H l := Free.none hl
    have r1 : RT T m L C H H1 := .ex hM hT e1
    -- the texts are drawn
    refine ⟨_, rfl, m, L, C, 21, rfl, r1.ms, by decide, by decide, fun d H2 d0 d1 rd => ?_⟩
    have r2 : RT T m L C H H2 := r1.trans (.ofR r1.ms r1.tb rd)
    have hl2 : H2 l = some (.lst (([] : List Str).map V.str)) := r1.at hM fl (.ofR r1.ms r1.tb rd) hl1 nt_lst
    refine ⟨d, rfl, by omega, by omega, ?_⟩
    refine for_it (walk_range (lo := 0) (n := d.toNat)) (fun i σ' H' => ∃ x3 ws, σ' = [some (.ref m), some (.str z), some (.ref l), x3, none, none, none, none, none, none] ∧ RT T m L C H H' ∧ H' l = some (.lst (ws.map V.str)) ∧ ws.length = i ∧ GoodW ws)
      ⟨none, [], rfl, r2, hl2, rfl, fun w hw => by cases hw⟩ (fun _ _ _ _ _ => True.intro) ?_ ?_
    · rintro i x σ' _ H3 hi ⟨x3, ws, rfl, r3, hl3, hlen, good⟩ ⟨rfl, rfl⟩
      have sz3 : 3 ≤ sizeLine := by decide
      refine ⟨_, rfl, .inl ⟨rfl, _, SqL.of hl3⟩, ?_⟩
      refine ⟨⟨_, rfl⟩, ?_⟩
      refine ⟨_, rfl, sz3, fun l3 hn3 => ?_⟩
      have r4 : RT T m L C H (upd H3 l3 (.lst [.int 3, .int 9, .int 60])) := r3.new hn3
      have h34 : RT T m L C H3 (upd H3 l3 (.lst [.int 3, .int 9, .int 60])) := RT.new (.refl r3.ms r3.tb) hn3
      refine ⟨_, rfl, m, L, C, 3, rfl, r4.ms, by decide, by decide, fun d1 H5 d10 d11 rd1 => ?_⟩
      have r45 := RT.ofR r4.ms r4.tb rd1
      have h35 := h34.trans r45
      have hl5 : H5 l3 = some (.lst [.int 3, .int 9, .int 60]) := h34.at r3.ms (Free.none hn3) r45 upd_same nt_lst
      obtain ⟨n1, hn1, an1⟩ := three d10 d11
      refine ⟨l3, _, _, _, rfl, rfl, SqL.of hl5, an1, m, L, C, n1, rfl, h35.ms, by omega, by omega, fun d2 H6 d20 d21 rd2 => ?_⟩
      have h36 := h35.trans (.ofR h35.ms h35.tb rd2)
      refine ⟨d2, rfl, by omega, by omega, fun Dn hDn => ?_⟩
      have fD : Free H3 Dn := h36.free r3.ms (Free.none hDn)
      refine lc_it (walk_range (lo := 0) (n := d2.toNat)) (fun i H' => ∃ ds : List Nat, RT T m L C H3 H' ∧ H' Dn = some (.lst ((ds.map one).map V.str)) ∧ ds.length = i ∧ ∀ c ∈ ds, c < 128)
        ⟨[], h36.new hDn, upd_same, rfl, fun c hc => by cases hc⟩ (fun _ _ _ _ => True.intro) ?_ ?_
      · rintro i2 x _ H7 hi2 ⟨ds, r7, hD7, hdl, hdc⟩ ⟨rfl, rfl⟩
        refine ⟨rfl, tyes_go (D1.yes_of rfl ?_)⟩
        refine ⟨_, rfl, _, rfl, m, L, C, .str z, rfl, r7.ms, .inr ⟨z, rfl, z0, by omega, fun j c H8 hc rd8 => ?_⟩⟩
        have r78 := RT.ofR r7.ms r7.tb rd8
        have hD8 := r7.at r3.ms fD r78 hD7 nt_lst
        refine ⟨_, hD8, ?_, ds ++ [c], (r7.trans r78).mut r3.ms fD hD8, ?_, ?_, ?_⟩
        · rw [List.length_map, List.length_map, hdl]
          have : (1000 : Nat) ≤ sizeLine := by decide
          omega
        · rw [upd_same, List.map_append, List.map_append]
          rfl
        · rw [List.length_append, hdl]
          rfl
        · intro y hy
          rcases List.mem_append.mp hy with h | h
          · exact hdc y h
          · rw [List.mem_singleton.mp h]
            refine zc c ?_
            have h2 : z.cps.toList[j]? = some c := by simpa using hc
            exact List.mem_of_getElem? h2
      · rintro H7 ⟨ds, r7, hD7, hdl, hdc⟩
        have hl7 : H7 l = some (.lst (ws.map V.str)) := r3.at hM fl r7 hl3 nt_lst
        have r07 := r3.trans r7
        refine ⟨Str.ofString "", Dn, ds.map one, rfl, rfl, .inl (SqL.of hD7), ?_, ?_⟩
        · rw [ones_sum, List.length_map]
          show ds.length + ds.length * 0 ≤ 16777216
          omega
        · refine ⟨l, _, _, rfl, rfl, hl7, ?_, ?_⟩
          · rw [List.length_map, hlen]
            have : (1000 : Nat) ≤ sizeLine := by decide
            omega
          · refine ⟨_, ws ++ [Txt.join (Str.ofString "") (ds.map one)], rfl, r07.mut hM fl hl7, ?_, ?_, ?_⟩
            · rw [upd_same, List.map_append]
              rfl
            · rw [List.length_append, hlen]
              rfl
            · intro y hy
              rcases List.mem_append.mp hy with h | h
              · exact good y h
              · rw [List.mem_singleton.mp h, ones_len, join_ones]
                exact ⟨by omega, hdc⟩
    · rintro σ' H3 ⟨x3, ws, rfl, r3, hl3, hlen, good⟩
      -- some of them twice
      refine ⟨_, rfl, _, rfl, _, rfl, m, L, C, 3, rfl, r3.ms, by decide, by decide, fun d1 H4 d10 d11 rd1 => ?_⟩
      have r34 := RT.ofR r3.ms r3.tb rd1
      have r4 := r3.trans r34
      have hl4 := r3.at hM fl r34 hl3 nt_lst
      refine ⟨d1, rfl, l, _, rfl, SqL.of hl4, fun p hp => ?_⟩
      have ecut : ∃ us : List Str, cutV (ws.map V.str) none (some d1) = us.map V.str ∧ (∀ u ∈ us, u ∈ ws) ∧ us.length ≤ ws.length := by
        refine ⟨(ws.drop (HT.sIx (ws.map V.str).length 0 none)).take (HT.sIx (ws.map V.str).length (ws.map V.str).length (some d1) - HT.sIx (ws.map V.str).length 0 none), ?_, fun u hu => List.mem_of_mem_drop (List.mem_of_mem_take hu), ?_⟩
        · unfold cutV
          rw [List.map_take, List.map_drop]
        · rw [List.length_take, List.length_drop]
          omega
      obtain ⟨us, eus, uin, ulen⟩ := ecut
      rw [eus]
      have lp : l ≠ p := ne_of_none hl4 hp
      refine ⟨l, p, _, _, rfl, rfl, by rw [upd_ne lp]; exact hl4, upd_same, ?_, fun p2 hp2 => ?_⟩
      · rw [List.length_map, List.length_map]
        have : (1000 : Nat) ≤ sizeLine := by decide
        omega
      have r5 : RT T m L C H (upd (upd H4 p (.lst (us.map V.str))) p2 (.lst (ws.map V.str ++ us.map V.str))) := (r4.new hp).new hp2
      have fp2 : Free H p2 := (r4.new hp).free hM (Free.none hp2)
      have h52 : (upd (upd H4 p (.lst (us.map V.str))) p2 (.lst (ws.map V.str ++ us.map V.str))) p2 = some (.lst ((ws ++ us).map V.str)) := by rw [upd_same, List.map_append]
      have gall : GoodW (ws ++ us) := fun w hw => by
        rcases List.mem_append.mp hw with h | h
        · exact good w h
        · exact good w (uin w h)
      have lall : (ws ++ us).length ≤ 100 := by
        rw [List.length_append]
        omega
      generalize (upd (upd H4 p (.lst (us.map V.str))) p2 (.lst (ws.map V.str ++ us.map V.str))) = H5 at r5 h52 ⊢
      generalize ws ++ us = al at h52 gall lall
      have sh := strs_shows al lall (fun w hw => Nat.le_trans (gall w hw).1 (by decide)) fun w hw => (gall w hw).2
      have hrep : ∀ {G : Hp}, G p2 = some (.lst (al.map V.str)) → ∀ (Q : VK), Q (.str (PyData.list (al.map .str)).shown) G → rReprD K [.ref p2] G Q := fun hG Q q => ⟨p2, _, rfl, .lst (SqL.of hG) (dp_strs al), sh.s, sh.n, sh.d6, sh.l, q⟩
      refine call1 (r := rReprD K) (ta := tVar 2) ⟨_, rfl, hrep h52 _ ?_⟩
      refine q_forR1 (n := 2) (ea_cons ev_c ea_nil) (by decide) (fun k σ' H' => ∃ x5 x6, σ' = [some (.ref m), some (.str z), some (.ref p2), x3, some (.str (PyData.list (al.map .str)).shown), x5, x6, none, none, none] ∧ RT T m L C H H' ∧ H' p2 = some (.lst (al.map V.str)))
        (fun H6 e6 => ⟨none, none, rfl, r5.trans (.ex r5.ms r5.tb e6), e6 _ _ h52⟩) ?_ ?_
      · rintro k σ' H6 hk ⟨x5, x6, rfl, r6, h62⟩
        refine ⟨_, rfl, p2, al, rfl, SqL.of h62, by omega, fun w hw => Nat.le_trans (gall w hw).1 (by decide), r6.tb, fun ys q2 H7 hperm hsort eN hT7 hq2 hH7 => ?_⟩
        have r7 : RT T m L C H H7 := r6.trans (.extN r6.ms hT7 eN)
        have h72 : H7 p2 = some (.lst (al.map V.str)) := eN _ _ h62 nt_lst
        have fq : Free H q2 := r6.free hM hq2
        have hlen7 : ys.length = al.length := hperm.length_eq
        refine q_when (b := false) (et_is (et_or (a := false) (b := false) (et_is (et_not (et_B (isi_list (ev_var rfl) hH7))) rfl) fun _ => et_or (a := false) (b := false) (et_test (ev_is (ev_op (ev_len (ev_var rfl) (SqL.of hH7)) (ev_len (ev_var rfl) (SqL.of h72)) (rv_ne rfl)) ?_)) fun _ => fun G1 g1 Q1 q1 => ?_) rfl) (fun z => by cases z) (fun _ H8 e8 => ?_)
        · rw [List.length_map, List.length_map, hlen7]
          simp
        · refine call1 (r := rReprD K) (ta := tVar 2) ⟨_, rfl, hrep (g1 _ _ h72) _ ⟨_, rfl, rfl, false, ?_, q1 G1 (Ex.refl G1)⟩⟩
          simp
        have h82 := e8 _ _ h72
        have hq8 := e8 _ _ hH7
        refine q_when (b := false) (et_nil (el_is (el_lcL (K := K) (a := p2) (xs := al.map V.str) (j := 7) (vs := [7]) (fun _ => false) (fun _ => V.int 1) (ev_var rfl) (SqL.of h82) (by rw [List.length_map]; omega) (fun _ => rfl) (fun i x G1 g1 hx => ?_) (fun _ _ _ _ _ z => by cases z)) (given_not _ _))) (fun z => by cases z) (fun _ H9 e9 => ?_)
        · have ex := str_at hx
          subst ex
          have cnt : ∀ y : V, ((ys.map V.str).countP fun z => eqV z y) = (al.map V.str).countP fun z => eqV z y := fun y => (hperm.map V.str).countP_eq _
          have fall : ∀ l : List Str, (l.map V.str).all flatV = true := fun l => by
            rw [List.all_map, List.all_eq_true]
            exact fun _ _ => rfl
          refine et_test (fun G2 g2 Q1 q1 => ?_)
          refine ⟨_, rfl, .inl ⟨rfl, _, SqL.of (g2 _ _ (g1 _ _ hq8))⟩, _, rfl, q2, _, _, rfl, rfl, SqL.of (g2 _ _ (g1 _ _ hq8)), rfl, fall ys, ?_⟩
          refine ⟨_, rfl, .inl ⟨rfl, _, SqL.of (g2 _ _ (g1 _ _ h82))⟩, _, rfl, p2, _, _, rfl, rfl, SqL.of (g2 _ _ (g1 _ _ h82)), rfl, fall al, ?_⟩
          refine ⟨rfl, ?_⟩
          rw [cnt, decide_eq_true rfl]
          exact q1 G2 (Ex.refl G2)
        have h92 := e9 _ _ h82
        have hq9 := e9 _ _ hq8
        refine q_when (b := false) (et_nil (el_is (el_lcZL (K := K) (a := q2) (xs := ys.map V.str) (ys := cutV (ys.map V.str) (some 1) none) (j := 7) (k := 8) (vs := [7, 8]) (fun _ => false) (fun _ => V.int 1) (ev_var rfl) (SqL.of hq9) (el_sl (ev_var rfl) (eo_some ev_c) eo_none (SqL.of hq9)) (by rw [List.length_map, hlen7]; omega) (fun _ _ => rfl) (fun i x y G1 g1 hx hy => ?_) (fun _ _ _ _ _ _ _ z => by cases z)) (given_not _ _))) (fun z => by cases z) (fun _ H10 e10 => ?_)
        · rw [cut1L, List.getElem?_drop] at hy
          rw [List.getElem?_map] at hx hy
          obtain ⟨a1, ha1, rfl⟩ := Option.map_eq_some_iff.mp hx
          obtain ⟨b1, hb1, rfl⟩ := Option.map_eq_some_iff.mp hy
          obtain ⟨ia, ea1⟩ := List.getElem?_eq_some_iff.mp ha1
          obtain ⟨ib, eb1⟩ := List.getElem?_eq_some_iff.mp hb1
          have hlt : aheadB b1 a1 = false := by
            have := List.pairwise_iff_getElem.mp hsort i (1 + i) ia ib (by omega)
            rw [ea1, eb1] at this
            exact this
          have mem : ∀ w, w ∈ ys → w.length ≤ 100000 := fun w hw => Nat.le_trans (gall w (hperm.mem_iff.mp hw)).1 (by decide)
          refine et_B (ev_call (vs := [.str b1, .str a1]) (ea_cons (ev_var rfl) (ea_cons (ev_var rfl) ea_nil)) fun G2 g2 Q1 q1 _ => ⟨b1, a1, rfl, mem _ (by rw [← eb1]; exact List.getElem_mem ib), mem _ (by rw [← ea1]; exact List.getElem_mem ia), ?_⟩)
          rw [hlt]
          exact q1 G2 (Ex.refl G2)
        have e7 := (e8.trans e9).trans e10
        have r10 := r7.trans (.ex r7.ms r7.tb e7)
        have hq10 := e10 _ _ hq9
        refine ⟨_, rfl, .inl ⟨rfl, _, SqL.of hq10⟩, q2, _, _, rfl, rfl, hq10, ?_, ?_⟩
        · rw [List.length_map, hlen7]
          have : (1000 : Nat) ≤ sizeLine := by decide
          omega
        · have nq : p2 ≠ q2 := fun z => hq2 _ (by rw [← z]; exact h62) nt_lst
          refine ⟨_, _, rfl, r10.mut hM fq hq10, ?_⟩
          rw [upd_ne nq]
          exact e10 _ _ h92
      · rintro σ' H6 ⟨x5, x6, rfl, r6, h62⟩
        exact q H6 r6
end
end D1
end
section
set_option Elab.async false
set_option linter.all false
set_option maxRecDepth 100000
set_option maxHeartbeats 8000000
/-! S6: _law_all_right -/
namespace D1
open PySem PySem.Spec PyProof.Rows L2 LamX Evl
theorem tw_all {p : Nat → Bool} : ∀ {l : List Nat}, (∀ c ∈ l, p c = true) → l.takeWhile p = l
  | [], _ => rfl
  | c :: r, h => by
    rw [List.takeWhile_cons, if_pos (h c List.mem_cons_self), tw_all fun d hd => h d (List.mem_cons_of_mem _ hd)]
theorem strip_all {x y : Str} (h : ∀ c ∈ x.cps.toList, c ∈ y.cps.toList) : Txt.stripChars x y = Str.ofString "" := by
  unfold Txt.stripChars
  rw [PyProof.Rows.stripBy_eq]
  have hl : stripLo y.cps.contains true x = x.length := by
    unfold stripLo
    rw [if_pos rfl]
    have e : x.cps.toList.takeWhile y.cps.contains = x.cps.toList := tw_all fun c hc => by
      have := h c hc
      simpa using this
    rw [e]
    exact len_toList x
  rw [hl]
  have hh : stripHi y.cps.contains true x x.length ≤ x.length := by
    unfold stripHi
    rw [if_pos rfl]
    omega
  have e0 : (PySem.Builtin.Str.strSub x x.length (stripHi y.cps.contains true x x.length)).cps.toList = [] := by
    unfold PySem.Builtin.Str.strSub
    first
      | simp [hh]
      | (show (x.cps.extract x.length (stripHi y.cps.contains true x x.length)).toList = []
         have hs : x.length = x.cps.size := rfl
         simp
         omega)
  have : ∀ s : Str, s.cps.toList = [] → s = Str.ofString "" := fun s hs => by
    cases s with
    | mk a =>
      have : a = #[] := by
        apply Array.ext'
        exact hs
      rw [this]
      rfl
  exact this _ e0
section
variable {K : PySem.W.Frag} {σ : L2.St} {H : Hp} {te : TE} {t : TT}
theorem el_lcR2 {ta : TA} {j : Nat} {vs : List Nat} {lo n : Int} (f : Nat → Bool) (v : Nat → V) (h : EvA ta σ H [.int lo, .int n]) (hn : 0 ≤ lo ∧ lo ≤ n ∧ n ≤ 40000) (hw : ∀ x, wipe ((wipe σ vs).set j (some x)) vs = wipe σ vs)
    (ht : ∀ (i : Nat) H1, Ex H H1 → lo + (i : Int) < n → EvT t ((wipe σ vs).set j (some (.int (lo + (i : Int))))) H1 (f i)) (he : ∀ (i : Nat) H1, Ex H H1 → lo + (i : Int) < n → f i = true → Ev te ((wipe σ vs).set j (some (.int (lo + (i : Int))))) H1 (v i)) :
    EvL (tLc (iRng2 ta) (gName j) t te vs) σ H (given (n - lo).toNat f v) := fun H0 e Q q => h H0 e _ fun H1 e1 => ⟨lo, n, rfl, ⟨by omega, by omega, by omega, by omega⟩, fun Dl hD =>
  lc_range (lo := lo) (n := (n - lo).toNat) (Cw H1 f v Dl) ⟨hD, Ex.new hD, upd_same⟩ (fun i H' hi p =>
    ⟨hw _, cw_turn p (by omega) (ht i H1 (e.trans e1) (by omega)) (fun hf => he i H1 (e.trans e1) (by omega) hf)⟩) (fun H' p => q Dl H' (fresh_back e1 p.1) (e1.trans p.2.1) p.2.2)⟩
end
section
variable {P : Program} {w : World} {K : PySem.W.Frag} {mg : Str → Option Value} {base : Heap} {T : List (Addr × Str)}
def spAll (T : List (Addr × Str)) : Sp := fun vs H Q _ => ∃ (m L C : Addr) (z : Str), vs = [.ref m, .str z] ∧ MS m L C H ∧ Tabs T H ∧ alphS z = true ∧ ∀ H', RT T m L C H H' → Q (.bl true) H'
theorem isi_str {H : Hp} {σ : L2.St} {z : Str} {te : TE} (h : Ev te σ H (.str z)) : Ev (tCB (rIsi K) (tCons te (tCons (tC (.ty "str")) tNil))) σ H (.bl true) := fun H1 e Q q =>
  h H1 e _ fun H2 e2 => ⟨.str z, .ty "str", .type "str", .type "str", true, rfl, .ty "str", (Thing.str z).ty, kit_ty (show kitB _ _ = some true by decide +kernel), q H2 e2⟩
abbrev s_all_right : Stmt := top 25
theorem sc_all_right : FnScope ["_law_m", "_law_letters_here", "_law_border", "_law_many_here", "_law_turn", "_law_found", "_law_text", "_law_length", "_law_k", "_law_one", "_law_other"] ["_law_m", "_law_letters_here"] (defScope s_all_right) := ⟨rfl, rfl, rfl, by decide +kernel, rfl, by decide +kernel, by decide +kernel⟩
theorem ok_all_right {f c Pt cN cR cW cF : Addr} {fd : FuncData} (F : FnP K "_law_all_right" s_all_right f fd) (hc : fd.code = .ref c) (TB : TabB base mg c Pt) (hmT : (Pt, lamQ "_law_all_right") ∈ T) (hu : ∀ p ∈ T, p.1 = Pt → p.2 = lamQ "_law_all_right")
    (SF : SaidF K cN cR cW cF) (gN : mg "BadNumber" = some (.ref cN)) (gR : mg "BadRing" = some (.ref cR)) (gW : mg "BadWord" = some (.ref cW)) (gF : mg "Refused" = some (.ref cF)) {f_draw : Addr} {fd_draw : FuncData} (G_draw : FnOk P w K mg base CX0 2 f_draw fd_draw ["_law_m", "_law_many_here"] spDraw) (F_draw : FnP K "_law_draw" s_draw f_draw fd_draw) (g_draw : mg "_law_draw" = some (.ref f_draw)) {f_of : Addr} {fd_of : FuncData} (G_of : FnOk P w K mg base CX0 3 f_of fd_of ["_law_m", "_law_some"] (spOf K)) (F_of : FnP K "_law_of" s_of f_of fd_of) (g_of : mg "_law_of" = some (.ref f_of)) {f_many : Addr} {fd_many : FuncData} (G_many : FnOk P w K mg base CX0 1 f_many fd_many ["_law_letters_here", "_law_length"] spMany) (F_many : FnP K "_law_many" s_many f_many fd_many) (g_many : mg "_law_many" = some (.ref f_many)) {f_is_ahead : Addr} {fd_is_ahead : FuncData} (G_is_ahead : FnOk P w K mg base CX0 1 f_is_ahead fd_is_ahead ["_law_one", "_law_other"] spAhead) (F_is_ahead : FnP K "_law_is_ahead" s_is_ahead f_is_ahead fd_is_ahead) (g_is_ahead : mg "_law_is_ahead" = some (.ref f_is_ahead)) {f_words_to : Addr} {fd_words_to : FuncData} (G_words_to : FnOk P w K mg base (L2.CX P w) 3 f_words_to fd_words_to ["alphabet", "length"] (spWordsTo K cW cN)) (F_words_to : FnP K "words_to" s_words_to f_words_to fd_words_to) (g_words_to : mg "words_to" = some (.ref f_words_to)) {f_said : Addr} {fd_said : FuncData} (F_said : FnP K "_law_said" s_said f_said fd_said) (g_said : mg "_law_said" = some (.ref f_said)) (z_range : mg "range" = none) (z_isinstance : mg "isinstance" = none) (z_list : mg "list" = none) (z_len : mg "len" = none) (z_zip : mg "zip" = none) (z_min : mg "min" = none) (z_str : mg "str" = none) (z_ValueError : mg "ValueError" = none) : FnOk P w K mg base CX0 6 f fd ["_law_m", "_law_letters_here"] (spAll T) := by
  have b_draw : Binds K fd_draw ["_law_m", "_law_many_here"] [] := F_draw.bindsN fun _ _ _ _ _ _ us hl => match us, hl with | [_, _], _ => rfl
  have b_of : Binds K fd_of ["_law_m", "_law_some"] [] := F_of.bindsN fun _ _ _ _ _ _ us hl => match us, hl with | [_, _], _ => rfl
  have b_many : Binds K fd_many ["_law_letters_here", "_law_length"] [] := F_many.bindsN fun _ _ _ _ _ _ us hl => match us, hl with | [_, _], _ => rfl
  have b_is_ahead : Binds K fd_is_ahead ["_law_one", "_law_other"] [] := F_is_ahead.bindsN fun _ _ _ _ _ _ us hl => match us, hl with | [_, _], _ => rfl
  have b_words_to : Binds K fd_words_to ["alphabet", "length"] [] := F_words_to.bindsN fun _ _ _ _ _ _ us hl => match us, hl with | [_, _], _ => rfl
  have b_said : Binds K fd_said ["_law_call"] [] := F_said.bindsN fun _ _ _ _ _ _ us hl => match us, hl with | [_], _ => rfl
  obtain ⟨oc_s, od_s, dV_s, kV_s, doc_s, pm_s, an_s, cdv_s, ct_s, osl_s, rfl, lk_said, hcg_said, _, _⟩ := id F_said.ex
  refine F.okC sc_all_right (fun vs H Q E h => ?_) (fun cdv A outer s H vs Q E hcd hr5 h => ?_)
  · obtain ⟨m, L, C, z, rfl, _⟩ := h
    rfl
  · obtain ⟨m, L, C, z, rfl, hM, hT, hz, q⟩ := h
    have ecd : cdv = .ref c := hcd.symm.trans hc
    have hr := hr5
    have hr_draw := hr.mono (by decide : 2 ≤ 5)
    have hr_of := hr.mono (by decide : 3 ≤ 5)
    have hr_many := hr.mono (by decide : 1 ≤ 5)
    have hr_is_ahead := hr.mono (by decide : 1 ≤ 5)
    have hr_words_to := hr.mono (by decide : 3 ≤ 5)
    refine ⟨_, PSs.nox (pss_cons (ps_set (i := 2) sc_all_right.nd rfl (Or.inl rfl) (pe_callB call_len_seq (by rfl) z_len PySem.boot_len (pa_cons (pe_lc (own := [("_law_k", 8)]) (g := gName 8) (by rfl) sc_all_right.nd (pi_range2 rfl z_range (pa_cons pe_int (pa_cons pe_int pa_nil))) (blkOk_by (own := [("_law_k", 8)]) (N := ["_law_m", "_law_letters_here", "_law_border", "_law_many_here", "_law_turn", "_law_found", "_law_text", "_law_length", "_law_k", "_law_one", "_law_other"]) (sc := defScope s_all_right) (by decide +kernel)) (fun _ _ _ _ _ => pg_name (i := 8) sc_all_right.nd rfl (Or.inl rfl)) (fun _ _ _ _ _ => pts_one (pt_cmpR op_le (pe_call G_many hr_many rfl g_many F_many.kp b_many .nil pass0 (pa_cons (pv 1) (pa_cons (pv 8) pa_nil))) pe_int (nomark _))) (fun _ _ _ _ _ => pv 8)) pa_nil)))
      (pss_cons (ps_set (i := 7) sc_all_right.nd rfl (Or.inr rfl) (pe_call G_of hr_of rfl g_of F_of.kp b_of .nil pass0 (pa_cons (pv 0) (pa_cons (pe_lst (pa_cons pe_int (pa_cons pe_int (pa_cons pe_int (pa_cons (pe_callB (call_min2 rfl) (by rfl) z_min (by decide +kernel) (pa_cons pe_int (pa_cons (pv 2) pa_nil))) (pa_cons (pv 2) (pa_cons (pe_callB (call_min2 rfl) (by rfl) z_min (by decide +kernel) (pa_cons pe_int (pa_cons (pe_op op_add (pv 2) pe_int) pa_nil))) (pa_cons (pe_call G_draw hr_draw rfl g_draw F_draw.kp b_draw .nil pass0 (pa_cons (pv 0) (pa_cons pe_int pa_nil))) pa_nil)))))))) pa_nil))))
      (pss_cons (ps_set (i := 3) sc_all_right.nd rfl (Or.inl rfl) (pe_call G_many hr_many rfl g_many F_many.kp b_many .nil pass0 (pa_cons (pv 1) (pa_cons (pv 7) pa_nil))))
      (pss_cons (ps_if (pt_cmpR op_gt (pv 3) pe_int (nomark _)) (pss_one (ps_ret (pe_cmpR op_eq (pe_lamcall (T := T) (c := c) (P := Pt) (k := 3) (t := fun E => tCall (spWordsTo K cW cN) [] E (tCons (tVar 1) (tCons (tVar 7) tNil))) rfl g_said F_said.kp lk_said hcg_said b_said sc_said rfl (Or.inl rfl) (said_gives SF gN gR gW gF z_isinstance z_ValueError) TB ecd hmT hu hr5 (lamS_by (by rfl)) rfl (fun _ _ _ _ _ => by first | rfl | with_unfolding_all rfl)
        (fun A outer s H E f c' hr' => pe_call G_words_to hr' rfl g_words_to F_words_to.kp b_words_to .nil (passes_call (takes_of rfl rfl rfl rfl) fun _ _ _ _ h => h) (pa_cons (pv 1) (pa_cons (pv 7) pa_nil)))) pe_str (nomark _)))) pss_nil)
      (pss_cons (ps_for PassesOwn.never rfl (pi_range1 rfl z_range (pa_cons pe_int pa_nil)) (pg_name (i := 4) sc_all_right.nd rfl (Or.inl rfl)) (pss_cons (ps_set (i := 5) sc_all_right.nd rfl (Or.inl rfl) (pe_call G_words_to hr_words_to rfl g_words_to F_words_to.kp b_words_to .nil passL (pa_cons (pv 1) (pa_cons (pv 7) pa_nil))))
      (pss_cons (ps_if (PW.pt (pw_or (pt_not (pt_val (pe_callB call_isi (by rfl) z_isinstance PyProof.Rows.boot_isinstance (pa_cons (pv 5) (pa_cons (pe_bltn (v := .ty "list") rfl z_list (by decide +kernel) rfl) pa_nil))))) (pw_or1 (pt_cmpR op_ne (pe_callB call_len_seq (by rfl) z_len PySem.boot_len (pa_cons (pv 5) pa_nil)) (pv 3) (nomark _))))) (pss_one (ps_ret pe_bl)) pss_nil)
      (pss_cons (ps_for PassesOwn.never rfl (pi_list (pv 5)) (pg_name (i := 6) sc_all_right.nd rfl (Or.inl rfl)) (pss_one (ps_if (PW.pt (pw_or (pt_not (pt_val (pe_callB call_isi (by rfl) z_isinstance PyProof.Rows.boot_isinstance (pa_cons (pv 6) (pa_cons (pe_bltn (v := .ty "str") rfl z_str (by decide +kernel) rfl) pa_nil))))) (pw_or (pt_cmpR op_gt (pe_callB call_len_str (by rfl) z_len PySem.boot_len (pa_cons (pv 6) pa_nil)) (pv 7) (nomark _)) (pw_or1 (pt_cmpR op_ne (pe_m1 PySem.F.slot_str_strip PySem.F.type_str_strip mt_stripChars (pv 6) (pv 1)) pe_str (nomark _)))))) (pss_one (ps_ret pe_bl)) pss_nil)))
      (pss_cons (ps_if (pt_cmpR (op_neD hr.units) (pe_lc (own := [("_law_one", 9), ("_law_other", 10)]) (g := gTup K 2 (gCons (gName 9) (gCons (gName 10) gNil))) (by rfl) sc_all_right.nd (pi_zip (by rfl) z_zip (pa_cons (pv 5) (pa_cons (pe_slice sl_list (pv 5) (po_some pe_int) po_none) pa_nil))) (blkOk_by (own := [("_law_one", 9), ("_law_other", 10)]) (N := ["_law_m", "_law_letters_here", "_law_border", "_law_many_here", "_law_turn", "_law_found", "_law_text", "_law_length", "_law_k", "_law_one", "_law_other"]) (sc := defScope s_all_right) (by decide +kernel)) (fun _ _ _ _ _ => pg_tup rfl (pgs_cons (pg_name (i := 9) sc_all_right.nd rfl (Or.inl rfl)) (pgs_cons (pg_name (i := 10) sc_all_right.nd rfl (Or.inl rfl)) pgs_nil))) (fun _ _ _ _ _ => pts_one (pt_not (pt_val (pe_call G_is_ahead hr_is_ahead rfl g_is_ahead F_is_ahead.kp b_is_ahead .nil pass0 (pa_cons (pv 9) (pa_cons (pv 10) pa_nil)))))) (fun _ _ _ _ _ => pe_int)) (pe_lst pa_nil) (nomark _)) (pss_one (ps_ret pe_bl)) pss_nil)
      (pss_one (ps_expr (pe_bm PySem.F.plainAttrs_list PySem.F.slot_list_append PySem.F.type_list_append mt_append (pv 5) (pa_cons pe_str pa_nil)))))))))
      (pss_one (ps_ret pe_bl))))))), ?_⟩
    obtain ⟨z0, z6, zc⟩ := alph_low hz
    have zl : z.cps.toList.length = z.length := len_toList z
    have sz7 : 7 ≤ sizeLine := by decide
    have big : (3000 : Nat) ≤ sizeLine := by decide
    refine q_asg (ev_lenN (el_lcR2 (lo := 1) (n := 61) (j := 8) (vs := [8]) (fun i => decide ((manyS z.length (1 + i)).1 ≤ 2000)) (fun i => V.int (1 + (i : Int))) (ea_cons ev_c (ea_cons ev_c ea_nil)) (by decide) (fun _ => rfl) (fun i G1 g1 hi => ?_) (fun i G1 g1 hi _ => ev_var rfl))) fun H1 e1 => ?_
    · refine et_test (ev_is (ev_op (ev_call (vs := [.str z, .int (((1 + i : Nat)) : Int)]) (ea_cons (ev_var rfl) (ea_cons (ev_is (ev_var rfl) ?_) ea_nil)) fun G2 g2 Q1 q1 _ => ⟨z, 1 + i, rfl, by omega, by omega, fun H' e' => q1 H' e'⟩) ev_c rv_I0) ?_)
      · show V.int (1 + (i : Int)) = V.int ((1 + i : Nat) : Int)
        rw [Int.natCast_add]
        rfl
      · show V.bl (decide (((manyS z.length (1 + i)).1 : Int) ≤ 2000)) = _
        congr 1
        by_cases h : (manyS z.length (1 + i)).1 ≤ 2000
        · rw [decide_eq_true h]; exact decide_eq_true (by omega)
        · rw [decide_eq_false h]; exact decide_eq_false (by omega)
    have hb60 := given_len (61 - 1 : Int).toNat (fun i => decide ((manyS z.length (1 + i)).1 ≤ 2000)) (fun i => V.int (1 + (i : Int)))
    generalize (given (61 - 1 : Int).toNat (fun i => decide ((manyS z.length (1 + i)).1 ≤ 2000)) (fun i => V.int (1 + (i : Int)))).length = b at hb60 ⊢
    have hb : b ≤ 60 := hb60
    have r1 : RT T m L C H H1 := .ex hM hT e1
    refine ⟨_, rfl, _, rfl, _, _, rfl, _, rfl, _, rfl, _, _, rfl, rfl, _, _, rfl, _, rfl, m, L, C, 61, rfl, r1.ms, by decide, by decide, fun d H2 d0 d1 rd => ?_⟩
    have r2 : RT T m L C H H2 := r1.trans (.ofR r1.ms r1.tb rd)
    refine ⟨sz7, fun l hl => ?_⟩
    have r3 : RT T m L C H (upd H2 l (.lst [.int 0, .int 1, .int 2, .int (if (b : Int) < 3 then (b : Int) else 3), .int (b : Int), .int (if (b : Int) + 1 < 60 then (b : Int) + 1 else 60), .int d])) := r2.new hl
    refine ⟨m, L, C, _, rfl, r3.ms, .inl ⟨l, _, rfl, Sta.of (Fr.fresh (F := frM m L C) r2.ms hl) upd_same, (by show 0 < 7; decide), (by show 7 < 1000000; decide), fun i v H4 hv r4 => ?_⟩⟩
    obtain ⟨n, rfl, hn⟩ : ∃ n : Nat, v = .int (n : Int) ∧ n ≤ 60 := by
      have hm := List.mem_of_getElem? hv
      have key : ∀ x : Int, 0 ≤ x → x ≤ 60 → V.int x = v → ∃ n : Nat, v = .int (n : Int) ∧ n ≤ 60 := fun x x0 x1 e => ⟨x.toNat, by rw [← e, Int.toNat_of_nonneg x0], by omega⟩
      simp only [List.mem_cons, List.not_mem_nil, or_false] at hm
      rcases hm with h | h | h | h | h | h | h
      · exact key 0 (by omega) (by omega) h.symm
      · exact key 1 (by omega) (by omega) h.symm
      · exact key 2 (by omega) (by omega) h.symm
      · exact key _ (by split <;> omega) (by split <;> omega) h.symm
      · exact key _ (by omega) (by omega) h.symm
      · exact key _ (by split <;> omega) (by split <;> omega) h.symm
      · exact key _ (by omega) (by omega) h.symm
    have r04 : RT T m L C H H4 := r3.trans (.ofR r3.ms r3.tb r4)
    refine q_asg (ev_call (vs := [.str z, .int (n : Int)]) (ea_cons (ev_var rfl) (ea_cons (ev_var rfl) ea_nil)) fun G2 g2 Q1 q1 _ => ⟨z, n, rfl, by omega, by omega, fun H' e' => q1 H' e'⟩) fun H5 e5 => ?_
    have r5 : RT T m L C H H5 := r04.trans (.ex r04.ms r04.tb e5)
    obtain ⟨ma1, ma2⟩ := many_all z.cps.toList n
    rw [zl] at ma1 ma2
    have noA : alphV (.str z) = false → False := fun hf => by
      have h2 : alphS z = false := hf
      rw [hz] at h2
      cases h2
    have noB : between 0 60 (.int (n : Int)) = false → False := fun hf => by
      have h2 : (decide ((0 : Int) ≤ (n : Int)) && decide ((n : Int) ≤ 60)) = false := hf
      rw [decide_eq_true (by omega), decide_eq_true (by omega)] at h2
      cases h2
    refine q_when (b := decide (2000 < (manyS z.length n).1)) (et_test (ev_is (ev_op (ev_var rfl) ev_c rv_I0) ?_)) (fun hb2 H6 e6 => ?_) (fun hb2 H6 e6 => ?_)
    · show V.bl (decide ((2000 : Int) < ((manyS z.length n).1 : Int))) = _
      congr 1
      exact int_lt 2000 _
    · have hlt := of_decide_eq_true hb2
      have r6 : RT T m L C H H6 := r5.trans (.ex r5.ms r5.tb e6)
      refine ⟨r6.tb, fun H7 eN hT7 Qn => ⟨_, rfl, _, rfl, .str z, .int (n : Int), "str", "int", rfl, .str z, .int _, fun z2 e2 => by cases e2; omega, fun hf => (noA hf).elim, fun _ hf => (noB hf).elim, fun z2 n2 ez hz2 en hn2 => ?_⟩⟩
      cases ez
      obtain rfl : n = n2 := by
        have := V.int.inj en
        omega
      refine ⟨fun _ H8 dd e8 hdd => ⟨dd, _, "number", rfl, upd_same, .inl ⟨rfl, rfl⟩, fun H9 e9 => ⟨rfl, ?_⟩⟩, fun hle => ?_⟩
      · rw [decide_eq_true rfl]
        have r7 := r6.trans (RT.extN r6.ms hT7 eN)
        exact q H9 (r7.trans (.ex r7.ms r7.tb ((e8.trans (Ex.new hdd)).trans e9)))
      · rw [ma1 hle] at hlt
        exact absurd hlt (by show ¬ 2000 < (allW z.cps.toList n).length; omega)
    · have hnlt := of_decide_eq_false hb2
      have hle : (allW z.cps.toList n).length ≤ 2000 := by
        rcases Nat.lt_or_ge 2000 (allW z.cps.toList n).length with h | h
        · exact absurd (ma2 h) hnlt
        · exact h
      rw [ma1 hle] at hnlt ⊢
      have r6 : RT T m L C H H6 := r5.trans (.ex r5.ms r5.tb e6)
      have hrise : z.cps.toList.Pairwise (· < ·) := by
        have h2 : ((decide (1 ≤ z.length) && decide (z.length ≤ 6)) && (z.cps.toList.all letC && rising z.cps.toList)) = true := hz
        simp only [Bool.and_eq_true] at h2
        exact rising_pair h2.2.2
      refine q_forR1 (n := 2) (ea_cons ev_c ea_nil) (by decide) (fun k σ' H' => ∃ x4 x5 x6, σ' = [some (.ref m), some (.str z), some (.int (b : Int)), some (.int ((allW z.cps.toList n).length : Int)), x4, x5, x6, some (.int (n : Int)), none, none, none] ∧ RT T m L C H H')
        (fun H7 e7 => ⟨none, none, none, rfl, r6.trans (.ex r6.ms r6.tb e7)⟩) ?_ ?_
      · rintro k σ' H7 hk ⟨x4, x5, x6, rfl, r7⟩
        refine ⟨_, rfl, _, rfl, .str z, .int (n : Int), "str", "int", rfl, .str z, .int _, fun z2 e2 => by cases e2; omega, fun hf => (noA hf).elim, fun _ hf => (noB hf).elim, fun z2 n2 ez hz2 en hn2 => ?_⟩
        cases ez
        obtain rfl : n = n2 := by
          have := V.int.inj en
          omega
        refine ⟨fun hlt => absurd hlt (by omega), fun _ p H8 hp e8 hp8 => ?_⟩
        have r8 : RT T m L C H H8 := r7.trans (.ex r7.ms r7.tb e8)
        have fp : Free H p := r7.free hM (Free.none hp)
        generalize hal : allW z.cps.toList n = al at hle hp8 ⊢
        have hsz := hal ▸ all_sz z.cps.toList n
        have hsg := hal ▸ all_signs_in z.cps.toList n
        have hpw := hal ▸ all_pair hrise n
        refine q_when (b := false) (et_is (et_or (a := false) (b := false) (et_is (et_not (et_B (isi_list (ev_var rfl) hp8))) rfl) fun _ => et_test (ev_is (ev_op (ev_len (ev_var rfl) (SqL.of hp8)) (ev_var rfl) (rv_ne rfl)) ?_)) rfl) (fun z => by cases z) (fun _ H9 e9 => ?_)
        · rw [List.length_map]
          simp
        have hp9 := e9 _ _ hp8
        refine q_forLn (K := K) (a := p) (xs := al.map V.str) (j := 6) (ev_var rfl) (SqL.of hp9) (fun i σ' H' => ∃ x6, σ' = [some (.ref m), some (.str z), some (.int (b : Int)), some (.int (al.length : Int)), some (.int (k : Int)), some (.ref p), x6, some (.int (n : Int)), none, none, none] ∧ Ex H9 H')
          (fun H10 e10 => ⟨x6, rfl, e10⟩) (fun i σ' H' _ h => by obtain ⟨_, _, e⟩ := h; exact SqL.of (e _ _ hp9)) ?_ ?_
        · rintro i x σ' H10 hx ⟨y6, rfl, e10⟩
          have ex := str_at hx
          subst ex
          have hmem : al.getD i (Str.ofString "") ∈ al := by
            obtain ⟨hi, _⟩ := List.getElem?_eq_some_iff.mp hx
            rw [List.length_map] at hi
            rw [List.getD_eq_getElem?_getD, List.getElem?_eq_getElem hi]
            exact List.getElem_mem hi
          generalize al.getD i (Str.ofString "") = tx at hmem hx ⊢
          have tsz := hsz tx hmem
          refine s_when (b := false) (et_is (et_or (a := false) (b := false) (et_is (et_not (et_B (isi_str (ev_var rfl)))) rfl) fun _ => et_or (a := false) (b := false) (et_test (fun G1 g1 Q1 q1 => ?_)) fun _ => et_test (fun G1 g1 Q1 q1 => ?_)) rfl) (fun z => by cases z) (fun _ H11 e11 => ?_)
          · refine ⟨_, rfl, tx, rfl, by omega, _, rfl, _, _, rfl, rfl, ?_⟩
            show Q1 (V.bl (decide ((n : Int) < (tx.length : Int)))) G1
            rw [show decide ((n : Int) < (tx.length : Int)) = false from decide_eq_false (by omega)]
            exact q1 G1 (Ex.refl G1)
          · refine ⟨_, rfl, ⟨_, rfl⟩, _, rfl, tx, z, rfl, rfl, by omega, rfl, ?_⟩
            rw [strip_all (hsg tx hmem), decide_eq_true rfl]
            exact q1 G1 (Ex.refl G1)
          · exact ⟨_, rfl, e10.trans e11⟩
        · rintro σ' H10 ⟨y6, rfl, e10⟩
          have hp10 := e10 _ _ hp9
          refine q_when (b := false) (et_nil (el_is (el_lcZL (K := K) (a := p) (xs := al.map V.str) (ys := cutV (al.map V.str) (some 1) none) (j := 9) (k := 10) (vs := [9, 10]) (fun _ => false) (fun _ => V.int 1) (ev_var rfl) (SqL.of hp10) (el_sl (ev_var rfl) (eo_some ev_c) eo_none (SqL.of hp10)) (by rw [List.length_map]; omega) (fun _ _ => rfl) (fun i x y G1 g1 hx hy => ?_) (fun _ _ _ _ _ _ _ z => by cases z)) (given_not _ _))) (fun z => by cases z) (fun _ H11 e11 => ?_)
          · rw [cut1L, List.getElem?_drop] at hy
            rw [List.getElem?_map] at hx hy
            obtain ⟨a1, ha1, rfl⟩ := Option.map_eq_some_iff.mp hx
            obtain ⟨b1, hb1, rfl⟩ := Option.map_eq_some_iff.mp hy
            obtain ⟨ia, ea1⟩ := List.getElem?_eq_some_iff.mp ha1
            obtain ⟨ib, eb1⟩ := List.getElem?_eq_some_iff.mp hb1
            have hlt : aheadB a1 b1 = true := by
              have := List.pairwise_iff_getElem.mp hpw i (1 + i) ia ib (by omega)
              rw [ea1, eb1] at this
              exact this
            have ma : a1.length ≤ n := hsz a1 (by rw [← ea1]; exact List.getElem_mem ia)
            have mb : b1.length ≤ n := hsz b1 (by rw [← eb1]; exact List.getElem_mem ib)
            refine et_is (et_not (et_B (ev_call (vs := [.str a1, .str b1]) (ea_cons (ev_var rfl) (ea_cons (ev_var rfl) ea_nil)) fun G2 g2 Q1 q1 _ => ⟨a1, b1, rfl, by omega, by omega, q1 G2 (Ex.refl G2)⟩))) ?_
            rw [hlt]
            rfl
          have e811 := (e9.trans e10).trans e11
          have r11 := r8.trans (.ex r8.ms r8.tb e811)
          have hp11 := e11 _ _ hp10
          refine ⟨_, rfl, .inl ⟨rfl, _, SqL.of hp11⟩, p, _, _, rfl, rfl, hp11, ?_, ?_⟩
          · rw [List.length_map]
            omega
          · exact ⟨_, _, _, rfl, r11.mut hM fp hp11⟩
      · rintro σ' H7 ⟨x4, x5, x6, rfl, r7⟩
        exact q H7 r7
end
end D1
end
section
set_option Elab.async false
set_option linter.all false
set_option maxRecDepth 100000
set_option maxHeartbeats 8000000
/-! S7: _law_refused_right -/
namespace D1
open PySem PySem.Spec PyProof.Rows L2 LamX Evl
theorem vals_at : ∀ {xs : List V} {us : List Value}, xs.length = us.length → (∀ (i : Nat) (x : V) (u : Value), xs[i]? = some x → us[i]? = some u → RelV x u) → Vals xs us
  | [], [], _, _ => .nil
  | [], _ :: _, h, _ => by simp at h
  | _ :: _, [], h, _ => by simp at h
  | x :: xs, u :: us, h, k => .cons (k 0 x u rfl rfl) (vals_at (by simpa using h) fun i y v h1 h2 => k (i + 1) y v h1 h2)
theorem call_list_strS {X : Cx} (hc : X.calm = true) : CallR X (.type "list") (fun xs H Q => ∃ z : Str, xs = [.str z] ∧ z.length ≤ sizeLine ∧ ∀ l, H l = none → Q (.ref l) (upd H l (.lst (z.cps.toList.map fun c => V.str ⟨#[c]⟩)))) := by
  intro pins s σ H xs us Q I r h
  obtain ⟨z, rfl, hz, q⟩ := h
  obtain ⟨u, rfl, rx⟩ := vals1 r
  obtain ⟨t, rfl⟩ := rx
  refine call_list_str (I.ok.hd hc) z t (fun h' tk acc' c' kp hS it => ?_) hz
  have hv : Vals (z.cps.toList.map fun c => V.str ⟨#[c]⟩) acc'.toList := by
    refine vals_at ?_ fun i x u hx hu => ?_
    · rw [List.length_map, Array.length_toList, Array.length_toList]
      exact it.1.symm
    · obtain ⟨c, t', h1, rfl⟩ := it.2 i u (by simpa using hu)
      rw [List.getElem?_map] at hx
      have h2 : z.cps.toList[i]? = some c := by simpa using h1
      rw [h2] at hx
      obtain rfl := Option.some.inj hx
      exact ⟨_, rfl⟩
  exact ⟨.ref s.heap.objs.size, _, I.laid (t' := tk) kp (Nat.le_refl _) (show ObjOk X.prog X.w _ h' _ (.lst _) from ⟨by rw [List.length_map]; exact Nat.le_trans (Nat.le_of_eq (len_toList z)) hz, acc'.toList, c', hv, by simpa using hS⟩), rfl, q _ (I.hok.fresh (Nat.le_refl _))⟩
section
variable {P : Program} {w : World} {K : PySem.W.Frag} {mg : Str → Option Value} {base : Heap} {T : List (Addr × Str)}
theorem say1 {sp : Sp} {E : XK} {i : Nat} {σ : L2.St} {H : Hp} {Q : VK} {x y : V} (hi : σ[i]? = some (some x)) (h : sp [x, y] H Q E) : tCall sp [] E (tCons (tVar i) (tCons (tC y) tNil)) σ H Q := ⟨x, hi, h⟩
theorem say2 {sp : Sp} {E : XK} {i j : Nat} {σ : L2.St} {H : Hp} {Q : VK} {x y : V} (hi : σ[i]? = some (some x)) (hj : σ[j]? = some (some y)) (h : sp [x, y] H Q E) : tCall sp [] E (tCons (tVar i) (tCons (tVar j) tNil)) σ H Q := ⟨x, hi, y, hj, h⟩
theorem words_bad {cW cN : Addr} {x y : V} {Tx Ty : String} {H : Hp} {Q : VK} {E : XK} (hx : Thing K H x Tx) (hy : Thing K H y Ty) (hl : ∀ z, x = .str z → z.length ≤ 100000) (ha : alphV x = false)
    (e : ∀ H' d, Ex H H' → H' d = none → E (.ref cW) (some d) (upd H' d (.xd [("why", .str "not an alphabet")]))) : spWordsTo K cW cN [x, y] H Q E :=
  ⟨x, y, Tx, Ty, rfl, hx, hy, hl, fun _ => e, fun h => (by rw [ha] at h; cases h), fun z n ez hz => by
    subst ez
    have h2 : alphS z = false := ha
    rw [hz] at h2
    cases h2⟩
theorem words_badN {cW cN : Addr} {z : Str} {y : V} {Ty : String} {H : Hp} {Q : VK} {E : XK} (hz : alphS z = true) (hy : Thing K H y Ty) (hl : z.length ≤ 100000) (hb : between 0 60 y = false)
    (e : ∀ H' d, Ex H H' → H' d = none → E (.ref cN) (some d) (upd H' d (.xd [("why", .str "not a length of words")]))) : spWordsTo K cW cN [.str z, y] H Q E :=
  ⟨.str z, y, "str", Ty, rfl, .str z, hy, fun z2 e2 => by cases e2; exact hl, fun h => (by
    have h2 : alphS z = false := h
    rw [hz] at h2
    cases h2), fun _ _ => e, fun z2 n ez hz2 ey hn => by
    subst ey
    have h2 : (decide ((0 : Int) ≤ (n : Int)) && decide ((n : Int) ≤ 60)) = false := hb
    rw [decide_eq_true (by omega), decide_eq_true (by omega)] at h2
    cases h2⟩
theorem not_alph {z : Str} (h : alphS z = true) : 1 ≤ z.length ∧ z.length ≤ 6 ∧ (∀ c ∈ z.cps.toList, letC c = true) ∧ z.cps.toList.Pairwise (· < ·) := by
  have h2 : ((decide (1 ≤ z.length) && decide (z.length ≤ 6)) && (z.cps.toList.all letC && rising z.cps.toList)) = true := h
  simp only [Bool.and_eq_true, decide_eq_true_eq, List.all_eq_true] at h2
  exact ⟨h2.1.1, h2.1.2, h2.2.1, rising_pair h2.2.2⟩
theorem last_cut {z : Str} (h : 1 ≤ z.length) : ∃ (l : List Nat) (c : Nat), z.cps.toList = l ++ [c] ∧ (cutS z (some (-1)) none).cps.toList = [c] := by
  have hl := len_toList z
  have hne : z.cps.toList ≠ [] := fun e => by
    rw [e] at hl
    simp at hl
    omega
  obtain ⟨l, c, e⟩ : ∃ (l : List Nat) (c : Nat), z.cps.toList = l ++ [c] := ⟨z.cps.toList.dropLast, z.cps.toList.getLast hne, (List.dropLast_concat_getLast hne).symm⟩
  refine ⟨l, c, e, ?_⟩
  unfold cutS
  rw [HT.sIx_none]
  have e1 : HT.sIx z.length 0 (some (-1)) = z.length - 1 := by
    show (if (-1 : Int) < 0 then ((-1 : Int) + (z.length : Int)).toNat else min (-1 : Int).toNat z.length) = _
    rw [if_pos (by decide)]
    omega
  rw [e1]
  show List.take (z.length - (z.length - 1)) (List.drop (z.length - 1) z.cps.toList) = _
  rw [e, List.length_append] at hl
  have hl2 : z.length = l.length + 1 := hl.symm
  rw [e, hl2]
  show List.take (l.length + 1 - l.length) (List.drop l.length (l ++ [c])) = _
  rw [List.drop_left]
  have : l.length + 1 - l.length = 1 := by omega
  rw [this]
  rfl
theorem odd_twice {z : Str} (hz : alphS z = true) : alphS (z ++ cutS z (some (-1)) none) = false := by
  cases hb : alphS (z ++ cutS z (some (-1)) none) with
  | false => rfl
  | true =>
    obtain ⟨l, c, e1, e2⟩ := last_cut (not_alph hz).1
    have hp := (not_alph hb).2.2.2
    rw [app_toList, e1, e2, List.append_assoc, List.pairwise_append] at hp
    have := hp.2.1
    simp at this
theorem odd_blank {z : Str} : alphS (z ++ Str.ofString " ") = false := by
  cases hb : alphS (z ++ Str.ofString " ") with
  | false => rfl
  | true =>
    have h1 := (not_alph hb).2.2.1 32 (by rw [app_toList]; exact List.mem_append_right _ List.mem_cons_self)
    exact absurd h1 (by decide)
def spRefused (T : List (Addr × Str)) : Sp := fun vs H Q _ => ∃ (m L C : Addr) (z : Str), vs = [.ref m, .str z] ∧ MS m L C H ∧ Tabs T H ∧ alphS z = true ∧ ∀ H', RT T m L C H H' → Q (.bl true) H'
abbrev s_refused_right : Stmt := top 26
theorem sc_refused_right : FnScope ["_law_m", "_law_letters_here", "_law_found", "_law_odd", "_law_size"] ["_law_m", "_law_letters_here"] (defScope s_refused_right) := ⟨rfl, rfl, rfl, by decide +kernel, rfl, by decide +kernel, by decide +kernel⟩
theorem ok_refused_right {f c Pt cN cR cW cF : Addr} {fd : FuncData} (F : FnP K "_law_refused_right" s_refused_right f fd) (hc : fd.code = .ref c) (TB : TabB base mg c Pt) (hmT : (Pt, lamQ "_law_refused_right") ∈ T) (hu : ∀ p ∈ T, p.1 = Pt → p.2 = lamQ "_law_refused_right")
    (SF : SaidF K cN cR cW cF) (gN : mg "BadNumber" = some (.ref cN)) (gR : mg "BadRing" = some (.ref cR)) (gW : mg "BadWord" = some (.ref cW)) (gF : mg "Refused" = some (.ref cF)) {f_of : Addr} {fd_of : FuncData} (G_of : FnOk P w K mg base CX0 3 f_of fd_of ["_law_m", "_law_some"] (spOf K)) (F_of : FnP K "_law_of" s_of f_of fd_of) (g_of : mg "_law_of" = some (.ref f_of)) {f_words_to : Addr} {fd_words_to : FuncData} (G_words_to : FnOk P w K mg base (L2.CX P w) 3 f_words_to fd_words_to ["alphabet", "length"] (spWordsTo K cW cN)) (F_words_to : FnP K "words_to" s_words_to f_words_to fd_words_to) (g_words_to : mg "words_to" = some (.ref f_words_to)) {f_said : Addr} {fd_said : FuncData} (F_said : FnP K "_law_said" s_said f_said fd_said) (g_said : mg "_law_said" = some (.ref f_said)) (z_isinstance : mg "isinstance" = none) (z_list : mg "list" = none) (z_ValueError : mg "ValueError" = none) : FnOk P w K mg base CX0 6 f fd ["_law_m", "_law_letters_here"] (spRefused T) := by
  have b_of : Binds K fd_of ["_law_m", "_law_some"] [] := F_of.bindsN fun _ _ _ _ _ _ us hl => match us, hl with | [_, _], _ => rfl
  have b_words_to : Binds K fd_words_to ["alphabet", "length"] [] := F_words_to.bindsN fun _ _ _ _ _ _ us hl => match us, hl with | [_, _], _ => rfl
  have b_said : Binds K fd_said ["_law_call"] [] := F_said.bindsN fun _ _ _ _ _ _ us hl => match us, hl with | [_], _ => rfl
  obtain ⟨oc_s, od_s, dV_s, kV_s, doc_s, pm_s, an_s, cdv_s, ct_s, osl_s, rfl, lk_said, hcg_said, _, _⟩ := id F_said.ex
  refine F.okC sc_refused_right (fun vs H Q E h => ?_) (fun cdv A outer s H vs Q E hcd hr5 h => ?_)
  · obtain ⟨m, L, C, z, rfl, _⟩ := h
    rfl
  · obtain ⟨m, L, C, z, rfl, hM, hT, hz, q⟩ := h
    have ecd : cdv = .ref c := hcd.symm.trans hc
    have hr := hr5
    have hr_of := hr.mono (by decide : 3 ≤ 5)
    refine ⟨_, PSs.nox (pss_cons (ps_set (i := 3) sc_refused_right.nd rfl (Or.inr rfl) (pe_call G_of hr_of rfl g_of F_of.kp b_of .nil pass0 (pa_cons (pv 0) (pa_cons (pe_lst (pa_cons pe_str (pa_cons (pe_op op_add_str (pv 1) (pe_slice sl_str (pv 1) (po_some (pe_un un_neg pe_int)) po_none)) (pa_cons pe_str (pa_cons pe_str (pa_cons pe_str (pa_cons pe_non (pa_cons pe_int (pa_cons (pe_callTy (call_list_strS rfl) (by rfl) z_list PyProof.Rows.boot_list (pa_cons (pv 1) pa_nil)) (pa_cons (pe_op op_add_str (pv 1) pe_str) pa_nil)))))))))) pa_nil))))
      (pss_cons (ps_set (i := 4) sc_refused_right.nd rfl (Or.inr rfl) (pe_call G_of hr_of rfl g_of F_of.kp b_of .nil pass0 (pa_cons (pv 0) (pa_cons (pe_lst (pa_cons (pe_op op_sub pe_int pe_int) (pa_cons pe_int (pa_cons pe_bl (pa_cons pe_non (pa_cons pe_str (pa_cons (pe_tup (pa_cons pe_int pa_nil)) (pa_cons (pe_op op_pow pe_int pe_int) (pa_cons pe_bl pa_nil))))))))) pa_nil))))
      (pss_cons (ps_set (i := 2) sc_refused_right.nd rfl (Or.inl rfl) (pe_lst (pa_cons (pe_lamcall (T := T) (c := c) (P := Pt) (k := 3) (t := fun E => tCall (spWordsTo K cW cN) [] E (tCons (tVar 3) (tCons (tC (.int 1)) tNil))) rfl g_said F_said.kp lk_said hcg_said b_said sc_said rfl (Or.inl rfl) (said_gives SF gN gR gW gF z_isinstance z_ValueError) TB ecd hmT hu hr5 (lamS_by (by rfl)) rfl (fun _ _ _ _ _ => by first | rfl | with_unfolding_all rfl)
        (fun A outer s H E f c' hr' => pe_call G_words_to hr' rfl g_words_to F_words_to.kp b_words_to .nil (passes_call (takes_of rfl rfl rfl rfl) fun _ _ _ _ h => h) (pa_cons (pv 3) (pa_cons pe_int pa_nil)))) pa_nil)))
      (pss_cons (ps_expr (pe_bm PySem.F.plainAttrs_list PySem.F.slot_list_append PySem.F.type_list_append mt_append (pv 2) (pa_cons (pe_lamcall (T := T) (c := c) (P := Pt) (k := 3) (t := fun E => tCall (spWordsTo K cW cN) [] E (tCons (tVar 3) (tCons (tVar 4) tNil))) rfl g_said F_said.kp lk_said hcg_said b_said sc_said rfl (Or.inl rfl) (said_gives SF gN gR gW gF z_isinstance z_ValueError) TB ecd hmT hu hr5 (lamS_by (by rfl)) rfl (fun _ _ _ _ _ => by first | rfl | with_unfolding_all rfl)
        (fun A outer s H E f c' hr' => pe_call G_words_to hr' rfl g_words_to F_words_to.kp b_words_to .nil (passes_call (takes_of rfl rfl rfl rfl) fun _ _ _ _ h => h) (pa_cons (pv 3) (pa_cons (pv 4) pa_nil)))) pa_nil)))
      (pss_cons (ps_expr (pe_bm PySem.F.plainAttrs_list PySem.F.slot_list_append PySem.F.type_list_append mt_append (pv 2) (pa_cons (pe_lamcall (T := T) (c := c) (P := Pt) (k := 3) (t := fun E => tCall (spWordsTo K cW cN) [] E (tCons (tVar 1) (tCons (tVar 4) tNil))) rfl g_said F_said.kp lk_said hcg_said b_said sc_said rfl (Or.inl rfl) (said_gives SF gN gR gW gF z_isinstance z_ValueError) TB ecd hmT hu hr5 (lamS_by (by rfl)) rfl (fun _ _ _ _ _ => by first | rfl | with_unfolding_all rfl)
        (fun A outer s H E f c' hr' => pe_call G_words_to hr' rfl g_words_to F_words_to.kp b_words_to .nil (passes_call (takes_of rfl rfl rfl rfl) fun _ _ _ _ h => h) (pa_cons (pv 1) (pa_cons (pv 4) pa_nil)))) pa_nil)))
      (pss_one (ps_ret (pe_cmpR (op_eqD hr.units) (pv 2) (pe_lst (pa_cons pe_str (pa_cons pe_str (pa_cons pe_str pa_nil)))) (nomark _))))))))), ?_⟩
    have za := not_alph hz
    have big : (3000 : Nat) ≤ sizeLine := by decide
    -- what is no alphabet
    refine ⟨_, rfl, _, rfl, _, rfl, _, rfl, _, rfl, z, rfl, by omega, _, _, rfl, rfl, ?_, ?_⟩
    · have := cutS_length z (some (-1)) none
      omega
    refine ⟨_, rfl, z, rfl, by omega, fun lz hlz => ?_⟩
    have rz : RT T m L C H (upd H lz (.lst (z.cps.toList.map fun c => V.str ⟨#[c]⟩))) := .ex hM hT (Ex.new hlz)
    refine ⟨_, rfl, _, _, rfl, rfl, ?_, (by show 9 ≤ sizeLine; decide), fun lo hlo => ?_⟩
    · have : (Str.ofString " ").length = 1 := rfl
      omega
    have rzo := RT.new (o := .lst [V.str (Str.ofString ""), V.str (z ++ cutS z (some (-1)) none), V.str (Str.ofString "abcdefg"), V.str (Str.ofString "A"), V.str (Str.ofString " "), V.non, V.int 5, V.ref lz, V.str (z ++ Str.ofString " ")]) (RT.refl rz.ms rz.tb) hlo
    have r1 := rz.trans rzo
    refine ⟨m, L, C, _, rfl, r1.ms, .inl ⟨lo, _, rfl, Sta.of (Fr.fresh (F := frM m L C) rz.ms hlo) upd_same, (by show 0 < 9; decide), (by show 9 < 1000000; decide), fun i odd H1 hodd rr => ?_⟩⟩
    have r11 := RT.ofR r1.ms r1.tb rr
    have r2 := r1.trans r11
    have fodd : alphV odd = false ∧ (∀ z', odd = .str z' → z'.length ≤ 100000) ∧ ∃ To, ∀ G, RT T m L C H1 G → Thing K G odd To := by
      have hm := List.mem_of_getElem? hodd
      simp only [List.mem_cons, List.not_mem_nil, or_false] at hm
      have text : ∀ y : Str, y.length ≤ 100000 → alphS y = false → odd = .str y → alphV odd = false ∧ (∀ z', odd = .str z' → z'.length ≤ 100000) ∧ ∃ To, ∀ G, RT T m L C H1 G → Thing K G odd To := fun y hy ha e => by
        subst e
        exact ⟨ha, fun z' e' => by cases e'; exact hy, "str", fun _ _ => .str y⟩
      have hcl := cutS_length z (some (-1)) none
      rcases hm with h | h | h | h | h | h | h | h | h
      · exact text _ (by decide) (by decide +kernel) h
      · exact text _ (by rw [str_app_len]; omega) (odd_twice hz) h
      · exact text _ (by decide) (by decide +kernel) h
      · exact text _ (by decide) (by decide +kernel) h
      · exact text _ (by decide) (by decide +kernel) h
      · subst h
        exact ⟨rfl, fun _ e => (by cases e), "NoneType", fun _ _ => .non⟩
      · subst h
        exact ⟨rfl, fun _ e => (by cases e), "int", fun _ _ => .int 5⟩
      · subst h
        exact ⟨rfl, fun _ e => (by cases e), "list", fun G g => .lst (rz.at hM (Free.none hlz) ((rzo.trans r11).trans g) upd_same nt_lst)⟩
      · exact text _ (by rw [str_app_len]; have : (Str.ofString " ").length = 1 := rfl; omega) odd_blank h
    obtain ⟨oa, ol, To, oT⟩ := fodd
    -- what is no length
    refine ⟨_, rfl, _, _, rfl, rfl, (by show 1 ≤ sizeLine; decide), fun tp htp => ?_⟩
    have rt1 := RT.new (o := .tup [.int 1]) (RT.refl r2.ms r2.tb) htp
    refine ⟨_, _, rfl, rfl, ⟨by decide, by decide, by decide⟩, (by show 8 ≤ sizeLine; decide), fun ls hls => ?_⟩
    have rt2 := RT.new (o := .lst [V.int (0 - 1), V.int 61, V.bl true, V.non, V.str (Str.ofString "2"), V.ref tp, V.int (10 ^ (18 : Int).toNat), V.bl false]) (RT.refl rt1.ms rt1.tb) hls
    have r3 := (r2.trans rt1).trans rt2
    refine ⟨m, L, C, _, rfl, r3.ms, .inl ⟨ls, _, rfl, Sta.of (Fr.fresh (F := frM m L C) rt1.ms hls) upd_same, (by show 0 < 8; decide), (by show 8 < 1000000; decide), fun i2 sz H2 hsz rr2 => ?_⟩⟩
    have r33 := RT.ofR r3.ms r3.tb rr2
    have r4 := r3.trans r33
    have r14 : RT T m L C H1 H2 := (rt1.trans rt2).trans r33
    have fsz : between 0 60 sz = false ∧ ∃ Ts, ∀ G, RT T m L C H2 G → Thing K G sz Ts := by
      have hm := List.mem_of_getElem? hsz
      simp only [List.mem_cons, List.not_mem_nil, or_false] at hm
      rcases hm with h | h | h | h | h | h | h | h
      · subst h
        exact ⟨by decide +kernel, "int", fun _ _ => .int _⟩
      · subst h
        exact ⟨by decide +kernel, "int", fun _ _ => .int _⟩
      · subst h
        exact ⟨rfl, "bool", fun _ _ => .bl _⟩
      · subst h
        exact ⟨rfl, "NoneType", fun _ _ => .non⟩
      · subst h
        exact ⟨rfl, "str", fun _ _ => .str _⟩
      · subst h
        exact ⟨rfl, "tuple", fun G g => .tup (rt1.at r2.ms (Free.none htp) ((rt2.trans r33).trans g) upd_same fun _ z => by cases z)⟩
      · subst h
        exact ⟨by decide +kernel, "int", fun _ _ => .int _⟩
      · subst h
        exact ⟨rfl, "bool", fun _ _ => .bl _⟩
    obtain ⟨sb, Ts, sT⟩ := fsz
    -- odd, 1
    refine ⟨r4.tb, fun H3 eN hT3 Qn => ?_⟩
    have s3 := RT.extN r4.ms hT3 eN
    refine say1 rfl (words_bad (oT H3 (r14.trans s3)) (.int 1) ol oa fun G1 d1 g1 hd1 => ⟨d1, _, "word", rfl, upd_same, .inr ⟨rfl, rfl⟩, fun G2 g2 => ?_⟩)
    have s4 := s3.trans (.ex s3.ms s3.tb ((g1.trans (Ex.new hd1)).trans g2))
    refine ⟨(by show 1 ≤ sizeLine; decide), fun l hl => ?_⟩
    have s5 := s4.trans (RT.new (o := .lst [.str "word"]) (RT.refl s4.ms s4.tb) hl)
    have fl : Free H2 l := s4.free r4.ms (Free.none hl)
    have hl5 : (upd G2 l (.lst [.str "word"])) l = some (.lst [.str "word"]) := upd_same
    generalize (upd G2 l (.lst [.str "word"])) = H5 at s5 hl5 ⊢
    -- odd, size
    refine ⟨_, rfl, .inl ⟨rfl, _, SqL.of hl5⟩, s5.tb, fun H6 eN6 hT6 Qn => ?_⟩
    have s56 := RT.extN s5.ms hT6 eN6
    have s6 := s5.trans s56
    refine say2 rfl rfl (words_bad (oT H6 (r14.trans s6)) (sT H6 s6) ol oa fun G1 d1 g1 hd1 => ⟨d1, _, "word", rfl, upd_same, .inr ⟨rfl, rfl⟩, fun G3 g3 => ?_⟩)
    have s63 := RT.ex s6.ms s6.tb ((g1.trans (Ex.new hd1)).trans g3)
    have hl7 := s5.at r4.ms fl (s56.trans s63) hl5 nt_lst
    have s7 := (s6.trans s63).mut (ys := [.str "word"] ++ [.str "word"]) r4.ms fl hl7
    refine ⟨l, _, _, rfl, rfl, hl7, (by show 1 < sizeLine; decide), ?_⟩
    have hl8 : (upd G3 l (.lst ([.str "word"] ++ [.str "word"]))) l = some (.lst [.str "word", .str "word"]) := upd_same
    generalize (upd G3 l (.lst ([.str "word"] ++ [.str "word"]))) = H8 at s7 hl8 ⊢
    -- the letters, size
    refine ⟨_, rfl, .inl ⟨rfl, _, SqL.of hl8⟩, s7.tb, fun H9 eN9 hT9 Qn => ?_⟩
    have s79 := RT.extN s7.ms hT9 eN9
    have s9 := s7.trans s79
    refine say2 rfl rfl (words_badN hz (sT H9 s9) (by omega) sb fun G1 d1 g1 hd1 => ⟨d1, _, "number", rfl, upd_same, .inl ⟨rfl, rfl⟩, fun G4 g4 => ?_⟩)
    have s94 := RT.ex s9.ms s9.tb ((g1.trans (Ex.new hd1)).trans g4)
    have hl9 := s7.at r4.ms fl (s79.trans s94) hl8 nt_lst
    have s10 := (s9.trans s94).mut (ys := [.str "word", .str "word"] ++ [.str "number"]) r4.ms fl hl9
    refine ⟨l, _, _, rfl, rfl, hl9, (by show 2 < sizeLine; decide), ?_⟩
    have hl10 : (upd G4 l (.lst ([.str "word", .str "word"] ++ [.str "number"]))) l = some (.lst (([Str.ofString "word", Str.ofString "word", Str.ofString "number"] : List Str).map V.str)) := upd_same
    generalize (upd G4 l (.lst ([.str "word", .str "word"] ++ [.str "number"]))) = H10 at s10 hl10 ⊢
    refine ⟨_, rfl, (by show 3 ≤ sizeLine; decide), fun r hr => ?_⟩
    have lr : l ≠ r := ne_of_none hl10 hr
    have hl11 : (upd H10 r (.lst [.str "word", .str "word", .str "number"])) l = some (.lst (([Str.ofString "word", Str.ofString "word", Str.ofString "number"] : List Str).map V.str)) := by rw [upd_ne lr]; exact hl10
    have hr11 : (upd H10 r (.lst [.str "word", .str "word", .str "number"])) r = some (.lst (([Str.ofString "word", Str.ofString "word", Str.ofString "number"] : List Str).map V.str)) := upd_same
    have s11 := s10.new (o := .lst [.str "word", .str "word", .str "number"]) hr
    refine ⟨.list (([Str.ofString "word", Str.ofString "word", Str.ofString "number"] : List Str).map PyData.str), .list (([Str.ofString "word", Str.ofString "word", Str.ofString "number"] : List Str).map PyData.str), .lst (SqL.of hl11) (dp_strs _), .lst (SqL.of hr11) (dp_strs _), by decide +kernel, by decide +kernel, ?_⟩
    rw [show PyData.eqv (.list (([Str.ofString "word", Str.ofString "word", Str.ofString "number"] : List Str).map PyData.str)) (.list (([Str.ofString "word", Str.ofString "word", Str.ofString "number"] : List Str).map PyData.str)) = true by decide +kernel]
    exact q _ (r4.trans s11)
end
end D1
end
section
set_option Elab.async false
set_option linter.all false
set_option maxRecDepth 100000
set_option maxHeartbeats 8000000
/-! S8: law -/
namespace D1
open PySem PySem.Spec PyProof.Rows L2 LamX Evl
section
variable {P : Program} {w : World} {K : PySem.W.Frag} {mg : Str → Option Value} {base : Heap} {T : List (Addr × Str)}
def spLaw (K : PySem.W.Frag) (T : List (Addr × Str)) : Sp := fun vs H Q _ => ∃ (a : Addr) (ns : List Int), vs = [.ref a] ∧ SqL K H a (ns.map V.int) ∧ ns.length ≤ 63 ∧ Tabs T H ∧ ∀ H', Q (.bl true) H'
abbrev s_law : Stmt := top 27
theorem sc_law : FnScope ["_law_script", "_law_m", "_law_turn", "_law_letters_here"] ["_law_script"] (defScope s_law) := ⟨rfl, rfl, rfl, by decide +kernel, rfl, by decide +kernel, by decide +kernel⟩
theorem ok_law {f : Addr} {fd : FuncData} (F : FnP K "law" s_law f fd) {f_begun : Addr} {fd_begun : FuncData} (G_begun : FnOk P w K mg base CX0 1 f_begun fd_begun ["_law_script"] (spBegun K)) (F_begun : FnP K "_law_begun" s_begun f_begun fd_begun) (g_begun : mg "_law_begun" = some (.ref f_begun)) {f_letters : Addr} {fd_letters : FuncData} (G_letters : FnOk P w K mg base CX0 3 f_letters fd_letters ["_law_m"] spLetters) (F_letters : FnP K "_law_letters" s_letters f_letters fd_letters) (g_letters : mg "_law_letters" = some (.ref f_letters)) {f_sorted_right : Addr} {fd_sorted_right : FuncData} (G_sorted_right : FnG P w K mg base CX0 4 f_sorted_right fd_sorted_right ["_law_m", "_law_letters_here"] (spSorted T)) (F_sorted_right : FnP K "_law_sorted_right" s_sorted_right f_sorted_right fd_sorted_right) (g_sorted_right : mg "_law_sorted_right" = some (.ref f_sorted_right)) {f_all_right : Addr} {fd_all_right : FuncData} (G_all_right : FnOk P w K mg base CX0 6 f_all_right fd_all_right ["_law_m", "_law_letters_here"] (spAll T)) (F_all_right : FnP K "_law_all_right" s_all_right f_all_right fd_all_right) (g_all_right : mg "_law_all_right" = some (.ref f_all_right)) {f_refused_right : Addr} {fd_refused_right : FuncData} (G_refused_right : FnOk P w K mg base CX0 6 f_refused_right fd_refused_right ["_law_m", "_law_letters_here"] (spRefused T)) (F_refused_right : FnP K "_law_refused_right" s_refused_right f_refused_right fd_refused_right) (g_refused_right : mg "_law_refused_right" = some (.ref f_refused_right)) (z_range : mg "range" = none) (z_min : mg "min" = none) (z_len : mg "len" = none) : FnG P w K mg base CX0 7 f fd ["_law_script"] (spLaw K T) := by
  have b_begun : Binds K fd_begun ["_law_script"] [] := F_begun.bindsN fun _ _ _ _ _ _ us hl => match us, hl with | [_], _ => rfl
  have b_letters : Binds K fd_letters ["_law_m"] [] := F_letters.bindsN fun _ _ _ _ _ _ us hl => match us, hl with | [_], _ => rfl
  have b_sorted_right : Binds K fd_sorted_right ["_law_m", "_law_letters_here"] [] := F_sorted_right.bindsN fun _ _ _ _ _ _ us hl => match us, hl with | [_, _], _ => rfl
  have b_all_right : Binds K fd_all_right ["_law_m", "_law_letters_here"] [] := F_all_right.bindsN fun _ _ _ _ _ _ us hl => match us, hl with | [_, _], _ => rfl
  have b_refused_right : Binds K fd_refused_right ["_law_m", "_law_letters_here"] [] := F_refused_right.bindsN fun _ _ _ _ _ _ us hl => match us, hl with | [_, _], _ => rfl
  refine Fun.okG F.toFun sc_law (fun vs H Q E h => ?_) (fun cdv A outer s H vs Q E hr hG h => ?_)
  · obtain ⟨a, ns, rfl, _⟩ := h
    rfl
  · obtain ⟨a, ns, rfl, hS, hl, hT, q⟩ := h
    have hr_begun := hr.mono (by decide : 1 ≤ 6)
    have hr_letters := hr.mono (by decide : 3 ≤ 6)
    have hr_sorted_right := hr.mono (by decide : 4 ≤ 6)
    have hr_all_right := hr.mono (by decide : 6 ≤ 6)
    have hr_refused_right := hr.mono (by decide : 6 ≤ 6)
    refine ⟨_, PSs.nox (pss_cons (ps_set (i := 1) sc_law.nd rfl (Or.inl rfl) (pe_call G_begun hr_begun rfl g_begun F_begun.kp b_begun .nil pass0 (pa_cons (pv 0) pa_nil)))
      (pss_cons (ps_for PassesOwn.never rfl (pi_range1 rfl z_range (pa_cons (pe_op op_add pe_int (pe_callB (call_min2 rfl) (by rfl) z_min (by decide +kernel) (pa_cons pe_int (pa_cons (pe_op op_fdiv (pe_callB call_len_seq (by rfl) z_len PySem.boot_len (pa_cons (pv 0) pa_nil)) pe_int) pa_nil)))) pa_nil)) (pg_name (i := 2) sc_law.nd rfl (Or.inl rfl)) (pss_cons (ps_set (i := 3) sc_law.nd rfl (Or.inl rfl) (pe_call G_letters hr_letters rfl g_letters F_letters.kp b_letters .nil pass0 (pa_cons (pv 1) pa_nil)))
      (pss_one (ps_if (PW.pt (pw_or (pt_not (pt_val (pe_callG G_sorted_right hr_sorted_right hG rfl g_sorted_right F_sorted_right.kp b_sorted_right .nil pass0 (pa_cons (pv 1) (pa_cons (pv 3) pa_nil))))) (pw_or (pt_not (pt_val (pe_call G_all_right hr_all_right rfl g_all_right F_all_right.kp b_all_right .nil pass0 (pa_cons (pv 1) (pa_cons (pv 3) pa_nil))))) (pw_or1 (pt_not (pt_val (pe_call G_refused_right hr_refused_right rfl g_refused_right F_refused_right.kp b_refused_right .nil pass0 (pa_cons (pv 1) (pa_cons (pv 3) pa_nil))))))))) (pss_one (ps_ret pe_bl)) pss_nil))))
      (pss_one (ps_ret pe_bl)))), ?_⟩
    refine ⟨_, rfl, a, ns, rfl, hS, hl, fun m L C H1 e1 _ _ _ hM => ?_⟩
    have hT1 := hT.ext e1
    have hS1 := ex_l e1 hS
    refine ⟨_, rfl, a, _, rfl, .inl hS1, _, _, rfl, rfl, ⟨by decide, by decide⟩, _, _, rfl, _, _, rfl, rfl, _, rfl, ?_, ?_, ?_⟩
    · split <;> omega
    · split <;> omega
    refine for_it (walk_range (lo := 0)) (fun i σ' H' => ∃ x2 x3, σ' = [some (.ref a), some (.ref m), x2, x3] ∧ MS m L C H' ∧ Tabs T H') ⟨none, none, rfl, hM, hT1⟩ (fun _ _ _ _ _ => True.intro) ?_ ?_
    · rintro i x σ' _ H2 hi ⟨x2, x3, rfl, hM2, hT2⟩ ⟨rfl, rfl⟩
      refine ⟨_, rfl, m, L, C, rfl, hM2, fun z H3 hz r3 => ?_⟩
      have r := RT.ofR hM2 hT2 r3
      refine ⟨_, rfl, _, rfl, m, L, C, z, rfl, r.ms, r.tb, hz, fun H4 r4 => ⟨true, rfl, no_of rfl ?_⟩⟩
      refine ⟨_, rfl, _, rfl, m, L, C, z, rfl, r4.ms, r4.tb, hz, fun H5 r5 => ⟨true, rfl, no_of rfl ?_⟩⟩
      refine ⟨_, rfl, _, rfl, m, L, C, z, rfl, r5.ms, r5.tb, hz, fun H6 r6 => ⟨true, rfl, no_of rfl ?_⟩⟩
      exact ⟨_, _, rfl, r6.ms, r6.tb⟩
    · rintro σ' H2 ⟨x2, x3, rfl, hM2, hT2⟩
      exact q H2
end
end D1
end
section
set_option Elab.async false
set_option linter.all false
set_option maxRecDepth 100000
set_option maxHeartbeats 4000000
/-! K1: what is asked of the written part, as one Bool -/
namespace T3
open PySem L2 PySem.VX Evl D1 He
open PySem L2 PySem.VX Evl
open PySem.W in
def xbB (K : Frag) (C : Addr) (bmB : List Value) (newId : String) (fn : List Str) : Bool :=
  excInitIn K C bmB newId && (excOver K C bmB && (hasDictIn K C && (decide (findIn K (.ref C) "__setattr__" = some (some (.builtin "object.__setattr__"))) && (decide (findIn K (.ref C) "__getattribute__" = some (some (.builtin "BaseException.__getattribute__"))) &&
    (decide (findIn K (.ref C) "__getattr__" = some none) && (decide (findIn K (.ref C) "__class__" = some (some (.builtin "object.__class__"))) && (decide (mroIn K C (.type "object") = some true) && (fn.all (fun f => decide (findIn K (.ref C) f = some none)) &&
      (keepIn K (.ref C) && (decide (subIn K (.ref C) (.type "BaseException") = some true) && decide (typeIn K (.ref C) = some (.type "type"))))))))))))
theorem xbB_ok {K : PySem.W.Frag} {C : Addr} {bmB : List Value} {newId : String} {fn : List Str} (h : xbB K C bmB newId fn = true) : XB K bmB newId C fn := by
  unfold xbB at h
  obtain ⟨h1, h⟩ := Bool.and_eq_true_iff.mp h
  obtain ⟨h2, h⟩ := Bool.and_eq_true_iff.mp h
  obtain ⟨h3, h⟩ := Bool.and_eq_true_iff.mp h
  obtain ⟨h4, h⟩ := Bool.and_eq_true_iff.mp h
  obtain ⟨h5, h⟩ := Bool.and_eq_true_iff.mp h
  obtain ⟨h6, h⟩ := Bool.and_eq_true_iff.mp h
  obtain ⟨h7, h⟩ := Bool.and_eq_true_iff.mp h
  obtain ⟨h8, h⟩ := Bool.and_eq_true_iff.mp h
  obtain ⟨h9, h⟩ := Bool.and_eq_true_iff.mp h
  obtain ⟨h10, h⟩ := Bool.and_eq_true_iff.mp h
  obtain ⟨h11, h12⟩ := Bool.and_eq_true_iff.mp h
  exact ⟨h1, h2, h3, of_decide_eq_true h4, of_decide_eq_true h5, of_decide_eq_true h6, of_decide_eq_true h7, of_decide_eq_true h8, fun f hf => of_decide_eq_true (List.all_eq_true.mp h9 f hf), h10, of_decide_eq_true h11, of_decide_eq_true h12⟩
section
variable {prog : Program} {w : World} {K : PySem.W.Frag} {mg : Str → Option Value} {C fI : Addr} {bmB : List Value} {B newId initId : String} {qual nm : Str} {fd : FuncData}
theorem own_why (FB : ExcBaseFacts B newId initId bmB) (SF : StoreFacts B bmB "object.__setattr__" "object") (T : XB K bmB newId C [("why" : Str)]) (g : mg nm = some (.ref C)) (iC : PySem.W.findIn K (.ref C) "__init__" = some (some (.ref fI))) (tI : PySem.W.typeIn K (.ref fI) = some (.type "function"))
    (D : Ini1 K fI qual "why" fd) : OwnX prog w K mg nm C [("why" : Str)] := by
  have bp : ∀ (s : Shared) (x v : Value), BindsTo s fd ⟨[x, v], []⟩ [("self", x), ("why", v)] := fun s x v => by
    obtain ⟨oc, od, doc, pm, an, cdv, ct, osl, p1, p2, q1, q2, q3, q4, rfl, _⟩ := D.ex
    exact .of_eq (by first | rfl | with_unfolding_all rfl)
  have bk : ∀ (s : Shared) (x v : Value), BindsTo s fd ⟨[x], [("why", v)]⟩ [("self", x), ("why", v)] := fun s x v => by
    obtain ⟨oc, od, doc, pm, an, cdv, ct, osl, p1, p2, q1, q2, q3, q4, rfl, _⟩ := D.ex
    exact .of_eq (by first | rfl | with_unfolding_all rfl)
  refine ⟨g, ⟨bmB, B, newId, initId, fI, FB, T, iC, tI, fun us hl => ?_, fun us hl => ?_⟩, by decide⟩
  · match us, hl with
    | [v], _ => exact fun A R s x t0 X hlim hx hnx hroom hq => init_why SF T D X hlim hx hroom (bp s _ v) hq
  · match us, hl with
    | [v], _ => exact fun A R s x t0 X hlim hx hnx hroom hq => init_why SF T D X hlim hx hroom (bk s _ v) hq
end
def bmV : List Value := [.type "ValueError", .type "Exception", .type "BaseException", .type "object"]
def kwN (K : PySem.W.Frag) (p : Str × Option Str) : Bool := match K.lookup (fAd K p) with
  | some ⟨_, _, .func fd, _⟩ => (match fd.kwdefaults with
    | .none => true
    | _ => false)
  | _ => false
theorem kwN_ok {K : PySem.W.Frag} {p : Str × Option Str} {oc : Value} {od : Option Addr} {osl : Array (Option Value)} {x q : Str} {pa : Arguments} {b : List Stmt} {sc : Scope} {dV kV doc pm cd ct : Value} {an : Option Addr}
    (lk : K.lookup (fAd K p) = some ⟨oc, od, .func (PySem.W.fnOf x q pa b sc dV kV doc pm an cd ct), osl⟩) (h : kwN K p = true) : kV = .none := by
  unfold kwN at h
  rw [lk] at h
  cases kV with
  | none => rfl
  | _ => cases h
def iniB (K : PySem.W.Frag) (x : Str) : Bool := kwN K (x, some "__init__") && (decide (PySem.W.findIn K (.ref (ga K x)) "__init__" = some (some (.ref (fAd K (x, some "__init__"))))) && decide (PySem.W.typeIn K (.ref (fAd K (x, some "__init__"))) = some (.type "function")))
def excB (K : PySem.W.Frag) : Bool := decide (PySem.W.specialIn K (.builtin "object.__class__") "__get__" = some (some (.builtin "getset_descriptor.__get__"))) && decide (PySem.W.takesIn K (.builtin "object.__class__") = some true)
def saidB (K : PySem.W.Frag) (cN cR cW cF : Addr) : Bool :=
  decide (PySem.W.exmAny K (.ref cN) [.ref cN, .ref cR, .ref cW] = some true) && (decide (PySem.W.exmAny K (.ref cW) [.ref cN, .ref cR, .ref cW] = some true) &&
  (decide (PySem.W.kitOne K (.ref cN) (.ref cN) = some true) && (decide (PySem.W.kitOne K (.ref cN) (.ref cW) = some false) && (decide (PySem.W.kitOne K (.ref cN) (.ref cR) = some false) && (decide (PySem.W.kitOne K (.ref cN) (.ref cF) = some true) && (decide (PySem.W.kitOne K (.ref cN) (.type "ValueError") = some true) &&
  (decide (PySem.W.kitOne K (.ref cW) (.ref cN) = some false) && (decide (PySem.W.kitOne K (.ref cW) (.ref cW) = some true) && (decide (PySem.W.kitOne K (.ref cW) (.ref cR) = some false) && (decide (PySem.W.kitOne K (.ref cW) (.ref cF) = some true) && decide (PySem.W.kitOne K (.ref cW) (.type "ValueError") = some true)))))))))))
theorem exc_of {K : PySem.W.Frag} {C : Addr} {bm : List Value} {nw : String} {fn : List Str} (T : XB K bm nw C fn) (h : excB K = true) : ExcC K C := by
  obtain ⟨c1, c2⟩ := Bool.and_eq_true_iff.mp h
  exact ⟨T.ga, T.gg, T.exc, T.hd, T.ca, of_decide_eq_true c1, of_decide_eq_true c2, T.mo⟩
theorem said_of {K : PySem.W.Frag} {cN cR cW cF : Addr} (eN : ExcC K cN) (eW : ExcC K cW) (h : saidB K cN cR cW cF = true) : SaidF K cN cR cW cF := by
  unfold saidB at h
  simp only [Bool.and_eq_true, decide_eq_true_eq] at h
  obtain ⟨h1, h2, h3, h4, h5, h6, h7, h8, h9, h10, h11, h12⟩ := h
  exact ⟨eN, eW, h1, h2, h3, h4, h5, h6, h7, h8, h9, h10, h11, h12⟩
def tf : List He.Defn := [("shortlex", none), ("_law_all_right", none), ("_law_refused_right", none)]
def apart (K : PySem.W.Frag) : Bool := decide ((cT K ("shortlex", none)).2 ≠ (cT K ("_law_all_right", none)).2) && (decide ((cT K ("shortlex", none)).2 ≠ (cT K ("_law_refused_right", none)).2) && decide ((cT K ("_law_all_right", none)).2 ≠ (cT K ("_law_refused_right", none)).2))
def ex (K : PySem.W.Frag) : Bool := xbB K (ga K "BadNumber") bmV "ValueError.__new__" [("why" : Str)] && (xbB K (ga K "BadWord") bmV "ValueError.__new__" [("why" : Str)] && (iniB K "BadNumber" && (iniB K "BadWord" && (excB K && (saidB K (ga K "BadNumber") (ga K "BadRing") (ga K "BadWord") (ga K "Refused") && apart K)))))
end T3
end
section
set_option Elab.async false
set_option linter.all false
set_option maxRecDepth 100000
set_option maxHeartbeats 0
namespace W3
open PySem PySem.Spec PyProof.Rows L2 PySem.VX
abbrev prog3 : Program := PySem.Challenge.pw_semirail_k03_words_in_order
abbrev top (i : Nat) : Stmt := D1.top i
def dd (x : Str) (i : Nat) : He.DefD := ⟨(x, none), x, x, defArgs (top i), defBody (top i), defScope (top i), [], []⟩
def names : List PySem.Str := ["Refused", "BadRing", "BadNumber", "BadWord", "LONG", "_LETTERS", "_WORDS", "is_number", "is_whole", "is_letter", "is_alphabet", "shortlex", "words_to", "_law_mixed", "_law_begun", "_law_draw", "_law_of", "_law_letters", "_law_is_ahead", "_law_said", "_law_sorted_right", "_law_many", "_law_all_right", "_law_refused_right"]
def dfs : List (String × Nat) := [("is_number", 9), ("is_whole", 10), ("is_letter", 11), ("is_alphabet", 12), ("shortlex", 13), ("words_to", 14), ("_law_mixed", 16), ("_law_begun", 17), ("_law_draw", 18), ("_law_of", 19), ("_law_letters", 20), ("_law_is_ahead", 21), ("_law_said", 22), ("_law_sorted_right", 23), ("_law_many", 24), ("_law_all_right", 25), ("_law_refused_right", 26), ("law", 27)]
def dm (x : Str) (p1 p2 q1 q2 q3 q4 : Pos) : He.DefD := ⟨(x, some "__init__"), "__init__", x ++ ".__init__", fA "why" p1 p2, fB "why" q1 q2 q3 q4, fS "why", [], []⟩
def fn : List He.DefD := [dd "is_number" 9, dd "is_whole" 10, dd "is_letter" 11, dd "is_alphabet" 12, dd "shortlex" 13, dd "words_to" 14, dd "_law_mixed" 16, dd "_law_begun" 17, dd "_law_draw" 18, dd "_law_of" 19, dd "_law_letters" 20, dd "_law_is_ahead" 21, dd "_law_said" 22, dd "_law_sorted_right" 23, dd "_law_many" 24, dd "_law_all_right" 25, dd "_law_refused_right" 26, dd "law" 27, dm "BadNumber" ⟨10, 17, 10, 21⟩ ⟨10, 23, 10, 26⟩ ⟨11, 8, 11, 12⟩ ⟨11, 8, 11, 16⟩ ⟨11, 19, 11, 22⟩ ⟨11, 8, 11, 22⟩, dm "BadWord" ⟨14, 17, 14, 21⟩ ⟨14, 23, 14, 26⟩ ⟨15, 8, 15, 12⟩ ⟨15, 8, 15, 16⟩ ⟨15, 19, 15, 22⟩ ⟨15, 8, 15, 22⟩]
def fa : List He.Fa := [.glo "is_number", .glo "is_whole", .glo "is_letter", .glo "is_alphabet", .glo "shortlex", .glo "words_to", .glo "_law_mixed", .glo "_law_begun", .glo "_law_draw", .glo "_law_of", .glo "_law_letters", .glo "_law_is_ahead", .glo "_law_said", .glo "_law_sorted_right", .glo "_law_many", .glo "_law_all_right", .glo "_law_refused_right", .glo "law",
  .int "LONG" 60, .int "_LETTERS" 6, .int "_WORDS" 2000, .glo "BadNumber", .glo "BadWord", .glo "BadRing", .glo "Refused",
  .free "len", .free "isinstance", .free "int", .free "bool", .free "str", .free "list", .free "all", .free "zip", .free "sorted", .free "range", .free "enumerate", .free "repr", .free "min", .free "ValueError"]
abbrev R : PySem.W.OpenRow := PySem.W.OpenLaw.row PySem.Challenge.rw_semirail_k03_words_in_order
abbrev hk : PySem.W.Hook := He.hookX 6 fa fn [] T3.tf T3.ex
def ob (s : PySem.W.SharedT) : He.AlX := He.obsX 6 fa fn [] T3.tf T3.ex (HandSHeadRun.getT s)
theorem ob_eq (s : PySem.W.SharedT) : ob s = hk.obs s.abs := He.obsX_eq (HandSHeadRun.getT_eq s)
theorem run (w : World) : HandSHeadRun.RunEq R (PySem.W.view R.prog [27]) hk ob 4000 names w := by
  intro os
  kernel_rfl
end W3
end
section
set_option Elab.async false
set_option linter.all false
set_option maxRecDepth 100000
set_option maxHeartbeats 4000000
/-! S9: the end -/
namespace LamX
open PySem PySem.Spec PyProof.Rows L2
/-- the law's call with tables, where no repr runs around -/
theorem law_callTsG {P : Program} {w : World} {K : PySem.W.Frag} {mg mb : Str → Option Value} {CX : CXT} {k : Nat} {fa a : Addr} {cs : List (Addr × Addr)} {fd : FuncData} {x : Str} {sp : Sp} {s₁ : Shared} {vs : List Value} {ns : List Int}
    (KX : K.In s₁.heap) (hns : s₁.heap.Ns mainGlobals mg) (hb : s₁.heap.Ns builtinsNs mb) (hbb : ∀ x : Str, x ≠ "__name__" → mb x = bootBuiltins x) (hlim : s₁.heap.NoLimit) (hg : s₁.gens = #[])
    (hT : ∀ p ∈ cs, s₁.heap.get? p.2 = some { cls := .none, data := .fields #[] }) (nT : ∀ p ∈ cs, K.lookup p.2 = none) (C : ∀ p ∈ cs, PySem.W.CodeHd s₁.heap p.1 p.2)
    (hbm : ∃ (bm : Addr) (ob : Obj), mg "__builtins__" = some (.ref bm) ∧ bm ≠ builtinsNs ∧ s₁.heap.get? bm = some ob ∧ ob.cls = .type "module" ∧ ob.dict = some builtinsNs ∧ ob.data = .plain)
    (ha : s₁.heap.get? a = some { cls := .type "list", data := .seq vs.toArray }) (hi : IntsAre vs ns) (hl : ns.length ≤ sizeLine) (hr : Room k callerA)
    (F : ∀ base : Heap, K.In base → base.Ns mainGlobals mg → (∀ p ∈ cs, TabB base mg p.1 p.2) → L2.FnG P w K mg base CX k fa fd [x] sp) (hbind : ∀ (s : Shared) (u : Value), BindsTo s fd ⟨[u], []⟩ [(x, u)])
    (hsp : ∀ H : Hp, (∀ p ∈ cs, H p.2 = some (.tbl #[])) → SqL K H a (ns.map V.int) → sp [.ref a] H (fun v _ => v = .bl true) fun _ _ _ => False)
    (hCX : ∀ H e s', CX [] H s₁ (fun _ _ _ => False) e s' → False) :
    codeAny (model P w) callerA (.call (.ref fa) ⟨[.ref a], []⟩) (fun r s' => r = .ok (.ret (.bool true)) ∧ OldK s₁.heap s'.heap ∧ s'.os = s₁.os ∧ AllBare s'.gens) s₁ := by
  have rv := vals_ints hi
  have lenV := hi.length
  have isT : ∀ b : Addr, b ∈ cs.map (·.2) → s₁.heap.get? b = some { cls := .none, data := .fields #[] } := fun b hb => by
    obtain ⟨p, hp, e⟩ := List.mem_map.mp hb
    rw [← e]
    exact hT p hp
  have aT : a ∉ cs.map (·.2) := fun z => by
    have q := isT a z
    rw [ha] at q
    have z' : Data.seq vs.toArray _ = Data.fields #[] := congrArg Obj.data (Option.some.inj q)
    cases z'
  have memT : ∀ p ∈ cs, p.2 ∈ cs.map (·.2) := fun p hp => List.mem_map.mpr ⟨p, hp, rfl⟩
  -- from an abstract heap in which nothing but the script and the tables may be tracked
  have core : ∀ H : Hp, (∀ p ∈ cs, H p.2 = some (.tbl #[])) → (∀ b, H b = none ∨ b ∈ cs.map (·.2) ∨ ∃ o xs, H b = some (.frz o (.lst xs))) → SqL K H a (ns.map V.int) → HOk P w H s₁.heap → (∀ b, H b ≠ none → b = a ∨ b ∈ cs.map (·.2)) → (H a ≠ none → K.lookup a = none) →
      codeAny (model P w) callerA (.call (.ref fa) ⟨[.ref a], []⟩) (fun r s' => r = .ok (.ret (.bool true)) ∧ OldK s₁.heap s'.heap ∧ s'.os = s₁.os ∧ AllBare s'.gens) s₁ := by
    intro H hH hO hS hok hA hK
    have base_of : ∀ {b : Addr} {o : Obj}, s₁.heap.get? b = some o → H b = none → (hidT s₁.heap H).get? b = some o := fun e n => hidT_get e n
    have noD : ∀ {b : Addr} {o : Obj}, s₁.heap.get? b = some o → (∀ vs n, o.data ≠ .seq vs n) → o.data ≠ .fields #[] → H b = none := fun {b o} e h1 h2 => by
      cases q : H b with
      | none => rfl
      | some u =>
        rcases hA b (by rw [q]; simp) with e' | e'
        · rw [e', ha] at e
          cases e
          exact (h1 _ _ rfl).elim
        · rw [isT b e'] at e
          cases e
          exact (h2 rfl).elim
    have noA : ∀ {b : Addr} {o : Obj} {es : Array DictEntry} {ep : Nat}, s₁.heap.get? b = some o → o.data = .dict es ep → H b = none := fun {b o es ep} e d => by
      refine noD e (fun vs n z => ?_) fun z => ?_
      · rw [d] at z
        cases z
      · rw [d] at z
        cases z
    have nsK : ∀ {b : Addr} {m : Str → Option Value}, s₁.heap.Ns b m → (hidT s₁.heap H).Ns b m := fun {b m} ⟨o, es, ep, e, d, r⟩ => ⟨o, es, ep, base_of e (noA e d), d, r⟩
    have hKb : K.In (hidT s₁.heap H) := fun b o e => base_of (KX b o e) (by
      cases q : H b with
      | none => rfl
      | some u =>
        rcases hA b (by rw [q]; simp) with e' | e'
        · rw [e'] at e q
          rw [hK (by rw [q]; simp)] at e
          cases e
        · obtain ⟨p, hp, ep⟩ := List.mem_map.mp e'
          rw [← ep, nT p hp] at e
          cases e)
    have hM : L2.Mod K mg (hidT s₁.heap H) := ⟨hKb, nsK hns, ⟨mb, nsK hb, hbb⟩, let ⟨mc, h1, h2⟩ := hlim; ⟨mc, nsK h1, h2⟩⟩
    have TB : ∀ p ∈ cs, TabB (hidT s₁.heap H) mg p.1 p.2 := fun p hp => by
      have hTp := hT p hp
      refine ⟨?_, ?_, fun z => ?_⟩
      · obtain ⟨o, us, file, tf, flags, tg, inF, text, tt, e1, r1, r2, r3, r4, r5, r6, r7, r8, hne⟩ := C p hp
        refine ⟨o, us, file, tf, flags, tg, inF, text, tt, base_of e1 (noD e1 (fun vs n z => ?_) fun z => ?_), r1, r2, r3, r4, r5, r6, r7, r8, hne⟩
        · rw [r2] at z
          cases z
        · rw [r2] at z
          cases z
          simp at r3
      · obtain ⟨bm, ob, b1, b2, b3, b4, b5, b6⟩ := hbm
        have nG : bm ≠ mainGlobals := fun q => by
          obtain ⟨o, es, ep, e, hd, _⟩ := hns
          rw [q, e] at b3
          cases b3
          rw [hd] at b6
          cases b6
        have nP : bm ≠ p.2 := fun q => by
          rw [q, hTp] at b3
          cases b3
          cases b6
        refine ⟨bm, ob, b1, b2, nG, nP, base_of b3 (noD b3 (fun vs n z => ?_) fun z => ?_), b4, b5, b6⟩
        · rw [b6] at z
          cases z
        · rw [b6] at z
          cases z
      · obtain ⟨o, es, ep, e, hd, _⟩ := hns
        rw [z, hTp] at e
        cases e
        cases hd
    have e0 : Env0 P w K mg (hidT s₁.heap H) callerA [] s₁ H := ⟨rfl, hM, fun b o e => of_hidT e, Nat.le_of_eq (hidT_size _ _), trivial, fun b hb => absurd (show b ∈ ([] : List Addr) from hb) (by simp), hok, .of_eq hg⟩
    refine codeAny_mono ((F _ hKb (nsK hns) TB).run callerA [] s₁ H ⟨[.ref a], []⟩ [.ref a] [.ref a] _ _ hr rfl e0 (hbind s₁ (.ref a)) (.cons rfl .nil) (hsp H hH hS)) fun r s' h => ?_
    cases r with
    | error e => exact (hCX H e s' h).elim
    | ok fl =>
      cases fl with
      | next => exact False.elim h
      | brk => exact False.elim h
      | cont => exact False.elim h
      | ret u =>
        obtain ⟨v, H', os, bare, un, hok', r', q⟩ := h
        have q' : v = .bl true := q
        subst q'
        obtain rfl : u = Value.bool true := r'
        have key : ∀ b o, b ∉ cs.map (·.2) → s₁.heap.get? b = some o → s'.heap.get? b = some o := fun b o nb e => by
          cases q : H b with
          | none => exact un.keep b o e q (by intro z; exact absurd (show b ∈ ([] : List Addr) from z) (by simp)) (by simp)
          | some u =>
            rcases hO b with z | z | ⟨ob, xs, z⟩
            · rw [q] at z; cases z
            · exact absurd z nb
            · have z2 := un.frzs b ob _ z
              obtain ⟨e1, _⟩ := hok b _ z
              obtain ⟨e2, _⟩ := hok' b _ z2
              rw [e] at e1; cases e1
              exact e2
        have grown : ∀ p ∈ cs, ∃ more : Array Value, s'.heap.get? p.2 = some { cls := .none, data := .fields more } := fun p hp => by
          obtain ⟨more, z⟩ := un.tbls p.2 #[] (hH p hp)
          exact ⟨_, hok' p.2 _ z⟩
        refine ⟨rfl, ⟨fun b o e => ?_, fun b o e => ?_⟩, os, bare⟩
        · by_cases hb : b ∈ cs.map (·.2)
          · obtain ⟨p, hp, ep⟩ := List.mem_map.mp hb
            obtain ⟨more, hm⟩ := grown p hp
            rw [← ep] at e ⊢
            rw [hT p hp] at e
            cases e
            exact .inr (.inl ⟨((C p hp).tab (hT p hp)).isCodeTable, rfl, #[], more, rfl, by rw [Array.empty_append]; exact hm⟩)
          · exact .inl (key b o hb e)
        · by_cases hb : b ∈ cs.map (·.2)
          · obtain ⟨p, hp, ep⟩ := List.mem_map.mp hb
            obtain ⟨more, hm⟩ := grown p hp
            rw [← ep]
            exact ⟨_, hm⟩
          · exact ⟨o, key b o hb e⟩
  cases hk : K.lookup a with
  | some o =>
    have e := KX a o hk
    rw [ha] at e
    cases e
    refine core (fun b => if b ∈ cs.map (·.2) then some (.tbl #[]) else none) (fun p hp => if_pos (memT p hp)) (fun b => ?_) (.inr ⟨_, vs.toArray, _, hk, rfl, rfl, rfl, by rw [List.size_toArray, lenV]; exact hl, by simpa using rv⟩) (fun b u z => ?_) (fun b z => ?_) fun z => absurd (show (if a ∈ cs.map (·.2) then some (HO.tbl #[]) else none) = none from if_neg aT) z
    · by_cases hb : b ∈ cs.map (·.2)
      · exact .inr (.inl hb)
      · exact .inl (if_neg hb)
    · by_cases hb : b ∈ cs.map (·.2)
      · have z' := (if_pos hb).symm.trans z
        cases z'
        exact isT b hb
      · have z' := (if_neg hb).symm.trans z
        cases z'
    · by_cases hb : b ∈ cs.map (·.2)
      · exact .inr hb
      · exact absurd (if_neg hb) z
  | none =>
    refine core (fun b => if b = a then some (.frz { cls := .type "list", data := .seq vs.toArray } (.lst (ns.map V.int))) else if b ∈ cs.map (·.2) then some (.tbl #[]) else none) (fun p hp => (if_neg (show ¬ p.2 = a from fun z => aT (by rw [← z]; exact memT p hp))).trans (if_pos (memT p hp))) (fun b => ?_)
      (.inl (.inr ⟨{ cls := .type "list", data := .seq vs.toArray }, if_pos rfl⟩)) (fun b u z => ?_) (fun b z => ?_) fun _ => hk
    · by_cases hb : b = a
      · exact .inr (.inr ⟨_, _, if_pos hb⟩)
      · by_cases hb2 : b ∈ cs.map (·.2)
        · exact .inr (.inl hb2)
        · exact .inl ((if_neg hb).trans (if_neg hb2))
    · by_cases hb : b = a
      · have z' := (if_pos hb).symm.trans z
        cases z'
        rw [hb]
        exact ⟨ha, by rw [List.length_map]; exact hl, vs, _, rv, ha⟩
      · have z1 := (if_neg hb).symm.trans z
        by_cases hb2 : b ∈ cs.map (·.2)
        · have z' := (if_pos hb2).symm.trans z1
          cases z'
          exact isT b hb2
        · have z' := (if_neg hb2).symm.trans z1
          cases z'
    · by_cases hb : b = a
      · exact .inl hb
      · by_cases hb2 : b ∈ cs.map (·.2)
        · exact .inr hb2
        · exact absurd ((if_neg hb).trans (if_neg hb2)) z
end LamX
namespace T3
open PySem PySem.Spec PyProof.Rows L2 PySem.VX D1 LamX
theorem code_is {K : PySem.W.Frag} {p : Str × Option Str} {x q : Str} {pa : Arguments} {b : List Stmt} {sc : Scope} {dvs : List V} {kws : List (Str × V)} {fd : FuncData} (F : FunD K x q pa b sc dvs kws (He.fAd K p) fd) : fd.code = .ref (He.cT K p).1 := by
  obtain ⟨oc, od, dV, kV, doc, pm, an, cdv, ct, osl, rfl, lk, hcd, _, _⟩ := F.ex
  obtain ⟨c, rfl⟩ := He.codeIn_ref hcd
  exact congrArg Value.ref (He.codeOf_eq lk rfl).symm
theorem ini_of {K : PySem.W.Frag} {x q : Str} {p1 p2 q1 q2 q3 q4 : Pos} {fd : FuncData} (F : FunD K "__init__" q (fA "why" p1 p2) (fB "why" q1 q2 q3 q4) (fS "why") [] [] (He.fAd K (x, some "__init__")) fd) (h : kwN K (x, some "__init__") = true) : Ini1 K (He.fAd K (x, some "__init__")) q "why" fd := by
  obtain ⟨oc, od, dV, kV, doc, pm, an, cdv, ct, osl, rfl, lk, hcd, hD, _⟩ := F.ex
  obtain rfl := kwN_ok lk h
  rcases hD with ⟨_, rfl⟩ | ⟨hn, _⟩
  · exact ⟨⟨oc, od, doc, pm, an, cdv, ct, osl, p1, p2, q1, q2, q3, q4, rfl, lk, hcd⟩⟩
  · exact absurd rfl hn
abbrev TT3 (K : PySem.W.Frag) : List (Addr × Str) := [((He.cT K ("shortlex", none)).2, lamQ "shortlex"), ((He.cT K ("_law_all_right", none)).2, lamQ "_law_all_right"), ((He.cT K ("_law_refused_right", none)).2, lamQ "_law_refused_right")]
theorem facts {P : Program} {w : World} {K : PySem.W.Frag} {h : Heap} {mg : Str → Option Value} {f : Addr} (X : K.In h) (G : h.Ns mainGlobals mg) (hfa : mg ("law" : Str) = some (.ref f)) (cc : He.SaysX W3.fa W3.fn [] tf ex w h K) :
    ∃ fd : FuncData, (∀ (s : Shared) (v : Value), BindsTo s fd ⟨[v], []⟩ [("_law_script", v)]) ∧ ∀ base : Heap, K.In base → base.Ns mainGlobals mg → (∀ p ∈ tf.map (He.cT K), TabB base mg p.1 p.2) → FnG P w K mg base CX0 7 f fd ["_law_script"] (spLaw K (TT3 K)) := by
  have c : He.SaysD W3.fa W3.fn K := cc.t.d
  obtain ⟨fd_is_number, F_is_number⟩ := c.def_ 0 rfl
  obtain ⟨fd_is_whole, F_is_whole⟩ := c.def_ 1 rfl
  obtain ⟨fd_is_letter, F_is_letter⟩ := c.def_ 2 rfl
  obtain ⟨fd_is_alphabet, F_is_alphabet⟩ := c.def_ 3 rfl
  obtain ⟨fd_shortlex, F_shortlex⟩ := c.def_ 4 rfl
  obtain ⟨fd_words_to, F_words_to⟩ := c.def_ 5 rfl
  obtain ⟨fd_mixed, F_mixed⟩ := c.def_ 6 rfl
  obtain ⟨fd_begun, F_begun⟩ := c.def_ 7 rfl
  obtain ⟨fd_draw, F_draw⟩ := c.def_ 8 rfl
  obtain ⟨fd_of, F_of⟩ := c.def_ 9 rfl
  obtain ⟨fd_letters, F_letters⟩ := c.def_ 10 rfl
  obtain ⟨fd_is_ahead, F_is_ahead⟩ := c.def_ 11 rfl
  obtain ⟨fd_said, F_said⟩ := c.def_ 12 rfl
  obtain ⟨fd_sorted_right, F_sorted_right⟩ := c.def_ 13 rfl
  obtain ⟨fd_many, F_many⟩ := c.def_ 14 rfl
  obtain ⟨fd_all_right, F_all_right⟩ := c.def_ 15 rfl
  obtain ⟨fd_refused_right, F_refused_right⟩ := c.def_ 16 rfl
  obtain ⟨fd_law, F_law⟩ := c.def_ 17 rfl
  obtain ⟨fd_N, F_N⟩ := c.def_ 18 rfl
  obtain ⟨fd_W, F_W⟩ := c.def_ 19 rfl
  have g_is_number := He.glo_ok X G (c.fact 0 (f := .glo "is_number") rfl)
  have g_is_whole := He.glo_ok X G (c.fact 1 (f := .glo "is_whole") rfl)
  have g_is_letter := He.glo_ok X G (c.fact 2 (f := .glo "is_letter") rfl)
  have g_is_alphabet := He.glo_ok X G (c.fact 3 (f := .glo "is_alphabet") rfl)
  have g_shortlex := He.glo_ok X G (c.fact 4 (f := .glo "shortlex") rfl)
  have g_words_to := He.glo_ok X G (c.fact 5 (f := .glo "words_to") rfl)
  have g_mixed := He.glo_ok X G (c.fact 6 (f := .glo "_law_mixed") rfl)
  have g_begun := He.glo_ok X G (c.fact 7 (f := .glo "_law_begun") rfl)
  have g_draw := He.glo_ok X G (c.fact 8 (f := .glo "_law_draw") rfl)
  have g_of := He.glo_ok X G (c.fact 9 (f := .glo "_law_of") rfl)
  have g_letters := He.glo_ok X G (c.fact 10 (f := .glo "_law_letters") rfl)
  have g_is_ahead := He.glo_ok X G (c.fact 11 (f := .glo "_law_is_ahead") rfl)
  have g_said := He.glo_ok X G (c.fact 12 (f := .glo "_law_said") rfl)
  have g_sorted_right := He.glo_ok X G (c.fact 13 (f := .glo "_law_sorted_right") rfl)
  have g_many := He.glo_ok X G (c.fact 14 (f := .glo "_law_many") rfl)
  have g_all_right := He.glo_ok X G (c.fact 15 (f := .glo "_law_all_right") rfl)
  have g_refused_right := He.glo_ok X G (c.fact 16 (f := .glo "_law_refused_right") rfl)
  have g_law := He.glo_ok X G (c.fact 17 (f := .glo "law") rfl)
  obtain ⟨t_LONG, g_LONG⟩ := He.int_ok X G (c.fact 18 (f := .int "LONG" 60) rfl)
  obtain ⟨t_LETTERS, g_LETTERS⟩ := He.int_ok X G (c.fact 19 (f := .int "_LETTERS" 6) rfl)
  obtain ⟨t_WORDS, g_WORDS⟩ := He.int_ok X G (c.fact 20 (f := .int "_WORDS" 2000) rfl)
  have g_BadNumber := He.glo_ok X G (c.fact 21 (f := .glo "BadNumber") rfl)
  have g_BadWord := He.glo_ok X G (c.fact 22 (f := .glo "BadWord") rfl)
  have g_BadRing := He.glo_ok X G (c.fact 23 (f := .glo "BadRing") rfl)
  have g_Refused := He.glo_ok X G (c.fact 24 (f := .glo "Refused") rfl)
  have z_len := He.free_ok X G (c.fact 25 (f := .free "len") rfl)
  have z_isinstance := He.free_ok X G (c.fact 26 (f := .free "isinstance") rfl)
  have z_int := He.free_ok X G (c.fact 27 (f := .free "int") rfl)
  have z_bool := He.free_ok X G (c.fact 28 (f := .free "bool") rfl)
  have z_str := He.free_ok X G (c.fact 29 (f := .free "str") rfl)
  have z_list := He.free_ok X G (c.fact 30 (f := .free "list") rfl)
  have z_all := He.free_ok X G (c.fact 31 (f := .free "all") rfl)
  have z_zip := He.free_ok X G (c.fact 32 (f := .free "zip") rfl)
  have z_sorted := He.free_ok X G (c.fact 33 (f := .free "sorted") rfl)
  have z_range := He.free_ok X G (c.fact 34 (f := .free "range") rfl)
  have z_enumerate := He.free_ok X G (c.fact 35 (f := .free "enumerate") rfl)
  have z_repr := He.free_ok X G (c.fact 36 (f := .free "repr") rfl)
  have z_min := He.free_ok X G (c.fact 37 (f := .free "min") rfl)
  have z_ValueError := He.free_ok X G (c.fact 38 (f := .free "ValueError") rfl)
  have hex := cc.more
  obtain ⟨x1, hex⟩ := Bool.and_eq_true_iff.mp hex
  obtain ⟨x2, hex⟩ := Bool.and_eq_true_iff.mp hex
  obtain ⟨x3, hex⟩ := Bool.and_eq_true_iff.mp hex
  obtain ⟨x4, hex⟩ := Bool.and_eq_true_iff.mp hex
  obtain ⟨x5, hex⟩ := Bool.and_eq_true_iff.mp hex
  obtain ⟨x6, x7⟩ := Bool.and_eq_true_iff.mp hex
  have BN := xbB_ok x1
  have BW := xbB_ok x2
  obtain ⟨y1, x3⟩ := Bool.and_eq_true_iff.mp x3
  obtain ⟨y2, y3⟩ := Bool.and_eq_true_iff.mp x3
  obtain ⟨y4, x4⟩ := Bool.and_eq_true_iff.mp x4
  obtain ⟨y5, y6⟩ := Bool.and_eq_true_iff.mp x4
  have O_BadNumber : OwnX P w K mg "BadNumber" (He.ga K "BadNumber") [("why" : Str)] := own_why F.excBase_ValueError F.store_ValueError BN g_BadNumber (of_decide_eq_true y2) (of_decide_eq_true y3) (ini_of F_N y1)
  have O_BadWord : OwnX P w K mg "BadWord" (He.ga K "BadWord") [("why" : Str)] := own_why F.excBase_ValueError F.store_ValueError BW g_BadWord (of_decide_eq_true y5) (of_decide_eq_true y6) (ini_of F_W y4)
  have SF := said_of (exc_of BN x5) (exc_of BW x5) x6
  obtain ⟨a1, x7⟩ := Bool.and_eq_true_iff.mp x7
  obtain ⟨a2, a3⟩ := Bool.and_eq_true_iff.mp x7
  have n12 := of_decide_eq_true a1
  have n13 := of_decide_eq_true a2
  have n23 := of_decide_eq_true a3
  have e := hfa.symm.trans g_law
  cases e
  have b := FunD.bindsA (ps := ["_law_script"]) F_law fun _ _ _ _ _ _ us hl => match us, hl with | [_], _ => rfl
  refine ⟨fd_law, fun s v => b s [v] rfl, fun base _ _ TB => ?_⟩
  have T1 := TB (He.cT K ("shortlex", none)) (List.mem_map.mpr ⟨_, List.mem_cons_self, rfl⟩)
  have T2 := TB (He.cT K ("_law_all_right", none)) (List.mem_map.mpr ⟨_, List.mem_cons_of_mem _ List.mem_cons_self, rfl⟩)
  have T3 := TB (He.cT K ("_law_refused_right", none)) (List.mem_map.mpr ⟨_, List.mem_cons_of_mem _ (List.mem_cons_of_mem _ List.mem_cons_self), rfl⟩)
  have u1 : ∀ p ∈ TT3 K, p.1 = (He.cT K ("shortlex", none)).2 → p.2 = lamQ "shortlex" := fun p hp e => by
    simp only [TT3, List.mem_cons, List.not_mem_nil, or_false] at hp
    rcases hp with rfl | rfl | rfl
    · rfl
    · exact absurd e.symm n12
    · exact absurd e.symm n13
  have u2 : ∀ p ∈ TT3 K, p.1 = (He.cT K ("_law_all_right", none)).2 → p.2 = lamQ "_law_all_right" := fun p hp e => by
    simp only [TT3, List.mem_cons, List.not_mem_nil, or_false] at hp
    rcases hp with rfl | rfl | rfl
    · exact absurd e n12
    · rfl
    · exact absurd e.symm n23
  have u3 : ∀ p ∈ TT3 K, p.1 = (He.cT K ("_law_refused_right", none)).2 → p.2 = lamQ "_law_refused_right" := fun p hp e => by
    simp only [TT3, List.mem_cons, List.not_mem_nil, or_false] at hp
    rcases hp with rfl | rfl | rfl
    · exact absurd e n13
    · exact absurd e n23
    · rfl
  have G_is_number : FnOk P w K mg base CX0 1 _ _ ["thing"] (spNumber K) := ok_is_number F_is_number z_isinstance z_int z_bool
  have G_is_whole : FnOk P w K mg base CX0 2 _ _ ["thing", "least", "most"] (spWhole K) := ok_is_whole F_is_whole F_is_number g_is_number z_isinstance z_int z_bool
  have G_is_alphabet : FnOk P w K mg base CX0 2 _ _ ["thing"] (spAlphabet K) := ok_is_alphabet F_is_alphabet F_is_letter g_is_letter z_isinstance z_str z_len z_all z_zip g_LETTERS
  have G_shortlex : FnOk P w K mg base CX0 2 _ _ ["words"] (spShortlex K (TT3 K)) := ok_shortlex F_shortlex (code_is F_shortlex) T1 List.mem_cons_self u1 z_sorted z_len
  have G_words_to : FnOk P w K mg base (L2.CX P w) 3 _ _ ["alphabet", "length"] (spWordsTo K (He.ga K "BadWord") (He.ga K "BadNumber")) := ok_words_to F_words_to G_is_alphabet F_is_alphabet g_is_alphabet G_is_whole F_is_whole g_is_whole O_BadWord O_BadNumber z_range z_len g_LONG g_WORDS
  have G_draw : FnOk P w K mg base CX0 2 _ _ ["_law_m", "_law_many_here"] spDraw := ok_draw F_draw F_mixed g_mixed
  have G_of : FnOk P w K mg base CX0 3 _ _ ["_law_m", "_law_some"] (spOf K) := ok_of F_of G_draw F_draw g_draw z_len
  have G_begun : FnOk P w K mg base CX0 1 _ _ ["_law_script"] (spBegun K) := ok_begun F_begun z_range z_enumerate
  have G_letters : FnOk P w K mg base CX0 3 _ _ ["_law_m"] spLetters := ok_letters F_letters G_draw F_draw g_draw z_range z_sorted
  have G_is_ahead : FnOk P w K mg base CX0 1 _ _ ["_law_one", "_law_other"] spAhead := ok_is_ahead F_is_ahead z_len
  have G_many : FnOk P w K mg base CX0 1 _ _ ["_law_letters_here", "_law_length"] spMany := ok_many F_many z_len z_range
  have G_sorted_right : FnG P w K mg base CX0 4 _ _ ["_law_m", "_law_letters_here"] (spSorted (TT3 K)) := ok_sorted_right F_sorted_right G_draw F_draw g_draw G_of F_of g_of G_shortlex F_shortlex g_shortlex G_is_ahead F_is_ahead g_is_ahead z_range z_repr z_isinstance z_list z_len z_zip
  have G_all_right : FnOk P w K mg base CX0 6 _ _ ["_law_m", "_law_letters_here"] (spAll (TT3 K)) := ok_all_right F_all_right (code_is F_all_right) T2 (List.mem_cons_of_mem _ List.mem_cons_self) u2 SF g_BadNumber g_BadRing g_BadWord g_Refused G_draw F_draw g_draw G_of F_of g_of G_many F_many g_many G_is_ahead F_is_ahead g_is_ahead G_words_to F_words_to g_words_to F_said g_said z_range z_isinstance z_list z_len z_zip z_min z_str z_ValueError
  have G_refused_right : FnOk P w K mg base CX0 6 _ _ ["_law_m", "_law_letters_here"] (spRefused (TT3 K)) := ok_refused_right F_refused_right (code_is F_refused_right) T3 (List.mem_cons_of_mem _ (List.mem_cons_of_mem _ List.mem_cons_self)) u3 SF g_BadNumber g_BadRing g_BadWord g_Refused G_of F_of g_of G_words_to F_words_to g_words_to F_said g_said z_isinstance z_list z_ValueError
  exact ok_law F_law G_begun F_begun g_begun G_letters F_letters g_letters G_sorted_right F_sorted_right g_sorted_right G_all_right F_all_right g_all_right G_refused_right F_refused_right g_refused_right z_range z_min z_len
theorem walk3 {l : PySem.W.OpenLaw} {q : Program} {loose : List Str} {XP : (Str → Option Value) → Heap → Prop} {YP : World → Heap → Prop} {d : DefRec} (hn : l.most = some 63) (hdf : d.params.defaults = [])
    (F : ∀ (w : World) (mg : Str → Option Value) (fa : Addr) (h : Heap), YP w h → h.Ns mainGlobals mg → mg d.name = some (.ref fa) →
      ∃ K : PySem.W.Frag, K.In h ∧ He.SaysX W3.fa W3.fn [] tf ex w h K ∧ ∃ fd : FuncData, (∀ (s : Shared) (u : Value), BindsTo s fd ⟨[u], []⟩ [("_law_script", u)]) ∧ ∀ base : Heap, K.In base → base.Ns mainGlobals mg → (∀ p ∈ tf.map (He.cT K), TabB base mg p.1 p.2) → FnG l.prog w K mg base CX0 7 fa fd ["_law_script"] (spLaw K (TT3 K))) :
    PySem.W.WalkO q loose XP YP l.row.toRowW d [] (fun f vs => PySem.call f vs) := by
  refine Att.attach_callB hn hdf fun w s₀ s₁ mg mb fa o pm cd doc a vs ns G Y ho hd hcd hmg hobj hints hlen hbits hg => ?_
  obtain ⟨K, KX, S, fd, hb, hF⟩ := F w mg fa _ Y G.T.g hmg
  refine law_callTsG (cs := tf.map (He.cT K)) KX G.T.g G.T.b G.T.builtins G.T.nolimit hg (fun p hp => ?_) (fun p hp => ?_) (fun p hp => ?_) G.T.bmain hobj hints (Nat.le_trans hlen (by decide)) ⟨rfl, by decide, by decide⟩ hF hb (fun H hH hS => ⟨a, ns, rfl, hS, hlen, fun p hp => ?_, fun _ => rfl⟩) fun H e s' z => z
  · obtain ⟨x, hx, rfl⟩ := List.mem_map.mp hp
    exact S.empty x hx
  · obtain ⟨x, hx, rfl⟩ := List.mem_map.mp hp
    exact S.out x hx
  · obtain ⟨x, hx, rfl⟩ := List.mem_map.mp hp
    exact PySem.W.codeHd_of_K KX (S.hd x hx)
  · simp only [TT3, List.mem_cons, List.not_mem_nil, or_false] at hp
    rcases hp with rfl | rfl | rfl
    · exact TabS.nil (hH _ (List.mem_map.mpr ⟨_, List.mem_cons_self, rfl⟩))
    · exact TabS.nil (hH _ (List.mem_map.mpr ⟨_, List.mem_cons_of_mem _ List.mem_cons_self, rfl⟩))
    · exact TabS.nil (hH _ (List.mem_map.mpr ⟨_, List.mem_cons_of_mem _ (List.mem_cons_of_mem _ List.mem_cons_self), rfl⟩))
end T3
open PySem PySem.W PySem.Calls PyProof.Rows
set_option maxHeartbeats 0
theorem PySem.Challenge.cw_semirail_k03_words_in_order_holds : PySem.Challenge.rw_semirail_k03_words_in_order.Holds := by
  w_on; o_law
  refine HandSHeadRun.head_any (r := OpenLaw.row PySem.Challenge.rw_semirail_k03_words_in_order) (q := view (OpenLaw.row PySem.Challenge.rw_semirail_k03_words_in_order).prog [27]) (H := W3.hk) (ob := W3.ob) (M := 4000) (loose := W3.names) (d := HandSHeadRun.topDef (OpenLaw.row PySem.Challenge.rw_semirail_k03_words_in_order).prog 27) (kwd := []) W3.ob_eq
    (by kernel_rfl) (fun s => by kernel_rfl) W3.run (by kernel_rfl) (by kernel_rfl) (by kernel_rfl) (by rfl) (by first | assumption | decide +kernel) (by decide +kernel) ⟨rfl, rfl, rfl, rfl, rfl, by decide +kernel⟩ ?hw ?hc
  case hw => w_witness2
  case hc =>
    refine T3.walk3 (l := PySem.Challenge.rw_semirail_k03_words_in_order) rfl (by kernel_rfl) ?F
    intro w mg fa h Y G hmg0
    obtain ⟨K, KX, c⟩ := Y
    have hmg : mg ("law" : PySem.Str) = some (.ref fa) := by
      have e : (HandSHeadRun.topDef (OpenLaw.row PySem.Challenge.rw_semirail_k03_words_in_order).prog 27).name = ("law" : PySem.Str) := by kernel_rfl
      rw [← e]
      exact hmg0
    exact ⟨K, KX, c, T3.facts (P := (PySem.Challenge.rw_semirail_k03_words_in_order).prog) (w := w) KX G hmg c⟩
end
