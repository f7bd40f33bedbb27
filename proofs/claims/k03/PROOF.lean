import PyProof.Rows.All
import Wide.All
import OpenK.AllK
import Wide.FinOn
import HandS.ForMost
import HandS.ForExc
import HandS.More
import HandS.IsInst
import HandS.Defaults
import HandS.MakeKwOnly
import HandS.Property
import HandS.ExcIs
import HandS.Flow
import HandS.OwnEq
import HandS.NoneIn
import HandS.SlotsOwn
import KE.DatumOrd
import PySem.Challenge.RW_answerparts_k03_worlds
set_option Elab.async false
set_option maxRecDepth 100000
set_option maxHeartbeats 8000000
namespace W3
open PySem L2
def top (i : Nat) : Stmt := PySem.Challenge.pw_answerparts_k03_worlds.main.body.getD i (.Pass ⟨0, 0, 0, 0⟩)
abbrev s_is_number : Stmt := top 1
theorem sc_is_number : FnScope ["value", "most"] ["value", "most"] (defScope s_is_number) := ⟨rfl, rfl, rfl, by decide +kernel, rfl, by decide +kernel, by decide +kernel⟩
abbrev s_is_mode : Stmt := top 9
theorem sc_is_mode : FnScope ["value"] ["value"] (defScope s_is_mode) := ⟨rfl, rfl, rfl, by decide +kernel, rfl, by decide +kernel, by decide +kernel⟩
abbrev s_is_bound : Stmt := top 10
theorem sc_is_bound : FnScope ["value"] ["value"] (defScope s_is_bound) := ⟨rfl, rfl, rfl, by decide +kernel, rfl, by decide +kernel, by decide +kernel⟩
abbrev s_is_at_most : Stmt := top 11
theorem sc_is_at_most : FnScope ["one", "other"] ["one", "other"] (defScope s_is_at_most) := ⟨rfl, rfl, rfl, by decide +kernel, rfl, by decide +kernel, by decide +kernel⟩
abbrev s_greater_bound : Stmt := top 12
theorem sc_greater_bound : FnScope ["one", "other"] ["one", "other"] (defScope s_greater_bound) := ⟨rfl, rfl, rfl, by decide +kernel, rfl, by decide +kernel, by decide +kernel⟩
abbrev s_World_init : Stmt := inClass (top 13) 0
theorem sc_World_init : FnScope ["self", "mode", "lost", "breaks", "fails", "late"] ["self", "mode", "lost", "breaks", "fails", "late"] (defScope s_World_init) := ⟨rfl, rfl, rfl, by decide +kernel, rfl, by decide +kernel, by decide +kernel⟩
abbrev s_World_mode : Stmt := inClass (top 13) 1
theorem sc_World_mode : FnScope ["self"] ["self"] (defScope s_World_mode) := ⟨rfl, rfl, rfl, by decide +kernel, rfl, by decide +kernel, by decide +kernel⟩
abbrev s_World_lost : Stmt := inClass (top 13) 2
theorem sc_World_lost : FnScope ["self"] ["self"] (defScope s_World_lost) := ⟨rfl, rfl, rfl, by decide +kernel, rfl, by decide +kernel, by decide +kernel⟩
abbrev s_World_breaks : Stmt := inClass (top 13) 3
theorem sc_World_breaks : FnScope ["self"] ["self"] (defScope s_World_breaks) := ⟨rfl, rfl, rfl, by decide +kernel, rfl, by decide +kernel, by decide +kernel⟩
abbrev s_World_fails : Stmt := inClass (top 13) 4
theorem sc_World_fails : FnScope ["self"] ["self"] (defScope s_World_fails) := ⟨rfl, rfl, rfl, by decide +kernel, rfl, by decide +kernel, by decide +kernel⟩
abbrev s_World_late : Stmt := inClass (top 13) 5
theorem sc_World_late : FnScope ["self"] ["self"] (defScope s_World_late) := ⟨rfl, rfl, rfl, by decide +kernel, rfl, by decide +kernel, by decide +kernel⟩
abbrev s_World_eq : Stmt := inClass (top 13) 6
theorem sc_World_eq : FnScope ["self", "other"] ["self", "other"] (defScope s_World_eq) := ⟨rfl, rfl, rfl, by decide +kernel, rfl, by decide +kernel, by decide +kernel⟩
abbrev s_World_or : Stmt := inClass (top 13) 7
theorem sc_World_or : FnScope ["self", "other"] ["self", "other"] (defScope s_World_or) := ⟨rfl, rfl, rfl, by decide +kernel, rfl, by decide +kernel, by decide +kernel⟩
abbrev s_World_is_milder : Stmt := inClass (top 13) 8
theorem sc_World_is_milder : FnScope ["self", "other"] ["self", "other"] (defScope s_World_is_milder) := ⟨rfl, rfl, rfl, by decide +kernel, rfl, by decide +kernel, by decide +kernel⟩
abbrev s_law_mix : Stmt := top 15
theorem sc_law_mix : FnScope ["_law_script", "_law_seed", "_law_state", "_law_cell"] ["_law_script", "_law_seed"] (defScope s_law_mix) := ⟨rfl, rfl, rfl, by decide +kernel, rfl, by decide +kernel, by decide +kernel⟩
abbrev s_law_next : Stmt := top 16
theorem sc_law_next : FnScope ["_law_h", "_law_cap", "_law_cell"] ["_law_h", "_law_cap"] (defScope s_law_next) := ⟨rfl, rfl, rfl, by decide +kernel, rfl, by decide +kernel, by decide +kernel⟩
abbrev s_law_alike : Stmt := top 17
theorem sc_law_alike : FnScope ["_law_found", "_law_due", "_law_k"] ["_law_found", "_law_due"] (defScope s_law_alike) := ⟨rfl, rfl, rfl, by decide +kernel, rfl, by decide +kernel, by decide +kernel⟩
abbrev s_law_world : Stmt := top 18
theorem sc_law_world : FnScope ["_law_h", "_law_answers", "_law_failures", "_law_stops"] ["_law_h"] (defScope s_law_world) := ⟨rfl, rfl, rfl, by decide +kernel, rfl, by decide +kernel, by decide +kernel⟩
abbrev s_law_made : Stmt := top 19
theorem sc_law_made : FnScope ["_law_world_here"] ["_law_world_here"] (defScope s_law_made) := ⟨rfl, rfl, rfl, by decide +kernel, rfl, by decide +kernel, by decide +kernel⟩
abbrev s_law_number : Stmt := top 20
theorem sc_law_number : FnScope ["_law_number_here"] ["_law_number_here"] (defScope s_law_number) := ⟨rfl, rfl, rfl, by decide +kernel, rfl, by decide +kernel, by decide +kernel⟩
abbrev s_law_refused : Stmt := top 21
theorem sc_law_refused : FnScope ["_law_mode", "_law_number_here", "_law_slow", "_law_place", "_law_numbers", "_law_shown", "error"] ["_law_mode", "_law_number_here", "_law_slow", "_law_place"] (defScope s_law_refused) := ⟨rfl, rfl, rfl, by decide +kernel, rfl, by decide +kernel, by decide +kernel⟩
abbrev s_law_joined : Stmt := top 22
theorem sc_law_joined : FnScope ["_law_one", "_law_other", "_law_shown"] ["_law_one", "_law_other"] (defScope s_law_joined) := ⟨rfl, rfl, rfl, by decide +kernel, rfl, by decide +kernel, by decide +kernel⟩
abbrev s_law : Stmt := top 23
theorem sc_law : FnScope ["_law_script", "_law_h", "_law_turn", "_law_one", "_law_other", "_law_a", "_law_b", "_law_pairs", "_law_milder", "_law_both", "_law_great", "_law_due", "_law_place", "_law_number_here", "_law_odd", "_law_base", "_law_mode", "_law_k", "_law_slow", "_law_pair"] ["_law_script"] (defScope s_law) := ⟨rfl, rfl, rfl, by decide +kernel, rfl, by decide +kernel, by decide +kernel⟩
/-! ### what the top has written -/
structure Bi (mg : Str → Option Value) : Prop where
  type : mg "type" = none
  int : mg "int" = none
  str : mg "str" = none
  bool : mg "bool" = none
  dict : mg "dict" = none
  list : mg "list" = none
  tuple : mg "tuple" = none
  len : mg "len" = none
  range : mg "range" = none
  max : mg "max" = none
  isi : mg "isinstance" = none
section
variable {P : Program} {w : World} {K : PySem.W.Frag} {mg : Str → Option Value} {base : Heap}
/-! ### is_number, is_mode, is_bound, is_at_most, greater_bound -/
def numB (v : V) (m : Int) : Bool := match v with
  | .int i => decide (0 ≤ i) && decide (i ≤ m)
  | _ => false
def spNum (K : PySem.W.Frag) : Sp := fun vs H Q _ => ∃ (v : V) (m : Int) (T : String), vs = [v, .int m] ∧ TyB K H v T ∧ Q (.bl (numB v m)) H
theorem tyb_int {K : PySem.W.Frag} {H : Hp} {v : V} {T : String} (t : TyB K H v T) : (T = "int" ∧ ∃ i, v = .int i) ∨ (T ≠ "int" ∧ ∀ m, numB v m = false) := by
  cases t with
  | int i => exact .inl ⟨rfl, i, rfl⟩
  | _ => exact .inr ⟨by decide +kernel, fun _ => rfl⟩
theorem ok_num {f : Addr} {fd : FuncData} (F : Fun K "is_number" "is_number" s_is_number f fd) (T : Bi mg) : FnOk P w K mg base CX0 1 f fd ["value", "most"] (spNum K) := by
  refine F.ok sc_is_number (fun vs H Q E h => ?_) (fun cdv A outer s H vs Q E hr h => ?_)
  · obtain ⟨v, m, t, rfl, _⟩ := h
    rfl
  · obtain ⟨v, m, t, rfl, ht, k⟩ := h
    refine ⟨_, pss_one (ps_ret (pe_and (pe_cmpR op_isTyB (pe_callTy call_type1 (by rfl) T.type (by decide +kernel) (pa_cons (pv 0) pa_nil)) (pe_bltn (v := .ty "int") (by rfl) T.int (by decide +kernel) rfl) (nomark _))
      (pe_one (pe_chain op_le op_le pe_int (pv 0) (pv 1))))), ?_⟩
    refine ⟨_, rfl, v, t, rfl, ht, t, "int", rfl, rfl, _, rfl, ?_⟩
    rcases tyb_int ht with ⟨rfl, i, rfl⟩ | ⟨hn, hv⟩
    · refine iteT ?_
      refine ⟨_, rfl, _, _, rfl, rfl, _, rfl, ?_⟩
      by_cases c : 0 ≤ i
      · rw [decide_eq_true c]
        refine iteT ⟨_, rfl, _, _, rfl, rfl, ?_⟩
        have e : numB (.int i) m = decide (i ≤ m) := by
          show (decide (0 ≤ i) && decide (i ≤ m)) = _
          rw [decide_eq_true c, Bool.true_and]
        rw [e] at k
        exact k
      · rw [decide_eq_false c]
        refine iteF ?_
        have e : numB (.int i) m = false := by
          show (decide (0 ≤ i) && decide (i ≤ m)) = _
          rw [decide_eq_false c, Bool.false_and]
        rw [e] at k
        exact k
    · rw [decide_eq_false hn]
      refine iteF ?_
      rw [hv m] at k
      exact k
end
end W3
namespace W3
open PySem L2
/-- a def of the module that stands under its own name -/
structure Dn (K : PySem.W.Frag) (mg : Str → Option Value) (x : Str) (st : Stmt) (ps : List Str) (f : Addr) (fd : FuncData) : Prop where
  F : Fun K x x st f fd
  g : mg x = some (.ref f)
  b : Binds K fd ps []
/-- an own class of exceptions without own __init__, over ValueError -/
structure Xc (K : PySem.W.Frag) (mg : Str → Option Value) (x : Str) (C : Addr) : Prop where
  g : mg x = some (.ref C)
  x : PySem.W.excIn K C [.type "ValueError", .type "Exception", .type "BaseException", .type "object"] "ValueError.__new__" = true
  k : PySem.W.keepIn K (.ref C) = true
  b : PySem.W.subIn K (.ref C) (.type "BaseException") = some true
  t : PySem.W.typeIn K (.ref C) = some (.type "type")
structure Cs (K : PySem.W.Frag) (mg : Str → Option Value) : Prop where
  modes : ∃ a : Addr, mg "MODES" = some (.ref a) ∧ ∀ H, SqT K H a [.str "each", .str "whole"]
  most : ∃ t, mg "MOST_TIMES" = some (.int 3 t)
def bndB : V → Bool
  | .non => true
  | v => numB v 3
def modeB : V → Bool
  | .str x => inV (.str x) [.str "each", .str "whole"]
  | _ => false
def nV : Option Int → V
  | none => .non
  | some i => .int i
def amB : Option Int → Option Int → Bool
  | _, none => true
  | none, some _ => false
  | some a, some b => decide (a ≤ b)
def grN (a b : Option Int) : Option Int := if amB b a = true then a else b
section
variable {P : Program} {w : World} {K : PySem.W.Frag} {mg : Str → Option Value} {base : Heap}
def spMode (K : PySem.W.Frag) : Sp := fun vs H Q _ => ∃ (v : V) (T : String), vs = [v] ∧ TyB K H v T ∧ Q (.bl (modeB v)) H
theorem tyb_str {K : PySem.W.Frag} {H : Hp} {v : V} {T : String} (t : TyB K H v T) : (T = "str" ∧ ∃ i, v = .str i) ∨ (T ≠ "str" ∧ modeB v = false) := by
  cases t with
  | str i => exact .inl ⟨rfl, i, rfl⟩
  | _ => exact .inr ⟨by decide +kernel, rfl⟩
theorem ok_mode {f : Addr} {fd : FuncData} (F : Fun K "is_mode" "is_mode" s_is_mode f fd) (T : Bi mg) (G : Cs K mg) : FnOk P w K mg base CX0 1 f fd ["value"] (spMode K) := by
  refine F.ok sc_is_mode (fun vs H Q E h => ?_) (fun cdv A outer s H vs Q E hr h => ?_)
  · obtain ⟨v, t, rfl, _⟩ := h
    rfl
  · obtain ⟨v, t, rfl, ht, k⟩ := h
    obtain ⟨aM, gM, sM⟩ := G.modes
    refine ⟨_, pss_one (ps_ret (pe_and (pe_cmpR op_isTyB (pe_callTy call_type1 (by rfl) T.type (by decide +kernel) (pa_cons (pv 0) pa_nil)) (pe_bltn (v := .ty "str") (by rfl) T.str (by decide +kernel) rfl) (nomark _))
      (pe_one (pe_cmpR op_in_seq (pv 0) (pe_glob (v := .ref aM) rfl gM rfl) (by rfl))))), ?_⟩
    refine ⟨_, rfl, v, t, rfl, ht, t, "str", rfl, rfl, _, rfl, ?_⟩
    rcases tyb_str ht with ⟨rfl, i, rfl⟩ | ⟨hn, hv⟩
    · refine iteT ?_
      exact ⟨_, rfl, aM, _, rfl, .inr (sM H), rfl, rfl, k⟩
    · rw [decide_eq_false hn]
      refine iteF ?_
      rw [hv] at k
      exact k
def spBound (K : PySem.W.Frag) : Sp := fun vs H Q _ => ∃ (v : V) (T : String), vs = [v] ∧ TyB K H v T ∧ Q (.bl (bndB v)) H
theorem ok_bound {f fN : Addr} {fd fdN : FuncData} (F : Fun K "is_bound" "is_bound" s_is_bound f fd) (T : Bi mg) (G : Cs K mg) (N : Dn K mg "is_number" s_is_number ["value", "most"] fN fdN) : FnOk P w K mg base CX0 2 f fd ["value"] (spBound K) := by
  have GN : FnOk P w K mg base CX0 1 fN fdN ["value", "most"] (spNum K) := ok_num N.F T
  refine F.ok sc_is_bound (fun vs H Q E h => ?_) (fun cdv A outer s H vs Q E hr h => ?_)
  · obtain ⟨v, t, rfl, _⟩ := h
    rfl
  · obtain ⟨v, t, rfl, ht, k⟩ := h
    obtain ⟨tM, gM⟩ := G.most
    refine ⟨_, pss_one (ps_ret (pe_or (pe_cmpR op_isN (pv 0) pe_non (nomark _)) (pe_one (pe_call GN hr (by rfl) N.g N.F.kp N.b .nil pass0 (pa_cons (pv 0) (pa_cons (pe_glob (v := .int 3) rfl gM ⟨_, rfl⟩) pa_nil)))))), ?_⟩
    refine ⟨_, rfl, rfl, _, rfl, ?_⟩
    by_cases c : v = .non
    · subst c
      exact iteT k
    · rw [decide_eq_false c]
      refine iteF ⟨_, rfl, v, 3, t, rfl, ht, ?_⟩
      have e : bndB v = numB v 3 := by
        cases v <;> first | rfl | exact absurd rfl c
      rw [e] at k
      exact k
def spAm : Sp := fun vs H Q _ => ∃ (a b : Option Int), vs = [nV a, nV b] ∧ Q (.bl (amB a b)) H
theorem nv_non (a : Option Int) : (nV a = .non) = (a = none) := by
  cases a with
  | none => exact propext ⟨fun _ => rfl, fun _ => rfl⟩
  | some i => exact propext ⟨fun h => (nomatch h), fun h => (nomatch h)⟩
theorem ok_am {f : Addr} {fd : FuncData} (F : Fun K "is_at_most" "is_at_most" s_is_at_most f fd) : FnOk P w K mg base CX0 1 f fd ["one", "other"] spAm := by
  refine F.ok sc_is_at_most (fun vs H Q E h => ?_) (fun cdv A outer s H vs Q E hr h => ?_)
  · obtain ⟨a, b, rfl, _⟩ := h
    rfl
  · obtain ⟨a, b, rfl, k⟩ := h
    refine ⟨_, pss_one (ps_ret (pe_or (pe_cmpR op_isN (pv 1) pe_non (nomark _)) (pe_one (pe_and (pe_cmpR op_notN (pv 0) pe_non (nomark _)) (pe_one (pe_cmpR op_le (pv 0) (pv 1) (nomark _))))))), ?_⟩
    refine ⟨_, rfl, rfl, _, rfl, ?_⟩
    cases b with
    | none => exact iteT (by cases a <;> exact k)
    | some j =>
      refine iteF ⟨_, rfl, rfl, _, rfl, ?_⟩
      cases a with
      | none => exact iteF k
      | some i => exact iteT ⟨_, rfl, _, rfl, _, _, rfl, rfl, k⟩
def spGr : Sp := fun vs H Q _ => ∃ (a b : Option Int), vs = [nV a, nV b] ∧ Q (nV (grN a b)) H
theorem ok_gr {f fA : Addr} {fd fdA : FuncData} (F : Fun K "greater_bound" "greater_bound" s_greater_bound f fd) (N : Dn K mg "is_at_most" s_is_at_most ["one", "other"] fA fdA) : FnOk P w K mg base CX0 2 f fd ["one", "other"] spGr := by
  have GA : FnOk P w K mg base CX0 1 fA fdA ["one", "other"] spAm := ok_am N.F
  refine F.ok sc_greater_bound (fun vs H Q E h => ?_) (fun cdv A outer s H vs Q E hr h => ?_)
  · obtain ⟨a, b, rfl, _⟩ := h
    rfl
  · obtain ⟨a, b, rfl, k⟩ := h
    refine ⟨_, pss_one (ps_ret (pe_ifExp (pt_val (pe_call GA hr (by rfl) N.g N.F.kp N.b .nil pass0 (pa_cons (pv 1) (pa_cons (pv 0) pa_nil)))) (pv 0) (pv 1))), ?_⟩
    refine ⟨_, rfl, _, rfl, b, a, rfl, _, rfl, ?_⟩
    unfold grN at k
    by_cases c : amB b a = true
    · rw [if_pos c] at k
      rw [c]
      exact iteT ⟨_, rfl, k⟩
    · rw [if_neg c] at k
      rw [Bool.eq_false_iff.mpr c]
      exact iteF ⟨_, rfl, k⟩
end
end W3
namespace W3
open PySem L2
/-- the fields of a World -/
def wF (m l b f t : V) : List (Str × V) := [("_mode", m), ("_lost", l), ("_breaks", b), ("_fails", f), ("_late", t)]
theorem put1 (m : V) : putF "_mode" m [] = [(("_mode" : Str), m)] := by kernel_rfl
theorem put2 (m l : V) : putF "_lost" l [("_mode", m)] = [(("_mode" : Str), m), ("_lost", l)] := by kernel_rfl
theorem put3 (m l b : V) : putF "_breaks" b [("_mode", m), ("_lost", l)] = [(("_mode" : Str), m), ("_lost", l), ("_breaks", b)] := by kernel_rfl
theorem put4 (m l b f : V) : putF "_fails" f [("_mode", m), ("_lost", l), ("_breaks", b)] = [(("_mode" : Str), m), ("_lost", l), ("_breaks", b), ("_fails", f)] := by kernel_rfl
theorem put5 (m l b f t : V) : putF "_late" t [("_mode", m), ("_lost", l), ("_breaks", b), ("_fails", f)] = wF m l b f t := by kernel_rfl
theorem put_all (m l b f t : V) : putF "_late" t (putF "_fails" f (putF "_breaks" b (putF "_lost" l (putF "_mode" m [])))) = wF m l b f t := by
  rw [put1, put2, put3, put4, put5]
theorem wF_mode (m l b f t : V) : (wF m l b f t).lookup ("_mode" : Str) = some m := by kernel_rfl
theorem wF_lost (m l b f t : V) : (wF m l b f t).lookup ("_lost" : Str) = some l := by kernel_rfl
theorem wF_breaks (m l b f t : V) : (wF m l b f t).lookup ("_breaks" : Str) = some b := by kernel_rfl
theorem wF_fails (m l b f t : V) : (wF m l b f t).lookup ("_fails" : Str) = some f := by kernel_rfl
theorem wF_late (m l b f t : V) : (wF m l b f t).lookup ("_late" : Str) = some t := by kernel_rfl
theorem wF_milder (m l b f t : V) : (wF m l b f t).lookup ("is_milder" : Str) = none := by kernel_rfl
def lateB : V → Bool
  | .bl _ => true
  | _ => false
def okB (m l b f t : V) : Bool := modeB m && lateB t && (bndB l && bndB b && bndB f)
/-- the class World -/
structure Wc (K : PySem.W.Frag) (mg : Str → Option Value) (C : Addr) : Prop where
  cl : Cls K C
  n1 : NoAttr K C "_mode"
  n2 : NoAttr K C "_lost"
  n3 : NoAttr K C "_breaks"
  n4 : NoAttr K C "_fails"
  n5 : NoAttr K C "_late"
  g : mg "World" = some (.ref C)
section
variable {P : Program} {w : World} {K : PySem.W.Frag} {mg : Str → Option Value} {base : Heap}
theorem tyb_bool {K : PySem.W.Frag} {H : Hp} {v : V} {T : String} (t : TyB K H v T) : (T = "bool" ∧ ∃ i, v = .bl i) ∨ (T ≠ "bool" ∧ lateB v = false) := by
  cases t with
  | bl i => exact .inl ⟨rfl, i, rfl⟩
  | _ => exact .inr ⟨by decide +kernel, rfl⟩
def spInit (K : PySem.W.Frag) (C CI : Addr) : Sp := fun vs H Q E => ∃ (p dx : Addr) (m l b f t : V) (Tm Tl Tb Tf Tt : String), vs = [.ref p, m, l, b, f, t] ∧ H p = some (.ins C dx []) ∧
  TyB K H m Tm ∧ TyB K H l Tl ∧ TyB K H b Tb ∧ TyB K H f Tf ∧ TyB K H t Tt ∧
  (okB m l b f t = true → ∀ H' : Hp, H' p = some (.ins C dx (wF m l b f t)) → (∀ q, q ≠ p → H' q = H q) → Q .non H') ∧ (okB m l b f t = false → E (.ref CI) none H)
theorem ok_init {f C CI fM fB fN : Addr} {fd fdM fdB fdN : FuncData} {dvs : List V} {kws : List (Str × V)} (F : FunD K "__init__" "World.__init__" (defArgs s_World_init) (defBody s_World_init) (defScope s_World_init) dvs kws f fd) (T : Bi mg) (G : Cs K mg) (W : Wc K mg C) (X : Xc K mg "InvalidWorld" CI)
    (M : Dn K mg "is_mode" s_is_mode ["value"] fM fdM) (B : Dn K mg "is_bound" s_is_bound ["value"] fB fdB) (N : Dn K mg "is_number" s_is_number ["value", "most"] fN fdN) :
    FnOk P w K mg base (L2.CX P w) 3 f fd ["self", "mode", "lost", "breaks", "fails", "late"] (spInit K C CI) := by
  have GM : FnOk P w K mg base CX0 1 fM fdM ["value"] (spMode K) := ok_mode M.F T G
  have GB : FnOk P w K mg base CX0 2 fB fdB ["value"] (spBound K) := ok_bound B.F T G N
  refine F.ok sc_World_init (fun vs H Q E h => ?_) (fun cdv A outer s H vs Q E hr h => ?_)
  · obtain ⟨p, dx, m, l, b, f, t, _, _, _, _, _, rfl, _⟩ := h
    rfl
  · obtain ⟨p, dx, m, l, b, f, t, Tm, Tl, Tb, Tf, Tt, rfl, hp, hm, hl, hb, hf, ht, kY, kN⟩ := h
    have hr1 : Room 1 _ := hr.mono (by decide)
    refine ⟨_, pss_cons (ps_if (PW.pt (pw_or (pt_not (pt_val (pe_call GM hr1 (by rfl) M.g M.F.kp M.b .nil pass0 (pa_cons (pv 1) pa_nil))))
        (pw_or1 (pt_cmpR op_notTyB (pe_callTy call_type1 (by rfl) T.type (by decide +kernel) (pa_cons (pv 5) pa_nil)) (pe_bltn (v := .ty "bool") (by rfl) T.bool (by decide +kernel) rfl) (nomark _)))))
        (pss_one (ps_raise rfl (takes_of rfl rfl rfl rfl) (pmk_own PySem.F.excBase_ValueError X.x X.g X.k (raises_own X.b X.t) rfl))) pss_nil)
      (pss_cons (ps_if (pt_not (PW.pt (pw_and (pt_val (pe_call GB hr (by rfl) B.g B.F.kp B.b .nil pass0 (pa_cons (pv 2) pa_nil))) (pw_and (pt_val (pe_call GB hr (by rfl) B.g B.F.kp B.b .nil pass0 (pa_cons (pv 3) pa_nil)))
          (pw_and1 (pt_val (pe_call GB hr (by rfl) B.g B.F.kp B.b .nil pass0 (pa_cons (pv 4) pa_nil))))))))
        (pss_one (ps_raise rfl (takes_of rfl rfl rfl rfl) (pmk_own PySem.F.excBase_ValueError X.x X.g X.k (raises_own X.b X.t) rfl))) pss_nil)
      (pss_cons (ps_fld (pv 0) (pv 1) rfl) (pss_cons (ps_fld (pv 0) (pv 2) rfl) (pss_cons (ps_fld (pv 0) (pv 3) rfl) (pss_cons (ps_fld (pv 0) (pv 4) rfl) (pss_one (ps_fld (pv 0) (pv 5) rfl))))))), ?_⟩
    refine ⟨_, rfl, m, Tm, rfl, hm, _, rfl, ?_⟩
    cases em : modeB m with
    | false =>
      have eo : okB m l b f t = false := by unfold okB; rw [em]; rfl
      exact iteT (iteT (kN eo))
    | true =>
      refine iteF ?_
      refine ⟨_, rfl, t, Tt, rfl, ht, Tt, "bool", rfl, rfl, _, rfl, ?_⟩
      rcases tyb_bool ht with ⟨rfl, i, rfl⟩ | ⟨hn, hv⟩
      · refine iteF ?_
        refine ⟨_, rfl, l, Tl, rfl, hl, _, rfl, ?_⟩
        have eo : okB m l b f (.bl i) = (bndB l && (bndB b && bndB f)) := by simp [okB, em, lateB, Bool.and_assoc]
        cases el : bndB l with
        | false => exact iteF (iteT (kN (by rw [eo, el]; rfl)))
        | true =>
          refine iteT ⟨_, rfl, b, Tb, rfl, hb, _, rfl, ?_⟩
          cases eb : bndB b with
          | false => exact iteF (iteT (kN (by rw [eo, el, eb]; rfl)))
          | true =>
            refine iteT ⟨_, rfl, f, Tf, rfl, hf, _, rfl, ?_⟩
            cases ef : bndB f with
            | false => exact iteT (kN (by rw [eo, el, eb, ef]; rfl))
            | true =>
              refine iteF ?_
              refine ⟨_, rfl, _, rfl, p, C, dx, _, rfl, hp, W.cl, W.n1, (by show 0 < 1000; decide), _, rfl, _, rfl, p, C, dx, _, rfl, upd_same, W.cl, W.n2, (by rw [put1]; show 1 < 1000; decide),
                _, rfl, _, rfl, p, C, dx, _, rfl, upd_same, W.cl, W.n3, (by rw [put1, put2]; show 2 < 1000; decide), _, rfl, _, rfl, p, C, dx, _, rfl, upd_same, W.cl, W.n4, (by rw [put1, put2, put3]; show 3 < 1000; decide),
                _, rfl, _, rfl, p, C, dx, _, rfl, upd_same, W.cl, W.n5, (by rw [put1, put2, put3, put4]; show 4 < 1000; decide), ?_⟩
              refine kY (by rw [eo, el, eb, ef]; rfl) _ (by rw [upd_same, put_all]) fun q hq => ?_
              rw [upd_ne hq, upd_ne hq, upd_ne hq, upd_ne hq, upd_ne hq]
      · rw [decide_eq_false hn]
        have eo : okB m l b f t = false := by unfold okB; rw [em, hv]; rfl
        exact iteT (kN eo)
end
end W3
/-! rules of my own: == of an own instance (general answer), an own class's |, an instance made inside a try -/
namespace W3
open PySem PySem.Spec PyProof.Rows L2
section
variable {X : Cx} {CX : CXT} {n : Nat} {C f : Addr} {fd : FuncData} {ps : List Str} {sp : Sp}
def Other (C : Addr) (H : Hp) (b : Addr) : Prop := (∃ dy gs, H b = some (.ins C dy gs)) ∨ ∃ xs, H b = some (.tup xs)
def rCmp (C : Addr) (sp : Sp) (E : XK) : R2 := fun x y H Q => ∃ a dx fs b, x = .ref a ∧ y = .ref b ∧ H a = some (.ins C dx fs) ∧ Other C H b ∧ sp [x, y] H Q E
theorem op_cmpIns {E : XK} (F : FnOk X.prog X.w X.K X.mg X.base CX n f fd ps sp) (hs : PySem.W.findIn X.K (.ref C) "__eq__" = some (some (.ref f))) (hf : PySem.W.isFn X.K (.ref f) = true) (hb : Binds X.K fd ps [])
    (ht : PySem.W.notFirst X.K C (.type "tuple") = true) (hr : Room n X.A) (hx : Passes CX X E) : OpR X (compareOp .Eq) (rCmp C sp E) := by
  intro pins s σ H x y v u Q I rx ry h
  obtain ⟨a, dx, fs, b, rfl, rfl, ha, ho, q⟩ := h
  cases (show v = Value.ref a from rx)
  cases (show u = Value.ref b from ry)
  obtain ⟨mA, O, _⟩ := ins_get I.hok ha
  obtain ⟨od, J, _⟩ := O.look
  obtain ⟨m, hF⟩ := I.fr
  have fin : wpAny (model X.prog X.w) X.A (call (.ref f) [.ref a, .ref b]) (PySem.W.CmpBack (EP X pins σ Q)) X.xe s := by
    refine wpAny_mono (run_fn (us := [.ref a, .ref b]) (vs := [.ref a, .ref b]) F hr hb .nil hx I (.cons rfl (.cons rfl .nil)) q) (fun w' s' z => ?_) fun _ _ z => z
    obtain ⟨z', H', I', rz, qz⟩ := z
    exact SlX.cmpback rz ⟨z', H', I', rz, qz⟩
  show wpAny (model X.prog X.w) X.A (richCompare .Eq (.ref a) (.ref b)) _ _ _
  rcases ho with ⟨dy, gs, hb'⟩ | ⟨xs, hb'⟩
  · obtain ⟨mB, O', _⟩ := ins_get I.hok hb'
    obtain ⟨od', J', _⟩ := O'.look
    exact PySem.W.cmp_K (op := .Eq) (tb := .ref C) hr.units0 hF I.ok.mod.kin J J'.type (by simp [PySem.W.notFirst]) hs hf fin
  · obtain ⟨_, its, _, o, h1, h2, _⟩ := (show ObjOk X.prog X.w H s.heap b (.tup xs) from I.hok b _ hb')
    exact PySem.W.cmp_K (op := .Eq) (tb := .type "tuple") hr.units0 hF I.ok.mod.kin J (fun A Q E s k q => wpAny_typeOf_ref (k _ _ h1) (by rw [h2]; exact q)) ht hs hf fin
/-- a | b, both of the class C; what leaves is wished at the slots -/
def tOrIns (C : Addr) (sp : Sp) (E : L2.St → XK) (ta tb : TE) : TE := fun σ H Q => ta σ H fun x H1 => tb σ H1 fun y H2 => ∃ a dx fs b dy gs, x = .ref a ∧ y = .ref b ∧ H2 a = some (.ins C dx fs) ∧ H2 b = some (.ins C dy gs) ∧ sp [x, y] H2 Q (E σ)
theorem pe_orIns {E : L2.St → XK} {a b : Expr} {pos : Pos} {ta tb : TE} (F : FnOk X.prog X.w X.K X.mg X.base CX n f fd ps sp) (hc : PySem.W.selfFirst X.K C = true) (hs : PySem.W.findIn X.K (.ref C) "__or__" = some (some (.ref f))) (hf : PySem.W.isFn X.K (.ref f) = true)
    (hb : Binds X.K fd ps []) (hr : Room n X.A) (hx : ∀ σ, PassesAt CX X σ (E σ)) (pa : PE X a ta) (pb : PE X b tb) : PE X (.BinOp a .BitOr b pos) (tOrIns C sp E ta tb) := by
  refine ⟨fun pins s σ H Q I h => wpAny_BinOp (binT pa pb I h fun v u s2 x y H2 I2 rx ry q => ?_)⟩
  obtain ⟨a1, dx, fs, b1, dy, gs, rfl, rfl, ha, hb', q⟩ := q
  cases (show v = Value.ref a1 from rx)
  cases (show u = Value.ref b1 from ry)
  obtain ⟨mA, O, _⟩ := ins_get I2.hok ha
  obtain ⟨od, J, _⟩ := O.look
  obtain ⟨mB, O', _⟩ := ins_get I2.hok hb'
  obtain ⟨od', J', _⟩ := O'.look
  obtain ⟨m, hF⟩ := I2.fr
  refine PySem.W.binop_K (op := .BitOr) hF I2.ok.mod.kin J J'.type hc hs hf ?_
  refine wpAny_mono (run_fnS (us := [.ref a1, .ref b1]) (vs := [.ref a1, .ref b1]) F hr hb (hx σ) I2 (.cons rfl (.cons rfl .nil)) q) (fun w' s' z => ?_) fun _ _ z => z
  obtain ⟨z', H', I', rz, qz⟩ := z
  exact SlX.cmpback rz ⟨z', H', I', rz, qz⟩
end
section
variable {X : Cx} {CX : CXT} {k n : Nat} {f C : Addr} {fd : FuncData} {ps ks : List Str} {sp : Sp} {E : L2.St → XK} {x : Str} {p pos : Pos} {e : Expr} {es : List Expr} {kws : List Keyword} {t tk : TA} {g : List Value → List Value → List Value} {gV : List V → List V → List V}
/-- C(e, .., k = v, ..) where what leaves is wished at the slots -/
def tMakeKS (C : Addr) (n m : Nat) (sp : Sp) (gV : List V → List V → List V) (E : L2.St → XK) (t tk : TA) : TE := fun σ H Q => t σ H fun vs H1 => tk σ H1 fun zs H2 => vs.length = n ∧ zs.length = m ∧ ∀ a dx, H2 a = none → H2 dx = none → dx ≠ a →
  sp (gV (.ref a :: vs) zs) (upd (upd H2 dx (.own a)) a (.ins C dx [])) (fun v H3 => v = .non ∧ Q (.ref a) H3) (E σ)
theorem pe_makeKS (M : Mk X.K C f) (F : FnOk X.prog X.w X.K X.mg X.base CX k f fd ps sp) (hr : Room (k + 1) X.A) (hg : Gl X x) (hm : X.mg x = some (.ref C)) (hb : KBn X.K fd ps (n + 1) ks g gV) (hx : ∀ σ, PassesAt CX X σ (E σ)) (ha : PA X (e :: es) t) (hkw : PK X kws tk)
    (hall : (backToKw pos (keywordEach kws X.env)).all (·.1.isSome) = true := by rfl) (hks : (backToKw pos (keywordEach kws X.env)).filterMap (·.1) = ks := by rfl) (hdb : (x == ("__debug__" : Str)) = false := by decide)
    (he : starEach (e :: es) X.env = (false, eval e X.env) :: starEach es X.env := by rfl) (hpl : ((backTo pos (starEach (e :: es) X.env)).any (·.1) || (backToKw pos (keywordEach kws X.env)).any (·.1.isNone)) = false := by rfl) :
    PE X (.Call (.Name x p) (e :: es) kws pos) (tMakeKS C n ks.length sp gV E t tk) := by
  refine ⟨fun pins s σ H Q I h => wpAny_Call_Name_kw (ld_glob I hg hm ?_ hdb)⟩
  refine PySem.W.callWith_KW (h₀ := X.base) I.ok.mod.kin M.kp hall (thn (ha.run pos pins s σ H _ I h) fun us s1 ⟨vs, H1, I1, r, q⟩ => ?_) hpl he
  refine thn (hkw.run pos pins s1 σ H1 _ I1 q) fun ws s2 ⟨zs, H2, I2, rz, l1, l2, q2⟩ => ⟨I2.kIn, ?_⟩
  rw [hks]
  -- the new instance and its dict, then __init__
  have at1 := I2.hok.fresh (Nat.le_succ s2.heap.objs.size)
  have at0 := I2.hok.fresh (Nat.le_refl s2.heap.objs.size)
  have todo := q2 (s2.heap.objs.size + 1) s2.heap.objs.size at1 at0 (Nat.ne_of_lt (Nat.lt_succ_self _))
  have J := Inv.made (C := C) I2
  have rAll : Vals (V.ref (s2.heap.objs.size + 1) :: vs) (Value.ref (s2.heap.objs.size + 1) :: us) := Paired.cons rfl r
  have len : (Value.ref (s2.heap.objs.size + 1) :: us).length = n + 1 := by rw [← rAll.length, List.length_cons, l1]
  have bound := hb.to _ (Value.ref (s2.heap.objs.size + 1) :: us) ws J.kIn len (rz.length.symm.trans l2)
  have ran := F.run _ X.stack _ _ ⟨Value.ref (s2.heap.objs.size + 1) :: us, ks.zip ws⟩ _ _ _ (E σ) (hr.make C us (ks.zip ws)) (J.env0.make C us (ks.zip ws)) bound (hb.rel rAll rz) todo
  refine wpAny_call (make_map (f := f) I2.kIn M.makes M.init (beq_iff_eq.mp M.fn) (codeAny_mono ran fun rr s' hq => ?_))
  match rr, hq with
  | .error er, hq => exact hx σ pins _ _ er s' J hq
  | .ok (.ret u), hq =>
    obtain ⟨v, H', J3, rv, ev, q3⟩ := J.after hq
    cases ev
    exact ⟨rv, ⟨V.ref (s2.heap.objs.size + 1), H', J3, rfl, q3⟩⟩
  | .ok .next, hq => exact False.elim hq
  | .ok .brk, hq => exact False.elim hq
  | .ok .cont, hq => exact False.elim hq
end
end W3
namespace W3
open PySem L2
structure Wd where
  mode : Str
  lost : Option Int
  breaks : Option Int
  fails : Option Int
  late : Bool
  deriving DecidableEq
def Wd.flds (W : Wd) : List (Str × V) := wF (.str W.mode) (nV W.lost) (nV W.breaks) (nV W.fails) (.bl W.late)
def WAt (C : Addr) (H : Hp) (p : Addr) (W : Wd) : Prop := ∃ dx, H p = some (.ins C dx W.flds)
def Wd.ok (W : Wd) : Bool := okB (.str W.mode) (nV W.lost) (nV W.breaks) (nV W.fails) (.bl W.late)
def mildB (W W' : Wd) : Bool := decide (W.mode = W'.mode) && (amB W.lost W'.lost && (amB W.breaks W'.breaks && (amB W.fails W'.fails && (W'.late || !W.late))))
def joinW (W W' : Wd) : Wd := ⟨W.mode, grN W.lost W'.lost, grN W.breaks W'.breaks, grN W.fails W'.fails, W.late || W'.late⟩
theorem nV_inj {a b : Option Int} (h : nV a = nV b) : a = b := by
  cases a <;> cases b <;> simp_all [nV]
theorem scal_nV (a b : Option Int) : scal (nV a) (nV b) = true := by
  cases a <;> cases b <;> rfl
theorem tyb_nV (K : PySem.W.Frag) (H : Hp) (a : Option Int) : ∃ T, TyB K H (nV a) T := by
  cases a with
  | none => exact ⟨_, .non⟩
  | some i => exact ⟨_, .int i⟩
theorem okB_gr {a b : Option Int} (h : bndB (nV a) = true) (h' : bndB (nV b) = true) : bndB (nV (grN a b)) = true := by
  unfold grN
  split
  · exact h
  · exact h'
theorem ok_split {m l b f t : V} : okB m l b f t = true ↔ modeB m = true ∧ lateB t = true ∧ bndB l = true ∧ bndB b = true ∧ bndB f = true := by
  unfold okB
  simp only [Bool.and_eq_true]
  exact ⟨fun ⟨⟨a, b⟩, ⟨c, d⟩, e⟩ => ⟨a, b, c, d, e⟩, fun ⟨a, b, c, d, e⟩ => ⟨⟨a, b⟩, ⟨c, d⟩, e⟩⟩
theorem joinW_ok {W W' : Wd} (h : W.ok = true) (h' : W'.ok = true) : (joinW W W').ok = true := by
  obtain ⟨a, b, c, d, e⟩ := ok_split.mp h
  obtain ⟨a', b', c', d', e'⟩ := ok_split.mp h'
  exact ok_split.mpr ⟨a, rfl, okB_gr c c', okB_gr d d', okB_gr e e'⟩
/-- what the class must say, so that isinstance asks its instances rightly -/
structure Wi (K : PySem.W.Frag) (C : Addr) : Prop where
  ha : PySem.W.findIn K (.ref C) "__class__" = some (some (.builtin "object.__class__"))
  hn : PySem.W.specialIn K (.builtin "object.__class__") "__get__" = some (some (.builtin "getset_descriptor.__get__"))
  htk : PySem.W.takesIn K (.builtin "object.__class__") = some true
  hm : PySem.W.mroIn K C (.type "object") = some true
  kT : PySem.W.kitOne K (.type "tuple") (.ref C) = some false
theorem kit_self {K : PySem.W.Frag} {C : Addr} : PySem.W.kitOne K (.ref C) (.ref C) = some true := by
  unfold PySem.W.kitOne
  rw [if_pos (beq_self_eq_true _)]
/-- World.__init__ as it is called -/
structure Wn (K : PySem.W.Frag) (C : Addr) (f : Addr) (fd : FuncData) : Prop where
  F : FunD K "__init__" "World.__init__" (defArgs s_World_init) (defBody s_World_init) (defScope s_World_init) [.str "each"] [("lost", .int 0), ("breaks", .int 0), ("fails", .non), ("late", .bl false)] f fd
  M : Mk K C f
  bk : KBn K fd ["self", "mode", "lost", "breaks", "fails", "late"] 2 ["lost", "breaks", "fails", "late"] (fun us ws => us ++ ws) (fun vs zs => vs ++ zs)
  b0 : ∃ ds, Vals [V.str "each", .int 0, .int 0, .non, .bl false] ds ∧ Binds K fd ["self", "mode", "lost", "breaks", "fails", "late"] ds
/-- a method or getter of World -/
structure Wm (K : PySem.W.Frag) (C : Addr) (x qual : Str) (st : Stmt) (ps : List Str) (f : Addr) (fd : FuncData) : Prop where
  F : Fun K x qual st f fd
  b : Binds K fd ps []
  at_ : PySem.W.findIn K (.ref C) x = some (some (.ref f))
  i : PySem.W.isFn K (.ref f) = true
structure Wp (K : PySem.W.Frag) (C : Addr) (x qual : Str) (st : Stmt) (p f : Addr) (fd : FuncData) : Prop where
  F : Fun K x qual st f fd
  b : Binds K fd ["self"] []
  hp : PropOf K C x p f
section
variable {P : Program} {w : World} {K : PySem.W.Frag} {mg : Str → Option Value} {base : Heap}
def spG_mode (C : Addr) : Sp := fun vs H Q _ => ∃ (a : Addr) (W : Wd), vs = [.ref a] ∧ WAt C H a W ∧ Q (.str W.mode) H
theorem ok_get_mode {f C : Addr} {fd : FuncData} (F : Fun K "mode" "World.mode" s_World_mode f fd) (W : Wc K mg C) : FnOk P w K mg base CX0 1 f fd ["self"] (spG_mode C) := by
  refine F.ok sc_World_mode (fun vs H Q E h => ?_) (fun cdv A outer s H vs Q E hr h => ?_)
  · obtain ⟨a, Z, rfl, _⟩ := h
    rfl
  · obtain ⟨a, Z, rfl, ⟨dx, ha⟩, k⟩ := h
    refine ⟨_, pss_one (ps_ret (pe_fld (pv 0) rfl)), ?_⟩
    exact ⟨_, rfl, a, C, dx, _, _, rfl, ha, W.cl, W.n1, wF_mode _ _ _ _ _, k⟩
def spG_lost (C : Addr) : Sp := fun vs H Q _ => ∃ (a : Addr) (W : Wd), vs = [.ref a] ∧ WAt C H a W ∧ Q (nV W.lost) H
theorem ok_get_lost {f C : Addr} {fd : FuncData} (F : Fun K "lost" "World.lost" s_World_lost f fd) (W : Wc K mg C) : FnOk P w K mg base CX0 1 f fd ["self"] (spG_lost C) := by
  refine F.ok sc_World_lost (fun vs H Q E h => ?_) (fun cdv A outer s H vs Q E hr h => ?_)
  · obtain ⟨a, Z, rfl, _⟩ := h
    rfl
  · obtain ⟨a, Z, rfl, ⟨dx, ha⟩, k⟩ := h
    refine ⟨_, pss_one (ps_ret (pe_fld (pv 0) rfl)), ?_⟩
    exact ⟨_, rfl, a, C, dx, _, _, rfl, ha, W.cl, W.n2, wF_lost _ _ _ _ _, k⟩
def spG_breaks (C : Addr) : Sp := fun vs H Q _ => ∃ (a : Addr) (W : Wd), vs = [.ref a] ∧ WAt C H a W ∧ Q (nV W.breaks) H
theorem ok_get_breaks {f C : Addr} {fd : FuncData} (F : Fun K "breaks" "World.breaks" s_World_breaks f fd) (W : Wc K mg C) : FnOk P w K mg base CX0 1 f fd ["self"] (spG_breaks C) := by
  refine F.ok sc_World_breaks (fun vs H Q E h => ?_) (fun cdv A outer s H vs Q E hr h => ?_)
  · obtain ⟨a, Z, rfl, _⟩ := h
    rfl
  · obtain ⟨a, Z, rfl, ⟨dx, ha⟩, k⟩ := h
    refine ⟨_, pss_one (ps_ret (pe_fld (pv 0) rfl)), ?_⟩
    exact ⟨_, rfl, a, C, dx, _, _, rfl, ha, W.cl, W.n3, wF_breaks _ _ _ _ _, k⟩
def spG_fails (C : Addr) : Sp := fun vs H Q _ => ∃ (a : Addr) (W : Wd), vs = [.ref a] ∧ WAt C H a W ∧ Q (nV W.fails) H
theorem ok_get_fails {f C : Addr} {fd : FuncData} (F : Fun K "fails" "World.fails" s_World_fails f fd) (W : Wc K mg C) : FnOk P w K mg base CX0 1 f fd ["self"] (spG_fails C) := by
  refine F.ok sc_World_fails (fun vs H Q E h => ?_) (fun cdv A outer s H vs Q E hr h => ?_)
  · obtain ⟨a, Z, rfl, _⟩ := h
    rfl
  · obtain ⟨a, Z, rfl, ⟨dx, ha⟩, k⟩ := h
    refine ⟨_, pss_one (ps_ret (pe_fld (pv 0) rfl)), ?_⟩
    exact ⟨_, rfl, a, C, dx, _, _, rfl, ha, W.cl, W.n4, wF_fails _ _ _ _ _, k⟩
def spG_late (C : Addr) : Sp := fun vs H Q _ => ∃ (a : Addr) (W : Wd), vs = [.ref a] ∧ WAt C H a W ∧ Q (.bl W.late) H
theorem ok_get_late {f C : Addr} {fd : FuncData} (F : Fun K "late" "World.late" s_World_late f fd) (W : Wc K mg C) : FnOk P w K mg base CX0 1 f fd ["self"] (spG_late C) := by
  refine F.ok sc_World_late (fun vs H Q E h => ?_) (fun cdv A outer s H vs Q E hr h => ?_)
  · obtain ⟨a, Z, rfl, _⟩ := h
    rfl
  · obtain ⟨a, Z, rfl, ⟨dx, ha⟩, k⟩ := h
    refine ⟨_, pss_one (ps_ret (pe_fld (pv 0) rfl)), ?_⟩
    exact ⟨_, rfl, a, C, dx, _, _, rfl, ha, W.cl, W.n5, wF_late _ _ _ _ _, k⟩
def spEqW (C : Addr) : Sp := fun vs H Q _ => ∃ (a b : Addr) (W : Wd), vs = [.ref a, .ref b] ∧ WAt C H a W ∧ ((∃ W', WAt C H b W' ∧ Q (.bl (decide (W = W'))) H) ∨ ∃ xs, H b = some (.tup xs) ∧ Q (.bl false) H)
theorem ok_eq {f C : Addr} {fd : FuncData} (F : Fun K "__eq__" "World.__eq__" s_World_eq f fd) (T : Bi mg) (W : Wc K mg C) (I : Wi K C) : FnOk P w K mg base CX0 1 f fd ["self", "other"] (spEqW C) := by
  refine F.ok sc_World_eq (fun vs H Q E h => ?_) (fun cdv A outer s H vs Q E hr h => ?_)
  · obtain ⟨a, b, Z, rfl, _⟩ := h
    rfl
  · obtain ⟨a, b, Z, rfl, ⟨dx, ha⟩, k⟩ := h
    refine ⟨_, pss_one (ps_ret (pe_and (pe_callB call_isi (by rfl) T.isi (by decide +kernel) (pa_cons (pv 1) (pa_cons (pe_glob (v := .ref C) rfl W.g rfl) pa_nil)))
      (pe_and (pe_cmpR op_eq (pe_fld (pv 0) rfl) (pe_fld (pv 1) rfl) (nomark _)) (pe_and (pe_cmpR op_eq (pe_fld (pv 0) rfl) (pe_fld (pv 1) rfl) (nomark _)) (pe_and (pe_cmpR op_eq (pe_fld (pv 0) rfl) (pe_fld (pv 1) rfl) (nomark _))
      (pe_and (pe_cmpR op_eq (pe_fld (pv 0) rfl) (pe_fld (pv 1) rfl) (nomark _)) (pe_one (pe_cmpR op_eq (pe_fld (pv 0) rfl) (pe_fld (pv 1) rfl) (nomark _))))))))), ?_⟩
    rcases k with ⟨Y, ⟨dy, hb⟩, k⟩ | ⟨xs, hb, k⟩
    · refine ⟨_, rfl, .ref b, .ref C, .ref C, .ref C, true, rfl, .own C, .base (.ins hb W.cl I.ha I.hn I.htk I.hm), kit_self, _, rfl, iteT ?_⟩
      have no : ∀ {c : Prop} [Decidable c], (Z = Y → c) → ¬ (decide c = true) → Q (.bl false) H := fun {c _} hc hn => by
        have e : decide (Z = Y) = false := decide_eq_false fun e => hn (decide_eq_true (hc e))
        rw [e] at k
        exact k
      refine ⟨_, rfl, a, C, dx, _, _, rfl, ha, W.cl, W.n1, wF_mode _ _ _ _ _, _, rfl, b, C, dy, _, _, rfl, hb, W.cl, W.n1, wF_mode _ _ _ _ _, rfl, _, rfl, ite2 (fun h1 => ?_) (no fun e => by rw [e])⟩
      refine ⟨_, rfl, a, C, dx, _, _, rfl, ha, W.cl, W.n2, wF_lost _ _ _ _ _, _, rfl, b, C, dy, _, _, rfl, hb, W.cl, W.n2, wF_lost _ _ _ _ _, scal_nV _ _, _, rfl, ite2 (fun h2 => ?_) (no fun e => by rw [e])⟩
      refine ⟨_, rfl, a, C, dx, _, _, rfl, ha, W.cl, W.n3, wF_breaks _ _ _ _ _, _, rfl, b, C, dy, _, _, rfl, hb, W.cl, W.n3, wF_breaks _ _ _ _ _, scal_nV _ _, _, rfl, ite2 (fun h3 => ?_) (no fun e => by rw [e])⟩
      refine ⟨_, rfl, a, C, dx, _, _, rfl, ha, W.cl, W.n4, wF_fails _ _ _ _ _, _, rfl, b, C, dy, _, _, rfl, hb, W.cl, W.n4, wF_fails _ _ _ _ _, scal_nV _ _, _, rfl, ite2 (fun h4 => ?_) (no fun e => by rw [e])⟩
      refine ⟨_, rfl, a, C, dx, _, _, rfl, ha, W.cl, W.n5, wF_late _ _ _ _ _, _, rfl, b, C, dy, _, _, rfl, hb, W.cl, W.n5, wF_late _ _ _ _ _, rfl, ?_⟩
      have e : decide (Z = Y) = decide (V.bl Z.late = V.bl Y.late) := by
        obtain ⟨m, l, br, fa, la⟩ := Z
        obtain ⟨m', l', br', fa', la'⟩ := Y
        have q1 : m = m' := V.str.inj (of_decide_eq_true h1)
        have q2 : l = l' := nV_inj (of_decide_eq_true h2)
        have q3 : br = br' := nV_inj (of_decide_eq_true h3)
        have q4 : fa = fa' := nV_inj (of_decide_eq_true h4)
        subst q1 q2 q3 q4
        simp
      rw [e] at k
      exact k
    · exact ⟨_, rfl, .ref b, .ref C, .type "tuple", .ref C, false, rfl, .own C, .base (.tup hb), I.kT, _, rfl, iteF k⟩
def spMild (C : Addr) : Sp := fun vs H Q _ => ∃ (a b : Addr) (W W' : Wd), vs = [.ref a, .ref b] ∧ WAt C H a W ∧ WAt C H b W' ∧ Q (.bl (mildB W W')) H
theorem ok_mild {f C fA : Addr} {fd fdA : FuncData} (F : Fun K "is_milder" "World.is_milder" s_World_is_milder f fd) (W : Wc K mg C) (N : Dn K mg "is_at_most" s_is_at_most ["one", "other"] fA fdA) : FnOk P w K mg base CX0 2 f fd ["self", "other"] (spMild C) := by
  have GA : FnOk P w K mg base CX0 1 fA fdA ["one", "other"] spAm := ok_am N.F
  refine F.ok sc_World_is_milder (fun vs H Q E h => ?_) (fun cdv A outer s H vs Q E hr h => ?_)
  · obtain ⟨a, b, Z, Y, rfl, _⟩ := h
    rfl
  · obtain ⟨a, b, Z, Y, rfl, ⟨dx, ha⟩, ⟨dy, hb⟩, k⟩ := h
    refine ⟨_, pss_one (ps_ret (pe_and (pe_cmpR op_eq (pe_fld (pv 0) rfl) (pe_fld (pv 1) rfl) (nomark _))
      (pe_and (pe_call GA hr (by rfl) N.g N.F.kp N.b .nil pass0 (pa_cons (pe_fld (pv 0) rfl) (pa_cons (pe_fld (pv 1) rfl) pa_nil)))
      (pe_and (pe_call GA hr (by rfl) N.g N.F.kp N.b .nil pass0 (pa_cons (pe_fld (pv 0) rfl) (pa_cons (pe_fld (pv 1) rfl) pa_nil)))
      (pe_and (pe_call GA hr (by rfl) N.g N.F.kp N.b .nil pass0 (pa_cons (pe_fld (pv 0) rfl) (pa_cons (pe_fld (pv 1) rfl) pa_nil)))
      (pe_one (pe_or (pe_fld (pv 1) rfl) (pe_one (pe_not (pe_fld (pv 0) rfl)))))))))), ?_⟩
    refine ⟨_, rfl, a, C, dx, _, _, rfl, ha, W.cl, W.n1, wF_mode _ _ _ _ _, _, rfl, b, C, dy, _, _, rfl, hb, W.cl, W.n1, wF_mode _ _ _ _ _, rfl, _, rfl, ?_⟩
    have em : decide (V.str Z.mode = V.str Y.mode) = decide (Z.mode = Y.mode) := by simp
    rw [em]
    unfold mildB at k
    cases e1 : decide (Z.mode = Y.mode) with
    | false => rw [e1] at k; exact iteF k
    | true =>
      rw [e1] at k
      refine iteT ⟨_, rfl, a, C, dx, _, _, rfl, ha, W.cl, W.n2, wF_lost _ _ _ _ _, _, rfl, b, C, dy, _, _, rfl, hb, W.cl, W.n2, wF_lost _ _ _ _ _, Z.lost, Y.lost, rfl, _, rfl, ?_⟩
      cases e2 : amB Z.lost Y.lost with
      | false => rw [e2] at k; exact iteF k
      | true =>
        rw [e2] at k
        refine iteT ⟨_, rfl, a, C, dx, _, _, rfl, ha, W.cl, W.n3, wF_breaks _ _ _ _ _, _, rfl, b, C, dy, _, _, rfl, hb, W.cl, W.n3, wF_breaks _ _ _ _ _, Z.breaks, Y.breaks, rfl, _, rfl, ?_⟩
        cases e3 : amB Z.breaks Y.breaks with
        | false => rw [e3] at k; exact iteF k
        | true =>
          rw [e3] at k
          refine iteT ⟨_, rfl, a, C, dx, _, _, rfl, ha, W.cl, W.n4, wF_fails _ _ _ _ _, _, rfl, b, C, dy, _, _, rfl, hb, W.cl, W.n4, wF_fails _ _ _ _ _, Z.fails, Y.fails, rfl, _, rfl, ?_⟩
          cases e4 : amB Z.fails Y.fails with
          | false => rw [e4] at k; exact iteF k
          | true =>
            rw [e4] at k
            refine iteT ⟨_, rfl, b, C, dy, _, _, rfl, hb, W.cl, W.n5, wF_late _ _ _ _ _, _, rfl, ?_⟩
            cases e5 : Y.late with
            | true => rw [e5] at k; exact iteT k
            | false =>
              rw [e5] at k
              exact iteF ⟨_, rfl, a, C, dx, _, _, rfl, ha, W.cl, W.n5, wF_late _ _ _ _ _, _, rfl, k⟩
/-- the environment of __init__ -/
structure Env (K : PySem.W.Frag) (mg : Str → Option Value) (C CI fI fM fB fN : Addr) (fdI fdM fdB fdN : FuncData) : Prop where
  T : Bi mg
  G : Cs K mg
  W : Wc K mg C
  X : Xc K mg "InvalidWorld" CI
  M : Dn K mg "is_mode" s_is_mode ["value"] fM fdM
  B : Dn K mg "is_bound" s_is_bound ["value"] fB fdB
  N : Dn K mg "is_number" s_is_number ["value", "most"] fN fdN
  I : Wn K C fI fdI
theorem Env.init {C CI fI fM fB fN : Addr} {fdI fdM fdB fdN : FuncData} (V : Env K mg C CI fI fM fB fN fdI fdM fdB fdN) : FnOk P w K mg base (L2.CX P w) 3 fI fdI ["self", "mode", "lost", "breaks", "fails", "late"] (spInit K C CI) :=
  ok_init V.I.F V.T V.G V.W V.X V.M V.B V.N
/-- __init__'s promise at good values, in one piece -/
theorem init_use {C CI p dx : Addr} {H : Hp} {Wn' : Wd} {Q : VK} {E : XK} (hp : H p = some (.ins C dx [])) (hok : Wn'.ok = true)
    (k : ∀ H' : Hp, H' p = some (.ins C dx Wn'.flds) → (∀ q, q ≠ p → H' q = H q) → Q .non H') : spInit K C CI [.ref p, .str Wn'.mode, nV Wn'.lost, nV Wn'.breaks, nV Wn'.fails, .bl Wn'.late] H Q E := by
  obtain ⟨T1, h1⟩ := tyb_nV K H Wn'.lost
  obtain ⟨T2, h2⟩ := tyb_nV K H Wn'.breaks
  obtain ⟨T3, h3⟩ := tyb_nV K H Wn'.fails
  exact ⟨p, dx, _, _, _, _, _, _, T1, T2, T3, _, rfl, hp, .str _, h1, h2, h3, .bl _, fun _ => k, fun e => by rw [show okB _ _ _ _ _ = true from hok] at e; cases e⟩
def spOr (C CE : Addr) : Sp := fun vs H Q E => ∃ (a b : Addr) (W W' : Wd), vs = [.ref a, .ref b] ∧ WAt C H a W ∧ WAt C H b W' ∧ W.ok = true ∧ W'.ok = true ∧ (W.mode ≠ W'.mode → E (.ref CE) none H) ∧
  (W.mode = W'.mode → ∀ (x : Addr) (H' : Hp), H x = none → WAt C H' x (joinW W W') → Same H H' → Q (.ref x) H')
theorem ok_or {f C CI CE fI fM fB fN fG fA : Addr} {fd fdI fdM fdB fdN fdG fdA : FuncData} (F : Fun K "__or__" "World.__or__" s_World_or f fd) (Ev : Env K mg C CI fI fM fB fN fdI fdM fdB fdN) (Y : Xc K mg "WorldError" CE)
    (GB : Dn K mg "greater_bound" s_greater_bound ["one", "other"] fG fdG) (AM : Dn K mg "is_at_most" s_is_at_most ["one", "other"] fA fdA) : FnOk P w K mg base (L2.CX P w) 5 f fd ["self", "other"] (spOr C CE) := by
  have GI : FnOk P w K mg base (L2.CX P w) 3 fI fdI ["self", "mode", "lost", "breaks", "fails", "late"] (spInit K C CI) := Ev.init
  have GG : FnOk P w K mg base CX0 2 fG fdG ["one", "other"] spGr := ok_gr GB.F AM
  have W := Ev.W
  refine F.okX sc_World_or (fun vs H Q E h => ?_) (fun cdv A outer s H vs Q E hr h => ?_)
  · obtain ⟨a, b, Z, Y, rfl, _⟩ := h
    rfl
  · obtain ⟨a, b, Z, Y', rfl, ⟨dx, ha⟩, ⟨dy, hb⟩, o1, o2, kE, kQ⟩ := h
    have hr2 : Room 2 _ := hr.mono (by decide)
    refine ⟨_, pss_cons (ps_if (pt_cmpR op_ne (pe_fld (pv 0) rfl) (pe_fld (pv 1) rfl) (nomark _)) (pss_one (ps_raise rfl (takes_of rfl rfl rfl rfl) (pmk_own PySem.F.excBase_ValueError Y.x Y.g Y.k (raises_own Y.b Y.t) rfl))) pss_nil)
      (pss_one (ps_ret (pe_makeK Ev.I.M GI hr (by rfl) W.g Ev.I.bk passL (pa_cons (pe_fld (pv 0) rfl) pa_nil)
        (pk_cons (pe_call GG hr2 (by rfl) GB.g GB.F.kp GB.b .nil pass0 (pa_cons (pe_fld (pv 0) rfl) (pa_cons (pe_fld (pv 1) rfl) pa_nil)))
        (pk_cons (pe_call GG hr2 (by rfl) GB.g GB.F.kp GB.b .nil pass0 (pa_cons (pe_fld (pv 0) rfl) (pa_cons (pe_fld (pv 1) rfl) pa_nil)))
        (pk_cons (pe_call GG hr2 (by rfl) GB.g GB.F.kp GB.b .nil pass0 (pa_cons (pe_fld (pv 0) rfl) (pa_cons (pe_fld (pv 1) rfl) pa_nil)))
        (pk_cons (pe_or (pe_fld (pv 0) rfl) (pe_one (pe_fld (pv 1) rfl))) pk_nil))))))), ?_⟩
    refine ⟨_, rfl, a, C, dx, _, _, rfl, ha, W.cl, W.n1, wF_mode _ _ _ _ _, _, rfl, b, C, dy, _, _, rfl, hb, W.cl, W.n1, wF_mode _ _ _ _ _, rfl, _, rfl, ?_⟩
    by_cases c : Z.mode = Y'.mode
    · have e1 : (!decide (V.str Z.mode = V.str Y'.mode)) = false := by simp [c]
      rw [e1]
      refine iteF ?_
      have kQ := kQ c
      refine ⟨_, rfl, a, C, dx, _, _, rfl, ha, W.cl, W.n1, wF_mode _ _ _ _ _, ?_⟩
      refine ⟨_, rfl, a, C, dx, _, _, rfl, ha, W.cl, W.n2, wF_lost _ _ _ _ _, _, rfl, b, C, dy, _, _, rfl, hb, W.cl, W.n2, wF_lost _ _ _ _ _, Z.lost, Y'.lost, rfl, ?_⟩
      refine ⟨_, rfl, a, C, dx, _, _, rfl, ha, W.cl, W.n3, wF_breaks _ _ _ _ _, _, rfl, b, C, dy, _, _, rfl, hb, W.cl, W.n3, wF_breaks _ _ _ _ _, Z.breaks, Y'.breaks, rfl, ?_⟩
      refine ⟨_, rfl, a, C, dx, _, _, rfl, ha, W.cl, W.n4, wF_fails _ _ _ _ _, _, rfl, b, C, dy, _, _, rfl, hb, W.cl, W.n4, wF_fails _ _ _ _ _, Z.fails, Y'.fails, rfl, ?_⟩
      refine ⟨_, rfl, a, C, dx, _, _, rfl, ha, W.cl, W.n5, wF_late _ _ _ _ _, _, rfl, ?_⟩
      have fin : ∀ x dx', H x = none → H dx' = none → dx' ≠ x → spInit K C CI [.ref x, .str Z.mode, nV (joinW Z Y').lost, nV (joinW Z Y').breaks, nV (joinW Z Y').fails, .bl (joinW Z Y').late] (upd (upd H dx' (.own x)) x (.ins C dx' [])) (fun v H3 => v = .non ∧ Q (.ref x) H3) E0 := fun x dx' nx ndx nex => by
        refine init_use (Wn' := joinW Z Y') upd_same (joinW_ok o1 o2) fun H' e1 e2 => ⟨rfl, ?_⟩
        refine kQ x H' nx ⟨dx', e1⟩ fun q o e => ?_
        rw [e2 q (ne_of_none e nx), upd_ne (ne_of_none e nx), upd_ne (ne_of_none e ndx)]
        exact e
      cases e5 : Z.late with
      | true =>
        refine iteT ⟨rfl, rfl, fun x dx' nx ndx nex => ?_⟩
        have q := fin x dx' nx ndx nex
        have e : (joinW Z Y').late = true := by show (Z.late || Y'.late) = true; rw [e5]; rfl
        rw [e] at q
        exact q
      | false =>
        refine iteF ⟨_, rfl, b, C, dy, _, _, rfl, hb, W.cl, W.n5, wF_late _ _ _ _ _, rfl, rfl, fun x dx' nx ndx nex => ?_⟩
        have q := fin x dx' nx ndx nex
        have e : (joinW Z Y').late = Y'.late := by show (Z.late || Y'.late) = _; rw [e5]; rfl
        rw [e] at q
        exact q
    · have e1 : (!decide (V.str Z.mode = V.str Y'.mode)) = true := by simp [c]
      rw [e1]
      exact iteT (kE c)
end
end W3
namespace W3
open PySem L2
/-- the draws' state: the list at p holds a number, the list q of the script's ints (changed in part), a count -/
def HS (H : Hp) (p q : Addr) : Prop := ∃ (a i : Int) (ns : List Int), H p = some (.lst [.int a, .ref q, .int i]) ∧ H q = some (.lst (ns.map V.int)) ∧ ns.length ≤ 63 ∧ 0 ≤ a ∧ a < 2147483647 ∧ 0 ≤ i
def Keep (p q : Addr) (H H' : Hp) : Prop := ∀ b o, H b = some o → b ≠ p → b ≠ q → H' b = some o
theorem HS.ne {H : Hp} {p q : Addr} (h : HS H p q) : p ≠ q := by
  obtain ⟨a, i, ns, h1, h2, _⟩ := h
  refine ne_of h1 h2 fun e => ?_
  have e1 : [V.int a, .ref q, .int i] = ns.map V.int := by injection e
  match ns, e1 with
  | [], e1 => cases e1
  | [_], e1 => simp at e1
  | _ :: _ :: _, e1 => simp at e1
theorem HS.same {H H' : Hp} {p q : Addr} (h : HS H p q) (s : Same H H') : HS H' p q := by
  obtain ⟨a, i, ns, h1, h2, h3⟩ := h
  exact ⟨a, i, ns, s _ _ h1, s _ _ h2, h3⟩
theorem Keep.of {H H' : Hp} {p q : Addr} (s : Same H H') : Keep p q H H' := fun b o e _ _ => s b o e
theorem Keep.trans {H H1 H2 : Hp} {p q : Addr} (a : Keep p q H H1) (b : Keep p q H1 H2) : Keep p q H H2 := fun c o e h1 h2 => b c o (a c o e h1 h2) h1 h2
theorem HS.np {H : Hp} {p q t : Addr} (h : HS H p q) (n : H t = none) : t ≠ p ∧ t ≠ q := by
  obtain ⟨a, i, ns, h1, h2, _⟩ := h
  exact ⟨(ne_of_none h1 n).symm, (ne_of_none h2 n).symm⟩
theorem HS.nt {H : Hp} {p q t : Addr} {xs : List V} (h : HS H p q) (n : H t = some (.tup xs)) : t ≠ p ∧ t ≠ q := by
  obtain ⟨a, i, ns, h1, h2, _⟩ := h
  exact ⟨ne_of n h1 (by intro z; cases z), ne_of n h2 (by intro z; cases z)⟩
theorem HS.ni {H : Hp} {p q t C dx : Addr} {fs : List (Str × V)} (h : HS H p q) (n : H t = some (.ins C dx fs)) : t ≠ p ∧ t ≠ q := by
  obtain ⟨a, i, ns, h1, h2, _⟩ := h
  exact ⟨ne_of n h1 (by intro z; cases z), ne_of n h2 (by intro z; cases z)⟩
theorem same_upd {H : Hp} {t : Addr} {o : HO} (n : H t = none) : Same H (upd H t o) := fun b u e => by
  rw [upd_ne (ne_of_none e n)]
  exact e
theorem atI_in {α : Type} {xs : List α} {i : Int} (h0 : 0 ≤ i) (h1 : i < xs.length) : ∃ v, xs[i.toNat]? = some v ∧ atI xs i = some v := by
  have h : i.toNat < xs.length := by omega
  refine ⟨xs[i.toNat], by simp [h], ?_⟩
  have q := atI_nat (xs := xs) (j := i.toNat) (v := xs[i.toNat]) (by simp [h])
  rw [Int.toNat_of_nonneg h0] at q
  exact q
theorem ixN_in {n : Nat} {i : Int} (h0 : 0 ≤ i) (h1 : i < n) : ixN n i = some i.toNat := by
  unfold ixN
  rw [if_pos h0, if_pos h1]
theorem fmod_in (i m : Int) (hm : 0 < m) : 0 ≤ i.fmod m ∧ i.fmod m < m := by
  rw [Int.fmod_eq_emod_of_nonneg i (by omega)]
  exact ⟨Int.emod_nonneg _ (by omega), Int.emod_lt_of_pos _ hm⟩
/-- the cell that a draw reads -/
theorem pick (ns : List Int) (i : Int) : ∃ z, atI (ns.map V.int ++ [V.int 0]) (i.fmod (if (ns.length : Int) > 1 then (ns.length : Int) else 1)) = some (V.int z) ∧ (ns = [] → z = 0) := by
  cases ns with
  | nil =>
    refine ⟨0, ?_, fun _ => rfl⟩
    have e : i.fmod (if ((([] : List Int).length : Nat) : Int) > 1 then ((([] : List Int).length : Nat) : Int) else 1) = 0 := by
      have h := fmod_in i 1 (by omega)
      simp
    rw [e]
    rfl
  | cons n r =>
    have hm : (if (((n :: r).length : Nat) : Int) > 1 then (((n :: r).length : Nat) : Int) else 1) = ((n :: r).length : Int) := by
      by_cases c : (((n :: r).length : Nat) : Int) > 1
      · rw [if_pos c]
      · rw [if_neg c]
        have : (n :: r).length = r.length + 1 := rfl
        omega
    rw [hm]
    have hb := fmod_in i ((n :: r).length : Int) (by simp only [List.length_cons]; omega)
    obtain ⟨v, hv, ha⟩ := atI_in (xs := (n :: r).map V.int ++ [V.int 0]) hb.1 (by rw [List.length_append, List.length_map]; have := hb.2; simp only [List.length_singleton]; omega)
    rw [List.getElem?_append_left (by rw [List.length_map]; omega), List.getElem?_map] at hv
    cases e : (n :: r)[(i.fmod ((n :: r).length : Int)).toNat]? with
    | none => rw [e] at hv; cases hv
    | some z =>
      rw [e] at hv
      cases hv
      exact ⟨z, ha, fun q => by cases q⟩
section
variable {P : Program} {w : World} {K : PySem.W.Frag} {mg : Str → Option Value} {base : Heap}
def spMix (K : PySem.W.Frag) : Sp := fun vs H Q _ => ∃ (a : Addr) (ns : List Int) (c : Int), vs = [.ref a, .int c] ∧ SqL K H a (ns.map V.int) ∧ ns.length ≤ 63 ∧ 0 ≤ c ∧ c < 2147483647 ∧
  ∀ (p q : Addr) (H' : Hp), HS H' p q → Same H H' → Q (.ref p) H'
theorem ok_mix {f : Addr} {fd : FuncData} (F : Fun K "_law_mix" "_law_mix" s_law_mix f fd) (T : Bi mg) : FnOk P w K mg base CX0 1 f fd ["_law_script", "_law_seed"] (spMix K) := by
  refine F.ok sc_law_mix (fun vs H Q E h => ?_) (fun cdv A outer s H vs Q E hr h => ?_)
  · obtain ⟨a, ns, c, rfl, _⟩ := h
    rfl
  · obtain ⟨a, ns, c, rfl, hS, hl, c0, c1, k⟩ := h
    refine ⟨_, pss_cons (ps_set (i := 2) sc_law_mix.nd rfl (Or.inl rfl) (pv 1))
      (pss_cons (ps_for PassesOwn.never rfl (pi_list (pv 0)) (pg_name (i := 3) sc_law_mix.nd rfl (Or.inl rfl))
        (pss_one (ps_set (i := 2) sc_law_mix.nd rfl (Or.inl rfl) (pe_op op_mod (pe_callTy call_int1 (by rfl) T.int (by decide +kernel) (pa_cons
          (pe_op op_add (pe_op op_add (pe_op op_mul (pv 2) pe_int) (pe_op op_mod (pe_callTy call_int1 (by rfl) T.int (by decide +kernel) (pa_cons (pv 3) pa_nil)) pe_int)) pe_int) pa_nil)) pe_int))))
      (pss_one (ps_ret (pe_lst (pa_cons (pv 2) (pa_cons (pe_callTy call_list_of (by rfl) T.list (by decide +kernel) (pa_cons (pv 0) pa_nil)) (pa_cons pe_int pa_nil))))))), ?_⟩
    refine ⟨_, rfl, ?_⟩
    refine ⟨_, rfl, a, rfl, ⟨_, hS⟩, for_list (K := K) (a := a) (xs := ns.map V.int) (fun i σ H2 => ∃ (z : Int) (v : Option V), σ = [some (.ref a), some (.int c), some (.int z), v] ∧ 0 ≤ z ∧ z < 2147483647 ∧ H2 = H)
      ⟨c, none, rfl, c0, c1, rfl⟩ (fun i σ H2 _ ⟨_, _, _, _, _, e⟩ => by rw [e]; exact hS) ?_ ?_⟩
    · rintro i y σ H2 hi ⟨z, v, rfl, z0, z1, rfl⟩
      obtain ⟨u, rfl⟩ : ∃ u, y = V.int u := by
        rw [List.getElem?_map] at hi
        cases e : ns[i]? with
        | none => rw [e] at hi; cases hi
        | some u => rw [e] at hi; exact ⟨u, (Option.some.inj hi).symm⟩
      refine ⟨_, rfl, _, _, rfl, rfl, .inl ⟨by omega, by omega⟩, _, rfl, .inl ⟨_, rfl, _, _, rfl, rfl, (by show (0 : Int) < 2147483629; decide), _, _, rfl, rfl, _, _, rfl, rfl, .inl ⟨_, rfl, _, _, rfl, rfl, (by show (0 : Int) < 2147483647; decide), ?_⟩⟩⟩
      exact ⟨_, _, rfl, Int.emod_nonneg _ (by omega), Int.emod_lt_of_pos _ (by omega), rfl⟩
    · rintro σ H2 ⟨z, v, rfl, z0, z1, rfl⟩
      refine ⟨_, rfl, _, rfl, a, _, rfl, .inl hS, fun l nl => ⟨(by show 3 ≤ sizeLine; decide), fun p np => ?_⟩⟩
      have n0 : H2 p = none := (same_upd (o := .lst (ns.map V.int)) nl).free np
      have nlp : l ≠ p := fun e => by
        subst e
        rw [upd_same] at np
        cases np
      exact k p l _ ⟨z, 0, ns, upd_same, by rw [upd_ne nlp, upd_same], hl, z0, z1, Int.le_refl _⟩ fun b o e => by
        rw [upd_ne (ne_of_none e n0), upd_ne (ne_of_none e nl)]
        exact e
def spNext : Sp := fun vs H Q _ => ∃ (p q : Addr) (cap : Int), vs = [.ref p, .int cap] ∧ 0 < cap ∧ cap < 1073741824 ∧ HS H p q ∧
  ∀ (v : Int) (H' : Hp), 0 ≤ v → v < cap → HS H' p q → Keep p q H H' → Q (.int v) H'
theorem ok_next {f : Addr} {fd : FuncData} (F : Fun K "_law_next" "_law_next" s_law_next f fd) (T : Bi mg) : FnOk P w K mg base CX0 1 f fd ["_law_h", "_law_cap"] spNext := by
  refine F.ok sc_law_next (fun vs H Q E h => ?_) (fun cdv A outer s H vs Q E hr h => ?_)
  · obtain ⟨p, q, c, rfl, _⟩ := h
    rfl
  · obtain ⟨p, q, c, rfl, c0, c1, hH, k⟩ := h
    have npq := hH.ne
    obtain ⟨a, i, ns, hp, hq, hl, a0, a1, i0⟩ := id hH
    refine ⟨_, pss_cons (ps_set (i := 2) sc_law_next.nd rfl (Or.inl rfl) (pe_ix ix_list (pe_op op_cat (pe_ix ix_list (pv 0) pe_int (fun _ _ => rfl)) (pe_lst (pa_cons pe_int pa_nil)))
        (pe_op op_modN (pe_callTy call_int1 (by rfl) T.int (by decide +kernel) (pa_cons (pe_ix ix_list (pv 0) pe_int (fun _ _ => rfl)) pa_nil))
          (pe_callB (call_max2 rfl) (by rfl) T.max (by decide +kernel) (pa_cons pe_int (pa_cons (pe_callB call_len_seq (by rfl) T.len PySem.boot_len (pa_cons (pe_ix ix_list (pv 0) pe_int (fun _ _ => rfl)) pa_nil)) pa_nil)))) (fun _ _ => rfl)))
      (pss_cons (ps_if (pt_cmpR op_ge (pv 2) (pe_op op_pow pe_int pe_int) (nomark _))
        (pss_cons (ps_asg (pe_op op_fdivN (pv 2) (pv 1)) (pg_sub (pe_ix ix_list (pv 0) pe_int (fun _ _ => rfl))
            (pe_op op_modN (pe_callTy call_int1 (by rfl) T.int (by decide +kernel) (pa_cons (pe_ix ix_list (pv 0) pe_int (fun _ _ => rfl)) pa_nil)) (pe_callB call_len_seq (by rfl) T.len PySem.boot_len (pa_cons (pe_ix ix_list (pv 0) pe_int (fun _ _ => rfl)) pa_nil))) set_list))
          (pss_one (ps_ret (pe_op op_modN (pe_callTy call_int1 (by rfl) T.int (by decide +kernel) (pa_cons (pv 2) pa_nil)) (pv 1))))) pss_nil)
      (pss_cons (ps_asg (pe_op op_mod (pe_callTy call_int1 (by rfl) T.int (by decide +kernel) (pa_cons (pe_op op_add (pe_op op_add (pe_op op_mul (pe_ix ix_list (pv 0) pe_int (fun _ _ => rfl)) pe_int) (pe_op op_mul (pv 2) pe_int)) pe_int) pa_nil)) pe_int) (pg_sub (pv 0) pe_int set_list))
      (pss_cons (ps_asg (pe_op op_add (pe_ix ix_list (pv 0) pe_int (fun _ _ => rfl)) pe_int) (pg_sub (pv 0) pe_int set_list))
      (pss_one (ps_ret (pe_op op_modN (pe_callTy call_int1 (by rfl) T.int (by decide +kernel) (pa_cons (pe_op op_fdiv (pe_ix ix_list (pv 0) pe_int (fun _ _ => rfl)) pe_int) pa_nil)) (pv 1))))))), ?_⟩
    obtain ⟨z, hz, hz0⟩ := pick ns i
    -- the cell
    refine ⟨_, rfl, p, _, 1, _, rfl, rfl, SqL.of hp, rfl, (by show 1 ≤ sizeLine; decide), fun t1 n1 => ?_⟩
    have s1 : Same H (upd H t1 (.lst [.int 0])) := same_upd n1
    refine ⟨q, t1, _, _, rfl, rfl, s1 _ _ hq, upd_same, (by rw [List.length_map]; show ns.length + 1 ≤ sizeLine; exact Nat.le_of_lt (small1000 (by omega))), fun t2 n2 => ?_⟩
    have s2 : Same H (upd (upd H t1 (.lst [.int 0])) t2 (.lst (ns.map V.int ++ [.int 0]))) := s1.trans (same_upd n2)
    refine ⟨_, rfl, p, _, 2, _, rfl, rfl, SqL.of (s2 _ _ hp), rfl, .inl ⟨_, rfl, _, rfl, p, _, 1, _, rfl, rfl, SqL.of (s2 _ _ hp), rfl, q, _, rfl, .inl (SqL.of (s2 _ _ hq)), _, _, rfl, ?_⟩⟩
    rw [List.length_map]
    have hm : (if (ns.length : Int) > 1 then (ns.length : Int) else 1) ≠ 0 := by split <;> omega
    refine ⟨_, _, rfl, rfl, hm, t2, _, _, _, rfl, rfl, SqL.of upd_same, hz, ?_⟩
    generalize (upd (upd H t1 (.lst [.int 0])) t2 (.lst (ns.map V.int ++ [.int 0]))) = H2 at s2
    have hp := s2 _ _ hp
    have hq := s2 _ _ hq
    refine ⟨_, rfl, _, _, rfl, rfl, ⟨by decide, by decide, by decide⟩, _, _, rfl, rfl, _, rfl, ite2 (fun c2 => ?_) (fun c2 => ?_)⟩
    · have hge := of_decide_eq_true c2
      have hne : ns ≠ [] := fun e => by
        rw [hz0 e] at hge
        exact absurd hge (by decide)
      have hlp : 0 < ns.length := List.length_pos_iff.mpr hne
      have hb := fmod_in i (ns.length : Int) (by omega)
      refine ⟨_, rfl, _, rfl, _, _, rfl, rfl, ⟨by omega, by omega⟩, ?_⟩
      refine ⟨_, rfl, p, _, 1, _, rfl, rfl, SqL.of hp, rfl, _, rfl, p, _, 2, _, rfl, rfl, SqL.of hp, rfl, .inl ⟨_, rfl, _, rfl, p, _, 1, _, rfl, rfl, SqL.of hp, rfl, q, _, rfl, .inl (SqL.of hq), _, _, rfl, rfl, ?_⟩⟩
      rw [List.length_map]
      refine ⟨by omega, q, _, _, _, rfl, rfl, hq, (by rw [List.length_map]; exact ixN_in hb.1 hb.2), ?_⟩
      refine ⟨_, rfl, .inl ⟨_, rfl, _, rfl, _, _, rfl, rfl, by omega, ?_⟩⟩
      have hv := fmod_in z c c0
      refine k _ _ hv.1 hv.2 ⟨a, i, ns.set (i.fmod (ns.length : Int)).toNat (z.fdiv c), by rw [upd_ne npq]; exact hp, by rw [upd_same, List.map_set], by rw [List.length_set]; exact hl, a0, a1, i0⟩ fun b o e h1 h2 => ?_
      rw [upd_ne h2]
      exact s2 b o e
    · refine ⟨_, rfl, p, _, 0, _, rfl, rfl, SqL.of hp, rfl, _, _, rfl, rfl, .inl ⟨by omega, by omega⟩, _, rfl, _, _, rfl, rfl, .inr ⟨by decide, by decide⟩, _, _, rfl, rfl, _, _, rfl, rfl, .inl ⟨_, rfl, _, _, rfl, rfl, (by show (0 : Int) < 2147483647; decide), ?_⟩⟩
      refine ⟨_, rfl, p, _, 0, 0, rfl, rfl, hp, rfl, ?_⟩
      have hA0 : 0 ≤ (a * 48271 + z * 69621 + 11) % 2147483647 := Int.emod_nonneg _ (by decide)
      have hA1 : (a * 48271 + z * 69621 + 11) % 2147483647 < 2147483647 := Int.emod_lt_of_pos _ (by decide)
      refine ⟨_, rfl, p, _, 2, _, rfl, rfl, SqL.of upd_same, rfl, _, _, rfl, rfl, _, rfl, p, _, 2, 2, rfl, rfl, upd_same, rfl, ?_⟩
      refine ⟨_, rfl, p, _, 0, _, rfl, rfl, SqL.of upd_same, rfl, _, _, rfl, rfl, ⟨by decide, by decide⟩, .inl ⟨_, rfl, _, rfl, _, _, rfl, rfl, by omega, ?_⟩⟩
      have hv := fmod_in ((a * 48271 + z * 69621 + 11) % 2147483647 / 7) c c0
      refine k _ _ hv.1 hv.2 ⟨_, i + 1, ns, upd_same, by rw [upd_ne npq.symm, upd_ne npq.symm]; exact hq, hl, hA0, hA1, by omega⟩ fun b o e h1 h2 => ?_
      rw [upd_ne h1, upd_ne h1]
      exact s2 b o e
end
end W3
namespace W3
open PySem L2
def Wd.tup (W : Wd) : List V := [.str W.mode, nV W.lost, nV W.breaks, nV W.fails, .bl W.late]
theorem pickG {α : Type} (g : α → V) (os : List α) (v : Int) (h0 : 0 ≤ v) (h1 : v < os.length) : ∃ o, o ∈ os ∧ atI (os.map g) v = some (g o) := by
  obtain ⟨z, hz, ha⟩ := atI_in (xs := os.map g) h0 (by rw [List.length_map]; exact h1)
  rw [List.getElem?_map] at hz
  cases e : os[v.toNat]? with
  | none => rw [e] at hz; cases hz
  | some o =>
    rw [e] at hz
    cases hz
    exact ⟨o, List.mem_of_getElem? e, ha⟩
def mA : List (Option Int) := [some 0, some 1, some 1, some 2, none]
def mF : List (Option Int) := [some 0, some 1, none, none]
def mS : List (Option Int) := [some 0, some 0, some 1, none]
def mM : List Str := ["each", "each", "whole"]
theorem mA_ok : ∀ o ∈ mA, bndB (nV o) = true := by decide +kernel
theorem mF_ok : ∀ o ∈ mF, bndB (nV o) = true := by decide +kernel
theorem mS_ok : ∀ o ∈ mS, bndB (nV o) = true := by decide +kernel
theorem mM_ok : ∀ o ∈ mM, modeB (.str o) = true := by decide +kernel
theorem pss_when {X : Cx} {b : List Stmt} {t : TS} {Pr : Prop} (h : Pr → PSs X b t) : PSs X b (fun D σ H => Pr ∧ t D σ H) := ⟨fun pins s σ H D I q => (h q.1).run pins s σ H D I q.2⟩
section
variable {P : Program} {w : World} {K : PySem.W.Frag} {mg : Str → Option Value} {base : Heap}
def spWorld : Sp := fun vs H Q _ => ∃ (p q : Addr), vs = [.ref p] ∧ HS H p q ∧ ∀ (W : Wd) (t : Addr) (H' : Hp), W.ok = true → H' t = some (.tup W.tup) → HS H' p q → Keep p q H H' → Q (.ref t) H'
theorem ok_world {f fN : Addr} {fd fdN : FuncData} (F : Fun K "_law_world" "_law_world" s_law_world f fd) (T : Bi mg) (N : Dn K mg "_law_next" s_law_next ["_law_h", "_law_cap"] fN fdN) : FnOk P w K mg base CX0 2 f fd ["_law_h"] spWorld := by
  have GN : FnOk P w K mg base CX0 1 fN fdN ["_law_h", "_law_cap"] spNext := ok_next N.F T
  refine F.ok sc_law_world (fun vs H Q E h => ?_) (fun cdv A outer s H vs Q E hr h => ?_)
  · obtain ⟨p, q, rfl, _⟩ := h
    rfl
  · obtain ⟨p, q, rfl, hH, k⟩ := h
    refine ⟨_, pss_cons (ps_par (i := 1) (j := 2) (by rfl) sc_law_world.nd rfl rfl (by decide) rfl rfl
        (pa_cons (pe_ix ix_list (pe_lst (pa_cons pe_int (pa_cons pe_int (pa_cons pe_int (pa_cons pe_int (pa_cons pe_non pa_nil)))))) (pe_call GN hr (by rfl) N.g N.F.kp N.b .nil pass0 (pa_cons (pv 0) (pa_cons pe_int pa_nil))) (fun _ _ => rfl))
        (pa_cons (pe_ix ix_list (pe_lst (pa_cons pe_int (pa_cons pe_int (pa_cons pe_non (pa_cons pe_non pa_nil))))) (pe_call GN hr (by rfl) N.g N.F.kp N.b .nil pass0 (pa_cons (pv 0) (pa_cons pe_int pa_nil))) (fun _ _ => rfl)) pa_nil)) (by rfl))
      (pss_cons (ps_set (i := 3) sc_law_world.nd rfl (Or.inl rfl) (pe_ix ix_list (pe_lst (pa_cons pe_int (pa_cons pe_int (pa_cons pe_int (pa_cons pe_non pa_nil))))) (pe_call GN hr (by rfl) N.g N.F.kp N.b .nil pass0 (pa_cons (pv 0) (pa_cons pe_int pa_nil))) (fun _ _ => rfl)))
      (pss_one (ps_ret (pe_tup (pa_cons (pe_ix ix_list (pe_lst (pa_cons pe_str (pa_cons pe_str (pa_cons pe_str pa_nil)))) (pe_call GN hr (by rfl) N.g N.F.kp N.b .nil pass0 (pa_cons (pv 0) (pa_cons pe_int pa_nil))) (fun _ _ => rfl))
        (pa_cons (pv 1) (pa_cons (pv 3) (pa_cons (pv 2) (pa_cons (pe_cmpR op_eq (pe_call GN hr (by rfl) N.g N.F.kp N.b .nil pass0 (pa_cons (pv 0) (pa_cons pe_int pa_nil))) pe_int (nomark _)) pa_nil))))))))), ?_⟩
    refine ⟨(by show 5 ≤ sizeLine; decide), fun t1 n1 => ?_⟩
    have s1 : Same H (upd H t1 (.lst (mA.map nV))) := same_upd n1
    have g1 := hH.np n1
    refine ⟨_, rfl, p, q, 5, rfl, by decide, by decide, hH.same s1, fun v1 H1 a1 b1 h1 k1 => ?_⟩
    obtain ⟨o1, m1, e1⟩ := pickG nV mA v1 a1 b1
    refine ⟨t1, _, _, _, rfl, rfl, SqL.of (k1 _ _ upd_same g1.1 g1.2), e1, ?_⟩
    have K1 := (Keep.of s1).trans k1
    refine ⟨(by show 4 ≤ sizeLine; decide), fun t2 n2 => ?_⟩
    have s2 : Same H1 (upd H1 t2 (.lst (mF.map nV))) := same_upd n2
    have g2 := h1.np n2
    refine ⟨_, rfl, p, q, 4, rfl, by decide, by decide, h1.same s2, fun v2 H2 a2 b2 h2 k2 => ?_⟩
    obtain ⟨o2, m2, e2⟩ := pickG nV mF v2 a2 b2
    refine ⟨t2, _, _, _, rfl, rfl, SqL.of (k2 _ _ upd_same g2.1 g2.2), e2, ?_⟩
    have K2 := (K1.trans (Keep.of s2)).trans k2
    refine ⟨_, _, rfl, ?_⟩
    refine ⟨(by show 4 ≤ sizeLine; decide), fun t3 n3 => ?_⟩
    have s3 : Same H2 (upd H2 t3 (.lst (mS.map nV))) := same_upd n3
    have g3 := h2.np n3
    refine ⟨_, rfl, p, q, 4, rfl, by decide, by decide, h2.same s3, fun v3 H3 a3 b3 h3 k3 => ?_⟩
    obtain ⟨o3, m3, e3⟩ := pickG nV mS v3 a3 b3
    refine ⟨t3, _, _, _, rfl, rfl, SqL.of (k3 _ _ upd_same g3.1 g3.2), e3, ?_⟩
    have K3 := (K2.trans (Keep.of s3)).trans k3
    refine ⟨(by show 3 ≤ sizeLine; decide), fun t4 n4 => ?_⟩
    have s4 : Same H3 (upd H3 t4 (.lst (mM.map V.str))) := same_upd n4
    have g4 := h3.np n4
    refine ⟨_, rfl, p, q, 3, rfl, by decide, by decide, h3.same s4, fun v4 H4 a4 b4 h4 k4 => ?_⟩
    obtain ⟨o4, m4, e4⟩ := pickG V.str mM v4 a4 b4
    refine ⟨t4, _, _, _, rfl, rfl, SqL.of (k4 _ _ upd_same g4.1 g4.2), e4, ?_⟩
    have K4 := (K3.trans (Keep.of s4)).trans k4
    refine ⟨_, rfl, _, rfl, _, rfl, _, rfl, p, q, 4, rfl, by decide, by decide, h4, fun v5 H5 a5 b5 h5 k5 => ⟨rfl, (by show 5 ≤ sizeLine; decide), fun t nt => ?_⟩⟩
    have K5 := K4.trans k5
    exact k ⟨o4, o1, o3, o2, decide (V.int v5 = V.int 0)⟩ t _ (ok_split.mpr ⟨mM_ok _ m4, rfl, mA_ok _ m1, mS_ok _ m3, mF_ok _ m2⟩) upd_same (h5.same (same_upd nt)) (K5.trans (Keep.of (same_upd nt)))
def spNumber : Sp := fun vs H Q _ => ∃ a : Option Int, vs = [nV a] ∧ Q (.int (a.getD 9)) H
theorem ok_number {f : Addr} {fd : FuncData} (F : Fun K "_law_number" "_law_number" s_law_number f fd) : FnOk P w K mg base CX0 1 f fd ["_law_number_here"] spNumber := by
  refine F.ok sc_law_number (fun vs H Q E h => ?_) (fun cdv A outer s H vs Q E hr h => ?_)
  · obtain ⟨a, rfl, _⟩ := h
    rfl
  · obtain ⟨a, rfl, k⟩ := h
    refine ⟨_, pss_one (ps_ret (pe_ifExp (pt_cmpR op_isN (pv 0) pe_non (nomark _)) pe_int (pv 0))), ?_⟩
    refine ⟨_, rfl, rfl, _, rfl, ?_⟩
    cases a with
    | none => exact iteT k
    | some i => exact iteF ⟨_, rfl, k⟩
def spMade (C : Addr) : Sp := fun vs H Q _ => ∃ (t : Addr) (W : Wd), vs = [.ref t] ∧ H t = some (.tup W.tup) ∧ W.ok = true ∧ ∀ (x : Addr) (H' : Hp), H x = none → WAt C H' x W → Same H H' → Q (.ref x) H'
theorem ok_made {f C CI fI fM fB fN : Addr} {fd fdI fdM fdB fdN : FuncData} (F : Fun K "_law_made" "_law_made" s_law_made f fd) (Ev : Env K mg C CI fI fM fB fN fdI fdM fdB fdN) : FnOk P w K mg base CX0 5 f fd ["_law_world_here"] (spMade C) := by
  have GI : FnOk P w K mg base (L2.CX P w) 3 fI fdI ["self", "mode", "lost", "breaks", "fails", "late"] (spInit K C CI) := Ev.init
  refine F.ok sc_law_made (fun vs H Q E h => ?_) (fun cdv A outer s H vs Q E hr h => ?_)
  · obtain ⟨t, W, rfl, _⟩ := h
    rfl
  · obtain ⟨t, W, rfl, ht, ho, k⟩ := h
    refine ⟨_, pss_one (ps_ret (pe_makeK Ev.I.M GI hr (by rfl) Ev.W.g Ev.I.bk passL (pa_cons (pe_ix ix_tup (pv 0) pe_int (fun _ _ => rfl)) pa_nil)
      (pk_cons (pe_ix ix_tup (pv 0) pe_int (fun _ _ => rfl)) (pk_cons (pe_ix ix_tup (pv 0) pe_int (fun _ _ => rfl)) (pk_cons (pe_ix ix_tup (pv 0) pe_int (fun _ _ => rfl)) (pk_cons (pe_ix ix_tup (pv 0) pe_int (fun _ _ => rfl)) pk_nil)))))), ?_⟩
    refine ⟨_, rfl, t, _, 0, _, rfl, rfl, SqT.of ht, rfl, _, rfl, t, _, 1, _, rfl, rfl, SqT.of ht, rfl, _, rfl, t, _, 2, _, rfl, rfl, SqT.of ht, rfl, _, rfl, t, _, 3, _, rfl, rfl, SqT.of ht, rfl, _, rfl, t, _, 4, _, rfl, rfl, SqT.of ht, rfl, rfl, rfl, fun x dx nx ndx nex => ?_⟩
    refine init_use (Wn' := W) upd_same ho fun H' e1 e2 => ⟨rfl, ?_⟩
    refine k x H' nx ⟨dx, e1⟩ fun q o e => ?_
    rw [e2 q (ne_of_none e nx), upd_ne (ne_of_none e nx), upd_ne (ne_of_none e ndx)]
    exact e
/-- an own class of exceptions, as isinstance and except ask it -/
structure Xk (K : PySem.W.Frag) (C CA : Addr) : Prop where
  e : ExcC K C
  kA : PySem.W.kitOne K (.ref C) (.ref CA) = some true
  s : PySem.W.subIn K (.ref C) (.ref C) = some true
def nums (k : Nat) (v : V) : List V := [V.int 0, .int 0, .int 0].set k v
def refB (k : Nat) (m v t : V) : Bool := !okB m ((nums k v).getD 0 .non) ((nums k v).getD 1 .non) ((nums k v).getD 2 .non) t
def spRef (K : PySem.W.Frag) : Sp := fun vs H Q _ => ∃ (m v t : V) (k : Nat) (Tm Tv Tt : String), vs = [m, v, t, .int k] ∧ k < 3 ∧ TyB K H m Tm ∧ TyB K H v Tv ∧ TyB K H t Tt ∧ ∀ H', Same H H' → Q (.bl (refB k m v t)) H'
theorem tyb_same {K : PySem.W.Frag} {H H' : Hp} {v : V} {T : String} (t : TyB K H v T) (s : Same H H') : TyB K H' v T := by
  cases t with
  | non => exact .non
  | bl b => exact .bl b
  | int i => exact .int i
  | str x => exact .str x
  | byt b => exact .byt b
  | lst h => exact .lst (s.seq h)
  | @tup a xs h =>
    refine .tup (xs := xs) ?_
    rcases h with (h | ⟨o, h⟩) | h
    · exact .inl (.inl (s _ _ h))
    · exact .inl (.inr ⟨o, s _ _ h⟩)
    · exact .inr h
  | dK h => exact .dK (s _ _ h)
theorem ok_refused {f C CI CA fI fM fB fN : Addr} {fd fdI fdM fdB fdN : FuncData} (F : Fun K "_law_refused" "_law_refused" s_law_refused f fd) (Ev : Env K mg C CI fI fM fB fN fdI fdM fdB fdN) (Y : Xk K CI CA) (gA : mg "AnswerError" = some (.ref CA)) :
    FnOk P w K mg base CX0 5 f fd ["_law_mode", "_law_number_here", "_law_slow", "_law_place"] (spRef K) := by
  have GI : FnOk P w K mg base (L2.CX P w) 3 fI fdI ["self", "mode", "lost", "breaks", "fails", "late"] (spInit K C CI) := Ev.init
  have eX : PySem.W.exmOne K (.ref CI) (.ref CI) = some true := PySem.W.exm_ref Ev.X.b Y.e.hd Ev.X.t Y.s
  refine F.ok sc_law_refused (fun vs H Q E h => ?_) (fun cdv A outer s H vs Q E hr h => ?_)
  · obtain ⟨m, v, t, k, _, _, _, rfl, _⟩ := h
    rfl
  · obtain ⟨m, v, t, k, Tm, Tv, Tt, rfl, hk, hm, hv, ht, kq⟩ := h
    have nd := sc_law_refused.nd
    refine ⟨_, pss_cons (ps_set (i := 4) nd rfl (Or.inl rfl) (pe_lst (pa_cons pe_int (pa_cons pe_int (pa_cons pe_int pa_nil)))))
      (pss_cons (ps_asg (pv 1) (pg_sub (pv 4) (pv 3) set_list))
      (pss_cons (ps_set (i := 5) nd rfl (Or.inl rfl) pe_bl)
      (pss_cons (ps_try_as (i := 6) (ts := fun a cls d => fun D σ H => (cls = .ref CI ∧ d = none) ∧ tAsg (tCB (rIsE K CI a) (tCons (tVar 6) (tCons (tC (.ref CA)) tNil))) (gName 5) D σ H) (Wout := fun _ _ _ _ => False) rfl rfl nd rfl rfl ⟨rfl, by decide, Or.inl Ev.X.g⟩ takes0
          (fun W pn xe tk _ => pss_one (ps_expr (by exact (pe_makeKS Ev.I.M GI hr rfl Ev.W.g Ev.I.bk (fun σ => passAt tk σ) (by exact (pa_cons (pv 0) pa_nil))
            (by exact (pk_cons (pe_ix (r := rIxL K) ix_list (pv 4) pe_int (fun _ _ => rfl)) (pk_cons (pe_ix (r := rIxL K) ix_list (pv 4) pe_int (fun _ _ => rfl)) (pk_cons (pe_ix (r := rIxL K) ix_list (pv 4) pe_int (fun _ _ => rfl)) (pk_cons (pv 2) pk_nil))))))))) 
          (fun a oe cls d pn hz hf => pss_when fun e => by
            obtain ⟨rfl, rfl⟩ := e
            exact pss_one (ps_set (i := 5) nd rfl (Or.inl rfl) (by exact (pe_callB (call_isE Y.e hz hf) (by rfl) Ev.T.isi (by decide +kernel) (by exact (pa_cons (pv 6) (pa_cons (pe_glob (v := .ref CA) rfl gA rfl) pa_nil))))))))
      (pss_one (ps_ret (pv 5)))))), ?_⟩
    refine ⟨(by show 3 ≤ sizeLine; decide), fun l nl => ?_⟩
    refine ⟨_, rfl, _, rfl, _, rfl, l, _, k, k, rfl, rfl, upd_same, ixN_in (by omega) (by show (k : Int) < 3; omega), ?_⟩
    generalize eH : upd (upd H l (.lst [.int 0, .int 0, .int 0])) l (.lst ([V.int 0, .int 0, .int 0].set k v)) = H1
    have s1 : Same H H1 := fun b o e => by
      rw [← eH, upd_ne (ne_of_none e nl), upd_ne (ne_of_none e nl)]
      exact e
    have h1 : H1 l = some (.lst (nums k v)) := by rw [← eH]; exact upd_same
    have len3 : (nums k v).length = 3 := by unfold nums; rw [List.length_set]; rfl
    have at_ : ∀ j : Nat, j < 3 → atI (nums k v) (j : Int) = some ((nums k v).getD j .non) := fun j hj => atI_nat (by
      rw [List.getD_eq_getElem?_getD]
      have : j < (nums k v).length := by omega
      simp [this])
    have tj : ∀ j : Nat, j < 3 → ∃ T, TyB K H1 ((nums k v).getD j .non) T := fun j hj => by
      unfold nums
      match k, hk, j, hj with
      | 0, _, 0, _ => exact ⟨_, tyb_same hv s1⟩
      | 0, _, 1, _ => exact ⟨_, .int 0⟩
      | 0, _, 2, _ => exact ⟨_, .int 0⟩
      | 1, _, 0, _ => exact ⟨_, .int 0⟩
      | 1, _, 1, _ => exact ⟨_, tyb_same hv s1⟩
      | 1, _, 2, _ => exact ⟨_, .int 0⟩
      | 2, _, 0, _ => exact ⟨_, .int 0⟩
      | 2, _, 1, _ => exact ⟨_, .int 0⟩
      | 2, _, 2, _ => exact ⟨_, tyb_same hv s1⟩
    obtain ⟨T0, h0⟩ := tj 0 (by omega)
    obtain ⟨T1, h1'⟩ := tj 1 (by omega)
    obtain ⟨T2, h2⟩ := tj 2 (by omega)
    refine ⟨_, rfl, _, rfl, l, _, 0, _, rfl, rfl, SqL.of h1, at_ 0 (by omega), _, rfl, l, _, 1, _, rfl, rfl, SqL.of h1, at_ 1 (by omega), _, rfl, l, _, 2, _, rfl, rfl, SqL.of h1, at_ 2 (by omega), _, rfl, rfl, rfl, fun x dx nx ndx nex => ?_⟩
    have sx : Same H1 (upd (upd H1 dx (.own x)) x (.ins C dx [])) := fun b o e => by
      rw [upd_ne (ne_of_none e nx), upd_ne (ne_of_none e ndx)]
      exact e
    refine ⟨x, dx, _, _, _, _, _, Tm, T0, T1, T2, Tt, rfl, upd_same, tyb_same (tyb_same hm s1) sx, tyb_same h0 sx, tyb_same h1' sx, tyb_same h2 sx, tyb_same (tyb_same ht s1) sx, fun eo H' e1 e2 => ⟨rfl, ?_⟩, fun eo => ?_⟩
    · refine ⟨_, rfl, ?_⟩
      have er : refB k m v t = false := by unfold refB; rw [eo]; rfl
      have q := kq H' fun b o e => by
        rw [e2 b (ne_of_none (s1 _ _ e) nx)]
        exact sx _ _ (s1 _ _ e)
      rw [er] at q
      exact q
    · refine ⟨true, eX, fun _ a na => ⟨⟨rfl, rfl⟩, ?_⟩, fun q => Bool.noConfusion q⟩
      refine ⟨_, rfl, .ref CA, .ref CA, true, rfl, fun u e => e, Y.kA, ?_⟩
      refine ⟨_, rfl, ?_⟩
      have er : refB k m v t = true := by unfold refB; rw [eo]; rfl
      have q := kq _ (s1.trans sx)
      rw [er] at q
      exact q
end
end W3
namespace W3
open PySem L2
section
variable {P : Program} {w : World} {K : PySem.W.Frag} {mg : Str → Option Value} {base : Heap}
/-- World.__or__ as | finds it -/
structure Wo (K : PySem.W.Frag) (C : Addr) (f : Addr) (fd : FuncData) : Prop where
  m : Wm K C "__or__" "World.__or__" s_World_or ["self", "other"] f fd
  sf : PySem.W.selfFirst K C = true
def spJoin (C : Addr) : Sp := fun vs H Q _ => ∃ (a b : Addr) (W W' : Wd), vs = [.ref a, .ref b] ∧ WAt C H a W ∧ WAt C H b W' ∧ W.ok = true ∧ W'.ok = true ∧ (W.mode ≠ W'.mode → Q .non H) ∧
  (W.mode = W'.mode → ∀ (x : Addr) (H' : Hp), H x = none → WAt C H' x (joinW W W') → Same H H' → Q (.ref x) H')
theorem ok_joined {f fo C CI CE fI fM fB fN fG fA : Addr} {fd fdo fdI fdM fdB fdN fdG fdA : FuncData} (F : Fun K "_law_joined" "_law_joined" s_law_joined f fd) (Ev : Env K mg C CI fI fM fB fN fdI fdM fdB fdN) (Y : Xc K mg "WorldError" CE) (YE : PySem.W.hasDictIn K CE = true) (YS : PySem.W.subIn K (.ref CE) (.ref CE) = some true)
    (GB : Dn K mg "greater_bound" s_greater_bound ["one", "other"] fG fdG) (AM : Dn K mg "is_at_most" s_is_at_most ["one", "other"] fA fdA) (O : Wo K C fo fdo) : FnOk P w K mg base CX0 6 f fd ["_law_one", "_law_other"] (spJoin C) := by
  have GO : FnOk P w K mg base (L2.CX P w) 5 fo fdo ["self", "other"] (spOr C CE) := ok_or O.m.F Ev Y GB AM
  have eX : PySem.W.exmOne K (.ref CE) (.ref CE) = some true := PySem.W.exm_ref Y.b YE Y.t YS
  refine F.ok sc_law_joined (fun vs H Q E h => ?_) (fun cdv A outer s H vs Q E hr h => ?_)
  · obtain ⟨a, b, _, _, rfl, _⟩ := h
    rfl
  · obtain ⟨a, b, W, W', rfl, ha, hb, o1, o2, kN, kY⟩ := h
    have nd := sc_law_joined.nd
    refine ⟨_, pss_cons (ps_set (i := 2) nd rfl (Or.inl rfl) pe_non)
      (pss_cons (ps_try_only (Wout := fun _ _ _ _ => False) rfl rfl ⟨rfl, by decide, Or.inl Y.g⟩ takes0
          (fun W pn xe tk _ => pss_one (ps_set (i := 2) nd rfl (Or.inl rfl) (by exact (pe_orIns (C := C) GO O.sf O.m.at_ O.m.i O.m.b hr (fun σ => passAt tk σ) (pv 0) (pv 1)))))
          (fun a oe cls d pn hz hf => pss_one (ps_set (i := 2) nd rfl (Or.inl rfl) (by exact pe_non))))
      (pss_one (ps_ret (pv 2)))), ?_⟩
    obtain ⟨dx, ha'⟩ := id ha
    obtain ⟨dy, hb'⟩ := id hb
    refine ⟨_, rfl, _, rfl, a, dx, _, b, dy, _, rfl, rfl, ha', hb', a, b, W, W', rfl, ha, hb, o1, o2, fun hm => ?_, fun hm x H' nx hx sx => ?_⟩
    · exact ⟨true, eX, fun _ e ne => ⟨_, rfl, kN hm⟩, fun q => Bool.noConfusion q⟩
    · exact ⟨_, rfl, kY hm x H' nx hx sx⟩
/-! ### _law_alike, of flat values and of tuples of flat values that are the same -/
/-- a flat value's type -/
def tyF : V → String
  | .non => "NoneType"
  | .bl _ => "bool"
  | .int _ => "int"
  | _ => "str"
theorem tyx_flat {H : Hp} {v : V} (h : flatV v = true) : TyX K H v (.type (tyF v)) := by
  cases v <;> first | exact .base .non | exact .base (.bl _) | exact .base (.int _) | exact .base (.str _) | cases h
theorem kit_dict {v : V} (h : flatV v = true) : PySem.W.kitOne K (.type (tyF v)) (.type "dict") = some false := by
  cases v with
  | non => exact kit_ty (a := "NoneType") (by decide +kernel)
  | bl _ => exact kit_ty (a := "bool") (by decide +kernel)
  | int _ => exact kit_ty (a := "int") (by decide +kernel)
  | str _ => exact kit_ty (a := "str") (by decide +kernel)
  | _ => cases h
theorem kit_tl1 (a : String) (h : kitB a "tuple" = some false) (h' : kitB a "list" = some false) : PySem.W.kitAny K (.type a) [.type "tuple", .type "list"] = some false :=
  kitAny_cons (b := false) (kit_ty h) (fun _ => kitAny_cons (b := false) (kit_ty h') (fun _ => kitAny_nil) (fun q => nomatch q)) (fun q => nomatch q)
theorem kit_tl {v : V} (h : flatV v = true) : PySem.W.kitAny K (.type (tyF v)) [.type "tuple", .type "list"] = some false := by
  cases v with
  | non => exact kit_tl1 "NoneType" (by decide +kernel) (by decide +kernel)
  | bl _ => exact kit_tl1 "bool" (by decide +kernel) (by decide +kernel)
  | int _ => exact kit_tl1 "int" (by decide +kernel) (by decide +kernel)
  | str _ => exact kit_tl1 "str" (by decide +kernel) (by decide +kernel)
  | _ => cases h
theorem pss_never {X : Cx} {b : List Stmt} : PSs X b (fun _ _ _ => False) := ⟨fun _ _ _ _ _ _ q => q.elim⟩
theorem kit_of_ty (a b : String) (r : Bool) (h : kitB a b = some r) : PySem.W.kitOne K (.type a) (.type b) = some r := kit_ty h
def spAlk0 : Sp := fun vs H Q _ => ∃ x : V, vs = [x, x] ∧ flatV x = true ∧ ∀ H', Same H H' → Q (.bl true) H'
theorem ok_alike0 {f : Addr} {fd : FuncData} (F : Fun K "_law_alike" "_law_alike" s_law_alike f fd) (T : Bi mg) : FnOk P w K mg base CX0 1 f fd ["_law_found", "_law_due"] spAlk0 := by
  refine F.ok sc_law_alike (fun vs H Q E h => ?_) (fun cdv A outer s H vs Q E hr h => ?_)
  · obtain ⟨x, rfl, _⟩ := h
    rfl
  · obtain ⟨x, rfl, fx, k⟩ := h
    have isi : ∀ {X : Cx} {e c : Expr} {p pos : Pos} {te tc : TE}, Gl X "isinstance" → X.mg "isinstance" = none → PE X e te → PE X c tc → True := fun _ _ _ _ => trivial
    refine ⟨_, pss_cons (ps_if (pt_val (pe_callB call_isi (by rfl) T.isi (by decide +kernel) (pa_cons (pv 1) (pa_cons (pe_bltn (v := .ty "dict") (by rfl) T.dict (by decide +kernel) rfl) pa_nil)))) pss_never pss_nil)
      (pss_cons (ps_if (pt_val (pe_callB call_isiT (by rfl) T.isi (by decide +kernel) (pa_cons (pv 1) (pa_cons (pe_tup (pa_cons (pe_bltn (v := .ty "tuple") (by rfl) T.tuple (by decide +kernel) rfl) (pa_cons (pe_bltn (v := .ty "list") (by rfl) T.list (by decide +kernel) rfl) pa_nil))) pa_nil)))) pss_never pss_nil)
      (pss_cons (ps_if (PW.pt (pw_or (pt_cmpR op_isN (pv 1) pe_non (nomark _)) (pw_or1 (pt_val (pe_callB call_isi (by rfl) T.isi (by decide +kernel) (pa_cons (pv 1) (pa_cons (pe_bltn (v := .ty "str") (by rfl) T.str (by decide +kernel) rfl) pa_nil)))))))
        (pss_one (ps_ret (pe_and (pe_cmpR op_eq (pv 0) (pv 1) (nomark _)) (pe_one (pe_cmpR op_eq (pe_callB call_isi (by rfl) T.isi (by decide +kernel) (pa_cons (pv 0) (pa_cons (pe_bltn (v := .ty "str") (by rfl) T.str (by decide +kernel) rfl) pa_nil)))
          (pe_callB call_isi (by rfl) T.isi (by decide +kernel) (pa_cons (pv 1) (pa_cons (pe_bltn (v := .ty "str") (by rfl) T.str (by decide +kernel) rfl) pa_nil))) (nomark _)))))) pss_nil)
      (pss_one (ps_ret (pe_and (pe_callB call_isi (by rfl) T.isi (by decide +kernel) (pa_cons (pv 0) (pa_cons (pe_bltn (v := .ty "int") (by rfl) T.int (by decide +kernel) rfl) pa_nil)))
        (pe_and (pe_cmpR op_eq (pe_callB call_isi (by rfl) T.isi (by decide +kernel) (pa_cons (pv 0) (pa_cons (pe_bltn (v := .ty "bool") (by rfl) T.bool (by decide +kernel) rfl) pa_nil)))
          (pe_callB call_isi (by rfl) T.isi (by decide +kernel) (pa_cons (pv 1) (pa_cons (pe_bltn (v := .ty "bool") (by rfl) T.bool (by decide +kernel) rfl) pa_nil))) (nomark _)) (pe_one (pe_cmpR op_eq (pv 0) (pv 1) (nomark _))))))))), ?_⟩
    refine ⟨_, rfl, x, .ty "dict", _, _, false, rfl, .ty _, tyx_flat fx, kit_dict fx, _, rfl, iteF ?_⟩
    refine ⟨_, rfl, (by show 2 ≤ sizeLine; decide), fun t nt => ?_⟩
    refine ⟨x, t, _, _, _, false, rfl, upd_same, .cons (.ty _) (.cons (.ty _) .nil), tyx_flat fx, kit_tl fx, _, rfl, iteF ?_⟩
    have kk := k _ (same_upd (o := .tup [.ty "tuple", .ty "list"]) nt)
    refine ⟨_, rfl, rfl, _, rfl, ?_⟩
    cases x with
    | non => exact iteT (iteT ⟨_, rfl, _, rfl, rfl, _, rfl, iteT ⟨_, rfl, .non, .ty "str", _, _, false, rfl, .ty _, .base .non, kit_ty (by decide +kernel), _, rfl, .non, .ty "str", _, _, false, rfl, .ty _, .base .non, kit_ty (by decide +kernel), rfl, kk⟩⟩)
    | str y => exact iteF ⟨_, rfl, .str y, .ty "str", _, _, true, rfl, .ty _, .base (.str y), kit_ty (by decide +kernel), _, rfl, iteT ⟨_, rfl, _, rfl, rfl, _, rfl, (by
        rw [decide_eq_true (rfl : V.str y = V.str y)]
        exact iteT ⟨_, rfl, .str y, .ty "str", _, _, true, rfl, .ty _, .base (.str y), kit_ty (by decide +kernel), _, rfl, .str y, .ty "str", _, _, true, rfl, .ty _, .base (.str y), kit_ty (by decide +kernel), rfl, kk⟩)⟩⟩
    | bl y => exact iteF ⟨_, rfl, .bl y, .ty "str", _, _, false, rfl, .ty _, .base (.bl y), kit_ty (by decide +kernel), _, rfl, iteF ⟨_, rfl, .bl y, .ty "int", _, _, true, rfl, .ty _, .base (.bl y), kit_ty (by decide +kernel), _, rfl, iteT
        ⟨_, rfl, .bl y, .ty "bool", _, _, true, rfl, .ty _, .base (.bl y), kit_ty (by decide +kernel), _, rfl, .bl y, .ty "bool", _, _, true, rfl, .ty _, .base (.bl y), kit_ty (by decide +kernel), rfl, _, rfl, iteT ⟨_, rfl, _, rfl, rfl, (by
          show Q (.bl (decide (V.bl y = V.bl y))) _
          rw [decide_eq_true rfl]
          exact kk)⟩⟩⟩⟩
    | int y => exact iteF ⟨_, rfl, .int y, .ty "str", _, _, false, rfl, .ty _, .base (.int y), kit_ty (by decide +kernel), _, rfl, iteF ⟨_, rfl, .int y, .ty "int", _, _, true, rfl, .ty _, .base (.int y), kit_ty (by decide +kernel), _, rfl, iteT
        ⟨_, rfl, .int y, .ty "bool", _, _, false, rfl, .ty _, .base (.int y), kit_ty (by decide +kernel), _, rfl, .int y, .ty "bool", _, _, false, rfl, .ty _, .base (.int y), kit_ty (by decide +kernel), rfl, _, rfl, iteT ⟨_, rfl, _, rfl, rfl, (by
          show Q (.bl (decide (V.int y = V.int y))) _
          rw [decide_eq_true rfl]
          exact kk)⟩⟩⟩⟩
    | _ => cases fx
end
end W3
namespace W3
open PySem L2
section
variable {P : Program} {w : World} {K : PySem.W.Frag} {mg : Str → Option Value} {base : Heap}
def spAlk1 : Sp := fun vs H Q _ => ∃ (t u : Addr) (xs : List V), vs = [.ref t, .ref u] ∧ H t = some (.tup xs) ∧ H u = some (.tup xs) ∧ (∀ x ∈ xs, flatV x = true) ∧ xs.length ≤ 100 ∧ ∀ H', Same H H' → Q (.bl true) H'
theorem ok_alike1 {f : Addr} {fd : FuncData} (D : Dn K mg "_law_alike" s_law_alike ["_law_found", "_law_due"] f fd) (T : Bi mg) : FnOk P w K mg base CX0 2 f fd ["_law_found", "_law_due"] spAlk1 := by
  have GA : FnOk P w K mg base CX0 1 f fd ["_law_found", "_law_due"] spAlk0 := ok_alike0 D.F T
  have nd := sc_law_alike.nd
  refine D.F.ok sc_law_alike (fun vs H Q E h => ?_) (fun cdv A outer s H vs Q E hr h => ?_)
  · obtain ⟨t, u, xs, rfl, _⟩ := h
    rfl
  · obtain ⟨t, u, xs, rfl, ht, hu', fx, hl, k⟩ := h
    refine ⟨_, pss_cons (ps_if (pt_val (pe_callB call_isi (by rfl) T.isi (by decide +kernel) (pa_cons (pv 1) (pa_cons (pe_bltn (v := .ty "dict") (by rfl) T.dict (by decide +kernel) rfl) pa_nil)))) pss_never pss_nil)
      (pss_cons (ps_if (pt_val (pe_callB call_isiT (by rfl) T.isi (by decide +kernel) (pa_cons (pv 1) (pa_cons (pe_tup (pa_cons (pe_bltn (v := .ty "tuple") (by rfl) T.tuple (by decide +kernel) rfl) (pa_cons (pe_bltn (v := .ty "list") (by rfl) T.list (by decide +kernel) rfl) pa_nil))) pa_nil))))
        (pss_cons (ps_if (PW.pt (pw_or (pt_not (pt_val (pe_callB call_isiT (by rfl) T.isi (by decide +kernel) (pa_cons (pv 0) (pa_cons (pe_tup (pa_cons (pe_bltn (v := .ty "tuple") (by rfl) T.tuple (by decide +kernel) rfl) (pa_cons (pe_bltn (v := .ty "list") (by rfl) T.list (by decide +kernel) rfl) pa_nil))) pa_nil)))))
            (pw_or1 (pt_cmpR op_ne (pe_callB call_isi (by rfl) T.isi (by decide +kernel) (pa_cons (pv 0) (pa_cons (pe_bltn (v := .ty "list") (by rfl) T.list (by decide +kernel) rfl) pa_nil)))
              (pe_callB call_isi (by rfl) T.isi (by decide +kernel) (pa_cons (pv 1) (pa_cons (pe_bltn (v := .ty "list") (by rfl) T.list (by decide +kernel) rfl) pa_nil))) (nomark _))))) (pss_one (ps_ret pe_bl)) pss_nil)
        (pss_cons (ps_if (pt_cmpR op_ne (pe_callB call_len_seq (by rfl) T.len PySem.boot_len (pa_cons (pv 0) pa_nil)) (pe_callB call_len_seq (by rfl) T.len PySem.boot_len (pa_cons (pv 1) pa_nil)) (nomark _)) (pss_one (ps_ret pe_bl)) pss_nil)
        (pss_one (ps_ret (pe_cmpR (op_eqD hr.units) (pe_lc (own := [("_law_k", 2)]) (g := gName 2) (by rfl) nd (pi_range1 (by rfl) T.range (pa_cons (pe_callB call_len_seq (by rfl) T.len PySem.boot_len (pa_cons (pv 1) pa_nil)) pa_nil))
            (blkOk_by (own := [("_law_k", 2)]) (N := ["_law_found", "_law_due", "_law_k"]) (sc := defScope s_law_alike) (by decide +kernel))
            (fun _ _ _ _ _ => pg_name (i := 2) nd rfl (Or.inl rfl))
            (fun _ _ _ _ _ => pts_one (pt_not (pt_val (pe_call GA hr (by rfl) D.g D.F.kp D.b .nil pass0 (pa_cons (pe_ix (r := rIxT K) ix_tup (pv 0) (pv 2) (fun _ _ => rfl)) (pa_cons (pe_ix (r := rIxT K) ix_tup (pv 1) (pv 2) (fun _ _ => rfl)) pa_nil))))))
            (fun _ _ _ _ _ => pv 2)) (pe_lst pa_nil) (nomark _)))))) pss_nil)
      (pss_cons (ps_if (PW.pt (pw_or (pt_cmpR op_isN (pv 1) pe_non (nomark _)) (pw_or1 (pt_val (pe_callB call_isi (by rfl) T.isi (by decide +kernel) (pa_cons (pv 1) (pa_cons (pe_bltn (v := .ty "str") (by rfl) T.str (by decide +kernel) rfl) pa_nil))))))) pss_never pss_nil) pss_never)), ?_⟩
    have kitT : PySem.W.kitAny K (.type "tuple") [.type "tuple", .type "list"] = some true := kitAny_cons (b := true) (kit_ty (by decide +kernel)) (fun q => nomatch q) (fun _ => rfl)
    refine ⟨_, rfl, .ref u, .ty "dict", _, _, false, rfl, .ty _, .base (.tup hu'), kit_ty (by decide +kernel), _, rfl, iteF ?_⟩
    refine ⟨_, rfl, (by show 2 ≤ sizeLine; decide), fun t1 n1 => ?_⟩
    have s1 : Same H (upd H t1 (.tup [.ty "tuple", .ty "list"])) := same_upd n1
    refine ⟨.ref u, t1, _, _, _, true, rfl, upd_same, .cons (.ty _) (.cons (.ty _) .nil), .base (.tup (s1 _ _ hu')), kitT, _, rfl, iteT ?_⟩
    refine ⟨_, rfl, (by show 2 ≤ sizeLine; decide), fun t2 n2 => ?_⟩
    have s2 := s1.trans (same_upd (o := .tup [.ty "tuple", .ty "list"]) n2)
    refine ⟨.ref t, t2, _, _, _, true, rfl, upd_same, .cons (.ty _) (.cons (.ty _) .nil), .base (.tup (s2 _ _ ht)), kitT, _, rfl, iteF ?_⟩
    generalize upd (upd H t1 (.tup [.ty "tuple", .ty "list"])) t2 (.tup [.ty "tuple", .ty "list"]) = H2 at s2
    refine ⟨_, rfl, .ref t, .ty "list", _, _, false, rfl, .ty _, .base (.tup (s2 _ _ ht)), kit_ty (by decide +kernel), _, rfl, .ref u, .ty "list", _, _, false, rfl, .ty _, .base (.tup (s2 _ _ hu')), kit_ty (by decide +kernel), rfl, _, rfl, iteF ?_⟩
    refine ⟨_, rfl, t, _, rfl, .inr (SqT.of (s2 _ _ ht)), _, rfl, u, _, rfl, .inr (SqT.of (s2 _ _ hu')), rfl, _, rfl, ?_⟩
    refine iteNS rfl ?_
    refine ⟨_, rfl, u, _, rfl, .inr (SqT.of (s2 _ _ hu')), xs.length, rfl, by omega, by omega, fun Dp nD => ?_⟩
    refine lc_range (lo := 0) (n := xs.length) (fun i H' => Same H2 H' ∧ H' Dp = some (.lst [])) ⟨same_upd nD, upd_same⟩ ?_ ?_
    · rintro i H3 hi ⟨s3, hD⟩
      have s3' := s2.trans s3
      have hx : xs[i]? = some xs[i] := List.getElem?_eq_getElem hi
      have hx0 : atI xs (0 + ((i : Nat) : Int)) = some xs[i] := by rw [Int.zero_add]; exact atI_nat hx
      refine ⟨rfl, _, rfl, _, rfl, t, xs, _, xs[i], rfl, rfl, SqT.of (s3' _ _ ht), hx0, _, rfl, _, rfl, u, xs, _, xs[i], rfl, rfl, SqT.of (s3' _ _ hu'), hx0, ?_⟩
      refine ⟨xs[i], rfl, fx _ (List.getElem_mem hi), fun H4 s4 => ⟨_, rfl, ?_⟩⟩
      exact iteF ⟨s3.trans s4, s4 _ _ hD⟩
    · rintro H3 ⟨s3, hD⟩
      refine ⟨(by show 0 ≤ sizeLine; decide), fun e ne => ?_⟩
      have s4 := same_upd (o := .lst []) ne
      exact ⟨_, _, .lst (SqL.of (s4 _ _ hD)) .nil, .lst (SqL.of upd_same) .nil, rfl, rfl, k _ ((s2.trans s3).trans s4)⟩
end
end W3
namespace W3
open PySem L2
def rMaxT (K : PySem.W.Frag) : List V → Hp → VK → Prop := fun vs H Q => ∃ (p : Addr) (a b : Int), vs = [V.ref p] ∧ SqT K H p [.int a, .int b] ∧ Q (.int (max a b)) H
section
variable {X : Cx}
/-- max(t), t a tuple of two ints -/
theorem cr_maxT2 (hc : X.calm = true) (hr : Room 0 X.A) : CallR X (.builtin "max") (rMaxT X.K) := by
  intro pins s σ H vs us Q I r h
  obtain ⟨p, a, b, rfl, hs, q⟩ := h
  obtain ⟨its, rv, ⟨o, g1, g2, n, g3⟩, _⟩ := I.tuple hs
  obtain ⟨t, u, rfl⟩ := Vals.int2 rv
  rw [Vals.ref1 r]
  have un := hr.un
  refine PySem.W.max_tuple_datum (α := Int) (x := a) (xs := [b]) (I.ok.hd hc) ⟨o, g1, g2, n, g3⟩ ?_ ?_ fun i v h' tk e1 e2 hk => ?_
  · exact ⟨_, .cons (.int a t) (.cons (.int b u) .nil)⟩
  · show X.A.units + 1 + 0 < cLine
    omega
  · have e : PySem.W.maxOf a [b] = max a b := by
      have h1 : PySem.W.maxD (.int a) ([b].map PyData.int) = .int (PySem.W.maxOf a [b]) := PySem.W.maxD_map (α := Int) a [b]
      rw [PySem.W.maxD_ints a [b]] at h1
      exact (PyData.int.inj h1).symm
    rw [e] at e2
    obtain ⟨as, e2⟩ := e2
    have e2 : Reads h' v (.int (max a b)) as := e2
    cases e2
    exact ⟨.int _, H, I.kept hk, ⟨_, rfl⟩, q⟩
end
end W3
namespace W3
open PySem L2
/-! ### the mathematics of law -/
def nD : Option Int → PyData
  | none => .none
  | some i => .int i
def Wd.data (W : Wd) : PyData := .tuple [.str W.mode, nD W.lost, nD W.breaks, nD W.fails, .bool W.late]
theorem eqv_nD (a b : Option Int) : PyData.eqv (nD a) (nD b) = decide (a = b) := by
  cases a <;> cases b <;> simp [nD, PyData.eqv]
  rename_i x y
  by_cases h : x = y <;> simp [h]
theorem eqv_str (a b : Str) : PyData.eqv (.str a) (.str b) = decide (a = b) := by
  simp only [PyData.eqv]
  by_cases h : a = b
  · subst h; simp
  · rw [decide_eq_false h]; exact beq_eq_false_iff_ne.mpr h
theorem eqv_data (W W' : Wd) : PyData.eqv W.data W'.data = decide (W = W') := by
  obtain ⟨m, l, b, f, t⟩ := W
  obtain ⟨m', l', b', f', t'⟩ := W'
  unfold Wd.data
  simp only [PyData.eqv, PyData.eqvAll]
  have e := eqv_str m m'
  simp only [PyData.eqv] at e
  rw [e, eqv_nD, eqv_nD, eqv_nD]
  by_cases h : t = t' <;> simp [h]
theorem nD_shape (a : Option Int) : (nD a).canLay0 = true := by cases a <;> rfl
theorem dp_nV {K : PySem.W.Frag} {H : Hp} (a : Option Int) : Dp K H (nV a) (nD a) := by
  cases a with
  | none => exact .non
  | some i => exact .int i
theorem dp_tup {K : PySem.W.Frag} {H : Hp} {t : Addr} {W : Wd} (h : H t = some (.tup W.tup)) : Dp K H (.ref t) W.data :=
  .tup (SqT.of h) (.cons (.str _) (.cons (dp_nV _) (.cons (dp_nV _) (.cons (dp_nV _) (.cons (.bl _) .nil)))))
theorem mode_str {m : Str} (h : modeB (.str m) = true) : m = "each" ∨ m = "whole" := by
  have h' : (("each" : Str) == m || (("whole" : Str) == m || false)) = true := h
  rw [Bool.or_false, Bool.or_eq_true] at h'
  rcases h' with h' | h'
  · exact .inl (beq_iff_eq.mp h').symm
  · exact .inr (beq_iff_eq.mp h').symm
theorem strOk_mode {m : Str} (h : modeB (.str m) = true) : PyData.strOk m = true := by
  rcases mode_str h with rfl | rfl <;> decide +kernel
theorem shaped_data {W : Wd} (h : W.ok = true) : SeqAt.shaped W.data = true := by
  have hm := strOk_mode (ok_split.mp h).1
  obtain ⟨m, l, b, f, t⟩ := W
  have hm : PyData.strOk m = true := hm
  cases l <;> cases b <;> cases f <;> simp [SeqAt.shaped, Wd.data, nD, PyData.canLay0, PyData.canLayAll0, PyData.depth, PyData.depthAll, hm]
theorem tup_flat (W : Wd) : ∀ x ∈ W.tup, flatV x = true := by
  obtain ⟨m, l, b, f, t⟩ := W
  cases l <;> cases b <;> cases f <;> (intro x hx; simp [Wd.tup, nV] at hx; rcases hx with rfl | rfl | rfl | rfl | rfl <;> rfl)
/-- a number of a world is none or from 0 to 3 -/
theorem bnd_le {a : Option Int} (h : bndB (nV a) = true) : ∀ i, a = some i → 0 ≤ i ∧ i ≤ 3 := fun i e => by
  subst e
  have h' : (decide (0 ≤ i) && decide (i ≤ 3)) = true := h
  rw [Bool.and_eq_true] at h'
  exact ⟨of_decide_eq_true h'.1, of_decide_eq_true h'.2⟩
theorem am_num {a b : Option Int} (ha : bndB (nV a) = true) (hb : bndB (nV b) = true) : amB a b = decide (a.getD 9 ≤ b.getD 9) := by
  have h1 := bnd_le ha
  have h2 := bnd_le hb
  cases a with
  | none =>
    cases b with
    | none => rfl
    | some j =>
      have := h2 j rfl
      refine (decide_eq_false ?_).symm
      show ¬ (9 : Int) ≤ j
      omega
  | some i =>
    cases b with
    | none =>
      have := h1 i rfl
      refine (decide_eq_true ?_).symm
      show i ≤ (9 : Int)
      omega
    | some j => rfl
theorem am_refl (a : Option Int) : amB a a = true := by
  cases a with
  | none => rfl
  | some i => exact decide_eq_true (Int.le_refl i)
theorem mild_refl (W : Wd) : mildB W W = true := by
  unfold mildB
  rw [am_refl, am_refl, am_refl]
  cases h : W.late <;> simp
theorem gr_num {a b : Option Int} (ha : bndB (nV a) = true) (hb : bndB (nV b) = true) : nV (grN a b) = if max (a.getD 9) (b.getD 9) = 9 then V.non else .int (max (a.getD 9) (b.getD 9)) := by
  have h1 := bnd_le ha
  have h2 := bnd_le hb
  cases a with
  | none =>
    have e : max ((none : Option Int).getD 9) (b.getD 9) = 9 := by
      cases b with
      | none => rfl
      | some j =>
        have := h2 j rfl
        show max (9 : Int) j = 9
        omega
    rw [e, if_pos rfl]
    cases b <;> rfl
  | some i =>
    have := h1 i rfl
    cases b with
    | none =>
      have e : max ((some i : Option Int).getD 9) ((none : Option Int).getD 9) = 9 := by
        show max i (9 : Int) = 9
        omega
      rw [e, if_pos rfl]
      rfl
    | some j =>
      have := h2 j rfl
      have e : max ((some i : Option Int).getD 9) ((some j : Option Int).getD 9) = max i j := rfl
      rw [e, if_neg (by omega)]
      unfold grN
      by_cases c : j ≤ i
      · rw [if_pos (show amB (some j) (some i) = true from decide_eq_true c)]
        show V.int i = _
        rw [show max i j = i by omega]
      · rw [if_neg (show ¬ amB (some j) (some i) = true from fun q => c (of_decide_eq_true q))]
        show V.int j = _
        rw [show max i j = j by omega]
def prs (W W' : Wd) : List (Int × Int) := [(W.lost.getD 9, W'.lost.getD 9), (W.breaks.getD 9, W'.breaks.getD 9), (W.fails.getD 9, W'.fails.getD 9)]
theorem mild_prs {W W' : Wd} (h : W.ok = true) (h' : W'.ok = true) : mildB W W' = (decide (W.mode = W'.mode) && ((prs W W').all (fun p => !decide (p.1 > p.2)) && (W'.late || !W.late))) := by
  obtain ⟨_, _, c, d, e⟩ := ok_split.mp h
  obtain ⟨_, _, c', d', e'⟩ := ok_split.mp h'
  unfold mildB
  rw [am_num c c', am_num d d', am_num e e']
  have q : ∀ x y : Int, decide (x ≤ y) = !decide (x > y) := fun x y => by
    by_cases hh : x ≤ y
    · rw [decide_eq_true hh, decide_eq_false (by omega)]; rfl
    · rw [decide_eq_false hh, decide_eq_true (by omega)]; rfl
  rw [q, q, q]
  simp only [prs, List.all_cons, List.all_nil, Bool.and_true, Bool.and_assoc]
def grV (p : Int × Int) : V := if max p.1 p.2 = 9 then .non else .int (max p.1 p.2)
theorem join_tup {W W' : Wd} (h : W.ok = true) (h' : W'.ok = true) : (joinW W W').tup = [V.str W.mode] ++ (prs W W').map grV ++ [.bl (W.late || W'.late)] := by
  obtain ⟨_, _, c, d, e⟩ := ok_split.mp h
  obtain ⟨_, _, c', d', e'⟩ := ok_split.mp h'
  show [V.str W.mode, nV (grN W.lost W'.lost), nV (grN W.breaks W'.breaks), nV (grN W.fails W'.fails), .bl (W.late || W'.late)] = _
  rw [gr_num c c', gr_num d d', gr_num e e']
  rfl
/-- refused by a number -/
theorem ref_num {k : Nat} {m v t : V} (hk : k < 3) (hv : bndB v = false) : refB k m v t = true := by
  unfold refB okB nums
  match k, hk with
  | 0, _ => simp [hv]
  | 1, _ => simp [hv]
  | 2, _ => simp [hv]
theorem ref_mode {k : Nat} {m v t : V} (hm : modeB m = false) : refB k m v t = true := by
  unfold refB okB
  rw [hm]
  rfl
theorem ref_late {k : Nat} {m v t : V} (ht : lateB t = false) : refB k m v t = true := by
  unfold refB okB
  rw [ht]
  simp
/-- the addresses ts hold the pairs -/
abbrev PrsAt (H : Hp) : List Addr → List (Int × Int) → Prop := Paired fun t p => H t = some (.tup [.int p.1, .int p.2])
theorem PrsAt.same {H H' : Hp} (s : Same H H') : ∀ {ts : List Addr} {ps : List (Int × Int)}, PrsAt H ts ps → PrsAt H' ts ps
  | _, _, .nil => .nil
  | _, _, .cons a b => .cons (s _ _ a) (PrsAt.same s b)
theorem PrsAt.snoc {H : Hp} {t : Addr} {p : Int × Int} (h : H t = some (.tup [.int p.1, .int p.2])) : ∀ {ts : List Addr} {ps : List (Int × Int)}, PrsAt H ts ps → PrsAt H (ts ++ [t]) (ps ++ [p])
  | _, _, .nil => .cons h .nil
  | _, _, .cons a b => .cons a (PrsAt.snoc h b)
def oN (W : Wd) : Nat → Option Int
  | 0 => W.lost
  | 1 => W.breaks
  | _ => W.fails
theorem item3 {i : Nat} {x : V} (h : ([V.int 1, .int 2, .int 3] : List V)[i]? = some x) : i < 3 ∧ x = .int ((i : Int) + 1) := by
  match i, h with
  | 0, h => exact ⟨by omega, (Option.some.inj h).symm⟩
  | 1, h => exact ⟨by omega, (Option.some.inj h).symm⟩
  | 2, h => exact ⟨by omega, (Option.some.inj h).symm⟩
theorem tup_at {i : Nat} (h : i < 3) (W : Wd) : atI W.tup ((i : Int) + 1) = some (nV (oN W i)) := by
  match i, h with
  | 0, _ => rfl
  | 1, _ => rfl
  | 2, _ => rfl
theorem prs_take {i : Nat} (h : i < 3) (W W' : Wd) : (prs W W').take (i + 1) = (prs W W').take i ++ [((oN W i).getD 9, (oN W' i).getD 9)] := by
  match i, h with
  | 0, _ => rfl
  | 1, _ => rfl
  | 2, _ => rfl
theorem PrsAt.at {H : Hp} : ∀ {ts : List Addr} {ps : List (Int × Int)} {i : Nat} {t : Addr}, PrsAt H ts ps → ts[i]? = some t → ∃ p, ps[i]? = some p ∧ H t = some (.tup [.int p.1, .int p.2])
  | _, _, _, _, .nil, e => by simp at e
  | _, _, 0, _, .cons a _, e => ⟨_, rfl, by
      have e' := Option.some.inj (by simpa using e)
      subst e'
      exact a⟩
  | _, _, i + 1, _, .cons _ b, e => PrsAt.at (i := i) b (by simpa using e)
def pD (p : Int × Int) : PyData := .tuple [.int p.1, .int p.2]
theorem PrsAt.dp {K : PySem.W.Frag} {H : Hp} : ∀ {ts : List Addr} {ps : List (Int × Int)}, PrsAt H ts ps → DpAll K H (ts.map V.ref) (ps.map pD)
  | _, _, .nil => .nil
  | _, _, .cons a b => .cons (.tup (SqT.of a) (.cons (.int _) (.cons (.int _) .nil))) (PrsAt.dp b)
theorem lay_pD (ps : List (Int × Int)) : PyData.canLayAll0 (ps.map pD) = true ∧ PyData.depthAll (ps.map pD) ≤ 1 := by
  induction ps with
  | nil => simp [PyData.canLayAll0, PyData.depthAll]
  | cons p r ih =>
    have h1 := ih.1
    have h2 := ih.2
    simp only [List.map_cons, PyData.canLayAll0, PyData.depthAll, pD, PyData.canLay0, PyData.depth, Bool.and_self, Bool.true_and] at h1 h2 ⊢
    exact ⟨h1, by omega⟩
theorem shape_pD (ps : List (Int × Int)) : SeqAt.shaped (.list (ps.map pD)) = true := by
  have h := lay_pD ps
  unfold SeqAt.shaped
  simp only [PyData.canLay0, PyData.depth, h.1, Bool.true_and]
  have := h.2
  exact decide_eq_true (by omega)
theorem eqv_nil (ps : List (Int × Int)) : PyData.eqv (.list (ps.map pD)) (.list []) = ps.isEmpty := by
  cases ps <;> simp [PyData.eqv, PyData.eqvAll]
theorem all_filter (ps : List (Int × Int)) : (ps.filter fun p => decide (p.2 < p.1)).isEmpty = ps.all fun p => !decide (p.1 > p.2) := by
  induction ps with
  | nil => rfl
  | cons p r ih =>
    by_cases h : p.2 < p.1
    · simp [h]
    · rw [List.filter_cons_of_neg (by simp [h]), ih]
      simp [h]
theorem take_at {α : Type} : ∀ {l : List α} {i : Nat} {x : α}, l[i]? = some x → l.take (i + 1) = l.take i ++ [x]
  | [], i, x, h => by simp at h
  | a :: l, 0, x, h => by
    have e : a = x := Option.some.inj (by simpa using h)
    subst e
    rfl
  | a :: l, i + 1, x, h => by
    rw [List.take_succ_cons, take_at (l := l) (i := i) (by simpa using h)]
    rfl
theorem pick0 (xs : List V) (v : Int) (h0 : 0 ≤ v) (h1 : v < xs.length) : ∃ o, o ∈ xs ∧ atI xs v = some o := by
  obtain ⟨z, hz, ha⟩ := atI_in (xs := xs) h0 h1
  exact ⟨z, List.mem_of_getElem? hz, ha⟩
def W0 : Wd := ⟨"each", some 0, some 0, none, false⟩
theorem W0_ok : W0.ok = true := by decide +kernel
theorem odd_mode {K : PySem.W.Frag} {H : Hp} {i : Nat} {x : V} (h : ([V.str "", .str "both", .non, .int 1] : List V)[i]? = some x) : i < 4 ∧ modeB x = false ∧ ∃ T, TyB K H x T := by
  match i, h with
  | 0, h =>
    cases h
    exact ⟨by omega, by decide +kernel, _, .str _⟩
  | 1, h =>
    cases h
    exact ⟨by omega, by decide +kernel, _, .str _⟩
  | 2, h =>
    cases h
    exact ⟨by omega, rfl, _, .non⟩
  | 3, h =>
    cases h
    exact ⟨by omega, rfl, _, .int _⟩
theorem odd_late {K : PySem.W.Frag} {H : Hp} {i : Nat} {x : V} (h : ([V.int 1, .int 0, .non, .str "x"] : List V)[i]? = some x) : i < 4 ∧ lateB x = false ∧ ∃ T, TyB K H x T := by
  match i, h with
  | 0, h =>
    cases h
    exact ⟨by omega, rfl, _, .int _⟩
  | 1, h =>
    cases h
    exact ⟨by omega, rfl, _, .int _⟩
  | 2, h =>
    cases h
    exact ⟨by omega, rfl, _, .non⟩
  | 3, h =>
    cases h
    exact ⟨by omega, rfl, _, .str _⟩
theorem dp_trues {K : PySem.W.Frag} {H : Hp} : ∀ n : Nat, DpAll K H (List.replicate n (V.bl true)) (List.replicate n (PyData.bool true))
  | 0 => .nil
  | n + 1 => .cons (.bl true) (dp_trues n)
theorem rep_snoc (n : Nat) : List.replicate n (V.bl true) ++ [V.bl true] = List.replicate (n + 1) (V.bl true) := by
  induction n with
  | zero => rfl
  | succ n ih =>
    rw [List.replicate_succ, List.cons_append, ih]
    rfl
theorem shape_trues : SeqAt.shaped (.list (List.replicate 8 (PyData.bool true))) = true := by
  simp [SeqAt.shaped, PyData.canLay0, PyData.canLayAll0, PyData.depth, PyData.depthAll, List.replicate]
theorem eqv_trues : PyData.eqv (.list (List.replicate 8 (PyData.bool true))) (.list (List.replicate 8 (PyData.bool true))) = true := by
  simp [PyData.eqv, PyData.eqvAll, List.replicate]
theorem yes_read {σ : St} {H : Hp} {A B : Hp → Prop} (h : A H) : tYes σ H (fun b H3 => if b = true then A H3 else B H3) := by
  show (if true = true then A H else B H)
  rw [if_pos rfl]
  exact h
theorem via_s {te : TE} {g : TG} {rest : TS} {D : Ends} {σ : St} {H : Hp} (G : VK) (h : ∀ Q' : VK, (∀ v H', G v H' → Q' v H') → te σ H Q')
    (k : ∀ v H', G v H' → g v σ H' (rest D)) : tSeq (tAsg te g) rest D σ H := h _ k
theorem via_c {te : TE} {tr : TA} {σ : St} {H : Hp} {Q : List V → Hp → Prop} (G : VK) (h : ∀ Q' : VK, (∀ v H', G v H' → Q' v H') → te σ H Q')
    (k : ∀ v H', G v H' → tr σ H' fun xs H2 => Q (v :: xs) H2) : tCons te tr σ H Q := h _ k
theorem via {te : TE} {σ : St} {H : Hp} {Q : VK} (G : VK) (h : ∀ Q' : VK, (∀ v H', G v H' → Q' v H') → te σ H Q') (k : ∀ v H', G v H' → Q v H') : te σ H Q := h Q k
end W3
namespace W3
open PySem L2
/-- all that law leans on -/
structure LE (K : PySem.W.Frag) (mg : Str → Option Value) (C CI CE CA fI fM fB fN fG fA fo fe fmi p1 p2 p3 p4 p5 g1 g2 g3 g4 g5 xm xn xa xw xd xu xr xj : Addr)
    (fdI fdM fdB fdN fdG fdA fdo fde fdmi gd1 gd2 gd3 gd4 gd5 dm dn da dw dd du dr dj : FuncData) : Prop where
  Ev : Env K mg C CI fI fM fB fN fdI fdM fdB fdN
  Wi : Wi K C
  GB : Dn K mg "greater_bound" s_greater_bound ["one", "other"] fG fdG
  AM : Dn K mg "is_at_most" s_is_at_most ["one", "other"] fA fdA
  XE : Xc K mg "WorldError" CE
  XEd : PySem.W.hasDictIn K CE = true
  XEs : PySem.W.subIn K (.ref CE) (.ref CE) = some true
  XI : Xk K CI CA
  gA : mg "AnswerError" = some (.ref CA)
  O : Wo K C fo fdo
  E : Wm K C "__eq__" "World.__eq__" s_World_eq ["self", "other"] fe fde
  Et : PySem.W.notFirst K C (.type "tuple") = true
  mi : Wm K C "is_milder" "World.is_milder" s_World_is_milder ["self", "other"] fmi fdmi
  P1 : Wp K C "mode" "World.mode" s_World_mode p1 g1 gd1
  P2 : Wp K C "lost" "World.lost" s_World_lost p2 g2 gd2
  P3 : Wp K C "breaks" "World.breaks" s_World_breaks p3 g3 gd3
  P4 : Wp K C "fails" "World.fails" s_World_fails p4 g4 gd4
  P5 : Wp K C "late" "World.late" s_World_late p5 g5 gd5
  mix : Dn K mg "_law_mix" s_law_mix ["_law_script", "_law_seed"] xm dm
  nxt : Dn K mg "_law_next" s_law_next ["_law_h", "_law_cap"] xn dn
  alk : Dn K mg "_law_alike" s_law_alike ["_law_found", "_law_due"] xa da
  wld : Dn K mg "_law_world" s_law_world ["_law_h"] xw dw
  mad : Dn K mg "_law_made" s_law_made ["_law_world_here"] xd dd
  num : Dn K mg "_law_number" s_law_number ["_law_number_here"] xu du
  ref : Dn K mg "_law_refused" s_law_refused ["_law_mode", "_law_number_here", "_law_slow", "_law_place"] xr dr
  joi : Dn K mg "_law_joined" s_law_joined ["_law_one", "_law_other"] xj dj
abbrev slotsL : List Str := ["_law_script", "_law_h", "_law_turn", "_law_one", "_law_other", "_law_a", "_law_b", "_law_pairs", "_law_milder", "_law_both", "_law_great", "_law_due", "_law_place", "_law_number_here", "_law_odd", "_law_base", "_law_mode", "_law_k", "_law_slow", "_law_pair"]
def spLaw (K : PySem.W.Frag) : Sp := fun vs H Q _ => ∃ (a : Addr) (ns : List Int), vs = [.ref a] ∧ SqL K H a (ns.map V.int) ∧ ns.length ≤ 63 ∧ ∀ H', Q (.bl true) H'
section
variable {P : Program} {w : World} {K : PySem.W.Frag} {mg : Str → Option Value} {base : Heap}
theorem ok_law {f C CI CE CA fI fM fB fN fG fA fo fe fmi p1 p2 p3 p4 p5 g1 g2 g3 g4 g5 xm xn xa xw xd xu xr xj : Addr} {fd fdI fdM fdB fdN fdG fdA fdo fde fdmi gd1 gd2 gd3 gd4 gd5 dm dn da dw dd du dr dj : FuncData}
    (F : Fun K "law" "law" s_law f fd) (L : LE K mg C CI CE CA fI fM fB fN fG fA fo fe fmi p1 p2 p3 p4 p5 g1 g2 g3 g4 g5 xm xn xa xw xd xu xr xj fdI fdM fdB fdN fdG fdA fdo fde fdmi gd1 gd2 gd3 gd4 gd5 dm dn da dw dd du dr dj) :
    FnOk P w K mg base CX0 8 f fd ["_law_script"] (spLaw K) := by
  have T := L.Ev.T
  have W := L.Ev.W
  have GI : FnOk P w K mg base (L2.CX P w) 3 fI fdI ["self", "mode", "lost", "breaks", "fails", "late"] (spInit K C CI) := L.Ev.init
  have Gmix : FnOk P w K mg base CX0 1 xm dm ["_law_script", "_law_seed"] (spMix K) := ok_mix L.mix.F T
  have Gnext : FnOk P w K mg base CX0 1 xn dn ["_law_h", "_law_cap"] spNext := ok_next L.nxt.F T
  have Gworld : FnOk P w K mg base CX0 2 xw dw ["_law_h"] spWorld := ok_world L.wld.F T L.nxt
  have Gmade : FnOk P w K mg base CX0 5 xd dd ["_law_world_here"] (spMade C) := ok_made L.mad.F L.Ev
  have Gnum : FnOk P w K mg base CX0 1 xu du ["_law_number_here"] spNumber := ok_number L.num.F
  have Gref : FnOk P w K mg base CX0 5 xr dr ["_law_mode", "_law_number_here", "_law_slow", "_law_place"] (spRef K) := ok_refused L.ref.F L.Ev L.XI L.gA
  have Gjoi : FnOk P w K mg base CX0 6 xj dj ["_law_one", "_law_other"] (spJoin C) := ok_joined L.joi.F L.Ev L.XE L.XEd L.XEs L.GB L.AM L.O
  have Galk0 : FnOk P w K mg base CX0 1 xa da ["_law_found", "_law_due"] spAlk0 := ok_alike0 L.alk.F T
  have Galk1 : FnOk P w K mg base CX0 2 xa da ["_law_found", "_law_due"] spAlk1 := ok_alike1 L.alk T
  have Geq : FnOk P w K mg base CX0 1 fe fde ["self", "other"] (spEqW C) := ok_eq L.E.F T W L.Wi
  have Gmi : FnOk P w K mg base CX0 2 fmi fdmi ["self", "other"] (spMild C) := ok_mild L.mi.F W L.AM
  have G1 : FnOk P w K mg base CX0 1 g1 gd1 ["self"] (spG_mode C) := ok_get_mode L.P1.F W
  have G2 : FnOk P w K mg base CX0 1 g2 gd2 ["self"] (spG_lost C) := ok_get_lost L.P2.F W
  have G3 : FnOk P w K mg base CX0 1 g3 gd3 ["self"] (spG_breaks C) := ok_get_breaks L.P3.F W
  have G4 : FnOk P w K mg base CX0 1 g4 gd4 ["self"] (spG_fails C) := ok_get_fails L.P4.F W
  have G5 : FnOk P w K mg base CX0 1 g5 gd5 ["self"] (spG_late C) := ok_get_late L.P5.F W
  have nd := sc_law.nd
  obtain ⟨ds0, vd0, b0⟩ := L.Ev.I.b0
  refine F.ok sc_law (fun vs H Q E h => ?_) (fun cdv A outer s H vs Q E hr h => ?_)
  · obtain ⟨a, ns, rfl, _⟩ := h
    rfl
  · obtain ⟨a, ns, rfl, hS, hlen, k⟩ := h
    have hr1 : Room 1 _ := hr.mono (by decide)
    have hr2 : Room 2 _ := hr.mono (by decide)
    have hr4 : Room 4 _ := hr.mono (by decide)
    have hr5 : Room 5 _ := hr.mono (by decide)
    have hr6 : Room 6 _ := hr.mono (by decide)
    have hr0 : Room 0 _ := hr.mono (by decide)
    refine ⟨_, pss_cons (ps_set (i := 1) nd rfl (Or.inl rfl) (pe_call Gmix hr1 (by rfl) L.mix.g L.mix.F.kp L.mix.b .nil pass0 (pa_cons (pv 0) (pa_cons pe_int pa_nil))))
      (pss_cons (ps_for PassesOwn.never rfl (pi_range1 (by rfl) T.range (pa_cons pe_int pa_nil)) (pg_name (i := 2) nd rfl (Or.inl rfl))
        -- one, other
        (pss_cons (ps_asg (pe_tup (pa_cons (pe_call Gworld hr2 (by rfl) L.wld.g L.wld.F.kp L.wld.b .nil pass0 (pa_cons (pv 1) pa_nil)) (pa_cons (pe_call Gworld hr2 (by rfl) L.wld.g L.wld.F.kp L.wld.b .nil pass0 (pa_cons (pv 1) pa_nil)) pa_nil)))
            (pg_tup (by rfl) (pgs_cons (pg_name (i := 3) nd rfl (Or.inr rfl)) (pgs_cons (pg_name (i := 4) nd rfl (Or.inr rfl)) pgs_nil))))
        -- a, b
        (pss_cons (ps_par (i := 5) (j := 6) (by rfl) nd rfl rfl (by decide) rfl rfl (pa_cons (pe_call Gmade hr5 (by rfl) L.mad.g L.mad.F.kp L.mad.b .nil pass0 (pa_cons (pv 3) pa_nil))
            (pa_cons (pe_call Gmade hr5 (by rfl) L.mad.g L.mad.F.kp L.mad.b .nil pass0 (pa_cons (pv 4) pa_nil)) pa_nil)) (by rfl))
        (pss_cons (ps_if (pt_not (pt_val (pe_call Galk1 hr2 (by rfl) L.alk.g L.alk.F.kp L.alk.b .nil pass0 (pa_cons (pe_tup
            (pa_cons (pe_prop (pv 5) W.cl L.P1.hp G1 hr2 L.P1.b .nil pass0 (by rfl)) (pa_cons (pe_prop (pv 5) W.cl L.P2.hp G2 hr2 L.P2.b .nil pass0 (by rfl)) (pa_cons (pe_prop (pv 5) W.cl L.P3.hp G3 hr2 L.P3.b .nil pass0 (by rfl))
            (pa_cons (pe_prop (pv 5) W.cl L.P4.hp G4 hr2 L.P4.b .nil pass0 (by rfl)) (pa_cons (pe_prop (pv 5) W.cl L.P5.hp G5 hr2 L.P5.b .nil pass0 (by rfl)) pa_nil)))))) (pa_cons (pv 3) pa_nil))))) (pss_one (ps_ret pe_bl)) pss_nil)
        (pss_cons (ps_if (PW.pt (pw_or (pt_cmpR op_ne (pe_cmpR (op_cmpIns (C := C) Geq L.E.at_ L.E.i L.E.b L.Et hr1 pass0) (pv 5) (pv 6) (nomark _)) (pe_cmpR (op_eqD hr.units) (pv 3) (pv 4) (nomark _)) (nomark _))
            (pw_or1 (pt_cmpR (op_cmpIns (C := C) Geq L.E.at_ L.E.i L.E.b L.Et hr1 pass0) (pv 5) (pv 3) (nomark _))))) (pss_one (ps_ret pe_bl)) pss_nil)
        -- pairs
        (pss_cons (ps_setLc (i := 7) (own := [("_law_k", 17)]) (g := gName 17) (tt := tYes) (by rfl) nd rfl rfl (sw_true rfl rfl rfl (by decide +kernel)) (pi_tup (pe_tup (pa_cons pe_int (pa_cons pe_int (pa_cons pe_int pa_nil)))))
            (blkOk_by (own := [("_law_k", 17)]) (N := slotsL) (sc := defScope s_law) (by decide +kernel)) (fun _ _ _ _ _ => pg_name (i := 17) nd rfl (Or.inl rfl)) (fun _ _ _ _ _ => pts_nil)
            (fun _ _ _ _ _ => pe_tup (pa_cons (pe_call Gnum hr1 (by rfl) L.num.g L.num.F.kp L.num.b .nil pass0 (pa_cons (pe_ix (r := rIxT K) ix_tup (pv 3) (pv 17) (fun _ _ => rfl)) pa_nil))
              (pa_cons (pe_call Gnum hr1 (by rfl) L.num.g L.num.F.kp L.num.b .nil pass0 (pa_cons (pe_ix (r := rIxT K) ix_tup (pv 4) (pv 17) (fun _ _ => rfl)) pa_nil)) pa_nil))))
        -- milder
        (pss_cons (ps_set (i := 8) nd rfl (Or.inl rfl) (pe_and (pe_cmpR op_eq (pe_ix ix_tup (pv 3) pe_int (fun _ _ => rfl)) (pe_ix ix_tup (pv 4) pe_int (fun _ _ => rfl)) (nomark _))
            (pe_one (pe_cmpR (op_eqD hr.units) (pe_lc (own := [("_law_pair", 19)]) (g := gName 19) (by rfl) nd (pi_list (pv 7)) (blkOk_by (own := [("_law_pair", 19)]) (N := slotsL) (sc := defScope s_law) (by decide +kernel))
              (fun _ _ _ _ _ => pg_name (i := 19) nd rfl (Or.inl rfl)) (fun _ _ _ _ _ => pts_one (pt_cmpR op_gt (pe_ix (r := rIxT K) ix_tup (pv 19) pe_int (fun _ _ => rfl)) (pe_ix (r := rIxT K) ix_tup (pv 19) pe_int (fun _ _ => rfl)) (nomark _)))
              (fun _ _ _ _ _ => pv 19)) (pe_lst pa_nil) (nomark _)))))
        (pss_cons (ps_if (PW.pt (pw_or (pt_not (pt_val (pe_call Galk0 hr1 (by rfl) L.alk.g L.alk.F.kp L.alk.b .nil pass0 (pa_cons (pe_meth (pv 5) W.cl ⟨L.mi.at_, L.mi.i, L.mi.F.kp⟩ Gmi hr2 L.mi.b .nil pass0 (pa_cons (pv 6) pa_nil))
            (pa_cons (pe_and (pv 8) (pe_one (pe_or (pe_ix ix_tup (pv 4) pe_int (fun _ _ => rfl)) (pe_one (pe_not (pe_ix ix_tup (pv 3) pe_int (fun _ _ => rfl))))))) pa_nil)))))
            (pw_or1 (pt_not (pt_val (pe_meth (pv 5) W.cl ⟨L.mi.at_, L.mi.i, L.mi.F.kp⟩ Gmi hr2 L.mi.b .nil pass0 (pa_cons (pv 5) pa_nil))))))) (pss_one (ps_ret pe_bl)) pss_nil)
        -- both
        (pss_cons (ps_set (i := 9) nd rfl (Or.inl rfl) (pe_call Gjoi hr6 (by rfl) L.joi.g L.joi.F.kp L.joi.b .nil pass0 (pa_cons (pv 5) (pa_cons (pv 6) pa_nil))))
        (pss_cons (ps_if (pt_cmpR op_ne (pe_cmpR op_isN (pv 9) pe_non (nomark _)) (pe_cmpR op_ne (pe_ix ix_tup (pv 3) pe_int (fun _ _ => rfl)) (pe_ix ix_tup (pv 4) pe_int (fun _ _ => rfl)) (nomark _)) (nomark _)) (pss_one (ps_ret pe_bl)) pss_nil)
        (pss_cons (ps_if (pt_cmpR op_notN (pv 9) pe_non (nomark _))
          (pss_cons (ps_setLc (i := 10) (own := [("_law_pair", 19)]) (g := gName 19) (tt := tYes) (by rfl) nd rfl rfl (sw_true rfl rfl rfl (by decide +kernel)) (pi_list (pv 7)) (blkOk_by (own := [("_law_pair", 19)]) (N := slotsL) (sc := defScope s_law) (by decide +kernel))
              (fun _ _ _ _ _ => pg_name (i := 19) nd rfl (Or.inl rfl)) (fun _ _ _ _ _ => pts_nil)
              (fun _ _ _ _ _ => pe_ifExp (pt_cmpR op_eq (pe_callB (id := "max") (r := rMaxT K) (cr_maxT2 rfl hr0) (by rfl) T.max (by decide +kernel) (pa_cons (pv 19) pa_nil)) pe_int (nomark _)) pe_non (pe_callB (id := "max") (r := rMaxT K) (cr_maxT2 rfl hr0) (by rfl) T.max (by decide +kernel) (pa_cons (pv 19) pa_nil))))
          (pss_cons (ps_set (i := 11) nd rfl (Or.inl rfl) (pe_op op_catT (pe_op op_catT (pe_tup (pa_cons (pe_ix ix_tup (pv 3) pe_int (fun _ _ => rfl)) pa_nil)) (pe_callTy call_tuple_of (by rfl) T.tuple (by decide +kernel) (pa_cons (pv 10) pa_nil)))
              (pe_tup (pa_cons (pe_or (pe_ix ix_tup (pv 3) pe_int (fun _ _ => rfl)) (pe_one (pe_ix ix_tup (pv 4) pe_int (fun _ _ => rfl)))) pa_nil))))
          (pss_one (ps_if (pt_not (pt_val (pe_call Galk1 hr2 (by rfl) L.alk.g L.alk.F.kp L.alk.b .nil pass0 (pa_cons (pe_tup
            (pa_cons (pe_prop (pv 9) W.cl L.P1.hp G1 hr2 L.P1.b .nil pass0 (by rfl)) (pa_cons (pe_prop (pv 9) W.cl L.P2.hp G2 hr2 L.P2.b .nil pass0 (by rfl)) (pa_cons (pe_prop (pv 9) W.cl L.P3.hp G3 hr2 L.P3.b .nil pass0 (by rfl))
            (pa_cons (pe_prop (pv 9) W.cl L.P4.hp G4 hr2 L.P4.b .nil pass0 (by rfl)) (pa_cons (pe_prop (pv 9) W.cl L.P5.hp G5 hr2 L.P5.b .nil pass0 (by rfl)) pa_nil)))))) (pa_cons (pv 11) pa_nil))))) (pss_one (ps_ret pe_bl)) pss_nil)))) pss_nil)
        -- place, number, refused
        (pss_cons (ps_set (i := 12) nd rfl (Or.inl rfl) (pe_call Gnext hr1 (by rfl) L.nxt.g L.nxt.F.kp L.nxt.b .nil pass0 (pa_cons (pv 1) (pa_cons pe_int pa_nil))))
        (pss_cons (ps_set (i := 13) nd rfl (Or.inl rfl) (pe_ix ix_list (pe_lst (pa_cons (pe_un un_neg pe_int) (pa_cons pe_int (pa_cons pe_bl (pa_cons pe_bl (pa_cons pe_str (pa_cons (pe_tup pa_nil) (pa_cons pe_dnewK pa_nil))))))))
            (pe_call Gnext hr1 (by rfl) L.nxt.g L.nxt.F.kp L.nxt.b .nil pass0 (pa_cons (pv 1) (pa_cons pe_int pa_nil))) (fun _ _ => rfl)))
        (pss_one (ps_if (pt_not (pt_val (pe_call Gref hr5 (by rfl) L.ref.g L.ref.F.kp L.ref.b .nil pass0 (pa_cons pe_str (pa_cons (pv 13) (pa_cons pe_bl (pa_cons (pv 12) pa_nil))))))) (pss_one (ps_ret pe_bl)) pss_nil)))))))))))))))
      (pss_cons (ps_if (PW.pt (pw_or (pt_val (pe_call Gref hr5 (by rfl) L.ref.g L.ref.F.kp L.ref.b .nil pass0 (pa_cons pe_str (pa_cons pe_non (pa_cons pe_bl (pa_cons pe_int pa_nil))))))
          (pw_or1 (pt_val (pe_call Gref hr5 (by rfl) L.ref.g L.ref.F.kp L.ref.b .nil pass0 (pa_cons pe_str (pa_cons pe_int (pa_cons pe_bl (pa_cons pe_int pa_nil))))))))) (pss_one (ps_ret pe_bl)) pss_nil)
      (pss_cons (ps_setLc (i := 14) (own := [("_law_mode", 16)]) (g := gName 16) (tt := tYes) (by rfl) nd rfl rfl (sw_true rfl rfl rfl (by decide +kernel)) (pi_list (pe_lst (pa_cons pe_str (pa_cons pe_str (pa_cons pe_non (pa_cons pe_int pa_nil))))))
          (blkOk_by (own := [("_law_mode", 16)]) (N := slotsL) (sc := defScope s_law) (by decide +kernel)) (fun _ _ _ _ _ => pg_name (i := 16) nd rfl (Or.inl rfl)) (fun _ _ _ _ _ => pts_nil)
          (fun _ _ _ _ _ => pe_call Gref hr5 (by rfl) L.ref.g L.ref.F.kp L.ref.b .nil pass0 (pa_cons (pv 16) (pa_cons pe_int (pa_cons pe_bl (pa_cons pe_int pa_nil))))))
      (pss_cons (ps_set (i := 14) nd rfl (Or.inl rfl) (pe_op op_cat (pv 14) (pe_lc (own := [("_law_slow", 18)]) (g := gName 18) (tt := tYes) (by rfl) nd (pi_list (pe_lst (pa_cons pe_int (pa_cons pe_int (pa_cons pe_non (pa_cons pe_str pa_nil))))))
          (blkOk_by (own := [("_law_slow", 18)]) (N := slotsL) (sc := defScope s_law) (by decide +kernel)) (fun _ _ _ _ _ => pg_name (i := 18) nd rfl (Or.inl rfl)) (fun _ _ _ _ _ => pts_nil)
          (fun _ _ _ _ _ => pe_call Gref hr5 (by rfl) L.ref.g L.ref.F.kp L.ref.b .nil pass0 (pa_cons pe_str (pa_cons pe_int (pa_cons (pv 18) (pa_cons pe_int pa_nil))))))))
      (pss_cons (ps_set (i := 15) nd rfl (Or.inl rfl) (pe_make0 L.Ev.I.M GI hr4 (by rfl) W.g b0 vd0 passL))
      (pss_cons (ps_if (pt_cmpR (op_neD hr.units) (pe_tup
            (pa_cons (pe_prop (pv 15) W.cl L.P1.hp G1 hr2 L.P1.b .nil pass0 (by rfl)) (pa_cons (pe_prop (pv 15) W.cl L.P2.hp G2 hr2 L.P2.b .nil pass0 (by rfl)) (pa_cons (pe_prop (pv 15) W.cl L.P3.hp G3 hr2 L.P3.b .nil pass0 (by rfl))
            (pa_cons (pe_prop (pv 15) W.cl L.P4.hp G4 hr2 L.P4.b .nil pass0 (by rfl)) (pa_cons (pe_prop (pv 15) W.cl L.P5.hp G5 hr2 L.P5.b .nil pass0 (by rfl)) pa_nil))))))
            (pe_tup (pa_cons pe_str (pa_cons pe_int (pa_cons pe_int (pa_cons pe_non (pa_cons pe_bl pa_nil)))))) (nomark _)) (pss_one (ps_ret pe_bl)) pss_nil)
      (pss_one (ps_ret (pe_cmpR (op_eqD hr.units) (pv 14) (pe_op op_rep (pe_lst (pa_cons pe_bl pa_nil)) pe_int) (nomark _)))))))))), ?_⟩
    -- _law_h
    refine ⟨_, rfl, a, ns, 3, rfl, hS, hlen, by decide, by decide, fun p q H1 hH s1 => ?_⟩
    refine ⟨8, rfl, by decide, by decide, for_range (lo := 0) (n := 8) (fun i σ H' => ∃ x2 x3 x4 x5 x6 x7 x8 x9 x10 x11 x12 x13 x14 x15 x16 x17 x18 x19 : Option V,
      σ = [some (.ref a), some (.ref p), x2, x3, x4, x5, x6, x7, x8, x9, x10, x11, x12, x13, x14, x15, x16, x17, x18, x19] ∧ HS H' p q) ⟨_, _, _, _, _, _, _, _, _, _, _, _, _, _, _, _, _, _, rfl, hH⟩ ?_ ?_⟩
    · rintro i σ H2 hi ⟨x2, x3, x4, x5, x6, x7, x8, x9, x10, x11, x12, x13, x14, x15, x16, x17, x18, x19, rfl, hH2⟩
      -- one, other = ..
      refine ⟨_, rfl, p, q, rfl, hH2, fun W1 t1 H3 o1 ht1 hH3 k3 => ⟨_, rfl, p, q, rfl, hH3, fun W2 t2 H4 o2 ht2 hH4 k4 => ⟨(by show 2 ≤ sizeLine; decide), fun t nt => ?_⟩⟩⟩
      have n1 := hH3.nt ht1
      have ht1 := k4 _ _ ht1 n1.1 n1.2
      have s5 := same_upd (o := .tup [.ref t1, .ref t2]) nt
      refine ⟨t, _, rfl, SqT.of upd_same, rfl, _, _, rfl, _, _, rfl, rfl, ?_⟩
      have ht1 := s5 _ _ ht1
      have ht2 := s5 _ _ ht2
      have hH5 := hH4.same s5
      generalize upd H4 t (.tup [.ref t1, .ref t2]) = H5 at ht1 ht2 hH5
      -- a, b = ..
      refine ⟨_, rfl, t1, W1, rfl, ht1, o1, fun xa H6 nxa wa s6 => ⟨_, rfl, t2, W2, rfl, s6 _ _ ht2, o2, fun xb H7 nxb wb s7 => ⟨_, _, rfl, ?_⟩⟩⟩
      obtain ⟨da, wa⟩ := wa
      obtain ⟨db, wb⟩ := wb
      have wa := s7 _ _ wa
      have ht1 := s7 _ _ (s6 _ _ ht1)
      have ht2 := s7 _ _ (s6 _ _ ht2)
      have hH7 := (hH5.same s6).same s7
      -- the properties of a
      refine ⟨_, rfl, xa, da, _, rfl, wa, xa, W1, rfl, ⟨da, wa⟩, _, rfl, xa, da, _, rfl, wa, xa, W1, rfl, ⟨da, wa⟩, _, rfl, xa, da, _, rfl, wa, xa, W1, rfl, ⟨da, wa⟩, _, rfl, xa, da, _, rfl, wa, xa, W1, rfl, ⟨da, wa⟩,
        _, rfl, xa, da, _, rfl, wa, xa, W1, rfl, ⟨da, wa⟩, (by show 5 ≤ sizeLine; decide), fun t5 n5 => ?_⟩
      have s8 := same_upd (o := .tup W1.tup) n5
      refine ⟨_, rfl, t5, t1, W1.tup, rfl, upd_same, s8 _ _ ht1, tup_flat W1, (by show 5 ≤ 100; decide), fun H8 s8' => ⟨_, rfl, iteF ?_⟩⟩
      have s8 := s8.trans s8'
      have wa := s8 _ _ wa
      have wb := s8 _ _ wb
      have ht1 := s8 _ _ ht1
      have ht2 := s8 _ _ ht2
      have hH8 := hH7.same s8
      -- a == b, one == other, a == one
      refine ⟨_, rfl, _, rfl, xa, da, _, xb, rfl, rfl, wa, .inl ⟨db, _, wb⟩, xa, xb, W1, rfl, ⟨da, wa⟩, .inl ⟨W2, ⟨db, wb⟩, _, rfl, _, rfl, _, _, dp_tup ht1, dp_tup ht2, shaped_data o1, shaped_data o2, ?_⟩⟩
      rw [eqv_data]
      refine ⟨rfl, _, rfl, iteNS rfl ?_⟩
      refine ⟨_, rfl, _, rfl, xa, da, _, t1, rfl, rfl, wa, .inr ⟨_, ht1⟩, xa, t1, W1, rfl, ⟨da, wa⟩, .inr ⟨_, ht1, _, rfl, iteF ?_⟩⟩
      -- pairs
      refine ⟨(by show 3 ≤ sizeLine; decide), fun t6 n6 => ⟨t6, rfl, ⟨_, SqT.of upd_same⟩, fun D nD => ?_⟩⟩
      have s9 := same_upd (o := .tup [.int 1, .int 2, .int 3]) n6
      have wa := s9 _ _ wa
      have wb := s9 _ _ wb
      have ht1 := s9 _ _ ht1
      have ht2 := s9 _ _ ht2
      have hH9 := hH8.same s9
      have h6 : upd H8 t6 (.tup [.int 1, .int 2, .int 3]) t6 = some (.tup [.int 1, .int 2, .int 3]) := upd_same
      generalize upd H8 t6 (.tup [.int 1, .int 2, .int 3]) = H9 at wa wb ht1 ht2 hH9 h6 nD
      refine lc_tup (K := K) (a := t6) (xs := [.int 1, .int 2, .int 3]) (fun i H' => Same H9 H' ∧ ∃ ts : List Addr, H' D = some (.lst (ts.map V.ref)) ∧ ts.length = i ∧ PrsAt H' ts ((prs W1 W2).take i))
        ⟨same_upd nD, [], upd_same, rfl, .nil⟩ (fun i H' _ ⟨sP, _⟩ => SqT.of (sP _ _ h6)) ?_ ?_
      · rintro i x H' hx ⟨sP, ts, hD, hl, hP⟩
        obtain ⟨hi3, rfl⟩ := item3 hx
        refine ⟨rfl, yes_read ?_⟩
        refine ⟨_, rfl, _, rfl, t1, W1.tup, _, _, rfl, rfl, SqT.of (sP _ _ ht1), tup_at hi3 W1, oN W1 i, rfl, _, rfl, _, rfl, t2, W2.tup, _, _, rfl, rfl, SqT.of (sP _ _ ht2), tup_at hi3 W2, oN W2 i, rfl, (by show 2 ≤ sizeLine; decide), fun t7 n7 => ?_⟩
        have s7' := same_upd (o := .tup [.int ((oN W1 i).getD 9), .int ((oN W2 i).getD 9)]) n7
        refine ⟨_, s7' _ _ hD, (by rw [List.length_map, hl]; exact small1000 (by omega)), ?_⟩
        have hD' := s7' _ _ hD
        have nDt : D ≠ t7 := ne_of_none hD n7
        have h7 : upd H' t7 (.tup [.int ((oN W1 i).getD 9), .int ((oN W2 i).getD 9)]) t7 = some (.tup [.int ((oN W1 i).getD 9), .int ((oN W2 i).getD 9)]) := upd_same
        generalize upd H' t7 (.tup [.int ((oN W1 i).getD 9), .int ((oN W2 i).getD 9)]) = H10 at s7' hD' h7
        have keepT : ∀ {b : Addr} {xs : List V}, H10 b = some (.tup xs) → upd H10 D (.lst (ts.map V.ref ++ [V.ref t7])) b = some (.tup xs) := fun {b xs} e => by
          rw [upd_ne (ne_of e hD' (by intro z; cases z))]
          exact e
        refine ⟨fun b o e => ?_, ts ++ [t7], by rw [upd_same, List.map_append]; rfl, by rw [List.length_append, hl]; rfl, ?_⟩
        · rw [upd_ne (ne_of_none e nD)]
          exact s7' _ _ (sP _ _ e)
        · rw [prs_take hi3]
          refine PrsAt.snoc (keepT h7) ?_
          exact L2.Paired.mapP hP fun t' p' e => keepT (s7' _ _ e)
      · rintro HP ⟨sP, ts, hD, hl, hP⟩
        rw [show ([V.int 1, V.int 2, V.int 3] : List V).length = 3 from rfl] at hl hP
        have hP : PrsAt HP ts (prs W1 W2) := hP
        have wa := sP _ _ wa
        have wb := sP _ _ wb
        have ht1 := sP _ _ ht1
        have ht2 := sP _ _ ht2
        have hHP := hH9.same sP
        have lts : (ts.map V.ref).length = 3 := by rw [List.length_map, hl]
        -- milder
        dsimp only [gName]
        refine via_s (fun v H' => v = .bl (decide (W1.mode = W2.mode) && (prs W1 W2).all (fun p => !decide (p.1 > p.2))) ∧ Same HP H') (fun Q' hq => ?_) ?_
        · refine ⟨_, rfl, t1, W1.tup, 0, _, rfl, rfl, SqT.of ht1, rfl, _, rfl, t2, W2.tup, 0, _, rfl, rfl, SqT.of ht2, rfl, rfl, _, rfl, ?_⟩
          by_cases hm : W1.mode = W2.mode
          · have e1 : decide (V.str W1.mode = V.str W2.mode) = true := by simp [hm]
            rw [e1]
            refine iteT ?_
            refine ⟨_, rfl, D, rfl, ⟨_, SqL.of hD⟩, fun D2 nD2 => ?_⟩
            refine lc_list (K := K) (a := D) (xs := ts.map V.ref) (fun i H' => Same HP H' ∧ ∃ us : List Addr, H' D2 = some (.lst (us.map V.ref)) ∧ us.length ≤ i ∧ PrsAt H' us (((prs W1 W2).take i).filter fun p => decide (p.2 < p.1)))
              ⟨same_upd nD2, [], upd_same, Nat.le_refl _, .nil⟩ (fun i H' _ ⟨sX, _⟩ => SqL.of (sX _ _ hD)) ?_ ?_
            · rintro i x H' hx ⟨sX, us, hU, hul, hPU⟩
              rw [List.getElem?_map] at hx
              cases et : ts[i]? with
              | none => rw [et] at hx; cases hx
              | some t' =>
                rw [et] at hx
                cases hx
                obtain ⟨pr, ep, hpr⟩ := PrsAt.at hP et
                have hi3 : i < 3 := by
                  have := (List.getElem?_eq_some_iff.mp et).1
                  omega
                have hpr' := sX _ _ hpr
                refine ⟨rfl, _, rfl, t', _, 0, _, rfl, rfl, SqT.of hpr', rfl, _, rfl, t', _, 1, _, rfl, rfl, SqT.of hpr', rfl, _, _, rfl, rfl, _, rfl, ?_⟩
                rw [take_at ep, List.filter_append]
                by_cases hc : pr.2 < pr.1
                · rw [decide_eq_true hc]
                  refine iteT ?_
                  refine ⟨_, rfl, _, hU, (by rw [List.length_map]; exact small1000 (by omega)), fun b o e => ?_, us ++ [t'], by rw [upd_same, List.map_append]; rfl, by rw [List.length_append]; show us.length + 1 ≤ i + 1; omega, ?_⟩
                  · rw [upd_ne (ne_of_none e nD2)]
                    exact sX _ _ e
                  · have keepT : ∀ {b : Addr} {xs : List V}, H' b = some (.tup xs) → upd H' D2 (.lst (us.map V.ref ++ [V.ref t'])) b = some (.tup xs) := fun {b xs} e => by
                      rw [upd_ne (ne_of e hU (by intro z; cases z))]
                      exact e
                    rw [List.filter_cons_of_pos (by simp [hc]), List.filter_nil]
                    exact PrsAt.snoc (keepT hpr') (L2.Paired.mapP hPU fun t'' p'' e => keepT e)
                · rw [decide_eq_false hc]
                  refine iteF ?_
                  rw [List.filter_cons_of_neg (by simp [hc]), List.filter_nil, List.append_nil]
                  exact ⟨sX, us, hU, by omega, hPU⟩
            · rintro H' ⟨sX, us, hU, hul, hPU⟩
              rw [lts] at hul hPU
              have hPU : PrsAt H' us ((prs W1 W2).filter fun p => decide (p.2 < p.1)) := hPU
              refine ⟨(by show 0 ≤ sizeLine; decide), fun e ne => ?_⟩
              have s4 := same_upd (o := .lst []) ne
              refine ⟨_, _, .lst (SqL.of (s4 _ _ hU)) (PrsAt.dp (PrsAt.same s4 hPU)), .lst (SqL.of upd_same) .nil, shape_pD _, rfl, ?_⟩
              rw [eqv_nil, all_filter]
              refine hq _ _ ⟨?_, sX.trans s4⟩
              rw [decide_eq_true hm, Bool.true_and]
          · have e1 : decide (V.str W1.mode = V.str W2.mode) = false := by simp [hm]
            rw [e1]
            refine iteF (hq _ _ ⟨?_, Same.refl _⟩)
            rw [decide_eq_false hm, Bool.false_and]
        rintro _ HQ ⟨rfl, sQ⟩
        have wa := sQ _ _ wa
        have wb := sQ _ _ wb
        have ht1 := sQ _ _ ht1
        have ht2 := sQ _ _ ht2
        have hD := sQ _ _ hD
        have hP := PrsAt.same sQ hP
        have hHQ := hHP.same sQ
        -- is_milder
        refine ⟨_, rfl, xa, da, _, rfl, wa, wF_milder _ _ _ _ _, _, rfl, xa, xb, W1, W2, rfl, ⟨da, wa⟩, ⟨db, wb⟩, ?_⟩
        refine via_c (fun v H' => v = .bl (mildB W1 W2) ∧ H' = HQ) (fun Q' hq => ?_) ?_
        · rw [mild_prs o1 o2] at hq
          refine ⟨_, rfl, _, rfl, ?_⟩
          cases em : (decide (W1.mode = W2.mode) && (prs W1 W2).all (fun p => !decide (p.1 > p.2))) with
          | false =>
            refine iteF (hq _ _ ⟨?_, rfl⟩)
            rw [← Bool.and_assoc, em, Bool.false_and]
          | true =>
            refine iteT ⟨_, rfl, t2, W2.tup, 4, _, rfl, rfl, SqT.of ht2, rfl, _, rfl, ?_⟩
            cases el : W2.late with
            | true =>
              refine iteT (hq _ _ ⟨?_, rfl⟩)
              rw [← Bool.and_assoc, em, el]
              rfl
            | false =>
              refine iteF ⟨_, rfl, t1, W1.tup, 4, _, rfl, rfl, SqT.of ht1, rfl, _, rfl, hq _ _ ⟨?_, rfl⟩⟩
              rw [← Bool.and_assoc, em, el]
              rfl
        rintro _ _ ⟨rfl, rfl⟩
        refine ⟨.bl (mildB W1 W2), rfl, rfl, fun HR sR => ⟨_, rfl, iteF ?_⟩⟩
        have wa := sR _ _ wa
        have wb := sR _ _ wb
        have ht1 := sR _ _ ht1
        have ht2 := sR _ _ ht2
        have hD := sR _ _ hD
        have hP := PrsAt.same sR hP
        have hHR := hHQ.same sR
        refine ⟨_, rfl, xa, da, _, rfl, wa, wF_milder _ _ _ _ _, _, rfl, xa, xa, W1, W1, rfl, ⟨da, wa⟩, ⟨da, wa⟩, _, rfl, ?_⟩
        rw [mild_refl]
        refine iteF ?_
        -- both
        refine ⟨_, rfl, _, rfl, xa, xb, W1, W2, rfl, ⟨da, wa⟩, ⟨db, wb⟩, o1, o2, fun hne => ?_, fun heq x HS' nx wx sx => ?_⟩
        · have e1 : decide (V.str W1.mode = V.str W2.mode) = false := by simp [hne]
          refine ⟨_, rfl, rfl, _, rfl, t1, W1.tup, 0, _, rfl, rfl, SqT.of ht1, rfl, _, rfl, t2, W2.tup, 0, _, rfl, rfl, SqT.of ht2, rfl, rfl, rfl, _, rfl, ?_⟩
          refine iteNS (by rw [e1]; rfl) ?_
          refine ⟨_, rfl, rfl, _, rfl, iteF ?_⟩
          refine ⟨_, rfl, p, q, 3, rfl, by decide, by decide, hHR, fun v HA v0 v1 hHA kA => ?_⟩
          obtain ⟨kk, rfl⟩ : ∃ kk : Nat, v = (kk : Int) := ⟨v.toNat, by omega⟩
          refine ⟨1, rfl, (by show 0 ≤ sizeLine; decide), fun tE nE dE hdE => ⟨(by show 7 ≤ sizeLine; decide), fun lE nlE => ?_⟩⟩
          have sA := same_upd (o := .tup []) nE
          have sB := same_upd (o := .dK []) hdE
          have htE := sB _ _ (upd_same : upd HA tE (.tup []) tE = _)
          have hdE' : upd (upd HA tE (.tup [])) dE (.dK []) dE = some (.dK []) := upd_same
          have nqE := (hHA.same (sA.trans sB)).np nlE
          have sC := same_upd (o := .lst [V.int (-1), .int 4, .bl true, .bl false, .str "1", .ref tE, .ref dE]) nlE
          have htE := sC _ _ htE
          have hdE' := sC _ _ hdE'
          have hlE := (upd_same : upd (upd (upd HA tE (.tup [])) dE (.dK [])) lE (.lst [V.int (-1), .int 4, .bl true, .bl false, .str "1", .ref tE, .ref dE]) lE = _)
          have hHC := hHA.same ((sA.trans sB).trans sC)
          refine ⟨_, rfl, p, q, 7, rfl, by decide, by decide, hHC, fun v' HB v0' v1' hHB kB => ?_⟩
          obtain ⟨o, mo, eo⟩ := pick0 [V.int (-1), .int 4, .bl true, .bl false, .str "1", .ref tE, .ref dE] v' v0' v1'
          have ntE := hHC.nt htE
          have ndE : dE ≠ p ∧ dE ≠ q := by
            obtain ⟨_, _, _, g1, g2, _⟩ := hHC
            exact ⟨ne_of hdE' g1 (by intro z; cases z), ne_of hdE' g2 (by intro z; cases z)⟩
          have htE := kB _ _ htE ntE.1 ntE.2
          have hdE' := kB _ _ hdE' ndE.1 ndE.2
          refine ⟨lE, _, _, o, rfl, rfl, SqL.of (kB _ _ hlE nqE.1 nqE.2), eo, ?_⟩
          obtain ⟨To, hTo, hbo⟩ : ∃ T, TyB K HB o T ∧ bndB o = false := by
            simp only [List.mem_cons, List.not_mem_nil, or_false] at mo
            rcases mo with rfl | rfl | rfl | rfl | rfl | rfl | rfl
            · exact ⟨_, .int _, by decide +kernel⟩
            · exact ⟨_, .int _, by decide +kernel⟩
            · exact ⟨_, .bl _, rfl⟩
            · exact ⟨_, .bl _, rfl⟩
            · exact ⟨_, .str _, rfl⟩
            · exact ⟨_, .tup (SqT.of htE), rfl⟩
            · exact ⟨_, .dK hdE', rfl⟩
          refine ⟨_, rfl, _, rfl, .str "each", o, .bl false, kk, _, To, _, rfl, by omega, .str _, hTo, .bl _, fun HC sC' => ⟨_, rfl, ?_⟩⟩
          rw [ref_num (by omega) hbo]
          refine iteF ?_
          exact ⟨_, _, _, _, _, _, _, _, _, _, _, _, _, _, _, _, _, _, rfl, hHB.same sC'⟩
        · have e1 : decide (V.str W1.mode = V.str W2.mode) = true := by simp [heq]
          have ht1 := sx _ _ ht1
          have ht2 := sx _ _ ht2
          have hD := sx _ _ hD
          have hP := PrsAt.same sx hP
          have hHS := hHR.same sx
          obtain ⟨dxx, wx⟩ := wx
          refine ⟨_, rfl, rfl, _, rfl, t1, W1.tup, 0, _, rfl, rfl, SqT.of ht1, rfl, _, rfl, t2, W2.tup, 0, _, rfl, rfl, SqT.of ht2, rfl, rfl, rfl, _, rfl, ?_⟩
          refine iteNS (by rw [e1]; rfl) ?_
          refine ⟨_, rfl, rfl, _, rfl, iteT ?_⟩
          -- great
          refine ⟨_, rfl, D, rfl, ⟨_, SqL.of hD⟩, fun D3 nD3 => ?_⟩
          refine lc_list (K := K) (a := D) (xs := ts.map V.ref) (fun i H' => Same HS' H' ∧ H' D3 = some (.lst (((prs W1 W2).take i).map grV))) ⟨same_upd nD3, upd_same⟩ (fun i H' _ ⟨sX, _⟩ => SqL.of (sX _ _ hD)) ?_ ?_
          · rintro i x' H' hx ⟨sX, hU⟩
            rw [List.getElem?_map] at hx
            cases et : ts[i]? with
            | none => rw [et] at hx; cases hx
            | some t' =>
              rw [et] at hx
              cases hx
              obtain ⟨pr, ep, hpr⟩ := PrsAt.at hP et
              have hi3 : i < 3 := by
                have := (List.getElem?_eq_some_iff.mp et).1
                omega
              have hpr' := sX _ _ hpr
              refine ⟨rfl, yes_read ?_⟩
              refine via (fun v H1 => v = grV pr ∧ H1 = H') (fun Q' hq => ?_) ?_
              · refine ⟨_, rfl, t', pr.1, pr.2, rfl, SqT.of hpr', rfl, _, rfl, ?_⟩
                unfold grV at hq
                by_cases h9 : max pr.1 pr.2 = 9
                · rw [if_pos h9] at hq
                  rw [show decide (V.int (max pr.1 pr.2) = V.int 9) = true by simp [h9]]
                  exact iteT (hq _ _ ⟨rfl, rfl⟩)
                · rw [if_neg h9] at hq
                  rw [show decide (V.int (max pr.1 pr.2) = V.int 9) = false by simp [h9]]
                  exact iteF ⟨_, rfl, t', pr.1, pr.2, rfl, SqT.of hpr', hq _ _ ⟨rfl, rfl⟩⟩
              · rintro _ _ ⟨rfl, rfl⟩
                refine ⟨_, hU, (by rw [List.length_map, List.length_take]; exact small1000 (by omega)), fun b o e => ?_, ?_⟩
                · rw [upd_ne (ne_of_none e nD3)]
                  exact sX _ _ e
                · rw [upd_same, take_at ep, List.map_append]
                  rfl
          · rintro HT ⟨sT, hD3⟩
            rw [lts] at hD3
            have hD3 : HT D3 = some (.lst ((prs W1 W2).map grV)) := hD3
            have ht1 := sT _ _ ht1
            have ht2 := sT _ _ ht2
            have wx := sT _ _ wx
            have hHT := hHS.same sT
            -- due
            refine ⟨_, rfl, t1, W1.tup, 0, _, rfl, rfl, SqT.of ht1, rfl, (by show 1 ≤ sizeLine; decide), fun ta na => ?_⟩
            have sa := same_upd (o := .tup [.str W1.mode]) na
            have hta : upd HT ta (.tup [.str W1.mode]) ta = some (.tup [.str W1.mode]) := upd_same
            generalize upd HT ta (.tup [.str W1.mode]) = HU at sa hta
            refine ⟨_, rfl, D3, _, rfl, .inl ⟨SqL.of (sa _ _ hD3), fun l nl => ?_⟩⟩
            have sb := same_upd (o := .tup ((prs W1 W2).map grV)) nl
            have hl' : upd HU l (.tup ((prs W1 W2).map grV)) l = some (.tup ((prs W1 W2).map grV)) := upd_same
            generalize upd HU l (.tup ((prs W1 W2).map grV)) = HV at sb hl'
            refine ⟨ta, l, _, _, rfl, rfl, SqT.of (sb _ _ hta), SqT.of hl', (fun z => nomatch z), (by show 4 ≤ sizeLine; decide), (fun z => nomatch z), fun _ tc nc => ?_⟩
            have sc := same_upd (o := .tup ([V.str W1.mode] ++ (prs W1 W2).map grV)) nc
            have hc' : upd HV tc (.tup ([V.str W1.mode] ++ (prs W1 W2).map grV)) tc = some (.tup ([V.str W1.mode] ++ (prs W1 W2).map grV)) := upd_same
            generalize upd HV tc (.tup ([V.str W1.mode] ++ (prs W1 W2).map grV)) = HW at sc hc'
            have sW := (sa.trans sb).trans sc
            refine via_c (fun v H1 => v = .bl (W1.late || W2.late) ∧ HW = H1) (fun Q' hq => ?_) ?_
            · refine ⟨_, rfl, t1, W1.tup, 4, _, rfl, rfl, SqT.of (sW _ _ ht1), rfl, _, rfl, ?_⟩
              cases el : W1.late with
              | true =>
                rw [el] at hq
                exact iteT (hq _ _ ⟨rfl, rfl⟩)
              | false =>
                rw [el] at hq
                exact iteF ⟨_, rfl, t2, W2.tup, 4, _, rfl, rfl, SqT.of (sW _ _ ht2), rfl, hq _ _ ⟨rfl, rfl⟩⟩
            rintro _ _ ⟨rfl, rfl⟩
            refine ⟨(by show 1 ≤ sizeLine; decide), fun td nd' => ?_⟩
            have sd := same_upd (o := .tup [V.bl (W1.late || W2.late)]) nd'
            have hd' : upd HW td (.tup [V.bl (W1.late || W2.late)]) td = some (.tup [V.bl (W1.late || W2.late)]) := upd_same
            generalize upd HW td (.tup [V.bl (W1.late || W2.late)]) = HX at sd hd'
            refine ⟨tc, td, _, _, rfl, rfl, SqT.of (sd _ _ hc'), SqT.of hd', (fun z => nomatch z), (by show 5 ≤ sizeLine; decide), (fun z => nomatch z), fun _ te ne' => ?_⟩
            rw [← join_tup o1 o2]
            have se := same_upd (o := .tup (joinW W1 W2).tup) ne'
            have he' : upd HX te (.tup (joinW W1 W2).tup) te = some (.tup (joinW W1 W2).tup) := upd_same
            generalize upd HX te (.tup (joinW W1 W2).tup) = HY at se he'
            have sY := (sW.trans sd).trans se
            have wx := sY _ _ wx
            have hHY := hHT.same sY
            refine ⟨_, rfl, x, dxx, _, rfl, wx, x, joinW W1 W2, rfl, ⟨dxx, wx⟩, _, rfl, x, dxx, _, rfl, wx, x, joinW W1 W2, rfl, ⟨dxx, wx⟩, _, rfl, x, dxx, _, rfl, wx, x, joinW W1 W2, rfl, ⟨dxx, wx⟩, _, rfl, x, dxx, _, rfl, wx, x, joinW W1 W2, rfl, ⟨dxx, wx⟩,
              _, rfl, x, dxx, _, rfl, wx, x, joinW W1 W2, rfl, ⟨dxx, wx⟩, (by show 5 ≤ sizeLine; decide), fun t8 n8 => ?_⟩
            have sf := same_upd (o := .tup (joinW W1 W2).tup) n8
            refine ⟨_, rfl, t8, te, (joinW W1 W2).tup, rfl, upd_same, sf _ _ he', tup_flat _, (by show 5 ≤ 100; decide), fun HZ sg => ⟨_, rfl, iteF ?_⟩⟩
            have hHR := (hHY.same sf).same sg
            refine ⟨_, rfl, p, q, 3, rfl, by decide, by decide, hHR, fun v HA v0 v1 hHA kA => ?_⟩
            obtain ⟨kk, rfl⟩ : ∃ kk : Nat, v = (kk : Int) := ⟨v.toNat, by omega⟩
            refine ⟨1, rfl, (by show 0 ≤ sizeLine; decide), fun tE nE dE hdE => ⟨(by show 7 ≤ sizeLine; decide), fun lE nlE => ?_⟩⟩
            have sA := same_upd (o := .tup []) nE
            have sB := same_upd (o := .dK []) hdE
            have htE := sB _ _ (upd_same : upd HA tE (.tup []) tE = _)
            have hdE' : upd (upd HA tE (.tup [])) dE (.dK []) dE = some (.dK []) := upd_same
            have nqE := (hHA.same (sA.trans sB)).np nlE
            have sC := same_upd (o := .lst [V.int (-1), .int 4, .bl true, .bl false, .str "1", .ref tE, .ref dE]) nlE
            have htE := sC _ _ htE
            have hdE' := sC _ _ hdE'
            have hlE := (upd_same : upd (upd (upd HA tE (.tup [])) dE (.dK [])) lE (.lst [V.int (-1), .int 4, .bl true, .bl false, .str "1", .ref tE, .ref dE]) lE = _)
            have hHC := hHA.same ((sA.trans sB).trans sC)
            refine ⟨_, rfl, p, q, 7, rfl, by decide, by decide, hHC, fun v' HB v0' v1' hHB kB => ?_⟩
            obtain ⟨o, mo, eo⟩ := pick0 [V.int (-1), .int 4, .bl true, .bl false, .str "1", .ref tE, .ref dE] v' v0' v1'
            have ntE := hHC.nt htE
            have ndE : dE ≠ p ∧ dE ≠ q := by
              obtain ⟨_, _, _, g1, g2, _⟩ := hHC
              exact ⟨ne_of hdE' g1 (by intro z; cases z), ne_of hdE' g2 (by intro z; cases z)⟩
            have htE := kB _ _ htE ntE.1 ntE.2
            have hdE' := kB _ _ hdE' ndE.1 ndE.2
            refine ⟨lE, _, _, o, rfl, rfl, SqL.of (kB _ _ hlE nqE.1 nqE.2), eo, ?_⟩
            obtain ⟨To, hTo, hbo⟩ : ∃ T, TyB K HB o T ∧ bndB o = false := by
              simp only [List.mem_cons, List.not_mem_nil, or_false] at mo
              rcases mo with rfl | rfl | rfl | rfl | rfl | rfl | rfl
              · exact ⟨_, .int _, by decide +kernel⟩
              · exact ⟨_, .int _, by decide +kernel⟩
              · exact ⟨_, .bl _, rfl⟩
              · exact ⟨_, .bl _, rfl⟩
              · exact ⟨_, .str _, rfl⟩
              · exact ⟨_, .tup (SqT.of htE), rfl⟩
              · exact ⟨_, .dK hdE', rfl⟩
            refine ⟨_, rfl, _, rfl, .str "each", o, .bl false, kk, _, To, _, rfl, by omega, .str _, hTo, .bl _, fun HC sC' => ⟨_, rfl, ?_⟩⟩
            rw [ref_num (by omega) hbo]
            refine iteF ?_
            exact ⟨_, _, _, _, _, _, _, _, _, _, _, _, _, _, _, _, _, _, rfl, hHB.same sC'⟩
    · rintro σ H2 ⟨x2, x3, x4, x5, x6, x7, x8, x9, x10, x11, x12, x13, x14, x15, x16, x17, x18, x19, rfl, hH2⟩
      refine ⟨.str "whole", .non, .bl true, 0, _, _, _, rfl, by omega, .str _, .non, .bl _, fun H3 s3 => ⟨_, rfl, ?_⟩⟩
      rw [show refB 0 (.str "whole") .non (.bl true) = false by decide +kernel]
      refine iteF ?_
      refine ⟨.str "each", .int 3, .bl false, 2, _, _, _, rfl, by omega, .str _, .int _, .bl _, fun H4 s4 => ⟨_, rfl, ?_⟩⟩
      rw [show refB 2 (.str "each") (.int 3) (.bl false) = false by decide +kernel]
      refine iteF ?_
      -- odd
      refine ⟨(by show 4 ≤ sizeLine; decide), fun l nl => ⟨l, rfl, ⟨_, SqL.of upd_same⟩, fun D nD => ?_⟩⟩
      have hl : upd H4 l (.lst [V.str "", .str "both", .non, .int 1]) l = some (.lst [V.str "", .str "both", .non, .int 1]) := upd_same
      generalize upd H4 l (.lst [V.str "", .str "both", .non, .int 1]) = H5 at hl nD
      refine lc_list (K := K) (a := l) (xs := [V.str "", .str "both", .non, .int 1]) (fun i H' => Same H5 H' ∧ H' D = some (.lst (List.replicate i (.bl true)))) ⟨same_upd nD, upd_same⟩ (fun i H' _ ⟨sX, _⟩ => SqL.of (sX _ _ hl)) ?_ ?_
      · rintro i x H' hx ⟨sX, hD⟩
        obtain ⟨hi4, hm, Tx, hTx⟩ := odd_mode (K := K) (H := H') hx
        refine ⟨rfl, yes_read ?_⟩
        refine ⟨_, rfl, x, .int 0, .bl false, 0, Tx, _, _, rfl, by omega, hTx, .int _, .bl _, fun H6 s6 => ?_⟩
        rw [ref_mode hm]
        refine ⟨_, s6 _ _ hD, (by rw [List.length_replicate]; exact small1000 (by omega)), fun b o e => ?_, by rw [upd_same, rep_snoc]⟩
        rw [upd_ne (ne_of_none e nD)]
        exact s6 _ _ (sX _ _ e)
      · rintro H6 ⟨sX, hD⟩
        have hD : H6 D = some (.lst (List.replicate 4 (.bl true))) := hD
        refine ⟨_, rfl, (by show 4 ≤ sizeLine; decide), fun l' nl' => ⟨l', rfl, ⟨_, SqL.of upd_same⟩, fun D' nD' => ?_⟩⟩
        have hl' : upd H6 l' (.lst [V.int 1, .int 0, .non, .str "x"]) l' = some (.lst [V.int 1, .int 0, .non, .str "x"]) := upd_same
        have hD := same_upd (o := .lst [V.int 1, .int 0, .non, .str "x"]) nl' _ _ hD
        generalize upd H6 l' (.lst [V.int 1, .int 0, .non, .str "x"]) = H7 at hl' nD' hD
        refine lc_list (K := K) (a := l') (xs := [V.int 1, .int 0, .non, .str "x"]) (fun i H' => Same H7 H' ∧ H' D' = some (.lst (List.replicate i (.bl true)))) ⟨same_upd nD', upd_same⟩ (fun i H' _ ⟨sY, _⟩ => SqL.of (sY _ _ hl')) ?_ ?_
        · rintro i x H' hx ⟨sY, hE⟩
          obtain ⟨hi4, hm, Tx, hTx⟩ := odd_late (K := K) (H := H') hx
          refine ⟨rfl, yes_read ?_⟩
          refine ⟨_, rfl, .str "each", .int 0, x, 1, _, _, Tx, rfl, by omega, .str _, .int _, hTx, fun H8 s8 => ?_⟩
          rw [ref_late hm]
          refine ⟨_, s8 _ _ hE, (by rw [List.length_replicate]; exact small1000 (by omega)), fun b o e => ?_, by rw [upd_same, rep_snoc]⟩
          rw [upd_ne (ne_of_none e nD')]
          exact s8 _ _ (sY _ _ e)
        · rintro H8 ⟨sY, hE⟩
          have hE : H8 D' = some (.lst (List.replicate 4 (.bl true))) := hE
          refine ⟨D, D', _, _, rfl, rfl, sY _ _ hD, hE, (by show 8 ≤ sizeLine; decide), fun r nr => ?_⟩
          have hr' : upd H8 r (.lst (List.replicate 4 (V.bl true) ++ List.replicate 4 (V.bl true))) r = some (.lst (List.replicate 8 (V.bl true))) := upd_same
          generalize upd H8 r (.lst (List.replicate 4 (V.bl true) ++ List.replicate 4 (V.bl true))) = H9 at hr'
          -- World()
          intro x dx nx ndx nex
          have sx : Same H9 (upd (upd H9 dx (.own x)) x (.ins C dx [])) := fun b o e => by
            rw [upd_ne (ne_of_none e nx), upd_ne (ne_of_none e ndx)]
            exact e
          refine init_use (Wn' := W0) upd_same W0_ok fun H' e1 e2 => ⟨rfl, ?_⟩
          have sx' : Same H9 H' := fun b o e => by
            rw [e2 b (ne_of_none e nx)]
            exact sx _ _ e
          have hr' := sx' _ _ hr'
          have wx := e1
          refine ⟨_, rfl, x, dx, _, rfl, wx, x, W0, rfl, ⟨dx, wx⟩, _, rfl, x, dx, _, rfl, wx, x, W0, rfl, ⟨dx, wx⟩, _, rfl, x, dx, _, rfl, wx, x, W0, rfl, ⟨dx, wx⟩, _, rfl, x, dx, _, rfl, wx, x, W0, rfl, ⟨dx, wx⟩,
            _, rfl, x, dx, _, rfl, wx, x, W0, rfl, ⟨dx, wx⟩, (by show 5 ≤ sizeLine; decide), fun t8 n8 => ⟨(by show 5 ≤ sizeLine; decide), fun t9 n9 => ?_⟩⟩
          have sf := same_upd (o := .tup W0.tup) n8
          have sg := same_upd (o := .tup W0.tup) n9
          refine ⟨_, _, dp_tup (W := W0) (sg _ _ upd_same), dp_tup (W := W0) upd_same, shaped_data W0_ok, shaped_data W0_ok, _, rfl, ?_⟩
          rw [eqv_data, decide_eq_true rfl]
          refine iteF ?_
          have hr' := sg _ _ (sf _ _ hr')
          refine ⟨_, rfl, (by show 1 ≤ sizeLine; decide), fun l1 n1 => ⟨l1, 8, _, rfl, rfl, upd_same, by decide, by decide, (by show 8 ≤ sizeLine; decide), fun l2 n2 => ?_⟩⟩
          have hr' := (same_upd (o := .lst [V.bl true]) n1) _ _ hr'
          have hr' := fun o => same_upd (o := o) n2 _ _ hr'
          refine ⟨_, _, (.lst (SqL.of (hr' _)) (dp_trues 8)), .lst (ds := List.replicate 8 (PyData.bool true)) (SqL.of upd_same) (dp_trues 8), shape_trues, shape_trues, ?_⟩
          rw [eqv_trues]
          exact k _
end
end W3
namespace W3
open PySem L2
theorem wn_mk {K : PySem.W.Frag} {C f : Addr} {fd : FuncData} (F : FunD K "__init__" "World.__init__" (defArgs s_World_init) (defBody s_World_init) (defScope s_World_init) [.str "each"] [("lost", .int 0), ("breaks", .int 0), ("fails", .non), ("late", .bl false)] f fd) (M : Mk K C f) : Wn K C f fd := by
  refine ⟨F, M, ?_, ?_⟩
  · obtain ⟨its, mv, h⟩ := F.kbinds (ps := ["self", "mode", "lost", "breaks", "fails", "late"]) 2 ["lost", "breaks", "fails", "late"] [] (fun us _ _ ws => us ++ ws) (by intro z; cases z) (by intro z; cases z) (by intro q hq; cases hq) (fun r1 _ _ r4 => r1.append r4)
      (fun T D doc pm an cdv ct us its mv ws h1 h2 h3 h4 => match us, its, mv, ws, h1, h2, h3, h4 with
        | [_, _], [_], [], [_, _, _, _], _, _, _, _ => ⟨_, rfl, rfl⟩)
    exact h
  · obtain ⟨ds, h1, h2⟩ := F.binds (ps := ["self", "mode", "lost", "breaks", "fails", "late"]) 1 0 (by intro z; cases z) rfl
      (fun T D doc pm an cdv ct us its ks h1 h2 h3 => match us, its, ks, h1, h2, h3 with
        | [_], [_], [_, _, _, _], _, _, _ => ⟨_, rfl, _, _, _, _, _, _, rfl, rfl, _, _, _, _, _, _, rfl, rfl, _, _, _, _, _, _, rfl, rfl, _, _, _, _, _, _, rfl, rfl, rfl⟩) (by intro z; cases z)
    exact ⟨ds, h1, h2⟩
end W3
namespace W3
open PySem L2
theorem with_dn {K : PySem.W.Frag} {h : Heap} {mg : Str → Option Value} {x : Str} {st : Stmt} {ps : List Str} {f : Addr} {od an : Option Addr} {sl : Array (Option Value)} {oc kV dc pm cd ct : Value} {R : Prop} (X : K.In h) (G : h.Ns mainGlobals mg)
    (a : PySem.W.nsIn K mainGlobals x = some (some (.ref f))) (l : K.lookup f = some ⟨oc, od, .func (PySem.W.fnOf x x (defArgs st) (defBody st) (defScope st) .none kV dc pm an cd ct), sl⟩) (c : PySem.W.codeIn K cd x = true) (k : PySem.W.keepIn K (.ref f) = true)
    (b : ∀ fd, Fun K x x st f fd → Binds K fd ps []) (rest : ∀ f fd, Dn K mg x st ps f fd → R) : R :=
  rest f _ ⟨fun_mk l c k, PySem.W.mg_of X G a, b _ (fun_mk l c k)⟩
theorem kit_mk {K : PySem.W.Frag} {C : Addr} {t : Value} {b : Bool} (h1 : PySem.W.isClsIn K C = true) (h2 : PySem.W.typeIn K (.ref C) = some (.type "type")) (h3 : (t == .ref C) = false) (h4 : PySem.W.subIn K t (.ref C) = some b) : PySem.W.kitOne K t (.ref C) = some b := by
  have h1' : (PySem.W.clsIn K C).isSome = true := h1
  unfold PySem.W.kitOne PySem.W.kitCls
  rw [h3, if_neg Bool.false_ne_true]
  show (if ((PySem.W.clsIn K C).isSome && PySem.W.typeIn K (.ref C) == some (.type "type")) = true then PySem.W.subIn K t (.ref C) else none) = some b
  rw [h1', h2, if_pos (by decide)]
  exact h4
theorem law_binds {K : PySem.W.Frag} {f : Addr} {fd : FuncData} (F : Fun K "law" "law" s_law f fd) : ∀ (s : Shared) (v : Value), BindsTo s fd ⟨[v], []⟩ [("_law_script", v)] := by
  obtain ⟨oc, od, kV, doc, pm, an, cdv, ct, osl, rfl, _, _⟩ := F.ex
  exact fun s v => .of_eq rfl
/-- what the top has written of the classes and constants -/
structure Wall (K : PySem.W.Frag) (mg : Str → Option Value) (C CI CE CA fI fe fo fm p1 p2 p3 p4 p5 g1 g2 g3 g4 g5 : Addr) (fdI fde fdo fdm gd1 gd2 gd3 gd4 gd5 : FuncData) : Prop where
  T : Bi mg
  G : Cs K mg
  W : Wc K mg C
  Wi : Wi K C
  X : Xc K mg "InvalidWorld" CI
  I : Wn K C fI fdI
  XE : Xc K mg "WorldError" CE
  XEd : PySem.W.hasDictIn K CE = true
  XEs : PySem.W.subIn K (.ref CE) (.ref CE) = some true
  XI : Xk K CI CA
  gA : mg "AnswerError" = some (.ref CA)
  O : Wo K C fo fdo
  E : Wm K C "__eq__" "World.__eq__" s_World_eq ["self", "other"] fe fde
  Et : PySem.W.notFirst K C (.type "tuple") = true
  mi : Wm K C "is_milder" "World.is_milder" s_World_is_milder ["self", "other"] fm fdm
  P1 : Wp K C "mode" "World.mode" s_World_mode p1 g1 gd1
  P2 : Wp K C "lost" "World.lost" s_World_lost p2 g2 gd2
  P3 : Wp K C "breaks" "World.breaks" s_World_breaks p3 g3 gd3
  P4 : Wp K C "fails" "World.fails" s_World_fails p4 g4 gd4
  P5 : Wp K C "late" "World.late" s_World_late p5 g5 gd5
theorem with_wall {K : PySem.W.Frag} {h : Heap} {mg : Str → Option Value} {R : Prop} {C CI CE CA fI TD KD : Addr} {oI : Obj} {itsI : List Value} {nI : Nat} {uI1 uI2 uI3 uI4 : Value} {odI anI : Option Addr} {slI : Array (Option Value)} {ocI dcI pmI cdI ctI : Value} {fe : Addr} {ode ane : Option Addr} {sle : Array (Option Value)} {oce kVe dce pme cde cte : Value} {fo : Addr} {odo ano : Option Addr} {slo : Array (Option Value)} {oco kVo dco pmo cdo cto : Value} {fm : Addr} {odm anm : Option Addr} {slm : Array (Option Value)} {ocm kVm dcm pmm cdm ctm : Value} {Pp1 fp1 : Addr} {odp1 anp1 : Option Addr} {slp1 : Array (Option Value)} {ocp1 kVp1 dcp1 pmp1 cdp1 ctp1 : Value} {rep1 : List Value} {Pp2 fp2 : Addr} {odp2 anp2 : Option Addr} {slp2 : Array (Option Value)} {ocp2 kVp2 dcp2 pmp2 cdp2 ctp2 : Value} {rep2 : List Value} {Pp3 fp3 : Addr} {odp3 anp3 : Option Addr} {slp3 : Array (Option Value)} {ocp3 kVp3 dcp3 pmp3 cdp3 ctp3 : Value} {rep3 : List Value} {Pp4 fp4 : Addr} {odp4 anp4 : Option Addr} {slp4 : Array (Option Value)} {ocp4 kVp4 dcp4 pmp4 cdp4 ctp4 : Value} {rep4 : List Value} {Pp5 fp5 : Addr} {odp5 anp5 : Option Addr} {slp5 : Array (Option Value)} {ocp5 kVp5 dcp5 pmp5 cdp5 ctp5 : Value} {rep5 : List Value} {aM : Addr} {oM : Obj} {itsM : Array Value} {nM : Nat} {tM : Tok} (X : K.In h) (G : h.Ns mainGlobals mg)
    (aC : PySem.W.nsIn K mainGlobals "World" = some (some (.ref C)))
    (pg : PySem.W.plainGet K C Str.empty = true)
    (hd : PySem.W.hasDictIn K C = true)
    (po : PySem.W.plainOver K C = true)
    (sa : PySem.W.findIn K (.ref C) "__setattr__" = some (some (.builtin "object.__setattr__")))
    (n1 : PySem.W.findIn K (.ref C) "_mode" = some none)
    (n2 : PySem.W.findIn K (.ref C) "_lost" = some none)
    (n3 : PySem.W.findIn K (.ref C) "_breaks" = some none)
    (n4 : PySem.W.findIn K (.ref C) "_fails" = some none)
    (n5 : PySem.W.findIn K (.ref C) "_late" = some none)
    (ha : PySem.W.findIn K (.ref C) "__class__" = some (some (.builtin "object.__class__")))
    (hn : PySem.W.specialIn K (.builtin "object.__class__") "__get__" = some (some (.builtin "getset_descriptor.__get__")))
    (htk : PySem.W.takesIn K (.builtin "object.__class__") = some true)
    (hm : PySem.W.mroIn K C (.type "object") = some true)
    (kT1 : PySem.W.isClsIn K C = true)
    (kT2 : PySem.W.typeIn K (.ref C) = some (.type "type"))
    (kT4 : PySem.W.subIn K (.type "tuple") (.ref C) = some false)
    (mk : PySem.W.makesIn K C = true)
    (kc : PySem.W.keepIn K (.ref C) = true)
    (nF : PySem.W.notFirst K C (.type "tuple") = true)
    (sF : PySem.W.selfFirst K C = true)
    (aI : PySem.W.findIn K (.ref C) "__init__" = some (some (.ref fI)))
    (iI : PySem.W.isFn K (.ref fI) = true)
    (lI : K.lookup fI = some ⟨ocI, odI, .func (PySem.W.fnOf "__init__" "World.__init__" (defArgs s_World_init) (defBody s_World_init) (defScope s_World_init) (.ref TD) (.ref KD) dcI pmI anI cdI ctI), slI⟩)
    (cI : PySem.W.codeIn K cdI "World.__init__" = true)
    (kI : PySem.W.keepIn K (.ref fI) = true)
    (tI : K.lookup TD = some oI)
    (dI : oI.data = .seq itsI.toArray nI)
    (vI : Vals [V.str "each"] itsI)
    (q1 : PySem.W.nsIn K KD "lost" = some (some uI1))
    (r1 : RelV (.int 0) uI1)
    (q2 : PySem.W.nsIn K KD "breaks" = some (some uI2))
    (r2 : RelV (.int 0) uI2)
    (q3 : PySem.W.nsIn K KD "fails" = some (some uI3))
    (r3 : RelV (.non) uI3)
    (q4 : PySem.W.nsIn K KD "late" = some (some uI4))
    (r4 : RelV (.bl false) uI4)
    (ae : PySem.W.findIn K (.ref C) "__eq__" = some (some (.ref fe)))
    (ie : PySem.W.isFn K (.ref fe) = true)
    (le : K.lookup fe = some ⟨oce, ode, .func (PySem.W.fnOf "__eq__" "World.__eq__" (defArgs s_World_eq) (defBody s_World_eq) (defScope s_World_eq) .none kVe dce pme ane cde cte), sle⟩)
    (ce : PySem.W.codeIn K cde "World.__eq__" = true)
    (ke : PySem.W.keepIn K (.ref fe) = true)
    (ao : PySem.W.findIn K (.ref C) "__or__" = some (some (.ref fo)))
    (io : PySem.W.isFn K (.ref fo) = true)
    (lo : K.lookup fo = some ⟨oco, odo, .func (PySem.W.fnOf "__or__" "World.__or__" (defArgs s_World_or) (defBody s_World_or) (defScope s_World_or) .none kVo dco pmo ano cdo cto), slo⟩)
    (co : PySem.W.codeIn K cdo "World.__or__" = true)
    (ko : PySem.W.keepIn K (.ref fo) = true)
    (am : PySem.W.findIn K (.ref C) "is_milder" = some (some (.ref fm)))
    (im : PySem.W.isFn K (.ref fm) = true)
    (lm : K.lookup fm = some ⟨ocm, odm, .func (PySem.W.fnOf "is_milder" "World.is_milder" (defArgs s_World_is_milder) (defBody s_World_is_milder) (defScope s_World_is_milder) .none kVm dcm pmm anm cdm ctm), slm⟩)
    (cm : PySem.W.codeIn K cdm "World.is_milder" = true)
    (km : PySem.W.keepIn K (.ref fm) = true)
    (bp1 : PySem.W.findIn K (.ref C) "mode" = some (some (.ref Pp1)))
    (gp1 : PySem.W.specialIn K (.ref Pp1) "__get__" = some (some (.builtin "property.__get__")))
    (tp1 : PySem.W.takesIn K (.ref Pp1) = some true)
    (ep1 : PySem.W.recIn K Pp1 "property" = some (.ref fp1 :: rep1))
    (lp1 : K.lookup fp1 = some ⟨ocp1, odp1, .func (PySem.W.fnOf "mode" "World.mode" (defArgs s_World_mode) (defBody s_World_mode) (defScope s_World_mode) .none kVp1 dcp1 pmp1 anp1 cdp1 ctp1), slp1⟩)
    (cp1 : PySem.W.codeIn K cdp1 "World.mode" = true)
    (kp1 : PySem.W.keepIn K (.ref fp1) = true)
    (bp2 : PySem.W.findIn K (.ref C) "lost" = some (some (.ref Pp2)))
    (gp2 : PySem.W.specialIn K (.ref Pp2) "__get__" = some (some (.builtin "property.__get__")))
    (tp2 : PySem.W.takesIn K (.ref Pp2) = some true)
    (ep2 : PySem.W.recIn K Pp2 "property" = some (.ref fp2 :: rep2))
    (lp2 : K.lookup fp2 = some ⟨ocp2, odp2, .func (PySem.W.fnOf "lost" "World.lost" (defArgs s_World_lost) (defBody s_World_lost) (defScope s_World_lost) .none kVp2 dcp2 pmp2 anp2 cdp2 ctp2), slp2⟩)
    (cp2 : PySem.W.codeIn K cdp2 "World.lost" = true)
    (kp2 : PySem.W.keepIn K (.ref fp2) = true)
    (bp3 : PySem.W.findIn K (.ref C) "breaks" = some (some (.ref Pp3)))
    (gp3 : PySem.W.specialIn K (.ref Pp3) "__get__" = some (some (.builtin "property.__get__")))
    (tp3 : PySem.W.takesIn K (.ref Pp3) = some true)
    (ep3 : PySem.W.recIn K Pp3 "property" = some (.ref fp3 :: rep3))
    (lp3 : K.lookup fp3 = some ⟨ocp3, odp3, .func (PySem.W.fnOf "breaks" "World.breaks" (defArgs s_World_breaks) (defBody s_World_breaks) (defScope s_World_breaks) .none kVp3 dcp3 pmp3 anp3 cdp3 ctp3), slp3⟩)
    (cp3 : PySem.W.codeIn K cdp3 "World.breaks" = true)
    (kp3 : PySem.W.keepIn K (.ref fp3) = true)
    (bp4 : PySem.W.findIn K (.ref C) "fails" = some (some (.ref Pp4)))
    (gp4 : PySem.W.specialIn K (.ref Pp4) "__get__" = some (some (.builtin "property.__get__")))
    (tp4 : PySem.W.takesIn K (.ref Pp4) = some true)
    (ep4 : PySem.W.recIn K Pp4 "property" = some (.ref fp4 :: rep4))
    (lp4 : K.lookup fp4 = some ⟨ocp4, odp4, .func (PySem.W.fnOf "fails" "World.fails" (defArgs s_World_fails) (defBody s_World_fails) (defScope s_World_fails) .none kVp4 dcp4 pmp4 anp4 cdp4 ctp4), slp4⟩)
    (cp4 : PySem.W.codeIn K cdp4 "World.fails" = true)
    (kp4 : PySem.W.keepIn K (.ref fp4) = true)
    (bp5 : PySem.W.findIn K (.ref C) "late" = some (some (.ref Pp5)))
    (gp5 : PySem.W.specialIn K (.ref Pp5) "__get__" = some (some (.builtin "property.__get__")))
    (tp5 : PySem.W.takesIn K (.ref Pp5) = some true)
    (ep5 : PySem.W.recIn K Pp5 "property" = some (.ref fp5 :: rep5))
    (lp5 : K.lookup fp5 = some ⟨ocp5, odp5, .func (PySem.W.fnOf "late" "World.late" (defArgs s_World_late) (defBody s_World_late) (defScope s_World_late) .none kVp5 dcp5 pmp5 anp5 cdp5 ctp5), slp5⟩)
    (cp5 : PySem.W.codeIn K cdp5 "World.late" = true)
    (kp5 : PySem.W.keepIn K (.ref fp5) = true)
    (aCI : PySem.W.nsIn K mainGlobals "InvalidWorld" = some (some (.ref CI)))
    (xCI : PySem.W.excIn K CI [.type "ValueError", .type "Exception", .type "BaseException", .type "object"] "ValueError.__new__" = true)
    (kCI : PySem.W.keepIn K (.ref CI) = true)
    (bCI : PySem.W.subIn K (.ref CI) (.type "BaseException") = some true)
    (tCI : PySem.W.typeIn K (.ref CI) = some (.type "type"))
    (dCI : PySem.W.hasDictIn K CI = true)
    (sCI : PySem.W.subIn K (.ref CI) (.ref CI) = some true)
    (aCE : PySem.W.nsIn K mainGlobals "WorldError" = some (some (.ref CE)))
    (xCE : PySem.W.excIn K CE [.type "ValueError", .type "Exception", .type "BaseException", .type "object"] "ValueError.__new__" = true)
    (kCE : PySem.W.keepIn K (.ref CE) = true)
    (bCE : PySem.W.subIn K (.ref CE) (.type "BaseException") = some true)
    (tCE : PySem.W.typeIn K (.ref CE) = some (.type "type"))
    (dCE : PySem.W.hasDictIn K CE = true)
    (sCE : PySem.W.subIn K (.ref CE) (.ref CE) = some true)
    (aCA : PySem.W.nsIn K mainGlobals "AnswerError" = some (some (.ref CA)))
    (zg : PySem.W.findIn K (.ref CI) "__getattribute__" = some (some (.builtin "BaseException.__getattribute__")))
    (zk : PySem.W.findIn K (.ref CI) "__getattr__" = some none)
    (za : PySem.W.findIn K (.ref CI) "__class__" = some (some (.builtin "object.__class__")))
    (zm : PySem.W.mroIn K CI (.type "object") = some true)
    (zA1 : PySem.W.isClsIn K CA = true)
    (zA2 : PySem.W.typeIn K (.ref CA) = some (.type "type"))
    (zA3 : (Value.ref CI == Value.ref CA) = false)
    (zA4 : PySem.W.subIn K (.ref CI) (.ref CA) = some true)
    (aM_ : PySem.W.nsIn K mainGlobals "MODES" = some (some (.ref aM)))
    (lM : K.lookup aM = some oM)
    (clM : oM.cls = .type "tuple")
    (dM : oM.data = .seq itsM nM)
    (szM : itsM.size ≤ sizeLine)
    (vM : Vals [V.str "each", .str "whole"] itsM.toList)
    (aT : PySem.W.nsIn K mainGlobals "MOST_TIMES" = some (some (.int 3 tM)))
    (z_type : PySem.W.nsIn K mainGlobals "type" = some none)
    (z_int : PySem.W.nsIn K mainGlobals "int" = some none)
    (z_str : PySem.W.nsIn K mainGlobals "str" = some none)
    (z_bool : PySem.W.nsIn K mainGlobals "bool" = some none)
    (z_dict : PySem.W.nsIn K mainGlobals "dict" = some none)
    (z_list : PySem.W.nsIn K mainGlobals "list" = some none)
    (z_tuple : PySem.W.nsIn K mainGlobals "tuple" = some none)
    (z_len : PySem.W.nsIn K mainGlobals "len" = some none)
    (z_range : PySem.W.nsIn K mainGlobals "range" = some none)
    (z_max : PySem.W.nsIn K mainGlobals "max" = some none)
    (z_isinstance : PySem.W.nsIn K mainGlobals "isinstance" = some none)
    (rest : ∀ C CI CE CA fI fe fo fm p1 p2 p3 p4 p5 g1 g2 g3 g4 g5 fdI fde fdo fdm gd1 gd2 gd3 gd4 gd5, Wall K mg C CI CE CA fI fe fo fm p1 p2 p3 p4 p5 g1 g2 g3 g4 g5 fdI fde fdo fdm gd1 gd2 gd3 gd4 gd5 → R) : R := by
  have Fe := fun_mk (st := s_World_eq) le ce ke
  have Fo := fun_mk (st := s_World_or) lo co ko
  have Fm := fun_mk (st := s_World_is_milder) lm cm km
  have Fp1 := fun_mk (st := s_World_mode) lp1 cp1 kp1
  have Fp2 := fun_mk (st := s_World_lost) lp2 cp2 kp2
  have Fp3 := fun_mk (st := s_World_breaks) lp3 cp3 kp3
  have Fp4 := fun_mk (st := s_World_fails) lp4 cp4 kp4
  have Fp5 := fun_mk (st := s_World_late) lp5 cp5 kp5
  have none := fun {x : Str} (z : PySem.W.nsIn K mainGlobals x = some none) => PySem.W.mg_none_of X G z
  have cl : Cls K C := ⟨pg, hd, po, sa⟩
  have FI : FunD K "__init__" "World.__init__" (defArgs s_World_init) (defBody s_World_init) (defScope s_World_init) [.str "each"] [("lost", .int 0), ("breaks", .int 0), ("fails", .non), ("late", .bl false)] fI _ :=
    ⟨⟨_, _, _, _, _, _, _, _, _, _, rfl, lI, cI, .inr ⟨(fun z => nomatch z), TD, oI, itsI, nI, rfl, tI, dI, vI⟩, .inr ⟨KD, rfl, fun q hq => by
      rcases List.mem_cons.mp hq with rfl | hq
      · exact ⟨_, q1, r1⟩
      rcases List.mem_cons.mp hq with rfl | hq
      · exact ⟨_, q2, r2⟩
      rcases List.mem_cons.mp hq with rfl | hq
      · exact ⟨_, q3, r3⟩
      rcases List.mem_cons.mp hq with rfl | hq
      · exact ⟨_, q4, r4⟩
      · cases hq⟩⟩, kI⟩
  exact rest C CI CE CA fI fe fo fm Pp1 Pp2 Pp3 Pp4 Pp5 fp1 fp2 fp3 fp4 fp5 _ _ _ _ _ _ _ _ _
    { T := ⟨none z_type, none z_int, none z_str, none z_bool, none z_dict, none z_list, none z_tuple, none z_len, none z_range, none z_max, none z_isinstance⟩
      G := ⟨⟨aM, PySem.W.mg_of X G aM_, fun H => .inr ⟨oM, itsM, nM, lM, clM, dM, szM, vM⟩⟩, ⟨tM, PySem.W.mg_of X G aT⟩⟩
      W := ⟨cl, n1, n2, n3, n4, n5, PySem.W.mg_of X G aC⟩
      Wi := ⟨ha, hn, htk, hm, kit_mk kT1 kT2 rfl kT4⟩
      X := ⟨PySem.W.mg_of X G aCI, xCI, kCI, bCI, tCI⟩
      I := wn_mk FI ⟨mk, aI, iI, kc⟩
      XE := ⟨PySem.W.mg_of X G aCE, xCE, kCE, bCE, tCE⟩
      XEd := dCE
      XEs := sCE
      XI := ⟨⟨zg, zk, bCI, dCI, za, hn, htk, zm⟩, kit_mk zA1 zA2 zA3 zA4, sCI⟩
      gA := PySem.W.mg_of X G aCA
      O := ⟨⟨Fo, Fo.binds (ps := ["self", "other"]) (fun _ _ _ _ _ _ us hl => match us, hl with | [_, _], _ => rfl), ao, io⟩, sF⟩
      E := ⟨Fe, Fe.binds (ps := ["self", "other"]) (fun _ _ _ _ _ _ us hl => match us, hl with | [_, _], _ => rfl), ae, ie⟩
      Et := nF
      mi := ⟨Fm, Fm.binds (ps := ["self", "other"]) (fun _ _ _ _ _ _ us hl => match us, hl with | [_, _], _ => rfl), am, im⟩
      P1 := ⟨Fp1, Fp1.binds (ps := ["self"]) (fun _ _ _ _ _ _ us hl => match us, hl with | [_], _ => rfl), ⟨bp1, gp1, tp1, ⟨_, ep1⟩⟩⟩
      P2 := ⟨Fp2, Fp2.binds (ps := ["self"]) (fun _ _ _ _ _ _ us hl => match us, hl with | [_], _ => rfl), ⟨bp2, gp2, tp2, ⟨_, ep2⟩⟩⟩
      P3 := ⟨Fp3, Fp3.binds (ps := ["self"]) (fun _ _ _ _ _ _ us hl => match us, hl with | [_], _ => rfl), ⟨bp3, gp3, tp3, ⟨_, ep3⟩⟩⟩
      P4 := ⟨Fp4, Fp4.binds (ps := ["self"]) (fun _ _ _ _ _ _ us hl => match us, hl with | [_], _ => rfl), ⟨bp4, gp4, tp4, ⟨_, ep4⟩⟩⟩
      P5 := ⟨Fp5, Fp5.binds (ps := ["self"]) (fun _ _ _ _ _ _ us hl => match us, hl with | [_], _ => rfl), ⟨bp5, gp5, tp5, ⟨_, ep5⟩⟩⟩ }
theorem walk {l : PySem.W.OpenLaw} {q : Program} {loose : List Str} {XP : (Str → Option Value) → Heap → Prop} {YP : World → Heap → Prop} {d : DefRec} {K : Params → PySem.W.Frag} (hn : l.most = some 63) (hdf : d.params.defaults = [])
    (hY : ∀ (w : World) (h : Heap), YP w h → (K w.params).In h)
    (F : ∀ (w : World) (mg : Str → Option Value) (fa : Addr) (h : Heap), (K w.params).In h → h.Ns mainGlobals mg → mg d.name = some (.ref fa) →
      ∃ fd : FuncData, (∀ (s : Shared) (u : Value), BindsTo s fd ⟨[u], []⟩ [("_law_script", u)]) ∧ ∀ base : Heap, (K w.params).In base → base.Ns mainGlobals mg → FnOk l.prog w (K w.params) mg base CX0 8 fa fd ["_law_script"] (spLaw (K w.params))) :
    PySem.W.WalkO q loose XP YP l.row.toRowW d [] (fun f vs => PySem.call f vs) :=
  L2.walk_of (n := 63) (k := 8) (x := "_law_script") (CX := fun _ => CX0) (sp := fun w => spLaw (K w.params)) hn (by decide) hdf ⟨rfl, by decide, by decide⟩ hY F (fun _ _ a ns hl _ hS => ⟨a, ns, rfl, hS, hl, fun _ => rfl⟩) fun _ _ _ _ _ z => z
end W3
open PySem PySem.W PyProof.Rows
set_option maxRecDepth 100000 in
set_option maxHeartbeats 0 in
theorem PySem.Challenge.cw_answerparts_k03_worlds_holds : PySem.Challenge.rw_answerparts_k03_worlds.Holds := by
  w_on; o_law; k_head; (case hw => w_witness2)
  k_fill
  refine W3.walk (l := PySem.Challenge.rw_answerparts_k03_worlds) rfl rfl (fun w h Y => PySem.W.kIn_of Y) ?F
  case F =>
    intro w mg fa h KX G hmg
    refine' W3.with_dn (x := "is_number") (st := W3.s_is_number) (ps := ["value", "most"]) KX G ?a_is_number ?l_is_number ?c_is_number ?k_is_number (fun fd F => F.binds (ps := ["value", "most"]) fun _ _ _ _ _ _ us hl => match us, hl with | [_, _], _ => rfl) ?_
    (case a_is_number => k_is); (case l_is_number => k_is); (case c_is_number => k_is); (case k_is_number => k_is)
    intro f_is_number d_is_number D_is_number
    refine' W3.with_dn (x := "is_mode") (st := W3.s_is_mode) (ps := ["value"]) KX G ?a_is_mode ?l_is_mode ?c_is_mode ?k_is_mode (fun fd F => F.binds (ps := ["value"]) fun _ _ _ _ _ _ us hl => match us, hl with | [_], _ => rfl) ?_
    (case a_is_mode => k_is); (case l_is_mode => k_is); (case c_is_mode => k_is); (case k_is_mode => k_is)
    intro f_is_mode d_is_mode D_is_mode
    refine' W3.with_dn (x := "is_bound") (st := W3.s_is_bound) (ps := ["value"]) KX G ?a_is_bound ?l_is_bound ?c_is_bound ?k_is_bound (fun fd F => F.binds (ps := ["value"]) fun _ _ _ _ _ _ us hl => match us, hl with | [_], _ => rfl) ?_
    (case a_is_bound => k_is); (case l_is_bound => k_is); (case c_is_bound => k_is); (case k_is_bound => k_is)
    intro f_is_bound d_is_bound D_is_bound
    refine' W3.with_dn (x := "is_at_most") (st := W3.s_is_at_most) (ps := ["one", "other"]) KX G ?a_is_at_most ?l_is_at_most ?c_is_at_most ?k_is_at_most (fun fd F => F.binds (ps := ["one", "other"]) fun _ _ _ _ _ _ us hl => match us, hl with | [_, _], _ => rfl) ?_
    (case a_is_at_most => k_is); (case l_is_at_most => k_is); (case c_is_at_most => k_is); (case k_is_at_most => k_is)
    intro f_is_at_most d_is_at_most D_is_at_most
    refine' W3.with_dn (x := "greater_bound") (st := W3.s_greater_bound) (ps := ["one", "other"]) KX G ?a_greater_bound ?l_greater_bound ?c_greater_bound ?k_greater_bound (fun fd F => F.binds (ps := ["one", "other"]) fun _ _ _ _ _ _ us hl => match us, hl with | [_, _], _ => rfl) ?_
    (case a_greater_bound => k_is); (case l_greater_bound => k_is); (case c_greater_bound => k_is); (case k_greater_bound => k_is)
    intro f_greater_bound d_greater_bound D_greater_bound
    refine' W3.with_dn (x := "_law_mix") (st := W3.s_law_mix) (ps := ["_law_script", "_law_seed"]) KX G ?a_law_mix ?l_law_mix ?c_law_mix ?k_law_mix (fun fd F => F.binds (ps := ["_law_script", "_law_seed"]) fun _ _ _ _ _ _ us hl => match us, hl with | [_, _], _ => rfl) ?_
    (case a_law_mix => k_is); (case l_law_mix => k_is); (case c_law_mix => k_is); (case k_law_mix => k_is)
    intro f_law_mix d_law_mix D_law_mix
    refine' W3.with_dn (x := "_law_next") (st := W3.s_law_next) (ps := ["_law_h", "_law_cap"]) KX G ?a_law_next ?l_law_next ?c_law_next ?k_law_next (fun fd F => F.binds (ps := ["_law_h", "_law_cap"]) fun _ _ _ _ _ _ us hl => match us, hl with | [_, _], _ => rfl) ?_
    (case a_law_next => k_is); (case l_law_next => k_is); (case c_law_next => k_is); (case k_law_next => k_is)
    intro f_law_next d_law_next D_law_next
    refine' W3.with_dn (x := "_law_alike") (st := W3.s_law_alike) (ps := ["_law_found", "_law_due"]) KX G ?a_law_alike ?l_law_alike ?c_law_alike ?k_law_alike (fun fd F => F.binds (ps := ["_law_found", "_law_due"]) fun _ _ _ _ _ _ us hl => match us, hl with | [_, _], _ => rfl) ?_
    (case a_law_alike => k_is); (case l_law_alike => k_is); (case c_law_alike => k_is); (case k_law_alike => k_is)
    intro f_law_alike d_law_alike D_law_alike
    refine' W3.with_dn (x := "_law_world") (st := W3.s_law_world) (ps := ["_law_h"]) KX G ?a_law_world ?l_law_world ?c_law_world ?k_law_world (fun fd F => F.binds (ps := ["_law_h"]) fun _ _ _ _ _ _ us hl => match us, hl with | [_], _ => rfl) ?_
    (case a_law_world => k_is); (case l_law_world => k_is); (case c_law_world => k_is); (case k_law_world => k_is)
    intro f_law_world d_law_world D_law_world
    refine' W3.with_dn (x := "_law_made") (st := W3.s_law_made) (ps := ["_law_world_here"]) KX G ?a_law_made ?l_law_made ?c_law_made ?k_law_made (fun fd F => F.binds (ps := ["_law_world_here"]) fun _ _ _ _ _ _ us hl => match us, hl with | [_], _ => rfl) ?_
    (case a_law_made => k_is); (case l_law_made => k_is); (case c_law_made => k_is); (case k_law_made => k_is)
    intro f_law_made d_law_made D_law_made
    refine' W3.with_dn (x := "_law_number") (st := W3.s_law_number) (ps := ["_law_number_here"]) KX G ?a_law_number ?l_law_number ?c_law_number ?k_law_number (fun fd F => F.binds (ps := ["_law_number_here"]) fun _ _ _ _ _ _ us hl => match us, hl with | [_], _ => rfl) ?_
    (case a_law_number => k_is); (case l_law_number => k_is); (case c_law_number => k_is); (case k_law_number => k_is)
    intro f_law_number d_law_number D_law_number
    refine' W3.with_dn (x := "_law_refused") (st := W3.s_law_refused) (ps := ["_law_mode", "_law_number_here", "_law_slow", "_law_place"]) KX G ?a_law_refused ?l_law_refused ?c_law_refused ?k_law_refused (fun fd F => F.binds (ps := ["_law_mode", "_law_number_here", "_law_slow", "_law_place"]) fun _ _ _ _ _ _ us hl => match us, hl with | [_, _, _, _], _ => rfl) ?_
    (case a_law_refused => k_is); (case l_law_refused => k_is); (case c_law_refused => k_is); (case k_law_refused => k_is)
    intro f_law_refused d_law_refused D_law_refused
    refine' W3.with_dn (x := "_law_joined") (st := W3.s_law_joined) (ps := ["_law_one", "_law_other"]) KX G ?a_law_joined ?l_law_joined ?c_law_joined ?k_law_joined (fun fd F => F.binds (ps := ["_law_one", "_law_other"]) fun _ _ _ _ _ _ us hl => match us, hl with | [_, _], _ => rfl) ?_
    (case a_law_joined => k_is); (case l_law_joined => k_is); (case c_law_joined => k_is); (case k_law_joined => k_is)
    intro f_law_joined d_law_joined D_law_joined
    refine' W3.with_dn (x := "law") (st := W3.s_law) (ps := ["_law_script"]) KX G ?a_law ?l_law ?c_law ?k_law (fun fd F => F.binds (ps := ["_law_script"]) fun _ _ _ _ _ _ us hl => match us, hl with | [_], _ => rfl) ?_
    (case a_law => k_is); (case l_law => k_is); (case c_law => k_is); (case k_law => k_is)
    intro f_law d_law D_law
    refine' W3.with_wall KX G ?w_aC ?w_pg ?w_hd ?w_po ?w_sa ?w_n1 ?w_n2 ?w_n3 ?w_n4 ?w_n5 ?w_ha ?w_hn ?w_htk ?w_hm ?w_kT1 ?w_kT2 ?w_kT4 ?w_mk ?w_kc ?w_nF ?w_sF ?w_aI ?w_iI ?w_lI ?w_cI ?w_kI ?w_tI ?w_dI ?w_vI ?w_q1 ?w_r1 ?w_q2 ?w_r2 ?w_q3 ?w_r3 ?w_q4 ?w_r4 ?w_ae ?w_ie ?w_le ?w_ce ?w_ke ?w_ao ?w_io ?w_lo ?w_co ?w_ko ?w_am ?w_im ?w_lm ?w_cm ?w_km ?w_bp1 ?w_gp1 ?w_tp1 ?w_ep1 ?w_lp1 ?w_cp1 ?w_kp1 ?w_bp2 ?w_gp2 ?w_tp2 ?w_ep2 ?w_lp2 ?w_cp2 ?w_kp2 ?w_bp3 ?w_gp3 ?w_tp3 ?w_ep3 ?w_lp3 ?w_cp3 ?w_kp3 ?w_bp4 ?w_gp4 ?w_tp4 ?w_ep4 ?w_lp4 ?w_cp4 ?w_kp4 ?w_bp5 ?w_gp5 ?w_tp5 ?w_ep5 ?w_lp5 ?w_cp5 ?w_kp5 ?w_aCI ?w_xCI ?w_kCI ?w_bCI ?w_tCI ?w_dCI ?w_sCI ?w_aCE ?w_xCE ?w_kCE ?w_bCE ?w_tCE ?w_dCE ?w_sCE ?w_aCA ?w_zg ?w_zk ?w_za ?w_zm ?w_zA1 ?w_zA2 ?w_zA3 ?w_zA4 ?w_aM_ ?w_lM ?w_clM ?w_dM ?w_szM ?w_vM ?w_aT ?w_z_type ?w_z_int ?w_z_str ?w_z_bool ?w_z_dict ?w_z_list ?w_z_tuple ?w_z_len ?w_z_range ?w_z_max ?w_z_isinstance ?_
    (case w_aC => k_is)
    (case w_pg => k_is)
    (case w_hd => k_is)
    (case w_po => k_is)
    (case w_sa => k_is)
    (case w_n1 => k_is)
    (case w_n2 => k_is)
    (case w_n3 => k_is)
    (case w_n4 => k_is)
    (case w_n5 => k_is)
    (case w_ha => k_is)
    (case w_hn => k_is)
    (case w_htk => k_is)
    (case w_hm => k_is)
    (case w_kT1 => k_is)
    (case w_kT2 => k_is)
    (case w_kT4 => k_is)
    (case w_mk => k_is)
    (case w_kc => k_is)
    (case w_nF => k_is)
    (case w_sF => k_is)
    (case w_aI => k_is)
    (case w_iI => k_is)
    (case w_lI => k_is)
    (case w_cI => k_is)
    (case w_kI => k_is)
    (case w_tI => k_is)
    (case w_dI => rfl)
    (case w_vI => exact .cons ⟨_, rfl⟩ .nil)
    (case w_q1 => k_is)
    (case w_r1 => exact ⟨_, rfl⟩)
    (case w_q2 => k_is)
    (case w_r2 => exact ⟨_, rfl⟩)
    (case w_q3 => k_is)
    (case w_r3 => exact rfl)
    (case w_q4 => k_is)
    (case w_r4 => exact rfl)
    (case w_ae => k_is)
    (case w_ie => k_is)
    (case w_le => k_is)
    (case w_ce => k_is)
    (case w_ke => k_is)
    (case w_ao => k_is)
    (case w_io => k_is)
    (case w_lo => k_is)
    (case w_co => k_is)
    (case w_ko => k_is)
    (case w_am => k_is)
    (case w_im => k_is)
    (case w_lm => k_is)
    (case w_cm => k_is)
    (case w_km => k_is)
    (case w_bp1 => k_is)
    (case w_gp1 => k_is)
    (case w_tp1 => k_is)
    (case w_ep1 => k_is)
    (case w_lp1 => k_is)
    (case w_cp1 => k_is)
    (case w_kp1 => k_is)
    (case w_bp2 => k_is)
    (case w_gp2 => k_is)
    (case w_tp2 => k_is)
    (case w_ep2 => k_is)
    (case w_lp2 => k_is)
    (case w_cp2 => k_is)
    (case w_kp2 => k_is)
    (case w_bp3 => k_is)
    (case w_gp3 => k_is)
    (case w_tp3 => k_is)
    (case w_ep3 => k_is)
    (case w_lp3 => k_is)
    (case w_cp3 => k_is)
    (case w_kp3 => k_is)
    (case w_bp4 => k_is)
    (case w_gp4 => k_is)
    (case w_tp4 => k_is)
    (case w_ep4 => k_is)
    (case w_lp4 => k_is)
    (case w_cp4 => k_is)
    (case w_kp4 => k_is)
    (case w_bp5 => k_is)
    (case w_gp5 => k_is)
    (case w_tp5 => k_is)
    (case w_ep5 => k_is)
    (case w_lp5 => k_is)
    (case w_cp5 => k_is)
    (case w_kp5 => k_is)
    (case w_aCI => k_is)
    (case w_xCI => k_exc)
    (case w_kCI => k_is)
    (case w_bCI => k_is)
    (case w_tCI => k_is)
    (case w_dCI => k_is)
    (case w_sCI => first | rfl | k_is)
    (case w_aCE => k_is)
    (case w_xCE => k_exc)
    (case w_kCE => k_is)
    (case w_bCE => k_is)
    (case w_tCE => k_is)
    (case w_dCE => k_is)
    (case w_sCE => first | rfl | k_is)
    (case w_aCA => k_is)
    (case w_zg => k_is)
    (case w_zk => k_is)
    (case w_za => k_is)
    (case w_zm => k_is)
    (case w_zA1 => k_is)
    (case w_zA2 => k_is)
    (case w_zA3 => rfl)
    (case w_zA4 => k_is)
    (case w_aM_ => k_is)
    (case w_lM => k_is)
    (case w_clM => rfl)
    (case w_dM => rfl)
    (case w_szM => decide)
    (case w_vM => exact .cons ⟨_, rfl⟩ (.cons ⟨_, rfl⟩ .nil))
    (case w_aT => k_is)
    (case w_z_type => k_is)
    (case w_z_int => k_is)
    (case w_z_str => k_is)
    (case w_z_bool => k_is)
    (case w_z_dict => k_is)
    (case w_z_list => k_is)
    (case w_z_tuple => k_is)
    (case w_z_len => k_is)
    (case w_z_range => k_is)
    (case w_z_max => k_is)
    (case w_z_isinstance => k_is)
    intro C CI CE CA fI fe fo fm p1 p2 p3 p4 p5 g1 g2 g3 g4 g5 fdI fde fdo fdm gd1 gd2 gd3 gd4 gd5 L
    have e := hmg.symm.trans D_law.g
    cases e
    have Ev : W3.Env _ mg C CI fI f_is_mode f_is_bound f_is_number fdI d_is_mode d_is_bound d_is_number := ⟨L.T, L.G, L.W, L.X, D_is_mode, D_is_bound, D_is_number, L.I⟩
    exact ⟨d_law, W3.law_binds D_law.F, fun base _ _ => W3.ok_law D_law.F ⟨Ev, L.Wi, D_greater_bound, D_is_at_most, L.XE, L.XEd, L.XEs, L.XI, L.gA, L.O, L.E, L.Et, L.mi, L.P1, L.P2, L.P3, L.P4, L.P5, D_law_mix, D_law_next, D_law_alike, D_law_world, D_law_made, D_law_number, D_law_refused, D_law_joined⟩⟩
